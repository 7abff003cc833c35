package tests

import (
	"slices"
	"testing"

	"loop.example/g01083/impl"
)

// arrowsThat lists all arrows for which a question is answered by true.
func arrowsThat(c impl.Category, isWanted func(f int64) bool) []int64 {
	return slices.DeleteFunc(counting(int64(len(c.From))), func(f int64) bool { return !isWanted(f) })
}

// areJointlyMonoByDefinition is for arrows from one object.
func areJointlyMonoByDefinition(c impl.Category, arrows ...int64) bool {
	x := c.From[arrows[0]]
	for g := range c.From {
		for h := range c.From {
			if g == h || c.To[g] != x || c.To[h] != x || c.From[g] != c.From[h] {
				continue
			}
			if !slices.ContainsFunc(arrows, func(f int64) bool { return c.Composites[g][f] != c.Composites[h][f] }) {
				return false
			}
		}
	}
	return true
}

// areJointlyEpiByDefinition is for arrows to one object.
func areJointlyEpiByDefinition(c impl.Category, arrows ...int64) bool {
	x := c.To[arrows[0]]
	for g := range c.From {
		for h := range c.From {
			if g == h || c.From[g] != x || c.From[h] != x || c.To[g] != c.To[h] {
				continue
			}
			if !slices.ContainsFunc(arrows, func(f int64) bool { return c.Composites[f][g] != c.Composites[f][h] }) {
				return false
			}
		}
	}
	return true
}

func retractionsByDefinition(c impl.Category, f int64) []int64 {
	return arrowsThat(c, func(g int64) bool {
		return c.From[g] == c.To[f] && c.To[g] == c.From[f] && c.Composites[f][g] == c.Identity[c.From[f]]
	})
}

func sectionsByDefinition(c impl.Category, f int64) []int64 {
	return arrowsThat(c, func(g int64) bool {
		return c.From[g] == c.To[f] && c.To[g] == c.From[f] && c.Composites[g][f] == c.Identity[c.To[f]]
	})
}

func liftsByDefinition(c impl.Category, f, g int64) []int64 {
	return arrowsThat(c, func(h int64) bool { return c.To[h] == c.From[g] && c.Composites[h][g] == f })
}

func extensionsByDefinition(c impl.Category, f, g int64) []int64 {
	return arrowsThat(c, func(h int64) bool { return c.To[g] == c.From[h] && c.Composites[g][h] == f })
}

// powerCycleByDefinition is for arrows from an object to itself.
func powerCycleByDefinition(c impl.Category, f int64) (int64, int64) {
	power := func(exponent int64) int64 {
		composite := c.Identity[c.From[f]]
		for range exponent {
			composite = c.Composites[composite][f]
		}
		return composite
	}
	for i := int64(1); ; i++ {
		for k := int64(1); k <= int64(len(c.From)); k++ {
			if power(i+k) == power(i) {
				return i, k
			}
		}
	}
}

// classesByDefinition goes through an ascending list of arrows, and takes each one that is in no
// class yet together with all those that are below it and it below them.
func classesByDefinition(arrows []int64, isBelow func(m, n int64) bool) [][]int64 {
	var classes [][]int64
	taken := map[int64]bool{}
	for _, m := range arrows {
		if taken[m] {
			continue
		}
		var class []int64
		for _, n := range arrows {
			if isBelow(m, n) && isBelow(n, m) {
				class = append(class, n)
				taken[n] = true
			}
		}
		classes = append(classes, class)
	}
	return classes
}

func subobjectsByDefinition(c impl.Category, x int64) [][]int64 {
	monos := arrowsThat(c, func(f int64) bool { return c.To[f] == x && areJointlyMonoByDefinition(c, f) })
	return classesByDefinition(monos, func(m, n int64) bool { return len(liftsByDefinition(c, m, n)) > 0 })
}

func quotientsByDefinition(c impl.Category, x int64) [][]int64 {
	epis := arrowsThat(c, func(f int64) bool { return c.From[f] == x && areJointlyEpiByDefinition(c, f) })
	return classesByDefinition(epis, func(e, d int64) bool { return len(extensionsByDefinition(c, e, d)) > 0 })
}

// kindSamples are the samples and further categories with many kinds of arrows.
func kindSamples() []sample {
	return append(samples(),
		sample{"sets of 1 and 2", sets(1, 2)}, sample{"sets of 0, 1 and 2", sets(0, 1, 2)}, sample{"sets of 1 and 3", sets(1, 3)},
		sample{"two sets of 2", sets(0, 2, 2)}, sample{"projections", projections()}, sample{"no commuting", noncommuting()},
		sample{"powers", powers(3, 2)}, sample{"more powers", powers(7, 6)}, sample{"identity last", identityLast()},
		sample{"paths", mixedPaths()}, sample{"three steps", threeSteps()}, sample{"as many arrows as possible", largest()},
		sample{"three copies of one", sum(retract(), sum(retract(), retract()))},
	)
}

// checkKinds checks all that the chapter says of single arrows, and the implications of promise 5.
func checkKinds(t *testing.T, label string, c impl.Category) {
	t.Helper()
	var kinds []int64
	isBalanced := true
	for f := range int64(len(c.From)) {
		isMono, isEpi := areJointlyMonoByDefinition(c, f), areJointlyEpiByDefinition(c, f)
		retractions, sections := retractionsByDefinition(c, f), sectionsByDefinition(c, f)
		inverses := slices.DeleteFunc(slices.Clone(retractions), func(g int64) bool { return !slices.Contains(sections, g) })
		one(impl.IsMono(c, f)).is(t, isMono)
		one(impl.IsEpi(c, f)).is(t, isEpi)
		one(impl.RetractionsOf(c, f)).is(t, retractions)
		one(impl.SectionsOf(c, f)).is(t, sections)
		one(impl.IsIso(c, f)).is(t, len(inverses) == 1)
		if len(inverses) == 1 {
			one(impl.InverseArrow(c, f)).is(t, inverses[0])
		} else {
			one(impl.InverseArrow(c, f)).fails(t, impl.ErrNotFound)
		}
		checkAlone(t, label, c, f)
		isBalanced = isBalanced && (!isMono || !isEpi || len(inverses) == 1)
		kinds = append(kinds, 0)
		for i, has := range []bool{isMono, isEpi, len(retractions) > 0, len(sections) > 0, len(inverses) == 1} {
			if has {
				kinds[f] += list(1, 2, 4, 8, 16)[i]
			}
		}
	}
	one(impl.ArrowKinds(c)).is(t, kinds)
	one(impl.IsBalanced(c)).is(t, isBalanced)
}

// checkAlone checks with the functions alone that an arrow with a retraction is a monomorphism, that
// one with a section is an epimorphism, and that each kind is the joint one of the arrow alone.
func checkAlone(t *testing.T, label string, c impl.Category, f int64) {
	t.Helper()
	isMono, _ := impl.IsMono(c, f)
	isEpi, _ := impl.IsEpi(c, f)
	retractions, _ := impl.RetractionsOf(c, f)
	sections, _ := impl.SectionsOf(c, f)
	isIso, _ := impl.IsIso(c, f)
	expect(t, label+": retractions make monomorphisms", len(retractions) == 0 || isMono, true)
	expect(t, label+": sections make epimorphisms", len(sections) == 0 || isEpi, true)
	expect(t, label+": both make isomorphisms", isIso, len(retractions) > 0 && len(sections) > 0)
	for _, g := range retractions {
		one(impl.CompositeOf(c, f, g)).is(t, c.Identity[c.From[f]])
		one(impl.IsEpi(c, g)).is(t, true)
	}
	for _, g := range sections {
		one(impl.CompositeOf(c, g, f)).is(t, c.Identity[c.To[f]])
		one(impl.IsMono(c, g)).is(t, true)
	}
	for _, times := range []int{1, 2, 7} {
		one(impl.IsJointlyMono(c, repeat(f, times))).is(t, isMono)
		one(impl.IsJointlyEpi(c, repeat(f, times))).is(t, isEpi)
	}
}

func TestPromise5KindsOfArrows(t *testing.T) {
	for _, s := range kindSamples() {
		checkKinds(t, s.label, s.c)
		checkKinds(t, "the opposite of "+s.label, opposite(s.c))
	}
}

// TestPromise5InAllTables goes through all categories with small tables.
func TestPromise5InAllTables(t *testing.T) {
	for _, c := range []impl.Category{
		cyclic(3), changed(cyclic(3), func(c *impl.Category) { c.Identity[0] = 1 }), beforeParallel(), opposite(parallel()), retract(), indiscrete(2),
	} {
		forAllTables(c, func(c impl.Category) {
			if faultByDefinition(c)[0] == impl.FaultNone {
				checkKinds(t, "table", c)
				checkOpposite(t, "table", c)
			}
		})
	}
}

// checkOpposite checks that all that the chapter defines in two ways changes places in the opposite
// category.
func checkOpposite(t *testing.T, label string, c impl.Category) {
	t.Helper()
	other, code := impl.OppositeCategory(c)
	if code != impl.ErrNone {
		t.Fatalf("%s: OppositeCategory returns code %d", label, code)
	}
	for _, way := range [][2]impl.Category{{c, other}, {other, c}} {
		for x := range c.Objects {
			subobjects, code := impl.SubobjectsOf(way[0], x)
			one(subobjects, code).is(t, subobjectsByDefinition(way[0], x))
			one(impl.QuotientsOf(way[1], x)).is(t, subobjects)
			one(impl.QuotientsOf(way[0], x)).is(t, quotientsByDefinition(way[0], x))
		}
		for f := range int64(len(c.From)) {
			isMono, code := impl.IsMono(way[0], f)
			one(isMono, code).is(t, areJointlyEpiByDefinition(way[1], f))
			one(impl.IsEpi(way[1], f)).is(t, isMono)
			retractions, code := impl.RetractionsOf(way[0], f)
			one(retractions, code).is(t, sectionsByDefinition(way[1], f))
			one(impl.SectionsOf(way[1], f)).is(t, retractions)
		}
	}
}

func TestPromise5Opposite(t *testing.T) {
	for _, s := range kindSamples() {
		checkOpposite(t, s.label, s.c)
	}
}

func TestPromise5LiftsAndExtensions(t *testing.T) {
	for _, s := range kindSamples() {
		for f := range int64(len(s.c.From)) {
			for g := range int64(len(s.c.From)) {
				if s.c.To[f] == s.c.To[g] {
					one(impl.LiftsOf(s.c, f, g)).is(t, liftsByDefinition(s.c, f, g))
				} else {
					one(impl.LiftsOf(s.c, f, g)).fails(t, impl.ErrState)
				}
				if s.c.From[f] == s.c.From[g] {
					one(impl.ExtensionsOf(s.c, f, g)).is(t, extensionsByDefinition(s.c, f, g))
				} else {
					one(impl.ExtensionsOf(s.c, f, g)).fails(t, impl.ErrState)
				}
			}
		}
	}
}

func TestPromise5Powers(t *testing.T) {
	for _, s := range kindSamples() {
		for f := range int64(len(s.c.From)) {
			if s.c.From[f] != s.c.To[f] {
				one(impl.IsIdempotent(s.c, f)).is(t, false)
				two(impl.PowerCycle(s.c, f)).fails(t, impl.ErrState)
				continue
			}
			start, period := powerCycleByDefinition(s.c, f)
			one(impl.IsIdempotent(s.c, f)).is(t, s.c.Composites[f][f] == f)
			two(impl.PowerCycle(s.c, f)).is(t, start, period)
		}
	}
}

// haveOne reports whether a list of arrows is not empty, and all have the same object at one end.
func haveOne(arrows, ends []int64) bool {
	for _, f := range arrows {
		if ends[f] != ends[arrows[0]] {
			return false
		}
	}
	return len(arrows) > 0
}

// families are lists of arrows: all sets of arrows if these are few, and all pairs otherwise.
func families(c impl.Category) [][]int64 {
	n := int64(len(c.From))
	if n <= 9 {
		return sublists(n)
	}
	var pairs [][]int64
	for f := range n {
		for g := range n {
			pairs = append(pairs, list(f, g))
		}
	}
	return pairs
}

func TestPromise5Families(t *testing.T) {
	for _, s := range kindSamples() {
		for _, c := range []impl.Category{s.c, opposite(s.c)} {
			for _, arrows := range families(c) {
				if haveOne(arrows, c.From) {
					one(impl.IsJointlyMono(c, arrows)).is(t, areJointlyMonoByDefinition(c, arrows...))
				} else {
					one(impl.IsJointlyMono(c, arrows)).fails(t, impl.ErrState)
				}
				if haveOne(arrows, c.To) {
					one(impl.IsJointlyEpi(c, arrows)).is(t, areJointlyEpiByDefinition(c, arrows...))
				} else {
					one(impl.IsJointlyEpi(c, arrows)).fails(t, impl.ErrState)
				}
			}
		}
	}
}
