package tests

import (
	"slices"
	"testing"

	"loop.example/g01083/impl"
)

// forAllOrders calls visit with all orders of 0, 1, .., n - 1.
func forAllOrders(n int, visit func(order []int64)) {
	order := make([]int64, n)
	var fill func(place int)
	fill = func(place int) {
		if place == n {
			visit(order)
			return
		}
		for number := range int64(n) {
			if !slices.Contains(order[:place], number) {
				order[place] = number
				fill(place + 1)
			}
		}
	}
	fill(0)
}

// isomorphismsByDefinition lists all isomorphisms from c to d, by trying all bijections with the right ends.
func isomorphismsByDefinition(c, d impl.Category) []impl.Functor {
	var found []impl.Functor
	if c.Objects != d.Objects || len(c.From) != len(d.From) {
		return nil
	}
	forAllOrders(int(c.Objects), func(objects []int64) {
		arrows := make([]int64, len(c.From))
		var fill func(a int)
		fill = func(a int) {
			if a == len(arrows) {
				if f := mapped(c, d, slices.Clone(objects), slices.Clone(arrows)); isFunctorByDefinition(f) {
					found = append(found, f)
				}
				return
			}
			for _, image := range arrowsFromTo(d, objects[c.From[a]], objects[c.To[a]]) {
				if !slices.Contains(arrows[:a], image) {
					arrows[a] = image
					fill(a + 1)
				}
			}
		}
		fill(0)
	})
	return found
}

func isOrderedByDefinition(c impl.Category) bool {
	var ends [][]int64
	for f := range c.From {
		ends = append(ends, list(c.From[f], c.To[f]))
	}
	for x := range c.Objects {
		if arrowsFromTo(c, x, x)[0] != c.Identity[x] {
			return false
		}
	}
	return slices.IsSortedFunc(ends, slices.Compare[[]int64])
}

// codeByDefinition is the code of an ordered category.
func codeByDefinition(c impl.Category) []int64 {
	var code []int64
	for x := range c.Objects {
		for y := range c.Objects {
			code = append(code, int64(len(arrowsFromTo(c, x, y))))
		}
	}
	return append(code, slices.Concat(c.Composites...)...)
}

// forAllRenumberings calls visit with c renumbered by all bijections.
func forAllRenumberings(c impl.Category, visit func(d impl.Category, p, q []int64)) {
	forAllOrders(int(c.Objects), func(p []int64) {
		forAllOrders(len(c.From), func(q []int64) { visit(renumbered(c, p, q), p, q) })
	})
}

// renumberedSamples are the samples, each together with some renumberings of it.
func renumberedSamples() []sample {
	var all []sample
	for _, s := range append(samples(), sample{"no commuting", noncommuting()}, sample{"projections", projections()}, sample{"group behind", groupBehind(2)}) {
		n, m := int(s.c.Objects), len(s.c.From)
		all = append(all, s, sample{s.label + ", reversed", reversed(s.c)},
			sample{s.label + ", objects rotated", renumbered(s.c, rotated(n), counting(int64(m)))},
			sample{s.label + ", arrows rotated", renumbered(s.c, descending(n), rotated(m))},
			sample{s.label + ", opposite", opposite(s.c)})
	}
	return all
}

// TestPromise10Isomorphisms checks all isomorphisms between all samples, and that these are isomorphic
// exactly if their least forms are equal.
func TestPromise10Isomorphisms(t *testing.T) {
	isomorphic, different := 0, 0
	all := renumberedSamples()
	var forms []string
	for _, s := range all {
		least, code := impl.LeastForm(s.c)
		forms = append(forms, show([]any{least, code}))
	}
	for i, s := range all {
		for j, r := range all {
			want := isomorphismsByDefinition(s.c, r.c)
			one(impl.AllIsomorphisms(s.c, r.c)).is(t, want)
			expect(t, "equal least forms", forms[i] == forms[j], len(want) > 0)
			if len(want) > 0 {
				one(impl.FindIsomorphism(s.c, r.c)).is(t, want[0])
				isomorphic++
			} else {
				one(impl.FindIsomorphism(s.c, r.c)).fails(t, impl.ErrNotFound)
				different++
			}
			if t.Failed() {
				t.Fatal(s.label + " and " + r.label)
			}
		}
	}
	expect(t, "isomorphic and different samples", isomorphic > 600 && different > 10000, true)
}

// TestPromise10AllNumberings goes through all renumberings of small categories.
func TestPromise10AllNumberings(t *testing.T) {
	checked := 0
	for _, s := range renumberedSamples() {
		if len(s.c.From) > 6 {
			continue
		}
		least, code := impl.LeastForm(s.c)
		one(isOrderedByDefinition(least), code).is(t, true)
		numberings, reached := int64(0), false
		forAllRenumberings(s.c, func(d impl.Category, p, q []int64) {
			checked++
			if checked%50 == 0 {
				one(impl.RenumberCategory(s.c, p, q)).is(t, d)
				one(impl.LeastForm(d)).is(t, least)
			}
			isOrdered, code := impl.IsOrdered(d)
			one(isOrdered, code).is(t, isOrderedByDefinition(d))
			if !isOrdered {
				return
			}
			numberings++
			switch slices.Compare(codeByDefinition(d), codeByDefinition(least)) {
			case -1:
				t.Fatalf("%s: the form %v is less than the least one", s.label, d)
			case 0:
				reached = true
			}
		})
		expect(t, s.label+": a numbering gives the least form", reached, true)
		one(impl.CountNumberings(s.c)).is(t, numberings)
	}
	expect(t, "renumberings", checked > 40000, true)
}

// checkCensus counts categories by their least forms. Each form is that of as many of them as there are ways to
// number it, divided by the number of its automorphisms.
func checkCensus(t *testing.T, label string, categories []impl.Category, ways int64, forms int) {
	t.Helper()
	counts, some := map[string]int64{}, map[string]impl.Category{}
	for _, c := range categories {
		least, code := impl.LeastForm(c)
		one(impl.IsOrdered(least)).is(t, true)
		key := show([]any{least, code})
		counts[key]++
		some[key] = c
	}
	for key, c := range some {
		automorphisms, code := impl.CountAutomorphisms(c)
		one(automorphisms*counts[key], code).is(t, ways)
	}
	one(len(counts), impl.ErrNone).is(t, forms)
	if t.Failed() {
		t.Fatal(label)
	}
}

// monoidsOf lists all monoids with n elements, the first of which is the unit.
func monoidsOf(n int64) []impl.Category {
	var found []impl.Category
	forAllLists(int((n-1)*(n-1)), n, func(values []int64) {
		table := lists(counting(n))
		for i := int64(1); i < n; i++ {
			table = append(table, append(list(i), values[(i-1)*(n-1):i*(n-1)]...))
		}
		for i := range n {
			for j := range n {
				for k := range n {
					if table[table[i][j]][k] != table[i][table[j][k]] {
						return
					}
				}
			}
		}
		found = append(found, monoid(table...))
	})
	return found
}

// preordersOf lists all preorders on n elements as categories.
func preordersOf(n int64) []impl.Category {
	var found []impl.Category
	forAllLists(int(n*(n-1)), 2, func(values []int64) {
		isRelated := func(i, j int64) bool { return i == j || values[i*(n-1)+(j+n-i-1)%n] == 1 }
		for i := range n {
			for j := range n {
				for k := range n {
					if isRelated(i, j) && isRelated(j, k) && !isRelated(i, k) {
						return
					}
				}
			}
		}
		found = append(found, preorder(n, isRelated))
	})
	return found
}

// TestPromise10Census has as many least forms as there are known to be monoids and preorders.
func TestPromise10Census(t *testing.T) {
	for n, forms := range []int{1: 1, 2: 2, 3: 7, 4: 35} {
		if n > 0 {
			checkCensus(t, "monoids", monoidsOf(int64(n)), list(1, 1, 1, 2, 6)[n], forms)
		}
	}
	for n, forms := range []int{1, 1, 3, 9, 33} {
		checkCensus(t, "preorders", preordersOf(int64(n)), list(1, 1, 2, 6, 24)[n], forms)
	}
	one(list(int64(len(preordersOf(3))), int64(len(preordersOf(4)))), impl.ErrNone).is(t, list(29, 355))
}

// groupSamples have few enough automorphisms for all pairs of them.
func groupSamples() []impl.Category {
	var all []impl.Category
	for _, s := range renumberedSamples() {
		all = append(all, s.c)
	}
	for _, s := range symmetries() {
		if s.automorphisms <= 32 {
			all = append(all, s.c, reversed(s.c))
		}
	}
	return all
}

// hasFunctor reports whether a functor is one of some others.
func hasFunctor(all []impl.Functor, f impl.Functor) bool {
	return slices.ContainsFunc(all, func(other impl.Functor) bool {
		return slices.Equal(other.Objects, f.Objects) && slices.Equal(other.Arrows, f.Arrows)
	})
}

// TestPromise10Groups checks that automorphisms form a group, and that the isomorphisms to another category
// are one of them behind all automorphisms.
func TestPromise10Groups(t *testing.T) {
	pairs := 0
	for _, c := range groupSamples() {
		all, code := impl.AllIsomorphisms(c, c)
		one(impl.CountAutomorphisms(c)).is(t, int64(len(all)))
		expect(t, "the identity is an automorphism", hasFunctor(all, identityByDefinition(c)), true)
		for _, f := range all {
			back, backCode := impl.InverseFunctor(f)
			one(hasFunctor(all, back), code+backCode).is(t, true)
			for _, g := range all {
				pairs++
				expect(t, "composites are automorphisms", hasFunctor(all, then(t, f, g)), true)
			}
		}
		d := reversed(c)
		across, code := impl.AllIsomorphisms(c, d)
		one(len(across), code).is(t, len(all))
		for _, f := range all {
			expect(t, "isomorphisms are composites", hasFunctor(across, then(t, f, across[0])), true)
		}
		if t.Failed() {
			t.Fatal(show([]any{c}))
		}
	}
	expect(t, "pairs of automorphisms", pairs > 5000, true)
}

// TestPromise10Orbits checks that objects are in one class exactly if an automorphism maps one to the
// other, and that the number of automorphisms is that of the class times those that leave the object alone.
func TestPromise10Orbits(t *testing.T) {
	for _, c := range groupSamples() {
		orbits, code := impl.ObjectOrbits(c)
		all, allCode := impl.AllIsomorphisms(c, c)
		one(len(orbits), code+allCode).is(t, int(c.Objects))
		for x := range c.Objects {
			class, fixing := 0, 0
			for y := range c.Objects {
				moves := func(f impl.Functor) bool { return f.Objects[x] == y }
				expect(t, "in one class", orbits[x] == orbits[y], slices.ContainsFunc(all, moves))
				if orbits[x] == orbits[y] {
					class++
				}
			}
			for _, f := range all {
				if f.Objects[x] == x {
					fixing++
				}
			}
			one(class*fixing, code).is(t, len(all))
		}
		expect(t, "orbits are a partition", impl.IsPartition(orbits), true)
		if t.Failed() {
			t.Fatal(show([]any{c}))
		}
	}
}

// TestPromise10Renumbering checks that the bijections of a renumbering are an isomorphism, and that each
// isomorphism is a renumbering.
func TestPromise10Renumbering(t *testing.T) {
	for _, c := range append(groupSamples(), largest(), cyclic(impl.MaxArrows), chain(impl.MaxObjects)) {
		p, q := rotated(int(c.Objects)), descending(len(c.From))
		d, code := impl.RenumberCategory(c, p, q)
		one(impl.IsIsomorphism(mapped(c, d, p, q))).is(t, true)
		if len(c.From) > impl.MaxTarget {
			continue
		}
		found, foundCode := impl.FindIsomorphism(d, c)
		one(d, code+foundCode).is(t, found.Source)
		one(impl.RenumberCategory(d, found.Objects, found.Arrows)).is(t, c)
	}
}
