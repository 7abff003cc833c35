package tests

import (
	"slices"
	"testing"

	"loop.example/g01083/impl"
)

// arrowsFromTo lists the arrows with these ends.
func arrowsFromTo(c impl.Category, x, y int64) []int64 {
	var found []int64
	for f := range c.From {
		if c.From[f] == x && c.To[f] == y {
			found = append(found, int64(f))
		}
	}
	return found
}

// beforeParallel has, without a table, one arrow from 0 to 0 beside the identity and two from 0 to 1.
func beforeParallel() impl.Category {
	return impl.Category{Objects: 2, From: list(0, 0, 0, 0, 1), To: list(0, 0, 1, 1, 1), Identity: list(0, 4)}
}

// forAllTables calls visit with all tables of composites for the objects and arrows of c.
func forAllTables(c impl.Category, visit func(c impl.Category)) {
	n := int64(len(c.From))
	c.Composites = nil
	for range n {
		c.Composites = append(c.Composites, repeat(-1, int(n)))
	}
	var fill func(place int64)
	fill = func(place int64) {
		if place == n*n {
			visit(c)
			return
		}
		f, g := place/n, place%n
		if c.To[f] != c.From[g] {
			fill(place + 1)
			return
		}
		for _, composite := range arrowsFromTo(c, c.From[f], c.To[g]) {
			c.Composites[f][g] = composite
			fill(place + 1)
		}
	}
	fill(0)
}

// faultByDefinition is what FirstFault has to return for the shape of a category.
func faultByDefinition(c impl.Category) []int64 {
	n := int64(len(c.From))
	then := func(f, g int64) int64 { return c.Composites[f][g] }
	for f := range n {
		if then(c.Identity[c.From[f]], f) != f || then(f, c.Identity[c.To[f]]) != f {
			return list(impl.FaultIdentity, f, 0, 0)
		}
	}
	for number := range n * n * n {
		f, g, h := number/(n*n), number/n%n, number%n
		if c.To[f] == c.From[g] && c.To[g] == c.From[h] && then(then(f, g), h) != then(f, then(g, h)) {
			return list(impl.FaultAssociative, f, g, h)
		}
	}
	return list(impl.FaultNone, 0, 0, 0)
}

// checkLaws checks with the functions of the chapter that composites are associative and have the
// identities as units.
func checkLaws(t *testing.T, label string, c impl.Category) {
	t.Helper()
	n := int64(len(c.From))
	then := func(f, g int64) int64 {
		composite, code := impl.CompositeOf(c, f, g)
		if code != impl.ErrNone {
			t.Fatalf("%s: CompositeOf of %d and %d returns code %d", label, f, g, code)
		}
		return composite
	}
	for f := range n {
		if then(c.Identity[c.From[f]], f) != f || then(f, c.Identity[c.To[f]]) != f {
			t.Fatalf("%s: %d has no identities as units in %v", label, f, c)
		}
	}
	for number := range n * n * n {
		f, g, h := number/(n*n), number/n%n, number%n
		if c.To[f] != c.From[g] || c.To[g] != c.From[h] {
			continue
		}
		both := then(then(f, g), h)
		if both != then(f, then(g, h)) {
			t.Fatalf("%s: %d, %d and %d are not associative in %v", label, f, g, h, c)
		}
		one(impl.PathComposite(c, c.From[f], list(f, g, h))).is(t, both)
	}
}

// TestPromise2InAllTables goes through all tables of small shapes: the functions answer only for
// those with the laws.
func TestPromise2InAllTables(t *testing.T) {
	for _, s := range []struct {
		label string
		c     impl.Category
		laws  int
	}{
		{"no arrows", impl.Category{}, 1},
		{"one arrow", discrete(1), 1},
		{"two arrows", cyclic(2), 2},
		{"two arrows, the identity last", changed(cyclic(2), func(c *impl.Category) { c.Identity[0] = 1 }), 2},
		{"three arrows", cyclic(3), 11},
		{"three arrows, the identity in between", changed(cyclic(3), func(c *impl.Category) { c.Identity[0] = 1 }), 11},
		{"long chain", longChain(), 1},
		{"parallel arrows", parallel(), 1},
		{"retract", retract(), 1},
		{"an arrow before parallel ones", beforeParallel(), 5},
	} {
		laws := 0
		forAllTables(s.c, func(c impl.Category) {
			if checkTable(t, s.label, c) {
				laws++
			}
		})
		if laws != s.laws {
			t.Errorf("%s: %d tables are categories, want %d", s.label, laws, s.laws)
		}
	}
}

// checkTable checks the functions for a table of the shape of a category, and reports whether it is
// one.
func checkTable(t *testing.T, label string, c impl.Category) bool {
	t.Helper()
	want := faultByDefinition(c)
	kind, f, g, h, code := impl.FirstFault(c)
	if code != impl.ErrNone || !slices.Equal(list(kind, f, g, h), want) {
		t.Fatalf("%s: FirstFault(%v) returns %v with code %d, want %v", label, c, list(kind, f, g, h), code, want)
	}
	isOne := kind == impl.FaultNone
	expect(t, label, impl.IsShape(c), true)
	expect(t, label, impl.IsCategory(c), isOne)
	if isOne {
		checkLaws(t, label, c)
	} else {
		one(impl.CompositeOf(c, 0, 0)).fails(t, impl.ErrInvalid)
		one(impl.SubcategoryOf(c, nil)).fails(t, impl.ErrInvalid)
	}
	return isOne
}

// TestPromise2AfterOneChange changes each entry of larger tables in turn.
func TestPromise2AfterOneChange(t *testing.T) {
	for _, s := range samples() {
		for f, row := range s.c.Composites {
			for g := range row {
				if s.c.To[f] != s.c.From[g] {
					continue
				}
				for _, composite := range arrowsFromTo(s.c, s.c.From[f], s.c.To[g]) {
					checkTable(t, s.label, changed(s.c, func(c *impl.Category) { c.Composites[f][g] = composite }))
				}
			}
		}
	}
}

// sublists lists all ascending lists of numbers less than n.
func sublists(n int64) [][]int64 {
	if n == 0 {
		return lists(nil)
	}
	var all [][]int64
	for _, shorter := range sublists(n - 1) {
		all = append(all, shorter, append(slices.Clone(shorter), n-1))
	}
	return all
}

// isSubcategoryByDefinition is for an ascending list of arrows.
func isSubcategoryByDefinition(c impl.Category, arrows []int64) bool {
	for _, f := range arrows {
		if !slices.Contains(arrows, c.Identity[c.From[f]]) || !slices.Contains(arrows, c.Identity[c.To[f]]) {
			return false
		}
		for _, g := range arrows {
			if c.To[f] == c.From[g] && !slices.Contains(arrows, c.Composites[f][g]) {
				return false
			}
		}
	}
	return true
}

func TestPromise2InSubcategories(t *testing.T) {
	for _, s := range samples() {
		checkLaws(t, s.label, s.c)
		for _, arrows := range sublists(int64(len(s.c.From))) {
			want := isSubcategoryByDefinition(s.c, arrows)
			one(impl.IsSubcategory(s.c, arrows)).is(t, want)
			if want {
				checkSubcategory(t, s.label, s.c, arrows)
			} else {
				one(impl.SubcategoryOf(s.c, arrows)).fails(t, impl.ErrState)
			}
		}
	}
}

// checkSubcategory checks that a subcategory has the laws and the composites of c.
func checkSubcategory(t *testing.T, label string, c impl.Category, arrows []int64) {
	t.Helper()
	part, code := impl.SubcategoryOf(c, arrows)
	if code != impl.ErrNone || !impl.IsCategory(part) || len(part.From) != len(arrows) {
		t.Fatalf("%s: SubcategoryOf of %v returns %v with code %d", label, arrows, part, code)
	}
	checkLaws(t, label, part)
	var objects []int64
	for x, e := range c.Identity {
		if slices.Contains(arrows, e) {
			objects = append(objects, int64(x))
		}
	}
	one(part.Objects, impl.ErrNone).is(t, len(objects))
	for x, e := range part.Identity {
		one(arrows[e], impl.ErrNone).is(t, c.Identity[objects[x]])
	}
	for i, f := range arrows {
		one(list(objects[part.From[i]], objects[part.To[i]]), impl.ErrNone).is(t, list(c.From[f], c.To[f]))
		for j, g := range arrows {
			if c.To[f] == c.From[g] {
				one(arrows[part.Composites[i][j]], impl.ErrNone).is(t, c.Composites[f][g])
			}
		}
	}
}

func TestFullSubcategoriesByDefinition(t *testing.T) {
	for _, s := range samples() {
		for _, objects := range sublists(s.c.Objects) {
			var arrows []int64
			for f := range s.c.From {
				if slices.Contains(objects, s.c.From[f]) && slices.Contains(objects, s.c.To[f]) {
					arrows = append(arrows, int64(f))
				}
			}
			part, code := impl.SubcategoryOf(s.c, arrows)
			if code != impl.ErrNone {
				t.Fatalf("%s: SubcategoryOf of %v returns code %d", s.label, arrows, code)
			}
			one(impl.FullSubcategory(s.c, objects)).is(t, part)
			checkLaws(t, s.label, part)
		}
	}
}

func TestGeneratedArrowsAreTheLeast(t *testing.T) {
	for _, s := range samples() {
		all := sublists(int64(len(s.c.From)))
		var parts [][]int64
		for _, arrows := range all {
			if isSubcategoryByDefinition(s.c, arrows) {
				parts = append(parts, arrows)
			}
		}
		for _, arrows := range all {
			want := leastAround(parts, arrows)
			one(impl.GeneratedArrows(s.c, arrows)).is(t, want)
			mixed := slices.Concat(arrows, arrows)
			slices.Reverse(mixed)
			one(impl.GeneratedArrows(s.c, mixed)).is(t, want)
		}
	}
}

// leastAround returns what all those parts share that have all arrows of a list.
func leastAround(parts [][]int64, arrows []int64) []int64 {
	var least []int64
	isFirst := true
	for _, part := range parts {
		misses := func(f int64) bool { return !slices.Contains(part, f) }
		if slices.ContainsFunc(arrows, misses) {
			continue
		}
		if isFirst {
			least, isFirst = slices.Clone(part), false
		}
		least = slices.DeleteFunc(least, misses)
	}
	return least
}

func TestKindsOfCategoriesByDefinition(t *testing.T) {
	for _, s := range samples() {
		var irreducible []int64
		isThin, isGroupoid := true, true
		n := int64(len(s.c.From))
		isIdentity := func(f int64) bool { return slices.Contains(s.c.Identity, f) }
		for f := range n {
			isReducible, isInvertible := isIdentity(f), false
			for g := range n {
				isThin = isThin && (f == g || s.c.From[f] != s.c.From[g] || s.c.To[f] != s.c.To[g])
				isInvertible = isInvertible || isIdentity(s.c.Composites[f][g]) && isIdentity(s.c.Composites[g][f])
				for h := range n {
					isReducible = isReducible || !isIdentity(g) && !isIdentity(h) && s.c.Composites[g][h] == f
				}
			}
			isGroupoid = isGroupoid && isInvertible
			if !isReducible {
				irreducible = append(irreducible, f)
			}
		}
		one(impl.IrreducibleArrows(s.c)).is(t, irreducible)
		expectAnswer(t, s, impl.IsThin, isThin)
		expectAnswer(t, s, impl.IsGroupoid, isGroupoid)
	}
}

func TestHomSetsAndConnectedObjectsByDefinition(t *testing.T) {
	for _, s := range samples() {
		var pairs [][]int64
		for x := range s.c.Objects {
			for y := range s.c.Objects {
				hom := arrowsFromTo(s.c, x, y)
				one(impl.HomSet(s.c, x, y)).is(t, hom)
				if len(hom) > 0 {
					pairs = append(pairs, list(x, y))
				}
			}
		}
		p, code := impl.ConnectedObjects(s.c)
		checkFinest(t, p, code, s.c.Objects, pairs)
	}
}
