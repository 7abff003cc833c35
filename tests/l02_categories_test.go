package tests

import (
	"math"
	"slices"
	"testing"

	"loop.example/g01083/impl"
)

// checkCategoryErrors checks the error of a function of a category that comes before all others.
func checkCategoryErrors(t *testing.T, call func(c impl.Category) result) {
	t.Helper()
	for _, s := range append(noShapes(), lawless()...) {
		if r := call(s.c); r.code != impl.ErrInvalid {
			t.Errorf("%s: got code %d, want ErrInvalid", s.label, r.code)
		} else {
			r.fails(t, impl.ErrInvalid)
		}
	}
}

func TestCategoryConstants(t *testing.T) {
	one(list(impl.MaxObjects, impl.MaxArrows), impl.ErrNone).is(t, list(8, 40))
	one(list(impl.FaultNone, impl.FaultIdentity, impl.FaultAssociative), impl.ErrNone).is(t, list(0, 1, 2))
}

func TestIsShape(t *testing.T) {
	for _, s := range slices.Concat(samples(), lawless()) {
		expect(t, s.label, impl.IsShape(s.c), true)
	}
	expect(t, "as many objects as possible", impl.IsShape(discrete(impl.MaxObjects)), true)
	expect(t, "as many arrows as possible", impl.IsShape(cyclic(impl.MaxArrows)), true)
	expect(t, "as much as possible", impl.IsShape(largest()), true)
	for _, s := range noShapes() {
		expect(t, s.label, impl.IsShape(s.c), false)
	}
}

func TestIsCategory(t *testing.T) {
	expect(t, "the example of FirstFault", impl.IsCategory(monoid(list(0, 0), list(0, 0))), false)
	expect(t, "the example", impl.IsCategory(monoid(list(0, 1), list(1, 1))), true)
	for _, s := range samples() {
		expect(t, s.label, impl.IsCategory(s.c), true)
	}
	expect(t, "as many objects as possible", impl.IsCategory(discrete(impl.MaxObjects)), true)
	expect(t, "as many arrows as possible", impl.IsCategory(cyclic(impl.MaxArrows)), true)
	expect(t, "as much as possible", impl.IsCategory(largest()), true)
	for _, s := range slices.Concat(noShapes(), lawless()) {
		expect(t, s.label, impl.IsCategory(s.c), false)
	}
}

func TestFirstFault(t *testing.T) {
	identity, associative := int64(impl.FaultIdentity), int64(impl.FaultAssociative)
	four(impl.FirstFault(monoid(list(0, 0), list(0, 0)))).is(t, identity, 1, 0, 0)
	four(impl.FirstFault(monoid(list(0, 0), list(1, 1)))).is(t, identity, 1, 0, 0)
	four(impl.FirstFault(monoid(list(0, 1), list(0, 1)))).is(t, identity, 1, 0, 0)
	four(impl.FirstFault(monoid(list(0, 1, 2), list(1, 2, 1), list(2, 2, 2)))).is(t, associative, 1, 1, 1)
	four(impl.FirstFault(monoid(list(0, 1, 2), list(1, 1, 1), list(2, 1, 0)))).is(t, int64(impl.FaultNone), 0, 0, 0)
	for _, s := range samples() {
		four(impl.FirstFault(s.c)).is(t, int64(impl.FaultNone), 0, 0, 0)
	}
	four(impl.FirstFault(largest())).is(t, int64(impl.FaultNone), 0, 0, 0)
	for _, s := range noShapes() {
		four(impl.FirstFault(s.c)).fails(t, impl.ErrInvalid)
	}
}

func TestFirstFaultIsTheFirst(t *testing.T) {
	// The identity itself is the arrow with the fault.
	wrong := changed(cyclic(2), func(c *impl.Category) { c.Composites[0][0] = 1 })
	four(impl.FirstFault(wrong)).is(t, int64(impl.FaultIdentity), 0, 0, 0)
	// A fault of the last identity comes before those of triples of smaller arrows.
	both := monoid(list(0, 1, 2), list(1, 2, 1), list(0, 2, 2))
	four(impl.FirstFault(both)).is(t, int64(impl.FaultIdentity), 2, 0, 0)
	// In this table the arrows 1 to 3 have faults with an identity, the least one only behind it.
	several := monoid(list(0, 1, 3, 2), list(3, 1, 1, 1), list(0, 2, 2, 2), list(0, 0, 0, 0))
	four(impl.FirstFault(several)).is(t, int64(impl.FaultIdentity), 1, 0, 0)
	// 1 undoes itself here, but not the 1 that 2; 3 makes.
	triple := changed(retract(), func(c *impl.Category) { c.Composites[1][1] = 0 })
	four(impl.FirstFault(triple)).is(t, int64(impl.FaultAssociative), 1, 2, 3)
	late := changed(cyclic(impl.MaxArrows), func(c *impl.Category) { c.Composites[39][39] = 0 })
	four(impl.FirstFault(late)).is(t, int64(impl.FaultAssociative), 1, 38, 39)
}

func TestCompositeOf(t *testing.T) {
	one(impl.CompositeOf(interval(), 0, 1)).is(t, 1)
	one(impl.CompositeOf(interval(), 1, 1)).fails(t, impl.ErrState)
	one(impl.CompositeOf(interval(), 1, 2)).is(t, 1)
	one(impl.CompositeOf(interval(), 0, 0)).is(t, 0)
	one(impl.CompositeOf(longChain(), 1, 4)).is(t, 2)
	one(impl.CompositeOf(retract(), 2, 3)).is(t, 1)
	one(impl.CompositeOf(retract(), 3, 2)).is(t, 4)
	one(impl.CompositeOf(cyclic(impl.MaxArrows), 39, 39)).is(t, 38)
	one(impl.CompositeOf(cyclic(impl.MaxArrows), 39, 1)).is(t, 0)
	one(impl.CompositeOf(largest(), 39, 39)).is(t, 38)
}

func TestCompositeOfErrors(t *testing.T) {
	for _, f := range list(0, -1, math.MaxInt64) {
		checkCategoryErrors(t, func(c impl.Category) result { return one(impl.CompositeOf(c, f, 0)) })
		checkCategoryErrors(t, func(c impl.Category) result { return one(impl.CompositeOf(c, 0, f)) })
	}
	for _, bad := range noNumbers(3) {
		for f := range int64(3) {
			one(impl.CompositeOf(interval(), bad, f)).fails(t, impl.ErrRange)
			one(impl.CompositeOf(interval(), f, bad)).fails(t, impl.ErrRange)
		}
		one(impl.CompositeOf(interval(), bad, bad)).fails(t, impl.ErrRange)
	}
	one(impl.CompositeOf(impl.Category{}, 0, 0)).fails(t, impl.ErrRange)
	one(impl.CompositeOf(cyclic(impl.MaxArrows), 39, 40)).fails(t, impl.ErrRange)
	for _, pair := range lists(list(1, 0), list(2, 0), list(2, 1), list(0, 2)) {
		one(impl.CompositeOf(interval(), pair[0], pair[1])).fails(t, impl.ErrState)
	}
	one(impl.CompositeOf(largest(), 0, 39)).fails(t, impl.ErrState)
}

func TestPathComposite(t *testing.T) {
	one(impl.PathComposite(longChain(), 0, list(1, 4))).is(t, 2)
	one(impl.PathComposite(longChain(), 0, list(0, 1, 3, 3, 4, 5))).is(t, 2)
	one(impl.PathComposite(longChain(), 1, list(4))).is(t, 4)
	one(impl.PathComposite(longChain(), 2, nil)).is(t, 5)
	one(impl.PathComposite(longChain(), 1, list())).is(t, 3)
	one(impl.PathComposite(backwards(), 0, nil)).is(t, 2)
	one(impl.PathComposite(backwards(), 0, list(2, 0, 1))).is(t, 0)
	one(impl.PathComposite(retract(), 1, list(3, 2, 3, 1))).is(t, 3)
	one(impl.PathComposite(cyclic(impl.MaxArrows), 0, repeat(39, 1001))).is(t, 39)
	one(impl.PathComposite(cyclic(impl.MaxArrows), 0, repeat(1, 80))).is(t, 0)
}

func TestPathCompositeErrors(t *testing.T) {
	for _, x := range list(0, -1, math.MaxInt64) {
		checkCategoryErrors(t, func(c impl.Category) result { return one(impl.PathComposite(c, x, nil)) })
		checkCategoryErrors(t, func(c impl.Category) result { return one(impl.PathComposite(c, 0, list(x))) })
	}
	for _, bad := range noNumbers(3) {
		one(impl.PathComposite(longChain(), bad, nil)).fails(t, impl.ErrRange)
		one(impl.PathComposite(longChain(), bad, list(1, 4))).fails(t, impl.ErrRange)
		one(impl.PathComposite(longChain(), bad, list(4, 1))).fails(t, impl.ErrRange)
	}
	for _, bad := range noNumbers(6) {
		for _, path := range lists(list(bad), list(bad, 1), list(1, bad), list(1, 4, bad), list(4, bad), list(1, 1, bad)) {
			one(impl.PathComposite(longChain(), 0, path)).fails(t, impl.ErrRange)
		}
	}
	one(impl.PathComposite(impl.Category{}, 0, nil)).fails(t, impl.ErrRange)
	one(impl.PathComposite(impl.Category{}, 0, list(0))).fails(t, impl.ErrRange)
	for _, path := range lists(list(4), list(3), list(1, 1), list(1, 5), list(1, 4, 4), list(0, 4), list(2, 0)) {
		one(impl.PathComposite(longChain(), 0, path)).fails(t, impl.ErrState)
	}
	one(impl.PathComposite(longChain(), 1, list(1, 4))).fails(t, impl.ErrState)
}

func TestHomSet(t *testing.T) {
	one(impl.HomSet(interval(), 0, 1)).is(t, list(1))
	one(impl.HomSet(interval(), 1, 0)).is(t, list())
	one(impl.HomSet(interval(), 1, 1)).is(t, list(2))
	one(impl.HomSet(parallel(), 0, 1)).is(t, list(1, 2))
	one(impl.HomSet(retract(), 0, 0)).is(t, list(0, 1))
	one(impl.HomSet(cyclic(impl.MaxArrows), 0, 0)).is(t, counting(impl.MaxArrows))
	one(impl.HomSet(discrete(impl.MaxObjects), 7, 7)).is(t, list(7))
	for _, x := range list(0, -1, math.MaxInt64) {
		checkCategoryErrors(t, func(c impl.Category) result { return one(impl.HomSet(c, x, 0)) })
		checkCategoryErrors(t, func(c impl.Category) result { return one(impl.HomSet(c, 0, x)) })
	}
	for _, bad := range noNumbers(2) {
		one(impl.HomSet(interval(), bad, 0)).fails(t, impl.ErrRange)
		one(impl.HomSet(interval(), 0, bad)).fails(t, impl.ErrRange)
		one(impl.HomSet(interval(), bad, bad)).fails(t, impl.ErrRange)
	}
	one(impl.HomSet(impl.Category{}, 0, 0)).fails(t, impl.ErrRange)
	one(impl.HomSet(discrete(impl.MaxObjects), 0, impl.MaxObjects)).fails(t, impl.ErrRange)
}

// checkArrowsErrors checks the errors of a function of a category and a list of its arrows that
// come before all others.
func checkArrowsErrors(t *testing.T, call func(c impl.Category, arrows []int64) result) {
	t.Helper()
	for _, arrows := range lists(nil, list(0), list(-1), list(1, 0), list(math.MaxInt64)) {
		checkCategoryErrors(t, func(c impl.Category) result { return call(c, arrows) })
	}
	for _, bad := range noNumbers(3) {
		for _, arrows := range lists(list(bad), list(0, bad), list(bad, 2), list(1, bad), list(2, 0, bad), repeat(bad, 50)) {
			call(interval(), arrows).fails(t, impl.ErrRange)
		}
	}
	call(impl.Category{}, list(0)).fails(t, impl.ErrRange)
	call(cyclic(impl.MaxArrows), counting(impl.MaxArrows+1)).fails(t, impl.ErrRange)
}

func TestIsSubcategory(t *testing.T) {
	for _, s := range []struct {
		label  string
		c      impl.Category
		arrows []int64
		want   bool
	}{
		{"the identities", interval(), list(0, 2), true},
		{"an arrow without identities", interval(), list(1), false},
		{"an arrow without the identity of its source", interval(), list(1, 2), false},
		{"an arrow without the identity of its target", interval(), list(0, 1), false},
		{"one object", interval(), list(2), true},
		{"everything", interval(), list(0, 1, 2), true},
		{"nothing", interval(), nil, true},
		{"an empty list", interval(), list(), true},
		{"nothing of nothing", impl.Category{}, nil, true},
		{"a composite left out", longChain(), list(0, 1, 3, 4, 5), false},
		{"a part of the long chain", longChain(), list(0, 2, 5), true},
		{"descending", interval(), list(2, 0), false},
		{"not in order", interval(), list(0, 2, 1), false},
		{"an arrow twice", interval(), list(0, 0, 2), false},
		{"all arrows twice", interval(), list(0, 0, 1, 1, 2, 2), false},
		{"a subgroup", cyclic(6), list(0, 3), true},
		{"no subgroup", cyclic(6), list(0, 2), false},
		{"all that is possible", cyclic(impl.MaxArrows), counting(impl.MaxArrows), true},
		{"more than is possible", cyclic(impl.MaxArrows), append(counting(impl.MaxArrows), 39), false},
	} {
		got, code := impl.IsSubcategory(s.c, s.arrows)
		if code != impl.ErrNone || got != s.want {
			t.Errorf("%s: got %v with code %d, want %v with ErrNone", s.label, got, code, s.want)
		}
	}
	checkArrowsErrors(t, func(c impl.Category, arrows []int64) result { return one(impl.IsSubcategory(c, arrows)) })
}

func TestGeneratedArrows(t *testing.T) {
	one(impl.GeneratedArrows(interval(), list(1))).is(t, list(0, 1, 2))
	one(impl.GeneratedArrows(interval(), list(2))).is(t, list(2))
	one(impl.GeneratedArrows(interval(), nil)).is(t, list())
	one(impl.GeneratedArrows(impl.Category{}, list())).is(t, list())
	one(impl.GeneratedArrows(longChain(), list(4, 1))).is(t, counting(6))
	one(impl.GeneratedArrows(longChain(), list(4, 4, 5, 4))).is(t, list(3, 4, 5))
	one(impl.GeneratedArrows(cyclic(6), list(4))).is(t, list(0, 2, 4))
	one(impl.GeneratedArrows(cyclic(6), list(4, 3))).is(t, counting(6))
	one(impl.GeneratedArrows(retract(), list(1))).is(t, list(0, 1))
	one(impl.GeneratedArrows(retract(), list(3))).is(t, list(0, 3, 4))
	one(impl.GeneratedArrows(cyclic(impl.MaxArrows), list(39))).is(t, counting(impl.MaxArrows))
	one(impl.GeneratedArrows(largest(), list(39))).is(t, moved(counting(33), 7))
	one(impl.GeneratedArrows(interval(), repeat(1, 1000))).is(t, list(0, 1, 2))
	checkArrowsErrors(t, func(c impl.Category, arrows []int64) result { return one(impl.GeneratedArrows(c, arrows)) })
}

func TestSubcategoryOf(t *testing.T) {
	one(impl.SubcategoryOf(longChain(), list(0, 2, 5))).is(t, interval())
	one(impl.SubcategoryOf(longChain(), counting(6))).is(t, longChain())
	one(impl.SubcategoryOf(longChain(), list(0, 3, 5))).is(t, discrete(3))
	one(impl.SubcategoryOf(longChain(), list(3, 5))).is(t, discrete(2))
	one(impl.SubcategoryOf(longChain(), nil)).is(t, impl.Category{})
	one(impl.SubcategoryOf(impl.Category{}, list())).is(t, impl.Category{})
	one(impl.SubcategoryOf(backwards(), list(0, 1, 2))).is(t, backwards())
	one(impl.SubcategoryOf(backwards(), list(1))).is(t, discrete(1))
	one(impl.SubcategoryOf(cyclic(6), list(0, 2, 4))).is(t, cyclic(3))
	one(impl.SubcategoryOf(retract(), list(0, 3, 4))).is(t, impl.Category{
		Objects: 2, From: list(0, 1, 1), To: list(0, 0, 1), Identity: list(0, 2),
		Composites: lists(list(0, -1, -1), list(1, -1, -1), list(-1, 1, 2)),
	})
	one(impl.SubcategoryOf(largest(), counting(impl.MaxArrows))).is(t, largest())
}

func TestSubcategoryOfErrors(t *testing.T) {
	checkArrowsErrors(t, func(c impl.Category, arrows []int64) result { return one(impl.SubcategoryOf(c, arrows)) })
	for _, arrows := range lists(list(1), list(0, 1), list(1, 2), list(2, 0), list(0, 0), list(0, 1, 1, 2), list(0, 2, 1)) {
		one(impl.SubcategoryOf(interval(), arrows)).fails(t, impl.ErrState)
	}
	one(impl.SubcategoryOf(longChain(), list(0, 1, 3, 4, 5))).fails(t, impl.ErrState)
	one(impl.SubcategoryOf(cyclic(impl.MaxArrows), append(counting(impl.MaxArrows), 39))).fails(t, impl.ErrState)
}

func TestFullSubcategory(t *testing.T) {
	one(impl.FullSubcategory(longChain(), list(0, 2))).is(t, interval())
	one(impl.FullSubcategory(longChain(), list(0, 1, 2))).is(t, longChain())
	one(impl.FullSubcategory(longChain(), list(1))).is(t, discrete(1))
	one(impl.FullSubcategory(longChain(), nil)).is(t, impl.Category{})
	one(impl.FullSubcategory(impl.Category{}, list())).is(t, impl.Category{})
	one(impl.FullSubcategory(retract(), list(0))).is(t, monoid(list(0, 1), list(1, 1)))
	one(impl.FullSubcategory(backwards(), list(0, 1))).is(t, backwards())
	one(impl.FullSubcategory(largest(), counting(impl.MaxObjects))).is(t, largest())
	one(impl.FullSubcategory(largest(), list(2, 7))).is(t, sum(discrete(1), cyclic(33)))
}

func TestFullSubcategoryErrors(t *testing.T) {
	for _, objects := range lists(nil, list(0), list(-1), list(1, 0), list(math.MaxInt64)) {
		checkCategoryErrors(t, func(c impl.Category) result { return one(impl.FullSubcategory(c, objects)) })
	}
	for _, bad := range noNumbers(3) {
		for _, objects := range lists(list(bad), list(0, bad), list(bad, 2), list(1, 0, bad), list(0, 0, bad), repeat(bad, 50)) {
			one(impl.FullSubcategory(longChain(), objects)).fails(t, impl.ErrRange)
		}
	}
	one(impl.FullSubcategory(impl.Category{}, list(0))).fails(t, impl.ErrRange)
	one(impl.FullSubcategory(discrete(impl.MaxObjects), counting(impl.MaxObjects+1))).fails(t, impl.ErrRange)
	for _, objects := range lists(list(1, 0), list(0, 0), list(0, 2, 1), list(0, 1, 2, 2), repeat(1, 50)) {
		one(impl.FullSubcategory(longChain(), objects)).fails(t, impl.ErrState)
	}
}

func TestIrreducibleArrows(t *testing.T) {
	one(impl.IrreducibleArrows(longChain())).is(t, list(1, 4))
	one(impl.IrreducibleArrows(interval())).is(t, list(1))
	one(impl.IrreducibleArrows(impl.Category{})).is(t, list())
	one(impl.IrreducibleArrows(discrete(impl.MaxObjects))).is(t, list())
	one(impl.IrreducibleArrows(parallel())).is(t, list(1, 2))
	one(impl.IrreducibleArrows(retract())).is(t, list())
	one(impl.IrreducibleArrows(monoid(list(0, 1), list(1, 1)))).is(t, list())
	// In a group of two elements 1 is the composite only of arrows one of which is the identity.
	one(impl.IrreducibleArrows(cyclic(2))).is(t, list(1))
	one(impl.IrreducibleArrows(cyclic(impl.MaxArrows))).is(t, list())
	one(impl.IrreducibleArrows(monoid(list(0, 1, 2), list(1, 2, 2), list(2, 2, 2)))).is(t, list(1))
	one(impl.IrreducibleArrows(chain(impl.MaxObjects))).is(t, list(1, 9, 16, 22, 27, 31, 34))
	checkCategoryErrors(t, func(c impl.Category) result { return one(impl.IrreducibleArrows(c)) })
}

func TestIsThin(t *testing.T) {
	for _, s := range []sample{{"no objects", impl.Category{}}, {"interval", interval()}, {"long chain", longChain()},
		{"discrete", discrete(impl.MaxObjects)}, {"indiscrete", indiscrete(6)}, {"backwards", backwards()}} {
		expectAnswer(t, s, impl.IsThin, true)
	}
	for _, s := range []sample{{"parallel", parallel()}, {"retract", retract()}, {"group", cyclic(2)}, {"largest", largest()}} {
		expectAnswer(t, s, impl.IsThin, false)
	}
	checkCategoryErrors(t, func(c impl.Category) result { return one(impl.IsThin(c)) })
}

func TestIsGroupoid(t *testing.T) {
	for _, s := range []sample{{"no objects", impl.Category{}}, {"discrete", discrete(impl.MaxObjects)}, {"group", cyclic(impl.MaxArrows)},
		{"isomorphic objects", indiscrete(6)}, {"largest", largest()}} {
		expectAnswer(t, s, impl.IsGroupoid, true)
	}
	for _, s := range []sample{{"interval", interval()}, {"long chain", longChain()}, {"parallel", parallel()}, {"retract", retract()},
		{"idempotent", monoid(list(0, 1), list(1, 1))}, {"a group and an interval", sum(cyclic(3), interval())}} {
		expectAnswer(t, s, impl.IsGroupoid, false)
	}
	checkCategoryErrors(t, func(c impl.Category) result { return one(impl.IsGroupoid(c)) })
}

func expectAnswer(t *testing.T, s sample, ask func(c impl.Category) (bool, int64), want bool) {
	t.Helper()
	got, code := ask(s.c)
	if code != impl.ErrNone || got != want {
		t.Errorf("%s: got %v with code %d, want %v with ErrNone", s.label, got, code, want)
	}
}

func TestConnectedObjects(t *testing.T) {
	one(impl.ConnectedObjects(interval())).is(t, list(0, 0))
	one(impl.ConnectedObjects(impl.Category{})).is(t, list())
	one(impl.ConnectedObjects(discrete(impl.MaxObjects))).is(t, counting(impl.MaxObjects))
	one(impl.ConnectedObjects(chain(impl.MaxObjects))).is(t, repeat(0, impl.MaxObjects))
	one(impl.ConnectedObjects(sum(interval(), cyclic(2)))).is(t, list(0, 0, 1))
	one(impl.ConnectedObjects(sum(discrete(1), interval()))).is(t, list(0, 1, 1))
	// 0 and 1 are connected only through 3, and 2 and 4 through each other.
	hidden := preorder(5, func(i, j int64) bool { return i == j || i < 2 && j == 3 || i == 4 && j == 2 })
	one(impl.ConnectedObjects(hidden)).is(t, list(0, 0, 1, 0, 1))
	checkCategoryErrors(t, func(c impl.Category) result { return one(impl.ConnectedObjects(c)) })
}

// listsOf returns the lists of a category and overwrites the list of its rows, which it must not
// share with an argument.
func listsOf(c impl.Category, code int64) [][]int64 {
	made := append(lists(c.From, c.To, c.Identity), c.Composites...)
	clear(c.Composites[:cap(c.Composites)])
	return made
}

func TestCategoriesMemory(t *testing.T) {
	c := retract()
	for label, call := range map[string]func(g *guard) [][]int64{
		"IsShape":           func(g *guard) [][]int64 { impl.IsShape(g.category(c)); return nil },
		"FirstFault":        func(g *guard) [][]int64 { impl.FirstFault(g.category(c)); return nil },
		"IsCategory":        func(g *guard) [][]int64 { impl.IsCategory(g.category(c)); return nil },
		"CompositeOf":       func(g *guard) [][]int64 { impl.CompositeOf(g.category(c), 2, 3); return nil },
		"PathComposite":     func(g *guard) [][]int64 { impl.PathComposite(g.category(c), 0, g.list(2, 3, 1)); return nil },
		"HomSet":            func(g *guard) [][]int64 { made, _ := impl.HomSet(g.category(c), 0, 0); return lists(made) },
		"IsSubcategory":     func(g *guard) [][]int64 { impl.IsSubcategory(g.category(c), g.list(0, 1)); return nil },
		"IsSubcategory, no": func(g *guard) [][]int64 { impl.IsSubcategory(g.category(c), g.list(3, 2)); return nil },
		"GeneratedArrows": func(g *guard) [][]int64 {
			made, _ := impl.GeneratedArrows(g.category(c), g.list(4, 3, 2))
			return lists(made)
		},
		"GeneratedArrows, no more": func(g *guard) [][]int64 {
			made, _ := impl.GeneratedArrows(g.category(c), g.list(0, 1, 2, 3, 4))
			return lists(made)
		},
		"SubcategoryOf": func(g *guard) [][]int64 {
			return listsOf(impl.SubcategoryOf(g.category(c), g.list(0, 1, 2, 3, 4)))
		},
		"FullSubcategory": func(g *guard) [][]int64 { return listsOf(impl.FullSubcategory(g.category(c), g.list(0, 1))) },
		"IrreducibleArrows": func(g *guard) [][]int64 {
			made, _ := impl.IrreducibleArrows(g.category(longChain()))
			return lists(made)
		},
		"IsThin":           func(g *guard) [][]int64 { impl.IsThin(g.category(c)); return nil },
		"IsGroupoid":       func(g *guard) [][]int64 { impl.IsGroupoid(g.category(c)); return nil },
		"ConnectedObjects": func(g *guard) [][]int64 { made, _ := impl.ConnectedObjects(g.category(c)); return lists(made) },
	} {
		checkMemory(t, label, call)
	}
}
