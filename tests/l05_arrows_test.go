package tests

import (
	"math"
	"slices"
	"testing"

	"loop.example/g01083/impl"
)

// concrete is the category of sets with these numbers of elements whose arrows are the identities,
// some maps, and their composites, in ascending order. Before the images of a map stand its source
// and its target.
func concrete(sizes []int64, maps ...[]int64) impl.Category {
	n := named{objects: int64(len(sizes))}
	n.unit = func(x int64) []int64 { return append(list(x, x), counting(sizes[x])...) }
	n.then = func(f, g []int64) []int64 {
		composite := list(f[0], g[1])
		for _, image := range f[2:] {
			composite = append(composite, g[2+image])
		}
		return composite
	}
	add := func(f []int64) {
		if !slices.ContainsFunc(n.arrows, func(g []int64) bool { return slices.Equal(f, g) }) {
			n.arrows = append(n.arrows, f)
		}
	}
	addComposite := func(f, g []int64) {
		if f[1] == g[0] {
			add(n.then(f, g))
		}
	}
	for x := range n.objects {
		add(n.unit(x))
	}
	for _, f := range maps {
		add(f)
	}
	for i := 0; i < len(n.arrows); i++ {
		for j := range i + 1 {
			addComposite(n.arrows[i], n.arrows[j])
			addComposite(n.arrows[j], n.arrows[i])
		}
	}
	slices.SortFunc(n.arrows, slices.Compare)
	return n.category()
}

// sets is the category of all maps between sets with these numbers of elements.
func sets(sizes ...int64) impl.Category {
	var maps [][]int64
	for x, size := range sizes {
		for y, other := range sizes {
			for _, images := range allMaps(size, other) {
				maps = append(maps, append(list(int64(x), int64(y)), images...))
			}
		}
	}
	return concrete(sizes, maps...)
}

// projections has three arrows 1, 2 and 3 from 0 to 1, an arrow 9 from 1 to 2 that does not tell 1
// from 2, and an arrow 10 from 1 to 3 that does not tell 2 from 3.
func projections() impl.Category {
	return concrete(list(1, 3, 2, 2), list(0, 1, 0), list(0, 1, 1), list(0, 1, 2), list(1, 2, 0, 0, 1), list(1, 3, 0, 1, 1))
}

// powers is the monoid of the powers 0, 1, .. of one arrow, of which the powers start and start +
// period are the first equal ones.
func powers(start, period int64) impl.Category {
	var table [][]int64
	n := start + period
	for i := range n {
		row := counting(n)
		for j := range row {
			row[j] += i
			for row[j] >= n {
				row[j] -= period
			}
		}
		table = append(table, row)
	}
	return monoid(table...)
}

func idempotent() impl.Category { return monoid(list(0, 1), list(1, 1)) }

// checkArrowErrors checks the errors of a function of a category and one of its arrows that come
// before all others.
func checkArrowErrors(t *testing.T, call func(c impl.Category, f int64) result) {
	t.Helper()
	for _, f := range list(0, 1, -1, math.MaxInt64) {
		checkCategoryErrors(t, func(c impl.Category) result { return call(c, f) })
	}
	for _, bad := range noNumbers(3) {
		call(interval(), bad).fails(t, impl.ErrRange)
		call(backwards(), bad).fails(t, impl.ErrRange)
	}
	call(impl.Category{}, 0).fails(t, impl.ErrRange)
	call(cyclic(impl.MaxArrows), impl.MaxArrows).fails(t, impl.ErrRange)
	call(largest(), impl.MaxArrows).fails(t, impl.ErrRange)
}

// checkObjectErrors checks the errors of a function of a category and one of its objects.
func checkObjectErrors(t *testing.T, call func(c impl.Category, x int64) result) {
	t.Helper()
	for _, x := range list(0, 1, -1, math.MaxInt64) {
		checkCategoryErrors(t, func(c impl.Category) result { return call(c, x) })
	}
	for _, bad := range noNumbers(2) {
		call(interval(), bad).fails(t, impl.ErrRange)
		call(backwards(), bad).fails(t, impl.ErrRange)
	}
	call(impl.Category{}, 0).fails(t, impl.ErrRange)
	call(cyclic(impl.MaxArrows), 1).fails(t, impl.ErrRange)
	call(largest(), impl.MaxObjects).fails(t, impl.ErrRange)
}

func TestIsMono(t *testing.T) {
	one(impl.IsMono(retract(), 3)).is(t, true)
	one(impl.IsMono(retract(), 2)).is(t, false)
	one(impl.IsMono(retract(), 0)).is(t, true)
	one(impl.IsMono(retract(), 1)).is(t, false)
	one(impl.IsMono(interval(), 1)).is(t, true)
	one(impl.IsMono(parallel(), 2)).is(t, true)
	one(impl.IsMono(projections(), 9)).is(t, false)
	one(impl.IsMono(projections(), 10)).is(t, false)
	one(impl.IsMono(opposite(projections()), 9)).is(t, true)
	one(impl.IsMono(idempotent(), 1)).is(t, false)
	one(impl.IsMono(noncommuting(), 1)).is(t, false)
	one(impl.IsMono(opposite(noncommuting()), 1)).is(t, false)
	one(impl.IsMono(largest(), 39)).is(t, true)
	checkArrowErrors(t, func(c impl.Category, f int64) result { return one(impl.IsMono(c, f)) })
}

func TestIsEpi(t *testing.T) {
	one(impl.IsEpi(retract(), 2)).is(t, true)
	one(impl.IsEpi(retract(), 3)).is(t, false)
	one(impl.IsEpi(retract(), 4)).is(t, true)
	one(impl.IsEpi(retract(), 1)).is(t, false)
	one(impl.IsEpi(interval(), 1)).is(t, true)
	one(impl.IsEpi(parallel(), 1)).is(t, true)
	one(impl.IsEpi(projections(), 9)).is(t, true)
	one(impl.IsEpi(opposite(projections()), 9)).is(t, false)
	one(impl.IsEpi(opposite(projections()), 10)).is(t, false)
	one(impl.IsEpi(idempotent(), 1)).is(t, false)
	one(impl.IsEpi(largest(), 39)).is(t, true)
	checkArrowErrors(t, func(c impl.Category, f int64) result { return one(impl.IsEpi(c, f)) })
}

func TestRetractionsOf(t *testing.T) {
	one(impl.RetractionsOf(retract(), 3)).is(t, list(2))
	one(impl.RetractionsOf(retract(), 2)).is(t, list())
	one(impl.RetractionsOf(retract(), 1)).is(t, list())
	one(impl.RetractionsOf(retract(), 4)).is(t, list(4))
	one(impl.RetractionsOf(interval(), 1)).is(t, list())
	one(impl.RetractionsOf(cyclic(impl.MaxArrows), 1)).is(t, list(39))
	// The maps of three elements to one have one section for each element.
	one(impl.RetractionsOf(sets(1, 3), 1)).is(t, list(4))
	one(impl.RetractionsOf(opposite(sets(1, 3)), 4)).is(t, list(1, 2, 3))
	checkArrowErrors(t, func(c impl.Category, f int64) result { return one(impl.RetractionsOf(c, f)) })
}

func TestSectionsOf(t *testing.T) {
	one(impl.SectionsOf(retract(), 2)).is(t, list(3))
	one(impl.SectionsOf(retract(), 3)).is(t, list())
	one(impl.SectionsOf(retract(), 1)).is(t, list())
	one(impl.SectionsOf(retract(), 0)).is(t, list(0))
	one(impl.SectionsOf(interval(), 1)).is(t, list())
	one(impl.SectionsOf(cyclic(impl.MaxArrows), 39)).is(t, list(1))
	one(impl.SectionsOf(sets(1, 3), 4)).is(t, list(1, 2, 3))
	one(impl.SectionsOf(sets(1, 3), 1)).is(t, list())
	checkArrowErrors(t, func(c impl.Category, f int64) result { return one(impl.SectionsOf(c, f)) })
}

func TestIsIso(t *testing.T) {
	one(impl.IsIso(interval(), 1)).is(t, false)
	one(impl.IsIso(interval(), 0)).is(t, true)
	one(impl.IsIso(interval(), 2)).is(t, true)
	one(impl.IsIso(indiscrete(2), 1)).is(t, true)
	one(impl.IsIso(idempotent(), 1)).is(t, false)
	// Each of these is undone on one side only.
	one(impl.IsIso(retract(), 2)).is(t, false)
	one(impl.IsIso(retract(), 3)).is(t, false)
	one(impl.IsIso(cyclic(impl.MaxArrows), 39)).is(t, true)
	checkArrowErrors(t, func(c impl.Category, f int64) result { return one(impl.IsIso(c, f)) })
}

func TestInverseArrow(t *testing.T) {
	one(impl.InverseArrow(interval(), 1)).fails(t, impl.ErrNotFound)
	one(impl.InverseArrow(interval(), 2)).is(t, 2)
	one(impl.InverseArrow(interval(), 0)).is(t, 0)
	one(impl.InverseArrow(backwards(), 0)).fails(t, impl.ErrNotFound)
	one(impl.InverseArrow(indiscrete(2), 1)).is(t, 2)
	one(impl.InverseArrow(indiscrete(2), 2)).is(t, 1)
	one(impl.InverseArrow(cyclic(2), 1)).is(t, 1)
	one(impl.InverseArrow(cyclic(impl.MaxArrows), 39)).is(t, 1)
	one(impl.InverseArrow(idempotent(), 1)).fails(t, impl.ErrNotFound)
	for _, f := range list(1, 2, 3) {
		one(impl.InverseArrow(retract(), f)).fails(t, impl.ErrNotFound)
	}
	checkArrowErrors(t, func(c impl.Category, f int64) result { return one(impl.InverseArrow(c, f)) })
}

// checkTwoArrowsErrors checks the errors of a function of a category and two of its arrows that come
// before all others.
func checkTwoArrowsErrors(t *testing.T, call func(c impl.Category, f, g int64) result) {
	t.Helper()
	for f := range int64(3) {
		checkArrowErrors(t, func(c impl.Category, bad int64) result { return call(c, f, bad) })
		checkArrowErrors(t, func(c impl.Category, bad int64) result { return call(c, bad, f) })
	}
	checkArrowErrors(t, func(c impl.Category, bad int64) result { return call(c, bad, bad) })
}

func TestLiftsOf(t *testing.T) {
	one(impl.LiftsOf(retract(), 1, 3)).is(t, list(2))
	one(impl.LiftsOf(retract(), 3, 1)).is(t, list(3))
	one(impl.LiftsOf(retract(), 1, 1)).is(t, list(0, 1))
	one(impl.LiftsOf(retract(), 0, 3)).is(t, list())
	one(impl.LiftsOf(retract(), 2, 4)).is(t, list(2))
	one(impl.LiftsOf(longChain(), 2, 4)).is(t, list(1))
	one(impl.LiftsOf(longChain(), 4, 2)).is(t, list())
	one(impl.LiftsOf(projections(), 4, 9)).is(t, list(1, 2))
	one(impl.LiftsOf(cyclic(impl.MaxArrows), 1, 2)).is(t, list(39))
	one(impl.LiftsOf(noncommuting(), 1, 1)).is(t, list(0, 1))
	one(impl.LiftsOf(noncommuting(), 1, 2)).is(t, list(1))
	for _, pair := range lists(list(1, 2), list(2, 1), list(0, 2), list(3, 2)) {
		one(impl.LiftsOf(retract(), pair[0], pair[1])).fails(t, impl.ErrState)
	}
	// These have the same source, but not the same target.
	one(impl.LiftsOf(longChain(), 1, 2)).fails(t, impl.ErrState)
	one(impl.LiftsOf(longChain(), 2, 1)).fails(t, impl.ErrState)
	checkTwoArrowsErrors(t, func(c impl.Category, f, g int64) result { return one(impl.LiftsOf(c, f, g)) })
}

func TestExtensionsOf(t *testing.T) {
	one(impl.ExtensionsOf(retract(), 1, 2)).is(t, list(3))
	one(impl.ExtensionsOf(retract(), 2, 1)).is(t, list(2))
	one(impl.ExtensionsOf(retract(), 1, 1)).is(t, list(0, 1))
	one(impl.ExtensionsOf(retract(), 0, 2)).is(t, list())
	one(impl.ExtensionsOf(retract(), 3, 4)).is(t, list(3))
	one(impl.ExtensionsOf(longChain(), 2, 1)).is(t, list(4))
	one(impl.ExtensionsOf(longChain(), 1, 2)).is(t, list())
	one(impl.ExtensionsOf(cyclic(impl.MaxArrows), 1, 2)).is(t, list(39))
	one(impl.ExtensionsOf(noncommuting(), 1, 1)).is(t, list(0, 1, 2))
	one(impl.ExtensionsOf(noncommuting(), 1, 2)).is(t, list())
	for _, pair := range lists(list(1, 3), list(3, 1), list(0, 3), list(2, 4)) {
		one(impl.ExtensionsOf(retract(), pair[0], pair[1])).fails(t, impl.ErrState)
	}
	// These have the same target, but not the same source.
	one(impl.ExtensionsOf(longChain(), 2, 4)).fails(t, impl.ErrState)
	one(impl.ExtensionsOf(longChain(), 4, 2)).fails(t, impl.ErrState)
	checkTwoArrowsErrors(t, func(c impl.Category, f, g int64) result { return one(impl.ExtensionsOf(c, f, g)) })
}

func TestIsIdempotent(t *testing.T) {
	one(impl.IsIdempotent(idempotent(), 1)).is(t, true)
	one(impl.IsIdempotent(idempotent(), 0)).is(t, true)
	one(impl.IsIdempotent(cyclic(2), 1)).is(t, false)
	one(impl.IsIdempotent(retract(), 1)).is(t, true)
	one(impl.IsIdempotent(retract(), 4)).is(t, true)
	// An arrow between two objects is none, but no error either.
	one(impl.IsIdempotent(retract(), 2)).is(t, false)
	one(impl.IsIdempotent(interval(), 1)).is(t, false)
	one(impl.IsIdempotent(cyclic(impl.MaxArrows), 39)).is(t, false)
	checkArrowErrors(t, func(c impl.Category, e int64) result { return one(impl.IsIdempotent(c, e)) })
}

func TestPowerCycle(t *testing.T) {
	two(impl.PowerCycle(idempotent(), 1)).is(t, 1, 1)
	two(impl.PowerCycle(idempotent(), 0)).is(t, 1, 1)
	two(impl.PowerCycle(cyclic(2), 1)).is(t, 1, 2)
	two(impl.PowerCycle(cyclic(6), 4)).is(t, 1, 3)
	two(impl.PowerCycle(cyclic(impl.MaxArrows), 39)).is(t, 1, impl.MaxArrows)
	two(impl.PowerCycle(largest(), 39)).is(t, 1, 33)
	two(impl.PowerCycle(retract(), 4)).is(t, 1, 1)
	two(impl.PowerCycle(powers(7, 6), 2)).is(t, 4, 3)
	for start := int64(1); start < impl.MaxArrows; start++ {
		for period := int64(1); start+period <= impl.MaxArrows; period++ {
			two(impl.PowerCycle(powers(start, period), 1)).is(t, start, period)
		}
	}
}

func TestPowerCycleErrors(t *testing.T) {
	checkArrowErrors(t, func(c impl.Category, f int64) result { return two(impl.PowerCycle(c, f)) })
	two(impl.PowerCycle(interval(), 1)).fails(t, impl.ErrState)
	two(impl.PowerCycle(backwards(), 0)).fails(t, impl.ErrState)
	two(impl.PowerCycle(retract(), 2)).fails(t, impl.ErrState)
	two(impl.PowerCycle(retract(), 3)).fails(t, impl.ErrState)
}

func TestArrowKinds(t *testing.T) {
	one(impl.ArrowKinds(retract())).is(t, list(31, 0, 10, 5, 31))
	one(impl.ArrowKinds(opposite(retract()))).is(t, list(31, 0, 5, 10, 31))
	one(impl.ArrowKinds(impl.Category{})).is(t, list())
	one(impl.ArrowKinds(interval())).is(t, list(31, 3, 31))
	one(impl.ArrowKinds(backwards())).is(t, list(3, 31, 31))
	one(impl.ArrowKinds(idempotent())).is(t, list(31, 0))
	one(impl.ArrowKinds(largest())).is(t, repeat(31, impl.MaxArrows))
	one(impl.ArrowKinds(sets(1, 2))).is(t, list(31, 5, 5, 10, 0, 31, 31, 0))
	one(impl.ArrowKinds(projections())).is(t, list(31, 3, 3, 3, 3, 3, 3, 3, 31, 2, 2, 31, 31))
	checkCategoryErrors(t, func(c impl.Category) result { return one(impl.ArrowKinds(c)) })
}

func TestIsBalanced(t *testing.T) {
	for _, s := range []sample{{"no objects", impl.Category{}}, {"retract", retract()}, {"idempotent", idempotent()}, {"group", cyclic(impl.MaxArrows)},
		{"sets", sets(1, 2)}, {"more sets", sets(1, 3)}, {"nilpotent", powers(2, 1)}} {
		expectAnswer(t, s, impl.IsBalanced, true)
	}
	for _, s := range []sample{{"interval", interval()}, {"backwards", backwards()}, {"parallel", parallel()}, {"sets", sets(0, 1)}, {"projections", projections()},
		{"an interval behind a group", sum(cyclic(2), interval())}} {
		expectAnswer(t, s, impl.IsBalanced, false)
	}
	checkCategoryErrors(t, func(c impl.Category) result { return one(impl.IsBalanced(c)) })
}

func TestIsJointlyMono(t *testing.T) {
	one(impl.IsJointlyMono(retract(), list(1, 2))).is(t, false)
	one(impl.IsJointlyMono(retract(), list(0, 2))).is(t, true)
	one(impl.IsJointlyMono(retract(), list(2, 0))).is(t, true)
	one(impl.IsJointlyMono(retract(), list(2, 2))).is(t, false)
	one(impl.IsJointlyMono(retract(), list(3))).is(t, true)
	one(impl.IsJointlyMono(projections(), list(9))).is(t, false)
	one(impl.IsJointlyMono(projections(), list(10))).is(t, false)
	one(impl.IsJointlyMono(projections(), list(9, 10))).is(t, true)
	one(impl.IsJointlyMono(projections(), list(10, 9, 10))).is(t, true)
	one(impl.IsJointlyMono(projections(), repeat(9, 1000000))).is(t, false)
	one(impl.IsJointlyMono(projections(), append(repeat(9, 1000000), 10))).is(t, true)
	one(impl.IsJointlyMono(largest(), list(7, 39))).is(t, true)
	checkArrowsErrors(t, func(c impl.Category, arrows []int64) result { return one(impl.IsJointlyMono(c, arrows)) })
	for _, arrows := range lists(nil, list(), list(0, 3), list(3, 0), list(0, 0, 4), list(2, 3), list(4, 3, 1)) {
		one(impl.IsJointlyMono(retract(), arrows)).fails(t, impl.ErrState)
	}
	one(impl.IsJointlyMono(longChain(), list(2, 4))).fails(t, impl.ErrState)
	one(impl.IsJointlyMono(impl.Category{}, nil)).fails(t, impl.ErrState)
}

func TestIsJointlyEpi(t *testing.T) {
	one(impl.IsJointlyEpi(retract(), list(1, 3))).is(t, false)
	one(impl.IsJointlyEpi(retract(), list(0, 3))).is(t, true)
	one(impl.IsJointlyEpi(retract(), list(3, 0))).is(t, true)
	one(impl.IsJointlyEpi(retract(), list(3, 3))).is(t, false)
	one(impl.IsJointlyEpi(retract(), list(2))).is(t, true)
	one(impl.IsJointlyEpi(opposite(projections()), list(9))).is(t, false)
	one(impl.IsJointlyEpi(opposite(projections()), list(10, 9))).is(t, true)
	one(impl.IsJointlyEpi(opposite(projections()), append(repeat(9, 1000000), 10))).is(t, true)
	// Only all elements together tell all maps from two elements apart.
	one(impl.IsJointlyEpi(sets(1, 2), list(1))).is(t, false)
	one(impl.IsJointlyEpi(sets(1, 2), list(2))).is(t, false)
	one(impl.IsJointlyEpi(sets(1, 2), list(1, 2))).is(t, true)
	checkArrowsErrors(t, func(c impl.Category, arrows []int64) result { return one(impl.IsJointlyEpi(c, arrows)) })
	for _, arrows := range lists(nil, list(), list(0, 2), list(2, 0), list(0, 0, 4), list(2, 3), list(4, 2, 3)) {
		one(impl.IsJointlyEpi(retract(), arrows)).fails(t, impl.ErrState)
	}
	one(impl.IsJointlyEpi(longChain(), list(1, 2))).fails(t, impl.ErrState)
	one(impl.IsJointlyEpi(impl.Category{}, nil)).fails(t, impl.ErrState)
}

func TestSubobjectsOf(t *testing.T) {
	one(impl.SubobjectsOf(retract(), 0)).is(t, lists(list(0), list(3)))
	one(impl.SubobjectsOf(retract(), 1)).is(t, lists(list(4)))
	one(impl.SubobjectsOf(interval(), 0)).is(t, lists(list(0)))
	one(impl.SubobjectsOf(interval(), 1)).is(t, lists(list(1), list(2)))
	one(impl.SubobjectsOf(backwards(), 1)).is(t, lists(list(0), list(1)))
	one(impl.SubobjectsOf(longChain(), 2)).is(t, lists(list(2), list(4), list(5)))
	one(impl.SubobjectsOf(parallel(), 1)).is(t, lists(list(1), list(2), list(3)))
	one(impl.SubobjectsOf(idempotent(), 0)).is(t, lists(list(0)))
	one(impl.SubobjectsOf(indiscrete(3), 1)).is(t, lists(list(1, 4, 7)))
	one(impl.SubobjectsOf(cyclic(impl.MaxArrows), 0)).is(t, lists(counting(impl.MaxArrows)))
	one(impl.SubobjectsOf(largest(), 7)).is(t, lists(moved(counting(33), 7)))
	// The classes are not in one piece each.
	one(impl.SubobjectsOf(sets(0, 2, 2), 1)).is(t, lists(list(1), list(4, 5, 12, 13)))
	checkObjectErrors(t, func(c impl.Category, x int64) result { return one(impl.SubobjectsOf(c, x)) })
}

func TestQuotientsOf(t *testing.T) {
	one(impl.QuotientsOf(retract(), 0)).is(t, lists(list(0), list(2)))
	one(impl.QuotientsOf(retract(), 1)).is(t, lists(list(4)))
	one(impl.QuotientsOf(interval(), 0)).is(t, lists(list(0), list(1)))
	one(impl.QuotientsOf(interval(), 1)).is(t, lists(list(2)))
	one(impl.QuotientsOf(backwards(), 0)).is(t, lists(list(0), list(2)))
	one(impl.QuotientsOf(longChain(), 0)).is(t, lists(list(0), list(1), list(2)))
	one(impl.QuotientsOf(parallel(), 0)).is(t, lists(list(0), list(1), list(2)))
	one(impl.QuotientsOf(indiscrete(3), 1)).is(t, lists(list(3, 4, 5)))
	one(impl.QuotientsOf(cyclic(impl.MaxArrows), 0)).is(t, lists(counting(impl.MaxArrows)))
	// Three elements have the map to one element and the six ways to exchange them.
	one(impl.QuotientsOf(sets(1, 3), 1)).is(t, lists(list(4), list(10, 12, 16, 20, 24, 26)))
	checkObjectErrors(t, func(c impl.Category, x int64) result { return one(impl.QuotientsOf(c, x)) })
}

func TestArrowsMemory(t *testing.T) {
	c := retract()
	oneList := func(made []int64, code int64) [][]int64 { return lists(made) }
	someLists := func(made [][]int64, code int64) [][]int64 { return made }
	for label, call := range map[string]func(g *guard) [][]int64{
		"IsMono":         func(g *guard) [][]int64 { impl.IsMono(g.category(c), 3); return nil },
		"IsEpi":          func(g *guard) [][]int64 { impl.IsEpi(g.category(c), 2); return nil },
		"RetractionsOf":  func(g *guard) [][]int64 { return oneList(impl.RetractionsOf(g.category(c), 3)) },
		"SectionsOf":     func(g *guard) [][]int64 { return oneList(impl.SectionsOf(g.category(sets(1, 3)), 4)) },
		"IsIso":          func(g *guard) [][]int64 { impl.IsIso(g.category(c), 4); return nil },
		"InverseArrow":   func(g *guard) [][]int64 { impl.InverseArrow(g.category(c), 4); return nil },
		"LiftsOf":        func(g *guard) [][]int64 { return oneList(impl.LiftsOf(g.category(c), 1, 1)) },
		"ExtensionsOf":   func(g *guard) [][]int64 { return oneList(impl.ExtensionsOf(g.category(c), 1, 1)) },
		"IsIdempotent":   func(g *guard) [][]int64 { impl.IsIdempotent(g.category(c), 1); return nil },
		"PowerCycle":     func(g *guard) [][]int64 { impl.PowerCycle(g.category(c), 1); return nil },
		"ArrowKinds":     func(g *guard) [][]int64 { return oneList(impl.ArrowKinds(g.category(c))) },
		"IsBalanced":     func(g *guard) [][]int64 { impl.IsBalanced(g.category(c)); return nil },
		"IsJointlyMono":  func(g *guard) [][]int64 { impl.IsJointlyMono(g.category(c), g.list(2, 0, 2, 1, 0)); return nil },
		"IsJointlyEpi":   func(g *guard) [][]int64 { impl.IsJointlyEpi(g.category(c), g.list(3, 0, 3, 1, 0)); return nil },
		"SubobjectsOf":   func(g *guard) [][]int64 { return someLists(impl.SubobjectsOf(g.category(sets(0, 2, 2)), 1)) },
		"QuotientsOf":    func(g *guard) [][]int64 { return someLists(impl.QuotientsOf(g.category(sets(1, 3)), 1)) },
		"QuotientsOf, 1": func(g *guard) [][]int64 { return someLists(impl.QuotientsOf(g.category(longChain()), 0)) },
	} {
		checkMemory(t, label, call)
	}
}
