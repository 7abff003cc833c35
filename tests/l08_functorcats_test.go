package tests

import (
	"slices"
	"testing"

	"loop.example/g01083/impl"
)

// space is a functor category with its objects and its arrows, each of which is the list of the numbers
// of its source and its target followed by its components.
type space struct {
	category impl.Category
	functors []impl.Functor
	arrows   [][]int64
}

// steps is the functor category of the interval and itself, which has the identity functor between the
// two constant ones.
func steps() space {
	i := interval()
	return space{
		longChain(),
		[]impl.Functor{constantByDefinition(i, i, 0), identityByDefinition(i), constantByDefinition(i, i, 1)},
		lists(list(0, 0, 0, 0), list(0, 1, 0, 1), list(0, 2, 1, 1), list(1, 1, 0, 2), list(1, 2, 1, 2), list(2, 2, 2, 2)),
	}
}

// square is the functor category of two objects and the interval.
func square() impl.Category { return preorder(4, func(i, j int64) bool { return i&j == i }) }

// mapped is a functor with these images.
func mapped(c, d impl.Category, objects, arrows []int64) impl.Functor {
	return impl.Functor{Source: c, Target: d, Objects: objects, Arrows: arrows}
}

// functorCategory returns the functor category of c and d, which has to be within the limits.
func functorCategory(t *testing.T, c, d impl.Category) impl.Category {
	t.Helper()
	made, _, _, code := impl.FunctorCategory(c, d)
	if code != impl.ErrNone || !impl.IsCategory(made) {
		t.Fatalf("got %v with code %d, want a category", made, code)
	}
	return made
}

func TestFunctorCategory(t *testing.T) {
	s := steps()
	three(impl.FunctorCategory(interval(), interval())).is(t, s.category, s.functors, s.arrows)
	// From the category with one arrow, and to it.
	three(impl.FunctorCategory(discrete(1), noncommuting())).is(t, noncommuting(), []impl.Functor{constantByDefinition(discrete(1), noncommuting(), 0)}, lists(list(0, 0, 0), list(0, 0, 1), list(0, 0, 2)))
	three(impl.FunctorCategory(noncommuting(), discrete(1))).is(t, discrete(1), []impl.Functor{toOne(noncommuting())}, lists(list(0, 0, 0)))
	// The arrows are in the order of their ends, whatever their numbers are in the target.
	turned := []impl.Functor{constantByDefinition(discrete(1), backwards(), 0), constantByDefinition(discrete(1), backwards(), 1)}
	three(impl.FunctorCategory(discrete(1), backwards())).is(t, interval(), turned, lists(list(0, 0, 2), list(0, 1, 0), list(1, 1, 1)))
	last := constantByDefinition(discrete(1), identityLast(), 0)
	three(impl.FunctorCategory(discrete(1), identityLast())).is(t, identityLast(), []impl.Functor{last}, lists(list(0, 0, 0), list(0, 0, 1)))
	// Each functor has the group as its transformations, and there are none from one to the other.
	group := []impl.Functor{constantByDefinition(cyclic(2), cyclic(2), 0), identityByDefinition(cyclic(2))}
	three(impl.FunctorCategory(cyclic(2), cyclic(2))).is(t, groups(2, 2), group, lists(list(0, 0, 0), list(0, 0, 1), list(1, 1, 0), list(1, 1, 1)))
	// Two objects are mapped independently.
	both := []impl.Functor{}
	for _, images := range lists(list(0, 0), list(0, 1), list(1, 0), list(1, 1)) {
		both = append(both, mapped(discrete(2), interval(), images, applied(images, list(0, 2))))
	}
	three(impl.FunctorCategory(discrete(2), interval())).is(t, square(), both, lists(
		list(0, 0, 0, 0), list(0, 1, 0, 1), list(0, 2, 1, 0), list(0, 3, 1, 1), list(1, 1, 0, 2), list(1, 3, 1, 2), list(2, 2, 2, 0), list(2, 3, 2, 1), list(3, 3, 2, 2)))
}

func TestFunctorCategoryOfNothing(t *testing.T) {
	three(impl.FunctorCategory(impl.Category{}, impl.Category{})).is(t, discrete(1), []impl.Functor{{}}, lists(list(0, 0)))
	three(impl.FunctorCategory(impl.Category{}, retract())).is(t, discrete(1), []impl.Functor{{Target: retract()}}, lists(list(0, 0)))
	three(impl.FunctorCategory(retract(), impl.Category{})).is(t, impl.Category{}, []impl.Functor{}, lists())
}

// pairOfCategories has a functor category with a number of objects and a number of arrows.
type pairOfCategories struct {
	c, d            impl.Category
	objects, arrows int
}

// spacesWithin have functor categories within the limits, at each of which one of them is.
func spacesWithin() []pairOfCategories {
	return []pairOfCategories{
		{discrete(1), discrete(impl.MaxObjects), 8, 8}, {discrete(3), discrete(2), 8, 8},
		{cyclic(4), groups(8, 5, 3), 6, impl.MaxArrows}, {cyclic(4), groups(8, 7, 1), 6, impl.MaxArrows},
		{cyclic(9), cyclic(impl.MaxTarget), 1, 16}, {cyclic(9), discrete(1), 1, 1},
		{discrete(1), cyclic(impl.MaxTarget), 1, 16}, {impl.Category{}, cyclic(impl.MaxTarget), 1, 1},
		{discrete(2), cyclic(6), 1, 36}, {discrete(impl.MaxObjects), discrete(1), 1, 1},
		{sum(discrete(7), cyclic(9)), discrete(1), 1, 1}, {severalArrows(8), discrete(1), 1, 1},
		{severalArrows(8), interval(), 3, 6},
	}
}

// spacesBeyond have functor categories that are not within the limits.
func spacesBeyond() [][2]impl.Category {
	return [][2]impl.Category{
		// One object too many, and one arrow, or a few.
		{discrete(2), discrete(3)}, {cyclic(4), groups(8, 5, 2)}, {discrete(2), cyclic(7)},
		// More arrows than there may be in the first and in the second category.
		{cyclic(10), discrete(1)}, {cyclic(10), impl.Category{}}, {severalArrows(9), discrete(1)}, {largest(), impl.Category{}},
		{discrete(1), cyclic(impl.MaxTarget + 1)}, {impl.Category{}, cyclic(impl.MaxTarget + 1)}, {impl.Category{}, largest()}, {largest(), largest()},
		// Far too many functors, and one functor with far too many transformations.
		{discrete(impl.MaxObjects), discrete(impl.MaxObjects)}, {severalArrows(8), cyclic(impl.MaxTarget)}, {discrete(impl.MaxObjects), cyclic(impl.MaxTarget)},
	}
}

func TestFunctorCategoryLimits(t *testing.T) {
	for _, s := range spacesWithin() {
		c, functors, arrows, code := impl.FunctorCategory(s.c, s.d)
		three(int(c.Objects), len(c.From), impl.IsCategory(c), code).is(t, s.objects, s.arrows, true)
		two(len(functors), len(arrows), code).is(t, s.objects, s.arrows)
	}
	for _, pair := range spacesBeyond() {
		three(impl.FunctorCategory(pair[0], pair[1])).fails(t, impl.ErrLimit)
		one(impl.DiagonalFunctor(pair[0], pair[1])).fails(t, impl.ErrLimit)
		for x := range pair[0].Objects {
			one(impl.EvaluationFunctor(pair[0], pair[1], x)).fails(t, impl.ErrLimit)
		}
	}
	checkTwoErrors(t, func(c, d impl.Category) result { return three(impl.FunctorCategory(c, d)) })
}

func TestEvaluationFunctor(t *testing.T) {
	i := interval()
	one(impl.EvaluationFunctor(i, i, 0)).is(t, mapped(steps().category, i, list(0, 0, 1), list(0, 0, 1, 0, 1, 2)))
	one(impl.EvaluationFunctor(i, i, 1)).is(t, mapped(steps().category, i, list(0, 1, 1), list(0, 1, 1, 2, 2, 2)))
	one(impl.EvaluationFunctor(discrete(1), backwards(), 0)).is(t, mapped(i, backwards(), list(0, 1), list(2, 0, 1)))
	one(impl.EvaluationFunctor(discrete(2), i, 1)).is(t, mapped(square(), i, list(0, 1, 0, 1), list(0, 1, 0, 1, 2, 2, 0, 1, 2)))
	one(impl.EvaluationFunctor(retract(), impl.Category{}, 1)).is(t, impl.Functor{})
	one(impl.EvaluationFunctor(discrete(1), cyclic(impl.MaxTarget), 0)).is(t, identityByDefinition(cyclic(impl.MaxTarget)))
	one(impl.EvaluationFunctor(discrete(impl.MaxObjects), discrete(1), 7)).is(t, identityByDefinition(discrete(1)))
	checkObjectErrors(t, func(c impl.Category, x int64) result { return one(impl.EvaluationFunctor(c, discrete(1), x)) })
	for _, x := range list(0, 1, -1, 7) {
		checkTwoErrors(t, func(c, d impl.Category) result { return one(impl.EvaluationFunctor(c, d, x)) })
	}
	// An object of the other category does not count, and one that does not exist comes before the limits.
	one(impl.EvaluationFunctor(i, longChain(), 2)).fails(t, impl.ErrRange)
	one(impl.EvaluationFunctor(impl.Category{}, i, 0)).fails(t, impl.ErrRange)
	for _, pair := range spacesBeyond() {
		for _, x := range noNumbers(pair[0].Objects) {
			one(impl.EvaluationFunctor(pair[0], pair[1], x)).fails(t, impl.ErrRange)
		}
	}
}

func TestDiagonalFunctor(t *testing.T) {
	i := interval()
	one(impl.DiagonalFunctor(i, i)).is(t, mapped(i, steps().category, list(0, 2), list(0, 2, 5)))
	one(impl.DiagonalFunctor(discrete(1), backwards())).is(t, mapped(backwards(), i, list(0, 1), list(1, 2, 0)))
	one(impl.DiagonalFunctor(discrete(2), i)).is(t, mapped(i, square(), list(0, 3), list(0, 3, 8)))
	one(impl.DiagonalFunctor(cyclic(2), cyclic(2))).is(t, mapped(cyclic(2), groups(2, 2), list(0), list(0, 1)))
	one(impl.DiagonalFunctor(noncommuting(), discrete(1))).is(t, identityByDefinition(discrete(1)))
	// All constant functors from nothing are the same.
	one(impl.DiagonalFunctor(impl.Category{}, retract())).is(t, toOne(retract()))
	one(impl.DiagonalFunctor(impl.Category{}, discrete(impl.MaxObjects))).is(t, toOne(discrete(impl.MaxObjects)))
	one(impl.DiagonalFunctor(impl.Category{}, impl.Category{})).is(t, impl.Functor{Target: discrete(1)})
	one(impl.DiagonalFunctor(retract(), impl.Category{})).is(t, impl.Functor{})
	one(impl.DiagonalFunctor(discrete(1), cyclic(impl.MaxTarget))).is(t, identityByDefinition(cyclic(impl.MaxTarget)))
	checkTwoErrors(t, func(c, d impl.Category) result { return one(impl.DiagonalFunctor(c, d)) })
}

// checkComposeErrors checks the errors, before the limits, of a function of a functor and a category.
func checkComposeErrors(t *testing.T, call func(f impl.Functor, c impl.Category) result) {
	t.Helper()
	for _, good := range []impl.Category{{}, interval(), largest()} {
		checkFunctorErrors(t, func(f impl.Functor) result { return call(f, good) })
		checkCategoryErrors(t, func(c impl.Category) result { return call(identityByDefinition(good), c) })
		checkCategoryErrors(t, func(c impl.Category) result { return call(toOne(good), c) })
	}
	checkFunctorErrors(t, func(f impl.Functor) result { return call(f, f.Source) })
	checkCategoryErrors(t, func(c impl.Category) result { return call(identityByDefinition(c), c) })
}

func TestComposeBefore(t *testing.T) {
	i, s := interval(), steps().category
	one(impl.ComposeBefore(constantByDefinition(i, i, 1), i)).is(t, mapped(s, s, list(0, 2, 2), list(0, 2, 2, 5, 5, 5)))
	one(impl.ComposeBefore(constantByDefinition(i, i, 0), i)).is(t, mapped(s, s, list(0, 0, 2), list(0, 0, 2, 0, 2, 5)))
	one(impl.ComposeBefore(identityByDefinition(i), i)).is(t, identityByDefinition(s))
	// At one of two objects, and at both in the other order.
	one(impl.ComposeBefore(constantByDefinition(discrete(1), i, 1), i)).is(t, mapped(s, i, list(0, 1, 1), list(0, 1, 1, 2, 2, 2)))
	one(impl.ComposeBefore(mapped(discrete(2), discrete(2), list(1, 0), list(1, 0)), i)).is(t, mapped(square(), square(), list(0, 2, 1, 3), list(0, 2, 1, 3, 6, 7, 4, 5, 8)))
	one(impl.ComposeBefore(mapped(discrete(2), i, list(0, 1), list(0, 2)), i)).is(t, mapped(s, square(), list(0, 1, 3), list(0, 1, 3, 4, 5, 8)))
	one(impl.ComposeBefore(toOne(discrete(2)), i)).is(t, mapped(i, square(), list(0, 3), list(0, 3, 8)))
	one(impl.ComposeBefore(toOne(cyclic(2)), cyclic(2))).is(t, mapped(cyclic(2), groups(2, 2), list(0), list(0, 1)))
	one(impl.ComposeBefore(impl.Functor{Target: i}, i)).is(t, toOne(s))
	one(impl.ComposeBefore(impl.Functor{}, impl.Category{})).is(t, identityByDefinition(discrete(1)))
	one(impl.ComposeBefore(impl.Functor{Target: i}, impl.Category{})).is(t, impl.Functor{Target: discrete(1)})
	one(impl.ComposeBefore(toOne(i), impl.Category{})).is(t, impl.Functor{})
	checkComposeErrors(t, func(f impl.Functor, c impl.Category) result { return one(impl.ComposeBefore(f, c)) })
}

func TestComposeBeforeLimits(t *testing.T) {
	for _, s := range spacesWithin() {
		here := functorCategory(t, s.c, s.d)
		one(impl.ComposeBefore(identityByDefinition(s.c), s.d)).is(t, identityByDefinition(here))
		one(impl.ComposeBefore(impl.Functor{Target: s.c}, s.d)).is(t, toOne(here))
	}
	for _, pair := range spacesBeyond() {
		one(impl.ComposeBefore(identityByDefinition(pair[0]), pair[1])).fails(t, impl.ErrLimit)
		// Only the functor category of the target is too large, or only that of the source.
		one(impl.ComposeBefore(impl.Functor{Target: pair[0]}, pair[1])).fails(t, impl.ErrLimit)
		one(impl.ComposeBefore(toOne(pair[0]), pair[1])).fails(t, impl.ErrLimit)
	}
}

func TestComposeBehind(t *testing.T) {
	i, s := interval(), steps().category
	one(impl.ComposeBehind(i, constantByDefinition(i, i, 1))).is(t, mapped(s, s, repeat(2, 3), repeat(5, 6)))
	one(impl.ComposeBehind(i, constantByDefinition(i, i, 0))).is(t, mapped(s, s, repeat(0, 3), repeat(0, 6)))
	one(impl.ComposeBehind(i, identityByDefinition(i))).is(t, identityByDefinition(s))
	turned := mapped(i, backwards(), list(0, 1), list(2, 0, 1))
	one(impl.ComposeBehind(discrete(1), turned)).is(t, identityByDefinition(i))
	one(impl.ComposeBehind(i, turned)).is(t, identityByDefinition(s))
	one(impl.ComposeBehind(discrete(1), mapped(i, longChain(), list(0, 2), list(0, 2, 5)))).is(t, mapped(i, longChain(), list(0, 2), list(0, 2, 5)))
	one(impl.ComposeBehind(i, mapped(discrete(2), i, list(0, 1), list(0, 2)))).is(t, mapped(discrete(2), s, list(0, 2), list(0, 5)))
	one(impl.ComposeBehind(discrete(2), mapped(i, cyclic(2), list(0, 0), list(0, 1, 0)))).is(t, mapped(square(), product(cyclic(2), cyclic(2)), repeat(0, 4), list(0, 1, 2, 3, 0, 2, 0, 1, 0)))
	one(impl.ComposeBehind(cyclic(2), toOne(cyclic(2)))).is(t, toOne(groups(2, 2)))
	one(impl.ComposeBehind(impl.Category{}, toOne(retract()))).is(t, identityByDefinition(discrete(1)))
	one(impl.ComposeBehind(impl.Category{}, impl.Functor{})).is(t, identityByDefinition(discrete(1)))
	one(impl.ComposeBehind(i, impl.Functor{Target: i})).is(t, impl.Functor{Target: s})
	checkComposeErrors(t, func(f impl.Functor, c impl.Category) result { return one(impl.ComposeBehind(c, f)) })
}

func TestComposeBehindLimits(t *testing.T) {
	for _, s := range spacesWithin() {
		here := functorCategory(t, s.c, s.d)
		one(impl.ComposeBehind(s.c, identityByDefinition(s.d))).is(t, identityByDefinition(here))
		one(impl.ComposeBehind(s.c, toOne(s.d))).is(t, toOne(here))
	}
	for _, pair := range spacesBeyond() {
		one(impl.ComposeBehind(pair[0], identityByDefinition(pair[1]))).fails(t, impl.ErrLimit)
		// Only the functor category of the source is too large, or only that of the target.
		one(impl.ComposeBehind(pair[0], toOne(pair[1]))).fails(t, impl.ErrLimit)
		one(impl.ComposeBehind(pair[0], impl.Functor{Target: pair[1]})).fails(t, impl.ErrLimit)
	}
}

// mixture is a functor of two variables, from the interval and a group of two to a group of six, in which
// the arrow of the interval adds 2 and that of the group 3.
func mixture() impl.Functor {
	return mapped(product(interval(), cyclic(2)), cyclic(6), list(0, 0), list(0, 3, 2, 5, 0, 3))
}

func TestFixedVariables(t *testing.T) {
	i := interval()
	first, second := mapped(product(i, i), i, list(0, 0, 1, 1), list(0, 0, 0, 1, 1, 1, 2, 2, 2)), mapped(product(i, i), i, list(0, 1, 0, 1), list(0, 1, 2, 0, 1, 2, 0, 1, 2))
	one(impl.FixFirst(i, i, first, 1)).is(t, constantByDefinition(i, i, 1))
	one(impl.FixFirst(i, i, second, 1)).is(t, identityByDefinition(i))
	one(impl.FixSecond(i, i, first, 1)).is(t, identityByDefinition(i))
	one(impl.FixSecond(i, i, second, 1)).is(t, constantByDefinition(i, i, 1))
	one(impl.FixFirst(i, cyclic(2), mixture(), 1)).is(t, mapped(cyclic(2), cyclic(6), list(0), list(0, 3)))
	one(impl.FixSecond(i, cyclic(2), mixture(), 0)).is(t, mapped(i, cyclic(6), list(0, 0), list(0, 2, 0)))
	pairs := identityByDefinition(product(longChain(), backwards()))
	one(impl.FixFirst(longChain(), backwards(), pairs, 1)).is(t, mapped(backwards(), pairs.Target, list(2, 3), list(9, 10, 11)))
	one(impl.FixSecond(longChain(), backwards(), pairs, 0)).is(t, mapped(longChain(), pairs.Target, list(0, 2, 4), list(2, 5, 8, 11, 14, 17)))
	// No other variable is left, and all of the largest category.
	one(impl.FixFirst(i, impl.Category{}, impl.Functor{Target: i}, 1)).is(t, impl.Functor{Target: i})
	one(impl.FixSecond(impl.Category{}, i, impl.Functor{Target: i}, 1)).is(t, impl.Functor{Target: i})
	one(impl.FixFirst(discrete(1), largest(), identityByDefinition(largest()), 0)).is(t, identityByDefinition(largest()))
	one(impl.FixSecond(discrete(1), largest(), identityByDefinition(largest()), 7)).is(t, constantByDefinition(discrete(1), largest(), 7))
	one(impl.FixFirst(largest(), discrete(1), toOne(largest()), 7)).is(t, toOne(discrete(1)))
}

// checkVariableErrors checks the errors of a function of a functor of two variables that come before all
// others.
func checkVariableErrors(t *testing.T, call func(a, b impl.Category, f impl.Functor) result) {
	t.Helper()
	checkTwoErrors(t, func(c, d impl.Category) result { return call(c, d, identityByDefinition(interval())) })
	checkCategoryErrors(t, func(c impl.Category) result { return call(c, discrete(1), identityByDefinition(c)) })
	for _, good := range []impl.Category{{}, interval(), largest()} {
		checkFunctorErrors(t, func(f impl.Functor) result { return call(good, discrete(1), f) })
	}
	checkFunctorErrors(t, func(f impl.Functor) result { return call(f.Source, discrete(1), f) })
	checkFunctorErrors(t, func(f impl.Functor) result { return call(discrete(1), f.Source, f) })
}

// otherSources are functors that do not lead from the product of two categories.
func otherSources() []struct {
	a, b impl.Category
	f    impl.Functor
} {
	type other = struct {
		a, b impl.Category
		f    impl.Functor
	}
	i := interval()
	bad := []other{
		{i, cyclic(2), toOne(product(i, i))}, {i, cyclic(2), toOne(product(cyclic(2), i))}, {i, i, toOne(i)}, {i, i, toOne(longChain())},
		{i, i, impl.Functor{Target: i}}, {discrete(2), discrete(2), toOne(discrete(3))}, {discrete(2), discrete(2), toOne(discrete(5))},
		// Products that are not within the limits, by their objects, their arrows, or both.
		{discrete(3), discrete(3), toOne(discrete(8))}, {discrete(3), discrete(3), impl.Functor{Target: discrete(1)}},
		{cyclic(7), cyclic(6), toOne(cyclic(impl.MaxArrows))}, {largest(), largest(), identityByDefinition(largest())},
	}
	for _, pair := range differentCategories() {
		bad = append(bad, other{pair[0], discrete(1), toOne(pair[1])}, other{discrete(1), pair[0], toOne(pair[1])}, other{discrete(1), pair[1], toOne(pair[0])})
	}
	return bad
}

func TestFixErrors(t *testing.T) {
	for _, s := range otherSources() {
		for x := range s.a.Objects {
			one(impl.FixFirst(s.a, s.b, s.f, x)).fails(t, impl.ErrState)
		}
		for y := range s.b.Objects {
			one(impl.FixSecond(s.a, s.b, s.f, y)).fails(t, impl.ErrState)
		}
		// An object that does not exist comes first.
		for _, x := range noNumbers(s.a.Objects) {
			one(impl.FixFirst(s.a, s.b, s.f, x)).fails(t, impl.ErrRange)
		}
		for _, y := range noNumbers(s.b.Objects) {
			one(impl.FixSecond(s.a, s.b, s.f, y)).fails(t, impl.ErrRange)
		}
	}
	for _, x := range noNumbers(2) {
		one(impl.FixFirst(interval(), longChain(), toOne(product(interval(), longChain())), x)).fails(t, impl.ErrRange)
		one(impl.FixSecond(longChain(), interval(), toOne(product(longChain(), interval())), x)).fails(t, impl.ErrRange)
	}
	one(impl.FixFirst(impl.Category{}, interval(), impl.Functor{}, 0)).fails(t, impl.ErrRange)
	one(impl.FixSecond(interval(), impl.Category{}, impl.Functor{}, 0)).fails(t, impl.ErrRange)
	for _, x := range list(0, 1, -1, 8) {
		checkVariableErrors(t, func(a, b impl.Category, f impl.Functor) result { return one(impl.FixFirst(a, b, f, x)) })
		checkVariableErrors(t, func(a, b impl.Category, f impl.Functor) result { return one(impl.FixSecond(a, b, f, x)) })
	}
}

// curried has both forms of a functor of two variables.
type curried struct {
	a, b, d impl.Category
	f, g    impl.Functor
}

func curriedOnes(t *testing.T) []curried {
	t.Helper()
	i, s := interval(), steps().category
	return []curried{
		{i, i, i, mapped(product(i, i), i, list(0, 0, 1, 1), list(0, 0, 0, 1, 1, 1, 2, 2, 2)), mapped(i, s, list(0, 2), list(0, 2, 5))},
		{i, i, i, mapped(product(i, i), i, list(0, 1, 0, 1), list(0, 1, 2, 0, 1, 2, 0, 1, 2)), mapped(i, s, list(1, 1), list(3, 3, 3))},
		{i, i, i, mapped(product(i, i), i, list(0, 0, 0, 1), list(0, 0, 0, 0, 1, 1, 0, 1, 2)), mapped(i, s, list(0, 1), list(0, 1, 3))},
		{i, i, i, mapped(product(i, i), i, list(0, 1, 1, 1), list(0, 1, 2, 1, 1, 2, 2, 2, 2)), mapped(i, s, list(1, 2), list(3, 4, 5))},
		{i, backwards(), i, mapped(product(i, backwards()), i, list(0, 0, 0, 1), list(0, 0, 0, 1, 1, 0, 1, 2, 0)), mapped(i, s, list(0, 1), list(0, 1, 3))},
		// The second functor of four from a group of two to one of six is the one that takes 1 to 3.
		{i, cyclic(2), cyclic(6), mixture(), mapped(i, functorCategory(t, cyclic(2), cyclic(6)), list(1, 1), list(6, 8, 6))},
		{discrete(1), noncommuting(), noncommuting(), identityByDefinition(noncommuting()), constantByDefinition(discrete(1), functorCategory(t, noncommuting(), noncommuting()), 2)},
		{noncommuting(), discrete(1), noncommuting(), identityByDefinition(noncommuting()), identityByDefinition(noncommuting())},
		{cyclic(impl.MaxTarget), discrete(1), cyclic(impl.MaxTarget), identityByDefinition(cyclic(impl.MaxTarget)), identityByDefinition(cyclic(impl.MaxTarget))},
		{largest(), discrete(1), discrete(1), toOne(largest()), toOne(largest())},
		{largest(), impl.Category{}, interval(), impl.Functor{Target: i}, toOne(largest())},
		{impl.Category{}, i, i, impl.Functor{Target: i}, impl.Functor{Target: s}},
		{impl.Category{}, i, impl.Category{}, impl.Functor{}, impl.Functor{}},
		{i, impl.Category{}, impl.Category{}, impl.Functor{}, toOne(i)},
		{impl.Category{}, impl.Category{}, impl.Category{}, impl.Functor{}, impl.Functor{Target: discrete(1)}},
	}
}

func TestCurryFunctor(t *testing.T) {
	for _, s := range curriedOnes(t) {
		one(impl.CurryFunctor(s.a, s.b, s.f)).is(t, s.g)
		one(impl.UncurryFunctor(s.a, s.b, s.d, s.g)).is(t, s.f)
	}
}

func TestCurryFunctorErrors(t *testing.T) {
	for _, s := range otherSources() {
		one(impl.CurryFunctor(s.a, s.b, s.f)).fails(t, impl.ErrState)
	}
	for _, pair := range spacesBeyond() {
		one(impl.CurryFunctor(impl.Category{}, pair[0], impl.Functor{Target: pair[1]})).fails(t, impl.ErrLimit)
		if pair[1].Objects > 0 {
			one(impl.CurryFunctor(discrete(1), pair[0], constantByDefinition(pair[0], pair[1], 0))).fails(t, impl.ErrLimit)
		}
		// Another source comes before the limits.
		if pair[0].Objects > 0 {
			one(impl.CurryFunctor(discrete(1), pair[0], impl.Functor{Target: pair[1]})).fails(t, impl.ErrState)
		}
		if pair[1].Objects > 0 {
			one(impl.CurryFunctor(impl.Category{}, pair[0], constantByDefinition(discrete(1), pair[1], 0))).fails(t, impl.ErrState)
		}
	}
	one(impl.CurryFunctor(discrete(1), interval(), identityByDefinition(cyclic(impl.MaxTarget+1)))).fails(t, impl.ErrState)
	// The limits are those of the functor category of the second variable.
	one(impl.CurryFunctor(cyclic(10), discrete(1), toOne(cyclic(10)))).is(t, toOne(cyclic(10)))
	one(impl.CurryFunctor(discrete(1), cyclic(10), toOne(cyclic(10)))).fails(t, impl.ErrLimit)
	checkVariableErrors(t, func(a, b impl.Category, f impl.Functor) result { return one(impl.CurryFunctor(a, b, f)) })
}

func TestUncurryFunctorErrors(t *testing.T) {
	i, s := interval(), steps().category
	// Another source comes before all limits, and before another target.
	for _, pair := range differentCategories() {
		one(impl.UncurryFunctor(pair[0], discrete(1), discrete(1), toOne(pair[1]))).fails(t, impl.ErrState)
		one(impl.UncurryFunctor(pair[1], cyclic(10), largest(), identityByDefinition(pair[0]))).fails(t, impl.ErrState)
		one(impl.UncurryFunctor(pair[0], largest(), discrete(1), toOne(pair[1]))).fails(t, impl.ErrState)
	}
	// The limits of the functor category come before another target, and before those of the product.
	for _, pair := range spacesBeyond() {
		for _, a := range []impl.Category{{}, i, largest()} {
			one(impl.UncurryFunctor(a, pair[0], pair[1], toOne(a))).fails(t, impl.ErrLimit)
			one(impl.UncurryFunctor(a, pair[0], pair[1], identityByDefinition(a))).fails(t, impl.ErrLimit)
		}
	}
	// Another target comes before the limits of the product.
	one(impl.UncurryFunctor(i, i, i, identityByDefinition(i))).fails(t, impl.ErrState)
	one(impl.UncurryFunctor(i, i, i, constantByDefinition(i, opposite(s), 0))).fails(t, impl.ErrState)
	one(impl.UncurryFunctor(discrete(1), discrete(1), backwards(), constantByDefinition(discrete(1), backwards(), 0))).fails(t, impl.ErrState)
	one(impl.UncurryFunctor(impl.Category{}, i, i, impl.Functor{})).fails(t, impl.ErrState)
	one(impl.UncurryFunctor(largest(), i, i, identityByDefinition(largest()))).fails(t, impl.ErrState)
	one(impl.UncurryFunctor(largest(), cyclic(2), discrete(1), constantByDefinition(largest(), discrete(2), 0))).fails(t, impl.ErrState)
	one(impl.UncurryFunctor(largest(), cyclic(2), discrete(1), toOne(largest()))).fails(t, impl.ErrLimit)
	one(impl.UncurryFunctor(discrete(3), discrete(3), discrete(1), toOne(discrete(3)))).fails(t, impl.ErrLimit)
	one(impl.UncurryFunctor(discrete(4), discrete(2), discrete(1), toOne(discrete(4)))).is(t, toOne(discrete(8)))
	one(impl.UncurryFunctor(cyclic(20), cyclic(2), discrete(1), toOne(cyclic(20)))).is(t, toOne(product(cyclic(20), cyclic(2))))
	one(impl.UncurryFunctor(cyclic(21), cyclic(2), discrete(1), toOne(cyclic(21)))).fails(t, impl.ErrLimit)
	for _, d := range []impl.Category{{}, i, largest()} {
		checkVariableErrors(t, func(a, b impl.Category, f impl.Functor) result { return one(impl.UncurryFunctor(a, b, d, f)) })
		checkCategoryErrors(t, func(c impl.Category) result { return one(impl.UncurryFunctor(d, d, c, identityByDefinition(d))) })
		checkCategoryErrors(t, func(c impl.Category) result { return one(impl.UncurryFunctor(d, i, c, toOne(i))) })
	}
}

func TestFunctorCategoriesMemory(t *testing.T) {
	i, group := interval(), cyclic(2)
	first := mapped(product(i, group), i, list(0, 1), list(0, 0, 1, 1, 2, 2))
	for label, call := range map[string]func(g *guard) [][]int64{
		"FunctorCategory": func(g *guard) [][]int64 {
			same := g.category(retract())
			c, functors, arrows, code := impl.FunctorCategory(same, same)
			made := slices.Concat(listsOf(c, code), slices.Clone(arrows))
			for _, f := range functors {
				made = append(made, functorListsOf(f, code)...)
			}
			clear(arrows[:cap(arrows)])
			clear(functors[:cap(functors)])
			return made
		},
		"EvaluationFunctor": func(g *guard) [][]int64 {
			return functorListsOf(impl.EvaluationFunctor(g.category(group), g.category(retract()), 0))
		},
		"DiagonalFunctor": func(g *guard) [][]int64 {
			return functorListsOf(impl.DiagonalFunctor(g.category(group), g.category(retract())))
		},
		"DiagonalFunctor of one": func(g *guard) [][]int64 {
			same := g.category(discrete(1))
			return functorListsOf(impl.DiagonalFunctor(same, same))
		},
		"ComposeBefore": func(g *guard) [][]int64 {
			return functorListsOf(impl.ComposeBefore(g.functor(mapped(i, group, list(0, 0), list(0, 1, 0))), g.category(group)))
		},
		"ComposeBehind": func(g *guard) [][]int64 {
			return functorListsOf(impl.ComposeBehind(g.category(i), g.functor(constantByDefinition(group, i, 1))))
		},
		"FixFirst": func(g *guard) [][]int64 {
			return functorListsOf(impl.FixFirst(g.category(i), g.category(group), g.functor(first), 1))
		},
		"FixSecond": func(g *guard) [][]int64 {
			return functorListsOf(impl.FixSecond(g.category(i), g.category(group), g.functor(first), 0))
		},
		"CurryFunctor": func(g *guard) [][]int64 {
			return functorListsOf(impl.CurryFunctor(g.category(i), g.category(group), g.functor(first)))
		},
		"UncurryFunctor": func(g *guard) [][]int64 {
			curried, _ := impl.CurryFunctor(i, group, first)
			return functorListsOf(impl.UncurryFunctor(g.category(i), g.category(group), g.category(i), g.functor(curried)))
		},
	} {
		checkMemory(t, label, call)
	}
}
