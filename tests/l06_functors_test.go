package tests

import (
	"slices"
	"testing"

	"loop.example/g01083/impl"
)

func identityByDefinition(c impl.Category) impl.Functor {
	return impl.Functor{Source: c, Target: c, Objects: counting(int64(len(c.Identity))), Arrows: counting(int64(len(c.From)))}
}

// constantByDefinition maps all of c to the object y of d.
func constantByDefinition(c, d impl.Category, y int64) impl.Functor {
	return impl.Functor{Source: c, Target: d, Objects: repeat(y, int(c.Objects)), Arrows: repeat(d.Identity[y], len(c.From))}
}

// labelledFunctor is a functor, or what is none, and its text or what is wrong with it.
type labelledFunctor struct {
	label string
	f     impl.Functor
}

// describedFunctors are labelled by their texts.
func describedFunctors() []labelledFunctor {
	maps := monoid(list(0, 1, 2, 3), list(1, 1, 2, 2), list(2, 1, 2, 1), list(3, 1, 2, 0))
	return []labelledFunctor{
		{"- | -", impl.Functor{}},
		{"- | -", impl.Functor{Target: retract()}},
		{"0 1 | 0 1 2", impl.Functor{Source: interval(), Target: interval(), Objects: list(0, 1), Arrows: list(0, 1, 2)}},
		{"1 1 | 2 2 2", impl.Functor{Source: interval(), Target: interval(), Objects: list(1, 1), Arrows: list(2, 2, 2)}},
		{"0 1 | 2 0 1", impl.Functor{Source: interval(), Target: backwards(), Objects: list(0, 1), Arrows: list(2, 0, 1)}},
		{"0 2 | 0 2 5", impl.Functor{Source: interval(), Target: longChain(), Objects: list(0, 2), Arrows: list(0, 2, 5)}},
		{"0 0 1 | 0 0 1 0 1 2", impl.Functor{Source: longChain(), Target: interval(), Objects: list(0, 0, 1), Arrows: list(0, 0, 1, 0, 1, 2)}},
		{"0 1 | 0 2 1 3", impl.Functor{Source: parallel(), Target: parallel(), Objects: list(0, 1), Arrows: list(0, 2, 1, 3)}},
		{"0 0 | 0 1 2 0", impl.Functor{Source: parallel(), Target: cyclic(3), Objects: list(0, 0), Arrows: list(0, 1, 2, 0)}},
		{"0 1 | 0 0 1 2 3", impl.Functor{Source: retract(), Target: indiscrete(2), Objects: list(0, 1), Arrows: list(0, 0, 1, 2, 3)}},
		{"0 | 0 3", impl.Functor{Source: cyclic(2), Target: maps, Objects: list(0), Arrows: list(0, 3)}},
		{"0 | 0 24 8 32 16", impl.Functor{Source: cyclic(5), Target: cyclic(impl.MaxArrows), Objects: list(0), Arrows: list(0, 24, 8, 32, 16)}},
		{"7 | 7 10 13 16 19 22 25 28 31 34 37", impl.Functor{Source: cyclic(11), Target: largest(), Objects: list(7), Arrows: list(7, 10, 13, 16, 19, 22, 25, 28, 31, 34, 37)}},
		{"7 6 | 7 6", impl.Functor{Source: discrete(2), Target: discrete(impl.MaxObjects), Objects: list(7, 6), Arrows: list(7, 6)}},
	}
}

// noFunctors are labelled by what is wrong.
func noFunctors() []labelledFunctor {
	var bad []labelledFunctor
	add := func(label string, c, d impl.Category, objects, arrows []int64) {
		bad = append(bad, labelledFunctor{label, impl.Functor{Source: c, Target: d, Objects: objects, Arrows: arrows}})
	}
	for _, objects := range lists(nil, list(0), list(0, 1, 2), list(0, 1, 1), repeat(0, 100)) {
		add("wrong number of objects", interval(), longChain(), objects, list(0, 1, 3))
	}
	for _, arrows := range lists(nil, list(0), list(0, 1), list(0, 1, 3, 3), list(0, 1, 3, 5), repeat(0, 100)) {
		add("wrong number of arrows", interval(), longChain(), list(0, 1), arrows)
	}
	add("objects without a source", impl.Category{}, interval(), list(0), nil)
	add("arrows without a source", impl.Category{}, interval(), nil, list(0))
	add("nothing to map to", interval(), impl.Category{}, list(0, 0), list(0, 0, 0))
	for _, y := range noNumbers(3) {
		add("no object", interval(), longChain(), list(y, 1), list(0, 1, 3))
		add("no last object", interval(), longChain(), list(0, y), list(0, 1, 3))
	}
	for _, g := range noNumbers(6) {
		add("no arrow", interval(), longChain(), list(0, 1), list(g, 1, 3))
		add("no arrow in between", interval(), longChain(), list(0, 1), list(0, g, 3))
		add("no last arrow", interval(), longChain(), list(0, 1), list(0, 1, g))
	}
	add("another source of an arrow", interval(), longChain(), list(0, 2), list(0, 4, 5))
	add("another target of an arrow", interval(), longChain(), list(0, 1), list(0, 2, 3))
	add("an arrow backwards", interval(), indiscrete(2), list(0, 1), list(0, 2, 3))
	add("another identity", interval(), longChain(), list(0, 1), list(0, 1, 5))
	add("no identity", cyclic(2), cyclic(2), list(0), list(1, 1))
	add("no identity, but all composites", monoid(list(0, 1), list(1, 1)), monoid(list(0, 1), list(1, 1)), list(0), list(1, 1))
	add("another composite", cyclic(2), cyclic(3), list(0), list(0, 1))
	add("another composite of several", cyclic(impl.MaxArrows), cyclic(impl.MaxArrows), list(0), append(counting(impl.MaxArrows-1), 0))
	add("composites the other way", noncommuting(), opposite(noncommuting()), list(0), counting(3))
	return bad
}

// noncommuting has two arrows beside the identity that do not depend on what comes behind them.
func noncommuting() impl.Category { return monoid(list(0, 1, 2), list(1, 1, 1), list(2, 2, 2)) }

func opposite(c impl.Category) impl.Category { return namedOpposite(c).category() }

func (g *guard) functor(f impl.Functor) impl.Functor {
	return impl.Functor{
		Source: g.category(f.Source), Target: g.category(f.Target),
		Objects: g.list(f.Objects...), Arrows: g.list(f.Arrows...),
	}
}

// functorListsOf lists all lists of a functor that is a result.
func functorListsOf(f impl.Functor, code int64) [][]int64 {
	return slices.Concat(listsOf(f.Source, code), listsOf(f.Target, code), lists(f.Objects, f.Arrows))
}

func TestIsFunctor(t *testing.T) {
	for _, s := range describedFunctors() {
		expect(t, s.label, impl.IsFunctor(s.f), true)
	}
	for _, s := range noFunctors() {
		expect(t, s.label, impl.IsFunctor(s.f), false)
	}
	for _, s := range samples() {
		expect(t, s.label, impl.IsFunctor(identityByDefinition(s.c)), true)
	}
	for _, s := range slices.Concat(noShapes(), lawless()) {
		expect(t, s.label, impl.IsFunctor(identityByDefinition(s.c)), false)
		expect(t, s.label, impl.IsFunctor(impl.Functor{Target: s.c}), false)
		// Nothing is wrong with the images.
		toPoint := impl.Functor{Source: s.c, Target: discrete(1), Objects: repeat(0, len(s.c.Identity)), Arrows: repeat(0, len(s.c.From))}
		expect(t, s.label, impl.IsFunctor(toPoint), false)
	}
}

func TestIdentityFunctor(t *testing.T) {
	one(impl.IdentityFunctor(interval())).is(t, impl.Functor{Source: interval(), Target: interval(), Objects: list(0, 1), Arrows: list(0, 1, 2)})
	for _, s := range append(samples(), sample{"largest", largest()}) {
		one(impl.IdentityFunctor(s.c)).is(t, identityByDefinition(s.c))
	}
	checkCategoryErrors(t, func(c impl.Category) result { return one(impl.IdentityFunctor(c)) })
}

// noFunctorsAtAll are the values that are no functors because of their images or of a category.
func noFunctorsAtAll() []labelledFunctor {
	bad := noFunctors()
	for _, s := range slices.Concat(noShapes(), lawless()) {
		bad = append(bad, labelledFunctor{s.label, identityByDefinition(s.c)}, labelledFunctor{s.label, impl.Functor{Target: s.c}})
	}
	return bad
}

// checkFunctorErrors checks the errors of a function of a functor that come before all others.
func checkFunctorErrors(t *testing.T, call func(f impl.Functor) result) {
	t.Helper()
	for _, s := range noFunctorsAtAll() {
		if r := call(s.f); r.code != impl.ErrInvalid {
			t.Errorf("%s: got code %d, want ErrInvalid", s.label, r.code)
		} else {
			r.fails(t, impl.ErrInvalid)
		}
	}
}

// checkTwoFunctorsErrors is checkFunctorErrors for a function of two functors.
func checkTwoFunctorsErrors(t *testing.T, call func(f, g impl.Functor) result) {
	t.Helper()
	for _, good := range []impl.Functor{{}, identityByDefinition(interval()), identityByDefinition(largest())} {
		checkFunctorErrors(t, func(f impl.Functor) result { return call(f, good) })
		checkFunctorErrors(t, func(f impl.Functor) result { return call(good, f) })
	}
	checkFunctorErrors(t, func(f impl.Functor) result { return call(f, f) })
}

// toOne is the functor from c to the category with one arrow.
func toOne(c impl.Category) impl.Functor { return constantByDefinition(c, discrete(1), 0) }

// differentCategories are pairs of categories that differ in one field only, or in order only.
func differentCategories() [][2]impl.Category {
	return [][2]impl.Category{
		{interval(), backwards()}, {interval(), identitiesFirst()}, {interval(), opposite(interval())}, {interval(), discrete(2)}, {interval(), longChain()},
		{discrete(1), impl.Category{}}, {idempotent(), cyclic(2)}, {cyclic(2), identityLast()}, {cyclic(2), cyclic(3)},
		{largest(), cyclic(impl.MaxArrows)}, {noncommuting(), opposite(noncommuting())},
	}
}

func TestConstantFunctor(t *testing.T) {
	one(impl.ConstantFunctor(interval(), interval(), 1)).is(t, impl.Functor{Source: interval(), Target: interval(), Objects: list(1, 1), Arrows: list(2, 2, 2)})
	one(impl.ConstantFunctor(longChain(), backwards(), 0)).is(t, impl.Functor{Source: longChain(), Target: backwards(), Objects: repeat(0, 3), Arrows: repeat(2, 6)})
	one(impl.ConstantFunctor(impl.Category{}, retract(), 1)).is(t, impl.Functor{Target: retract()})
	one(impl.ConstantFunctor(largest(), largest(), 7)).is(t, constantByDefinition(largest(), largest(), 7))
	for _, y := range list(0, 1, -1, 7) {
		checkTwoErrors(t, func(c, d impl.Category) result { return one(impl.ConstantFunctor(c, d, y)) })
	}
	for _, y := range noNumbers(2) {
		one(impl.ConstantFunctor(longChain(), interval(), y)).fails(t, impl.ErrRange)
		one(impl.ConstantFunctor(impl.Category{}, interval(), y)).fails(t, impl.ErrRange)
	}
	one(impl.ConstantFunctor(interval(), impl.Category{}, 0)).fails(t, impl.ErrRange)
	one(impl.ConstantFunctor(impl.Category{}, impl.Category{}, 0)).fails(t, impl.ErrRange)
}

func TestThenFunctors(t *testing.T) {
	constant := constantByDefinition(interval(), interval(), 1)
	shifted := impl.Functor{Source: interval(), Target: longChain(), Objects: list(1, 2), Arrows: list(3, 4, 5)}
	one(impl.ThenFunctors(constant, shifted)).is(t, constantByDefinition(interval(), longChain(), 2))
	one(impl.ThenFunctors(constant, constant)).is(t, constant)
	collapsed := impl.Functor{Source: longChain(), Target: interval(), Objects: list(0, 0, 1), Arrows: list(0, 0, 1, 0, 1, 2)}
	one(impl.ThenFunctors(shifted, collapsed)).is(t, identityByDefinition(interval()))
	one(impl.ThenFunctors(collapsed, shifted)).is(t, impl.Functor{Source: longChain(), Target: longChain(), Objects: list(1, 1, 2), Arrows: list(3, 3, 4, 3, 4, 5)})
	one(impl.ThenFunctors(impl.Functor{}, impl.Functor{Target: interval()})).is(t, impl.Functor{Target: interval()})
	one(impl.ThenFunctors(identityByDefinition(largest()), toOne(largest()))).is(t, toOne(largest()))
	// A nil list and an empty one are the same, and so are these categories.
	empty := impl.Category{From: list(), To: list(), Identity: list(), Composites: lists()}
	one(impl.ThenFunctors(identityByDefinition(empty), impl.Functor{Target: interval()})).is(t, impl.Functor{Target: interval()})
	for _, pair := range differentCategories() {
		one(impl.ThenFunctors(identityByDefinition(pair[0]), identityByDefinition(pair[1]))).fails(t, impl.ErrState)
		one(impl.ThenFunctors(identityByDefinition(pair[1]), toOne(pair[0]))).fails(t, impl.ErrState)
	}
	// Only the target of the first and the source of the second one matter.
	one(impl.ThenFunctors(shifted, constant)).fails(t, impl.ErrState)
	checkTwoFunctorsErrors(t, func(f, g impl.Functor) result { return one(impl.ThenFunctors(f, g)) })
}

// askedFunctor is a functor and whether it is faithful, full and essentially surjective.
type askedFunctor struct {
	label                           string
	f                               impl.Functor
	isFaithful, isFull, isEssential bool
}

// askedFunctors are no isomorphisms.
func askedFunctors() []askedFunctor {
	apart := impl.Functor{Source: sum(cyclic(2), cyclic(2)), Target: sum(cyclic(2), cyclic(2)), Objects: list(0, 0), Arrows: list(0, 1, 0, 1)}
	return []askedFunctor{
		{"constant", constantByDefinition(interval(), interval(), 1), true, false, false},
		{"constant to the source", constantByDefinition(interval(), interval(), 0), true, false, false},
		{"nothing to something", impl.Functor{Target: retract()}, true, true, false},
		{"two of three", impl.Functor{Source: interval(), Target: longChain(), Objects: list(0, 2), Arrows: list(0, 2, 5)}, true, true, false},
		{"a step left out", impl.Functor{Source: longChain(), Target: interval(), Objects: list(0, 0, 1), Arrows: list(0, 0, 1, 0, 1, 2)}, true, false, true},
		{"two arrows to a group", impl.Functor{Source: parallel(), Target: cyclic(3), Objects: list(0, 0), Arrows: list(0, 1, 2, 0)}, true, false, true},
		{"two arrows to one", impl.Functor{Source: parallel(), Target: interval(), Objects: list(0, 1), Arrows: list(0, 1, 1, 2)}, false, true, true},
		{"two arrows to one of two", impl.Functor{Source: parallel(), Target: parallel(), Objects: list(0, 1), Arrows: list(0, 2, 2, 3)}, false, false, true},
		{"an idempotent to an identity", impl.Functor{Source: retract(), Target: indiscrete(2), Objects: list(0, 1), Arrows: list(0, 0, 1, 2, 3)}, false, true, true},
		{"an equivalence", toOne(indiscrete(2)), true, true, true},
		{"one of two isomorphic objects", constantByDefinition(discrete(1), indiscrete(2), 1), true, true, true},
		{"a part of a retract", constantByDefinition(discrete(1), retract(), 1), true, true, false},
		{"a retract", impl.Functor{Source: idempotent(), Target: retract(), Objects: list(0), Arrows: list(0, 1)}, true, true, false},
		{"identities only", impl.Functor{Source: discrete(2), Target: interval(), Objects: list(0, 1), Arrows: list(0, 2)}, true, false, true},
		{"all of a group to the unit", constantByDefinition(cyclic(2), idempotent(), 0), false, false, true},
		{"objects to one", toOne(discrete(2)), true, false, true},
		{"as many objects, but not all", constantByDefinition(discrete(2), discrete(2), 1), true, false, false},
		{"both parts to the first", apart, true, false, false},
		{"a group to nearly all", constantByDefinition(cyclic(impl.MaxArrows), largest(), 7), false, false, false},
		{"the largest to one", toOne(largest()), false, false, true},
	}
}

func TestKindsOfFunctors(t *testing.T) {
	for _, s := range askedFunctors() {
		one(impl.IsFaithful(s.f)).is(t, s.isFaithful)
		one(impl.IsFull(s.f)).is(t, s.isFull)
		one(impl.IsEssentiallySurjective(s.f)).is(t, s.isEssential)
		one(impl.IsIsomorphism(s.f)).is(t, false)
		one(impl.InverseFunctor(s.f)).fails(t, impl.ErrNotFound)
		if t.Failed() {
			t.Fatal(s.label)
		}
	}
	for _, s := range append(samples(), sample{"largest", largest()}) {
		f := identityByDefinition(s.c)
		one(impl.IsFaithful(f)).is(t, true)
		one(impl.IsFull(f)).is(t, true)
		one(impl.IsEssentiallySurjective(f)).is(t, true)
		one(impl.IsIsomorphism(f)).is(t, true)
		one(impl.InverseFunctor(f)).is(t, f)
	}
	checkFunctorErrors(t, func(f impl.Functor) result { return one(impl.IsFaithful(f)) })
	checkFunctorErrors(t, func(f impl.Functor) result { return one(impl.IsFull(f)) })
	checkFunctorErrors(t, func(f impl.Functor) result { return one(impl.IsEssentiallySurjective(f)) })
	checkFunctorErrors(t, func(f impl.Functor) result { return one(impl.IsIsomorphism(f)) })
}

func TestInverseFunctor(t *testing.T) {
	turned := impl.Functor{Source: interval(), Target: backwards(), Objects: list(0, 1), Arrows: list(2, 0, 1)}
	one(impl.IsIsomorphism(turned)).is(t, true)
	one(impl.InverseFunctor(turned)).is(t, impl.Functor{Source: backwards(), Target: interval(), Objects: list(0, 1), Arrows: list(1, 2, 0)})
	exchanged := impl.Functor{Source: parallel(), Target: parallel(), Objects: list(0, 1), Arrows: list(0, 2, 1, 3)}
	one(impl.InverseFunctor(exchanged)).is(t, exchanged)
	round := impl.Functor{Source: discrete(3), Target: discrete(3), Objects: list(1, 2, 0), Arrows: list(1, 2, 0)}
	one(impl.InverseFunctor(round)).is(t, impl.Functor{Source: discrete(3), Target: discrete(3), Objects: list(2, 0, 1), Arrows: list(2, 0, 1)})
	one(impl.InverseFunctor(impl.Functor{})).is(t, impl.Functor{})
	checkFunctorErrors(t, func(f impl.Functor) result { return one(impl.InverseFunctor(f)) })
}

func TestImageArrows(t *testing.T) {
	one(impl.ImageArrows(constantByDefinition(interval(), interval(), 1))).is(t, list(2))
	one(impl.ImageArrows(impl.Functor{Target: retract()})).is(t, list())
	// Two arrows that do not follow one another are mapped to two that do.
	steps := impl.Functor{Source: sum(interval(), interval()), Target: longChain(), Objects: list(0, 1, 1, 2), Arrows: list(0, 1, 3, 3, 4, 5)}
	one(impl.ImageArrows(steps)).is(t, counting(6))
	one(impl.ImageArrows(impl.Functor{Source: interval(), Target: longChain(), Objects: list(0, 2), Arrows: list(0, 2, 5)})).is(t, list(0, 2, 5))
	one(impl.ImageArrows(impl.Functor{Source: interval(), Target: backwards(), Objects: list(0, 1), Arrows: list(2, 0, 1)})).is(t, counting(3))
	// The image of one arrow has all of its powers.
	one(impl.ImageArrows(impl.Functor{Source: interval(), Target: cyclic(6), Objects: list(0, 0), Arrows: list(0, 2, 0)})).is(t, list(0, 2, 4))
	one(impl.ImageArrows(identityByDefinition(largest()))).is(t, counting(impl.MaxArrows))
	checkFunctorErrors(t, func(f impl.Functor) result { return one(impl.ImageArrows(f)) })
}

func TestKernelCongruence(t *testing.T) {
	one(impl.KernelCongruence(constantByDefinition(interval(), interval(), 1))).is(t, list(0, 1, 2))
	one(impl.KernelCongruence(impl.Functor{Target: retract()})).is(t, list())
	one(impl.KernelCongruence(impl.Functor{Source: parallel(), Target: interval(), Objects: list(0, 1), Arrows: list(0, 1, 1, 2)})).is(t, list(0, 1, 1, 2))
	one(impl.KernelCongruence(toOne(parallel()))).is(t, list(0, 1, 1, 2))
	one(impl.KernelCongruence(toOne(indiscrete(2)))).is(t, counting(4))
	one(impl.KernelCongruence(impl.Functor{Source: retract(), Target: indiscrete(2), Objects: list(0, 1), Arrows: list(0, 0, 1, 2, 3)})).is(t, list(0, 0, 1, 2, 3))
	one(impl.KernelCongruence(impl.Functor{Source: cyclic(6), Target: cyclic(3), Objects: list(0), Arrows: list(0, 1, 2, 0, 1, 2)})).is(t, list(0, 1, 2, 0, 1, 2))
	one(impl.KernelCongruence(toOne(cyclic(impl.MaxArrows)))).is(t, repeat(0, impl.MaxArrows))
	one(impl.KernelCongruence(toOne(largest()))).is(t, append(counting(7), repeat(7, 33)...))
	one(impl.KernelCongruence(identityByDefinition(largest()))).is(t, counting(impl.MaxArrows))
	checkFunctorErrors(t, func(f impl.Functor) result { return one(impl.KernelCongruence(f)) })
}

func TestOppositeFunctor(t *testing.T) {
	for _, s := range describedFunctors() {
		want := impl.Functor{Source: opposite(s.f.Source), Target: opposite(s.f.Target), Objects: s.f.Objects, Arrows: s.f.Arrows}
		one(impl.OppositeFunctor(s.f)).is(t, want)
	}
	checkFunctorErrors(t, func(f impl.Functor) result { return one(impl.OppositeFunctor(f)) })
}

func product(c, d impl.Category) impl.Category { return namedProduct(c, d).category() }

func TestProductFunctor(t *testing.T) {
	constant := constantByDefinition(interval(), interval(), 1)
	swapped := impl.Functor{Source: parallel(), Target: parallel(), Objects: list(0, 1), Arrows: list(0, 2, 1, 3)}
	one(impl.ProductFunctor(constant, swapped)).is(t, impl.Functor{
		Source: product(interval(), parallel()), Target: product(interval(), parallel()),
		Objects: list(2, 3, 2, 3), Arrows: list(8, 10, 9, 11, 8, 10, 9, 11, 8, 10, 9, 11),
	})
	one(impl.ProductFunctor(swapped, constant)).is(t, impl.Functor{
		Source: product(parallel(), interval()), Target: product(parallel(), interval()),
		Objects: list(1, 1, 3, 3), Arrows: list(2, 2, 2, 8, 8, 8, 5, 5, 5, 11, 11, 11),
	})
	one(impl.ProductFunctor(impl.Functor{}, identityByDefinition(largest()))).is(t, impl.Functor{})
	one(impl.ProductFunctor(identityByDefinition(largest()), impl.Functor{Target: discrete(1)})).is(t, impl.Functor{Target: largest()})
	one(impl.ProductFunctor(toOne(discrete(2)), toOne(discrete(4)))).is(t, toOne(discrete(8)))
	one(impl.ProductFunctor(toOne(cyclic(2)), toOne(cyclic(20)))).is(t, toOne(product(cyclic(2), cyclic(20))))
	// Too large are the source, the target, and both.
	one(impl.ProductFunctor(toOne(discrete(3)), toOne(discrete(3)))).fails(t, impl.ErrLimit)
	one(impl.ProductFunctor(toOne(cyclic(2)), toOne(cyclic(21)))).fails(t, impl.ErrLimit)
	one(impl.ProductFunctor(impl.Functor{Target: discrete(3)}, impl.Functor{Target: discrete(3)})).fails(t, impl.ErrLimit)
	one(impl.ProductFunctor(impl.Functor{Target: cyclic(21)}, identityByDefinition(cyclic(2)))).fails(t, impl.ErrLimit)
	one(impl.ProductFunctor(identityByDefinition(largest()), identityByDefinition(largest()))).fails(t, impl.ErrLimit)
	checkTwoFunctorsErrors(t, func(f, g impl.Functor) result { return one(impl.ProductFunctor(f, g)) })
}

func TestProjections(t *testing.T) {
	source := product(interval(), cyclic(2))
	one(impl.FirstProjection(interval(), cyclic(2))).is(t, impl.Functor{Source: source, Target: interval(), Objects: list(0, 1), Arrows: list(0, 0, 1, 1, 2, 2)})
	one(impl.SecondProjection(interval(), cyclic(2))).is(t, impl.Functor{Source: source, Target: cyclic(2), Objects: list(0, 0), Arrows: list(0, 1, 0, 1, 0, 1)})
	one(impl.FirstProjection(discrete(2), discrete(3))).is(t, impl.Functor{Source: discrete(6), Target: discrete(2), Objects: list(0, 0, 0, 1, 1, 1), Arrows: list(0, 0, 0, 1, 1, 1)})
	one(impl.SecondProjection(discrete(2), discrete(3))).is(t, impl.Functor{Source: discrete(6), Target: discrete(3), Objects: list(0, 1, 2, 0, 1, 2), Arrows: list(0, 1, 2, 0, 1, 2)})
	one(impl.FirstProjection(impl.Category{}, largest())).is(t, impl.Functor{})
	one(impl.SecondProjection(impl.Category{}, largest())).is(t, impl.Functor{Target: largest()})
	one(impl.FirstProjection(largest(), impl.Category{})).is(t, impl.Functor{Target: largest()})
	one(impl.FirstProjection(largest(), discrete(1))).is(t, identityByDefinition(largest()))
	one(impl.SecondProjection(largest(), discrete(1))).is(t, toOne(largest()))
	for _, call := range []func(c, d impl.Category) (impl.Functor, int64){impl.FirstProjection, impl.SecondProjection} {
		one(call(discrete(3), discrete(3))).fails(t, impl.ErrLimit)
		one(call(cyclic(2), cyclic(21))).fails(t, impl.ErrLimit)
		one(call(largest(), largest())).fails(t, impl.ErrLimit)
		checkTwoErrors(t, func(c, d impl.Category) result { return one(call(c, d)) })
	}
}

func TestPairFunctors(t *testing.T) {
	turned := impl.Functor{Source: interval(), Target: backwards(), Objects: list(0, 1), Arrows: list(2, 0, 1)}
	raised := impl.Functor{Source: interval(), Target: longChain(), Objects: list(0, 2), Arrows: list(0, 2, 5)}
	one(impl.PairFunctors(turned, raised)).is(t, impl.Functor{Source: interval(), Target: product(backwards(), longChain()), Objects: list(0, 5), Arrows: list(12, 2, 11)})
	one(impl.PairFunctors(raised, turned)).is(t, impl.Functor{Source: interval(), Target: product(longChain(), backwards()), Objects: list(0, 5), Arrows: list(2, 6, 16)})
	one(impl.PairFunctors(impl.Functor{}, impl.Functor{Target: interval()})).is(t, impl.Functor{})
	one(impl.PairFunctors(toOne(largest()), identityByDefinition(largest()))).is(t, identityByDefinition(largest()))
	one(impl.PairFunctors(impl.Functor{Target: discrete(3)}, impl.Functor{Target: discrete(3)})).fails(t, impl.ErrLimit)
	one(impl.PairFunctors(identityByDefinition(cyclic(7)), identityByDefinition(cyclic(7)))).fails(t, impl.ErrLimit)
	one(impl.PairFunctors(identityByDefinition(largest()), identityByDefinition(largest()))).fails(t, impl.ErrLimit)
	// The sources differ, whether or not there is a product of the targets.
	for _, pair := range differentCategories() {
		one(impl.PairFunctors(toOne(pair[0]), toOne(pair[1]))).fails(t, impl.ErrState)
		one(impl.PairFunctors(identityByDefinition(pair[0]), toOne(pair[1]))).fails(t, impl.ErrState)
	}
	one(impl.PairFunctors(identityByDefinition(largest()), identityByDefinition(cyclic(impl.MaxArrows)))).fails(t, impl.ErrState)
	checkTwoFunctorsErrors(t, func(f, g impl.Functor) result { return one(impl.PairFunctors(f, g)) })
}

func TestCopairFunctors(t *testing.T) {
	raised := impl.Functor{Source: interval(), Target: longChain(), Objects: list(0, 2), Arrows: list(0, 2, 5)}
	constant := constantByDefinition(cyclic(2), longChain(), 1)
	one(impl.CopairFunctors(raised, constant)).is(t, impl.Functor{Source: sum(interval(), cyclic(2)), Target: longChain(), Objects: list(0, 2, 1), Arrows: list(0, 2, 5, 3, 3)})
	one(impl.CopairFunctors(constant, raised)).is(t, impl.Functor{Source: sum(cyclic(2), interval()), Target: longChain(), Objects: list(1, 0, 2), Arrows: list(3, 3, 0, 2, 5)})
	one(impl.CopairFunctors(impl.Functor{}, impl.Functor{})).is(t, impl.Functor{})
	one(impl.CopairFunctors(impl.Functor{Target: largest()}, identityByDefinition(largest()))).is(t, identityByDefinition(largest()))
	one(impl.CopairFunctors(toOne(discrete(7)), toOne(cyclic(33)))).is(t, toOne(largest()))
	one(impl.CopairFunctors(toOne(discrete(4)), toOne(discrete(5)))).fails(t, impl.ErrLimit)
	one(impl.CopairFunctors(toOne(cyclic(20)), toOne(cyclic(21)))).fails(t, impl.ErrLimit)
	one(impl.CopairFunctors(identityByDefinition(largest()), identityByDefinition(largest()))).fails(t, impl.ErrLimit)
	// The targets differ, whether or not there is a sum of the sources.
	for _, pair := range differentCategories() {
		one(impl.CopairFunctors(impl.Functor{Target: pair[0]}, impl.Functor{Target: pair[1]})).fails(t, impl.ErrState)
		one(impl.CopairFunctors(identityByDefinition(pair[0]), identityByDefinition(pair[1]))).fails(t, impl.ErrState)
	}
	one(impl.CopairFunctors(identityByDefinition(largest()), identityByDefinition(cyclic(impl.MaxArrows)))).fails(t, impl.ErrState)
	checkTwoFunctorsErrors(t, func(f, g impl.Functor) result { return one(impl.CopairFunctors(f, g)) })
}

func TestInclusionFunctor(t *testing.T) {
	one(impl.InclusionFunctor(longChain(), list(0, 2, 5))).is(t, impl.Functor{Source: interval(), Target: longChain(), Objects: list(0, 2), Arrows: list(0, 2, 5)})
	one(impl.InclusionFunctor(longChain(), list(3, 5))).is(t, impl.Functor{Source: discrete(2), Target: longChain(), Objects: list(1, 2), Arrows: list(3, 5)})
	one(impl.InclusionFunctor(backwards(), list(1))).is(t, impl.Functor{Source: discrete(1), Target: backwards(), Objects: list(1), Arrows: list(1)})
	one(impl.InclusionFunctor(retract(), nil)).is(t, impl.Functor{Target: retract()})
	one(impl.InclusionFunctor(impl.Category{}, list())).is(t, impl.Functor{})
	one(impl.InclusionFunctor(largest(), counting(impl.MaxArrows))).is(t, identityByDefinition(largest()))
	checkArrowsErrors(t, func(c impl.Category, arrows []int64) result { return one(impl.InclusionFunctor(c, arrows)) })
	for _, arrows := range lists(list(1), list(0, 1), list(1, 2), list(2, 0), list(0, 0), list(0, 1, 1, 2), list(0, 2, 1)) {
		one(impl.InclusionFunctor(interval(), arrows)).fails(t, impl.ErrState)
	}
	one(impl.InclusionFunctor(longChain(), list(0, 1, 3, 4, 5))).fails(t, impl.ErrState)
}

func TestQuotientFunctor(t *testing.T) {
	one(impl.QuotientFunctor(parallel(), list(0, 1, 1, 2))).is(t, impl.Functor{Source: parallel(), Target: interval(), Objects: list(0, 1), Arrows: list(0, 1, 1, 2)})
	one(impl.QuotientFunctor(cyclic(6), list(0, 1, 2, 0, 1, 2))).is(t, impl.Functor{Source: cyclic(6), Target: cyclic(3), Objects: list(0), Arrows: list(0, 1, 2, 0, 1, 2)})
	one(impl.QuotientFunctor(backwards(), counting(3))).is(t, identityByDefinition(backwards()))
	one(impl.QuotientFunctor(impl.Category{}, nil)).is(t, impl.Functor{})
	one(impl.QuotientFunctor(cyclic(impl.MaxArrows), repeat(0, impl.MaxArrows))).is(t, toOne(cyclic(impl.MaxArrows)))
	for _, p := range lists(nil, list(0, 1, 1), list(0, 1, 1, 2, 3), list(0, 1, 1, 0), list(1, 0, 0, 2), list(0, 1, 1, 3), list(0, -1, -1, 1), counting(1000)) {
		one(impl.QuotientFunctor(parallel(), p)).fails(t, impl.ErrInvalid)
		checkCategoryErrors(t, func(c impl.Category) result { return one(impl.QuotientFunctor(c, p)) })
	}
	one(impl.QuotientFunctor(cyclic(6), list(0, 1, 2, 0, 1, 3))).fails(t, impl.ErrInvalid)
}

// severalArrows has as many arrows from 0 to 1, and none that are composites.
func severalArrows(n int) impl.Category {
	return pathsByDefinition(2, repeat(0, n), repeat(1, n))
}

func groups(sizes ...int64) impl.Category {
	var all impl.Category
	for _, size := range sizes {
		all = sum(all, cyclic(size))
	}
	return all
}

// checkAllFunctors checks the images of all functors, and their number.
func checkAllFunctors(t *testing.T, c, d impl.Category, images ...[2][]int64) {
	t.Helper()
	var want []impl.Functor
	for _, image := range images {
		want = append(want, impl.Functor{Source: c, Target: d, Objects: image[0], Arrows: image[1]})
	}
	one(impl.AllFunctors(c, d)).is(t, want)
	one(impl.CountFunctors(c, d)).is(t, len(want))
}

func TestAllFunctors(t *testing.T) {
	checkAllFunctors(t, interval(), interval(), [2][]int64{list(0, 0), list(0, 0, 0)}, [2][]int64{list(0, 1), list(0, 1, 2)}, [2][]int64{list(1, 1), list(2, 2, 2)})
	// The objects are compared before the arrows.
	checkAllFunctors(t, interval(), backwards(), [2][]int64{list(0, 0), list(2, 2, 2)}, [2][]int64{list(0, 1), list(2, 0, 1)}, [2][]int64{list(1, 1), list(1, 1, 1)})
	checkAllFunctors(t, backwards(), interval(), [2][]int64{list(0, 0), list(0, 0, 0)}, [2][]int64{list(0, 1), list(1, 2, 0)}, [2][]int64{list(1, 1), list(2, 2, 2)})
	checkAllFunctors(t, interval(), cyclic(2), [2][]int64{list(0, 0), list(0, 0, 0)}, [2][]int64{list(0, 0), list(0, 1, 0)})
	checkAllFunctors(t, cyclic(2), retract(), [2][]int64{list(0), list(0, 0)}, [2][]int64{list(1), list(4, 4)})
	checkAllFunctors(t, idempotent(), retract(), [2][]int64{list(0), list(0, 0)}, [2][]int64{list(0), list(0, 1)}, [2][]int64{list(1), list(4, 4)})
	checkAllFunctors(t, noncommuting(), noncommuting(),
		[2][]int64{list(0), list(0, 0, 0)}, [2][]int64{list(0), list(0, 1, 1)}, [2][]int64{list(0), list(0, 1, 2)}, [2][]int64{list(0), list(0, 2, 1)}, [2][]int64{list(0), list(0, 2, 2)})
	checkAllFunctors(t, noncommuting(), opposite(noncommuting()), [2][]int64{list(0), list(0, 0, 0)}, [2][]int64{list(0), list(0, 1, 1)}, [2][]int64{list(0), list(0, 2, 2)})
	checkAllFunctors(t, impl.Category{}, impl.Category{}, [2][]int64{})
	checkAllFunctors(t, impl.Category{}, cyclic(impl.MaxTarget), [2][]int64{})
	checkAllFunctors(t, discrete(1), impl.Category{})
	checkAllFunctors(t, discrete(2), discrete(2), [2][]int64{list(0, 0), list(0, 0)}, [2][]int64{list(0, 1), list(0, 1)}, [2][]int64{list(1, 0), list(1, 0)}, [2][]int64{list(1, 1), list(1, 1)})
}

func TestAllFunctorsLimits(t *testing.T) {
	one(list(impl.MaxFound, impl.MaxMoving, impl.MaxTarget), impl.ErrNone).is(t, list(200, 8, 16))
	for _, s := range []struct {
		c, d impl.Category
		want int
	}{
		// As many arrows that are no identities as possible, with one object and with as many as possible.
		{cyclic(9), cyclic(impl.MaxTarget), 1}, {cyclic(9), cyclic(3), 3}, {severalArrows(8), interval(), 3},
		{sum(sum(indiscrete(2), indiscrete(2)), sum(indiscrete(2), indiscrete(2))), sum(retract(), discrete(1)), 81},
		{discrete(impl.MaxObjects), discrete(1), 1}, {discrete(1), discrete(impl.MaxObjects), 8},
		{cyclic(8), cyclic(impl.MaxTarget), 8}, {cyclic(4), groups(4, 4, 2, 2), 12}, {chain(4), chain(5), 70},
		// Exactly MaxFound functors: 196 + 4, and 125 + 64 + 8 + 3.
		{severalArrows(2), groups(14, 2), impl.MaxFound}, {severalArrows(3), groups(5, 4, 2, 1, 1, 1), impl.MaxFound},
	} {
		all, code := impl.AllFunctors(s.c, s.d)
		one(len(all), code).is(t, s.want)
		one(impl.CountFunctors(s.c, s.d)).is(t, s.want)
	}
	for _, pair := range [][2]impl.Category{
		{cyclic(10), discrete(1)}, {severalArrows(9), interval()}, {cyclic(10), impl.Category{}}, {largest(), discrete(1)},
		{discrete(1), cyclic(impl.MaxTarget + 1)}, {impl.Category{}, cyclic(impl.MaxTarget + 1)}, {impl.Category{}, largest()},
		{sum(discrete(7), cyclic(10)), discrete(1)}, {largest(), largest()},
		// One functor too many, and far too many.
		{severalArrows(3), groups(5, 4, 2, 1, 1, 1, 1)}, {discrete(impl.MaxObjects), discrete(impl.MaxObjects)},
		{severalArrows(8), cyclic(impl.MaxTarget)}, {severalArrows(2), cyclic(15)},
	} {
		one(impl.AllFunctors(pair[0], pair[1])).fails(t, impl.ErrLimit)
		one(impl.CountFunctors(pair[0], pair[1])).fails(t, impl.ErrLimit)
	}
	checkTwoErrors(t, func(c, d impl.Category) result { return one(impl.AllFunctors(c, d)) })
	checkTwoErrors(t, func(c, d impl.Category) result { return one(impl.CountFunctors(c, d)) })
}

// TestAllFunctorsAreFewOfMany has arrows with far too many images that fit one another, but not the
// last arrow.
func TestAllFunctorsAreFewOfMany(t *testing.T) {
	forgetful := func(n int64, absorbs bool) impl.Category {
		table := lists(counting(n))
		for i := int64(1); i < n; i++ {
			row := repeat(i, int(n))
			if absorbs {
				row[n-1] = n - 1
			}
			table = append(table, row)
		}
		return monoid(table...)
	}
	one(impl.CountFunctors(forgetful(9, true), forgetful(16, false))).is(t, 31)
}

func TestFunctorsMemory(t *testing.T) {
	fold := describedFunctors()[9].f
	constant := constantByDefinition(interval(), retract(), 1)
	oneList := func(made []int64, code int64) [][]int64 { return lists(made) }
	ask := func(call func(f impl.Functor) (bool, int64)) func(g *guard) [][]int64 {
		return func(g *guard) [][]int64 { call(g.functor(fold)); return nil }
	}
	for label, call := range map[string]func(g *guard) [][]int64{
		"IsFunctor":               func(g *guard) [][]int64 { impl.IsFunctor(g.functor(identityByDefinition(retract()))); return nil },
		"IdentityFunctor":         func(g *guard) [][]int64 { return functorListsOf(impl.IdentityFunctor(g.category(retract()))) },
		"IsFaithful":              ask(impl.IsFaithful),
		"IsFull":                  ask(impl.IsFull),
		"IsEssentiallySurjective": ask(impl.IsEssentiallySurjective),
		"IsIsomorphism":           ask(impl.IsIsomorphism),
		"ImageArrows":             func(g *guard) [][]int64 { return oneList(impl.ImageArrows(g.functor(fold))) },
		"KernelCongruence":        func(g *guard) [][]int64 { return oneList(impl.KernelCongruence(g.functor(fold))) },
		"OppositeFunctor":         func(g *guard) [][]int64 { return functorListsOf(impl.OppositeFunctor(g.functor(fold))) },
		"InverseFunctor": func(g *guard) [][]int64 {
			return functorListsOf(impl.InverseFunctor(g.functor(identityByDefinition(retract()))))
		},
		"ConstantFunctor": func(g *guard) [][]int64 {
			same := g.category(retract())
			return functorListsOf(impl.ConstantFunctor(same, same, 1))
		},
		"ThenFunctors": func(g *guard) [][]int64 {
			return functorListsOf(impl.ThenFunctors(g.functor(constant), g.functor(fold)))
		},
		"ProductFunctor": func(g *guard) [][]int64 {
			return functorListsOf(impl.ProductFunctor(g.functor(constant), g.functor(fold)))
		},
		"ProductFunctor of one": func(g *guard) [][]int64 {
			return functorListsOf(impl.ProductFunctor(g.functor(toOne(discrete(1))), g.functor(fold)))
		},
		"FirstProjection": func(g *guard) [][]int64 {
			return functorListsOf(impl.FirstProjection(g.category(retract()), g.category(discrete(1))))
		},
		"SecondProjection": func(g *guard) [][]int64 {
			return functorListsOf(impl.SecondProjection(g.category(discrete(1)), g.category(retract())))
		},
		"PairFunctors": func(g *guard) [][]int64 {
			same := g.functor(constant)
			return functorListsOf(impl.PairFunctors(same, same))
		},
		"CopairFunctors": func(g *guard) [][]int64 {
			return functorListsOf(impl.CopairFunctors(g.functor(constant), g.functor(impl.Functor{Target: retract()})))
		},
		"InclusionFunctor": func(g *guard) [][]int64 {
			return functorListsOf(impl.InclusionFunctor(g.category(retract()), g.list(counting(5)...)))
		},
		"QuotientFunctor": func(g *guard) [][]int64 {
			return functorListsOf(impl.QuotientFunctor(g.category(retract()), g.list(counting(5)...)))
		},
		"AllFunctors": func(g *guard) [][]int64 {
			all, code := impl.AllFunctors(g.category(interval()), g.category(retract()))
			var made [][]int64
			for _, f := range all {
				made = append(made, functorListsOf(f, code)...)
			}
			return made
		},
		"CountFunctors": func(g *guard) [][]int64 {
			impl.CountFunctors(g.category(interval()), g.category(retract()))
			return nil
		},
	} {
		checkMemory(t, label, call)
	}
}
