package tests

import (
	"slices"
	"testing"

	"loop.example/g01083/impl"
)

// twins is the preorder of two isomorphic objects before a third one.
func twins() impl.Category { return preorder(3, func(i, j int64) bool { return i < 2 || j == 2 }) }

// alternating has isomorphic objects 0 and 2 before isomorphic objects 1 and 3.
func alternating() impl.Category { return preorder(4, func(i, j int64) bool { return i%2 <= j%2 }) }

// turnedTwins is two isomorphic objects with a group of two, the identities of which are the last arrows of
// their hom sets.
func turnedTwins() impl.Category { return product(indiscrete(2), identityLast()) }

// skeletal is a category, its skeleton, and the arrows that SkeletonFunctor gives to its arrows.
type skeletal struct {
	label                    string
	c                        impl.Category
	classes, objects, chosen []int64
	skeleton                 impl.Category
	arrows                   []int64
}

func skeletals() []skeletal {
	most := product(indiscrete(2), chain(4))
	return []skeletal{
		{"the example", twins(), list(0, 0, 1), list(0, 2), list(0, 3, 6), interval(), list(0, 0, 1, 0, 0, 1, 2)},
		{"no objects", impl.Category{}, nil, nil, nil, impl.Category{}, nil},
		{"three isomorphic objects", indiscrete(3), list(0, 0, 0), list(0), list(0, 3, 6), discrete(1), repeat(0, 9)},
		{"classes by turns", alternating(), list(0, 1, 0, 1), list(0, 1), list(0, 4, 6, 10), interval(), list(0, 1, 0, 1, 2, 2, 0, 1, 0, 1, 2, 2)},
		{"the first object alone", sum(discrete(1), indiscrete(2)), list(0, 1, 1), list(0, 1), list(0, 1, 3), discrete(2), list(0, 1, 1, 1, 1)},
		{"the last object alone", sum(indiscrete(2), discrete(1)), list(0, 0, 1), list(0, 2), list(0, 2, 4), discrete(2), list(0, 0, 0, 0, 1)},
		{"isomorphic objects with a group", product(indiscrete(2), cyclic(2)), list(0, 0), list(0), list(0, 4), cyclic(2), list(0, 1, 0, 1, 0, 1, 0, 1)},
		// The identity is chosen for the skeleton object, although it is not the least isomorphism.
		{"identities last", turnedTwins(), list(0, 0), list(0), list(1, 4), identityLast(), list(0, 1, 1, 0, 1, 0, 0, 1)},
		{"a group with its identity last", identityLast(), list(0), list(0), list(1), identityLast(), list(0, 1)},
		{"as much as possible in twos", most, list(0, 1, 2, 3, 0, 1, 2, 3), list(0, 1, 2, 3), list(0, 4, 7, 9, 20, 24, 27, 29), chain(4), slices.Repeat(counting(10), 4)},
	}
}

// alreadySkeletal have no two objects that are isomorphic.
func alreadySkeletal() []impl.Category {
	return []impl.Category{
		discrete(1), discrete(impl.MaxObjects), interval(), backwards(), longChain(), chain(impl.MaxObjects), parallel(), retract(), idempotent(), cyclic(impl.MaxArrows), largest(), sets(1, 2),
		noncommuting(), identityLast(), identitiesFirst(), projections(), reversed(retract()), sum(interval(), cyclic(2)),
	}
}

func TestSkeletons(t *testing.T) {
	all := skeletals()
	for _, c := range alreadySkeletal() {
		n := counting(c.Objects)
		all = append(all, skeletal{"a skeleton", c, n, n, c.Identity, c, counting(int64(len(c.From)))})
	}
	for _, s := range all {
		one(impl.IsomorphismClasses(s.c)).is(t, s.classes)
		one(impl.SkeletonObjects(s.c)).is(t, s.objects)
		one(impl.ChosenIsomorphisms(s.c)).is(t, s.chosen)
		one(impl.SkeletonOf(s.c)).is(t, s.skeleton)
		one(impl.SkeletonFunctor(s.c)).is(t, mapped(s.c, s.skeleton, s.classes, s.arrows))
		if t.Failed() {
			t.Fatal(s.label)
		}
	}
	checkCategoryErrors(t, func(c impl.Category) result { return one(impl.IsomorphismClasses(c)) })
	checkCategoryErrors(t, func(c impl.Category) result { return one(impl.SkeletonObjects(c)) })
	checkCategoryErrors(t, func(c impl.Category) result { return one(impl.ChosenIsomorphisms(c)) })
	checkCategoryErrors(t, func(c impl.Category) result { return one(impl.SkeletonOf(c)) })
	checkCategoryErrors(t, func(c impl.Category) result { return one(impl.SkeletonFunctor(c)) })
}

func TestIsEquivalence(t *testing.T) {
	equivalences := 0
	for _, s := range askedFunctors() {
		isEquivalence := s.isFaithful && s.isFull && s.isEssential
		one(impl.IsEquivalence(s.f)).is(t, isEquivalence)
		if isEquivalence {
			equivalences++
		} else {
			two(impl.QuasiInverse(s.f)).fails(t, impl.ErrState)
		}
	}
	expect(t, "some equivalences, some not", equivalences > 0 && equivalences < len(askedFunctors()), true)
	for _, s := range append(samples(), sample{"largest", largest()}) {
		one(impl.IsEquivalence(identityByDefinition(s.c))).is(t, true)
	}
	checkFunctorErrors(t, func(f impl.Functor) result { return one(impl.IsEquivalence(f)) })
	checkFunctorErrors(t, func(f impl.Functor) result { return two(impl.QuasiInverse(f)) })
}

func TestQuasiInverse(t *testing.T) {
	exchanged := mapped(indiscrete(2), indiscrete(2), list(1, 0), list(3, 2, 1, 0))
	for _, s := range []struct {
		f, g         impl.Functor
		isomorphisms []int64
	}{
		{impl.Functor{}, impl.Functor{}, nil},
		{toOne(indiscrete(2)), at(indiscrete(2), 0), list(0)},
		{at(indiscrete(2), 1), toOne(indiscrete(2)), list(2, 3)},
		{at(indiscrete(3), 1), toOne(indiscrete(3)), list(3, 4, 5)},
		// The least object is taken, also if it does not lead to y itself.
		{exchanged, constantByDefinition(indiscrete(2), indiscrete(2), 0), list(2, 3)},
		{identityByDefinition(twins()), mapped(twins(), twins(), list(0, 0, 2), list(0, 0, 2, 0, 0, 2, 6)), list(0, 1, 6)},
		{mapped(twins(), interval(), list(0, 0, 1), list(0, 0, 1, 0, 0, 1, 2)), mapped(interval(), twins(), list(0, 2), list(0, 2, 6)), list(0, 2)},
		{mapped(interval(), twins(), list(1, 2), list(4, 5, 6)), mapped(twins(), interval(), list(0, 0, 1), list(0, 0, 1, 0, 0, 1, 2)), list(3, 4, 6)},
		{mapped(interval(), backwards(), list(0, 1), list(2, 0, 1)), mapped(backwards(), interval(), list(0, 1), list(1, 2, 0)), list(2, 1)},
		{mapped(cyclic(3), cyclic(3), list(0), list(0, 2, 1)), mapped(cyclic(3), cyclic(3), list(0), list(0, 2, 1)), list(0)},
		// The least isomorphism is taken, also if it is no identity.
		{identityByDefinition(identityLast()), identityByDefinition(identityLast()), list(0)},
		{identityByDefinition(turnedTwins()), mapped(turnedTwins(), turnedTwins(), list(0, 0), list(0, 1, 0, 1, 0, 1, 0, 1)), list(0, 2)},
		{mapped(identityLast(), turnedTwins(), list(1), list(6, 7)), mapped(turnedTwins(), identityLast(), list(0, 0), list(0, 1, 0, 1, 0, 1, 0, 1)), list(4, 6)},
		{identityByDefinition(largest()), identityByDefinition(largest()), counting(impl.MaxObjects)},
	} {
		two(impl.QuasiInverse(s.f)).is(t, s.g, s.isomorphisms)
	}
	// In a group that does not commute, the least isomorphism turns the arrows.
	last := reversed(groupOf(3, 2, 2))
	g, isomorphisms, code := impl.QuasiInverse(identityByDefinition(last))
	two(isomorphisms, slices.Equal(g.Arrows, counting(6)), code).is(t, list(0), false)
}

// related is a pair of categories, whether they are equivalent, and then the equivalence from the first to the
// second one and the arrows of the one that leads back.
type related struct {
	c, d                  impl.Category
	areRelated            bool
	objects, arrows, back []int64
}

func relatedCategories() []related {
	twice := product(indiscrete(2), chain(4))
	return []related{
		{twins(), interval(), true, list(0, 0, 1), list(0, 0, 1, 0, 0, 1, 2), list(0, 2, 6)},
		{twins(), backwards(), true, list(0, 0, 1), list(2, 2, 0, 2, 2, 0, 1), list(2, 6, 0)},
		{twins(), alternating(), true, list(0, 0, 1), list(0, 0, 1, 0, 0, 1, 4), list(0, 2, 0, 2, 6, 6, 0, 2, 0, 2, 6, 6)},
		{impl.Category{}, impl.Category{}, true, nil, nil, nil},
		{indiscrete(6), discrete(1), true, repeat(0, 6), repeat(0, 36), list(0)},
		{indiscrete(2), indiscrete(3), true, repeat(0, 2), repeat(0, 4), repeat(0, 9)},
		{discrete(2), sum(indiscrete(2), discrete(1)), true, list(0, 2), list(0, 4), list(0, 0, 0, 0, 1)},
		{cyclic(3), cyclic(3), true, list(0), counting(3), counting(3)},
		{cyclic(2), turnedTwins(), true, list(0), list(1, 0), list(1, 0, 0, 1, 0, 1, 1, 0)},
		{twice, chain(4), true, list(0, 1, 2, 3, 0, 1, 2, 3), slices.Repeat(counting(10), 4), counting(10)},
		{product(indiscrete(2), cyclic(10)), cyclic(10), true, list(0, 0), slices.Repeat(counting(10), 4), counting(10)},
		{cyclic(impl.MaxTarget), cyclic(impl.MaxTarget), true, list(0), counting(impl.MaxTarget), counting(impl.MaxTarget)},
		{interval(), discrete(2), false, nil, nil, nil}, {discrete(1), impl.Category{}, false, nil, nil, nil}, {discrete(2), indiscrete(2), false, nil, nil, nil},
		{discrete(1), discrete(2), false, nil, nil, nil}, {retract(), idempotent(), false, nil, nil, nil}, {cyclic(4), groupOf(2, 2, 1), false, nil, nil, nil},
		{noncommuting(), opposite(noncommuting()), false, nil, nil, nil}, {sum(indiscrete(2), discrete(1)), discrete(3), false, nil, nil, nil},
		{twins(), opposite(retract()), false, nil, nil, nil}, {product(indiscrete(2), cyclic(2)), product(indiscrete(2), idempotent()), false, nil, nil, nil},
	}
}

func TestAreEquivalent(t *testing.T) {
	for _, s := range relatedCategories() {
		one(impl.AreEquivalent(s.c, s.d)).is(t, s.areRelated)
		one(impl.AreEquivalent(s.d, s.c)).is(t, s.areRelated)
		if !s.areRelated {
			one(impl.EquivalenceBetween(s.c, s.d)).fails(t, impl.ErrNotFound)
			one(impl.EquivalenceBetween(s.d, s.c)).fails(t, impl.ErrNotFound)
			continue
		}
		one(impl.EquivalenceBetween(s.c, s.d)).is(t, mapped(s.c, s.d, s.objects, s.arrows))
		back, code := impl.EquivalenceBetween(s.d, s.c)
		three(back.Source, back.Target, back.Arrows, code).is(t, s.d, s.c, s.back)
	}
	checkTwoErrors(t, func(c, d impl.Category) result { return one(impl.AreEquivalent(c, d)) })
	checkTwoErrors(t, func(c, d impl.Category) result { return one(impl.EquivalenceBetween(c, d)) })
}

// overSkeletal have a skeleton with more arrows than MaxTarget.
func overSkeletal() []impl.Category {
	return []impl.Category{cyclic(impl.MaxTarget + 1), chain(6), largest(), cyclic(impl.MaxArrows), sum(cyclic(9), cyclic(8)), sum(indiscrete(3), cyclic(impl.MaxTarget))}
}

func TestEquivalenceLimits(t *testing.T) {
	for _, large := range overSkeletal() {
		for _, c := range []impl.Category{{}, interval(), cyclic(impl.MaxTarget), twins(), large} {
			one(impl.AreEquivalent(large, c)).fails(t, impl.ErrLimit)
			one(impl.AreEquivalent(c, large)).fails(t, impl.ErrLimit)
			one(impl.EquivalenceBetween(large, c)).fails(t, impl.ErrLimit)
			one(impl.EquivalenceBetween(c, large)).fails(t, impl.ErrLimit)
		}
	}
	// As many arrows as are searched, one of them behind 25 others.
	within := sum(indiscrete(5), cyclic(impl.MaxTarget-1))
	one(impl.AreEquivalent(within, sum(discrete(1), cyclic(impl.MaxTarget-1)))).is(t, true)
	for _, call := range []func(c, d impl.Category) result{
		func(c, d impl.Category) result { return one(impl.AreEquivalent(c, d)) },
		func(c, d impl.Category) result { return one(impl.EquivalenceBetween(c, d)) },
	} {
		checkCategoryErrors(t, func(c impl.Category) result { return call(c, cyclic(impl.MaxArrows)) })
		checkCategoryErrors(t, func(c impl.Category) result { return call(cyclic(impl.MaxArrows), c) })
	}
}

func TestFunctorOnSkeletons(t *testing.T) {
	turned := turnedTwins()
	for _, s := range []struct{ f, want impl.Functor }{
		{impl.Functor{}, impl.Functor{}},
		{impl.Functor{Target: twins()}, impl.Functor{Target: interval()}},
		{identityByDefinition(twins()), identityByDefinition(interval())},
		{identityByDefinition(alternating()), identityByDefinition(interval())},
		{identityByDefinition(largest()), identityByDefinition(largest())},
		{mapped(interval(), twins(), list(1, 2), list(4, 5, 6)), identityByDefinition(interval())},
		{mapped(twins(), alternating(), list(2, 0, 3), list(8, 6, 9, 2, 0, 3, 11)), identityByDefinition(interval())},
		{constantByDefinition(interval(), twins(), 1), constantByDefinition(interval(), interval(), 0)},
		{toOne(indiscrete(2)), identityByDefinition(discrete(1))},
		{mapped(sum(indiscrete(2), discrete(1)), discrete(2), list(1, 1, 0), list(1, 1, 1, 1, 0)), mapped(discrete(2), discrete(2), list(1, 0), list(1, 0))},
		// What leads to the second object is followed by its chosen isomorphism, and what leads from it has the
		// inverse before it.
		{at(turned, 1), at(identityLast(), 0)},
		{mapped(cyclic(2), turned, list(1), list(7, 6)), mapped(cyclic(2), identityLast(), list(0), list(1, 0))},
		{mapped(interval(), turned, list(0, 1), list(1, 2, 7)), mapped(interval(), identityLast(), list(0, 0), list(1, 1, 1))},
		{mapped(interval(), turned, list(0, 1), list(1, 3, 7)), mapped(interval(), identityLast(), list(0, 0), list(1, 0, 1))},
		{mapped(interval(), turned, list(1, 0), list(7, 4, 1)), mapped(interval(), identityLast(), list(0, 0), list(1, 1, 1))},
		{mapped(interval(), turned, list(1, 0), list(7, 5, 1)), mapped(interval(), identityLast(), list(0, 0), list(1, 0, 1))},
	} {
		one(impl.IsFunctor(s.f), impl.ErrNone).is(t, true)
		one(impl.FunctorOnSkeletons(s.f)).is(t, s.want)
	}
	checkFunctorErrors(t, func(f impl.Functor) result { return one(impl.FunctorOnSkeletons(f)) })
}

// splitSample is a category with its idempotents and, for each of them, its first splitting, or nothing.
type splitSample struct {
	label       string
	c           impl.Category
	idempotents []int64
	splittings  [][]int64
	isComplete  bool
}

func splits() []splitSample {
	nothing := list()
	return []splitSample{
		{"no objects", impl.Category{}, nil, nil, true},
		{"idempotent", idempotent(), list(0, 1), lists(list(0, 0, 0), nothing), false},
		{"retract", retract(), list(0, 1, 4), lists(list(0, 0, 0), list(1, 2, 3), list(1, 4, 4)), true},
		{"retract backwards", reversed(retract()), list(0, 3, 4), lists(list(0, 0, 0), list(0, 2, 1), list(1, 4, 4)), true},
		{"interval", interval(), list(0, 2), lists(list(0, 0, 0), list(1, 2, 2)), true},
		{"backwards", backwards(), list(1, 2), lists(list(1, 1, 1), list(0, 2, 2)), true},
		{"parallel arrows", parallel(), list(0, 3), lists(list(0, 0, 0), list(1, 3, 3)), true},
		{"group", cyclic(6), list(0), lists(list(0, 0, 0)), true},
		// The identities have splittings that come before those by themselves.
		{"a group with its identity last", identityLast(), list(1), lists(list(0, 0, 0)), true},
		{"isomorphic objects", indiscrete(2), list(0, 3), lists(list(0, 0, 0), list(0, 2, 1)), true},
		{"maps of one and of two elements", sets(1, 2), list(0, 4, 5, 7), lists(list(0, 0, 0), list(0, 3, 1), list(1, 5, 5), list(0, 3, 2)), true},
		{"maps of two elements", sets(2), list(0, 1, 3), lists(nothing, list(0, 1, 1), nothing), false},
		{"no commuting", noncommuting(), list(0, 1, 2), lists(list(0, 0, 0), nothing, nothing), false},
		{"powers", powers(2, 1), list(0, 2), lists(list(0, 0, 0), nothing), false},
		{"powers that come back", powers(2, 3), list(0, 3), lists(list(0, 0, 0), nothing), false},
		{"one does not split behind one that does", sum(retract(), idempotent()), list(0, 1, 4, 5, 6), lists(list(0, 0, 0), list(1, 2, 3), list(1, 4, 4), list(2, 5, 5), nothing), false},
		{"largest", largest(), counting(8), nil, true},
		{"largest group", cyclic(impl.MaxArrows), list(0), lists(list(0, 0, 0)), true},
	}
}

func TestSplittings(t *testing.T) {
	for _, s := range splits() {
		one(impl.IdempotentArrows(s.c)).is(t, s.idempotents)
		one(impl.IsComplete(s.c)).is(t, s.isComplete)
		for i, splitting := range s.splittings {
			r := three(impl.SplittingOf(s.c, s.idempotents[i]))
			if len(splitting) == 0 {
				r.fails(t, impl.ErrNotFound)
			} else {
				r.is(t, splitting[0], splitting[1], splitting[2])
			}
		}
		for e := range int64(len(s.c.From)) {
			if !slices.Contains(s.idempotents, e) {
				three(impl.SplittingOf(s.c, e)).fails(t, impl.ErrState)
			}
		}
		if t.Failed() {
			t.Fatal(s.label)
		}
	}
	three(impl.SplittingOf(largest(), 7)).is(t, 7, 7, 7)
	checkCategoryErrors(t, func(c impl.Category) result { return one(impl.IdempotentArrows(c)) })
	checkCategoryErrors(t, func(c impl.Category) result { return one(impl.IsComplete(c)) })
	checkArrowErrors(t, func(c impl.Category, e int64) result { return three(impl.SplittingOf(c, e)) })
}

// maxima is the monoid of the numbers below n with the greater one as the product.
func maxima(n int64) impl.Category {
	var table [][]int64
	for i := range n {
		row := counting(n)
		for j := range row {
			row[j] = max(i, row[j])
		}
		table = append(table, row)
	}
	return monoid(table...)
}

// absorbing has, beside the identity, arrows that do not depend on what comes behind them.
func absorbing(n int64) impl.Category {
	table := lists(counting(n + 1))
	for i := range n {
		table = append(table, repeat(i+1, int(n)+1))
	}
	return monoid(table...)
}

func TestCompletions(t *testing.T) {
	completed := impl.Category{
		Objects: 3, From: list(0, 0, 0, 0, 1, 1, 1, 2, 2, 2), To: list(0, 0, 1, 2, 0, 1, 2, 0, 1, 2), Identity: list(0, 5, 9),
		Composites: lists(
			list(0, 1, 2, 3, -1, -1, -1, -1, -1, -1), list(1, 1, 2, 3, -1, -1, -1, -1, -1, -1), list(-1, -1, -1, -1, 1, 2, 3, -1, -1, -1), list(-1, -1, -1, -1, -1, -1, -1, 1, 2, 3),
			list(4, 4, 5, 6, -1, -1, -1, -1, -1, -1), list(-1, -1, -1, -1, 4, 5, 6, -1, -1, -1), list(-1, -1, -1, -1, -1, -1, -1, 4, 5, 6),
			list(7, 7, 8, 9, -1, -1, -1, -1, -1, -1), list(-1, -1, -1, -1, 7, 8, 9, -1, -1, -1), list(-1, -1, -1, -1, -1, -1, -1, 7, 8, 9)),
	}
	for _, s := range []struct {
		c, completion   impl.Category
		objects, arrows []int64
	}{
		{impl.Category{}, impl.Category{}, nil, nil},
		{idempotent(), retract(), list(0), list(0, 1)},
		{retract(), completed, list(0, 2), list(0, 1, 3, 7, 9)},
		{backwards(), opposite(interval()), list(1, 0), list(1, 0, 2)},
		{identityLast(), identityLast(), list(0), list(0, 1)},
		{identitiesFirst(), interval(), list(0, 1), list(0, 2, 1)},
		{powers(2, 1), mixedCompletion(), list(0), list(0, 1, 2)},
		{cyclic(impl.MaxArrows), cyclic(impl.MaxArrows), list(0), counting(impl.MaxArrows)},
		{largest(), largest(), counting(impl.MaxObjects), counting(impl.MaxArrows)},
	} {
		one(impl.CompletionOf(s.c)).is(t, s.completion)
		one(impl.CompletionFunctor(s.c)).is(t, mapped(s.c, s.completion, s.objects, s.arrows))
		one(impl.CompletionOfFunctor(identityByDefinition(s.c))).is(t, identityByDefinition(s.completion))
	}
	for _, s := range []struct{ f, want impl.Functor }{
		{mapped(idempotent(), retract(), list(0), list(0, 1)), mapped(retract(), completed, list(0, 1), list(0, 1, 2, 4, 5))},
		{constantByDefinition(idempotent(), retract(), 1), mapped(retract(), completed, list(2, 2), repeat(9, 5))},
		{mapped(interval(), backwards(), list(0, 1), list(2, 0, 1)), mapped(interval(), opposite(interval()), list(1, 0), list(2, 1, 0))},
		{mapped(interval(), retract(), list(0, 1), list(0, 2, 4)), mapped(interval(), completed, list(0, 2), list(0, 3, 9))},
		{toOne(idempotent()), toOne(retract())}, {toOne(largest()), toOne(largest())}, {impl.Functor{}, impl.Functor{}},
		{impl.Functor{Target: idempotent()}, impl.Functor{Target: retract()}},
	} {
		one(impl.CompletionOfFunctor(s.f)).is(t, s.want)
	}
	checkCategoryErrors(t, func(c impl.Category) result { return one(impl.CompletionOf(c)) })
	checkCategoryErrors(t, func(c impl.Category) result { return one(impl.CompletionFunctor(c)) })
	checkFunctorErrors(t, func(f impl.Functor) result { return one(impl.CompletionOfFunctor(f)) })
}

// mixedCompletion is the completion of the powers 0, 1 and 2 of an arrow: the object 1 is the power 2.
func mixedCompletion() impl.Category {
	return impl.Category{
		Objects: 2, From: list(0, 0, 0, 0, 1, 1), To: list(0, 0, 0, 1, 0, 1), Identity: list(0, 5),
		Composites: lists(
			list(0, 1, 2, 3, -1, -1), list(1, 2, 2, 3, -1, -1), list(2, 2, 2, 3, -1, -1),
			list(-1, -1, -1, -1, 2, 3), list(4, 4, 4, 5, -1, -1), list(-1, -1, -1, -1, 4, 5)),
	}
}

// completionsWithin have completions within the limits, with a number of objects and a number of arrows.
func completionsWithin() []sized {
	return []sized{
		{maxima(4), 4, 30}, {absorbing(3), 4, 25}, {sum(discrete(6), idempotent()), 8, 11}, {largest(), 8, impl.MaxArrows},
		{sum(absorbing(3), sum(maxima(3), discrete(1))), 8, impl.MaxArrows},
	}
}

// completionsBeyond have completions that are not within the limits.
func completionsBeyond() []sized {
	return []sized{
		// An object too many, an arrow too many, or one of both.
		{sum(discrete(7), idempotent()), 9, 12}, {absorbing(4), 5, 41}, {sum(absorbing(3), sum(maxima(3), cyclic(2))), 8, 41}, {sum(absorbing(3), sum(maxima(3), discrete(2))), 9, 41},
		{maxima(5), 5, 55}, {maxima(impl.MaxArrows), impl.MaxArrows, 22140}, {absorbing(impl.MaxArrows - 1), impl.MaxArrows, 3121},
	}
}

// sized is a category with numbers of objects and arrows of its completion.
type sized struct {
	c               impl.Category
	objects, arrows int
}

func TestCompletionLimits(t *testing.T) {
	for _, s := range completionsWithin() {
		made, code := impl.CompletionOf(s.c)
		three(int(made.Objects), len(made.From), impl.IsCategory(made), code).is(t, s.objects, s.arrows, true)
		f, code := impl.CompletionFunctor(s.c)
		two(f.Target, impl.IsFunctor(f), code).is(t, made, true)
		one(impl.CompletionOfFunctor(identityByDefinition(s.c))).is(t, identityByDefinition(made))
	}
	for _, s := range completionsBeyond() {
		if s.arrows < 100 {
			n := namedCompletion(s.c)
			two(int(n.objects), len(n.arrows), impl.ErrNone).is(t, s.objects, s.arrows)
		}
		one(impl.CompletionOf(s.c)).fails(t, impl.ErrLimit)
		one(impl.CompletionFunctor(s.c)).fails(t, impl.ErrLimit)
		for _, f := range []impl.Functor{identityByDefinition(s.c), toOne(s.c), at(s.c, 0), {Target: s.c}} {
			one(impl.CompletionOfFunctor(f)).fails(t, impl.ErrLimit)
		}
		one(impl.CompletionOfFunctor(mapped(s.c, s.c, nil, nil))).fails(t, impl.ErrInvalid)
		for _, d := range []impl.Category{{}, discrete(1), cyclic(impl.MaxArrows), s.c} {
			one(impl.HaveEqualCompletions(s.c, d)).fails(t, impl.ErrLimit)
			one(impl.HaveEqualCompletions(d, s.c)).fails(t, impl.ErrLimit)
		}
	}
	for _, c := range []impl.Category{maxima(5), maxima(4), cyclic(impl.MaxArrows)} {
		checkCategoryErrors(t, func(d impl.Category) result { return one(impl.HaveEqualCompletions(c, d)) })
		checkCategoryErrors(t, func(d impl.Category) result { return one(impl.HaveEqualCompletions(d, c)) })
	}
}

func TestHaveEqualCompletions(t *testing.T) {
	behind := sum(maxima(3), cyclic(2))
	for _, s := range []struct {
		c, d impl.Category
		want bool
	}{
		{idempotent(), retract(), true}, {impl.Category{}, impl.Category{}, true}, {sets(2), sets(1, 2), true}, {sets(2), sets(2, 1), true}, {cyclic(2), turnedTwins(), true},
		{twins(), backwards(), true}, {behind, behind, true}, {idempotent(), reversed(retract()), true}, {sum(idempotent(), idempotent()), sum(retract(), idempotent()), true},
		{cyclic(impl.MaxTarget), cyclic(impl.MaxTarget), true}, {absorbing(3), absorbing(3), true}, {powers(2, 1), mixedCompletion(), true},
		{idempotent(), interval(), false}, {idempotent(), cyclic(2), false}, {idempotent(), discrete(1), false}, {discrete(1), impl.Category{}, false},
		{noncommuting(), opposite(noncommuting()), false}, {sets(2), retract(), false}, {sum(idempotent(), discrete(1)), retract(), false}, {powers(2, 1), idempotent(), false},
	} {
		one(impl.HaveEqualCompletions(s.c, s.d)).is(t, s.want)
		one(impl.HaveEqualCompletions(s.d, s.c)).is(t, s.want)
	}
	// The completion of the first one is its own skeleton, with 30 arrows; the next ones have 17.
	for _, c := range []impl.Category{maxima(4), sum(maxima(3), cyclic(3)), cyclic(impl.MaxTarget + 1), largest()} {
		for _, d := range []impl.Category{{}, idempotent(), c} {
			one(impl.HaveEqualCompletions(c, d)).fails(t, impl.ErrLimit)
			one(impl.HaveEqualCompletions(d, c)).fails(t, impl.ErrLimit)
		}
	}
	checkTwoErrors(t, func(c, d impl.Category) result { return one(impl.HaveEqualCompletions(c, d)) })
}

func TestEquivalenceMemory(t *testing.T) {
	f := mapped(interval(), twins(), list(1, 2), list(4, 5, 6))
	for label, call := range map[string]func(g *guard) [][]int64{
		"IsomorphismClasses": func(g *guard) [][]int64 { made, _ := impl.IsomorphismClasses(g.category(twins())); return lists(made) },
		"SkeletonObjects":    func(g *guard) [][]int64 { made, _ := impl.SkeletonObjects(g.category(twins())); return lists(made) },
		"ChosenIsomorphisms": func(g *guard) [][]int64 { made, _ := impl.ChosenIsomorphisms(g.category(twins())); return lists(made) },
		"SkeletonOf":         func(g *guard) [][]int64 { return listsOf(impl.SkeletonOf(g.category(twins()))) },
		"SkeletonFunctor":    func(g *guard) [][]int64 { return functorListsOf(impl.SkeletonFunctor(g.category(twins()))) },
		"SkeletonFunctor of a skeleton": func(g *guard) [][]int64 {
			return functorListsOf(impl.SkeletonFunctor(g.category(retract())))
		},
		"IsEquivalence": func(g *guard) [][]int64 { impl.IsEquivalence(g.functor(f)); return nil },
		"QuasiInverse": func(g *guard) [][]int64 {
			back, isomorphisms, code := impl.QuasiInverse(g.functor(f))
			return append(functorListsOf(back, code), isomorphisms)
		},
		"QuasiInverse of an identity": func(g *guard) [][]int64 {
			same := g.category(twins())
			back, isomorphisms, code := impl.QuasiInverse(impl.Functor{Source: same, Target: same, Objects: g.list(0, 1, 2), Arrows: g.list(0, 1, 2, 3, 4, 5, 6)})
			return append(functorListsOf(back, code), isomorphisms)
		},
		"AreEquivalent": func(g *guard) [][]int64 {
			impl.AreEquivalent(g.category(twins()), g.category(backwards()))
			return nil
		},
		"EquivalenceBetween": func(g *guard) [][]int64 {
			return functorListsOf(impl.EquivalenceBetween(g.category(twins()), g.category(backwards())))
		},
		"EquivalenceBetween one category": func(g *guard) [][]int64 {
			same := g.category(retract())
			return functorListsOf(impl.EquivalenceBetween(same, same))
		},
		"FunctorOnSkeletons": func(g *guard) [][]int64 { return functorListsOf(impl.FunctorOnSkeletons(g.functor(f))) },
		"IdempotentArrows":   func(g *guard) [][]int64 { made, _ := impl.IdempotentArrows(g.category(retract())); return lists(made) },
		"SplittingOf":        func(g *guard) [][]int64 { impl.SplittingOf(g.category(retract()), 1); return nil },
		"IsComplete":         func(g *guard) [][]int64 { impl.IsComplete(g.category(retract())); return nil },
		"CompletionOf":       func(g *guard) [][]int64 { return listsOf(impl.CompletionOf(g.category(retract()))) },
		"CompletionFunctor":  func(g *guard) [][]int64 { return functorListsOf(impl.CompletionFunctor(g.category(retract()))) },
		"CompletionOfFunctor": func(g *guard) [][]int64 {
			return functorListsOf(impl.CompletionOfFunctor(g.functor(mapped(idempotent(), retract(), list(0), list(0, 1)))))
		},
		"HaveEqualCompletions": func(g *guard) [][]int64 {
			impl.HaveEqualCompletions(g.category(retract()), g.category(idempotent()))
			return nil
		},
	} {
		checkMemory(t, label, call)
	}
}
