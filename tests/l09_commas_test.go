package tests

import (
	"slices"
	"testing"

	"loop.example/g01083/impl"
)

// comma is a comma category of f and g: its objects are a, b and h, and its arrows the numbers of their
// ends, u and v.
type comma struct {
	label           string
	f, g            impl.Functor
	objects, arrows [][]int64
	category        impl.Category
}

// at is the functor from the category with one arrow to c that has the image x.
func at(c impl.Category, x int64) impl.Functor { return constantByDefinition(discrete(1), c, x) }

func describedCommas() []comma {
	i, same := interval(), identityByDefinition(interval())
	both := product(i, cyclic(2))
	return []comma{
		{"identities", same, same, lists(list(0, 0, 0), list(0, 1, 1), list(1, 1, 2)),
			lists(list(0, 0, 0, 0), list(0, 1, 0, 1), list(0, 2, 1, 1), list(1, 1, 0, 2), list(1, 2, 1, 2), list(2, 2, 2, 2)), longChain()},
		{"identities of other numbers", identityByDefinition(backwards()), identityByDefinition(backwards()), lists(list(0, 0, 2), list(0, 1, 0), list(1, 1, 1)),
			lists(list(0, 0, 2, 2), list(0, 1, 2, 0), list(0, 2, 0, 0), list(1, 1, 2, 1), list(1, 2, 0, 1), list(2, 2, 1, 1)), longChain()},
		{"from an object", at(longChain(), 1), identityByDefinition(longChain()), lists(list(0, 1, 3), list(0, 2, 4)),
			lists(list(0, 0, 0, 3), list(0, 1, 0, 4), list(1, 1, 0, 5)), i},
		{"to an object", identityByDefinition(retract()), at(retract(), 1), lists(list(0, 0, 2), list(1, 0, 4)),
			lists(list(0, 0, 0, 0), list(0, 0, 1, 0), list(0, 1, 2, 0), list(1, 0, 3, 0), list(1, 1, 4, 0)), retract()},
		{"from an object to another one", at(parallel(), 0), at(parallel(), 1), lists(list(0, 0, 1), list(0, 0, 2)),
			lists(list(0, 0, 0, 0), list(1, 1, 0, 0)), discrete(2)},
		{"nothing between", at(i, 1), at(i, 0), nil, nil, impl.Category{}},
		{"all pairs", toOne(i), toOne(cyclic(2)), lists(list(0, 0, 0), list(1, 0, 0)),
			lists(list(0, 0, 0, 0), list(0, 0, 0, 1), list(0, 1, 1, 0), list(0, 1, 1, 1), list(1, 1, 2, 0), list(1, 1, 2, 1)), both},
		{"all pairs the other way", toOne(cyclic(2)), toOne(i), lists(list(0, 0, 0), list(0, 1, 0)),
			lists(list(0, 0, 0, 0), list(0, 0, 1, 0), list(0, 1, 0, 1), list(0, 1, 1, 1), list(1, 1, 0, 2), list(1, 1, 1, 2)), both},
		{"the identity behind the other arrow", toOne(identityLast()), toOne(i), lists(list(0, 0, 0), list(0, 1, 0)),
			lists(list(0, 0, 0, 0), list(0, 0, 1, 0), list(0, 1, 0, 1), list(0, 1, 1, 1), list(1, 1, 0, 2), list(1, 1, 1, 2)), product(i, identityLast())},
		{"only some pairs", mapped(discrete(2), discrete(3), list(2, 0), list(2, 0)), mapped(discrete(3), discrete(3), list(0, 2, 0), list(0, 2, 0)),
			lists(list(0, 1, 2), list(1, 0, 0), list(1, 2, 0)), lists(list(0, 0, 0, 1), list(1, 1, 1, 0), list(2, 2, 1, 2)), discrete(3)},
		{"nothing to the left", impl.Functor{Target: i}, same, nil, nil, impl.Category{}},
		{"nothing to the right", same, impl.Functor{Target: i}, nil, nil, impl.Category{}},
		{"nothing at all", impl.Functor{}, impl.Functor{}, nil, nil, impl.Category{}},
	}
}

// column returns the number in one place of each list.
func column(rows [][]int64, place int) []int64 {
	var found []int64
	for _, row := range rows {
		found = append(found, row[place])
	}
	return found
}

func TestCommaCategories(t *testing.T) {
	for _, s := range describedCommas() {
		one(impl.CommaCategory(s.f, s.g)).is(t, s.category)
		one(impl.CommaObjects(s.f, s.g)).is(t, s.objects)
		one(impl.CommaArrows(s.f, s.g)).is(t, s.arrows)
		one(impl.CommaLeft(s.f, s.g)).is(t, mapped(s.category, s.f.Source, column(s.objects, 0), column(s.arrows, 2)))
		one(impl.CommaRight(s.f, s.g)).is(t, mapped(s.category, s.g.Source, column(s.objects, 1), column(s.arrows, 3)))
		if t.Failed() {
			t.Fatal(s.label)
		}
	}
	same := identityByDefinition(interval())
	left, code := impl.CommaLeft(same, same)
	two(left.Objects, left.Arrows, code).is(t, list(0, 0, 1), list(0, 0, 1, 0, 1, 2))
	right, code := impl.CommaRight(same, same)
	two(right.Objects, right.Arrows, code).is(t, list(0, 1, 1), list(0, 1, 1, 2, 2, 2))
}

// commaResults are what all functions of a comma category return.
func commaResults(f, g impl.Functor) []result {
	return []result{
		one(impl.CommaCategory(f, g)), one(impl.CommaObjects(f, g)), one(impl.CommaArrows(f, g)),
		one(impl.CommaLeft(f, g)), one(impl.CommaRight(f, g)),
	}
}

// sizedPair has a comma category with a number of objects and a number of arrows.
type sizedPair struct {
	f, g            impl.Functor
	objects, arrows int
}

// commasWithin have comma categories within the limits, at each of which one of them is.
func commasWithin() []sizedPair {
	apart := sum(discrete(1), cyclic(impl.MaxArrows-1))
	return []sizedPair{
		{toOne(discrete(4)), toOne(discrete(2)), 8, 8}, {toOne(discrete(2)), toOne(discrete(4)), 8, 8},
		{toOne(cyclic(20)), toOne(cyclic(2)), 1, impl.MaxArrows}, {toOne(cyclic(2)), toOne(cyclic(20)), 1, impl.MaxArrows},
		{identityByDefinition(discrete(impl.MaxObjects)), identityByDefinition(discrete(impl.MaxObjects)), 8, 8},
		{toOne(largest()), toOne(discrete(1)), 8, impl.MaxArrows}, {toOne(discrete(1)), toOne(largest()), 8, impl.MaxArrows},
		{mapped(apart, discrete(2), list(0, 1), append(list(0), repeat(1, impl.MaxArrows-1)...)), identityByDefinition(discrete(2)), 2, impl.MaxArrows},
		{identityByDefinition(chain(impl.MaxObjects)), at(chain(impl.MaxObjects), 7), 8, 36},
	}
}

// commasBeyond have comma categories that are not within the limits.
func commasBeyond() []sizedPair {
	groups, group := groups(20, 1), sum(cyclic(2), discrete(1))
	toBoth := mapped(groups, discrete(2), list(0, 1), append(repeat(0, 20), 1))
	return []sizedPair{
		// One object too many, by the objects on both sides or by the arrows between them.
		{toOne(discrete(3)), toOne(discrete(3)), 9, 9}, {at(severalArrows(9), 0), at(severalArrows(9), 1), 9, 9},
		// One arrow too many, or a few.
		{toBoth, mapped(group, discrete(2), list(0, 1), list(0, 0, 1)), 2, impl.MaxArrows + 1},
		{toOne(cyclic(7)), toOne(cyclic(6)), 1, 42}, {toOne(cyclic(6)), toOne(cyclic(7)), 1, 42},
		{identityByDefinition(cyclic(7)), at(cyclic(7), 0), 7, 49},
		// Far too many of both.
		{toOne(largest()), toOne(largest()), 64, 1600},
		{identityByDefinition(cyclic(impl.MaxArrows)), identityByDefinition(cyclic(impl.MaxArrows)), 40, 64000},
		{constantByDefinition(largest(), cyclic(impl.MaxArrows), 0), constantByDefinition(largest(), cyclic(impl.MaxArrows), 0), 2560, 64000},
	}
}

func TestCommaLimits(t *testing.T) {
	for _, s := range commasWithin() {
		category, code := impl.CommaCategory(s.f, s.g)
		three(int(category.Objects), len(category.From), impl.IsCategory(category), code).is(t, s.objects, s.arrows, true)
		n, objects := namedComma(s.f, s.g)
		one(category, code).is(t, n.category())
		one(impl.CommaObjects(s.f, s.g)).is(t, objects)
		one(impl.CommaArrows(s.f, s.g)).is(t, n.arrows)
		one(impl.CommaLeft(s.f, s.g)).is(t, mapped(category, s.f.Source, column(objects, 0), column(n.arrows, 2)))
		one(impl.CommaRight(s.f, s.g)).is(t, mapped(category, s.g.Source, column(objects, 1), column(n.arrows, 3)))
	}
	for _, s := range commasBeyond() {
		if s.objects < 10 {
			n, objects := namedComma(s.f, s.g)
			two(len(objects), len(n.arrows), impl.ErrNone).is(t, s.objects, s.arrows)
		}
		for _, r := range commaResults(s.f, s.g) {
			r.fails(t, impl.ErrLimit)
		}
	}
}

func TestCommaErrors(t *testing.T) {
	for i := range commaResults(impl.Functor{}, impl.Functor{}) {
		checkTwoFunctorsErrors(t, func(f, g impl.Functor) result { return commaResults(f, g)[i] })
	}
	// Another target, also if the comma category could not be within the limits, or would be empty.
	for _, pair := range differentCategories() {
		left, right := identityByDefinition(pair[0]), identityByDefinition(pair[1])
		for _, r := range slices.Concat(commaResults(left, right), commaResults(right, left), commaResults(left, impl.Functor{Target: pair[1]}), commaResults(impl.Functor{Target: pair[0]}, impl.Functor{Target: pair[1]})) {
			r.fails(t, impl.ErrState)
		}
	}
	// The sources do not matter, and a nil list and an empty one are the same.
	empty := impl.Category{From: list(), To: list(), Identity: list(), Composites: lists()}
	one(impl.CommaCategory(impl.Functor{}, identityByDefinition(empty))).is(t, impl.Category{})
	one(impl.CommaCategory(toOne(interval()), toOne(discrete(1)))).is(t, interval())
}

func TestSlices(t *testing.T) {
	chained := longChain()
	one(impl.SliceCategory(chained, 1)).is(t, interval())
	one(impl.SliceFunctor(chained, 1)).is(t, mapped(interval(), chained, list(0, 1), list(0, 1, 3)))
	one(impl.CosliceCategory(chained, 1)).is(t, interval())
	one(impl.CosliceFunctor(chained, 1)).is(t, mapped(interval(), chained, list(1, 2), list(3, 4, 5)))
	pair := parallel()
	over, under := preorder(3, func(i, j int64) bool { return i == j || j == 2 }), preorder(3, func(i, j int64) bool { return i == j || i == 0 })
	for _, s := range []struct{ over, under impl.Functor }{
		{mapped(discrete(1), interval(), list(0), list(0)), identityByDefinition(interval())},
		{mapped(discrete(1), backwards(), list(0), list(2)), mapped(interval(), backwards(), list(0, 1), list(2, 0, 1))},
		{mapped(discrete(1), pair, list(0), list(0)), mapped(under, pair, list(0, 1, 1), list(0, 1, 2, 3, 3))},
		{mapped(indiscrete(2), cyclic(2), list(0, 0), list(0, 1, 1, 0)), mapped(indiscrete(2), cyclic(2), list(0, 0), list(0, 1, 1, 0))},
		{mapped(discrete(1), largest(), list(0), list(0)), mapped(discrete(1), largest(), list(0), list(0))},
	} {
		one(impl.SliceCategory(s.over.Target, 0)).is(t, s.over.Source)
		one(impl.SliceFunctor(s.over.Target, 0)).is(t, s.over)
		one(impl.CosliceCategory(s.under.Target, 0)).is(t, s.under.Source)
		one(impl.CosliceFunctor(s.under.Target, 0)).is(t, s.under)
	}
	one(impl.SliceFunctor(pair, 1)).is(t, mapped(over, pair, list(0, 0, 1), list(0, 1, 0, 2, 3)))
	one(impl.CosliceFunctor(pair, 1)).is(t, mapped(discrete(1), pair, list(1), list(3)))
	one(impl.SliceFunctor(retract(), 1)).is(t, identityByDefinition(retract()))
	one(impl.SliceFunctor(chain(impl.MaxObjects), 7)).is(t, identityByDefinition(chain(impl.MaxObjects)))
	one(impl.CosliceFunctor(chain(impl.MaxObjects), 0)).is(t, identityByDefinition(chain(impl.MaxObjects)))
	// On one side the arrows that come first decide, and on the other side nothing.
	before, _ := impl.SliceFunctor(noncommuting(), 0)
	behind, _ := impl.CosliceFunctor(noncommuting(), 0)
	two(before.Arrows, before.Source.From, impl.ErrNone).is(t, list(0, 1, 0, 1, 1, 2, 2, 0, 2), list(0, 1, 1, 1, 1, 2, 2, 2, 2))
	two(before.Source.To, before.Source.Identity, impl.ErrNone).is(t, list(0, 0, 1, 1, 2, 0, 1, 2, 2), list(0, 2, 7))
	two(behind.Arrows, behind.Source.From, impl.ErrNone).is(t, list(0, 1, 2, 0, 1, 2, 0, 1, 2), list(0, 0, 0, 1, 1, 1, 2, 2, 2))
	two(behind.Source.To, behind.Source.Identity, impl.ErrNone).is(t, list(0, 1, 2, 1, 1, 1, 2, 2, 2), list(0, 3, 6))
}

// sliceResults are what all functions of slices and coslices return.
func sliceResults(c impl.Category, x int64) []result {
	return []result{
		one(impl.SliceCategory(c, x)), one(impl.SliceFunctor(c, x)),
		one(impl.CosliceCategory(c, x)), one(impl.CosliceFunctor(c, x)),
	}
}

func TestSliceErrors(t *testing.T) {
	for i := range sliceResults(interval(), 0) {
		checkObjectErrors(t, func(c impl.Category, x int64) result { return sliceResults(c, x)[i] })
	}
	for _, r := range slices.Concat(sliceResults(cyclic(7), 0), sliceResults(cyclic(impl.MaxArrows), 0), sliceResults(largest(), 7)) {
		r.fails(t, impl.ErrLimit)
	}
	for _, r := range sliceResults(cyclic(6), 0) {
		one(r.code, r.code).is(t, impl.ErrNone)
	}
	// Seven arrows and an identity lead to an object, or eight.
	for _, r := range slices.Concat(sliceResults(severalArrows(7), 1)[:2], sliceResults(severalArrows(7), 0)[2:]) {
		one(r.code, r.code).is(t, impl.ErrNone)
	}
	for _, r := range slices.Concat(sliceResults(severalArrows(8), 1)[:2], sliceResults(severalArrows(8), 0)[2:]) {
		r.fails(t, impl.ErrLimit)
	}
	one(impl.SliceCategory(severalArrows(8), 0)).is(t, discrete(1))
	one(impl.CosliceCategory(severalArrows(8), 1)).is(t, discrete(1))
}

func TestArrowCategory(t *testing.T) {
	one(impl.ArrowCategory(interval())).is(t, longChain())
	one(impl.ArrowCategory(backwards())).is(t, longChain())
	one(impl.ArrowCategory(impl.Category{})).is(t, impl.Category{})
	one(impl.ArrowCategory(discrete(impl.MaxObjects))).is(t, discrete(impl.MaxObjects))
	one(impl.ArrowCategory(indiscrete(2))).is(t, indiscrete(4))
	one(impl.ArrowCategory(longChain())).is(t, preorder(6, func(i, j int64) bool {
		from, to := list(0, 0, 0, 1, 1, 2), list(0, 1, 2, 1, 2, 2)
		return from[i] <= from[j] && to[i] <= to[j]
	}))
	group, code := impl.ArrowCategory(cyclic(3))
	two(group.Objects, len(group.From), code).is(t, int64(3), 27)
	for _, c := range []impl.Category{cyclic(4), chain(4), sum(discrete(6), interval()), largest()} {
		one(impl.ArrowCategory(c)).fails(t, impl.ErrLimit)
	}
	checkCategoryErrors(t, func(c impl.Category) result { return one(impl.ArrowCategory(c)) })
}

// endingFunctor is a functor and whether it is final and initial.
type endingFunctor struct {
	label              string
	f                  impl.Functor
	isFinal, isInitial bool
}

// groupBehind has a group of n as the arrows from 1 to 1, and as many arrows from 0 to 1.
func groupBehind(n int64) impl.Category {
	c := named{
		objects: 2, arrows: lists(list(0, 0, 0)),
		unit: func(x int64) []int64 { return list(x, x, 0) },
		then: func(f, g []int64) []int64 { return list(f[0], g[1], (f[2]+g[2])%n) },
	}
	for _, ends := range lists(list(0, 1), list(1, 1)) {
		for i := range n {
			c.arrows = append(c.arrows, append(slices.Clone(ends), i))
		}
	}
	return c.category()
}

func endingFunctors() []endingFunctor {
	fence := preorder(5, func(i, j int64) bool { return i == j || i%2 == 0 && (j == i+1 || j == i-1) })
	absorbed := mapped(idempotent(), noncommuting(), list(0), list(0, 1))
	return []endingFunctor{
		{"the end of the interval", at(interval(), 1), true, false},
		{"the beginning of the interval", at(interval(), 0), false, true},
		{"the end of a chain", at(longChain(), 2), true, false},
		{"the middle of a chain", at(longChain(), 1), false, false},
		{"all but the middle", mapped(interval(), longChain(), list(0, 2), list(0, 2, 5)), true, true},
		{"one of two isomorphic objects", at(indiscrete(2), 1), true, true},
		{"the end of two arrows", at(parallel(), 1), false, false},
		{"both objects without the arrows", mapped(discrete(2), parallel(), list(0, 1), list(0, 3)), false, false},
		{"one of two arrows", mapped(interval(), parallel(), list(0, 1), list(0, 1, 3)), false, false},
		{"one of two objects", at(discrete(2), 0), false, false},
		{"nothing to nothing", impl.Functor{}, true, true},
		{"nothing to something", impl.Functor{Target: interval()}, false, false},
		{"two objects to one", toOne(discrete(2)), false, false},
		{"a way forwards and backwards to one", toOne(fence), true, true},
		{"two ways to one", toOne(sum(interval(), interval())), false, false},
		{"the largest to one", toOne(largest()), false, false},
		{"a group to one", toOne(cyclic(impl.MaxArrows)), true, true},
		{"one to a group", at(cyclic(2), 0), false, false},
		{"a group to a larger one", mapped(cyclic(2), cyclic(6), list(0), list(0, 3)), false, false},
		{"a group to a smaller one", mapped(cyclic(6), cyclic(2), list(0), list(0, 1, 0, 1, 0, 1)), true, true},
		{"one to an idempotent", at(idempotent(), 0), false, false},
		{"an idempotent to the retract", mapped(idempotent(), retract(), list(0), list(0, 1)), true, true},
		{"the part of the retract", at(retract(), 1), true, true},
		{"the whole of the retract", at(retract(), 0), false, false},
		{"an arrow that what comes behind it does not change", absorbed, false, true},
		{"an arrow that what comes before it does not change", mapped(opposite(idempotent()), opposite(noncommuting()), list(0), list(0, 1)), true, false},
		// Only behind the first comma objects, more than a category has, it shows whether all are connected.
		{"a group and one object beside it", mapped(sum(cyclic(10), discrete(1)), cyclic(10), list(0, 0), append(counting(10), 0)), false, false},
		{"an object and a group behind it", mapped(groupBehind(10), cyclic(10), list(0, 0), slices.Concat(list(0), counting(10), counting(10))), true, true},
		{"many objects to a large group", constantByDefinition(largest(), cyclic(impl.MaxArrows), 0), false, false},
		{"isomorphic objects to a large group", constantByDefinition(indiscrete(6), cyclic(impl.MaxArrows), 0), false, false},
	}
}

func TestIsFinal(t *testing.T) {
	for _, s := range endingFunctors() {
		one(impl.IsFinal(s.f)).is(t, s.isFinal)
		one(impl.IsInitial(s.f)).is(t, s.isInitial)
		if t.Failed() {
			t.Fatal(s.label)
		}
	}
	// The comma categories of these may be far beyond the limits.
	for _, s := range append(samples(), sample{"largest", largest()}, sample{"large group", cyclic(impl.MaxArrows)}, sample{"sets", sets(1, 2)}) {
		one(impl.IsFinal(identityByDefinition(s.c))).is(t, true)
		one(impl.IsInitial(identityByDefinition(s.c))).is(t, true)
	}
	checkFunctorErrors(t, func(f impl.Functor) result { return one(impl.IsFinal(f)) })
	checkFunctorErrors(t, func(f impl.Functor) result { return one(impl.IsInitial(f)) })
}

func TestCommasMemory(t *testing.T) {
	i := interval()
	rowsOf := func(rows [][]int64, code int64) [][]int64 {
		made := slices.Clone(rows)
		clear(rows[:cap(rows)])
		return made
	}
	constant := constantByDefinition(cyclic(2), i, 1)
	for label, call := range map[string]func(g *guard) [][]int64{
		"CommaCategory": func(g *guard) [][]int64 {
			return listsOf(impl.CommaCategory(g.functor(identityByDefinition(i)), g.functor(constant)))
		},
		"CommaObjects": func(g *guard) [][]int64 {
			return rowsOf(impl.CommaObjects(g.functor(identityByDefinition(i)), g.functor(constant)))
		},
		"CommaArrows": func(g *guard) [][]int64 {
			return rowsOf(impl.CommaArrows(g.functor(identityByDefinition(i)), g.functor(constant)))
		},
		"CommaLeft": func(g *guard) [][]int64 {
			same := g.functor(identityByDefinition(i))
			return functorListsOf(impl.CommaLeft(same, same))
		},
		"CommaRight": func(g *guard) [][]int64 {
			return functorListsOf(impl.CommaRight(g.functor(identityByDefinition(i)), g.functor(constant)))
		},
		"SliceCategory":   func(g *guard) [][]int64 { return listsOf(impl.SliceCategory(g.category(i), 1)) },
		"SliceFunctor":    func(g *guard) [][]int64 { return functorListsOf(impl.SliceFunctor(g.category(i), 1)) },
		"CosliceCategory": func(g *guard) [][]int64 { return listsOf(impl.CosliceCategory(g.category(i), 0)) },
		"CosliceFunctor":  func(g *guard) [][]int64 { return functorListsOf(impl.CosliceFunctor(g.category(i), 0)) },
		"ArrowCategory":   func(g *guard) [][]int64 { return listsOf(impl.ArrowCategory(g.category(retract()))) },
		"IsFinal":         func(g *guard) [][]int64 { impl.IsFinal(g.functor(constant)); return nil },
		"IsInitial":       func(g *guard) [][]int64 { impl.IsInitial(g.functor(constant)); return nil },
	} {
		checkMemory(t, label, call)
	}
}
