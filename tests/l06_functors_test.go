package tests

import (
	"slices"
	"testing"

	"loop.example/g01083/impl"
)

func identityByDefinition(c impl.Category) impl.Functor {
	return impl.Functor{Source: c, Target: c, Objects: counting(int64(len(c.Identity))), Arrows: counting(int64(len(c.From)))}
}

// constantByDefinition maps all of c to the object y of d.
func constantByDefinition(c, d impl.Category, y int64) impl.Functor {
	return impl.Functor{Source: c, Target: d, Objects: repeat(y, int(c.Objects)), Arrows: repeat(d.Identity[y], len(c.From))}
}

// labelledFunctor is a functor, or what is none, and its text or what is wrong with it.
type labelledFunctor struct {
	label string
	f     impl.Functor
}

// describedFunctors are labelled by their texts.
func describedFunctors() []labelledFunctor {
	maps := monoid(list(0, 1, 2, 3), list(1, 1, 2, 2), list(2, 1, 2, 1), list(3, 1, 2, 0))
	return []labelledFunctor{
		{"- | -", impl.Functor{}},
		{"- | -", impl.Functor{Target: retract()}},
		{"0 1 | 0 1 2", impl.Functor{Source: interval(), Target: interval(), Objects: list(0, 1), Arrows: list(0, 1, 2)}},
		{"1 1 | 2 2 2", impl.Functor{Source: interval(), Target: interval(), Objects: list(1, 1), Arrows: list(2, 2, 2)}},
		{"0 1 | 2 0 1", impl.Functor{Source: interval(), Target: backwards(), Objects: list(0, 1), Arrows: list(2, 0, 1)}},
		{"0 2 | 0 2 5", impl.Functor{Source: interval(), Target: longChain(), Objects: list(0, 2), Arrows: list(0, 2, 5)}},
		{"0 0 1 | 0 0 1 0 1 2", impl.Functor{Source: longChain(), Target: interval(), Objects: list(0, 0, 1), Arrows: list(0, 0, 1, 0, 1, 2)}},
		{"0 1 | 0 2 1 3", impl.Functor{Source: parallel(), Target: parallel(), Objects: list(0, 1), Arrows: list(0, 2, 1, 3)}},
		{"0 0 | 0 1 2 0", impl.Functor{Source: parallel(), Target: cyclic(3), Objects: list(0, 0), Arrows: list(0, 1, 2, 0)}},
		{"0 1 | 0 0 1 2 3", impl.Functor{Source: retract(), Target: indiscrete(2), Objects: list(0, 1), Arrows: list(0, 0, 1, 2, 3)}},
		{"0 | 0 3", impl.Functor{Source: cyclic(2), Target: maps, Objects: list(0), Arrows: list(0, 3)}},
		{"0 | 0 24 8 32 16", impl.Functor{Source: cyclic(5), Target: cyclic(impl.MaxArrows), Objects: list(0), Arrows: list(0, 24, 8, 32, 16)}},
		{"7 | 7 10 13 16 19 22 25 28 31 34 37", impl.Functor{Source: cyclic(11), Target: largest(), Objects: list(7), Arrows: list(7, 10, 13, 16, 19, 22, 25, 28, 31, 34, 37)}},
		{"7 6 | 7 6", impl.Functor{Source: discrete(2), Target: discrete(impl.MaxObjects), Objects: list(7, 6), Arrows: list(7, 6)}},
	}
}

// noFunctors are labelled by what is wrong.
func noFunctors() []labelledFunctor {
	var bad []labelledFunctor
	add := func(label string, c, d impl.Category, objects, arrows []int64) {
		bad = append(bad, labelledFunctor{label, impl.Functor{Source: c, Target: d, Objects: objects, Arrows: arrows}})
	}
	for _, objects := range lists(nil, list(0), list(0, 1, 2), list(0, 1, 1), repeat(0, 100)) {
		add("wrong number of objects", interval(), longChain(), objects, list(0, 1, 3))
	}
	for _, arrows := range lists(nil, list(0), list(0, 1), list(0, 1, 3, 3), list(0, 1, 3, 5), repeat(0, 100)) {
		add("wrong number of arrows", interval(), longChain(), list(0, 1), arrows)
	}
	add("objects without a source", impl.Category{}, interval(), list(0), nil)
	add("arrows without a source", impl.Category{}, interval(), nil, list(0))
	add("nothing to map to", interval(), impl.Category{}, list(0, 0), list(0, 0, 0))
	for _, y := range noNumbers(3) {
		add("no object", interval(), longChain(), list(y, 1), list(0, 1, 3))
		add("no last object", interval(), longChain(), list(0, y), list(0, 1, 3))
	}
	for _, g := range noNumbers(6) {
		add("no arrow", interval(), longChain(), list(0, 1), list(g, 1, 3))
		add("no arrow in between", interval(), longChain(), list(0, 1), list(0, g, 3))
		add("no last arrow", interval(), longChain(), list(0, 1), list(0, 1, g))
	}
	add("another source of an arrow", interval(), longChain(), list(0, 2), list(0, 4, 5))
	add("another target of an arrow", interval(), longChain(), list(0, 1), list(0, 2, 3))
	add("an arrow backwards", interval(), indiscrete(2), list(0, 1), list(0, 2, 3))
	add("another identity", interval(), longChain(), list(0, 1), list(0, 1, 5))
	add("no identity", cyclic(2), cyclic(2), list(0), list(1, 1))
	add("no identity, but all composites", monoid(list(0, 1), list(1, 1)), monoid(list(0, 1), list(1, 1)), list(0), list(1, 1))
	add("another composite", cyclic(2), cyclic(3), list(0), list(0, 1))
	add("another composite of several", cyclic(impl.MaxArrows), cyclic(impl.MaxArrows), list(0), append(counting(impl.MaxArrows-1), 0))
	add("composites the other way", noncommuting(), opposite(noncommuting()), list(0), counting(3))
	return bad
}

// noncommuting has two arrows beside the identity that do not depend on what comes behind them.
func noncommuting() impl.Category { return monoid(list(0, 1, 2), list(1, 1, 1), list(2, 2, 2)) }

func opposite(c impl.Category) impl.Category { return namedOpposite(c).category() }

func (g *guard) functor(f impl.Functor) impl.Functor {
	return impl.Functor{
		Source: g.category(f.Source), Target: g.category(f.Target),
		Objects: g.list(f.Objects...), Arrows: g.list(f.Arrows...),
	}
}

// functorListsOf lists all lists of a functor that is a result.
func functorListsOf(f impl.Functor, code int64) [][]int64 {
	return slices.Concat(listsOf(f.Source, code), listsOf(f.Target, code), lists(f.Objects, f.Arrows))
}

func TestIsFunctor(t *testing.T) {
	for _, s := range describedFunctors() {
		expect(t, s.label, impl.IsFunctor(s.f), true)
	}
	for _, s := range noFunctors() {
		expect(t, s.label, impl.IsFunctor(s.f), false)
	}
	for _, s := range samples() {
		expect(t, s.label, impl.IsFunctor(identityByDefinition(s.c)), true)
	}
	for _, s := range slices.Concat(noShapes(), lawless()) {
		expect(t, s.label, impl.IsFunctor(identityByDefinition(s.c)), false)
		expect(t, s.label, impl.IsFunctor(impl.Functor{Target: s.c}), false)
		// Nothing is wrong with the images.
		toPoint := impl.Functor{Source: s.c, Target: discrete(1), Objects: repeat(0, len(s.c.Identity)), Arrows: repeat(0, len(s.c.From))}
		expect(t, s.label, impl.IsFunctor(toPoint), false)
	}
}

func TestIdentityFunctor(t *testing.T) {
	one(impl.IdentityFunctor(interval())).is(t, impl.Functor{Source: interval(), Target: interval(), Objects: list(0, 1), Arrows: list(0, 1, 2)})
	for _, s := range append(samples(), sample{"largest", largest()}) {
		one(impl.IdentityFunctor(s.c)).is(t, identityByDefinition(s.c))
	}
	checkCategoryErrors(t, func(c impl.Category) result { return one(impl.IdentityFunctor(c)) })
}

func TestFunctorsMemory(t *testing.T) {
	for label, call := range map[string]func(g *guard) [][]int64{
		"IsFunctor":       func(g *guard) [][]int64 { impl.IsFunctor(g.functor(identityByDefinition(retract()))); return nil },
		"IdentityFunctor": func(g *guard) [][]int64 { return functorListsOf(impl.IdentityFunctor(g.category(retract()))) },
	} {
		checkMemory(t, label, call)
	}
}
