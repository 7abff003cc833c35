package tests

import (
	"slices"
	"testing"

	"loop.example/g01083/impl"
)

// labelledTransformation is a transformation, or what is none, and what is right or wrong with it.
type labelledTransformation struct {
	label string
	t     impl.Transformation
}

func transformation(f, g impl.Functor, components ...int64) impl.Transformation {
	return impl.Transformation{Source: f, Target: g, Components: components}
}

// constants has arrows of d between the constant functors from c to the objects y and z of d.
func constants(c, d impl.Category, y, z int64, components ...int64) impl.Transformation {
	return transformation(constantByDefinition(c, d, y), constantByDefinition(c, d, z), components...)
}

// step is the functor from the interval to the long chain with these images.
func step(x, y, between int64) impl.Functor {
	d := longChain()
	return impl.Functor{Source: interval(), Target: d, Objects: list(x, y), Arrows: list(d.Identity[x], between, d.Identity[y])}
}

// startOfInterval leads from the first object to each object.
func startOfInterval() impl.Transformation {
	return transformation(constantByDefinition(interval(), interval(), 0), identityByDefinition(interval()), 0, 1)
}

// endOfInterval leads from each object to the last object.
func endOfInterval() impl.Transformation {
	return transformation(identityByDefinition(interval()), constantByDefinition(interval(), interval(), 1), 1, 2)
}

// swap is the one arrow of a group of two that is no identity.
func swap() impl.Transformation {
	return transformation(identityByDefinition(cyclic(2)), identityByDefinition(cyclic(2)), 1)
}

// split has an idempotent and an identity.
func split() impl.Transformation {
	return transformation(identityByDefinition(retract()), identityByDefinition(retract()), 1, 4)
}

// turnedLargest is a natural isomorphism of the largest size.
func turnedLargest(by int64) impl.Transformation {
	return transformation(identityByDefinition(largest()), identityByDefinition(largest()), append(counting(7), 7+by)...)
}

// isomorphic leads from one of three isomorphic objects to each of them.
func isomorphic() impl.Transformation {
	return transformation(constantByDefinition(indiscrete(3), indiscrete(3), 1), identityByDefinition(indiscrete(3)), 3, 4, 5)
}

func naturalOnes() []labelledTransformation {
	return []labelledTransformation{
		{"nothing", transformation(impl.Functor{}, impl.Functor{})},
		{"nothing in something", transformation(impl.Functor{Target: retract()}, impl.Functor{Target: retract()}, list()...)},
		{"from the start", startOfInterval()},
		{"to the end", endOfInterval()},
		{"from the start to the end", constants(interval(), interval(), 0, 1, 1, 1)},
		{"the identity first", transformation(constantByDefinition(backwards(), backwards(), 0), identityByDefinition(backwards()), 2, 0)},
		{"a step up", transformation(step(0, 1, 1), step(1, 2, 4), 1, 4)},
		{"one of two arrows", constants(interval(), parallel(), 0, 1, 2, 2)},
		{"both of two arrows", constants(discrete(2), parallel(), 0, 1, 2, 1)},
		{"a group", swap()},
		{"an idempotent", split()},
		{"isomorphic objects", isomorphic()},
		{"the largest", turnedLargest(20)},
		{"all objects", constants(discrete(impl.MaxObjects), cyclic(impl.MaxArrows), 0, 0, 0, 39, 1, 38, 2, 37, 3, 36)},
		{"all arrows", constants(cyclic(impl.MaxArrows), largest(), 7, 7, 39)},
	}
}

// unnaturalOne has only the shape of a transformation, and first is its least arrow with a square that
// does not commute.
type unnaturalOne struct {
	label string
	t     impl.Transformation
	first int64
}

func unnaturalOnes() []unnaturalOne {
	identity := identityByDefinition
	swapped := impl.Functor{Source: parallel(), Target: parallel(), Objects: list(0, 1), Arrows: list(0, 2, 1, 3)}
	late := sum(parallel(), parallel())
	lateSwapped := impl.Functor{Source: late, Target: late, Objects: counting(4), Arrows: list(0, 1, 2, 3, 4, 6, 5, 7)}
	inverted := identity(largest())
	slices.Reverse(inverted.Arrows[8:])
	return []unnaturalOne{
		{"two arrows", constants(interval(), parallel(), 0, 1, 1, 2), 1},
		{"two arrows, in the other order", constants(interval(), parallel(), 0, 1, 2, 1), 1},
		{"the first arrow", constants(backwards(), parallel(), 0, 1, 1, 2), 0},
		{"the second of three", constants(longChain(), parallel(), 0, 1, 1, 1, 2), 2},
		{"the last of three", constants(preorder(3, func(i, j int64) bool { return i == j || i == 2 && j == 1 }), parallel(), 0, 1, 1, 1, 2), 2},
		{"the first of several", constants(longChain(), parallel(), 0, 1, 2, 1, 1), 1},
		{"not in the middle", transformation(identity(noncommuting()), identity(noncommuting()), 1), 2},
		{"first and last", transformation(identity(noncommuting()), identity(noncommuting()), 2), 1},
		{"two functors", transformation(identity(parallel()), swapped, 0, 3), 1},
		{"two functors, late", transformation(identity(late), lateSwapped, 0, 3, 4, 7), 5},
		{"the identity in front", transformation(identity(retract()), constantByDefinition(retract(), retract(), 0), 0, 3), 1},
		{"the largest", transformation(identity(largest()), inverted, counting(8)...), 8},
		{"as many arrows as possible", transformation(constantByDefinition(cyclic(impl.MaxArrows), cyclic(impl.MaxArrows), 0), identity(cyclic(impl.MaxArrows)), 17), 1},
	}
}

// identityComponents are the identities of the images of objects, or nothing if there is no such image.
func identityComponents(f impl.Functor) []int64 {
	var components []int64
	for _, x := range f.Objects {
		if x < 0 || x >= int64(len(f.Target.Identity)) {
			return nil
		}
		components = append(components, f.Target.Identity[x])
	}
	return components
}

// wrongFunctors lack the shape of a transformation because of their functors.
func wrongFunctors() []labelledTransformation {
	var bad []labelledTransformation
	for _, s := range noFunctorsAtAll() {
		bad = append(bad, labelledTransformation{s.label, transformation(s.f, s.f, identityComponents(s.f)...)})
	}
	for _, s := range noFunctors() {
		good := constantByDefinition(interval(), longChain(), 0)
		bad = append(bad, labelledTransformation{s.label + ", source", transformation(s.f, good, 0, 0)})
		bad = append(bad, labelledTransformation{s.label + ", target", transformation(good, s.f, 0, 0)})
	}
	for _, pair := range differentCategories() {
		for _, c := range pair {
			bad = append(bad, labelledTransformation{"different sources", transformation(toOne(pair[0]), toOne(pair[1]), repeat(0, int(c.Objects))...)})
		}
		bad = append(bad, labelledTransformation{"different targets", transformation(impl.Functor{Target: pair[0]}, impl.Functor{Target: pair[1]})})
		bad = append(bad, labelledTransformation{"different categories", transformation(identityByDefinition(pair[0]), identityByDefinition(pair[1]), pair[0].Identity...)})
	}
	bad = append(bad, labelledTransformation{"more targets", transformation(constantByDefinition(discrete(1), interval(), 0), constantByDefinition(discrete(1), longChain(), 0), 0)})
	return bad
}

// wrongComponents lack the shape of a transformation because of their components.
func wrongComponents() []labelledTransformation {
	var bad []labelledTransformation
	add := func(label string, f, g impl.Functor, components ...int64) {
		bad = append(bad, labelledTransformation{label, transformation(f, g, components...)})
	}
	for _, components := range lists(nil, list(), list(1), list(1, 4, 4), list(1, 4, 5), repeat(1, 100)) {
		add("wrong number", step(0, 1, 1), step(1, 2, 4), components...)
	}
	add("a component without an object", impl.Functor{}, impl.Functor{}, 0)
	add("a component without an object, in something", impl.Functor{Target: interval()}, impl.Functor{Target: interval()}, 0)
	for _, p := range noNumbers(6) {
		add("no arrow", step(0, 1, 1), step(1, 2, 4), p, 4)
		add("no last arrow", step(0, 1, 1), step(1, 2, 4), 1, p)
	}
	for _, p := range list(0, 2, 3, 4, 5) {
		add("other ends", step(0, 1, 1), step(1, 2, 4), p, 4)
	}
	for _, p := range list(0, 1, 2, 3, 5) {
		add("other ends, last", step(0, 1, 1), step(1, 2, 4), 1, p)
	}
	constant := constantByDefinition(interval(), interval(), 0)
	add("backwards", identityByDefinition(interval()), constant, 0, 1)
	add("the end of another object", constant, identityByDefinition(interval()), 0, 0)
	add("no arrow at all", constantByDefinition(discrete(1), discrete(2), 0), constantByDefinition(discrete(1), discrete(2), 1), 0)
	return bad
}

// noTransformations are labelled by what is wrong.
func noTransformations() []labelledTransformation {
	bad := slices.Concat(wrongFunctors(), wrongComponents())
	for _, s := range unnaturalOnes() {
		bad = append(bad, labelledTransformation{s.label, s.t})
	}
	return bad
}

// checkTransformationErrors checks the errors of a function of a natural transformation that come
// before all others.
func checkTransformationErrors(t *testing.T, call func(s impl.Transformation) result) {
	t.Helper()
	for _, s := range noTransformations() {
		if r := call(s.t); r.code != impl.ErrInvalid {
			t.Errorf("%s: got code %d, want ErrInvalid", s.label, r.code)
		} else {
			r.fails(t, impl.ErrInvalid)
		}
	}
}

func (g *guard) transformation(t impl.Transformation) impl.Transformation {
	return impl.Transformation{Source: g.functor(t.Source), Target: g.functor(t.Target), Components: g.list(t.Components...)}
}

// transformationListsOf lists all lists of a transformation that is a result.
func transformationListsOf(t impl.Transformation, code int64) [][]int64 {
	return slices.Concat(functorListsOf(t.Source, code), functorListsOf(t.Target, code), lists(t.Components))
}

func TestIsTransformation(t *testing.T) {
	for _, s := range naturalOnes() {
		expect(t, s.label, impl.IsTransformation(s.t), true)
	}
	for _, s := range noTransformations() {
		expect(t, s.label, impl.IsTransformation(s.t), false)
	}
}

func TestFirstUnnatural(t *testing.T) {
	for _, s := range naturalOnes() {
		one(impl.FirstUnnatural(s.t)).is(t, -1)
	}
	for _, s := range unnaturalOnes() {
		one(impl.FirstUnnatural(s.t)).is(t, s.first)
	}
	for _, s := range slices.Concat(wrongFunctors(), wrongComponents()) {
		one(impl.FirstUnnatural(s.t)).fails(t, impl.ErrInvalid)
	}
}

func TestIdentityTransformation(t *testing.T) {
	for _, s := range describedFunctors() {
		one(impl.IdentityTransformation(s.f)).is(t, transformation(s.f, s.f, identityComponents(s.f)...))
	}
	last := constantByDefinition(interval(), interval(), 1)
	one(impl.IdentityTransformation(last)).is(t, transformation(last, last, 2, 2))
	turned := impl.Functor{Source: interval(), Target: backwards(), Objects: list(0, 1), Arrows: list(2, 0, 1)}
	one(impl.IdentityTransformation(turned)).is(t, transformation(turned, turned, 2, 1))
	one(impl.IdentityTransformation(identityByDefinition(largest()))).is(t, turnedLargest(0))
	checkFunctorErrors(t, func(f impl.Functor) result { return one(impl.IdentityTransformation(f)) })
}

func TestThenTransformations(t *testing.T) {
	one(impl.ThenTransformations(startOfInterval(), endOfInterval())).is(t, constants(interval(), interval(), 0, 1, 1, 1))
	first := transformation(step(0, 1, 1), step(1, 1, 3), 1, 3)
	one(impl.ThenTransformations(first, transformation(step(1, 1, 3), step(1, 2, 4), 3, 4))).is(t, transformation(step(0, 1, 1), step(1, 2, 4), 1, 4))
	one(impl.ThenTransformations(swap(), swap())).is(t, transformation(swap().Source, swap().Target, 0))
	one(impl.ThenTransformations(turnedLargest(20), turnedLargest(30))).is(t, turnedLargest(17))
	// The order of the composites matters: 1 then 2 is 1, and 2 then 1 is 2.
	one(impl.ThenTransformations(constants(discrete(1), noncommuting(), 0, 0, 1), constants(discrete(1), noncommuting(), 0, 0, 2))).is(t, constants(discrete(1), noncommuting(), 0, 0, 1))
	empty := transformation(impl.Functor{}, impl.Functor{})
	one(impl.ThenTransformations(empty, empty)).is(t, empty)
}

func TestThenTransformationsErrors(t *testing.T) {
	one(impl.ThenTransformations(endOfInterval(), startOfInterval())).fails(t, impl.ErrState)
	one(impl.ThenTransformations(startOfInterval(), startOfInterval())).fails(t, impl.ErrState)
	one(impl.ThenTransformations(swap(), startOfInterval())).fails(t, impl.ErrState)
	// The functors in between differ only in their objects, their arrows, or one of their categories.
	identity, swapped := identityByDefinition(parallel()), describedFunctors()[7].f
	one(impl.ThenTransformations(transformation(identity, identity, 0, 3), transformation(swapped, swapped, 0, 3))).fails(t, impl.ErrState)
	first, second := constantByDefinition(discrete(1), discrete(2), 0), constantByDefinition(discrete(1), discrete(2), 1)
	one(impl.ThenTransformations(transformation(first, first, 0), transformation(second, second, 1))).fails(t, impl.ErrState)
	one(impl.ThenTransformations(constants(discrete(1), cyclic(2), 0, 0, 1), constants(discrete(1), idempotent(), 0, 0, 1))).fails(t, impl.ErrState)
	one(impl.ThenTransformations(constants(cyclic(2), discrete(1), 0, 0, 0), constants(idempotent(), discrete(1), 0, 0, 0))).fails(t, impl.ErrState)
	for _, good := range naturalOnes() {
		checkTransformationErrors(t, func(s impl.Transformation) result { return one(impl.ThenTransformations(s, good.t)) })
		checkTransformationErrors(t, func(s impl.Transformation) result { return one(impl.ThenTransformations(good.t, s)) })
	}
	checkTransformationErrors(t, func(s impl.Transformation) result { return one(impl.ThenTransformations(s, s)) })
}

func TestFunctorBefore(t *testing.T) {
	last := constantByDefinition(interval(), interval(), 1)
	one(impl.FunctorBefore(last, startOfInterval())).is(t, constants(interval(), interval(), 0, 1, 1, 1))
	turned := impl.Functor{Source: backwards(), Target: interval(), Objects: list(0, 1), Arrows: list(1, 2, 0)}
	one(impl.FunctorBefore(turned, endOfInterval())).is(t, transformation(turned, constantByDefinition(backwards(), interval(), 1), 1, 2))
	// Objects change places, are left out, and are taken twice.
	objects := impl.Functor{Source: discrete(3), Target: indiscrete(3), Objects: list(2, 0, 2), Arrows: list(8, 0, 8)}
	one(impl.FunctorBefore(objects, isomorphic())).is(t, transformation(constantByDefinition(discrete(3), indiscrete(3), 1), objects, 5, 3, 5))
	one(impl.FunctorBefore(impl.Functor{Target: retract()}, split())).is(t, transformation(impl.Functor{Target: retract()}, impl.Functor{Target: retract()}))
	one(impl.FunctorBefore(impl.Functor{}, transformation(impl.Functor{Target: retract()}, impl.Functor{Target: retract()}))).is(t, transformation(impl.Functor{Target: retract()}, impl.Functor{Target: retract()}))
	one(impl.FunctorBefore(identityByDefinition(largest()), turnedLargest(20))).is(t, turnedLargest(20))
	one(impl.FunctorBefore(constantByDefinition(largest(), largest(), 7), turnedLargest(20))).is(t, constants(largest(), largest(), 7, 7, repeat(27, 8)...))
	for _, pair := range differentCategories() {
		identity := identityByDefinition(pair[1])
		one(impl.FunctorBefore(identityByDefinition(pair[0]), transformation(identity, identity, pair[1].Identity...))).fails(t, impl.ErrState)
	}
	// The other categories do not matter.
	one(impl.FunctorBefore(constantByDefinition(interval(), retract(), 0), startOfInterval())).fails(t, impl.ErrState)
	one(impl.FunctorBefore(identityByDefinition(parallel()), constants(interval(), parallel(), 0, 1, 2, 2))).fails(t, impl.ErrState)
	for _, good := range []impl.Functor{{}, identityByDefinition(interval()), identityByDefinition(largest())} {
		checkTransformationErrors(t, func(s impl.Transformation) result { return one(impl.FunctorBefore(good, s)) })
	}
	for _, good := range naturalOnes() {
		checkFunctorErrors(t, func(f impl.Functor) result { return one(impl.FunctorBefore(f, good.t)) })
	}
	checkTransformationErrors(t, func(s impl.Transformation) result { return one(impl.FunctorBefore(s.Source, s)) })
}

func TestFunctorBehind(t *testing.T) {
	last := constantByDefinition(interval(), interval(), 1)
	one(impl.FunctorBehind(startOfInterval(), last)).is(t, constants(interval(), interval(), 1, 1, 2, 2))
	raised := impl.Functor{Source: interval(), Target: longChain(), Objects: list(0, 2), Arrows: list(0, 2, 5)}
	one(impl.FunctorBehind(startOfInterval(), raised)).is(t, transformation(constantByDefinition(interval(), longChain(), 0), raised, 0, 2))
	one(impl.FunctorBehind(endOfInterval(), raised)).is(t, transformation(raised, constantByDefinition(interval(), longChain(), 2), 2, 5))
	turned := impl.Functor{Source: interval(), Target: backwards(), Objects: list(0, 1), Arrows: list(2, 0, 1)}
	one(impl.FunctorBehind(startOfInterval(), turned)).is(t, transformation(constantByDefinition(interval(), backwards(), 0), turned, 2, 0))
	one(impl.FunctorBehind(swap(), toOne(cyclic(2)))).is(t, constants(cyclic(2), discrete(1), 0, 0, 0))
	one(impl.FunctorBehind(transformation(impl.Functor{}, impl.Functor{}), impl.Functor{Target: retract()})).is(t, transformation(impl.Functor{Target: retract()}, impl.Functor{Target: retract()}))
	one(impl.FunctorBehind(turnedLargest(20), identityByDefinition(largest()))).is(t, turnedLargest(20))
	one(impl.FunctorBehind(turnedLargest(20), toOne(largest()))).is(t, constants(largest(), discrete(1), 0, 0, repeat(0, 8)...))
	for _, pair := range differentCategories() {
		identity := identityByDefinition(pair[0])
		one(impl.FunctorBehind(transformation(identity, identity, pair[0].Identity...), identityByDefinition(pair[1]))).fails(t, impl.ErrState)
	}
	// The other categories do not matter.
	one(impl.FunctorBehind(constants(interval(), parallel(), 0, 1, 2, 2), identityByDefinition(interval()))).fails(t, impl.ErrState)
	one(impl.FunctorBehind(startOfInterval(), toOne(parallel()))).fails(t, impl.ErrState)
	for _, good := range []impl.Functor{{}, identityByDefinition(interval()), identityByDefinition(largest())} {
		checkTransformationErrors(t, func(s impl.Transformation) result { return one(impl.FunctorBehind(s, good)) })
	}
	for _, good := range naturalOnes() {
		checkFunctorErrors(t, func(f impl.Functor) result { return one(impl.FunctorBehind(good.t, f)) })
	}
	checkTransformationErrors(t, func(s impl.Transformation) result { return one(impl.FunctorBehind(s, s.Target)) })
}

func TestHorizontalComposite(t *testing.T) {
	one(impl.HorizontalComposite(swap(), swap())).is(t, transformation(swap().Source, swap().Target, 0))
	// From the start to the start, and from there to each object.
	one(impl.HorizontalComposite(startOfInterval(), startOfInterval())).is(t, startOfInterval())
	one(impl.HorizontalComposite(startOfInterval(), endOfInterval())).is(t, constants(interval(), interval(), 0, 1, 1, 1))
	one(impl.HorizontalComposite(endOfInterval(), startOfInterval())).is(t, constants(interval(), interval(), 0, 1, 1, 1))
	one(impl.HorizontalComposite(endOfInterval(), endOfInterval())).is(t, endOfInterval())
	up := transformation(step(0, 1, 1), step(1, 2, 4), 1, 4)
	one(impl.HorizontalComposite(endOfInterval(), up)).is(t, transformation(step(0, 1, 1), constantByDefinition(interval(), longChain(), 2), 2, 4))
	// What is moved by the first one comes before what is moved by the second one.
	one(impl.HorizontalComposite(constants(discrete(1), interval(), 0, 1, 1), up)).is(t, constants(discrete(1), longChain(), 0, 2, 2))
	one(impl.HorizontalComposite(turnedLargest(20), turnedLargest(30))).is(t, turnedLargest(17))
	empty := transformation(impl.Functor{}, impl.Functor{})
	one(impl.HorizontalComposite(empty, empty)).is(t, empty)
	one(impl.HorizontalComposite(transformation(impl.Functor{Target: retract()}, impl.Functor{Target: retract()}), split())).is(t, transformation(impl.Functor{Target: retract()}, impl.Functor{Target: retract()}))
}

func TestHorizontalCompositeErrors(t *testing.T) {
	for _, pair := range differentCategories() {
		first, second := identityByDefinition(pair[0]), identityByDefinition(pair[1])
		one(impl.HorizontalComposite(transformation(first, first, pair[0].Identity...), transformation(second, second, pair[1].Identity...))).fails(t, impl.ErrState)
	}
	// Only the target of the first and the source of the second one matter.
	one(impl.HorizontalComposite(constants(interval(), parallel(), 0, 1, 2, 2), startOfInterval())).fails(t, impl.ErrState)
	one(impl.HorizontalComposite(startOfInterval(), constants(discrete(1), interval(), 0, 1, 1))).fails(t, impl.ErrState)
	one(impl.HorizontalComposite(startOfInterval(), constants(parallel(), interval(), 0, 1, 1, 1))).fails(t, impl.ErrState)
	for _, good := range naturalOnes() {
		checkTransformationErrors(t, func(s impl.Transformation) result { return one(impl.HorizontalComposite(s, good.t)) })
		checkTransformationErrors(t, func(s impl.Transformation) result { return one(impl.HorizontalComposite(good.t, s)) })
	}
	checkTransformationErrors(t, func(s impl.Transformation) result { return one(impl.HorizontalComposite(s, s)) })
}

// checkParallelFunctorsErrors checks the errors of a function of two functors with the same source and the
// same target.
func checkParallelFunctorsErrors(t *testing.T, call func(f, g impl.Functor) result) {
	t.Helper()
	for _, pair := range differentCategories() {
		call(toOne(pair[0]), toOne(pair[1])).fails(t, impl.ErrState)
		call(impl.Functor{Target: pair[0]}, impl.Functor{Target: pair[1]}).fails(t, impl.ErrState)
		call(identityByDefinition(pair[0]), identityByDefinition(pair[1])).fails(t, impl.ErrState)
	}
	call(identityByDefinition(interval()), swap().Source).fails(t, impl.ErrState)
	call(constantByDefinition(discrete(impl.MaxObjects), largest(), 7), constantByDefinition(discrete(impl.MaxObjects), cyclic(impl.MaxArrows), 0)).fails(t, impl.ErrState)
	checkTwoFunctorsErrors(t, call)
}

func TestAllTransformations(t *testing.T) {
	identity, start := identityByDefinition(interval()), constantByDefinition(interval(), interval(), 0)
	one(impl.AllTransformations(start, identity)).is(t, lists(list(0, 1)))
	one(impl.AllTransformations(identity, start)).is(t, lists())
	one(impl.AllTransformations(identity, identity)).is(t, lists(list(0, 2)))
	one(impl.AllTransformations(impl.Functor{}, impl.Functor{})).is(t, lists(list()))
	one(impl.AllTransformations(impl.Functor{Target: largest()}, impl.Functor{Target: largest()})).is(t, lists(list()))
	both := constants(discrete(2), parallel(), 0, 1)
	one(impl.AllTransformations(both.Source, both.Target)).is(t, lists(list(1, 1), list(1, 2), list(2, 1), list(2, 2)))
	one(impl.AllTransformations(both.Target, both.Source)).is(t, lists())
	same := constants(interval(), parallel(), 0, 1)
	one(impl.AllTransformations(same.Source, same.Target)).is(t, lists(list(1, 1), list(2, 2)))
	one(impl.AllTransformations(identityByDefinition(retract()), identityByDefinition(retract()))).is(t, lists(list(0, 4), list(1, 4)))
	one(impl.AllTransformations(identityByDefinition(noncommuting()), identityByDefinition(noncommuting()))).is(t, lists(list(0)))
	one(impl.AllTransformations(isomorphic().Source, isomorphic().Target)).is(t, lists(list(3, 4, 5)))
	turned := impl.Functor{Source: cyclic(3), Target: cyclic(3), Objects: list(0), Arrows: list(0, 2, 1)}
	one(impl.AllTransformations(identityByDefinition(cyclic(3)), turned)).is(t, lists())
	one(impl.AllTransformations(turned, turned)).is(t, lists(list(0), list(1), list(2)))
	all, code := impl.AllTransformations(identityByDefinition(largest()), identityByDefinition(largest()))
	one(len(all), code).is(t, 33)
	one(all[32], code).is(t, append(counting(7), 39))
	checkParallelFunctorsErrors(t, func(f, g impl.Functor) result { return one(impl.AllTransformations(f, g)) })
}

// meeting has objects 0 to 3, arrows 4 from 0 to 1 and 5 from 2 to 3, and arrows from 0 to 2 and from 1
// to 3. Behind an arrow from 0 to 2, arrow 5 makes the arrow from 0 to 3 with a number of the first
// list, and before one from 1 to 3, arrow 4 makes one with a number of the second list.
func meeting(first, second []int64) impl.Category {
	n := named{objects: 4, unit: func(x int64) []int64 { return list(x, x, 0) }}
	for x := range n.objects {
		n.arrows = append(n.arrows, list(x, x, 0))
	}
	n.arrows = append(n.arrows, list(0, 1, 0), list(2, 3, 0))
	for i := range first {
		n.arrows = append(n.arrows, list(0, 2, int64(i)))
	}
	for j := range second {
		n.arrows = append(n.arrows, list(1, 3, int64(j)))
	}
	for k := range 1 + slices.Max(slices.Concat(first, second)) {
		n.arrows = append(n.arrows, list(0, 3, k))
	}
	n.then = func(f, g []int64) []int64 {
		switch {
		case f[0] == f[1]:
			return g
		case g[0] == g[1]:
			return f
		case f[1] == 2:
			return list(0, 3, first[f[2]])
		}
		return list(0, 3, second[g[2]])
	}
	return n.category()
}

// beside returns the functors that send the interval to the arrows 4 and 5 of a meeting, and each of
// several objects more to the one object of a group behind it.
func beside(first, second []int64, group, more int64) (impl.Functor, impl.Functor) {
	m := meeting(first, second)
	d := sum(m, cyclic(group))
	c := sum(interval(), discrete(more))
	objects, arrows := repeat(4, int(more)), repeat(int64(len(m.From)), int(more))
	return impl.Functor{Source: c, Target: d, Objects: append(list(0, 1), objects...), Arrows: append(list(0, 4, 1), arrows...)},
		impl.Functor{Source: c, Target: d, Objects: append(list(2, 3), objects...), Arrows: append(list(2, 5, 3), arrows...)}
}

func TestAllTransformationsLimits(t *testing.T) {
	for _, s := range []struct {
		c impl.Category
		d impl.Category
		n int
	}{{discrete(2), groups(20, 10), 200}, {discrete(3), groups(10, 10, 2), 200}, {discrete(1), cyclic(impl.MaxArrows), impl.MaxArrows}} {
		f := impl.Functor{Source: s.c, Target: s.d, Objects: counting(s.c.Objects), Arrows: s.d.Identity}
		all, code := impl.AllTransformations(f, f)
		one(len(all), code).is(t, s.n)
		one(all[len(all)-1], code).is(t, append(moved(s.d.Identity[1:], -1), int64(len(s.d.From)-1)))
	}
	// There are 3 * (8 * 8 + 1 * 2) and 3 * (8 * 8 + 1 * 3) transformations.
	eight := append(repeat(0, 8), 1)
	f, g := beside(eight, append(eight, 1), 3, 1)
	all, code := impl.AllTransformations(f, g)
	one(len(all), code).is(t, 198)
	one(all[0], code).is(t, list(6, 15, 27))
	one(all[197], code).is(t, list(14, 24, 29))
	f, g = beside(eight, append(eight, 1, 1), 3, 1)
	one(impl.AllTransformations(f, g)).fails(t, impl.ErrLimit)
	for _, s := range []impl.Transformation{
		constants(discrete(2), cyclic(15), 0, 0), constants(discrete(impl.MaxObjects), largest(), 7, 7),
		constants(discrete(impl.MaxObjects), cyclic(impl.MaxArrows), 0, 0), constants(discrete(3), cyclic(6), 0, 0),
	} {
		one(impl.AllTransformations(s.Source, s.Target)).fails(t, impl.ErrLimit)
	}
}

// TestAllTransformationsAreFewOfMany has far too many components at the first objects, which the last
// object holds together.
func TestAllTransformationsAreFewOfMany(t *testing.T) {
	star := func(from []int64) impl.Category {
		return pathsByDefinition(impl.MaxObjects, from, repeat(impl.MaxObjects-1, len(from)))
	}
	to := func(c impl.Category, image func(a int) int64) impl.Functor {
		f := constantByDefinition(c, cyclic(impl.MaxArrows), 0)
		for a := range c.From {
			if c.From[a] != c.To[a] {
				f.Arrows[a] = image(a) % impl.MaxArrows
			}
		}
		return f
	}
	c := star(counting(7))
	f, g := to(c, func(a int) int64 { return int64(7 * a) }), to(c, func(a int) int64 { return int64(a * a) })
	all, code := impl.AllTransformations(f, g)
	one(len(all), code).is(t, impl.MaxArrows)
	expect(t, "the last one", impl.IsTransformation(transformation(f, g, all[impl.MaxArrows-1]...)), true)
	one(impl.FindNaturalIsomorphism(f, g)).is(t, all[0])
	// Now two arrows from the last but one object to the last one do not agree.
	c = star(append(counting(7), 6))
	f, g = to(c, func(a int) int64 { return int64(7 * a) }), to(c, func(a int) int64 { return int64(a * a) })
	one(impl.AllTransformations(f, g)).is(t, lists())
	one(impl.FindNaturalIsomorphism(f, g)).fails(t, impl.ErrNotFound)
	// And now no component fits the two images of one arrow from the last object to itself.
	f = constantByDefinition(sum(discrete(impl.MaxObjects-1), cyclic(2)), cyclic(impl.MaxArrows), 0)
	g = impl.Functor{Source: f.Source, Target: f.Target, Objects: f.Objects, Arrows: append(repeat(0, impl.MaxObjects), impl.MaxArrows/2)}
	one(impl.AllTransformations(f, g)).is(t, lists())
	one(impl.FindNaturalIsomorphism(f, g)).fails(t, impl.ErrNotFound)
}

func TestInverseTransformation(t *testing.T) {
	for _, s := range []struct{ there, back impl.Transformation }{
		{swap(), swap()}, {turnedLargest(20), turnedLargest(13)}, {turnedLargest(0), turnedLargest(0)},
		{transformation(impl.Functor{}, impl.Functor{}), transformation(impl.Functor{}, impl.Functor{})},
		{isomorphic(), transformation(isomorphic().Target, isomorphic().Source, 1, 4, 7)},
		{constants(cyclic(impl.MaxArrows), largest(), 7, 7, 39), constants(cyclic(impl.MaxArrows), largest(), 7, 7, 8)},
		{constants(discrete(2), cyclic(5), 0, 0, 1, 3), constants(discrete(2), cyclic(5), 0, 0, 4, 2)},
	} {
		one(impl.IsNaturalIsomorphism(s.there)).is(t, true)
		one(impl.InverseTransformation(s.there)).is(t, s.back)
		one(impl.InverseTransformation(s.back)).is(t, s.there)
	}
	for _, s := range []impl.Transformation{
		startOfInterval(), endOfInterval(), split(), constants(interval(), parallel(), 0, 1, 2, 2), constants(discrete(2), parallel(), 0, 1, 2, 1),
		// A section and a retraction, and an arrow that is both a monomorphism and an epimorphism.
		constants(discrete(1), retract(), 1, 0, 3), constants(discrete(1), retract(), 0, 1, 2), constants(discrete(1), interval(), 0, 1, 1),
	} {
		one(impl.IsNaturalIsomorphism(s)).is(t, false)
		one(impl.InverseTransformation(s)).fails(t, impl.ErrNotFound)
	}
	checkTransformationErrors(t, func(s impl.Transformation) result { return one(impl.IsNaturalIsomorphism(s)) })
	checkTransformationErrors(t, func(s impl.Transformation) result { return one(impl.InverseTransformation(s)) })
}

func TestFindNaturalIsomorphism(t *testing.T) {
	identity := identityByDefinition
	one(impl.FindNaturalIsomorphism(identity(interval()), identity(interval()))).is(t, list(0, 2))
	one(impl.FindNaturalIsomorphism(identity(backwards()), identity(backwards()))).is(t, list(2, 1))
	one(impl.FindNaturalIsomorphism(impl.Functor{}, impl.Functor{})).is(t, list())
	one(impl.FindNaturalIsomorphism(isomorphic().Source, isomorphic().Target)).is(t, list(3, 4, 5))
	one(impl.FindNaturalIsomorphism(isomorphic().Target, isomorphic().Source)).is(t, list(1, 4, 7))
	one(impl.FindNaturalIsomorphism(identity(largest()), identity(largest()))).is(t, counting(8))
	// Far more than MaxFound are no error.
	most := constants(discrete(impl.MaxObjects), largest(), 7, 7)
	one(impl.FindNaturalIsomorphism(most.Source, most.Target)).is(t, repeat(7, impl.MaxObjects))
	// The identity is not the least arrow, and then the least one is no isomorphism.
	last := constants(discrete(2), identityLast(), 0, 0)
	one(impl.FindNaturalIsomorphism(last.Source, last.Target)).is(t, list(0, 0))
	idempotentFirst := monoid(list(0, 0), list(0, 1))
	idempotentFirst.Identity = list(1)
	one(impl.AllTransformations(identity(idempotentFirst), identity(idempotentFirst))).is(t, lists(list(0), list(1)))
	one(impl.FindNaturalIsomorphism(identity(idempotentFirst), identity(idempotentFirst))).is(t, list(1))
	// The exchanged arrows are conjugate in the maps of two elements, by the exchange of the elements.
	exchange := impl.Functor{Source: sets(2), Target: sets(2), Objects: list(0), Arrows: list(3, 1, 2, 0)}
	one(impl.FindNaturalIsomorphism(identity(sets(2)), exchange)).is(t, list(2))
	for _, s := range []impl.Transformation{startOfInterval(), endOfInterval(), transformation(endOfInterval().Target, startOfInterval().Source)} {
		one(impl.FindNaturalIsomorphism(s.Source, s.Target)).fails(t, impl.ErrNotFound)
	}
	// Both images of each object are isomorphic, but no isomorphisms are natural.
	one(impl.FindNaturalIsomorphism(identity(parallel()), describedFunctors()[7].f)).fails(t, impl.ErrNotFound)
	checkParallelFunctorsErrors(t, func(f, g impl.Functor) result { return one(impl.FindNaturalIsomorphism(f, g)) })
}

func TestTransformationsMemory(t *testing.T) {
	oneList := func(made []int64, code int64) [][]int64 { return lists(made) }
	for label, call := range map[string]func(g *guard) [][]int64{
		"IsTransformation": func(g *guard) [][]int64 { impl.IsTransformation(g.transformation(split())); return nil },
		"FirstUnnatural":   func(g *guard) [][]int64 { impl.FirstUnnatural(g.transformation(unnaturalOnes()[10].t)); return nil },
		"IdentityTransformation": func(g *guard) [][]int64 {
			return transformationListsOf(impl.IdentityTransformation(g.functor(split().Source)))
		},
		"ThenTransformations": func(g *guard) [][]int64 {
			same := g.transformation(split())
			return transformationListsOf(impl.ThenTransformations(same, same))
		},
		"FunctorBefore": func(g *guard) [][]int64 {
			return transformationListsOf(impl.FunctorBefore(g.functor(split().Source), g.transformation(split())))
		},
		"FunctorBehind": func(g *guard) [][]int64 {
			return transformationListsOf(impl.FunctorBehind(g.transformation(split()), g.functor(split().Source)))
		},
		"HorizontalComposite": func(g *guard) [][]int64 {
			same := g.transformation(split())
			return transformationListsOf(impl.HorizontalComposite(same, same))
		},
		"AllTransformations": func(g *guard) [][]int64 {
			made, _ := impl.AllTransformations(g.functor(split().Source), g.functor(split().Target))
			return made
		},
		"IsNaturalIsomorphism": func(g *guard) [][]int64 { impl.IsNaturalIsomorphism(g.transformation(swap())); return nil },
		"InverseTransformation": func(g *guard) [][]int64 {
			return transformationListsOf(impl.InverseTransformation(g.transformation(isomorphic())))
		},
		"FindNaturalIsomorphism": func(g *guard) [][]int64 {
			return oneList(impl.FindNaturalIsomorphism(g.functor(isomorphic().Source), g.functor(isomorphic().Target)))
		},
	} {
		checkMemory(t, label, call)
	}
}
