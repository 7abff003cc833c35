package tests

import (
	"slices"
	"testing"

	"loop.example/g01083/impl"
)

// spaceByDefinition returns the functor category of c and d with its objects. It reports false if there
// are far too many images or components to try.
func spaceByDefinition(c, d impl.Category) (named, []impl.Functor, bool) {
	functors, complete := functorsByDefinition(c, d)
	n := named{objects: int64(len(functors))}
	n.unit = func(x int64) []int64 { return append(list(x, x), identityComponents(functors[x])...) }
	n.then = func(f, g []int64) []int64 {
		return append(list(f[0], g[1]), composedByDefinition(d, f[2:], g[2:])...)
	}
	if n.isTooLarge() {
		return n, functors, complete
	}
	for i, f := range functors {
		for j, g := range functors {
			all, allComplete := transformationsByDefinition(f, g)
			complete = complete && allComplete
			for _, s := range all {
				n.arrows = append(n.arrows, append(list(int64(i), int64(j)), s.Components...))
			}
		}
	}
	return n, functors, complete
}

func TestPromise8FunctorCategories(t *testing.T) {
	within, beyond := 0, 0
	for _, s := range append(samples(), sample{"no commuting", noncommuting()}, sample{"identity last", identityLast()}) {
		for _, r := range append(samples(), sample{"no commuting", noncommuting()}, sample{"identity last", identityLast()}) {
			n, functors, complete := spaceByDefinition(s.c, r.c)
			if !complete {
				continue
			}
			made, found, arrows, code := impl.FunctorCategory(s.c, r.c)
			checkBuilt(t, s.label+" to "+r.label, made, code, n)
			if n.isTooLarge() {
				three(made, found, arrows, code).fails(t, impl.ErrLimit)
				beyond++
				continue
			}
			two(found, arrows, code).is(t, functors, n.arrows)
			checkValues(t, s.c, r.c, n, functors)
			within++
		}
	}
	expect(t, "functor categories within and beyond the limits", within > 300 && beyond > 100, true)
}

// checkValues checks all evaluations, and that each of them behind the diagonal is the identity functor.
func checkValues(t *testing.T, c, d impl.Category, n named, functors []impl.Functor) {
	t.Helper()
	s := space{n.category(), functors, n.arrows}
	want := mapped(d, s.category, nil, nil)
	for y := range d.Objects {
		want.Objects = append(want.Objects, s.numberOf(constantByDefinition(c, d, y)))
	}
	for f := range d.From {
		want.Arrows = append(want.Arrows, s.arrowOf(want.Objects[d.From[f]], want.Objects[d.To[f]], repeat(int64(f), int(c.Objects))))
	}
	diagonal, code := impl.DiagonalFunctor(c, d)
	one(mustFunctor(t, diagonal, code), code).is(t, want)
	for x := range c.Objects {
		want := mapped(s.category, d, nil, nil)
		for _, f := range functors {
			want.Objects = append(want.Objects, f.Objects[x])
		}
		for _, arrow := range s.arrows {
			want.Arrows = append(want.Arrows, arrow[2+x])
		}
		evaluation, code := impl.EvaluationFunctor(c, d, x)
		one(mustFunctor(t, evaluation, code), code).is(t, want)
		one(then(t, diagonal, evaluation), impl.ErrNone).is(t, identityByDefinition(d))
	}
}

// numberOf returns the number of a functor with these images, or -1.
func (s space) numberOf(f impl.Functor) int64 {
	return int64(slices.IndexFunc(s.functors, func(g impl.Functor) bool {
		return slices.Equal(f.Objects, g.Objects) && slices.Equal(f.Arrows, g.Arrows)
	}))
}

// arrowOf returns the number of an arrow, or -1.
func (s space) arrowOf(from, to int64, components []int64) int64 {
	wanted := append(list(from, to), components...)
	return int64(slices.IndexFunc(s.arrows, func(arrow []int64) bool { return slices.Equal(arrow, wanted) }))
}

// transformationAt returns what an arrow is.
func (s space) transformationAt(arrow []int64) impl.Transformation {
	return transformation(s.functors[arrow[0]], s.functors[arrow[1]], arrow[2:]...)
}

// spaceWithin returns a functor category if it is within the limits.
func spaceWithin(t *testing.T, c, d impl.Category) (space, bool) {
	t.Helper()
	made, functors, arrows, code := impl.FunctorCategory(c, d)
	if code != impl.ErrNone {
		three(made, functors, arrows, code).fails(t, impl.ErrLimit)
	}
	return space{made, functors, arrows}, code == impl.ErrNone
}

// movedByDefinition returns the functor from s to another space that moves functors and transformations
// like this.
func (s space) movedByDefinition(other space, move func(f impl.Functor) impl.Functor, whisker func(u impl.Transformation) impl.Transformation) impl.Functor {
	want := mapped(s.category, other.category, nil, nil)
	for _, f := range s.functors {
		want.Objects = append(want.Objects, other.numberOf(move(f)))
	}
	for _, arrow := range s.arrows {
		u := whisker(s.transformationAt(arrow))
		want.Arrows = append(want.Arrows, other.arrowOf(other.numberOf(u.Source), other.numberOf(u.Target), u.Components))
	}
	return want
}

func spaceSamples() []impl.Category {
	return []impl.Category{{}, discrete(1), discrete(2), interval(), backwards(), parallel(), retract(), idempotent(), cyclic(2), indiscrete(2), noncommuting()}
}

// composedBefore returns what ComposeBefore does if all that it needs is within the limits.
func composedBefore(t *testing.T, f impl.Functor, d impl.Category) (impl.Functor, bool) {
	t.Helper()
	_, atTarget := spaceWithin(t, f.Target, d)
	_, atSource := spaceWithin(t, f.Source, d)
	made, code := impl.ComposeBefore(f, d)
	if !atTarget || !atSource {
		one(made, code).fails(t, impl.ErrLimit)
		return made, false
	}
	return mustFunctor(t, made, code), true
}

// composedBehind is composedBefore for ComposeBehind.
func composedBehind(t *testing.T, c impl.Category, g impl.Functor) (impl.Functor, bool) {
	t.Helper()
	_, toSource := spaceWithin(t, c, g.Source)
	_, toTarget := spaceWithin(t, c, g.Target)
	made, code := impl.ComposeBehind(c, g)
	if !toSource || !toTarget {
		one(made, code).fails(t, impl.ErrLimit)
		return made, false
	}
	return mustFunctor(t, made, code), true
}

func evaluation(t *testing.T, c, d impl.Category, x int64) impl.Functor {
	t.Helper()
	made, code := impl.EvaluationFunctor(c, d, x)
	return mustFunctor(t, made, code)
}

// forComposing calls visit with some functors between each two of the samples, and each sample.
func forComposing(t *testing.T, visit func(f impl.Functor, c impl.Category)) {
	t.Helper()
	for _, b := range spaceSamples() {
		for _, c := range spaceSamples() {
			for _, f := range firstAndLast(someFunctors(t, b, c)) {
				for _, d := range spaceSamples() {
					visit(f, d)
				}
			}
		}
	}
}

// TestPromise8ComposeBefore also checks that values are taken at the images of objects, and that what is
// constant stays so.
func TestPromise8ComposeBefore(t *testing.T) {
	composed := 0
	forComposing(t, func(f impl.Functor, d impl.Category) {
		made, within := composedBefore(t, f, d)
		if !within {
			return
		}
		composed++
		source, _ := spaceWithin(t, f.Target, d)
		target, _ := spaceWithin(t, f.Source, d)
		one(made, impl.ErrNone).is(t, source.movedByDefinition(target,
			func(g impl.Functor) impl.Functor { return then(t, f, g) },
			func(u impl.Transformation) impl.Transformation { return before(t, f, u) }))
		for x := range f.Objects {
			one(then(t, made, evaluation(t, f.Source, d, int64(x))), impl.ErrNone).is(t, evaluation(t, f.Target, d, f.Objects[x]))
		}
		diagonal, code := impl.DiagonalFunctor(f.Target, d)
		one(impl.DiagonalFunctor(f.Source, d)).is(t, then(t, mustFunctor(t, diagonal, code), made))
	})
	expect(t, "composed functors", composed > 1000, true)
}

// TestPromise8ComposeBehind also checks that values are moved by the functor, and that it does not matter
// on which side is composed first.
func TestPromise8ComposeBehind(t *testing.T) {
	composed, both := 0, 0
	forComposing(t, func(g impl.Functor, c impl.Category) {
		made, within := composedBehind(t, c, g)
		if !within {
			return
		}
		composed++
		source, _ := spaceWithin(t, c, g.Source)
		target, _ := spaceWithin(t, c, g.Target)
		one(made, impl.ErrNone).is(t, source.movedByDefinition(target,
			func(f impl.Functor) impl.Functor { return then(t, f, g) },
			func(u impl.Transformation) impl.Transformation { return behind(t, u, g) }))
		for x := range c.Objects {
			one(then(t, made, evaluation(t, c, g.Target, x)), impl.ErrNone).is(t, then(t, evaluation(t, c, g.Source, x), g))
		}
		for _, b := range []impl.Category{discrete(2), interval()} {
			for _, f := range firstAndLast(someFunctors(t, b, c)) {
				otherMade, within := composedBehind(t, b, g)
				if !within {
					continue
				}
				both++
				first, _ := composedBefore(t, f, g.Source)
				last, _ := composedBefore(t, f, g.Target)
				one(then(t, first, otherMade), impl.ErrNone).is(t, then(t, made, last))
			}
		}
	})
	expect(t, "composed functors", composed > 1000 && both > 1000, true)
}

// TestPromise8Composites checks that composing with a composite is composing twice, and with an identity
// functor the identity functor.
func TestPromise8Composites(t *testing.T) {
	chosen := []impl.Category{discrete(2), interval(), parallel(), retract(), cyclic(2), noncommuting()}
	pairs := 0
	for _, s := range chosen {
		for _, r := range chosen {
			if here, within := spaceWithin(t, s, r); within {
				one(impl.ComposeBefore(identityByDefinition(s), r)).is(t, identityByDefinition(here.category))
				one(impl.ComposeBehind(s, identityByDefinition(r))).is(t, identityByDefinition(here.category))
			}
			for _, f := range someFunctors(t, s, r) {
				for _, q := range chosen {
					for _, g := range firstAndLast(someFunctors(t, r, q)) {
						pairs += checkComposingTwice(t, f, g)
					}
				}
			}
		}
	}
	expect(t, "pairs of functors", pairs > 500, true)
}

// checkComposingTwice checks the composites with f then g on both sides, and returns how many there are.
func checkComposingTwice(t *testing.T, f, g impl.Functor) int {
	t.Helper()
	count := 0
	both := then(t, f, g)
	for _, other := range []impl.Category{interval(), cyclic(2)} {
		first, isFirst := composedBefore(t, f, other)
		last, isLast := composedBefore(t, g, other)
		if isFirst && isLast {
			count++
			one(impl.ComposeBefore(both, other)).is(t, then(t, last, first))
		}
		first, isFirst = composedBehind(t, other, f)
		last, isLast = composedBehind(t, other, g)
		if isFirst && isLast {
			count++
			one(impl.ComposeBehind(other, both)).is(t, then(t, first, last))
		}
	}
	return count
}

// fixedByDefinition returns f(x, -), or f(-, y) if x is -1.
func fixedByDefinition(a, b impl.Category, f impl.Functor, x, y int64) impl.Functor {
	fixed := mapped(b, f.Target, nil, nil)
	if x == -1 {
		fixed.Source = a
	}
	for i := range a.Objects {
		for j := range b.Objects {
			if i == x || j == y {
				fixed.Objects = append(fixed.Objects, f.Objects[i*b.Objects+j])
			}
		}
	}
	for u := range a.From {
		for v := range b.From {
			if x != -1 && int64(u) == a.Identity[x] || y != -1 && int64(v) == b.Identity[y] {
				fixed.Arrows = append(fixed.Arrows, f.Arrows[u*len(b.From)+v])
			}
		}
	}
	return fixed
}

// curriedByDefinition returns the functor from a to the space of functors from b.
func curriedByDefinition(a, b impl.Category, f impl.Functor, s space) impl.Functor {
	want := mapped(a, s.category, nil, nil)
	for x := range a.Objects {
		want.Objects = append(want.Objects, s.numberOf(fixedByDefinition(a, b, f, x, -1)))
	}
	for u := range a.From {
		var components []int64
		for y := range b.Objects {
			components = append(components, f.Arrows[u*len(b.From)+int(b.Identity[y])])
		}
		want.Arrows = append(want.Arrows, s.arrowOf(want.Objects[a.From[u]], want.Objects[a.To[u]], components))
	}
	return want
}

// checkCurried checks the functors of one variable that f has, and that it is recovered from its curried
// form.
func checkCurried(t *testing.T, a, b impl.Category, f impl.Functor, s space) impl.Functor {
	t.Helper()
	g, code := impl.CurryFunctor(a, b, f)
	one(mustFunctor(t, g, code), code).is(t, curriedByDefinition(a, b, f, s))
	one(impl.UncurryFunctor(a, b, f.Target, g)).is(t, f)
	for x := range a.Objects {
		fixed, code := impl.FixFirst(a, b, f, x)
		one(mustFunctor(t, fixed, code), code).is(t, fixedByDefinition(a, b, f, x, -1))
		one(fixed, code).is(t, s.functors[g.Objects[x]])
	}
	for y := range b.Objects {
		fixed, code := impl.FixSecond(a, b, f, y)
		one(mustFunctor(t, fixed, code), code).is(t, fixedByDefinition(a, b, f, -1, y))
		one(fixed, code).is(t, then(t, g, evaluation(t, b, f.Target, y)))
	}
	return g
}

// TestPromise8Currying checks that functors of two variables and functors to functor categories
// correspond.
func TestPromise8Currying(t *testing.T) {
	there, back, compared := 0, 0, 0
	for _, a := range spaceSamples() {
		for _, b := range spaceSamples() {
			for _, d := range spaceSamples() {
				s, within := spaceWithin(t, b, d)
				if namedProduct(a, b).isTooLarge() || !within {
					continue
				}
				twos, twosCode := impl.AllFunctors(product(a, b), d)
				ones, onesCode := impl.AllFunctors(a, s.category)
				for _, f := range twos {
					there++
					g := checkCurried(t, a, b, f, s)
					expect(t, "the curried form is one of the functors", onesCode != impl.ErrNone || slices.ContainsFunc(ones, func(h impl.Functor) bool { return equalFunctors(g, h) }), true)
				}
				for _, g := range ones {
					back++
					f, code := impl.UncurryFunctor(a, b, d, g)
					one(mustFunctor(t, f, code).Source, code).is(t, product(a, b))
					one(impl.CurryFunctor(a, b, f)).is(t, g)
				}
				if twosCode == impl.ErrNone && onesCode == impl.ErrNone {
					compared++
					one(len(twos), twosCode).is(t, len(ones))
				}
			}
		}
	}
	expect(t, "functors there and back", there > 3000 && back > 3000 && compared > 500, true)
}
