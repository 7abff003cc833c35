package tests

import (
	"slices"
	"testing"

	"loop.example/g01083/impl"
)

// unnaturalByDefinition returns the least arrow whose two composites differ, or -1.
func unnaturalByDefinition(s impl.Transformation) int64 {
	c, d := s.Source.Source, s.Source.Target
	for a := range c.From {
		before := d.Composites[s.Source.Arrows[a]][s.Components[c.To[a]]]
		behind := d.Composites[s.Components[c.From[a]]][s.Target.Arrows[a]]
		if before != behind {
			return int64(a)
		}
	}
	return -1
}

// forAllComponents calls visit with all values from f to g that have the shape of a transformation, in
// ascending order of their components. It reports false, without a visit, if they are far too many.
func forAllComponents(f, g impl.Functor, visit func(s impl.Transformation)) bool {
	var possible [][]int64
	count := 1
	for x := range f.Objects {
		possible = append(possible, arrowsFromTo(f.Target, f.Objects[x], g.Objects[x]))
		count = min(count, 10000) * len(possible[x])
	}
	if count > 10000 {
		return false
	}
	var fill func(components []int64)
	fill = func(components []int64) {
		if len(components) == len(possible) {
			visit(transformation(f, g, slices.Clone(components)...))
			return
		}
		for _, p := range possible[len(components)] {
			fill(append(slices.Clone(components), p))
		}
	}
	fill(nil)
	return true
}

// transformationsByDefinition lists all natural transformations from f to g if not far too many have
// the shape of one.
func transformationsByDefinition(f, g impl.Functor) ([]impl.Transformation, bool) {
	var found []impl.Transformation
	complete := forAllComponents(f, g, func(s impl.Transformation) {
		if unnaturalByDefinition(s) == -1 {
			found = append(found, s)
		}
	})
	return found, complete
}

func componentsOf(transformations []impl.Transformation) [][]int64 {
	var components [][]int64
	for _, s := range transformations {
		components = append(components, s.Components)
	}
	return components
}

// composedByDefinition composes components one by one.
func composedByDefinition(d impl.Category, first, second []int64) []int64 {
	var components []int64
	for x := range first {
		components = append(components, d.Composites[first[x]][second[x]])
	}
	return components
}

// forParallelFunctors calls visit with pairs of some functors between each two of the samples.
func forParallelFunctors(t *testing.T, visit func(label string, f, g impl.Functor)) {
	t.Helper()
	for _, s := range functorSamples() {
		for _, r := range functorSamples() {
			for _, f := range someFunctors(t, s.c, r.c) {
				for _, g := range someFunctors(t, s.c, r.c) {
					visit(s.label+" to "+r.label+" by "+functorTextByDefinition(f)+" and "+functorTextByDefinition(g), f, g)
				}
			}
		}
	}
	for _, s := range append(samples(), sample{"largest", largest()}, sample{"no commuting", noncommuting()}, sample{"sets", sets(1, 2)}) {
		visit(s.label, identityByDefinition(s.c), identityByDefinition(s.c))
		for y := range s.c.Objects {
			visit(s.label+" from a constant", constantByDefinition(s.c, s.c, y), identityByDefinition(s.c))
			visit(s.label+" to a constant", identityByDefinition(s.c), constantByDefinition(s.c, s.c, y))
		}
	}
}

func TestPromise7AllTransformations(t *testing.T) {
	natural, none, unnatural := 0, 0, 0
	forParallelFunctors(t, func(label string, f, g impl.Functor) {
		all, complete := transformationsByDefinition(f, g)
		if !complete {
			t.Fatal(label + ": too many components")
		}
		one(impl.AllTransformations(f, g)).is(t, componentsOf(all))
		forAllComponents(f, g, func(s impl.Transformation) {
			first := unnaturalByDefinition(s)
			one(impl.FirstUnnatural(s)).is(t, first)
			expect(t, label, impl.IsTransformation(s), first == -1)
			if first != -1 {
				unnatural++
			}
		})
		natural += len(all)
		if len(all) == 0 {
			none++
		}
		if t.Failed() {
			t.Fatal(label)
		}
	})
	expect(t, "natural ones, pairs without one, and unnatural ones", natural > 1000 && none > 300 && unnatural > 800, true)
}

// identityByComponents is the transformation whose components are identities.
func identityByComponents(f impl.Functor) impl.Transformation {
	return transformation(f, f, identityComponents(f)...)
}

// TestPromise7Isomorphisms checks that exactly those transformations are isomorphisms that have another
// one behind which they are an identity, and before which they are one.
func TestPromise7Isomorphisms(t *testing.T) {
	inverted, other := 0, 0
	forParallelFunctors(t, func(label string, f, g impl.Functor) {
		there, _ := transformationsByDefinition(f, g)
		back, _ := transformationsByDefinition(g, f)
		var isomorphisms []impl.Transformation
		for _, s := range there {
			inverse := slices.IndexFunc(back, func(u impl.Transformation) bool {
				return slices.Equal(composedByDefinition(f.Target, s.Components, u.Components), identityComponents(f)) &&
					slices.Equal(composedByDefinition(f.Target, u.Components, s.Components), identityComponents(g))
			})
			one(impl.IsNaturalIsomorphism(s)).is(t, inverse >= 0)
			if inverse < 0 {
				one(impl.InverseTransformation(s)).fails(t, impl.ErrNotFound)
				other++
				continue
			}
			one(impl.InverseTransformation(s)).is(t, back[inverse])
			one(impl.ThenTransformations(s, back[inverse])).is(t, identityByComponents(f))
			one(impl.ThenTransformations(back[inverse], s)).is(t, identityByComponents(g))
			isomorphisms = append(isomorphisms, s)
		}
		inverted += len(isomorphisms)
		if len(isomorphisms) == 0 {
			one(impl.FindNaturalIsomorphism(f, g)).fails(t, impl.ErrNotFound)
		} else {
			one(impl.FindNaturalIsomorphism(f, g)).is(t, isomorphisms[0].Components)
		}
		if t.Failed() {
			t.Fatal(label)
		}
	})
	expect(t, "isomorphisms and others", inverted > 500 && other > 500, true)
}

// mustTransformation returns what was built if it is a natural transformation.
func mustTransformation(t *testing.T, s impl.Transformation, code int64) impl.Transformation {
	t.Helper()
	if code != impl.ErrNone || !impl.IsTransformation(s) {
		t.Fatalf("got %v with code %d, want a transformation", s, code)
	}
	return s
}

func vertical(t *testing.T, s, u impl.Transformation) impl.Transformation {
	t.Helper()
	composite, code := impl.ThenTransformations(s, u)
	return mustTransformation(t, composite, code)
}

func horizontal(t *testing.T, s, u impl.Transformation) impl.Transformation {
	t.Helper()
	composite, code := impl.HorizontalComposite(s, u)
	return mustTransformation(t, composite, code)
}

func before(t *testing.T, f impl.Functor, s impl.Transformation) impl.Transformation {
	t.Helper()
	composite, code := impl.FunctorBefore(f, s)
	return mustTransformation(t, composite, code)
}

func behind(t *testing.T, s impl.Transformation, g impl.Functor) impl.Transformation {
	t.Helper()
	composite, code := impl.FunctorBehind(s, g)
	return mustTransformation(t, composite, code)
}

// transformationSamples are categories between which the composites of all transformations of some
// functors differ in many ways.
func transformationSamples() []impl.Category {
	return []impl.Category{discrete(2), interval(), backwards(), parallel(), retract(), noncommuting(), cyclic(2), sum(interval(), cyclic(2))}
}

// firstAndLast leaves at most two members of a list.
func firstAndLast[T any](all []T) []T {
	if len(all) <= 2 {
		return all
	}
	return []T{all[0], all[len(all)-1]}
}

// someBetween are the first and the last transformation from f to g, if there are any.
func someBetween(t *testing.T, f, g impl.Functor) []impl.Transformation {
	t.Helper()
	all, complete := transformationsByDefinition(f, g)
	expect(t, "all transformations are found", complete, true)
	return firstAndLast(all)
}

func TestPromise7VerticallyAssociative(t *testing.T) {
	threes := 0
	for _, c := range transformationSamples() {
		for _, d := range transformationSamples() {
			functors := someFunctors(t, c, d)
			for _, f := range functors {
				for _, g := range functors {
					for _, s := range someBetween(t, f, g) {
						one(vertical(t, identityByComponents(f), s), impl.ErrNone).is(t, s)
						one(vertical(t, s, identityByComponents(g)), impl.ErrNone).is(t, s)
						threes += checkVertical(t, s, functors)
					}
				}
			}
		}
	}
	expect(t, "threes of transformations", threes > 5000, true)
}

// checkVertical checks the composites of s, one transformation behind it, and one behind that, and
// returns how many there are.
func checkVertical(t *testing.T, s impl.Transformation, functors []impl.Functor) int {
	t.Helper()
	threes := 0
	for _, h := range functors {
		for _, u := range someBetween(t, s.Target, h) {
			two := vertical(t, s, u)
			one(two, impl.ErrNone).is(t, transformation(s.Source, h, composedByDefinition(s.Source.Target, s.Components, u.Components)...))
			for _, k := range firstAndLast(functors) {
				for _, v := range someBetween(t, h, k) {
					threes++
					one(vertical(t, two, v), impl.ErrNone).is(t, vertical(t, s, vertical(t, u, v)))
				}
			}
		}
	}
	return threes
}

// forSomeTransformations calls visit with transformations between some functors from c to d.
func forSomeTransformations(t *testing.T, c, d impl.Category, visit func(s impl.Transformation)) {
	t.Helper()
	functors := someFunctors(t, c, d)
	for _, f := range functors {
		for _, g := range functors {
			for _, s := range someBetween(t, f, g) {
				visit(s)
			}
		}
	}
}

// TestPromise7Horizontal checks that both ways to compose horizontally agree.
func TestPromise7Horizontal(t *testing.T) {
	pairs, moved := 0, 0
	for _, b := range transformationSamples() {
		for _, c := range []impl.Category{interval(), retract(), noncommuting(), sum(interval(), cyclic(2))} {
			for _, d := range transformationSamples() {
				forSomeTransformations(t, b, c, func(s impl.Transformation) {
					forSomeTransformations(t, c, d, func(u impl.Transformation) {
						pairs++
						both := checkHorizontal(t, s, u)
						if !slices.Equal(both.Components, identityComponents(both.Source)) {
							moved++
						}
					})
				})
			}
		}
	}
	expect(t, "pairs of transformations", pairs > 10000 && moved > 5000, true)
}

// checkHorizontal checks the horizontal composite of s and u, and returns it.
func checkHorizontal(t *testing.T, s, u impl.Transformation) impl.Transformation {
	t.Helper()
	f, g, h, k := s.Source, s.Target, u.Source, u.Target
	beforeH, beforeK := behind(t, s, h), behind(t, s, k)
	one(beforeH, impl.ErrNone).is(t, transformation(then(t, f, h), then(t, g, h), applied(s.Components, h.Arrows)...))
	behindF, behindG := before(t, f, u), before(t, g, u)
	one(behindG, impl.ErrNone).is(t, transformation(then(t, g, h), then(t, g, k), applied(g.Objects, u.Components)...))
	both := horizontal(t, s, u)
	one(both, impl.ErrNone).is(t, vertical(t, beforeH, behindG))
	one(both, impl.ErrNone).is(t, vertical(t, behindF, beforeK))
	one(both, impl.ErrNone).is(t, transformation(then(t, f, h), then(t, g, k), composedByDefinition(h.Target, beforeH.Components, behindG.Components)...))
	return both
}

// TestPromise7Whiskering checks that a functor is the same as its identity transformation.
func TestPromise7Whiskering(t *testing.T) {
	for _, c := range transformationSamples() {
		for _, d := range transformationSamples() {
			forSomeTransformations(t, c, d, func(s impl.Transformation) {
				for _, e := range []impl.Category{interval(), retract()} {
					for _, h := range someFunctors(t, e, c) {
						one(before(t, h, s), impl.ErrNone).is(t, horizontal(t, identityByComponents(h), s))
					}
					for _, h := range someFunctors(t, d, e) {
						one(behind(t, s, h), impl.ErrNone).is(t, horizontal(t, s, identityByComponents(h)))
					}
				}
				one(horizontal(t, identityByComponents(identityByDefinition(c)), s), impl.ErrNone).is(t, s)
				one(horizontal(t, s, identityByComponents(identityByDefinition(d))), impl.ErrNone).is(t, s)
			})
		}
	}
}

// TestPromise7Interchange checks that it does not matter whether composites are first taken vertically
// or horizontally, and that three transformations can be grouped in both ways horizontally.
func TestPromise7Interchange(t *testing.T) {
	chosen := []impl.Category{interval(), retract(), sum(interval(), cyclic(2))}
	fours := 0
	for _, b := range chosen {
		for _, c := range chosen {
			forSomeTransformations(t, b, c, func(s impl.Transformation) {
				for _, target := range firstAndLast(someFunctors(t, b, c)) {
					for _, below := range someBetween(t, s.Target, target) {
						fours += checkInterchange(t, s, below, split())
						fours += checkInterchange(t, s, below, constants(noncommuting(), noncommuting(), 0, 0, 2))
					}
				}
			})
		}
	}
	expect(t, "fours of transformations", fours > 5000, true)
}

// checkInterchange checks the composites of s and below, one behind the other, with transformations
// between functors to the source of the last one, and returns how many there are.
func checkInterchange(t *testing.T, s, below, last impl.Transformation) int {
	t.Helper()
	fours := 0
	d := last.Source.Source
	functors := someFunctors(t, s.Source.Target, d)
	forSomeTransformations(t, s.Source.Target, d, func(u impl.Transformation) {
		one(horizontal(t, horizontal(t, s, u), last), impl.ErrNone).is(t, horizontal(t, s, horizontal(t, u, last)))
		for _, v := range someBetween(t, u.Target, functors[len(functors)-1]) {
			fours++
			first := horizontal(t, vertical(t, s, below), vertical(t, u, v))
			one(first, impl.ErrNone).is(t, vertical(t, horizontal(t, s, u), horizontal(t, below, v)))
		}
	})
	return fours
}
