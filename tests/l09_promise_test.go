package tests

import (
	"fmt"
	"slices"
	"testing"

	"loop.example/g01083/impl"
)

// commaObjectsByDefinition lists all a, b and h.
func commaObjectsByDefinition(f, g impl.Functor) [][]int64 {
	var objects [][]int64
	for a, from := range f.Objects {
		for b, to := range g.Objects {
			for h := range f.Target.From {
				if f.Target.From[h] == from && f.Target.To[h] == to {
					objects = append(objects, list(int64(a), int64(b), int64(h)))
				}
			}
		}
	}
	return objects
}

// leads reports whether u and v lead from one object of a comma category to another one.
func leads(f, g impl.Functor, x, y []int64, u, v int) bool {
	if f.Source.From[u] != x[0] || f.Source.To[u] != y[0] || g.Source.From[v] != x[1] || g.Source.To[v] != y[1] {
		return false
	}
	return f.Target.Composites[f.Arrows[u]][y[2]] == f.Target.Composites[x[2]][g.Arrows[v]]
}

// namedComma returns the comma category of f and g with its objects.
func namedComma(f, g impl.Functor) (named, [][]int64) {
	objects := commaObjectsByDefinition(f, g)
	n := named{objects: int64(len(objects))}
	n.unit = func(x int64) []int64 {
		return list(x, x, f.Source.Identity[objects[x][0]], g.Source.Identity[objects[x][1]])
	}
	n.then = func(p, q []int64) []int64 {
		return list(p[0], q[1], f.Source.Composites[p[2]][q[2]], g.Source.Composites[p[3]][q[3]])
	}
	for i, x := range objects {
		for j, y := range objects {
			for u := range f.Source.From {
				for v := range g.Source.From {
					if leads(f, g, x, y, u, v) {
						n.arrows = append(n.arrows, list(int64(i), int64(j), int64(u), int64(v)))
					}
				}
			}
		}
	}
	return n, objects
}

// shared returns the arrows h as components between the projections of a comma category.
func shared(t *testing.T, f, g impl.Functor) impl.Transformation {
	t.Helper()
	left, code := impl.CommaLeft(f, g)
	mustFunctor(t, left, code)
	right, code := impl.CommaRight(f, g)
	mustFunctor(t, right, code)
	objects, code := impl.CommaObjects(f, g)
	one(len(objects), code).is(t, len(left.Objects))
	return transformation(then(t, left, f), then(t, right, g), column(objects, 2)...)
}

// checkComma checks what is told of the comma category of f and g, and reports whether it is within the
// limits.
func checkComma(t *testing.T, label string, f, g impl.Functor) bool {
	t.Helper()
	n, objects := namedComma(f, g)
	made, code := impl.CommaCategory(f, g)
	checkBuilt(t, label, made, code, n)
	if n.isTooLarge() {
		for _, r := range commaResults(f, g) {
			r.fails(t, impl.ErrLimit)
		}
		return false
	}
	one(impl.CommaObjects(f, g)).is(t, objects)
	one(impl.CommaArrows(f, g)).is(t, n.arrows)
	one(impl.CommaLeft(f, g)).is(t, mapped(made, f.Source, column(objects, 0), column(n.arrows, 2)))
	one(impl.CommaRight(f, g)).is(t, mapped(made, g.Source, column(objects, 1), column(n.arrows, 3)))
	expect(t, label+": the arrows of the objects are natural", impl.IsTransformation(shared(t, f, g)), true)
	if t.Failed() {
		t.Fatal(label)
	}
	return true
}

// forCospans calls visit with some functors with the same target.
func forCospans(t *testing.T, samples []sample, visit func(label string, f, g impl.Functor)) {
	t.Helper()
	for _, s := range samples {
		for _, r := range samples {
			for _, q := range samples {
				for _, f := range firstAndLast(someFunctors(t, r.c, s.c)) {
					for _, g := range firstAndLast(someFunctors(t, q.c, s.c)) {
						visit(r.label+" and "+q.label+" to "+s.label, f, g)
					}
				}
			}
		}
	}
}

func TestPromise9Commas(t *testing.T) {
	within, beyond := 0, 0
	check := func(label string, f, g impl.Functor) {
		if checkComma(t, label, f, g) {
			within++
		} else {
			beyond++
		}
	}
	forCospans(t, functorSamples(), check)
	for _, s := range append(samples(), sample{"no commuting", noncommuting()}, sample{"projections", projections()}) {
		check(s.label+" twice", identityByDefinition(s.c), identityByDefinition(s.c))
		for x := range s.c.Objects {
			check(s.label+" over an object", identityByDefinition(s.c), at(s.c, x))
			check(s.label+" under an object", at(s.c, x), identityByDefinition(s.c))
			for y := range s.c.Objects {
				check(s.label+" between objects", at(s.c, x), at(s.c, y))
			}
		}
	}
	expect(t, "comma categories within and beyond the limits", within > 3000 && beyond > 200, true)
}

// oppositeFunctor is f between the opposite categories.
func oppositeFunctor(f impl.Functor) impl.Functor {
	return mapped(opposite(f.Source), opposite(f.Target), f.Objects, f.Arrows)
}

// TestPromise9Opposites checks that in the opposite categories both sides change places.
func TestPromise9Opposites(t *testing.T) {
	compared := 0
	forCospans(t, functorSamples(), func(label string, f, g impl.Functor) {
		objects, code := impl.CommaObjects(f, g)
		others, otherCode := impl.CommaObjects(oppositeFunctor(g), oppositeFunctor(f))
		one(otherCode, impl.ErrNone).is(t, code)
		if code != impl.ErrNone {
			return
		}
		compared++
		var places []int64
		for _, x := range objects {
			places = append(places, int64(slices.IndexFunc(others, func(y []int64) bool { return slices.Equal(y, list(x[1], x[0], x[2])) })))
		}
		arrows, code := impl.CommaArrows(f, g)
		var turned [][]int64
		for _, p := range arrows {
			turned = append(turned, list(places[p[1]], places[p[0]], p[3], p[2]))
		}
		slices.SortFunc(turned, slices.Compare)
		one(impl.CommaArrows(oppositeFunctor(g), oppositeFunctor(f))).is(t, turned)
		one(len(objects), code).is(t, len(others))
	})
	expect(t, "comma categories", compared > 3000, true)
}

// TestPromise9Universal checks that functors to a comma category are, by its projections, all pairs of
// functors with a transformation between their composites.
func TestPromise9Universal(t *testing.T) {
	commas, functors := 0, 0
	chosen := []sample{{"one arrow", discrete(1)}, {"interval", interval()}, {"parallel arrows", parallel()}, {"retract", retract()}, {"group", cyclic(2)}, {"no commuting", noncommuting()}}
	forCospans(t, chosen, func(label string, f, g impl.Functor) {
		for _, z := range []impl.Category{{}, discrete(1), interval(), backwards(), cyclic(2), idempotent()} {
			made, code := impl.CommaCategory(f, g)
			if code != impl.ErrNone {
				return
			}
			all, code := impl.AllFunctors(z, made)
			if code != impl.ErrNone {
				continue
			}
			commas++
			functors += len(all)
			one(partsOf(t, all, f, g), impl.ErrNone).is(t, pairsWithTransformations(t, z, f, g))
		}
	})
	expect(t, "comma categories, and functors to them", commas > 500 && functors > 2000, true)
}

// partsOf describes functors to the comma category of f and g by what the projections make of them, in
// ascending order.
func partsOf(t *testing.T, all []impl.Functor, f, g impl.Functor) []string {
	t.Helper()
	left, code := impl.CommaLeft(f, g)
	mustFunctor(t, left, code)
	right, code := impl.CommaRight(f, g)
	mustFunctor(t, right, code)
	components := shared(t, f, g).Components
	parts := []string{}
	for _, k := range all {
		parts = append(parts, fmt.Sprint(applied(k.Objects, left.Objects), applied(k.Arrows, left.Arrows), applied(k.Objects, right.Objects), applied(k.Arrows, right.Arrows), applied(k.Objects, components)))
	}
	slices.Sort(parts)
	return parts
}

// pairsWithTransformations describes in the same way all functors from z to the sources of f and g with a
// transformation from one composite to the other.
func pairsWithTransformations(t *testing.T, z impl.Category, f, g impl.Functor) []string {
	t.Helper()
	before, code := impl.AllFunctors(z, f.Source)
	behind, behindCode := impl.AllFunctors(z, g.Source)
	one(list(code, behindCode), impl.ErrNone).is(t, list(impl.ErrNone, impl.ErrNone))
	pairs := []string{}
	for _, p := range before {
		for _, q := range behind {
			all, code := impl.AllTransformations(then(t, p, f), then(t, q, g))
			one(code, impl.ErrNone).is(t, impl.ErrNone)
			for _, components := range all {
				pairs = append(pairs, fmt.Sprint(p.Objects, p.Arrows, q.Objects, q.Arrows, components))
			}
		}
	}
	slices.Sort(pairs)
	return pairs
}

// sliceSamples are categories with arrows of many kinds.
func sliceSamples() []sample {
	return append(samples(), sample{"no commuting", noncommuting()}, sample{"opposite of it", opposite(noncommuting())}, sample{"projections", projections()},
		sample{"sets", sets(1, 2)}, sample{"chain", chain(6)}, sample{"opposite", opposite(retract())}, sample{"powers", powers(2, 2)}, sample{"more powers", powers(5, 2)}, sample{"largest", largest()})
}

// side has what tells slices from coslices: which end of an arrow is near the object x, and which one is
// far from it.
type side struct {
	label     string
	functors  func(c impl.Category, x int64) (f, g impl.Functor)
	category  func(c impl.Category, x int64) (impl.Category, int64)
	back      func(c impl.Category, x int64) (impl.Functor, int64)
	near, far func(c impl.Category) []int64
	part      int
	prolonged func(c impl.Category, h, u int64) int64
}

func sources(c impl.Category) []int64 { return c.From }

func targets(c impl.Category) []int64 { return c.To }

func sides() []side {
	return []side{
		{"slice", func(c impl.Category, x int64) (f, g impl.Functor) { return identityByDefinition(c), at(c, x) },
			impl.SliceCategory, impl.SliceFunctor, targets, sources, 2,
			func(c impl.Category, h, u int64) int64 { return c.Composites[u][h] }},
		{"coslice", func(c impl.Category, x int64) (f, g impl.Functor) { return at(c, x), identityByDefinition(c) },
			impl.CosliceCategory, impl.CosliceFunctor, sources, targets, 3,
			func(c impl.Category, h, u int64) int64 { return c.Composites[h][u] }},
	}
}

// checkSlice checks that the objects of a slice are the arrows to x, in the order of their sources, that
// the identity is terminal, and that one arrow of the slice stands over each arrow to a source; and the
// same for a coslice, with the ends exchanged. It reports whether the slice is within the limits.
func checkSlice(t *testing.T, label string, c impl.Category, x int64, is side) bool {
	t.Helper()
	objects := arrowsThat(c, func(h int64) bool { return is.near(c)[h] == x })
	slices.SortStableFunc(objects, func(h, k int64) int { return int(is.far(c)[h] - is.far(c)[k]) })
	n, _ := namedComma(is.functors(c, x))
	back, code := is.back(c, x)
	checkBuilt(t, label, back.Source, code, n)
	made, madeCode := is.category(c, x)
	checkBuilt(t, label, made, madeCode, n)
	if n.isTooLarge() {
		one(back, code).fails(t, impl.ErrLimit)
		return false
	}
	one(mustFunctor(t, back, code), code).is(t, mapped(made, c, applied(objects, is.far(c)), column(n.arrows, is.part)))
	last := int64(slices.Index(objects, c.Identity[x]))
	for i, h := range objects {
		ways := arrowsThat(made, func(p int64) bool { return is.far(made)[p] == int64(i) && is.near(made)[p] == last })
		one(applied(ways, back.Arrows), code).is(t, list(h))
		for u := range c.From {
			over := arrowsThat(made, func(p int64) bool { return is.near(made)[p] == int64(i) && back.Arrows[p] == int64(u) })
			expect(t, label+": one arrow stands over each arrow", len(over) == 1, is.near(c)[u] == is.far(c)[h])
			for _, p := range over {
				one(objects[is.far(made)[p]], code).is(t, is.prolonged(c, h, int64(u)))
			}
		}
	}
	return true
}

func TestPromise9Slices(t *testing.T) {
	within, beyond := 0, 0
	for _, is := range sides() {
		for _, s := range sliceSamples() {
			for x := range s.c.Objects {
				if checkSlice(t, is.label+" of "+s.label, s.c, x, is) {
					within++
				} else {
					beyond++
				}
			}
		}
	}
	expect(t, "slices within and beyond the limits", within > 100 && beyond > 1, true)
}

// TestPromise9ArrowCategories checks that the arrow category is the functor category from the interval.
func TestPromise9ArrowCategories(t *testing.T) {
	within, beyond, compared := 0, 0, 0
	for _, s := range sliceSamples() {
		made, code := impl.ArrowCategory(s.c)
		n, objects := namedComma(identityByDefinition(s.c), identityByDefinition(s.c))
		checkBuilt(t, s.label, made, code, n)
		if code != impl.ErrNone {
			beyond++
			continue
		}
		within++
		one(len(objects), code).is(t, len(s.c.From))
		if len(s.c.From) <= impl.MaxTarget {
			compared++
			functors, _, arrows, code := impl.FunctorCategory(interval(), s.c)
			two(functors, arrows, code).is(t, made, n.arrows)
		}
	}
	expect(t, "arrow categories within and beyond the limits", within > 15 && beyond > 5 && compared > 15, true)
}

// isFinalByDefinition follows arrows of the comma categories both ways from the first object.
func isFinalByDefinition(f impl.Functor) bool {
	for x := range f.Target.Objects {
		n, _ := namedComma(at(f.Target, x), f)
		if n.objects == 0 {
			return false
		}
		reached := make([]bool, n.objects)
		reached[0] = true
		for range n.objects {
			for _, p := range n.arrows {
				both := reached[p[0]] || reached[p[1]]
				reached[p[0]], reached[p[1]] = both, both
			}
		}
		if slices.Contains(reached, false) {
			return false
		}
	}
	return true
}

func mustAnswer(t *testing.T, answer bool, code int64) bool {
	t.Helper()
	one(code, code).is(t, impl.ErrNone)
	return answer
}

func isFinal(t *testing.T, f impl.Functor) bool {
	t.Helper()
	answer, code := impl.IsFinal(f)
	return mustAnswer(t, answer, code)
}

func isInitial(t *testing.T, f impl.Functor) bool {
	t.Helper()
	answer, code := impl.IsInitial(f)
	return mustAnswer(t, answer, code)
}

// components returns the number of classes of connected objects.
func components(t *testing.T, c impl.Category) int {
	t.Helper()
	p, code := impl.ConnectedObjects(c)
	one(code, code).is(t, impl.ErrNone)
	slices.Sort(p)
	return len(slices.Compact(p))
}

// TestPromise9Final also checks that a final functor keeps the number of components.
func TestPromise9Final(t *testing.T) {
	finals, initials, neither := 0, 0, 0
	check := func(label string, f impl.Functor) {
		expect(t, label+": final", isFinal(t, f), isFinalByDefinition(f))
		expect(t, label+": initial", isInitial(t, f), isFinalByDefinition(oppositeFunctor(f)))
		if isFinal(t, f) || isInitial(t, f) {
			one(components(t, f.Source), impl.ErrNone).is(t, components(t, f.Target))
		}
		switch {
		case isFinal(t, f):
			finals++
		case isInitial(t, f):
			initials++
		default:
			neither++
		}
	}
	forFunctors(t, check)
	for _, s := range endingFunctors() {
		check(s.label, s.f)
	}
	for _, s := range sliceSamples() {
		expect(t, s.label+" to one", isFinal(t, toOne(s.c)), components(t, s.c) == 1)
		expect(t, s.label+" to one", isInitial(t, toOne(s.c)), components(t, s.c) == 1)
		for x := range s.c.Objects {
			check(s.label+" at an object", at(s.c, x))
			terminal, initial := true, true
			for y := range s.c.Objects {
				terminal = terminal && len(arrowsFromTo(s.c, y, x)) == 1
				initial = initial && len(arrowsFromTo(s.c, x, y)) == 1
			}
			expect(t, s.label+": terminal objects", isFinal(t, at(s.c, x)), terminal)
			expect(t, s.label+": initial objects", isInitial(t, at(s.c, x)), initial)
		}
	}
	expect(t, "functors of all kinds", finals > 50 && initials > 20 && neither > 200, true)
}

// TestPromise9FinalComposites checks that behind a final functor exactly those are final that make final
// composites.
func TestPromise9FinalComposites(t *testing.T) {
	finals, others := 0, 0
	forFunctors(t, func(label string, f impl.Functor) {
		isFinalOne, isInitialOne := isFinal(t, f), isInitial(t, f)
		if !isFinalOne && !isInitialOne {
			return
		}
		for _, s := range functorSamples() {
			for _, g := range someFunctors(t, f.Target, s.c) {
				composite := then(t, f, g)
				if isFinalOne {
					expect(t, label, isFinal(t, composite), isFinal(t, g))
				}
				if isInitialOne {
					expect(t, label, isInitial(t, composite), isInitial(t, g))
				}
				if isFinal(t, g) || isInitial(t, g) {
					finals++
				} else {
					others++
				}
			}
		}
	})
	expect(t, "composites", finals > 300 && others > 300, true)
}
