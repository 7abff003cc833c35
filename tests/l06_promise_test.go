package tests

import (
	"slices"
	"testing"

	"loop.example/g01083/impl"
)

// functorsByDefinition lists all functors from c to d, by trying all images with the right ends. It
// reports false if these are far too many.
func functorsByDefinition(c, d impl.Category) ([]impl.Functor, bool) {
	var found []impl.Functor
	tried := 0
	forAllLists(int(c.Objects), d.Objects, func(objects []int64) {
		arrows := make([]int64, len(c.From))
		var fill func(a int)
		fill = func(a int) {
			if tried > 20000 {
				return
			}
			if a == len(arrows) {
				tried++
				f := impl.Functor{Source: c, Target: d, Objects: slices.Clone(objects), Arrows: slices.Clone(arrows)}
				if isFunctorByDefinition(f) {
					found = append(found, f)
				}
				return
			}
			for _, arrows[a] = range arrowsFromTo(d, objects[c.From[a]], objects[c.To[a]]) {
				fill(a + 1)
			}
		}
		fill(0)
	})
	return found, tried <= 20000
}

// functorSamples are few enough for all threes of them.
func functorSamples() []sample {
	return []sample{
		{"no objects", impl.Category{}}, {"one arrow", discrete(1)}, {"two objects", discrete(2)}, {"interval", interval()},
		{"backwards", backwards()}, {"parallel arrows", parallel()}, {"retract", retract()}, {"idempotent", idempotent()},
		{"group", cyclic(2)}, {"isomorphic objects", indiscrete(2)}, {"interval and group", sum(interval(), cyclic(2))}, {"no commuting", noncommuting()},
	}
}

// someFunctors are up to five functors from c to d: the first and the last one, and some in between.
func someFunctors(t *testing.T, c, d impl.Category) []impl.Functor {
	t.Helper()
	all, code := impl.AllFunctors(c, d)
	if code != impl.ErrNone {
		t.Fatalf("AllFunctors from %v to %v returns code %d", c, d, code)
	}
	if len(all) <= 5 {
		return all
	}
	last := len(all) - 1
	return []impl.Functor{all[0], all[last/4], all[last/2], all[last-1], all[last]}
}

// forFunctors calls visit with some functors between each two of the samples.
func forFunctors(t *testing.T, visit func(label string, f impl.Functor)) {
	t.Helper()
	for _, s := range functorSamples() {
		for _, r := range functorSamples() {
			for _, f := range someFunctors(t, s.c, r.c) {
				visit(s.label+" to "+r.label+" by "+functorTextByDefinition(f), f)
			}
		}
	}
}

// mustFunctor returns what was built if it is a functor.
func mustFunctor(t *testing.T, f impl.Functor, code int64) impl.Functor {
	t.Helper()
	if code != impl.ErrNone || !impl.IsFunctor(f) {
		t.Fatalf("got %v with code %d, want a functor", f, code)
	}
	return f
}

func then(t *testing.T, f, g impl.Functor) impl.Functor {
	t.Helper()
	composite, code := impl.ThenFunctors(f, g)
	return mustFunctor(t, composite, code)
}

func equalFunctors(f, g impl.Functor) bool { return show([]any{f}) == show([]any{g}) }

// applied returns the images of the images.
func applied(images, behind []int64) []int64 {
	var found []int64
	for _, image := range images {
		found = append(found, behind[image])
	}
	return found
}

func TestPromise6AllFunctors(t *testing.T) {
	pairs := 0
	for _, s := range append(samples(), sample{"no commuting", noncommuting()}, sample{"opposite", opposite(retract())}) {
		for _, r := range append(samples(), sample{"no commuting", noncommuting()}, sample{"identity last", identityLast()}) {
			want, complete := functorsByDefinition(s.c, r.c)
			if !complete {
				continue
			}
			pairs++
			one(impl.AllFunctors(s.c, r.c)).is(t, want)
			one(impl.CountFunctors(s.c, r.c)).is(t, len(want))
		}
	}
	expect(t, "nearly all pairs of samples are compared", pairs > 500, true)
}

func TestPromise6Units(t *testing.T) {
	functors := 0
	forFunctors(t, func(label string, f impl.Functor) {
		functors++
		before, code := impl.IdentityFunctor(f.Source)
		one(then(t, mustFunctor(t, before, code), f), impl.ErrNone).is(t, f)
		behind, code := impl.IdentityFunctor(f.Target)
		one(then(t, f, mustFunctor(t, behind, code)), impl.ErrNone).is(t, f)
		for y := range f.Target.Objects {
			constant, code := impl.ConstantFunctor(f.Source, f.Target, y)
			one(mustFunctor(t, constant, code), code).is(t, constantByDefinition(f.Source, f.Target, y))
			behind := constantByDefinition(f.Target, retract(), 1)
			one(then(t, f, behind), impl.ErrNone).is(t, constantByDefinition(f.Source, retract(), 1))
		}
	})
	expect(t, "functors", functors > 300, true)
}

func TestPromise6Composites(t *testing.T) {
	forFunctors(t, func(label string, f impl.Functor) {
		for _, s := range functorSamples() {
			for _, g := range someFunctors(t, f.Target, s.c) {
				composite := then(t, f, g)
				one(composite, impl.ErrNone).is(t, impl.Functor{
					Source: f.Source, Target: g.Target, Objects: applied(f.Objects, g.Objects), Arrows: applied(f.Arrows, g.Arrows),
				})
			}
		}
	})
}

func TestPromise6Associative(t *testing.T) {
	chosen := []impl.Category{interval(), retract(), idempotent(), cyclic(2), sum(interval(), cyclic(2))}
	for _, a := range chosen {
		for _, b := range chosen {
			for _, c := range chosen {
				for _, f := range someFunctors(t, a, b) {
					for _, g := range someFunctors(t, b, c) {
						for _, h := range someFunctors(t, c, retract()) {
							one(then(t, then(t, f, g), h), impl.ErrNone).is(t, then(t, f, then(t, g, h)))
						}
					}
				}
			}
		}
	}
}

func TestPromise6Pairs(t *testing.T) {
	for _, s := range functorSamples() {
		for _, r := range functorSamples() {
			first, code := impl.FirstProjection(s.c, r.c)
			second, secondCode := impl.SecondProjection(s.c, r.c)
			if namedProduct(s.c, r.c).isTooLarge() {
				one(first, code).fails(t, impl.ErrLimit)
				one(second, secondCode).fails(t, impl.ErrLimit)
				continue
			}
			one(mustFunctor(t, first, code).Source, code).is(t, product(s.c, r.c))
			one(mustFunctor(t, second, secondCode).Source, code).is(t, product(s.c, r.c))
			one(list(first.Target.Objects, second.Target.Objects), code).is(t, list(s.c.Objects, r.c.Objects))
			for _, q := range functorSamples() {
				checkPairs(t, q.c, first, second)
			}
		}
	}
}

// checkPairs checks that pairs of functors from c are recovered by the projections, and that each
// functor to the product is the pair of its parts.
func checkPairs(t *testing.T, c impl.Category, first, second impl.Functor) {
	t.Helper()
	for _, f := range someFunctors(t, c, first.Target) {
		for _, g := range someFunctors(t, c, second.Target) {
			pair, code := impl.PairFunctors(f, g)
			one(then(t, mustFunctor(t, pair, code), first), impl.ErrNone).is(t, f)
			one(then(t, pair, second), impl.ErrNone).is(t, g)
		}
	}
	if len(first.Source.From) > impl.MaxTarget || len(c.From) > 6 {
		return
	}
	into, code := impl.AllFunctors(c, first.Source)
	if code != impl.ErrNone {
		return
	}
	for _, h := range into {
		one(impl.PairFunctors(then(t, h, first), then(t, h, second))).is(t, h)
	}
	n, _ := impl.CountFunctors(c, first.Target)
	m, _ := impl.CountFunctors(c, second.Target)
	one(int64(len(into)), code).is(t, n*m)
}

func TestPromise6Copairs(t *testing.T) {
	for _, s := range functorSamples() {
		for _, r := range functorSamples() {
			both, n := sum(s.c, r.c), int64(len(s.c.From))
			left, code := impl.InclusionFunctor(both, counting(n))
			one(mustFunctor(t, left, code), code).is(t, impl.Functor{Source: s.c, Target: both, Objects: counting(s.c.Objects), Arrows: counting(n)})
			right, code := impl.InclusionFunctor(both, moved(counting(int64(len(r.c.From))), n))
			one(mustFunctor(t, right, code).Source, code).is(t, r.c)
			for _, q := range functorSamples() {
				checkCopairs(t, q.c, left, right)
			}
		}
	}
}

// checkCopairs checks that copairs of functors to d are recovered by the inclusions, and that each
// functor from the sum is the copair of its parts.
func checkCopairs(t *testing.T, d impl.Category, left, right impl.Functor) {
	t.Helper()
	for _, f := range someFunctors(t, left.Source, d) {
		for _, g := range someFunctors(t, right.Source, d) {
			copair, code := impl.CopairFunctors(f, g)
			one(then(t, left, mustFunctor(t, copair, code)), impl.ErrNone).is(t, f)
			one(then(t, right, copair), impl.ErrNone).is(t, g)
		}
	}
	out, code := impl.AllFunctors(left.Target, d)
	if code != impl.ErrNone {
		return
	}
	for _, h := range out {
		one(impl.CopairFunctors(then(t, left, h), then(t, right, h))).is(t, h)
	}
	n, _ := impl.CountFunctors(left.Source, d)
	m, _ := impl.CountFunctors(right.Source, d)
	one(int64(len(out)), code).is(t, n*m)
}

// TestPromise6Kernels checks that each functor goes in exactly one way through the quotient by its
// kernel, and behind that by a faithful functor.
func TestPromise6Kernels(t *testing.T) {
	collapsed := 0
	forFunctors(t, func(label string, f impl.Functor) {
		p, code := impl.KernelCongruence(f)
		one(p, code).is(t, kernelByDefinition(f))
		expect(t, label+": the kernel is a congruence", isCongruenceByDefinition(f.Source, p), true)
		quotient, code := impl.QuotientFunctor(f.Source, p)
		mustFunctor(t, quotient, code)
		ways, code := impl.AllFunctors(quotient.Target, f.Target)
		if code != impl.ErrNone {
			t.Fatalf("%s: AllFunctors returns code %d", label, code)
		}
		ways = slices.DeleteFunc(ways, func(g impl.Functor) bool { return !equalFunctors(then(t, quotient, g), f) })
		if len(ways) != 1 {
			t.Fatalf("%s: %d ways through the quotient by the kernel", label, len(ways))
		}
		one(impl.IsFaithful(ways[0])).is(t, true)
		one(impl.IsFaithful(f)).is(t, len(quotient.Target.From) == len(f.Source.From))
		if len(quotient.Target.From) < len(f.Source.From) {
			collapsed++
		}
	})
	expect(t, "kernels that are not trivial", collapsed > 30, true)
}

// kernelByDefinition numbers the arrows that are told apart in the order of the least ones.
func kernelByDefinition(f impl.Functor) []int64 {
	var p []int64
	classes := int64(0)
	for a := range f.Arrows {
		class := classes
		for b := range a {
			if f.Arrows[a] == f.Arrows[b] && f.Source.From[a] == f.Source.From[b] && f.Source.To[a] == f.Source.To[b] {
				class = p[b]
			}
		}
		p = append(p, class)
		classes = max(classes, class+1)
	}
	return p
}

func TestPromise6Quotients(t *testing.T) {
	for _, s := range samples() {
		for _, p := range congruences(s.c) {
			quotient, code := impl.QuotientFunctor(s.c, p)
			one(mustFunctor(t, quotient, code).Objects, code).is(t, counting(s.c.Objects))
			one(quotient.Arrows, code).is(t, p)
			one(impl.KernelCongruence(quotient)).is(t, p)
			one(impl.IsFull(quotient)).is(t, true)
			one(impl.IsEssentiallySurjective(quotient)).is(t, true)
			one(impl.ImageArrows(quotient)).is(t, counting(int64(len(quotient.Target.From))))
		}
	}
}

func TestPromise6Inclusions(t *testing.T) {
	for _, s := range samples() {
		for _, arrows := range sublists(int64(len(s.c.From))) {
			inclusion, code := impl.InclusionFunctor(s.c, arrows)
			if !isSubcategoryByDefinition(s.c, arrows) {
				one(inclusion, code).fails(t, impl.ErrState)
				continue
			}
			part, partCode := impl.SubcategoryOf(s.c, arrows)
			one(mustFunctor(t, inclusion, code).Source, partCode).is(t, part)
			one(inclusion.Arrows, code).is(t, arrows)
			one(inclusion.Target, code).is(t, s.c)
			one(impl.IsFaithful(inclusion)).is(t, true)
			one(impl.ImageArrows(inclusion)).is(t, arrows)
			one(impl.KernelCongruence(inclusion)).is(t, counting(int64(len(arrows))))
		}
	}
}

func isFullByDefinition(f impl.Functor) bool {
	for x := range f.Objects {
		for y := range f.Objects {
			from := arrowsFromTo(f.Source, int64(x), int64(y))
			for _, g := range arrowsFromTo(f.Target, f.Objects[x], f.Objects[y]) {
				if !slices.ContainsFunc(from, func(a int64) bool { return f.Arrows[a] == g }) {
					return false
				}
			}
		}
	}
	return true
}

func isEssentialByDefinition(f impl.Functor) bool {
	for y := range f.Target.Objects {
		isNear := func(x int64) bool {
			for _, g := range arrowsFromTo(f.Target, x, y) {
				if slices.ContainsFunc(retractionsByDefinition(f.Target, g), func(h int64) bool { return slices.Contains(sectionsByDefinition(f.Target, g), h) }) {
					return true
				}
			}
			return false
		}
		if !slices.ContainsFunc(f.Objects, isNear) {
			return false
		}
	}
	return true
}

func TestPromise6KindsOfFunctors(t *testing.T) {
	var counts [4]int
	forFunctors(t, func(label string, f impl.Functor) {
		isFaithful := slices.Equal(kernelByDefinition(f), counting(int64(len(f.Arrows))))
		one(impl.IsFaithful(f)).is(t, isFaithful)
		one(impl.IsFull(f)).is(t, isFullByDefinition(f))
		one(impl.IsEssentiallySurjective(f)).is(t, isEssentialByDefinition(f))
		back, code := impl.AllFunctors(f.Target, f.Source)
		if code != impl.ErrNone {
			t.Fatalf("%s: AllFunctors returns code %d", label, code)
		}
		back = slices.DeleteFunc(back, func(g impl.Functor) bool {
			return !equalFunctors(then(t, f, g), identityByDefinition(f.Source)) || !equalFunctors(then(t, g, f), identityByDefinition(f.Target))
		})
		one(impl.IsIsomorphism(f)).is(t, len(back) == 1)
		if len(back) == 1 {
			one(impl.InverseFunctor(f)).is(t, back[0])
		} else {
			one(impl.InverseFunctor(f)).fails(t, impl.ErrNotFound)
		}
		for i, has := range []bool{isFaithful, isFullByDefinition(f), isEssentialByDefinition(f), len(back) == 1} {
			if has {
				counts[i]++
			}
		}
	})
	for _, count := range counts {
		expect(t, "functors of each kind", count >= 12, true)
	}
}

func TestPromise6Images(t *testing.T) {
	for _, r := range functorSamples() {
		var parts [][]int64
		for _, arrows := range sublists(int64(len(r.c.From))) {
			if isSubcategoryByDefinition(r.c, arrows) {
				parts = append(parts, arrows)
			}
		}
		for _, s := range functorSamples() {
			for _, f := range someFunctors(t, s.c, r.c) {
				one(impl.ImageArrows(f)).is(t, leastAround(parts, f.Arrows))
			}
		}
	}
}

func TestPromise6OppositesAndProducts(t *testing.T) {
	forFunctors(t, func(label string, f impl.Functor) {
		other, code := impl.OppositeFunctor(f)
		one(mustFunctor(t, other, code), code).is(t, impl.Functor{Source: opposite(f.Source), Target: opposite(f.Target), Objects: f.Objects, Arrows: f.Arrows})
		one(impl.OppositeFunctor(other)).is(t, f)
		for _, g := range []impl.Functor{identityByDefinition(interval()), constantByDefinition(discrete(2), cyclic(2), 0), constantByDefinition(cyclic(2), backwards(), 1)} {
			checkProduct(t, f, g)
			checkProduct(t, g, f)
		}
	})
}

// checkProduct checks that a product of functors is the pair of what they do behind the projections.
func checkProduct(t *testing.T, f, g impl.Functor) {
	t.Helper()
	both, code := impl.ProductFunctor(f, g)
	if namedProduct(f.Source, g.Source).isTooLarge() || namedProduct(f.Target, g.Target).isTooLarge() {
		one(both, code).fails(t, impl.ErrLimit)
		return
	}
	mustFunctor(t, both, code)
	first, code := impl.FirstProjection(f.Source, g.Source)
	second, secondCode := impl.SecondProjection(f.Source, g.Source)
	one(list(code, secondCode), impl.ErrNone).is(t, list(impl.ErrNone, impl.ErrNone))
	one(impl.PairFunctors(then(t, first, f), then(t, second, g))).is(t, both)
}
