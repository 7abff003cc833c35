package tests

import (
	"slices"
	"testing"

	"loop.example/g01083/impl"
)

// inverseByDefinition returns the inverse of an arrow, or -1.
func inverseByDefinition(c impl.Category, f int64) int64 {
	for _, g := range retractionsByDefinition(c, f) {
		if slices.Contains(sectionsByDefinition(c, f), g) {
			return g
		}
	}
	return -1
}

// isomorphismsFromTo lists the isomorphisms from an object to another one.
func isomorphismsFromTo(c impl.Category, x, y int64) []int64 {
	return slices.DeleteFunc(arrowsFromTo(c, x, y), func(f int64) bool { return inverseByDefinition(c, f) == -1 })
}

// along composes three arrows.
func along(c impl.Category, f, g, h int64) int64 { return c.Composites[c.Composites[f][g]][h] }

// skeletalByDefinition returns what the functions of skeletons have to return.
func skeletalByDefinition(c impl.Category) skeletal {
	s := skeletal{c: c}
	for x := range c.Objects {
		least := slices.IndexFunc(counting(c.Objects), func(y int64) bool { return len(isomorphismsFromTo(c, y, x)) > 0 })
		if least == int(x) {
			s.objects = append(s.objects, x)
			s.chosen = append(s.chosen, c.Identity[x])
		} else {
			s.chosen = append(s.chosen, isomorphismsFromTo(c, x, int64(least))[0])
		}
		s.classes = append(s.classes, int64(slices.Index(s.objects, int64(least))))
	}
	n := named{objects: int64(len(s.objects))}
	n.unit = func(k int64) []int64 { return list(k, k, c.Identity[s.objects[k]]) }
	n.then = func(f, g []int64) []int64 { return list(f[0], g[1], c.Composites[f[2]][g[2]]) }
	for f := range c.From {
		from, to := slices.Index(s.objects, c.From[f]), slices.Index(s.objects, c.To[f])
		if from >= 0 && to >= 0 {
			n.arrows = append(n.arrows, list(int64(from), int64(to), int64(f)))
		}
	}
	s.skeleton = n.category()
	for f := range c.From {
		moved := along(c, inverseByDefinition(c, s.chosen[c.From[f]]), int64(f), s.chosen[c.To[f]])
		s.arrows = append(s.arrows, int64(slices.Index(column(n.arrows, 2), moved)))
	}
	return s
}

func isFaithfulByDefinition(f impl.Functor) bool {
	return slices.Equal(kernelByDefinition(f), counting(int64(len(f.Arrows))))
}

func isEquivalenceByDefinition(f impl.Functor) bool {
	return isFaithfulByDefinition(f) && isFullByDefinition(f) && isEssentialByDefinition(f)
}

// quasiInverseByDefinition returns the functor back and the isomorphisms for an equivalence.
func quasiInverseByDefinition(f impl.Functor) (impl.Functor, []int64) {
	g, isomorphisms := impl.Functor{Source: f.Target, Target: f.Source}, list()
	for y := range f.Target.Objects {
		for x := range f.Source.Objects {
			if found := isomorphismsFromTo(f.Target, f.Objects[x], y); len(found) > 0 {
				g.Objects, isomorphisms = append(g.Objects, x), append(isomorphisms, found[0])
				break
			}
		}
	}
	for h := range f.Target.From {
		from, to := f.Target.From[h], f.Target.To[h]
		// The image, and the isomorphism behind it, are the isomorphism before h, and h.
		lies := func(a int64) bool {
			return f.Target.Composites[f.Arrows[a]][isomorphisms[to]] == f.Target.Composites[isomorphisms[from]][h]
		}
		over := arrowsFromTo(f.Source, g.Objects[from], g.Objects[to])
		g.Arrows = append(g.Arrows, over[slices.IndexFunc(over, lies)])
	}
	return g, isomorphisms
}

// equivalenceSamples have isomorphic objects of many kinds.
func equivalenceSamples() []sample {
	all := renumberedSamples()
	for _, s := range append(skeletals(), skeletal{label: "isomorphic objects with a group that does not commute", c: product(indiscrete(2), groupOf(3, 2, 2))}) {
		n, m := int(s.c.Objects), len(s.c.From)
		all = append(all, sample{s.label, s.c}, sample{s.label + ", reversed", reversed(s.c)}, sample{s.label + ", opposite", opposite(s.c)},
			sample{s.label + ", arrows rotated", renumbered(s.c, counting(int64(n)), rotated(m))})
	}
	for _, c := range []impl.Category{
		sum(twins(), cyclic(2)), sum(turnedTwins(), turnedTwins()), product(twins(), cyclic(3)), product(interval(), indiscrete(2)), product(idempotent(), indiscrete(2)), product(retract(), indiscrete(2)),
		product(noncommuting(), indiscrete(2)), indiscrete(6), sets(1, 1, 2), sets(2, 2), sets(0, 1, 1, 2), product(parallel(), indiscrete(2)), largest(), cyclic(impl.MaxArrows),
	} {
		all = append(all, sample{"more", c}, sample{"more, reversed", reversed(c)})
	}
	return all
}

// inclusionByDefinition is the functor from the skeleton that maps each arrow to itself.
func inclusionByDefinition(s skeletal) impl.Functor {
	inclusion := mapped(s.skeleton, s.c, s.objects, nil)
	for f := range s.c.From {
		if slices.Contains(s.objects, s.c.From[f]) && slices.Contains(s.objects, s.c.To[f]) {
			inclusion.Arrows = append(inclusion.Arrows, int64(f))
		}
	}
	return inclusion
}

// isNaturalIsomorphism reports whether components are those of a natural isomorphism from f to g.
func isNaturalIsomorphism(t *testing.T, f, g impl.Functor, components []int64) bool {
	t.Helper()
	answer, code := impl.IsNaturalIsomorphism(transformation(f, g, components...))
	return code == impl.ErrNone && answer
}

// TestPromise11Skeletons checks that a category is equivalent to its skeleton by SkeletonFunctor and by the
// inclusion, one of which is behind the other the identity functor, and isomorphic to it by what is chosen.
func TestPromise11Skeletons(t *testing.T) {
	smaller := 0
	for _, r := range equivalenceSamples() {
		s := skeletalByDefinition(r.c)
		one(impl.IsomorphismClasses(s.c)).is(t, s.classes)
		one(impl.SkeletonObjects(s.c)).is(t, s.objects)
		one(impl.ChosenIsomorphisms(s.c)).is(t, s.chosen)
		one(impl.SkeletonOf(s.c)).is(t, s.skeleton)
		one(impl.FullSubcategory(s.c, s.objects)).is(t, s.skeleton)
		one(impl.SkeletonOf(s.skeleton)).is(t, s.skeleton)
		f, code := impl.SkeletonFunctor(s.c)
		one(mustFunctor(t, f, code), code).is(t, mapped(s.c, s.skeleton, s.classes, s.arrows))
		one(impl.IsEquivalence(f)).is(t, true)
		inclusion := inclusionByDefinition(s)
		one(impl.IsEquivalence(inclusion)).is(t, true)
		one(then(t, inclusion, f), impl.ErrNone).is(t, identityByDefinition(s.skeleton))
		expect(t, "what is chosen is natural", isNaturalIsomorphism(t, identityByDefinition(s.c), then(t, f, inclusion), s.chosen), true)
		if len(s.skeleton.From) > impl.MaxTarget {
			one(impl.AreEquivalent(s.c, s.skeleton)).fails(t, impl.ErrLimit)
			continue
		}
		one(impl.AreEquivalent(s.c, s.skeleton)).is(t, true)
		one(impl.AreEquivalent(s.skeleton, s.c)).is(t, true)
		first, code := impl.FindIsomorphism(s.skeleton, s.skeleton)
		one(impl.EquivalenceBetween(s.skeleton, s.c)).is(t, then(t, mustFunctor(t, first, code), inclusion))
		one(impl.EquivalenceBetween(s.c, s.skeleton)).is(t, then(t, f, first))
		if s.skeleton.Objects < s.c.Objects {
			smaller++
		}
		if t.Failed() {
			t.Fatal(r.label)
		}
	}
	expect(t, "categories with isomorphic objects", smaller > 60, true)
}

// checkQuasiInverse checks that an equivalence has a quasi-inverse that is one, and what makes it one.
func checkQuasiInverse(t *testing.T, f impl.Functor) {
	t.Helper()
	g, isomorphisms := quasiInverseByDefinition(f)
	two(impl.QuasiInverse(f)).is(t, g, isomorphisms)
	one(mustFunctor(t, g, impl.ErrNone), impl.ErrNone).is(t, g)
	one(impl.IsEquivalence(g)).is(t, true)
	expect(t, "isomorphisms behind f", isNaturalIsomorphism(t, then(t, g, f), identityByDefinition(f.Target), isomorphisms), true)
	components, code := impl.FindNaturalIsomorphism(then(t, f, g), identityByDefinition(f.Source))
	one(isNaturalIsomorphism(t, then(t, f, g), identityByDefinition(f.Source), components), code).is(t, true)
	// The quasi-inverse of the quasi-inverse is as good as f.
	back, _, backCode := impl.QuasiInverse(g)
	_, code = impl.FindNaturalIsomorphism(mustFunctor(t, back, backCode), f)
	one(code, code).is(t, impl.ErrNone)
}

// smallSamples are few enough for all functors between them.
func smallSamples() []sample {
	all := append(functorSamples(), sample{"twins", twins()}, sample{"twins, reversed", reversed(twins())}, sample{"identities last", turnedTwins()}, sample{"a group with its identity last", identityLast()},
		sample{"group of three", cyclic(3)}, sample{"group that does not commute", reversed(groupOf(3, 2, 2))}, sample{"isomorphic objects and one more", sum(indiscrete(2), discrete(1))},
		sample{"one more and isomorphic objects", sum(discrete(1), indiscrete(2))}, sample{"three isomorphic objects", indiscrete(3)}, sample{"isomorphic idempotents", product(indiscrete(2), idempotent())},
		sample{"isomorphic objects with a group", product(indiscrete(2), cyclic(2))}, sample{"opposite twins", opposite(twins())}, sample{"retract, reversed", reversed(retract())})
	return all
}

// TestPromise11QuasiInverses goes through all functors between small categories, and checks that two of these
// are equivalent exactly if one of the functors is an equivalence.
func TestPromise11QuasiInverses(t *testing.T) {
	equivalences, others, refused := 0, 0, 0
	for _, s := range smallSamples() {
		for _, r := range smallSamples() {
			all, code := impl.AllFunctors(s.c, r.c)
			if code != impl.ErrNone {
				refused++
				continue
			}
			areEquivalent := false
			for _, f := range all {
				isEquivalence := isEquivalenceByDefinition(f)
				one(impl.IsEquivalence(f)).is(t, isEquivalence)
				areEquivalent = areEquivalent || isEquivalence
				if isEquivalence {
					equivalences++
					checkQuasiInverse(t, f)
				} else {
					others++
					two(impl.QuasiInverse(f)).fails(t, impl.ErrState)
				}
			}
			one(impl.AreEquivalent(s.c, r.c)).is(t, areEquivalent)
			between, code := impl.EquivalenceBetween(s.c, r.c)
			if areEquivalent {
				one(impl.IsEquivalence(mustFunctor(t, between, code))).is(t, true)
			} else {
				one(between, code).fails(t, impl.ErrNotFound)
			}
			if t.Failed() {
				t.Fatal(s.label + " to " + r.label)
			}
		}
	}
	expect(t, "equivalences and others", equivalences > 150 && others > 2500 && refused < 10, true)
}

// TestPromise11Related checks equivalences between all samples by the least forms of the skeletons.
func TestPromise11Related(t *testing.T) {
	equivalent, different := 0, 0
	all := equivalenceSamples()
	var forms []string
	for _, s := range all {
		skeleton, _ := impl.SkeletonOf(s.c)
		least, code := impl.LeastForm(skeleton)
		if len(skeleton.From) > impl.MaxTarget || code != impl.ErrNone {
			forms = append(forms, "")
		} else {
			forms = append(forms, show([]any{least}))
		}
	}
	for i, s := range all {
		for j, r := range all {
			if forms[i] == "" || forms[j] == "" {
				continue
			}
			one(impl.AreEquivalent(s.c, r.c)).is(t, forms[i] == forms[j])
			if forms[i] != forms[j] {
				different++
				continue
			}
			equivalent++
			if (i+j)%10 == 0 {
				f, code := impl.EquivalenceBetween(s.c, r.c)
				one(isEquivalenceByDefinition(mustFunctor(t, f, code)), code).is(t, true)
			}
		}
		if t.Failed() {
			t.Fatal(s.label)
		}
	}
	expect(t, "equivalent and different categories", equivalent > 1000 && different > 10000, true)
}

// TestPromise11Census has as many kinds of preorders on four elements as there are partial orders on at most
// four: 1, 2, 5 and 16.
func TestPromise11Census(t *testing.T) {
	var kinds []impl.Category
	for _, c := range preordersOf(4) {
		found := 0
		for _, kind := range kinds {
			areEquivalent, code := impl.AreEquivalent(c, kind)
			if mustAnswer(t, areEquivalent, code) {
				found++
			}
		}
		if found == 0 {
			kinds = append(kinds, c)
		}
		expect(t, "of one kind at the most", found <= 1, true)
	}
	one(len(kinds), impl.ErrNone).is(t, 24)
}

// TestPromise11FunctorsOnSkeletons checks that functors on skeletons are what they are on the categories, and
// isomorphisms exactly for equivalences.
func TestPromise11FunctorsOnSkeletons(t *testing.T) {
	isomorphisms, others := 0, 0
	for _, s := range smallSamples() {
		for _, r := range smallSamples() {
			source, target := skeletalByDefinition(s.c), skeletalByDefinition(r.c)
			inclusion := inclusionByDefinition(source)
			before, behind := mapped(s.c, source.skeleton, source.classes, source.arrows), mapped(r.c, target.skeleton, target.classes, target.arrows)
			for _, f := range someFunctors(t, s.c, r.c) {
				on, code := impl.FunctorOnSkeletons(f)
				one(mustFunctor(t, on, code), code).is(t, then(t, then(t, inclusion, f), behind))
				_, code = impl.FindNaturalIsomorphism(then(t, before, on), then(t, f, behind))
				one(code, code).is(t, impl.ErrNone)
				isIsomorphism, code := impl.IsIsomorphism(on)
				one(impl.IsEquivalence(f)).is(t, mustAnswer(t, isIsomorphism, code))
				if isIsomorphism {
					isomorphisms++
				} else {
					others++
				}
			}
			if t.Failed() {
				t.Fatal(s.label + " to " + r.label)
			}
		}
	}
	expect(t, "isomorphisms and others", isomorphisms > 60 && others > 1000, true)
}

// idempotentsByDefinition lists the arrows that are their own squares.
func idempotentsByDefinition(c impl.Category) []int64 {
	return arrowsThat(c, func(e int64) bool { return c.From[e] == c.To[e] && c.Composites[e][e] == e })
}

// splittingsByDefinition lists all y, r and t.
func splittingsByDefinition(c impl.Category, e int64) [][]int64 {
	var found [][]int64
	for y := range c.Objects {
		for r := range int64(len(c.From)) {
			for u := range int64(len(c.From)) {
				if c.From[r] == c.From[e] && c.To[r] == y && c.From[u] == y && c.To[u] == c.To[e] &&
					c.Composites[r][u] == e && c.Composites[u][r] == c.Identity[y] {
					found = append(found, list(y, r, u))
				}
			}
		}
	}
	return found
}

// namedCompletion is the completion of c. The names of its arrows end with the arrows of c.
func namedCompletion(c impl.Category) named {
	idempotents := idempotentsByDefinition(c)
	n := named{objects: int64(len(idempotents))}
	n.unit = func(x int64) []int64 { return list(x, x, idempotents[x]) }
	n.then = func(f, g []int64) []int64 { return list(f[0], g[1], c.Composites[f[2]][g[2]]) }
	for i, e := range idempotents {
		for j, d := range idempotents {
			for _, f := range arrowsFromTo(c, c.From[e], c.From[d]) {
				if along(c, e, f, d) == f {
					n.arrows = append(n.arrows, list(int64(i), int64(j), f))
				}
			}
		}
	}
	return n
}

// placesOf returns the index of each name in the arrows of n.
func placesOf(n named, names [][]int64) []int64 {
	var places []int64
	for _, name := range names {
		places = append(places, int64(slices.IndexFunc(n.arrows, func(other []int64) bool { return slices.Equal(name, other) })))
	}
	return places
}

// completionFunctorByDefinition is the functor from c to its completion n.
func completionFunctorByDefinition(c impl.Category, n named) impl.Functor {
	var objects []int64
	var names [][]int64
	idempotents := idempotentsByDefinition(c)
	for _, e := range c.Identity {
		objects = append(objects, int64(slices.Index(idempotents, e)))
	}
	for f := range c.From {
		names = append(names, list(objects[c.From[f]], objects[c.To[f]], int64(f)))
	}
	return mapped(c, n.category(), objects, placesOf(n, names))
}

// checkSplittings checks the splittings of all idempotents, and reports whether they all have one.
func checkSplittings(t *testing.T, c impl.Category) bool {
	t.Helper()
	isComplete := true
	idempotents := idempotentsByDefinition(c)
	one(impl.IdempotentArrows(c)).is(t, idempotents)
	for _, e := range idempotents {
		found := splittingsByDefinition(c, e)
		if len(found) > 0 {
			three(impl.SplittingOf(c, e)).is(t, found[0][0], found[0][1], found[0][2])
		} else {
			isComplete = false
			three(impl.SplittingOf(c, e)).fails(t, impl.ErrNotFound)
		}
	}
	one(impl.IsComplete(c)).is(t, isComplete)
	return isComplete
}

// checkCompletion checks the completion of c, and that c is a full part of it, and all of it up to isomorphism
// exactly if c is complete. It reports whether the completion is within the limits.
func checkCompletion(t *testing.T, label string, c impl.Category) bool {
	t.Helper()
	isComplete := checkSplittings(t, c)
	n := namedCompletion(c)
	made, code := impl.CompletionOf(c)
	checkBuilt(t, label, made, code, n)
	if n.isTooLarge() {
		one(impl.CompletionFunctor(c)).fails(t, impl.ErrLimit)
		one(impl.CompletionOfFunctor(identityByDefinition(c))).fails(t, impl.ErrLimit)
		one(impl.HaveEqualCompletions(c, c)).fails(t, impl.ErrLimit)
		return false
	}
	expect(t, label+": the completion splits all idempotents", checkSplittings(t, made), true)
	f, code := impl.CompletionFunctor(c)
	one(mustFunctor(t, f, code), code).is(t, completionFunctorByDefinition(c, n))
	one(isFaithfulByDefinition(f) && isFullByDefinition(f), code).is(t, true)
	one(impl.IsEquivalence(f)).is(t, isComplete)
	one(impl.CompletionOfFunctor(identityByDefinition(c))).is(t, identityByDefinition(made))
	// The images of all idempotents of c split, and each object of the completion is what splits one of them.
	var splitting []int64
	for _, e := range idempotentsByDefinition(c) {
		y, _, _, code := impl.SplittingOf(made, f.Arrows[e])
		one(code, code).is(t, impl.ErrNone)
		splitting = append(splitting, y)
	}
	for x := range made.Objects {
		isNear := func(y int64) bool { return len(isomorphismsFromTo(made, x, y)) > 0 }
		expect(t, label+": an object splits an idempotent", slices.ContainsFunc(splitting, isNear), true)
	}
	checkCompletedTwice(t, c, made)
	if t.Failed() {
		t.Fatal(label)
	}
	return true
}

// checkCompletedTwice checks that a category and its completion have equal completions.
func checkCompletedTwice(t *testing.T, c, made impl.Category) {
	t.Helper()
	skeleton := skeletalByDefinition(made).skeleton
	switch {
	case len(skeleton.From) > impl.MaxTarget || namedCompletion(made).isTooLarge():
		one(impl.HaveEqualCompletions(c, made)).fails(t, impl.ErrLimit)
		one(impl.HaveEqualCompletions(made, c)).fails(t, impl.ErrLimit)
	default:
		one(impl.HaveEqualCompletions(c, made)).is(t, true)
		one(impl.HaveEqualCompletions(made, c)).is(t, true)
		one(impl.HaveEqualCompletions(c, skeleton)).is(t, true)
	}
}

func TestPromise11Completions(t *testing.T) {
	within, beyond := 0, 0
	check := func(label string, c impl.Category) {
		if checkCompletion(t, label, c) {
			within++
		} else {
			beyond++
		}
	}
	for _, s := range equivalenceSamples() {
		check(s.label, s.c)
	}
	for _, s := range splits() {
		check(s.label, s.c)
		check(s.label+", opposite", opposite(s.c))
	}
	for i, c := range append(monoidsOf(3), monoidsOf(4)...) {
		if i%3 == 0 {
			check("monoid", c)
		}
	}
	for _, s := range append(completionsWithin(), completionsBeyond()[:4]...) {
		check("limits", s.c)
	}
	expect(t, "completions within and beyond the limits", within > 250 && beyond > 5, true)
}

// completedByDefinition is f between the completions n and m of its source and its target.
func completedByDefinition(f impl.Functor, n, m named) impl.Functor {
	var objects []int64
	var names [][]int64
	for _, e := range idempotentsByDefinition(f.Source) {
		objects = append(objects, int64(slices.Index(idempotentsByDefinition(f.Target), f.Arrows[e])))
	}
	for _, a := range n.arrows {
		names = append(names, list(objects[a[0]], objects[a[1]], f.Arrows[a[2]]))
	}
	return mapped(n.category(), m.category(), objects, placesOf(m, names))
}

// TestPromise11CompletionsOfFunctors checks that completing keeps composites, that it goes with the functors
// to the completions, and that it keeps equivalences.
func TestPromise11CompletionsOfFunctors(t *testing.T) {
	checked, newOnes := 0, 0
	for _, s := range smallSamples() {
		for _, r := range smallSamples() {
			source, target := namedCompletion(s.c), namedCompletion(r.c)
			before, behind := completionFunctorByDefinition(s.c, source), completionFunctorByDefinition(r.c, target)
			for _, f := range someFunctors(t, s.c, r.c) {
				checked++
				on, code := impl.CompletionOfFunctor(f)
				one(mustFunctor(t, on, code), code).is(t, completedByDefinition(f, source, target))
				one(then(t, before, on), impl.ErrNone).is(t, then(t, f, behind))
				wasEquivalence, isEquivalence := isEquivalenceByDefinition(f), isEquivalenceByDefinition(on)
				expect(t, "an equivalence stays one", !wasEquivalence || isEquivalence, true)
				if isEquivalence {
					one(impl.HaveEqualCompletions(s.c, r.c)).is(t, true)
				}
				if isEquivalence && !wasEquivalence {
					newOnes++
				}
				checkCompletedComposites(t, f, on)
			}
			if t.Failed() {
				t.Fatal(s.label + " to " + r.label)
			}
		}
	}
	expect(t, "functors, and those that are equivalences only on completions", checked > 1500 && newOnes > 3, true)
}

// checkCompletedComposites checks composites of f, which is completed to on, and some functors behind it.
func checkCompletedComposites(t *testing.T, f, on impl.Functor) {
	t.Helper()
	for _, c := range []impl.Category{interval(), retract(), idempotent(), cyclic(2)} {
		all, _ := impl.AllFunctors(f.Target, c)
		for _, g := range firstAndLast(all) {
			behind, code := impl.CompletionOfFunctor(g)
			one(impl.CompletionOfFunctor(then(t, f, g))).is(t, then(t, on, mustFunctor(t, behind, code)))
		}
	}
}

// TestPromise11Extending checks that functors to a category whose idempotents are split, and their
// transformations, are those from the completion.
func TestPromise11Extending(t *testing.T) {
	extended, unextended := 0, 0
	for _, c := range []impl.Category{idempotent(), retract(), noncommuting(), powers(2, 1), interval(), cyclic(2), sum(idempotent(), discrete(1)), impl.Category{}} {
		f, code := impl.CompletionFunctor(c)
		mustFunctor(t, f, code)
		for _, s := range append(samples(), sample{"maps of one and of two elements", sets(1, 2)}) {
			restricted, code := impl.ComposeBefore(f, s.c)
			if code != impl.ErrNone {
				continue
			}
			isComplete, code := impl.IsComplete(s.c)
			if mustAnswer(t, isComplete, code) {
				extended++
				one(impl.IsEquivalence(restricted)).is(t, true)
			} else {
				unextended++
			}
		}
	}
	expect(t, "functor categories", extended > 50 && unextended > 10, true)
	toIdempotent, _ := impl.CompletionFunctor(idempotent())
	restricted, code := impl.ComposeBefore(toIdempotent, idempotent())
	one(impl.IsEquivalence(mustFunctor(t, restricted, code))).is(t, false)
}

// TestPromise11Monoids uses that finite monoids have equal completions only if they are isomorphic.
func TestPromise11Monoids(t *testing.T) {
	equal, different := 0, 0
	all := slices.Concat(monoidsOf(1), monoidsOf(2), monoidsOf(3), monoidsOf(4))
	for i, c := range all {
		for j, d := range all {
			// All pairs are too many.
			if len(c.From) == 4 && (i*31+j)%7 != 0 {
				continue
			}
			areEqual, code := impl.HaveEqualCompletions(c, d)
			if code == impl.ErrLimit {
				continue
			}
			_, found := impl.FindIsomorphism(c, d)
			one(areEqual, code).is(t, found == impl.ErrNone)
			if areEqual {
				equal++
			} else {
				different++
			}
		}
	}
	expect(t, "equal and different completions", equal > 100 && different > 1000, true)
}
