package tests

import (
	"slices"
	"testing"

	"loop.example/g01083/impl"
)

// renumbered is c with the number p[x] for the object x and q[f] for the arrow f.
func renumbered(c impl.Category, p, q []int64) impl.Category {
	d := cloned(c)
	for x, e := range c.Identity {
		d.Identity[p[x]] = q[e]
	}
	for f := range c.From {
		d.From[q[f]], d.To[q[f]] = p[c.From[f]], p[c.To[f]]
		for g, composite := range c.Composites[f] {
			d.Composites[q[f]][q[g]] = composite
			if composite != -1 {
				d.Composites[q[f]][q[g]] = q[composite]
			}
		}
	}
	return d
}

// descending returns n - 1, .., 1, 0.
func descending(n int) []int64 {
	numbers := counting(int64(n))
	slices.Reverse(numbers)
	return numbers
}

// rotated returns 1, 2, .., n - 1, 0.
func rotated(n int) []int64 {
	numbers := counting(int64(n))
	return slices.Concat(numbers[min(1, n):], numbers[:min(1, n)])
}

// reversed is c with its objects and arrows numbered backwards.
func reversed(c impl.Category) impl.Category {
	return renumbered(c, descending(int(c.Objects)), descending(len(c.From)))
}

// graphMonoid has an identity 0, a zero 1 and, behind them, an arrow 2 to which the arrows of an edge of a
// graph are composed; the composites of all others are the zero. Its isomorphisms are those of the graph.
func graphMonoid(nodes int64, isEdge func(a, b int64) bool) impl.Category {
	table := lists(counting(nodes + 3))
	for a := int64(1); a < nodes+3; a++ {
		row := repeat(1, int(nodes)+3)
		row[0] = a
		for b := int64(3); b < nodes+3 && a >= 3; b++ {
			if isEdge(a-3, b-3) {
				row[b] = 2
			}
		}
		table = append(table, row)
	}
	return monoid(table...)
}

// leaps is a graph with the edges from a node to those that are reached from it by some leaps around n nodes.
func leaps(n int64, some ...int64) func(a, b int64) bool {
	return func(a, b int64) bool { return a < n && b < n && slices.Contains(some, (b-a+n)%n) }
}

// nextTo is a graph on n nodes and another one behind it.
func nextTo(n int64, first, second func(a, b int64) bool) func(a, b int64) bool {
	return func(a, b int64) bool { return a < n && b < n && first(a, b) || a >= n && b >= n && second(a-n, b-n) }
}

// circle is the graph of a circle of n nodes.
func circle(n int64) func(a, b int64) bool { return leaps(n, 1, n-1) }

// star has n nodes with leaps around them, each with a node of its own in a circle of n more.
func star(n int64, inside ...int64) func(a, b int64) bool {
	return func(a, b int64) bool {
		return leaps(n, inside...)(a, b) || a-b == n || b-a == n || a >= n && b >= n && circle(n)(a-n, b-n)
	}
}

// groupOf is the group of pairs of numbers modulo m and n, the second of which acts on the first one by a
// factor.
func groupOf(m, n, factor int64) impl.Category {
	var table [][]int64
	for a := range m * n {
		var row []int64
		for b := range m * n {
			moved := b / n
			for range a % n {
				moved = moved * factor % m
			}
			row = append(row, (a/n+moved)%m*n+(a%n+b%n)%n)
		}
		table = append(table, row)
	}
	return monoid(table...)
}

// quaternions is the group of eight quaternions: 1, i, j, k and, four behind them, their negatives.
func quaternions() impl.Category {
	products := lists(list(0, 1, 2, 3), list(1, 4, 3, 6), list(2, 7, 4, 1), list(3, 2, 5, 4))
	var table [][]int64
	for a := range int64(8) {
		var row []int64
		for b := range int64(8) {
			row = append(row, (products[a%4][b%4]+a/4*4+b/4*4)%8)
		}
		table = append(table, row)
	}
	return monoid(table...)
}

// imagesOf returns the lists of functors, one behind the other.
func imagesOf(functors []impl.Functor) [][]int64 {
	var images [][]int64
	for _, f := range functors {
		images = append(images, f.Objects, f.Arrows)
	}
	return images
}

func TestAllIsomorphisms(t *testing.T) {
	for _, s := range []struct {
		c, d   impl.Category
		images [][]int64
	}{
		{cyclic(2), cyclic(2), lists(list(0), list(0, 1))},
		{cyclic(2), identityLast(), lists(list(0), list(1, 0))},
		{cyclic(3), cyclic(3), lists(list(0), list(0, 1, 2), list(0), list(0, 2, 1))},
		{interval(), backwards(), lists(list(0, 1), list(2, 0, 1))},
		{backwards(), interval(), lists(list(0, 1), list(1, 2, 0))},
		{interval(), identitiesFirst(), lists(list(0, 1), list(0, 2, 1))},
		{interval(), opposite(interval()), lists(list(1, 0), list(2, 1, 0))},
		{parallel(), parallel(), lists(list(0, 1), list(0, 1, 2, 3), list(0, 1), list(0, 2, 1, 3))},
		{retract(), retract(), lists(list(0, 1), counting(5))},
		{noncommuting(), noncommuting(), lists(list(0), list(0, 1, 2), list(0), list(0, 2, 1))},
		{impl.Category{}, impl.Category{}, lists(nil, nil)},
		{indiscrete(2), indiscrete(2), lists(list(0, 1), list(0, 1, 2, 3), list(1, 0), list(3, 2, 1, 0))},
		// The objects are compared before the arrows, and the identities do not have the order of the objects.
		{discrete(2), renumbered(discrete(2), list(0, 1), list(1, 0)), lists(list(0, 1), list(1, 0), list(1, 0), list(0, 1))},
		{renumbered(discrete(3), list(1, 2, 0), list(0, 1, 2)), discrete(3), lists(
			list(0, 1, 2), list(1, 2, 0), list(0, 2, 1), list(2, 1, 0), list(1, 0, 2), list(0, 2, 1),
			list(1, 2, 0), list(2, 0, 1), list(2, 0, 1), list(0, 1, 2), list(2, 1, 0), list(1, 0, 2))},
		// As many objects and arrows are not enough, and neither are as many identities.
		{cyclic(2), idempotent(), nil}, {idempotent(), cyclic(2), nil}, {interval(), discrete(2), nil}, {interval(), discrete(3), nil}, {interval(), cyclic(3), nil},
		{impl.Category{}, discrete(1), nil}, {discrete(1), impl.Category{}, nil}, {discrete(1), discrete(2), nil}, {cyclic(4), groupOf(2, 2, 1), nil},
		{noncommuting(), opposite(noncommuting()), nil}, {sum(interval(), cyclic(2)), sum(interval(), idempotent()), nil}, {sum(interval(), cyclic(2)), sum(discrete(2), cyclic(3)), nil},
		{preorder(3, func(i, j int64) bool { return i == j || i == 1 }), preorder(3, func(i, j int64) bool { return i == j || j == 1 }), nil},
	} {
		all, code := impl.AllIsomorphisms(s.c, s.d)
		one(imagesOf(all), code).is(t, s.images)
		if len(all) == 0 {
			one(impl.FindIsomorphism(s.c, s.d)).fails(t, impl.ErrNotFound)
			continue
		}
		for _, f := range all {
			two(f.Source, f.Target, code).is(t, s.c, s.d)
		}
		one(impl.FindIsomorphism(s.c, s.d)).is(t, all[0])
	}
}

// symmetric is a category with a number of automorphisms.
type symmetric struct {
	c             impl.Category
	automorphisms int64
}

// symmetries have known numbers of automorphisms, of at most MaxFound.
func symmetries() []symmetric {
	return []symmetric{
		{impl.Category{}, 1}, {discrete(2), 2}, {discrete(5), 120}, {chain(5), 1}, {indiscrete(4), 24}, {severalArrows(5), 120},
		{cyclic(impl.MaxTarget), 8}, {groupOf(4, 4, 1), 96}, {groupOf(8, 2, 1), 16}, {groupOf(8, 2, 5), 16}, {groupOf(8, 2, 3), 16}, {groupOf(8, 2, 7), 32},
		{groupOf(4, 2, 3), 8}, {quaternions(), 24}, {groupOf(3, 2, 2), 6}, {groupOf(7, 2, 6), 42}, {product(groupOf(2, 2, 1), cyclic(2)), 168},
		{sum(sum(cyclic(3), cyclic(3)), sum(cyclic(3), idempotent())), 48}, {product(interval(), interval()), 2}, {sum(discrete(4), cyclic(12)), 96},
		{sum(discrete(3), sum(cyclic(5), groupOf(2, 2, 1))), 144},
		// A star of five nodes inside a circle, and a prism.
		{graphMonoid(10, star(5, 2, 3)), 120}, {graphMonoid(10, star(5, 1, 4)), 20}, {graphMonoid(13, leaps(13, 1)), 13},
		{graphMonoid(13, nextTo(6, circle(6), circle(7))), 168}, {graphMonoid(13, leaps(13, 1, 3, 4, 9, 10, 12)), 78},
		// Exactly MaxFound automorphisms: ten of each of two circles, which may be exchanged.
		{graphMonoid(10, nextTo(5, circle(5), circle(5))), impl.MaxFound},
	}
}

// overSymmetric have more automorphisms than MaxFound, but at most MaxTarget arrows.
func overSymmetric() []impl.Category {
	return []impl.Category{
		// 21 times 10, 720, and far more.
		graphMonoid(12, nextTo(7, leaps(7, 1, 2, 4), circle(5))), discrete(6), discrete(impl.MaxObjects), graphMonoid(13, leaps(0)), severalArrows(14),
		product(groupOf(2, 2, 1), groupOf(2, 2, 1)), graphMonoid(12, func(a, b int64) bool { return a+b == 11 }),
	}
}

func TestCountAutomorphisms(t *testing.T) {
	for i, s := range symmetries() {
		other := reversed(s.c)
		for _, pair := range [][2]impl.Category{{s.c, s.c}, {s.c, other}, {other, s.c}} {
			all, code := impl.AllIsomorphisms(pair[0], pair[1])
			one(int64(len(all)), code).is(t, s.automorphisms)
			for _, f := range firstAndLast(all) {
				expect(t, "what is found is an isomorphism", isFunctorByDefinition(f) && isBijective(f), true)
			}
			one(impl.FindIsomorphism(pair[0], pair[1])).is(t, all[0])
		}
		one(impl.CountAutomorphisms(s.c)).is(t, s.automorphisms)
		one(impl.CountAutomorphisms(other)).is(t, s.automorphisms)
		if t.Failed() {
			t.Fatalf("category %d with %d automorphisms", i, s.automorphisms)
		}
	}
}

// isBijective reports whether objects and arrows of the target are images exactly once.
func isBijective(f impl.Functor) bool {
	objects, arrows := slices.Sorted(slices.Values(f.Objects)), slices.Sorted(slices.Values(f.Arrows))
	return slices.Equal(objects, counting(f.Target.Objects)) && slices.Equal(arrows, counting(int64(len(f.Target.From))))
}

// TestSimilarCategories has categories that look much alike, but are not isomorphic.
func TestSimilarCategories(t *testing.T) {
	twins := func(isEdge func(a, b int64) bool) impl.Category {
		return graphMonoid(13, nextTo(7, leaps(0), isEdge))
	}
	for _, pair := range [][2]impl.Category{
		{cyclic(16), groupOf(4, 4, 1)}, {groupOf(8, 2, 1), groupOf(8, 2, 5)}, {groupOf(8, 2, 3), groupOf(8, 2, 7)}, {groupOf(4, 2, 3), quaternions()},
		{groupOf(4, 4, 1), groupOf(4, 4, 3)}, {groupOf(4, 4, 3), product(quaternions(), cyclic(2))}, {product(groupOf(4, 2, 1), cyclic(2)), groupOf(4, 4, 1)},
		{graphMonoid(10, star(5, 2, 3)), graphMonoid(10, star(5, 1, 4))}, {graphMonoid(13, circle(13)), graphMonoid(13, nextTo(6, circle(6), circle(7)))},
		{graphMonoid(13, nextTo(5, circle(5), circle(8))), graphMonoid(13, nextTo(6, circle(6), circle(7)))},
		{graphMonoid(6, circle(6)), graphMonoid(6, nextTo(3, circle(3), circle(3)))}, {graphMonoid(6, leaps(6, 1)), graphMonoid(6, nextTo(3, leaps(3, 1), leaps(3, 1)))},
		// Seven arrows that may be exchanged come before those that may not be matched.
		{twins(circle(6)), twins(nextTo(3, circle(3), circle(3)))}, {sum(discrete(7), graphMonoid(6, circle(6))), sum(discrete(7), graphMonoid(6, nextTo(3, circle(3), circle(3))))},
	} {
		for _, ways := range [][2]impl.Category{pair, {pair[1], pair[0]}, {reversed(pair[0]), pair[1]}, {pair[0], reversed(pair[1])}} {
			all, code := impl.AllIsomorphisms(ways[0], ways[1])
			one(len(all), code).is(t, 0)
			one(impl.FindIsomorphism(ways[0], ways[1])).fails(t, impl.ErrNotFound)
		}
	}
}

func TestIsomorphismLimits(t *testing.T) {
	one(list(impl.MaxNumberings, impl.MaxFound, impl.MaxTarget), impl.ErrNone).is(t, list(5000, 200, 16))
	for _, c := range overSymmetric() {
		one(impl.IsCategory(c), impl.ErrNone).is(t, true)
		one(impl.AllIsomorphisms(c, c)).fails(t, impl.ErrLimit)
		one(impl.AllIsomorphisms(c, reversed(c))).fails(t, impl.ErrLimit)
		one(impl.CountAutomorphisms(c)).fails(t, impl.ErrLimit)
		one(impl.ObjectOrbits(c)).fails(t, impl.ErrLimit)
		// The first isomorphism is there however many there are.
		one(impl.FindIsomorphism(c, c)).is(t, identityByDefinition(c))
		found, code := impl.FindIsomorphism(c, reversed(c))
		one(isFunctorByDefinition(found) && isBijective(found), code).is(t, true)
	}
	none, code := impl.AllIsomorphisms(discrete(impl.MaxObjects), cyclic(impl.MaxTarget))
	one(len(none), code).is(t, 0)
	for _, pair := range [][2]impl.Category{
		{cyclic(impl.MaxTarget + 1), cyclic(impl.MaxTarget + 1)}, {cyclic(impl.MaxTarget), cyclic(impl.MaxTarget + 1)}, {cyclic(impl.MaxTarget + 1), cyclic(impl.MaxTarget)},
		{impl.Category{}, cyclic(impl.MaxTarget + 1)}, {cyclic(impl.MaxTarget + 1), impl.Category{}}, {largest(), discrete(1)}, {discrete(1), largest()}, {chain(6), chain(6)},
	} {
		one(impl.AllIsomorphisms(pair[0], pair[1])).fails(t, impl.ErrLimit)
		one(impl.FindIsomorphism(pair[0], pair[1])).fails(t, impl.ErrLimit)
	}
	for _, c := range []impl.Category{cyclic(impl.MaxTarget + 1), chain(6), largest()} {
		one(impl.CountAutomorphisms(c)).fails(t, impl.ErrLimit)
		one(impl.ObjectOrbits(c)).fails(t, impl.ErrLimit)
	}
	checkTwoErrors(t, func(c, d impl.Category) result { return one(impl.AllIsomorphisms(c, d)) })
	checkTwoErrors(t, func(c, d impl.Category) result { return one(impl.FindIsomorphism(c, d)) })
	checkCategoryErrors(t, func(c impl.Category) result { return one(impl.CountAutomorphisms(c)) })
	checkCategoryErrors(t, func(c impl.Category) result { return one(impl.ObjectOrbits(c)) })
}

func TestObjectOrbits(t *testing.T) {
	fence := preorder(5, func(i, j int64) bool { return i == j || i%2 == 0 && (j == i+1 || j == i-1) })
	for _, s := range []struct {
		c    impl.Category
		want []int64
	}{
		{impl.Category{}, nil}, {discrete(1), list(0)}, {discrete(5), repeat(0, 5)}, {interval(), list(0, 1)}, {chain(4), counting(4)},
		{indiscrete(4), repeat(0, 4)}, {product(interval(), interval()), list(0, 1, 1, 2)}, {fence, list(0, 1, 2, 1, 0)}, {retract(), list(0, 1)},
		{sum(interval(), interval()), list(0, 1, 0, 1)}, {sum(interval(), opposite(interval())), list(0, 1, 1, 0)}, {groups(2, 3, 2, 1, 3, 1), list(0, 1, 0, 2, 1, 2)},
		{sum(cyclic(2), idempotent()), list(0, 1)}, {sum(cyclic(2), sum(indiscrete(2), identityLast())), list(0, 1, 1, 0)},
	} {
		one(impl.ObjectOrbits(s.c)).is(t, s.want)
	}
}

func TestRenumberCategory(t *testing.T) {
	one(impl.RenumberCategory(interval(), list(1, 0), list(2, 1, 0))).is(t, opposite(interval()))
	one(impl.RenumberCategory(interval(), list(0, 1), list(2, 0, 1))).is(t, backwards())
	one(impl.RenumberCategory(interval(), list(0, 1), list(0, 2, 1))).is(t, identitiesFirst())
	one(impl.RenumberCategory(longChain(), list(2, 0, 1), list(5, 4, 3, 1, 2, 0))).is(t, impl.Category{
		Objects: 3, From: list(1, 0, 0, 2, 2, 2), To: list(1, 0, 1, 1, 0, 2), Identity: list(1, 0, 5),
		Composites: lists(
			list(0, -1, -1, -1, -1, -1), list(-1, 1, 2, -1, -1, -1), list(2, -1, -1, -1, -1, -1),
			list(3, -1, -1, -1, -1, -1), list(-1, 4, 3, -1, -1, -1), list(-1, -1, -1, 3, 4, 5)),
	})
	one(impl.RenumberCategory(cyclic(3), list(0), list(1, 2, 0))).is(t, impl.Category{
		Objects: 1, From: repeat(0, 3), To: repeat(0, 3), Identity: list(1), Composites: lists(list(2, 0, 1), list(0, 1, 2), list(1, 2, 0)),
	})
	one(impl.RenumberCategory(impl.Category{}, nil, list())).is(t, impl.Category{})
	for _, c := range []impl.Category{largest(), cyclic(impl.MaxArrows), discrete(impl.MaxObjects), retract()} {
		p, q := rotated(int(c.Objects)), descending(len(c.From))
		one(impl.RenumberCategory(c, p, q)).is(t, renumbered(c, p, q))
		one(impl.RenumberCategory(c, counting(c.Objects), counting(int64(len(c.From))))).is(t, c)
	}
}

func TestRenumberCategoryErrors(t *testing.T) {
	for _, objects := range append(lists(nil, list(0), list(1), list(0, 1, 2), list(0, 0), list(1, 1), list(1, 2), list(0, 1, 0), counting(100)), wrongPairs()...) {
		one(impl.RenumberCategory(interval(), objects, list(0, 1, 2))).fails(t, impl.ErrRange)
		one(impl.RenumberCategory(interval(), objects, nil)).fails(t, impl.ErrRange)
	}
	for _, arrows := range lists(nil, list(0), list(0, 1), list(0, 1, 2, 3), list(0, 0, 0), list(0, 1, 1), list(2, 1, 2), list(1, 2, 3), list(0, 1, 3), list(-1, 0, 1), list(0, 1, 2, 0), counting(100)) {
		one(impl.RenumberCategory(interval(), list(0, 1), arrows)).fails(t, impl.ErrRange)
	}
	for _, arrows := range wrongPairs() {
		one(impl.RenumberCategory(cyclic(2), list(0), arrows)).fails(t, impl.ErrRange)
	}
	for _, pair := range [][2][]int64{{nil, list(0)}, {list(0), nil}, {list(0), list(0)}} {
		one(impl.RenumberCategory(impl.Category{}, pair[0], pair[1])).fails(t, impl.ErrRange)
	}
	for _, objects := range lists(nil, list(0, 1), list(5)) {
		checkCategoryErrors(t, func(c impl.Category) result { return one(impl.RenumberCategory(c, objects, list(0, 1, 2))) })
	}
}

// wrongPairs have a number that is none of two objects, beside one of them.
func wrongPairs() [][]int64 {
	var pairs [][]int64
	for _, x := range noNumbers(2) {
		pairs = append(pairs, list(x, 0), list(0, x), list(1, x), list(x, 1))
	}
	return pairs
}

func TestIsOrdered(t *testing.T) {
	for _, s := range []struct {
		c    impl.Category
		want bool
	}{
		{interval(), true}, {opposite(interval()), true}, {impl.Category{}, true}, {cyclic(impl.MaxArrows), true}, {largest(), true}, {retract(), true}, {parallel(), true},
		{chain(impl.MaxObjects), true}, {sum(longChain(), retract()), true},
		// The sources, the targets behind one source, and the identity behind another arrow.
		{backwards(), false}, {identitiesFirst(), false}, {renumbered(discrete(2), list(0, 1), list(1, 0)), false}, {reversed(longChain()), true},
		{renumbered(longChain(), counting(3), list(0, 2, 1, 3, 4, 5)), false}, {renumbered(longChain(), counting(3), list(0, 1, 2, 3, 5, 4)), false},
		{identityLast(), false}, {renumbered(cyclic(3), list(0), list(1, 0, 2)), false}, {sum(cyclic(2), identityLast()), false}, {sum(identityLast(), cyclic(2)), false},
		{renumbered(largest(), counting(impl.MaxObjects), append(counting(38), 39, 38)), true}, {renumbered(parallel(), list(0, 1), list(0, 2, 1, 3)), true},
		{renumbered(retract(), list(0, 1), list(1, 0, 2, 3, 4)), false}, {renumbered(retract(), list(1, 0), list(3, 4, 2, 1, 0)), true}, {renumbered(retract(), list(1, 0), list(4, 3, 2, 1, 0)), false},
	} {
		one(impl.IsOrdered(s.c)).is(t, s.want)
	}
	checkCategoryErrors(t, func(c impl.Category) result { return one(impl.IsOrdered(c)) })
}

func TestCountNumberings(t *testing.T) {
	for _, s := range []struct {
		c    impl.Category
		want int64
	}{
		{interval(), 2}, {impl.Category{}, 1}, {discrete(1), 1}, {discrete(3), 6}, {discrete(6), 720}, {longChain(), 6}, {indiscrete(6), 720}, {chain(6), 720},
		{cyclic(2), 1}, {cyclic(3), 2}, {cyclic(7), 720}, {identityLast(), 1}, {parallel(), 4}, {severalArrows(6), 1440}, {retract(), 2}, {groups(3, 4), 24},
		{sum(discrete(5), cyclic(4)), 4320}, {groups(5, 3, 3, 3), 4608}, {backwards(), 2},
	} {
		one(impl.CountNumberings(s.c)).is(t, s.want)
		one(impl.CountNumberings(reversed(s.c))).is(t, s.want)
	}
	for _, c := range overNumbered() {
		one(impl.CountNumberings(c)).fails(t, impl.ErrLimit)
		one(impl.LeastForm(c)).fails(t, impl.ErrLimit)
	}
	checkCategoryErrors(t, func(c impl.Category) result { return one(impl.CountNumberings(c)) })
	checkCategoryErrors(t, func(c impl.Category) result { return one(impl.LeastForm(c)) })
}

// overNumbered have more numberings than MaxNumberings.
func overNumbered() []impl.Category {
	return []impl.Category{
		// 5040 ways to number objects, or the arrows of one object, and a few more ways to number both; and
		// numbers of numberings beyond all integers.
		discrete(7), cyclic(8), severalArrows(7), sum(discrete(6), cyclic(4)), groups(5, 4, 4), groups(6, 5), chain(7), discrete(impl.MaxObjects),
		cyclic(impl.MaxArrows), largest(), severalArrows(38), groups(20, 20), groups(5, 5, 5, 5, 5, 5, 5, 5),
	}
}

// downwards is the chain with its objects numbered backwards.
func downwards(n int64) impl.Category { return preorder(n, func(i, j int64) bool { return i >= j }) }

func TestLeastForm(t *testing.T) {
	few := monoid(list(0, 1, 2), list(1, 1, 1), list(2, 1, 1))
	for _, s := range []struct{ c, want impl.Category }{
		// First the sizes of the hom sets count, in the order of their objects, and then the composites.
		{interval(), opposite(interval())}, {backwards(), opposite(interval())}, {impl.Category{}, impl.Category{}}, {longChain(), downwards(3)},
		{parallel(), opposite(parallel())}, {sum(interval(), discrete(1)), sum(discrete(1), opposite(interval()))}, {groups(3, 1, 2), groups(1, 2, 3)},
		{sum(cyclic(2), idempotent()), sum(cyclic(2), idempotent())}, {sum(idempotent(), cyclic(2)), sum(cyclic(2), idempotent())}, {discrete(6), discrete(6)},
		{identityLast(), cyclic(2)}, {indiscrete(6), indiscrete(6)}, {chain(6), downwards(6)}, {monoid(list(0, 1, 2), list(1, 2, 2), list(2, 2, 2)), few}, {few, few},
		{renumbered(few, list(0), list(2, 0, 1)), few}, {cyclic(3), cyclic(3)}, {cyclic(4), monoid(list(0, 1, 2, 3), list(1, 0, 3, 2), list(2, 3, 1, 0), list(3, 2, 0, 1))},
		{noncommuting(), noncommuting()}, {retract(), renumbered(retract(), list(1, 0), list(3, 4, 2, 1, 0))},
		// The composites alone would be less if the objects changed places.
		{groupBehind(2), groupBehind(2)}, {groupBehind(3), groupBehind(3)},
	} {
		one(impl.LeastForm(s.c)).is(t, s.want)
		one(impl.LeastForm(reversed(s.c))).is(t, s.want)
		one(impl.LeastForm(s.want)).is(t, s.want)
	}
	// As many numberings as a category may have within the limit.
	most := groups(5, 3, 3, 3)
	least, code := impl.LeastForm(most)
	two(least.Identity, impl.IsCategory(least), code).is(t, list(0, 3, 6, 9), true)
	one(impl.LeastForm(reversed(most))).is(t, least)
}

func TestIsomorphismMemory(t *testing.T) {
	c := retract()
	allOf := func(functors []impl.Functor, code int64) [][]int64 {
		var made [][]int64
		for _, f := range functors {
			made = append(made, functorListsOf(f, code)...)
		}
		clear(functors[:cap(functors)])
		return made
	}
	for label, call := range map[string]func(g *guard) [][]int64{
		"AllIsomorphisms": func(g *guard) [][]int64 {
			return allOf(impl.AllIsomorphisms(g.category(parallel()), g.category(reversed(parallel()))))
		},
		"all automorphisms": func(g *guard) [][]int64 {
			same := g.category(indiscrete(2))
			return allOf(impl.AllIsomorphisms(same, same))
		},
		"FindIsomorphism": func(g *guard) [][]int64 {
			same := g.category(c)
			return functorListsOf(impl.FindIsomorphism(same, same))
		},
		"CountAutomorphisms": func(g *guard) [][]int64 { impl.CountAutomorphisms(g.category(c)); return nil },
		"ObjectOrbits":       func(g *guard) [][]int64 { made, _ := impl.ObjectOrbits(g.category(c)); return lists(made) },
		"RenumberCategory": func(g *guard) [][]int64 {
			return listsOf(impl.RenumberCategory(g.category(c), g.list(1, 0), g.list(4, 2, 0, 1, 3)))
		},
		"IsOrdered":       func(g *guard) [][]int64 { impl.IsOrdered(g.category(c)); return nil },
		"CountNumberings": func(g *guard) [][]int64 { impl.CountNumberings(g.category(c)); return nil },
		"LeastForm":       func(g *guard) [][]int64 { return listsOf(impl.LeastForm(g.category(c))) },
		"LeastForm of a least form": func(g *guard) [][]int64 {
			return listsOf(impl.LeastForm(g.category(downwards(3))))
		},
	} {
		checkMemory(t, label, call)
	}
}
