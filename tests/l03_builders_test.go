package tests

import (
	"math"
	"slices"
	"testing"

	"loop.example/g01083/impl"
)

// relation lists a relation on n elements.
func relation(n int64, isRelated func(i, j int64) bool) [][]int64 {
	var rows [][]int64
	for i := range n {
		row := make([]int64, n)
		for j := range n {
			if isRelated(i, j) {
				row[j] = 1
			}
		}
		rows = append(rows, row)
	}
	return rows
}

func equality(n int64) [][]int64 {
	return relation(n, func(i, j int64) bool { return i == j })
}

// ranked relates i to j if the rank of i is at most that of j.
func ranked(ranks ...int64) [][]int64 {
	return relation(int64(len(ranks)), func(i, j int64) bool { return ranks[i] <= ranks[j] })
}

// changedTable returns a table with one other entry.
func changedTable(table [][]int64, i, j int, entry int64) [][]int64 {
	var rows [][]int64
	for _, row := range table {
		rows = append(rows, slices.Clone(row))
	}
	rows[i][j] = entry
	return rows
}

// raggedTables are tables that are not square, of numbers that a square one may have.
func raggedTables() [][][]int64 {
	return [][][]int64{
		lists(list()), lists(list(1, 0)), lists(list(1), list(1)), lists(list(1, 1), list(1)), lists(list(1), list(1, 1)),
		lists(list(1, 0), list(0, 1), list(0, 0)), lists(list(1, 0, 0), list(0, 1, 0)), lists(list(1, 0, 0), list(0, 1)),
		lists(nil, nil), lists(list(1, 0), nil), repeatedRow(9, 8), repeatedRow(8, 9), repeatedRow(500, 1),
	}
}

func repeatedRow(rows int, length int) [][]int64 {
	return slices.Repeat(lists(repeat(1, length)), rows)
}

func TestPreorderCategory(t *testing.T) {
	one(impl.PreorderCategory(lists(list(1, 1), list(0, 1)))).is(t, interval())
	one(impl.PreorderCategory(nil)).is(t, impl.Category{})
	one(impl.PreorderCategory(lists())).is(t, impl.Category{})
	one(impl.PreorderCategory(lists(list(1)))).is(t, discrete(1))
	one(impl.PreorderCategory(ranked(0, 0))).is(t, indiscrete(2))
	one(impl.PreorderCategory(lists(list(1, 0), list(1, 1)))).is(t, impl.Category{
		Objects: 2, From: list(0, 1, 1), To: list(0, 0, 1), Identity: list(0, 2),
		Composites: lists(list(0, -1, -1), list(1, -1, -1), list(-1, 1, 2)),
	})
	one(impl.PreorderCategory(equality(impl.MaxObjects))).is(t, discrete(impl.MaxObjects))
	one(impl.PreorderCategory(ranked(0, 1, 2, 3, 4, 5, 6, 7))).is(t, chain(impl.MaxObjects))
	one(impl.PreorderCategory(ranked(0, 0, 0, 0, 0, 0))).is(t, indiscrete(6))
	// Four pairs of elements that are related both ways make exactly MaxArrows arrows.
	pairs := preorder(impl.MaxObjects, func(i, j int64) bool { return i/2 <= j/2 })
	expect(t, "MaxArrows arrows", len(pairs.From) == impl.MaxArrows, true)
	one(impl.PreorderCategory(ranked(0, 0, 1, 1, 2, 2, 3, 3))).is(t, pairs)
}

func TestPreorderCategoryErrors(t *testing.T) {
	for _, table := range raggedTables() {
		one(impl.PreorderCategory(table)).fails(t, impl.ErrInvalid)
	}
	for _, n := range list(2, 8, 9, 40, 120) {
		last := int(n) - 1
		for _, bad := range list(-1, 2, math.MinInt64, math.MaxInt64) {
			one(impl.PreorderCategory(changedTable(equality(n), 0, last, bad))).fails(t, impl.ErrInvalid)
			one(impl.PreorderCategory(changedTable(equality(n), last, last, bad))).fails(t, impl.ErrInvalid)
		}
		one(impl.PreorderCategory(changedTable(equality(n), 0, 0, 0))).fails(t, impl.ErrInvalid)
		one(impl.PreorderCategory(changedTable(equality(n), last, last, 0))).fails(t, impl.ErrInvalid)
	}
	one(impl.PreorderCategory(lists(list(1, 1, 0), list(0, 1, 1), list(0, 0, 1)))).fails(t, impl.ErrInvalid)
	one(impl.PreorderCategory(lists(list(1, 0, 0), list(1, 1, 0), list(0, 1, 1)))).fails(t, impl.ErrInvalid)
	near := func(i, j int64) bool { return i == j || i+1 == j }
	for _, n := range list(3, 8, 9, 120) {
		one(impl.PreorderCategory(relation(n, near))).fails(t, impl.ErrInvalid)
	}
	for _, n := range list(9, 10, 40, 41, 120) {
		one(impl.PreorderCategory(equality(n))).fails(t, impl.ErrRange)
		one(impl.PreorderCategory(ranked(counting(n)...))).fails(t, impl.ErrRange)
		one(impl.PreorderCategory(ranked(repeat(0, int(n))...))).fails(t, impl.ErrRange)
	}
	one(impl.PreorderCategory(ranked(0, 0, 0, 1, 1, 2, 2, 3))).fails(t, impl.ErrLimit)
	one(impl.PreorderCategory(ranked(0, 0, 0, 0, 0, 0, 0))).fails(t, impl.ErrLimit)
	one(impl.PreorderCategory(ranked(0, 0, 0, 0, 0, 0, 0, 0))).fails(t, impl.ErrLimit)
}

func TestChainCategory(t *testing.T) {
	one(impl.ChainCategory(2)).is(t, interval())
	one(impl.ChainCategory(3)).is(t, longChain())
	one(impl.ChainCategory(0)).is(t, impl.Category{})
	for n := range int64(impl.MaxObjects + 1) {
		one(impl.ChainCategory(n)).is(t, chain(n))
	}
	for _, n := range noNumbers(impl.MaxObjects + 1) {
		one(impl.ChainCategory(n)).fails(t, impl.ErrRange)
	}
}

func TestMonoidCategory(t *testing.T) {
	one(impl.MonoidCategory(lists(list(0, 1), list(1, 0)))).is(t, impl.Category{
		Objects: 1, From: list(0, 0), To: list(0, 0), Identity: list(0), Composites: lists(list(0, 1), list(1, 0)),
	})
	one(impl.MonoidCategory(lists(list(0)))).is(t, discrete(1))
	// Here f; g is not g; f.
	maps := lists(list(0, 1, 2, 3), list(1, 1, 2, 2), list(2, 1, 2, 1), list(3, 1, 2, 0))
	one(impl.MonoidCategory(maps)).is(t, monoid(maps...))
	one(impl.MonoidCategory(cyclic(6).Composites)).is(t, cyclic(6))
	one(impl.MonoidCategory(cyclic(impl.MaxArrows).Composites)).is(t, cyclic(impl.MaxArrows))
}

func TestMonoidCategoryErrors(t *testing.T) {
	one(impl.MonoidCategory(nil)).fails(t, impl.ErrInvalid)
	one(impl.MonoidCategory(lists())).fails(t, impl.ErrInvalid)
	one(impl.MonoidCategory(lists(list(1)))).fails(t, impl.ErrInvalid)
	for _, table := range raggedTables() {
		one(impl.MonoidCategory(table)).fails(t, impl.ErrInvalid)
	}
	one(impl.MonoidCategory(lists(list(0, 1), list(1)))).fails(t, impl.ErrInvalid)
	one(impl.MonoidCategory(lists(list(0, 1), list(1, 0, 0)))).fails(t, impl.ErrInvalid)
	for _, n := range list(1, 2, 3, 40, 41, 100) {
		last := int(n) - 1
		table := cyclic(n).Composites
		for _, bad := range noNumbers(n) {
			one(impl.MonoidCategory(changedTable(table, last, last, bad))).fails(t, impl.ErrInvalid)
			one(impl.MonoidCategory(changedTable(table, 0, last, bad))).fails(t, impl.ErrInvalid)
		}
	}
	// The element 0 is a unit on one side only, another element is the unit, or there is none.
	for _, table := range [][][]int64{
		lists(list(0, 1), list(0, 1)), lists(list(0, 0), list(1, 1)), lists(list(1, 0), list(0, 1)),
		lists(list(0, 0), list(0, 1)), lists(list(0, 0), list(0, 0)),
	} {
		one(impl.MonoidCategory(table)).fails(t, impl.ErrInvalid)
	}
	one(impl.MonoidCategory(lists(list(0, 1, 2), list(1, 2, 1), list(2, 2, 2)))).fails(t, impl.ErrInvalid)
	for _, n := range list(40, 41, 100) {
		last := int(n) - 1
		one(impl.MonoidCategory(changedTable(cyclic(n).Composites, last, last, 0))).fails(t, impl.ErrInvalid)
	}
	for _, n := range list(41, 42, 100) {
		one(impl.MonoidCategory(cyclic(n).Composites)).fails(t, impl.ErrLimit)
	}
}

// mixedPaths are the paths of a graph with the edges 1 -> 2, 0 -> 1, 0 -> 2 and 0 -> 1.
func mixedPaths() impl.Category {
	return impl.Category{
		Objects: 3, From: list(0, 0, 0, 0, 0, 0, 1, 1, 2), To: list(0, 1, 1, 2, 2, 2, 1, 2, 2), Identity: list(0, 6, 8),
		Composites: lists(
			list(0, 1, 2, 3, 4, 5, -1, -1, -1), list(-1, -1, -1, -1, -1, -1, 1, 3, -1), list(-1, -1, -1, -1, -1, -1, 2, 5, -1),
			list(-1, -1, -1, -1, -1, -1, -1, -1, 3), list(-1, -1, -1, -1, -1, -1, -1, -1, 4), list(-1, -1, -1, -1, -1, -1, -1, -1, 5),
			list(-1, -1, -1, -1, -1, -1, 6, 7, -1), list(-1, -1, -1, -1, -1, -1, -1, -1, 7), list(-1, -1, -1, -1, -1, -1, -1, -1, 8),
		),
	}
}

func TestPathCategory(t *testing.T) {
	one(impl.PathCategory(2, list(0, 0), list(1, 1))).is(t, parallel())
	one(impl.PathCategory(0, nil, nil)).is(t, impl.Category{})
	one(impl.PathCategory(0, list(), list())).is(t, impl.Category{})
	one(impl.PathCategory(2, list(0), list(1))).is(t, interval())
	one(impl.PathCategory(3, list(1, 0), list(2, 1))).is(t, longChain())
	one(impl.PathCategory(3, list(1, 0, 0, 0), list(2, 1, 2, 1))).is(t, mixedPaths())
	one(impl.PathCategory(impl.MaxObjects, nil, nil)).is(t, discrete(impl.MaxObjects))
	one(impl.PathCategory(impl.MaxObjects, counting(7), moved(counting(7), 1))).is(t, chain(impl.MaxObjects))
	// Exactly MaxArrows paths; edges are compared as numbers, also those of two digits.
	wide, code := impl.PathCategory(2, repeat(0, 38), repeat(1, 38))
	one(list(int64(len(wide.From)), wide.Identity[1]), code).is(t, list(impl.MaxArrows, 39))
	long, code := impl.PathCategory(3, append(repeat(0, 11), 1), append(repeat(1, 11), 2))
	one(list(long.Composites[3][25], long.Composites[11][25], long.Identity[1]), code).is(t, list(-1, -1, 23))
	one(list(long.Composites[1][24], long.Composites[3][24], long.Composites[11][24]), code).is(t, list(12, 14, 22))
}

func TestPathCategoryErrors(t *testing.T) {
	for _, n := range list(0, 2, 8, -1, 9, math.MaxInt64) {
		for _, edges := range lists(list(0), list(0, 0), list(-1), list(5, 7, 9)) {
			one(impl.PathCategory(n, edges, nil)).fails(t, impl.ErrInvalid)
			one(impl.PathCategory(n, nil, edges)).fails(t, impl.ErrInvalid)
			one(impl.PathCategory(n, edges, append(slices.Clone(edges), 1))).fails(t, impl.ErrInvalid)
		}
	}
	for _, n := range noNumbers(impl.MaxObjects + 1) {
		one(impl.PathCategory(n, nil, nil)).fails(t, impl.ErrRange)
		one(impl.PathCategory(n, list(0), list(1))).fails(t, impl.ErrRange)
		one(impl.PathCategory(n, list(0), list(0))).fails(t, impl.ErrRange)
	}
	for _, n := range list(0, 1, 2, 8) {
		for _, bad := range noNumbers(n) {
			one(impl.PathCategory(n, list(bad), list(0))).fails(t, impl.ErrRange)
			one(impl.PathCategory(n, list(0), list(bad))).fails(t, impl.ErrRange)
			one(impl.PathCategory(n, list(0, bad), list(0, bad))).fails(t, impl.ErrRange)
			one(impl.PathCategory(n, append(repeat(0, 50), bad), repeat(0, 51))).fails(t, impl.ErrRange)
		}
	}
	for _, edges := range [][][]int64{
		lists(list(0), list(0)), lists(list(7), list(7)), lists(list(0, 1), list(1, 0)), lists(list(2, 0, 1), list(0, 1, 2)),
		lists(counting(8), list(1, 2, 3, 4, 5, 6, 7, 0)), lists(list(0, 1, 5, 3, 4), list(1, 2, 3, 4, 5)),
		lists(append(repeat(0, 50), 1), append(repeat(1, 50), 0)), lists(append(repeat(0, 1000), 6), append(repeat(7, 1000), 6)),
	} {
		one(impl.PathCategory(8, edges[0], edges[1])).fails(t, impl.ErrState)
	}
	for _, m := range []int{39, 40, 41, 255, 256, 300, 100000} {
		one(impl.PathCategory(2, repeat(0, m), repeat(1, m))).fails(t, impl.ErrLimit)
	}
	// 40 paths in all, 41, and far more.
	from, to := append(repeat(0, 18), 1), append(repeat(1, 18), 2)
	one(impl.PathCategory(3, from, to)).is(t, pathsByDefinition(3, from, to))
	one(impl.PathCategory(4, from, to)).fails(t, impl.ErrLimit)
	steep := slices.Repeat(counting(7), 5)
	one(impl.PathCategory(8, steep, moved(steep, 1))).fails(t, impl.ErrLimit)
	high := slices.Repeat(counting(7), 5000)
	one(impl.PathCategory(8, high, moved(high, 1))).fails(t, impl.ErrLimit)
}

func TestOppositeCategory(t *testing.T) {
	one(impl.OppositeCategory(interval())).is(t, impl.Category{
		Objects: 2, From: list(0, 1, 1), To: list(0, 0, 1), Identity: list(0, 2),
		Composites: lists(list(0, -1, -1), list(1, -1, -1), list(-1, 1, 2)),
	})
	one(impl.OppositeCategory(impl.Category{})).is(t, impl.Category{})
	one(impl.OppositeCategory(largest())).is(t, largest())
	one(impl.OppositeCategory(monoid(list(0, 1, 2), list(1, 1, 2), list(2, 1, 2)))).is(t, monoid(list(0, 1, 2), list(1, 1, 1), list(2, 2, 2)))
	checkCategoryErrors(t, func(c impl.Category) result { return one(impl.OppositeCategory(c)) })
}

// checkTwoErrors checks the errors of a function of two categories that come before all others.
func checkTwoErrors(t *testing.T, call func(c, d impl.Category) result) {
	t.Helper()
	for _, s := range []impl.Category{{}, interval(), largest()} {
		checkCategoryErrors(t, func(c impl.Category) result { return call(c, s) })
		checkCategoryErrors(t, func(c impl.Category) result { return call(s, c) })
	}
	checkCategoryErrors(t, func(c impl.Category) result { return call(c, c) })
}

func TestProductCategory(t *testing.T) {
	square, code := impl.ProductCategory(interval(), interval())
	one(list(square.Objects, int64(len(square.From)), square.Composites[1][5]), code).is(t, list(4, 9, 4))
	one(impl.ProductCategory(interval(), cyclic(2))).is(t, impl.Category{
		Objects: 2, From: list(0, 0, 0, 0, 1, 1), To: list(0, 0, 1, 1, 1, 1), Identity: list(0, 4),
		Composites: lists(
			list(0, 1, 2, 3, -1, -1), list(1, 0, 3, 2, -1, -1), list(-1, -1, -1, -1, 2, 3),
			list(-1, -1, -1, -1, 3, 2), list(-1, -1, -1, -1, 4, 5), list(-1, -1, -1, -1, 5, 4),
		),
	})
	one(impl.ProductCategory(impl.Category{}, largest())).is(t, impl.Category{})
	one(impl.ProductCategory(largest(), impl.Category{})).is(t, impl.Category{})
	one(impl.ProductCategory(discrete(1), largest())).is(t, largest())
	one(impl.ProductCategory(largest(), discrete(1))).is(t, largest())
	one(impl.ProductCategory(discrete(2), discrete(4))).is(t, discrete(8))
	one(impl.ProductCategory(discrete(2), cyclic(20))).is(t, sum(cyclic(20), cyclic(20)))
	one(impl.ProductCategory(cyclic(2), cyclic(21))).fails(t, impl.ErrLimit)
	one(impl.ProductCategory(cyclic(40), cyclic(2))).fails(t, impl.ErrLimit)
	one(impl.ProductCategory(discrete(3), discrete(3))).fails(t, impl.ErrLimit)
	one(impl.ProductCategory(largest(), largest())).fails(t, impl.ErrLimit)
	checkTwoErrors(t, func(c, d impl.Category) result { return one(impl.ProductCategory(c, d)) })
}

func TestSumCategory(t *testing.T) {
	both, code := impl.SumCategory(interval(), interval())
	one(list(both.Objects, int64(len(both.From))), code).is(t, list(4, 6))
	one(impl.SumCategory(interval(), interval())).is(t, sum(interval(), interval()))
	one(impl.SumCategory(backwards(), cyclic(2))).is(t, impl.Category{
		Objects: 3, From: list(0, 1, 0, 2, 2), To: list(1, 1, 0, 2, 2), Identity: list(2, 1, 3),
		Composites: lists(list(-1, 0, -1, -1, -1), list(-1, 1, -1, -1, -1), list(0, -1, 2, -1, -1), list(-1, -1, -1, 3, 4), list(-1, -1, -1, 4, 3)),
	})
	one(impl.SumCategory(impl.Category{}, impl.Category{})).is(t, impl.Category{})
	one(impl.SumCategory(impl.Category{}, largest())).is(t, largest())
	one(impl.SumCategory(largest(), impl.Category{})).is(t, largest())
	one(impl.SumCategory(discrete(7), cyclic(33))).is(t, largest())
	one(impl.SumCategory(cyclic(20), cyclic(20))).is(t, sum(cyclic(20), cyclic(20)))
	one(impl.SumCategory(cyclic(20), cyclic(21))).fails(t, impl.ErrLimit)
	one(impl.SumCategory(discrete(4), discrete(5))).fails(t, impl.ErrLimit)
	one(impl.SumCategory(largest(), discrete(1))).fails(t, impl.ErrLimit)
	checkTwoErrors(t, func(c, d impl.Category) result { return one(impl.SumCategory(c, d)) })
}

func TestJoinCategory(t *testing.T) {
	both, code := impl.JoinCategory(interval(), interval())
	one(list(both.Objects, int64(len(both.From))), code).is(t, list(4, 10))
	one(impl.JoinCategory(discrete(1), cyclic(2))).is(t, impl.Category{
		Objects: 2, From: list(0, 1, 1, 0), To: list(0, 1, 1, 1), Identity: list(0, 1),
		Composites: lists(list(0, -1, -1, 3), list(-1, 1, 2, -1), list(-1, 2, 1, -1), list(-1, 3, 3, -1)),
	})
	one(impl.JoinCategory(cyclic(2), discrete(2))).is(t, impl.Category{
		Objects: 3, From: list(0, 0, 1, 2, 0, 0), To: list(0, 0, 1, 2, 1, 2), Identity: list(0, 2, 3),
		Composites: lists(
			list(0, 1, -1, -1, 4, 5), list(1, 0, -1, -1, 4, 5), list(-1, -1, 2, -1, -1, -1),
			list(-1, -1, -1, 3, -1, -1), list(-1, -1, 4, -1, -1, -1), list(-1, -1, -1, 5, -1, -1),
		),
	})
	one(impl.JoinCategory(impl.Category{}, impl.Category{})).is(t, impl.Category{})
	one(impl.JoinCategory(impl.Category{}, largest())).is(t, largest())
	one(impl.JoinCategory(largest(), impl.Category{})).is(t, largest())
	// Exactly MaxArrows arrows, one more, and too many only with the arrows across.
	most, code := impl.JoinCategory(cyclic(32), sum(discrete(2), discrete(2)))
	one(list(int64(len(most.From)), most.Composites[31][39]), code).is(t, list(impl.MaxArrows, 39))
	one(impl.JoinCategory(cyclic(33), discrete(4))).fails(t, impl.ErrLimit)
	one(impl.JoinCategory(cyclic(20), cyclic(20))).fails(t, impl.ErrLimit)
	one(impl.JoinCategory(chain(4), chain(4))).is(t, joinByDefinition(chain(4), chain(4)))
	one(impl.JoinCategory(discrete(4), discrete(5))).fails(t, impl.ErrLimit)
	checkTwoErrors(t, func(c, d impl.Category) result { return one(impl.JoinCategory(c, d)) })
}

func TestTwistedCategory(t *testing.T) {
	// The arrows lead from both identities to the arrow 1.
	one(impl.TwistedCategory(interval())).is(t, impl.Category{
		Objects: 3, From: list(0, 0, 1, 2, 2), To: list(0, 1, 1, 1, 2), Identity: list(0, 2, 4),
		Composites: lists(
			list(0, 1, -1, -1, -1), list(-1, -1, 1, -1, -1), list(-1, -1, 2, -1, -1),
			list(-1, -1, 3, -1, -1), list(-1, -1, -1, 3, 4),
		),
	})
	one(impl.TwistedCategory(impl.Category{})).is(t, impl.Category{})
	one(impl.TwistedCategory(discrete(impl.MaxObjects))).is(t, discrete(impl.MaxObjects))
	// From 0 to 0 lead (0, 0) and (1, 1), from 0 to 1 lead (0, 1) and (1, 0).
	one(impl.TwistedCategory(cyclic(2))).is(t, impl.Category{
		Objects: 2, From: list(0, 0, 0, 0, 1, 1, 1, 1), To: list(0, 0, 1, 1, 0, 0, 1, 1), Identity: list(0, 6),
		Composites: lists(
			list(0, 1, 2, 3, -1, -1, -1, -1), list(1, 0, 3, 2, -1, -1, -1, -1), list(-1, -1, -1, -1, 0, 1, 2, 3), list(-1, -1, -1, -1, 1, 0, 3, 2),
			list(4, 5, 6, 7, -1, -1, -1, -1), list(5, 4, 7, 6, -1, -1, -1, -1), list(-1, -1, -1, -1, 4, 5, 6, 7), list(-1, -1, -1, -1, 5, 4, 7, 6),
		),
	})
	// As much as possible: 8 objects, and 27, 8 and 5 arrows.
	most := sum(cyclic(3), sum(cyclic(2), interval()))
	large, code := impl.TwistedCategory(most)
	one(list(large.Objects, int64(len(large.From))), code).is(t, list(impl.MaxObjects, impl.MaxArrows))
	one(impl.TwistedCategory(most)).is(t, twistedByDefinition(most))
	// Too many arrows only, too many objects only, and both.
	one(impl.TwistedCategory(sum(retract(), sum(cyclic(2), discrete(1))))).fails(t, impl.ErrLimit)
	one(impl.TwistedCategory(sum(discrete(7), cyclic(2)))).fails(t, impl.ErrLimit)
	one(impl.TwistedCategory(chain(4))).fails(t, impl.ErrLimit)
	one(impl.TwistedCategory(largest())).fails(t, impl.ErrLimit)
	one(impl.TwistedCategory(cyclic(impl.MaxArrows))).fails(t, impl.ErrLimit)
	checkCategoryErrors(t, func(c impl.Category) result { return one(impl.TwistedCategory(c)) })
}

// threeSteps has the edges 0 -> 1, twice 1 -> 2, and 2 -> 3; its arrows 2 and 3 lead from 0 to 2, 4
// and 5 from 0 to 3, and 7 and 8 from 1 to 2.
func threeSteps() impl.Category { return pathsByDefinition(4, list(0, 1, 1, 2), list(1, 2, 2, 3)) }

func TestIsCongruence(t *testing.T) {
	for _, s := range []struct {
		label string
		c     impl.Category
		p     []int64
		want  bool
	}{
		{"the example", parallel(), list(0, 1, 1, 2), true},
		{"each arrow alone", parallel(), counting(4), true},
		{"each of the most arrows alone", largest(), counting(impl.MaxArrows), true},
		{"nothing", impl.Category{}, nil, true},
		{"an empty list", impl.Category{}, list(), true},
		{"too long", impl.Category{}, list(0), false},
		{"other sources and targets", parallel(), list(0, 1, 1, 0), false},
		{"another source", interval(), list(0, 1, 1), false},
		{"another target", interval(), list(0, 0, 1), false},
		{"all arrows in one class", interval(), list(0, 0, 0), false},
		{"an arrow left out", parallel(), list(0, 1, 1), false},
		{"an arrow too many", parallel(), list(0, 1, 1, 2, 3), false},
		{"far too many", parallel(), counting(1000), false},
		{"no list", parallel(), nil, false},
		{"classes in another order", parallel(), list(1, 0, 0, 2), false},
		{"a class number left out", parallel(), list(0, 1, 1, 3), false},
		{"classes from 1 on", parallel(), list(1, 2, 2, 3), false},
		{"a negative class", parallel(), list(0, -1, -1, 1), false},
		{"a least class", parallel(), list(math.MinInt64, 0, 0, 1), false},
		{"a greatest class", parallel(), list(0, 1, 1, math.MaxInt64), false},
		{"a subgroup", cyclic(6), list(0, 1, 2, 0, 1, 2), true},
		{"no subgroup", cyclic(6), list(0, 1, 2, 0, 1, 3), false},
		{"all of a group", cyclic(impl.MaxArrows), repeat(0, impl.MaxArrows), true},
		{"all but one of a group", cyclic(impl.MaxArrows), append(repeat(0, impl.MaxArrows-1), 1), false},
		{"composites before and behind", threeSteps(), list(0, 1, 2, 2, 3, 3, 4, 5, 5, 6, 6, 7, 8, 9), true},
		{"a composite before is missing", threeSteps(), list(0, 1, 2, 3, 4, 4, 5, 6, 6, 7, 7, 8, 9, 10), false},
		{"a composite behind is missing", threeSteps(), list(0, 1, 2, 2, 3, 3, 4, 5, 5, 6, 7, 8, 9, 10), false},
		{"a composite on both sides is missing", threeSteps(), list(0, 1, 2, 2, 3, 4, 5, 6, 6, 7, 7, 8, 9, 10), false},
	} {
		got, code := impl.IsCongruence(s.c, s.p)
		if code != impl.ErrNone || got != s.want {
			t.Errorf("%s: got %v with code %d, want %v with ErrNone", s.label, got, code, s.want)
		}
	}
	for _, p := range lists(nil, list(0), list(-1), list(0, 1, 2), repeat(0, 1000)) {
		checkCategoryErrors(t, func(c impl.Category) result { return one(impl.IsCongruence(c, p)) })
	}
}

func TestCongruenceOf(t *testing.T) {
	one(impl.CongruenceOf(parallel(), lists(list(2, 1)))).is(t, list(0, 1, 1, 2))
	one(impl.CongruenceOf(parallel(), lists(list(1, 2)))).is(t, list(0, 1, 1, 2))
	one(impl.CongruenceOf(parallel(), lists(list(1, 1), list(3, 3)))).is(t, counting(4))
	one(impl.CongruenceOf(parallel(), nil)).is(t, counting(4))
	one(impl.CongruenceOf(impl.Category{}, nil)).is(t, list())
	one(impl.CongruenceOf(largest(), lists())).is(t, counting(impl.MaxArrows))
	one(impl.CongruenceOf(threeSteps(), lists(list(8, 7)))).is(t, list(0, 1, 2, 2, 3, 3, 4, 5, 5, 6, 6, 7, 8, 9))
	one(impl.CongruenceOf(threeSteps(), lists(list(2, 3)))).is(t, list(0, 1, 2, 2, 3, 3, 4, 5, 6, 7, 8, 9, 10, 11))
	one(impl.CongruenceOf(threeSteps(), lists(list(4, 5)))).is(t, list(0, 1, 2, 3, 4, 4, 5, 6, 7, 8, 9, 10, 11, 12))
	one(impl.CongruenceOf(retract(), lists(list(1, 0)))).is(t, list(0, 0, 1, 2, 3))
	one(impl.CongruenceOf(cyclic(6), lists(list(5, 1)))).is(t, list(0, 1, 0, 1, 0, 1))
	one(impl.CongruenceOf(cyclic(6), lists(list(5, 2), list(0, 3)))).is(t, list(0, 1, 2, 0, 1, 2))
	one(impl.CongruenceOf(cyclic(6), lists(list(5, 2), list(0, 4)))).is(t, repeat(0, 6))
	one(impl.CongruenceOf(cyclic(impl.MaxArrows), lists(list(0, 8), list(39, 11)))).is(t, slices.Repeat(counting(4), 10))
	one(impl.CongruenceOf(cyclic(impl.MaxArrows), slices.Repeat(lists(list(39, 38)), 100000))).is(t, repeat(0, impl.MaxArrows))
	one(impl.CongruenceOf(largest(), lists(list(39, 38)))).is(t, append(counting(7), repeat(7, 33)...))
}

func TestCongruenceOfErrors(t *testing.T) {
	for _, pair := range lists(nil, list(0), list(0, 0), list(-1, 5), list(1, 2, 3)) {
		checkCategoryErrors(t, func(c impl.Category) result { return one(impl.CongruenceOf(c, lists(pair))) })
		checkCategoryErrors(t, func(c impl.Category) result { return one(impl.CongruenceOf(c, nil)) })
	}
	for _, bad := range noNumbers(4) {
		for _, pairs := range [][][]int64{
			lists(list(bad, 1)), lists(list(1, bad)), lists(list(bad, bad)), lists(list(1, 2), list(2, bad)),
			lists(list(0, 1), list(bad, 1)), lists(list(1), list(1, bad)), lists(nil, list(bad, 0)), lists(list(bad)), lists(list(1, 2, bad)),
		} {
			one(impl.CongruenceOf(parallel(), pairs)).fails(t, impl.ErrRange)
		}
	}
	one(impl.CongruenceOf(impl.Category{}, lists(list(0, 0)))).fails(t, impl.ErrRange)
	one(impl.CongruenceOf(cyclic(impl.MaxArrows), lists(list(39, 40)))).fails(t, impl.ErrRange)
	for _, pair := range lists(nil, list(), list(1), list(1, 2, 1), list(0, 1), list(1, 3), list(0, 3), list(3, 0), repeat(1, 100)) {
		one(impl.CongruenceOf(parallel(), lists(pair))).fails(t, impl.ErrState)
		one(impl.CongruenceOf(parallel(), lists(pair, list(1, 2)))).fails(t, impl.ErrState)
		one(impl.CongruenceOf(parallel(), lists(list(1, 2), pair))).fails(t, impl.ErrState)
	}
	one(impl.CongruenceOf(impl.Category{}, lists(nil))).fails(t, impl.ErrState)
	one(impl.CongruenceOf(indiscrete(2), lists(list(1, 2)))).fails(t, impl.ErrState)
}

func TestQuotientCategory(t *testing.T) {
	one(impl.QuotientCategory(parallel(), list(0, 1, 1, 2))).is(t, interval())
	one(impl.QuotientCategory(parallel(), counting(4))).is(t, parallel())
	one(impl.QuotientCategory(impl.Category{}, nil)).is(t, impl.Category{})
	one(impl.QuotientCategory(largest(), counting(impl.MaxArrows))).is(t, largest())
	one(impl.QuotientCategory(largest(), append(counting(7), repeat(7, 33)...))).is(t, discrete(impl.MaxObjects))
	one(impl.QuotientCategory(retract(), list(0, 0, 1, 2, 3))).is(t, indiscrete(2))
	one(impl.QuotientCategory(cyclic(6), list(0, 1, 2, 0, 1, 2))).is(t, cyclic(3))
	one(impl.QuotientCategory(cyclic(impl.MaxArrows), slices.Repeat(counting(8), 5))).is(t, cyclic(8))
	one(impl.QuotientCategory(backwards(), counting(3))).is(t, backwards())
}

func TestQuotientCategoryErrors(t *testing.T) {
	for _, p := range lists(
		nil, list(0, 1, 1), list(0, 1, 1, 2, 3), list(0, 1, 1, 0), list(1, 0, 0, 2), list(0, 1, 1, 3), list(1, 2, 2, 3),
		list(0, -1, -1, 1), list(0, 1, 1, math.MaxInt64), list(0, 0, 0, 0), counting(1000),
	) {
		one(impl.QuotientCategory(parallel(), p)).fails(t, impl.ErrInvalid)
		checkCategoryErrors(t, func(c impl.Category) result { return one(impl.QuotientCategory(c, p)) })
	}
	one(impl.QuotientCategory(impl.Category{}, list(0))).fails(t, impl.ErrInvalid)
	one(impl.QuotientCategory(cyclic(6), list(0, 1, 2, 0, 1, 3))).fails(t, impl.ErrInvalid)
	one(impl.QuotientCategory(threeSteps(), list(0, 1, 2, 3, 4, 4, 5, 6, 6, 7, 7, 8, 9, 10))).fails(t, impl.ErrInvalid)
}

func TestBuildersMemory(t *testing.T) {
	c, d := retract(), interval()
	for label, call := range map[string]func(g *guard) [][]int64{
		"PreorderCategory": func(g *guard) [][]int64 {
			return listsOf(impl.PreorderCategory(g.rows(list(1, 1, 1), list(0, 1, 0), list(0, 0, 1))))
		},
		"ChainCategory":  func(g *guard) [][]int64 { return listsOf(impl.ChainCategory(4)) },
		"MonoidCategory": func(g *guard) [][]int64 { return listsOf(impl.MonoidCategory(g.rows(cyclic(3).Composites...))) },
		"PathCategory": func(g *guard) [][]int64 {
			return listsOf(impl.PathCategory(3, g.list(1, 0, 0), g.list(2, 1, 2)))
		},
		"OppositeCategory": func(g *guard) [][]int64 { return listsOf(impl.OppositeCategory(g.category(c))) },
		"ProductCategory":  func(g *guard) [][]int64 { return listsOf(impl.ProductCategory(g.category(c), g.category(d))) },
		"ProductCategory with one arrow": func(g *guard) [][]int64 {
			return listsOf(impl.ProductCategory(g.category(c), g.category(discrete(1))))
		},
		"SumCategory": func(g *guard) [][]int64 { return listsOf(impl.SumCategory(g.category(c), g.category(d))) },
		"SumCategory with nothing": func(g *guard) [][]int64 {
			return listsOf(impl.SumCategory(g.category(impl.Category{}), g.category(c)))
		},
		"SumCategory with itself": func(g *guard) [][]int64 {
			same := g.category(c)
			return listsOf(impl.SumCategory(same, same))
		},
		"JoinCategory": func(g *guard) [][]int64 { return listsOf(impl.JoinCategory(g.category(d), g.category(c))) },
		"JoinCategory with nothing": func(g *guard) [][]int64 {
			return listsOf(impl.JoinCategory(g.category(c), g.category(impl.Category{})))
		},
		"TwistedCategory": func(g *guard) [][]int64 { return listsOf(impl.TwistedCategory(g.category(c))) },
		"IsCongruence": func(g *guard) [][]int64 {
			impl.IsCongruence(g.category(c), g.list(0, 0, 1, 2, 3))
			return nil
		},
		"CongruenceOf": func(g *guard) [][]int64 {
			made, _ := impl.CongruenceOf(g.category(c), g.rows(list(1, 0), list(1, 1)))
			return lists(made)
		},
		"QuotientCategory": func(g *guard) [][]int64 {
			return listsOf(impl.QuotientCategory(g.category(c), g.list(0, 0, 1, 2, 3)))
		},
		"QuotientCategory without equations": func(g *guard) [][]int64 {
			return listsOf(impl.QuotientCategory(g.category(c), g.list(0, 1, 2, 3, 4)))
		},
	} {
		checkMemory(t, label, call)
	}
}
