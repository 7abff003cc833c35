package tests

import (
	"math"
	"slices"
	"testing"

	"loop.example/g01083/impl"
)

// checkMapErrors checks the errors of a function of n and a map f that come before all others.
func checkMapErrors(t *testing.T, call func(n int64, f []int64) result) {
	t.Helper()
	for _, n := range noSizes() {
		call(n, nil).fails(t, impl.ErrRange)
		call(n, list(0)).fails(t, impl.ErrRange)
		call(n, list(-1)).fails(t, impl.ErrRange)
		call(n, repeat(0, impl.MaxSet+1)).fails(t, impl.ErrRange)
	}
	for _, f := range [][]int64{list(2), list(-1), list(0, 1, 2), list(math.MaxInt64), list(math.MinInt64)} {
		call(2, f).fails(t, impl.ErrInvalid)
	}
	call(0, list(0)).fails(t, impl.ErrInvalid)
	call(1, repeat(0, impl.MaxSet+1)).fails(t, impl.ErrInvalid)
	call(impl.MaxSet, list(impl.MaxSet)).fails(t, impl.ErrInvalid)
}

// checkParallelErrors is checkMapErrors for two maps from one set.
func checkParallelErrors(t *testing.T, call func(n int64, f, g []int64) result) {
	t.Helper()
	checkMapErrors(t, func(n int64, f []int64) result { return call(n, f, f) })
	checkMapErrors(t, func(n int64, f []int64) result { return call(n, f, make([]int64, len(f))) })
	checkMapErrors(t, func(n int64, g []int64) result { return call(n, make([]int64, len(g)), g) })
	call(2, list(0, 1), list(0)).fails(t, impl.ErrInvalid)
	call(2, nil, list(0)).fails(t, impl.ErrInvalid)
	call(impl.MaxSet+1, list(0, 1), list(0)).fails(t, impl.ErrRange)
}

// checkPartitionErrors checks the errors of a function of two partitions.
func checkPartitionErrors(t *testing.T, call func(p, q []int64) result) {
	t.Helper()
	good := list(0, 0)
	for _, bad := range [][]int64{list(1, 0), list(0, 2), list(0, -1), list(-1, 0), list(1, 1), list(0, math.MaxInt64)} {
		call(bad, good).fails(t, impl.ErrInvalid)
		call(good, bad).fails(t, impl.ErrInvalid)
		call(bad, bad).fails(t, impl.ErrInvalid)
	}
	call(list(0, 1), list(0, 1, 2)).fails(t, impl.ErrInvalid)
	call(list(0, 1, 2), list(0, 1)).fails(t, impl.ErrInvalid)
	call(nil, list(0)).fails(t, impl.ErrInvalid)
	call(list(0), nil).fails(t, impl.ErrInvalid)
	long := repeat(0, impl.MaxSet+1)
	call(long, long).fails(t, impl.ErrInvalid)
}

func TestErrorCodes(t *testing.T) {
	codes := list(impl.ErrNone, impl.ErrInvalid, impl.ErrRange, impl.ErrLimit, impl.ErrNotFound, impl.ErrState, impl.ErrSyntax)
	one(codes, impl.ErrNone).is(t, counting(7))
	one(list(impl.MaxSet, impl.MaxCount), impl.ErrNone).is(t, list(256, 1000000000000))
}

func TestIsMap(t *testing.T) {
	for _, c := range []struct {
		label string
		n     int64
		f     []int64
		want  bool
	}{
		{"the example", 2, list(2), false},
		{"a map", 3, list(2, 0, 2, 1), true},
		{"the least and the greatest image", 3, list(0, 2), true},
		{"nil to no elements", 0, nil, true},
		{"an empty list to no elements", 0, list(), true},
		{"nil to some elements", 5, nil, true},
		{"an element to no elements", 0, list(0), false},
		{"a negative image", 2, list(0, -1), false},
		{"an image far below", 2, list(math.MinInt64), false},
		{"an image far above", 2, list(math.MaxInt64), false},
		{"a fault behind good images", 2, list(0, 1, 2), false},
		{"MaxSet elements to MaxSet elements", impl.MaxSet, counting(impl.MaxSet), true},
		{"one element more in the source", impl.MaxSet, repeat(0, impl.MaxSet+1), false},
		{"one element more in the target", impl.MaxSet + 1, list(0), false},
		{"nil to one element too many", impl.MaxSet + 1, nil, false},
		{"nil to a negative number of elements", -1, nil, false},
		{"an image at MaxSet", impl.MaxSet, list(impl.MaxSet), false},
	} {
		expect(t, c.label, impl.IsMap(c.n, c.f), c.want)
	}
}

func TestThenMaps(t *testing.T) {
	one(impl.ThenMaps(2, list(1, 0, 1), 3, list(2, 0))).is(t, list(0, 2, 0))
	one(impl.ThenMaps(3, list(2, 2), 4, list(0, 1, 3))).is(t, list(3, 3))
	one(impl.ThenMaps(0, nil, 0, nil)).is(t, list())
	one(impl.ThenMaps(0, nil, 5, list())).is(t, list())
	one(impl.ThenMaps(2, nil, 1, list(0, 0))).is(t, list())
	backwards := counting(impl.MaxSet)
	slices.Reverse(backwards)
	one(impl.ThenMaps(impl.MaxSet, backwards, impl.MaxSet, backwards)).is(t, counting(impl.MaxSet))
}

func TestThenMapsErrors(t *testing.T) {
	checkMapErrors(t, func(n int64, f []int64) result {
		return one(impl.ThenMaps(n, f, 1, make([]int64, max(0, min(n, impl.MaxSet)))))
	})
	checkMapErrors(t, func(k int64, g []int64) result {
		return one(impl.ThenMaps(min(int64(len(g)), impl.MaxSet), nil, k, g))
	})
	for _, n := range noSizes() {
		one(impl.ThenMaps(2, list(2), n, list(0, 0))).fails(t, impl.ErrRange)
		one(impl.ThenMaps(n, nil, 2, list(2))).fails(t, impl.ErrRange)
	}
	one(impl.ThenMaps(2, list(0), 3, list(0))).fails(t, impl.ErrInvalid)
	one(impl.ThenMaps(2, list(0), 3, list(0, 1, 2))).fails(t, impl.ErrInvalid)
	one(impl.ThenMaps(2, nil, 3, nil)).fails(t, impl.ErrInvalid)
}

func TestImageOf(t *testing.T) {
	one(impl.ImageOf(4, list(3, 1, 3))).is(t, list(1, 3))
	one(impl.ImageOf(3, list(2, 1, 0, 1))).is(t, list(0, 1, 2))
	one(impl.ImageOf(0, nil)).is(t, list())
	one(impl.ImageOf(4, list())).is(t, list())
	one(impl.ImageOf(impl.MaxSet, counting(impl.MaxSet))).is(t, counting(impl.MaxSet))
	one(impl.ImageOf(impl.MaxSet, repeat(impl.MaxSet-1, impl.MaxSet))).is(t, list(impl.MaxSet-1))
	checkMapErrors(t, func(n int64, f []int64) result { return one(impl.ImageOf(n, f)) })
}

func TestFibreOf(t *testing.T) {
	one(impl.FibreOf(4, list(3, 1, 3), 3)).is(t, list(0, 2))
	one(impl.FibreOf(4, list(3, 1, 3), 1)).is(t, list(1))
	one(impl.FibreOf(4, list(3, 1, 3), 0)).is(t, list())
	one(impl.FibreOf(1, nil, 0)).is(t, list())
	one(impl.FibreOf(1, repeat(0, impl.MaxSet), 0)).is(t, counting(impl.MaxSet))
	one(impl.FibreOf(impl.MaxSet, counting(impl.MaxSet), impl.MaxSet-1)).is(t, list(impl.MaxSet-1))
	checkMapErrors(t, func(n int64, f []int64) result { return one(impl.FibreOf(n, f, 0)) })
	checkMapErrors(t, func(n int64, f []int64) result { return one(impl.FibreOf(n, f, -1)) })
	for _, y := range list(-1, 4, math.MinInt64, math.MaxInt64) {
		one(impl.FibreOf(4, list(3, 1, 3), y)).fails(t, impl.ErrRange)
	}
	one(impl.FibreOf(0, nil, 0)).fails(t, impl.ErrRange)
}

func TestFactorMap(t *testing.T) {
	two(impl.FactorMap(4, list(3, 1, 3))).is(t, list(1, 0, 1), list(1, 3))
	two(impl.FactorMap(5, list(4, 4, 0, 2))).is(t, list(2, 2, 0, 1), list(0, 2, 4))
	two(impl.FactorMap(0, nil)).is(t, list(), list())
	two(impl.FactorMap(3, list())).is(t, list(), list())
	all := counting(impl.MaxSet)
	two(impl.FactorMap(impl.MaxSet, all)).is(t, all, all)
	checkMapErrors(t, func(n int64, f []int64) result { return two(impl.FactorMap(n, f)) })
}

func TestIsPartition(t *testing.T) {
	for _, c := range []struct {
		label string
		p     []int64
		want  bool
	}{
		{"the example", list(1, 0), false},
		{"nil", nil, true},
		{"an empty list", list(), true},
		{"one class", list(0, 0, 0), true},
		{"three classes", list(0, 1, 0, 2, 1), true},
		{"a number left out", list(0, 2), false},
		{"numbers out of order", list(0, 2, 1), false},
		{"no class 0", list(1, 1), false},
		{"a negative class", list(0, -1), false},
		{"a class far above", list(0, math.MaxInt64), false},
		{"a class far below", list(math.MinInt64), false},
		{"MaxSet classes", counting(impl.MaxSet), true},
		{"MaxSet elements in one class", repeat(0, impl.MaxSet), true},
		{"one class more", counting(impl.MaxSet + 1), false},
		{"one element more", repeat(0, impl.MaxSet+1), false},
	} {
		expect(t, c.label, impl.IsPartition(c.p), c.want)
	}
}

func TestKernelOf(t *testing.T) {
	one(impl.KernelOf(4, list(3, 1, 3))).is(t, list(0, 1, 0))
	one(impl.KernelOf(9, list(8, 8, 2, 5, 2, 8))).is(t, list(0, 0, 1, 2, 1, 0))
	one(impl.KernelOf(0, nil)).is(t, list())
	one(impl.KernelOf(2, list())).is(t, list())
	backwards := counting(impl.MaxSet)
	slices.Reverse(backwards)
	one(impl.KernelOf(impl.MaxSet, backwards)).is(t, counting(impl.MaxSet))
	checkMapErrors(t, func(n int64, f []int64) result { return one(impl.KernelOf(n, f)) })
}

func TestJoinPairs(t *testing.T) {
	one(impl.JoinPairs(4, lists(list(3, 1)))).is(t, list(0, 1, 2, 1))
	one(impl.JoinPairs(6, lists(list(4, 5), list(1, 2), list(5, 1)))).is(t, list(0, 1, 1, 2, 1, 1))
	one(impl.JoinPairs(3, lists(list(1, 1), list(2, 0), list(0, 2)))).is(t, list(0, 1, 0))
	one(impl.JoinPairs(0, nil)).is(t, list())
	one(impl.JoinPairs(3, lists())).is(t, list(0, 1, 2))
	var chain [][]int64
	for x := int64(impl.MaxSet - 1); x > 0; x-- {
		chain = append(chain, list(x-1, x))
	}
	one(impl.JoinPairs(impl.MaxSet, chain)).is(t, repeat(0, impl.MaxSet))
	one(impl.JoinPairs(impl.MaxSet, slices.Concat(chain, chain, chain))).is(t, repeat(0, impl.MaxSet))
}

func TestJoinPairsErrors(t *testing.T) {
	for _, n := range noSizes() {
		one(impl.JoinPairs(n, nil)).fails(t, impl.ErrRange)
		one(impl.JoinPairs(n, lists(list(0)))).fails(t, impl.ErrRange)
	}
	good := list(0, 1)
	for _, bad := range [][]int64{nil, list(), list(0), list(0, 1, 1), list(2, 0), list(0, 2), list(-1, 0), list(0, -1), list(math.MaxInt64, math.MinInt64)} {
		one(impl.JoinPairs(2, lists(bad))).fails(t, impl.ErrInvalid)
		one(impl.JoinPairs(2, lists(good, bad))).fails(t, impl.ErrInvalid)
		one(impl.JoinPairs(2, lists(bad, good))).fails(t, impl.ErrInvalid)
	}
	one(impl.JoinPairs(0, lists(list(0, 0)))).fails(t, impl.ErrInvalid)
}

func TestMeetPartitions(t *testing.T) {
	one(impl.MeetPartitions(list(0, 0, 1, 1), list(0, 1, 1, 1))).is(t, list(0, 1, 2, 2))
	one(impl.MeetPartitions(list(0, 0, 0), list(0, 1, 0))).is(t, list(0, 1, 0))
	one(impl.MeetPartitions(list(0, 1, 2), list(0, 0, 0))).is(t, list(0, 1, 2))
	one(impl.MeetPartitions(nil, list())).is(t, list())
	all, joined := counting(impl.MaxSet), repeat(0, impl.MaxSet)
	one(impl.MeetPartitions(all, all)).is(t, all)
	one(impl.MeetPartitions(all, joined)).is(t, all)
	one(impl.MeetPartitions(joined, all)).is(t, all)
	one(impl.MeetPartitions(joined, joined)).is(t, joined)
	checkPartitionErrors(t, func(p, q []int64) result { return one(impl.MeetPartitions(p, q)) })
}

func TestJoinPartitions(t *testing.T) {
	one(impl.JoinPartitions(list(0, 0, 1, 1), list(0, 1, 1, 2))).is(t, list(0, 0, 0, 0))
	one(impl.JoinPartitions(list(0, 0, 1, 2), list(0, 1, 2, 2))).is(t, list(0, 0, 1, 1))
	one(impl.JoinPartitions(list(0, 1, 2), list(0, 1, 0))).is(t, list(0, 1, 0))
	one(impl.JoinPartitions(list(), nil)).is(t, list())
	all, joined := counting(impl.MaxSet), repeat(0, impl.MaxSet)
	one(impl.JoinPartitions(all, all)).is(t, all)
	one(impl.JoinPartitions(all, joined)).is(t, joined)
	one(impl.JoinPartitions(joined, all)).is(t, joined)
	checkPartitionErrors(t, func(p, q []int64) result { return one(impl.JoinPartitions(p, q)) })
}

func TestEqualizerOf(t *testing.T) {
	one(impl.EqualizerOf(3, list(0, 1, 2), list(0, 2, 2))).is(t, list(0, 2))
	one(impl.EqualizerOf(2, list(0, 1), list(1, 0))).is(t, list())
	one(impl.EqualizerOf(0, nil, list())).is(t, list())
	one(impl.EqualizerOf(7, nil, nil)).is(t, list())
	one(impl.EqualizerOf(1, repeat(0, impl.MaxSet), repeat(0, impl.MaxSet))).is(t, counting(impl.MaxSet))
	checkParallelErrors(t, func(n int64, f, g []int64) result { return one(impl.EqualizerOf(n, f, g)) })
}

func TestCoequalizerOf(t *testing.T) {
	one(impl.CoequalizerOf(3, list(0, 1, 2), list(0, 2, 2))).is(t, list(0, 1, 1))
	one(impl.CoequalizerOf(5, list(4, 1), list(1, 3))).is(t, list(0, 1, 2, 1, 1))
	one(impl.CoequalizerOf(0, nil, list())).is(t, list())
	one(impl.CoequalizerOf(3, nil, nil)).is(t, list(0, 1, 2))
	one(impl.CoequalizerOf(impl.MaxSet, counting(impl.MaxSet), repeat(0, impl.MaxSet))).is(t, repeat(0, impl.MaxSet))
	checkParallelErrors(t, func(n int64, f, g []int64) result { return one(impl.CoequalizerOf(n, f, g)) })
}

func TestPullbackOf(t *testing.T) {
	one(impl.PullbackOf(2, list(0, 1), list(1, 1))).is(t, lists(list(1, 0), list(1, 1)))
	one(impl.PullbackOf(3, list(2, 0, 2), list(2, 0))).is(t, lists(list(0, 0), list(1, 1), list(2, 0)))
	one(impl.PullbackOf(2, list(0), list(1))).is(t, lists())
	one(impl.PullbackOf(0, nil, list())).is(t, lists())
	one(impl.PullbackOf(1, repeat(0, impl.MaxSet), nil)).is(t, lists())
	checkMapErrors(t, func(n int64, f []int64) result { return one(impl.PullbackOf(n, f, nil)) })
	checkMapErrors(t, func(n int64, g []int64) result { return one(impl.PullbackOf(n, nil, g)) })
}

func TestPullbackOfLimit(t *testing.T) {
	pairs, code := impl.PullbackOf(2, repeat(0, 16), repeat(0, 16))
	if code != impl.ErrNone || len(pairs) != impl.MaxSet {
		t.Errorf("got %d pairs with code %d, want MaxSet pairs", len(pairs), code)
	}
	for i, pair := range pairs {
		one(pair, code).is(t, list(int64(i/16), int64(i%16)))
	}
	diagonal, code := impl.PullbackOf(impl.MaxSet, counting(impl.MaxSet), counting(impl.MaxSet))
	if code != impl.ErrNone || len(diagonal) != impl.MaxSet {
		t.Errorf("got %d pairs with code %d, want MaxSet pairs", len(diagonal), code)
	}
	oneMore := append(repeat(0, 16), 1)
	one(impl.PullbackOf(2, oneMore, oneMore)).fails(t, impl.ErrLimit)
	one(impl.PullbackOf(1, repeat(0, impl.MaxSet), repeat(0, impl.MaxSet))).fails(t, impl.ErrLimit)
	one(impl.PullbackOf(2, repeat(0, impl.MaxSet), append(repeat(0, 16), 2))).fails(t, impl.ErrInvalid)
}

func TestPushoutOf(t *testing.T) {
	one(impl.PushoutOf(2, list(0), 2, list(1))).is(t, list(0, 1, 2, 0))
	one(impl.PushoutOf(3, list(0, 2), 2, list(1, 1))).is(t, list(0, 1, 0, 2, 0))
	one(impl.PushoutOf(0, nil, 0, nil)).is(t, list())
	one(impl.PushoutOf(0, list(), 2, nil)).is(t, list(0, 1))
	one(impl.PushoutOf(2, nil, 0, nil)).is(t, list(0, 1))
	one(impl.PushoutOf(2, nil, 1, list())).is(t, list(0, 1, 2))
	one(impl.PushoutOf(impl.MaxSet, nil, 0, nil)).is(t, counting(impl.MaxSet))
	one(impl.PushoutOf(0, nil, impl.MaxSet, nil)).is(t, counting(impl.MaxSet))
	half := counting(impl.MaxSet / 2)
	one(impl.PushoutOf(impl.MaxSet/2, half, impl.MaxSet/2, half)).is(t, slices.Concat(half, half))
}

func TestPushoutOfErrors(t *testing.T) {
	checkMapErrors(t, func(n int64, f []int64) result {
		return one(impl.PushoutOf(n, f, 1, make([]int64, len(f))))
	})
	checkMapErrors(t, func(k int64, g []int64) result {
		return one(impl.PushoutOf(1, make([]int64, len(g)), k, g))
	})
	for _, n := range noSizes() {
		one(impl.PushoutOf(2, list(2), n, list(0))).fails(t, impl.ErrRange)
		one(impl.PushoutOf(n, list(0), 2, list(2))).fails(t, impl.ErrRange)
	}
	one(impl.PushoutOf(2, list(0), 2, nil)).fails(t, impl.ErrInvalid)
	one(impl.PushoutOf(2, nil, 2, list(0))).fails(t, impl.ErrInvalid)
	one(impl.PushoutOf(impl.MaxSet, list(0), 1, nil)).fails(t, impl.ErrInvalid)
	one(impl.PushoutOf(impl.MaxSet, list(impl.MaxSet), 1, list(0))).fails(t, impl.ErrInvalid)
	one(impl.PushoutOf(impl.MaxSet, list(0), 1, list(1))).fails(t, impl.ErrInvalid)
	one(impl.PushoutOf(impl.MaxSet, list(0), 1, list(0))).fails(t, impl.ErrLimit)
	one(impl.PushoutOf(1, nil, impl.MaxSet, nil)).fails(t, impl.ErrLimit)
	one(impl.PushoutOf(impl.MaxSet, nil, impl.MaxSet, nil)).fails(t, impl.ErrLimit)
}

// mostSizes has exactly MaxCount tuples, and overSizes the next number of tuples that is a product
// of sizes: 1000000001763.
func mostSizes() []int64 { return repeat(100, 6) }

func overSizes() []int64 { return list(3, 3, 7, 31, 107, 139, 173, 199) }

// wrapSizes has 2 to the power of 64 tuples, which is 0 in an int64.
func wrapSizes() []int64 { return repeat(impl.MaxSet, 8) }

func TestTupleNumber(t *testing.T) {
	one(impl.TupleNumber(list(2, 3), list(1, 2))).is(t, 5)
	one(impl.TupleNumber(list(2, 3), list(1, 0))).is(t, 3)
	one(impl.TupleNumber(list(4, 3, 5), list(2, 1, 4))).is(t, 39)
	one(impl.TupleNumber(nil, nil)).is(t, 0)
	one(impl.TupleNumber(list(), nil)).is(t, 0)
	one(impl.TupleNumber(list(impl.MaxSet), list(impl.MaxSet-1))).is(t, impl.MaxSet-1)
	one(impl.TupleNumber(mostSizes(), repeat(99, 6))).is(t, impl.MaxCount-1)
	one(impl.TupleNumber(mostSizes(), repeat(0, 6))).is(t, 0)
	// The document limits the sizes, not how many there are.
	one(impl.TupleNumber(repeat(1, impl.MaxSet+1), repeat(0, impl.MaxSet+1))).is(t, 0)
}

func TestTupleNumberErrors(t *testing.T) {
	for _, size := range noSizes() {
		one(impl.TupleNumber(list(size), list(0))).fails(t, impl.ErrRange)
		one(impl.TupleNumber(list(2, size), list(2, 0))).fails(t, impl.ErrRange)
		one(impl.TupleNumber(list(0, size), nil)).fails(t, impl.ErrRange)
		one(impl.TupleNumber(append(overSizes(), size), nil)).fails(t, impl.ErrRange)
	}
	for _, bad := range [][]int64{nil, list(1), list(0, 0, 0), list(2, 0), list(0, 3), list(-1, 0), list(0, -1), list(math.MaxInt64, 0), list(0, math.MinInt64)} {
		one(impl.TupleNumber(list(2, 3), bad)).fails(t, impl.ErrInvalid)
	}
	one(impl.TupleNumber(nil, list(0))).fails(t, impl.ErrInvalid)
	one(impl.TupleNumber(list(0), list(0))).fails(t, impl.ErrInvalid)
	one(impl.TupleNumber(list(0), nil)).fails(t, impl.ErrInvalid)
	one(impl.TupleNumber(list(2, 0), list(0, 0))).fails(t, impl.ErrInvalid)
	one(impl.TupleNumber(append(overSizes(), 0), repeat(0, 9))).fails(t, impl.ErrInvalid)
	one(impl.TupleNumber(overSizes(), repeat(0, 7))).fails(t, impl.ErrInvalid)
	one(impl.TupleNumber(overSizes(), repeat(3, 8))).fails(t, impl.ErrInvalid)
	one(impl.TupleNumber(overSizes(), repeat(0, 8))).fails(t, impl.ErrLimit)
	one(impl.TupleNumber(wrapSizes(), repeat(0, 8))).fails(t, impl.ErrLimit)
	one(impl.TupleNumber(repeat(2, 64), repeat(1, 64))).fails(t, impl.ErrLimit)
}

func TestTupleAt(t *testing.T) {
	one(impl.TupleAt(list(2, 3), 4)).is(t, list(1, 1))
	one(impl.TupleAt(list(2, 3), 0)).is(t, list(0, 0))
	one(impl.TupleAt(list(2, 3), 5)).is(t, list(1, 2))
	one(impl.TupleAt(list(4, 3, 5), 39)).is(t, list(2, 1, 4))
	one(impl.TupleAt(nil, 0)).is(t, list())
	one(impl.TupleAt(list(), 0)).is(t, list())
	one(impl.TupleAt(list(impl.MaxSet), impl.MaxSet-1)).is(t, list(impl.MaxSet-1))
	one(impl.TupleAt(mostSizes(), impl.MaxCount-1)).is(t, repeat(99, 6))
	one(impl.TupleAt(mostSizes(), 0)).is(t, repeat(0, 6))
	// The document limits the sizes, not how many there are.
	one(impl.TupleAt(repeat(1, impl.MaxSet+1), 0)).is(t, repeat(0, impl.MaxSet+1))
}

func TestTupleAtErrors(t *testing.T) {
	for _, size := range noSizes() {
		one(impl.TupleAt(list(size), 0)).fails(t, impl.ErrRange)
		one(impl.TupleAt(list(0, size), -1)).fails(t, impl.ErrRange)
		one(impl.TupleAt(append(overSizes(), size), -1)).fails(t, impl.ErrRange)
	}
	one(impl.TupleAt(overSizes(), 0)).fails(t, impl.ErrLimit)
	one(impl.TupleAt(overSizes(), -1)).fails(t, impl.ErrLimit)
	one(impl.TupleAt(wrapSizes(), 0)).fails(t, impl.ErrLimit)
	one(impl.TupleAt(repeat(2, 64), math.MaxInt64)).fails(t, impl.ErrLimit)
	for _, number := range list(-1, 6, math.MinInt64, math.MaxInt64) {
		one(impl.TupleAt(list(2, 3), number)).fails(t, impl.ErrNotFound)
	}
	one(impl.TupleAt(mostSizes(), impl.MaxCount)).fails(t, impl.ErrNotFound)
	one(impl.TupleAt(nil, 1)).fails(t, impl.ErrNotFound)
	one(impl.TupleAt(nil, -1)).fails(t, impl.ErrNotFound)
	one(impl.TupleAt(list(0), 0)).fails(t, impl.ErrNotFound)
	one(impl.TupleAt(list(2, 0, 3), 0)).fails(t, impl.ErrNotFound)
	one(impl.TupleAt(append(overSizes(), 0), 0)).fails(t, impl.ErrNotFound)
}

func TestSetsMemory(t *testing.T) {
	single := func(call func(g *guard) ([]int64, int64)) func(*guard) [][]int64 {
		return func(g *guard) [][]int64 {
			made, _ := call(g)
			return lists(made)
		}
	}
	for label, call := range map[string]func(g *guard) [][]int64{
		"ThenMaps": single(func(g *guard) ([]int64, int64) { return impl.ThenMaps(2, g.list(1, 0, 1), 3, g.list(2, 0)) }),
		"ImageOf":  single(func(g *guard) ([]int64, int64) { return impl.ImageOf(4, g.list(3, 1, 3)) }),
		"FibreOf":  single(func(g *guard) ([]int64, int64) { return impl.FibreOf(4, g.list(3, 1, 3), 3) }),
		"FactorMap": func(g *guard) [][]int64 {
			q, i, _ := impl.FactorMap(4, g.list(3, 1, 3))
			return lists(q, i)
		},
		"FactorMap of an identity": func(g *guard) [][]int64 {
			q, i, _ := impl.FactorMap(3, g.list(0, 1, 2))
			return lists(q, i)
		},
		"IsMap": func(g *guard) [][]int64 {
			impl.IsMap(4, g.list(3, 1, 3))
			return nil
		},
		"IsPartition": func(g *guard) [][]int64 {
			impl.IsPartition(g.list(0, 1, 0))
			return nil
		},
		"KernelOf": single(func(g *guard) ([]int64, int64) { return impl.KernelOf(4, g.list(3, 1, 3)) }),
		"JoinPairs": single(func(g *guard) ([]int64, int64) {
			return impl.JoinPairs(4, lists(g.list(3, 1), g.list(1, 1)))
		}),
		"MeetPartitions":   single(func(g *guard) ([]int64, int64) { return impl.MeetPartitions(g.list(0, 1), g.list(0, 1)) }),
		"JoinPartitions":   single(func(g *guard) ([]int64, int64) { return impl.JoinPartitions(g.list(0, 1), g.list(0, 1)) }),
		"EqualizerOf":      single(func(g *guard) ([]int64, int64) { return impl.EqualizerOf(2, g.list(0, 1), g.list(0, 1)) }),
		"CoequalizerOf":    single(func(g *guard) ([]int64, int64) { return impl.CoequalizerOf(2, g.list(0, 1), g.list(0, 0)) }),
		"PullbackOf":       func(g *guard) [][]int64 { p, _ := impl.PullbackOf(2, g.list(0, 0), g.list(0, 0)); return p },
		"PushoutOf":        single(func(g *guard) ([]int64, int64) { return impl.PushoutOf(2, g.list(0), 2, g.list(1)) }),
		"TupleAt":          single(func(g *guard) ([]int64, int64) { return impl.TupleAt(g.list(2, 3), 4) }),
		"TupleAt, nothing": single(func(g *guard) ([]int64, int64) { return impl.TupleAt(g.list(), 0) }),
		"TupleNumber": func(g *guard) [][]int64 {
			impl.TupleNumber(g.list(2, 3), g.list(1, 2))
			return nil
		},
	} {
		checkMemory(t, label, call)
	}
}
