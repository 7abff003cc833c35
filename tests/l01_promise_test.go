package tests

import (
	"slices"
	"testing"

	"loop.example/g01083/impl"
)

// allMaps lists all maps from m elements to n elements.
func allMaps(m, n int64) [][]int64 {
	if m == 0 {
		return lists(nil)
	}
	var all [][]int64
	for _, shorter := range allMaps(m-1, n) {
		for y := range n {
			all = append(all, append(slices.Clone(shorter), y))
		}
	}
	return all
}

// allPartitions lists all partitions of m elements.
func allPartitions(m int64) [][]int64 {
	if m == 0 {
		return lists(nil)
	}
	var all [][]int64
	for _, shorter := range allPartitions(m - 1) {
		classes := int64(0)
		for _, class := range shorter {
			classes = max(classes, class+1)
		}
		for class := range classes + 1 {
			all = append(all, append(slices.Clone(shorter), class))
		}
	}
	return all
}

func isFiner(p, q []int64) bool {
	for x := range p {
		for y := range p {
			if p[x] == p[y] && q[x] != q[y] {
				return false
			}
		}
	}
	return true
}

// checkFinest checks that p is the finest partition of n elements that glues every pair.
func checkFinest(t *testing.T, p []int64, code, n int64, pairs [][]int64) {
	t.Helper()
	if code != impl.ErrNone || int64(len(p)) != n || !impl.IsPartition(p) {
		t.Fatalf("got %v with code %d, want a partition of %d elements", p, code, n)
	}
	glues := func(q []int64) bool {
		return !slices.ContainsFunc(pairs, func(pair []int64) bool { return q[pair[0]] != q[pair[1]] })
	}
	if !glues(p) {
		t.Fatalf("%v does not glue %v", p, pairs)
	}
	for _, q := range allPartitions(n) {
		if glues(q) && !isFiner(p, q) {
			t.Fatalf("%v glues %v, but so does %v", p, pairs, q)
		}
	}
}

func TestPromise1MapIsQuotientThenImage(t *testing.T) {
	for m := range int64(5) {
		for n := range int64(5) {
			for _, f := range allMaps(m, n) {
				checkFactors(t, n, f)
			}
		}
	}
}

func checkFactors(t *testing.T, n int64, f []int64) {
	t.Helper()
	q, i, code := impl.FactorMap(n, f)
	k := int64(len(i))
	one(impl.ThenMaps(k, q, n, i)).is(t, f)
	one(impl.ImageOf(n, f)).is(t, i)
	one(impl.ImageOf(k, q)).is(t, counting(k))
	if code != impl.ErrNone || !slices.IsSorted(i) || len(slices.Compact(slices.Clone(i))) != len(i) {
		t.Errorf("FactorMap of %v gives the image %v with code %d", f, i, code)
	}
	kernel, code := impl.KernelOf(n, f)
	if code != impl.ErrNone || !impl.IsPartition(kernel) || !isFiner(kernel, f) || !isFiner(f, kernel) {
		t.Errorf("KernelOf(%v) = %v with code %d", f, kernel, code)
	}
	for y := range n {
		var fibre []int64
		for x, image := range f {
			if image == y {
				fibre = append(fibre, int64(x))
			}
		}
		one(impl.FibreOf(n, f, y)).is(t, fibre)
	}
}

func TestPromise1PullbacksHaveAllPairs(t *testing.T) {
	for n := range int64(4) {
		for shape := range int64(16) {
			sizes := list(shape/4, shape%4)
			for _, f := range allMaps(sizes[0], n) {
				for _, g := range allMaps(sizes[1], n) {
					checkPullback(t, n, f, g, sizes)
				}
			}
		}
	}
}

func checkPullback(t *testing.T, n int64, f, g, sizes []int64) {
	t.Helper()
	var want [][]int64
	for number := range sizes[0] * sizes[1] {
		pair, code := impl.TupleAt(sizes, number)
		if code != impl.ErrNone || len(pair) != 2 {
			t.Fatalf("TupleAt(%v, %d) = %v with code %d", sizes, number, pair, code)
		}
		if f[pair[0]] == g[pair[1]] {
			want = append(want, pair)
		}
	}
	one(impl.PullbackOf(n, f, g)).is(t, want)
}

func TestPromise1PushoutsGlueNoMore(t *testing.T) {
	for m := range int64(4) {
		for shape := range int64(16) {
			n, k := shape/4, shape%4
			for _, f := range allMaps(m, n) {
				for _, g := range allMaps(m, k) {
					var pairs [][]int64
					for x := range f {
						pairs = append(pairs, list(f[x], n+g[x]))
					}
					p, code := impl.PushoutOf(n, f, k, g)
					checkFinest(t, p, code, n+k, pairs)
				}
			}
		}
	}
}

func TestParallelMapsByDefinition(t *testing.T) {
	for m := range int64(4) {
		for n := range int64(5) {
			for _, f := range allMaps(m, n) {
				for _, g := range allMaps(m, n) {
					checkParallelMaps(t, n, f, g)
				}
			}
		}
	}
}

func checkParallelMaps(t *testing.T, n int64, f, g []int64) {
	t.Helper()
	var equal []int64
	var pairs [][]int64
	for x := range f {
		if f[x] == g[x] {
			equal = append(equal, int64(x))
		}
		pairs = append(pairs, list(f[x], g[x]))
	}
	one(impl.EqualizerOf(n, f, g)).is(t, equal)
	p, code := impl.CoequalizerOf(n, f, g)
	checkFinest(t, p, code, n, pairs)
	p, code = impl.JoinPairs(n, pairs)
	checkFinest(t, p, code, n, pairs)
}

func TestPartitionsByDefinition(t *testing.T) {
	for m := range int64(6) {
		for _, p := range allPartitions(m) {
			expect(t, show([]any{p}), impl.IsPartition(p), true)
			for _, q := range allPartitions(m) {
				checkMeetAndJoin(t, p, q)
			}
		}
	}
}

func checkMeetAndJoin(t *testing.T, p, q []int64) {
	t.Helper()
	var pairs [][]int64
	both := func(x, y int) bool { return p[x] == p[y] && q[x] == q[y] }
	meet, code := impl.MeetPartitions(p, q)
	if code != impl.ErrNone || len(meet) != len(p) || !impl.IsPartition(meet) {
		t.Fatalf("MeetPartitions(%v, %v) = %v with code %d", p, q, meet, code)
	}
	for x := range p {
		for y := range p {
			if both(x, y) != (meet[x] == meet[y]) {
				t.Fatalf("MeetPartitions(%v, %v) = %v", p, q, meet)
			}
			if p[x] == p[y] || q[x] == q[y] {
				pairs = append(pairs, list(int64(x), int64(y)))
			}
		}
	}
	join, code := impl.JoinPartitions(p, q)
	checkFinest(t, join, code, int64(len(p)), pairs)
}

func TestListsThatAreNoPartitions(t *testing.T) {
	for m := range int64(5) {
		proper := allPartitions(m)
		for _, p := range allMaps(m, m+1) {
			want := slices.ContainsFunc(proper, func(q []int64) bool { return slices.Equal(p, q) })
			expect(t, show([]any{p}), impl.IsPartition(p), want)
		}
	}
}

func TestTuplesInAscendingOrder(t *testing.T) {
	for _, sizes := range [][]int64{nil, list(1), list(5), list(2, 3), list(3, 1, 4), list(2, 2, 2, 2), list(3, 0, 2)} {
		count := int64(1)
		for _, size := range sizes {
			count *= size
		}
		var before []int64
		for number := range count {
			tuple, code := impl.TupleAt(sizes, number)
			one(impl.TupleNumber(sizes, tuple)).is(t, number)
			if code != impl.ErrNone || number > 0 && slices.Compare(before, tuple) >= 0 {
				t.Errorf("TupleAt(%v, %d) = %v with code %d, behind %v", sizes, number, tuple, code, before)
			}
			before = tuple
		}
		one(impl.TupleAt(sizes, count)).fails(t, impl.ErrNotFound)
	}
}
