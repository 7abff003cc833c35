// Package impl is a workbench of finite categories that are given by tables of composites. It has
// one file for each chapter of its document.
package impl

import "slices"

// The error codes of all chapters.
const (
	ErrNone = iota
	ErrInvalid
	ErrRange
	ErrLimit
	ErrNotFound
	ErrState
	ErrSyntax
)

// Limits of chapter 1.
const (
	MaxSet   = 256
	MaxCount = 1000000000000
)

// partition gives the number of the class of each element; a proper one numbers the classes in the
// order of their least elements.
type partition []int64

func (p partition) isProper() bool {
	classes := int64(0)
	for _, class := range p {
		if class < 0 || class > classes {
			return false
		}
		if class == classes {
			classes++
		}
	}
	return true
}

// leasts returns the least element of each class of a proper partition.
func (p partition) leasts() []int64 {
	var least []int64
	for x, class := range p {
		if class == int64(len(least)) {
			least = append(least, int64(x))
		}
	}
	return least
}

// partitionBy puts elements with equal labels into one class.
func partitionBy[L comparable](labels []L) partition {
	numbers := map[L]int64{}
	p := make(partition, len(labels))
	for x, label := range labels {
		number, seen := numbers[label]
		if !seen {
			number = int64(len(numbers))
			numbers[label] = number
		}
		p[x] = number
	}
	return p
}

// leaders is a partition whose classes are being joined: each element leads to a smaller one of its
// class, and only the least one of the class leads to itself.
type leaders []int64

// counting returns the numbers 0, 1, .., n - 1.
func counting(n int64) []int64 {
	numbers := make([]int64, n)
	for i := range numbers {
		numbers[i] = int64(i)
	}
	return numbers
}

// newLeaders starts with each of n elements in a class of its own.
func newLeaders(n int64) leaders { return counting(n) }

func (l leaders) leader(x int64) int64 {
	for l[x] != x {
		// Halving the way keeps long chains of joins fast.
		l[x] = l[l[x]]
		x = l[x]
	}
	return x
}

func (l leaders) join(x, y int64) {
	x, y = l.leader(x), l.leader(y)
	l[max(x, y)] = min(x, y)
}

// joinClasses joins the elements of each class of a proper partition.
func (l leaders) joinClasses(p partition) {
	least := p.leasts()
	for x, class := range p {
		l.join(int64(x), least[class])
	}
}

func (l leaders) classes() partition {
	labels := make([]int64, len(l))
	for x := range l {
		labels[x] = l.leader(int64(x))
	}
	return partitionBy(labels)
}

// imagesOf returns the images of the numbers in a list.
func imagesOf(list, images []int64) []int64 {
	found := make([]int64, len(list))
	for i, number := range list {
		found[i] = images[number]
	}
	return found
}

func isSetSize(n int64) bool { return 0 <= n && n <= MaxSet }

// checkMap returns the error that a function of n and f returns before those of its section.
func checkMap(n int64, f []int64) int64 {
	if !isSetSize(n) {
		return ErrRange
	}
	if !IsMap(n, f) {
		return ErrInvalid
	}
	return ErrNone
}

// checkParallel is checkMap for two maps from one set.
func checkParallel(n int64, f, g []int64) int64 {
	if code := checkMap(n, f); code != ErrNone {
		return code
	}
	if !IsMap(n, g) || len(f) != len(g) {
		return ErrInvalid
	}
	return ErrNone
}

func areOnOneSet(p, q []int64) bool {
	return IsPartition(p) && IsPartition(q) && len(p) == len(q)
}

// IsMap reports whether n and the length of f are numbers of elements and f is a map to a set of n
// elements.
func IsMap(n int64, f []int64) bool {
	if !isSetSize(n) || len(f) > MaxSet {
		return false
	}
	for _, image := range f {
		if image < 0 || image >= n {
			return false
		}
	}
	return true
}

// ThenMaps returns f then g for a map f to a set of n elements and a map g from this set to one of
// k elements, and ErrNone.
func ThenMaps(n int64, f []int64, k int64, g []int64) ([]int64, int64) {
	if !isSetSize(n) || !isSetSize(k) {
		return nil, ErrRange
	}
	if !IsMap(n, f) || !IsMap(k, g) || int64(len(g)) != n {
		return nil, ErrInvalid
	}
	return imagesOf(f, g), ErrNone
}

// ImageOf returns all images of elements under f, in ascending order, each once, and ErrNone.
func ImageOf(n int64, f []int64) ([]int64, int64) {
	if code := checkMap(n, f); code != ErrNone {
		return nil, code
	}
	image := slices.Clone(f)
	slices.Sort(image)
	return slices.Compact(image), ErrNone
}

// FibreOf returns all elements with the image y, in ascending order, and ErrNone. Errors:
// ErrRange, last, if y is not in 0..n-1.
func FibreOf(n int64, f []int64, y int64) ([]int64, int64) {
	if code := checkMap(n, f); code != ErrNone {
		return nil, code
	}
	if y < 0 || y >= n {
		return nil, ErrRange
	}
	var fibre []int64
	for x, image := range f {
		if image == y {
			fibre = append(fibre, int64(x))
		}
	}
	return fibre, ErrNone
}

// FactorMap returns a map q onto a set with as many elements as the image has, and the map i from
// it to the set of n elements whose images are ascending, such that f is q then i, and ErrNone.
func FactorMap(n int64, f []int64) ([]int64, []int64, int64) {
	image, code := ImageOf(n, f)
	if code != ErrNone {
		return nil, nil, code
	}
	quotient := make([]int64, len(f))
	for x, y := range f {
		place, _ := slices.BinarySearch(image, y)
		quotient[x] = int64(place)
	}
	return quotient, image, ErrNone
}

// IsPartition reports whether p is a partition of a set with at most MaxSet elements.
func IsPartition(p []int64) bool {
	return len(p) <= MaxSet && partition(p).isProper()
}

// KernelOf returns the partition in which two elements are in one class exactly if they have the
// same image under f, and ErrNone.
func KernelOf(n int64, f []int64) ([]int64, int64) {
	if code := checkMap(n, f); code != ErrNone {
		return nil, code
	}
	return partitionBy(f), ErrNone
}

// JoinPairs returns the finest partition of a set of n elements in which the two elements of each
// pair are in one class, and ErrNone. Errors: ErrInvalid if a pair does not have two elements of
// the set.
func JoinPairs(n int64, pairs [][]int64) ([]int64, int64) {
	if !isSetSize(n) {
		return nil, ErrRange
	}
	joined := newLeaders(n)
	for _, pair := range pairs {
		if len(pair) != 2 || !IsMap(n, pair) {
			return nil, ErrInvalid
		}
		joined.join(pair[0], pair[1])
	}
	return joined.classes(), ErrNone
}

// MeetPartitions returns the partition in which two elements are in one class exactly if they are
// in both partitions, and ErrNone. Errors: ErrInvalid also if they have different lengths.
func MeetPartitions(p []int64, q []int64) ([]int64, int64) {
	if !areOnOneSet(p, q) {
		return nil, ErrInvalid
	}
	both := make([]pairOf[int64, int64], len(p))
	for x := range p {
		both[x] = pairOf[int64, int64]{p[x], q[x]}
	}
	return partitionBy(both), ErrNone
}

// JoinPartitions returns the finest partition in which two elements are in one class if they are
// in p or in q, and ErrNone. Errors: as for MeetPartitions.
func JoinPartitions(p []int64, q []int64) ([]int64, int64) {
	if !areOnOneSet(p, q) {
		return nil, ErrInvalid
	}
	joined := newLeaders(int64(len(p)))
	joined.joinClasses(p)
	joined.joinClasses(q)
	return joined.classes(), ErrNone
}

// EqualizerOf returns all elements with the same image under two maps from one set, in ascending
// order, and ErrNone. Errors: ErrInvalid also if the maps have different lengths.
func EqualizerOf(n int64, f []int64, g []int64) ([]int64, int64) {
	if code := checkParallel(n, f, g); code != ErrNone {
		return nil, code
	}
	var equal []int64
	for x := range f {
		if f[x] == g[x] {
			equal = append(equal, int64(x))
		}
	}
	return equal, ErrNone
}

// CoequalizerOf returns the finest partition of the set of n elements in which f(x) and g(x) are
// in one class for each x, and ErrNone. Errors: as for EqualizerOf.
func CoequalizerOf(n int64, f []int64, g []int64) ([]int64, int64) {
	if code := checkParallel(n, f, g); code != ErrNone {
		return nil, code
	}
	joined := newLeaders(n)
	for x := range f {
		joined.join(f[x], g[x])
	}
	return joined.classes(), ErrNone
}

// PullbackOf returns all pairs of an element of the source of f and one of the source of g with
// the same image, in ascending order, and ErrNone. Errors: ErrLimit if there are more than MaxSet.
func PullbackOf(n int64, f []int64, g []int64) ([][]int64, int64) {
	if code := checkMap(n, f); code != ErrNone {
		return nil, code
	}
	if !IsMap(n, g) {
		return nil, ErrInvalid
	}
	var pairs [][]int64
	for x := range f {
		for y := range g {
			if f[x] != g[y] {
				continue
			}
			if len(pairs) == MaxSet {
				return nil, ErrLimit
			}
			pairs = append(pairs, []int64{int64(x), int64(y)})
		}
	}
	return pairs, ErrNone
}

// PushoutOf returns, for maps f and g from one set to sets of n and of k elements, the finest
// partition of the elements 0, .., n - 1 of the first one followed by those of the second one, as
// n, .., n + k - 1, in which f(x) and n + g(x) are in one class for each x; and ErrNone. Errors:
// ErrInvalid also if the maps have different lengths; ErrLimit if n + k is greater than MaxSet.
func PushoutOf(n int64, f []int64, k int64, g []int64) ([]int64, int64) {
	if !isSetSize(n) || !isSetSize(k) {
		return nil, ErrRange
	}
	if !IsMap(n, f) || !IsMap(k, g) || len(f) != len(g) {
		return nil, ErrInvalid
	}
	if n+k > MaxSet {
		return nil, ErrLimit
	}
	joined := newLeaders(n + k)
	for x := range f {
		joined.join(f[x], n+g[x])
	}
	return joined.classes(), ErrNone
}

func areSetSizes(sizes []int64) bool {
	for _, size := range sizes {
		if !isSetSize(size) {
			return false
		}
	}
	return true
}

func isTuple(sizes, tuple []int64) bool {
	if len(tuple) != len(sizes) {
		return false
	}
	for i, entry := range tuple {
		if entry < 0 || entry >= sizes[i] {
			return false
		}
	}
	return true
}

// countTuples returns the number of all tuples and true, or 0 and false if there are more than
// MaxCount.
func countTuples(sizes []int64) (int64, bool) {
	// One empty set leaves no tuples, however many the sizes in front of it would make.
	if slices.Contains(sizes, 0) {
		return 0, true
	}
	count := int64(1)
	for _, size := range sizes {
		count *= size
		if count > MaxCount {
			return 0, false
		}
	}
	return count, true
}

// TupleNumber returns the number, from 0 on, of a tuple in the ascending list of all tuples whose
// entries are in 0..sizes[i]-1, and ErrNone. Errors: ErrRange if a size is not in 0..MaxSet;
// ErrInvalid if the tuple is not one of them; ErrLimit if there are more than MaxCount tuples.
func TupleNumber(sizes []int64, tuple []int64) (int64, int64) {
	if !areSetSizes(sizes) {
		return 0, ErrRange
	}
	if !isTuple(sizes, tuple) {
		return 0, ErrInvalid
	}
	if _, counted := countTuples(sizes); !counted {
		return 0, ErrLimit
	}
	number := int64(0)
	for i, entry := range tuple {
		number = number*sizes[i] + entry
	}
	return number, ErrNone
}

// TupleAt returns the tuple with a number, and ErrNone. Errors: ErrRange if a size is not in
// 0..MaxSet; ErrLimit if there are more than MaxCount tuples; ErrNotFound if there is none with
// this number.
func TupleAt(sizes []int64, number int64) ([]int64, int64) {
	if !areSetSizes(sizes) {
		return nil, ErrRange
	}
	count, counted := countTuples(sizes)
	if !counted {
		return nil, ErrLimit
	}
	if number < 0 || number >= count {
		return nil, ErrNotFound
	}
	tuple := make([]int64, len(sizes))
	for i := len(sizes) - 1; i >= 0; i-- {
		tuple[i] = number % sizes[i]
		number /= sizes[i]
	}
	return tuple, ErrNone
}
