package tests

import (
	"fmt"
	"math"
	"reflect"
	"slices"
	"testing"

	"loop.example/g01083/impl"
)

// result is what a function returned: its values, and the code behind them.
type result struct {
	values []any
	code   int64
}

func one[A any](a A, code int64) result { return result{[]any{a}, code} }

func two[A, B any](a A, b B, code int64) result { return result{[]any{a, b}, code} }

func three[A, B, C any](a A, b B, c C, code int64) result { return result{[]any{a, b, c}, code} }

func four[A, B, C, D any](a A, b B, c C, d D, code int64) result {
	return result{[]any{a, b, c, d}, code}
}

// show prints a nil list as an empty one, which is the same value.
func show(values []any) string { return fmt.Sprint(values) }

// is checks for ErrNone and the wanted values.
func (r result) is(t *testing.T, want ...any) {
	t.Helper()
	if r.code != impl.ErrNone || show(r.values) != show(want) {
		t.Errorf("got %v with code %d, want %v with ErrNone", r.values, r.code, want)
	}
}

// fails checks for an error code and zero values beside it.
func (r result) fails(t *testing.T, want int64) {
	t.Helper()
	if r.code != want {
		t.Errorf("got code %d, want %d", r.code, want)
	}
	for _, value := range r.values {
		if zero := reflect.Zero(reflect.TypeOf(value)); fmt.Sprint(value) != fmt.Sprint(zero) {
			t.Errorf("got %v beside code %d, want the zero value", value, r.code)
		}
	}
}

func expect(t *testing.T, label string, got, want bool) {
	t.Helper()
	if got != want {
		t.Errorf("%s: got %v, want %v", label, got, want)
	}
}

func list(values ...int64) []int64 { return values }

func lists(values ...[]int64) [][]int64 { return values }

func repeat(value int64, times int) []int64 { return slices.Repeat(list(value), times) }

// counting returns 0, 1, .., n - 1.
func counting(n int64) []int64 {
	l := make([]int64, n)
	for i := range l {
		l[i] = int64(i)
	}
	return l
}

// noSizes are numbers that are no numbers of elements.
func noSizes() []int64 {
	return list(-1, impl.MaxSet+1, math.MinInt64, math.MaxInt64)
}

// guard hands out lists, and lists of lists, with spare capacity and knows what was in and behind
// them.
type guard struct {
	now, before         [][]int64
	rowsNow, rowsBefore [][][]int64
}

func (g *guard) list(values ...int64) []int64 {
	whole := append(slices.Clone(values), -71, -72, -73)
	g.now = append(g.now, whole)
	g.before = append(g.before, slices.Clone(whole))
	return whole[:len(values)]
}

func (g *guard) rows(values ...[]int64) [][]int64 {
	var whole, before [][]int64
	for _, row := range values {
		whole = append(whole, g.list(row...))
		before = append(before, slices.Clone(row))
	}
	behind := lists(list(-74), list(-75))
	whole = append(whole, behind...)
	g.rowsNow = append(g.rowsNow, whole)
	g.rowsBefore = append(g.rowsBefore, append(before, behind...))
	return whole[:len(values)]
}

func (g *guard) category(c impl.Category) impl.Category {
	return impl.Category{
		Objects: c.Objects, From: g.list(c.From...), To: g.list(c.To...),
		Identity: g.list(c.Identity...), Composites: g.rows(c.Composites...),
	}
}

func (g *guard) check(t *testing.T, label, when string) {
	t.Helper()
	if !reflect.DeepEqual(g.now, g.before) {
		t.Errorf("%s: an argument changed %s: %v is now %v", label, when, g.before, g.now)
	}
	if !reflect.DeepEqual(g.rowsNow, g.rowsBefore) {
		t.Errorf("%s: an argument changed %s: %v is now %v", label, when, g.rowsBefore, g.rowsNow)
	}
}

// checkMemory checks that a call leaves its arguments alone, and that each list of its result can
// be overwritten and extended without a change to an argument or to another list of the result.
func checkMemory(t *testing.T, label string, call func(g *guard) [][]int64) {
	t.Helper()
	g := &guard{}
	made := call(g)
	g.check(t, label, "in the call")
	for i := range made {
		var before, after [][]int64
		for j, other := range made {
			if j != i {
				before = append(before, slices.Clone(other))
			}
		}
		for j := range made[i][:cap(made[i])] {
			made[i][:cap(made[i])][j] = -79
		}
		for j, other := range made {
			if j != i {
				after = append(after, other)
			}
		}
		g.check(t, label, "with the result")
		if fmt.Sprint(before) != fmt.Sprint(after) {
			t.Errorf("%s: lists of the result share memory: %v is now %v", label, before, after)
		}
	}
}
