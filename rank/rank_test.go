package rank

import (
	"math"
	"slices"
	"testing"

	"shunter/api"
	"shunter/trains"
)

func example() api.TrTrains { return api.TrTrains{Lowest: []int{3, 1}, Youngest: []int{5, 0}} }

// The errors that all functions return first.
func TestFirstErrors(t *testing.T) {
	for i, x := range []struct {
		t   api.TrTrains
		car int
		e   api.Errno
	}{{api.TrTrains{Lowest: []int{1, 1}}, 99, api.ErrTwice}, {api.TrTrains{Lowest: []int{24}}, 1, api.ErrRange}, {api.TrTrains{Youngest: make([]int, 25)}, 1, api.ErrLong}, {example(), -2, api.ErrRange}, {example(), 24, api.ErrRange}, {example(), math.MinInt, api.ErrRange}} {
		r, e1 := Of(x.t, x.car)
		n, e2 := Compare(x.t, x.car, 3)
		m, e3 := Compare(x.t, 9, x.car)
		l, e4 := Older(x.t, x.car)
		w, e5 := Waits(x.t, x.car)
		a, e6 := External(x.t, x.car, 3)
		b, e7 := External(x.t, -1, x.car)
		if !slices.Equal([]api.Errno{e1, e2, e3, e4, e5, e6, e7}, slices.Repeat([]api.Errno{x.e}, 7)) || r != (api.RkRank{}) || n+m+w+len(l) != 0 || a || b {
			t.Error(i, e1, e2, e3, e4, e5, e6, e7)
		}
		if i > 2 {
			continue
		}
		ranks, e1 := All(x.t)
		order, e2 := Order(x.t)
		moved, e3 := Moved(x.t, example())
		other, e4 := Moved(example(), x.t)
		if !slices.Equal([]api.Errno{e1, e2, e3, e4}, slices.Repeat([]api.Errno{x.e}, 4)) || len(ranks)+len(order)+len(moved)+len(other) > 0 {
			t.Error(i, e1, e2, e3, e4)
		}
	}
	if _, e := External(example(), 3, -1); e != api.ErrRange {
		t.Error(e)
	}
	if _, e := Of(example(), -1); e != api.ErrRange {
		t.Error(e)
	}
}

// P12.1
func TestOfAllOrder(t *testing.T) {
	all, e := All(example())
	if len(all) != 24 || e != api.OK {
		t.Error(all, e)
	}
	for car, want := range map[int]api.RkRank{3: {}, 1: {Place: 1}, 5: {Train: 1}, 0: {Train: 1, Place: 1}, 9: {Train: -1, Place: -1}} {
		if r, e := Of(example(), car); r != want || e != api.OK || all[car] != want {
			t.Error(car, r, e)
		}
	}
	if l, e := Order(example()); !slices.Equal(l, []int{3, 1, 5, 0}) || e != api.OK {
		t.Error(l, e)
	}
}

// P12.2, P12.4
func TestCompareOlderWaits(t *testing.T) {
	order, _ := Order(example())
	for i, a := range order {
		for j, b := range order {
			want := 0
			if i < j {
				want = -1
			} else if i > j {
				want = 1
			}
			if n, e := Compare(example(), a, b); n != want || e != api.OK {
				t.Error(a, b, n, e)
			}
		}
		if l, e := Older(example(), a); !slices.Equal(l, order[:i]) || e != api.OK {
			t.Error(a, l, e)
		}
		if n, e := Waits(example(), a); n != i || e != api.OK {
			t.Error(a, n, e)
		}
	}
	_, e1 := Compare(example(), 9, 3)
	_, e2 := Compare(example(), 3, 9)
	_, e3 := Older(example(), 9)
	_, e4 := Waits(example(), 9)
	_, e5 := Compare(example(), 9, 9)
	if !slices.Equal([]api.Errno{e1, e2, e3, e4, e5}, slices.Repeat([]api.Errno{api.ErrNone}, 5)) {
		t.Error(e1, e2, e3, e4, e5)
	}
}

// P12.3, P12.6
func TestExternalMoved(t *testing.T) {
	for x, want := range map[[2]int]bool{{5, 3}: true, {1, 3}: false, {-1, 3}: true, {5, 9}: false, {9, 3}: true, {3, 3}: false, {-1, 0}: true, {0, 5}: false, {1, 0}: true, {-1, 9}: false} {
		if got, e := External(example(), x[0], x[1]); got != want || e != api.OK {
			t.Error(x, got, e)
		}
	}
	u, _, _ := trains.Take(example())
	if l, e := Moved(example(), u); !slices.Equal(l, []int{1, 3}) || e != api.OK {
		t.Error(l, e)
	}
	if l, e := Moved(u, u); len(l) > 0 || e != api.OK {
		t.Error(l, e)
	}
}

// P12.5
func TestTakes(t *testing.T) {
	u := api.TrTrains{Lowest: []int{3, 1, 7, 2}, Youngest: []int{5, 0}}
	r, _ := Of(u, 2)
	for i := range r.Place {
		n, _ := Waits(u, 0)
		v, _, _ := trains.Take(u)
		if m, _ := Waits(v, 0); m != n-1 {
			t.Error(n, m)
		}
		u, _ = trains.Append(v, api.TrLowest, 10+i)
	}
	if car, _ := trains.First(u); car != 2 {
		t.Error(u)
	}
}
