package trains

import (
	"math"
	"slices"
	"testing"

	"shunter/api"
)

func of(lowest, youngest []int) api.TrTrains {
	return api.TrTrains{Lowest: lowest, Youngest: youngest}
}

func example() api.TrTrains { return of([]int{3, 1}, []int{5, 0}) }

// P11.1, and the error of Check of the other functions
func TestCheck(t *testing.T) {
	many := make([]int, 25)
	var all []int
	for car := range 24 {
		all = append(all, car)
	}
	for i, x := range []struct {
		t            api.TrTrains
		train, place int
		e            api.Errno
	}{{example(), 0, 0, api.OK}, {api.TrTrains{}, 0, 0, api.OK}, {of(nil, all), 0, 0, api.OK}, {of(many, many), 0, -1, api.ErrLong}, {of([]int{-1}, many), 1, -1, api.ErrLong}, {of([]int{1, 24}, nil), 0, 1, api.ErrRange}, {of([]int{1, -1}, nil), 0, 1, api.ErrRange}, {of([]int{1}, []int{0, 1, 99}), 1, 1, api.ErrTwice}, {of([]int{2, 2}, []int{99}), 0, 1, api.ErrTwice}} {
		train, place, e := Check(x.t)
		if train != x.train || place != x.place || e != x.e {
			t.Error(i, train, place, e)
		}
		if e == api.OK {
			continue
		}
		a, e1 := Append(x.t, 9, 99)
		b, e2 := Insert(x.t, 9, 99)
		c, e3 := First(x.t)
		d, e4 := Last(x.t, 9)
		f, g, e5 := Take(x.t)
		h, j, e6 := Relink(x.t, true)
		k, e7 := Turn(x.t)
		l, m, e8 := Clear(x.t)
		n, o, e9 := Find(x.t, 99)
		p, e10 := Cars(x.t, 9)
		if !slices.Equal([]api.Errno{e1, e2, e3, e4, e5, e6, e7, e8, e9, e10}, slices.Repeat([]api.Errno{x.e}, 10)) || c+d+g+j+n+o+len(m)+len(p) != 0 {
			t.Error(i, e1, e2, e3, e4, e5, e6, e7, e8, e9, e10)
		}
		for _, u := range []api.TrTrains{a, b, f, h, k, l} {
			if !Same(u, api.TrTrains{}) {
				t.Error(i, u)
			}
		}
	}
}

// P11.2
func TestAppendInsert(t *testing.T) {
	for i, x := range []struct {
		t, appended, inserted api.TrTrains
		train, car            int
		e                     api.Errno
	}{{example(), of([]int{3, 1}, []int{5, 0, 7}), of([]int{3, 1}, []int{5, 7, 0}), 1, 7, api.OK}, {example(), of([]int{3, 1, 23}, []int{5, 0}), of([]int{3, 23, 1}, []int{5, 0}), 0, 23, api.OK}, {api.TrTrains{}, of(nil, []int{2}), of(nil, []int{2}), 1, 2, api.OK}, {example(), api.TrTrains{}, api.TrTrains{}, 0, 5, api.ErrTwice}, {example(), api.TrTrains{}, api.TrTrains{}, 2, 5, api.ErrRange}, {example(), api.TrTrains{}, api.TrTrains{}, -1, 7, api.ErrRange}, {example(), api.TrTrains{}, api.TrTrains{}, 0, 24, api.ErrRange}, {example(), api.TrTrains{}, api.TrTrains{}, 0, math.MinInt, api.ErrRange}} {
		a, e := Append(x.t, x.train, x.car)
		b, e2 := Insert(x.t, x.train, x.car)
		if !Same(a, x.appended) || !Same(b, x.inserted) || e != x.e || e2 != x.e {
			t.Error(i, a, b, e, e2)
		}
	}
}

// P11.3
func TestFirstLastTake(t *testing.T) {
	if car, e := First(example()); car != 3 || e != api.OK {
		t.Error(car, e)
	}
	for train, want := range []int{1, 0} {
		if car, e := Last(example(), train); car != want || e != api.OK {
			t.Error(car, e)
		}
	}
	if car, e := Last(example(), 2); car != 0 || e != api.ErrRange {
		t.Error(car, e)
	}
	u, car, e := Take(example())
	if !Same(u, of([]int{1}, []int{5, 0})) || car != 3 || e != api.OK {
		t.Error(u, car, e)
	}
	empty := of(nil, []int{4})
	u, car, e = Take(empty)
	first, e2 := First(empty)
	last, e3 := Last(empty, 0)
	if !Same(u, api.TrTrains{}) || car+first+last != 0 || e != api.ErrNone || e2 != api.ErrNone || e3 != api.ErrNone {
		t.Error(u, car, first, last, e, e2, e3)
	}
}

// P11.4
func TestRelinkTurnClear(t *testing.T) {
	for before, want := range map[bool][]int{true: {5, 3, 0}, false: {5, 0, 3}} {
		if u, car, e := Relink(example(), before); !Same(u, of([]int{1}, want)) || car != 3 || e != api.OK {
			t.Error(before, u, car, e)
		}
		if u, car, e := Relink(of(nil, []int{2}), before); !Same(u, api.TrTrains{}) || car != 0 || e != api.ErrNone {
			t.Error(before, u, car, e)
		}
		if u, car, e := Relink(of([]int{2}, nil), before); !Same(u, of(nil, []int{2})) || car != 2 || e != api.OK {
			t.Error(before, u, car, e)
		}
	}
	if u, e := Turn(example()); !Same(u, api.TrTrains{}) || e != api.ErrDown {
		t.Error(u, e)
	}
	u, cars, e := Clear(example())
	if !Same(u, of(nil, []int{5, 0})) || !slices.Equal(cars, []int{3, 1}) || e != api.OK {
		t.Error(u, cars, e)
	}
	if v, e := Turn(u); !Same(v, of([]int{5, 0}, nil)) || e != api.OK {
		t.Error(v, e)
	}
	if u, cars, e := Clear(of(nil, []int{4})); !Same(u, of(nil, []int{4})) || len(cars) > 0 || e != api.OK {
		t.Error(u, cars, e)
	}
}

// P11.5
func TestFindCarsSame(t *testing.T) {
	for car, want := range map[int][3]int{0: {1, 1, 0}, 3: {0, 0, 0}, 9: {-1, -1, 4}, 24: {0, 0, 7}, -1: {0, 0, 7}} {
		if train, place, e := Find(example(), car); [3]int{train, place, int(e)} != want {
			t.Error(car, train, place, e)
		}
	}
	a, e := Cars(example(), 0)
	b, e2 := Cars(example(), 1)
	if !slices.Equal(a, []int{3, 1}) || !slices.Equal(b, []int{5, 0}) || e+e2 != api.OK {
		t.Error(a, b)
	}
	for _, train := range []int{-1, 2} {
		if l, e := Cars(example(), train); len(l) > 0 || e != api.ErrRange {
			t.Error(l, e)
		}
	}
	if !Same(example(), example()) || Same(example(), of([]int{1, 3}, []int{5, 0})) || Same(example(), of([]int{3, 1}, []int{5})) || !Same(api.TrTrains{}, of([]int{}, nil)) {
		t.Error("Same")
	}
}

// P11.6, P11.7, P11.8
func TestNoCarIsLost(t *testing.T) {
	u, in, seed := api.TrTrains{}, map[int]bool{}, 3
	for range 2000 {
		seed = (seed*1103515245 + 12345) & 0x7fffffff
		before := of(slices.Clone(u.Lowest), slices.Clone(u.Youngest))
		car, train := seed/64%24, seed/16%2
		var v api.TrTrains
		var e api.Errno
		switch seed / 4096 % 6 {
		case 0:
			if v, e = Append(u, train, car); e == api.OK {
				in[car] = true
			}
		case 1:
			if v, e = Insert(u, train, car); e == api.OK {
				in[car] = true
				if last, _ := Last(u, train); len(u.Lowest)*(1-train)+len(u.Youngest)*train > 0 {
					if now, _ := Last(v, train); now != last {
						t.Fatal(u, v)
					}
				}
			}
		case 2:
			if v, car, e = Take(u); e == api.OK {
				delete(in, car)
			}
		case 3:
			v, _, e = Relink(u, train == 0)
		case 4:
			v, e = Turn(u)
		case 5:
			if seed/65536%8 > 0 {
				continue
			}
			var cars []int
			v, cars, e = Clear(u)
			for _, car := range cars {
				delete(in, car)
			}
		}
		if !Same(u, before) {
			t.Fatal("the argument was changed")
		}
		if e != api.OK {
			continue
		}
		u = v
		if _, _, e := Check(u); e != api.OK || len(u.Lowest)+len(u.Youngest) != len(in) {
			t.Fatal(u, in)
		}
	}
}
