package frames

import (
	"math"
	"slices"
	"testing"

	"shunter/api"
)

var sizes = api.Config{C: 8, N: 7, S: 4, K: 1, Q: 2}

// example has car 0 used (Top 5), and car 2 popular (Top 3).
func example() []api.Frame {
	return []api.Frame{{State: api.FrUsed, Top: 5}, {}, {State: api.FrPopular, Top: 3}, {}, {}, {}, {}}
}

// with returns the example with other frames.
func with(frames map[int]api.Frame) []api.Frame {
	l := example()
	for car, f := range frames {
		l[car] = f
	}
	return l
}

// P10.1, and the error of Check of the other functions
func TestNewCheck(t *testing.T) {
	if l, e := New(sizes); !slices.Equal(l, make([]api.Frame, 7)) || e != api.OK {
		t.Error(l, e)
	}
	if l, e := New(api.Config{}); len(l) > 0 || e != api.ErrRange {
		t.Error(l, e)
	}
	popular := api.Frame{State: api.FrPopular}
	for i, x := range []struct {
		c   api.Config
		l   []api.Frame
		car int
		e   api.Errno
	}{{sizes, example(), 0, api.OK}, {api.Config{}, nil, -1, api.ErrRange}, {sizes, example()[1:], -1, api.ErrLong}, {sizes, nil, -1, api.ErrLong}, {sizes, with(map[int]api.Frame{0: {State: 1, Top: 9}}), 0, api.ErrRange}, {sizes, with(map[int]api.Frame{1: {Top: 1}}), 1, api.ErrForm}, {sizes, with(map[int]api.Frame{1: {Top: -1}}), 1, api.ErrForm}, {sizes, with(map[int]api.Frame{3: {State: 3, Top: 99}}), 3, api.ErrForm}, {sizes, with(map[int]api.Frame{3: {State: -1}}), 3, api.ErrForm}, {sizes, with(map[int]api.Frame{4: {State: 2, Top: -1}}), 4, api.ErrRange}, {sizes, with(map[int]api.Frame{4: popular, 6: popular}), 6, api.ErrFull}, {sizes, with(map[int]api.Frame{4: popular, 5: popular, 6: {Top: 1}}), 5, api.ErrFull}, {sizes, with(map[int]api.Frame{4: popular, 0: {State: 1, Top: 8}}), 0, api.OK}} {
		car, e := Check(x.c, x.l)
		if car != x.car || e != x.e {
			t.Error(i, car, e)
		}
		if e == api.OK {
			continue
		}
		a, e1 := Free(x.c, x.l)
		b, e2 := Popular(x.c, x.l)
		n, e3 := Occupied(x.c, x.l)
		r, e4 := Room(x.c, x.l, -1)
		top, e5 := Top(x.c, x.l, -1)
		m, d, e6 := Take(x.c, x.l, false)
		u, g, e7 := Bump(x.c, x.l, -1, 0)
		v, e8 := Empty(x.c, x.l, -1)
		h, e9 := Half(x.c, x.l, -1)
		if !slices.Equal([]api.Errno{e1, e2, e3, e4, e5, e6, e7, e8, e9}, slices.Repeat([]api.Errno{x.e}, 9)) || h || n+r+top+d+g+len(a)+len(b)+len(m)+len(u)+len(v) > 0 {
			t.Error(i, e1, e2, e3, e4, e5, e6, e7, e8, e9)
		}
	}
}

// P10.2
func TestFreePopularOccupied(t *testing.T) {
	a, e := Free(sizes, example())
	b, e2 := Popular(sizes, example())
	n, e3 := Occupied(sizes, example())
	if !slices.Equal(a, []int{1, 3, 4, 5, 6}) || !slices.Equal(b, []int{2}) || n != 8 || e+e2+e3 != api.OK {
		t.Error(a, b, n)
	}
}

// P10.3
func TestRoomTopHalf(t *testing.T) {
	if n, e := Room(sizes, example(), 0); n != 3 || e != api.OK {
		t.Error(n, e)
	}
	if n, e := Room(sizes, example(), 1); n != 0 || e != api.ErrDown {
		t.Error(n, e)
	}
	for car, want := range map[int]int{0: 10, 1: 13, 2: 24, 6: 53} {
		if a, e := Top(sizes, example(), car); a != want || e != api.OK {
			t.Error(car, a, e)
		}
	}
	for car, want := range map[int]bool{0: true, 1: false, 2: false} {
		if half, e := Half(sizes, example(), car); half != want || e != api.OK {
			t.Error(car, half, e)
		}
	}
	if half, _ := Half(sizes, with(map[int]api.Frame{0: {State: 1, Top: 4}}), 0); half {
		t.Error("just half full")
	}
	for _, car := range []int{-1, 7, math.MaxInt, math.MinInt} {
		_, e1 := Room(sizes, example(), car)
		_, e2 := Top(sizes, example(), car)
		_, e3 := Half(sizes, example(), car)
		_, _, e4 := Bump(sizes, example(), car, 0)
		_, e5 := Empty(sizes, example(), car)
		if !slices.Equal([]api.Errno{e1, e2, e3, e4, e5}, slices.Repeat([]api.Errno{api.ErrRange}, 5)) {
			t.Error(car, e1, e2, e3, e4, e5)
		}
	}
}

// P10.4, P10.7
func TestTake(t *testing.T) {
	l := example()
	for popular, state := range map[bool]int{false: api.FrUsed, true: api.FrPopular} {
		m, car, e := Take(sizes, l, popular)
		if car != 1 || e != api.OK || !slices.Equal(m, with(map[int]api.Frame{1: {State: state}})) || !slices.Equal(l, example()) {
			t.Error(m, car, e)
		}
	}
	two := with(map[int]api.Frame{6: {State: api.FrPopular}})
	if m, car, e := Take(sizes, two, true); len(m) > 0 || car != 0 || e != api.ErrFull {
		t.Error(m, car, e)
	}
	if _, car, e := Take(sizes, two, false); car != 1 || e != api.OK {
		t.Error(car, e)
	}
	full := slices.Repeat([]api.Frame{{State: api.FrUsed}}, 7)
	for _, popular := range []bool{false, true} {
		if m, car, e := Take(sizes, full, popular); len(m) > 0 || car != 0 || e != api.ErrFull {
			t.Error(m, car, e)
		}
	}
	m, _ := Empty(sizes, full, 4)
	if _, car, e := Take(sizes, m, false); car != 4 || e != api.OK {
		t.Error(car, e)
	}
}

// P10.5, P10.6, P10.8
func TestBumpEmpty(t *testing.T) {
	l := example()
	m, a, e := Bump(sizes, l, 0, 3)
	if a != 10 || e != api.OK || !slices.Equal(m, with(map[int]api.Frame{0: {State: 1, Top: 8}})) || !slices.Equal(l, example()) {
		t.Error(m, a, e)
	}
	for _, x := range []struct {
		car, n int
		e      api.Errno
	}{{0, 4, api.ErrFull}, {1, 1, api.ErrDown}, {1, 0, api.ErrRange}, {0, 0, api.ErrRange}, {0, math.MinInt, api.ErrRange}, {0, math.MaxInt, api.ErrFull}} {
		if m, a, e := Bump(sizes, l, x.car, x.n); len(m) > 0 || a != 0 || e != x.e {
			t.Error(x, m, a, e)
		}
	}
	if m, e := Empty(sizes, l, 2); !slices.Equal(m, with(map[int]api.Frame{2: {}})) || e != api.OK {
		t.Error(m, e)
	}
	if m, e := Empty(sizes, l, 1); len(m) > 0 || e != api.ErrDown {
		t.Error(m, e)
	}
	m, _, _ = Take(sizes, l, false)
	next := 13
	for n := 1; n <= 3; n++ {
		before, _ := Occupied(sizes, m)
		m, a, e = Bump(sizes, m, 1, n)
		after, _ := Occupied(sizes, m)
		if a != next || after != before+n || e != api.OK {
			t.Error(n, a, e)
		}
		next += n
	}
}
