package bump

import (
	"math"
	"slices"
	"testing"

	"shunter/api"
)

var sizes = api.Config{C: 8, N: 7, S: 4, K: 1, Q: 2}

// example has car 0 used (Top 5), and car 2 popular (Top 3).
func example() []api.Frame {
	return []api.Frame{{State: api.FrUsed, Top: 5}, {}, {State: api.FrPopular, Top: 3}, {}, {}, {}, {}}
}

// P13.1, and the first errors of all functions
func TestCheckSound(t *testing.T) {
	for i, x := range []struct {
		l     []api.Frame
		train []int
		at    int
		e     api.Errno
	}{{example(), []int{2, 0}, 0, api.OK}, {example(), nil, 0, api.OK}, {example()[1:], []int{0}, -1, api.ErrLong}, {example(), []int{0, 0}, 1, api.ErrTwice}, {example(), []int{1}, 0, api.ErrDown}, {example(), []int{7}, 0, api.ErrRange}, {example(), []int{2, -1, 1}, 1, api.ErrRange}} {
		at, e := Check(sizes, x.l, x.train)
		if at != x.at || e != x.e {
			t.Error(i, at, e)
		}
		if e == api.OK {
			continue
		}
		s, e1 := Sound(sizes, x.l, x.train)
		car, e2 := Last(sizes, x.l, x.train, 9, 0)
		a, m, u, e3 := Place(sizes, x.l, x.train, 9, 0)
		b, n, v, e4 := Own(sizes, x.l, x.train, 0)
		l, o, w, e5 := All(sizes, x.l, x.train, 9, make([]int, 201))
		k, e6 := Needs(sizes, x.l, x.train, 9, make([]int, 201))
		if !slices.Equal([]api.Errno{e1, e2, e3, e4, e5, e6}, slices.Repeat([]api.Errno{x.e}, 6)) || s || car+a+b+k+len(m)+len(u)+len(n)+len(v)+len(l)+len(o)+len(w) != 0 {
			t.Error(i, e1, e2, e3, e4, e5, e6)
		}
	}
	half := example()
	half[0].Top = 4
	half[3] = api.Frame{State: api.FrUsed, Top: 1}
	for i, x := range []struct {
		l     []api.Frame
		train []int
		want  bool
	}{{example(), []int{2, 0}, true}, {example(), []int{0, 2}, false}, {example(), []int{2}, true}, {example(), nil, true}, {half, []int{0, 3}, false}, {half, []int{3}, true}, {half, []int{2, 0}, true}, {half, []int{0, 2, 3}, false}} {
		if s, e := Sound(sizes, x.l, x.train); s != x.want || e != api.OK {
			t.Error(i, s, e)
		}
	}
	for i, x := range []struct {
		skip, n int
		e       api.Errno
	}{{-1, 0, api.ErrRange}, {-1, 9, api.ErrRange}, {-2, 1, api.ErrRange}, {7, 1, api.ErrRange}, {1, 9, api.ErrRange}, {1, 1, api.ErrDown}, {-1, math.MinInt, api.ErrRange}, {2, 1, api.OK}} {
		_, e1 := Last(sizes, example(), []int{0}, x.skip, x.n)
		_, _, _, e2 := Place(sizes, example(), []int{0}, x.skip, x.n)
		_, _, _, e3 := All(sizes, example(), []int{0}, x.skip, []int{1, x.n})
		_, e4 := Needs(sizes, example(), []int{0}, x.skip, []int{1, x.n})
		if e1 != x.e || e2 != x.e || e3 != x.e || e4 != x.e {
			t.Error(i, e1, e2, e3, e4)
		}
	}
	if _, _, _, e := Own(sizes, example(), nil, 9); e != api.ErrRange {
		t.Error(e)
	}
}

// P13.2
func TestLastPlace(t *testing.T) {
	for i, x := range []struct {
		train          []int
		skip, n, a, to int
		want           []int
	}{{[]int{2, 0}, -1, 3, 10, 0, []int{2, 0}}, {[]int{2, 0}, -1, 4, 13, 1, []int{2, 0, 1}}, {[]int{0}, 0, 1, 13, 1, []int{0, 1}}, {[]int{2}, -1, 1, 13, 1, []int{2, 1}}, {nil, -1, 8, 13, 1, []int{1}}, {[]int{0}, 2, 3, 10, 0, []int{0}}} {
		l := example()
		a, m, train, e := Place(sizes, l, x.train, x.skip, x.n)
		if a != x.a || !slices.Equal(train, x.want) || e != api.OK || m[x.to].Top != l[x.to].Top+x.n || m[x.to].State != api.FrUsed {
			t.Error(i, a, m, train, e)
		}
		car, e := Last(sizes, l, x.train, x.skip, x.n)
		if x.to == 0 && (car != 0 || e != api.OK) || x.to == 1 && (car != 0 || e != api.ErrFull) {
			t.Error(i, car, e)
		}
		if !slices.Equal(l, example()) {
			t.Error("the argument was changed")
		}
	}
	full := slices.Repeat([]api.Frame{{State: api.FrUsed, Top: 6}}, 7)
	if a, m, train, e := Place(sizes, full, []int{3}, -1, 3); a+len(m)+len(train) != 0 || e != api.ErrFull {
		t.Error(a, m, train, e)
	}
	if a, _, _, e := Place(sizes, full, []int{3}, -1, 2); a != 35 || e != api.OK {
		t.Error(a, e)
	}
}

// P13.3
func TestOwn(t *testing.T) {
	train := make([]int, 2, 9)
	train[0], train[1] = 2, 0
	for i, x := range []struct{ train, want []int }{{[]int{0}, []int{1, 0}}, {nil, []int{1}}, {[]int{2}, []int{2, 1}}, {train, []int{2, 1, 0}}} {
		a, m, got, e := Own(sizes, example(), x.train, 2)
		if a != 13 || !slices.Equal(got, x.want) || m[1] != (api.Frame{State: api.FrPopular, Top: 2}) || e != api.OK {
			t.Error(i, a, m, got, e)
		}
	}
	if !slices.Equal(train, []int{2, 0}) {
		t.Error("the argument was changed")
	}
	two := example()
	two[5] = api.Frame{State: api.FrPopular, Top: 1}
	if a, m, got, e := Own(sizes, two, nil, 2); a+len(m)+len(got) != 0 || e != api.ErrFull {
		t.Error(a, m, got, e)
	}
}

// P13.4, P13.6, P13.7
func TestAllNeeds(t *testing.T) {
	at, _, train, e := All(sizes, example(), []int{0}, -1, []int{4, 4, 4, 4})
	if !slices.Equal(at, []int{13, 17, 29, 33}) || !slices.Equal(train, []int{0, 1, 3}) || e != api.OK {
		t.Error(at, train, e)
	}
	if n, e := Needs(sizes, example(), []int{0}, -1, []int{4, 4, 4, 4}); n != 2 || e != api.OK {
		t.Error(n, e)
	}
	if n, e := Needs(sizes, example(), []int{0}, -1, []int{3}); n != 0 || e != api.OK {
		t.Error(n, e)
	}
	if n, e := Needs(sizes, example(), []int{0}, 0, []int{3}); n != 1 || e != api.OK {
		t.Error(n, e)
	}
	long := slices.Repeat([]int{8}, 200)
	if n, e := Needs(sizes, example(), nil, -1, long); n != 200 || e != api.OK {
		t.Error(n, e)
	}
	if at, m, train, e := All(sizes, example(), nil, -1, long); len(at)+len(m)+len(train) > 0 || e != api.ErrFull {
		t.Error(at, e)
	}
	for _, l := range [][]int{slices.Repeat([]int{1}, 201), slices.Repeat([]int{9}, 201)} {
		want := api.ErrLong
		if l[0] == 9 {
			want = api.ErrRange
		}
		_, e := Needs(sizes, example(), nil, -1, l)
		_, _, _, e2 := All(sizes, example(), nil, -1, l)
		if e != want || e2 != want {
			t.Error(e, e2)
		}
	}
	if at, m, train, e := All(sizes, example(), []int{2, 0}, -1, nil); len(at) > 0 || !slices.Equal(m, example()) || !slices.Equal(train, []int{2, 0}) || e != api.OK {
		t.Error(at, m, train, e)
	}
}

// P13.8
func TestNewMemory(t *testing.T) {
	l := example()
	train := make([]int, 2, 9)
	train[0], train[1] = 2, 0
	_, m, u, _ := All(sizes, l, train, -1, nil)
	m[0].Top, u[0] = 99, 99
	_, _, u, _ = Place(sizes, l, train, -1, 8)
	u[0] = 99
	if !slices.Equal(l, example()) || !slices.Equal(train[:9], []int{2, 0, 0, 0, 0, 0, 0, 0, 0}) {
		t.Error("memory is shared", l, train[:9])
	}
}

// P13.5, P13.6, P13.7
func TestSoundStays(t *testing.T) {
	seed := 9
	next := func(n int) int {
		seed = (seed*1103515245 + 12345) & 0x7fffffff
		return seed / 64 % n
	}
	for range 200 {
		var l []api.Frame
		for range 7 {
			l = append(l, api.Frame{})
		}
		var train []int
		for range 30 {
			before, sum := train, 0
			var e api.Errno
			if next(6) == 0 {
				var m []api.Frame
				if _, m, train, e = Own(sizes, l, train, 1+next(4)); e == api.OK {
					l = m
				}
			} else {
				var ns []int
				for range 1 + next(3) {
					ns = append(ns, 1+next(4))
					sum += ns[len(ns)-1]
				}
				needs, _ := Needs(sizes, l, train, -1, ns)
				free := 0
				for _, f := range l {
					if f.State == api.FrFree {
						free++
					}
				}
				var m []api.Frame
				if _, m, train, e = All(sizes, l, train, -1, ns); e == api.OK {
					l = m
				}
				if (needs <= free) != (e == api.OK) || needs > 1+2*sum/8 {
					t.Fatal(needs, free, e)
				}
			}
			if e != api.OK {
				train = before
			}
			if sound, e := Sound(sizes, l, train); !sound || e != api.OK {
				t.Fatal(l, train, e)
			}
		}
	}
}
