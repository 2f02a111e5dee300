package remset

import (
	"math"
	"slices"
	"testing"

	"shunter/api"
	"shunter/config"
	"shunter/slots"
)

var sizes = api.Config{C: 8, N: 7, S: 4, K: 1, Q: 2}

func empty() api.RmSets {
	s, _ := New(sizes)
	return s
}

// with returns sets in which slots are remembered for targets.
func with(pairs ...[2]int) api.RmSets {
	s := empty()
	for _, p := range pairs {
		s, _ = Record(sizes, s, p[0], p[1])
	}
	return s
}

func into(t *testing.T, s api.RmSets, car int, want ...int) {
	t.Helper()
	l, e := Into(s, car)
	if car < 0 {
		l, e = Young(s)
	}
	if !slices.Equal(l, want) || e != api.OK {
		t.Errorf("set %d: %v, %d, not %v", car, l, e, want)
	}
}

// P8.1
func TestNewCheck(t *testing.T) {
	if s := empty(); len(s.Cars) != 7 || len(s.Cars[6].Cells) != 8 || len(s.Nursery.Cells) != 8 {
		t.Error(s)
	}
	if s, e := New(api.Config{}); len(s.Cars)+len(s.Nursery.Cells) > 0 || e != api.ErrRange {
		t.Error(s, e)
	}
	put := func(car int, l ...int) api.RmSets {
		s := empty()
		set, _ := slots.Of(l)
		if car < 0 {
			s.Nursery = set
		} else {
			s.Cars[car] = set
		}
		return s
	}
	short := empty()
	short.Cars = short.Cars[1:]
	twoBad := put(-1, 1)
	twoBad.Cars[3].Cells = nil
	for i, x := range []struct {
		c   api.Config
		s   api.RmSets
		car int
		e   api.Errno
	}{{sizes, empty(), 0, api.OK}, {api.Config{}, empty(), -2, api.ErrRange}, {sizes, short, -2, api.ErrForm}, {sizes, put(2, 5), 0, api.OK}, {sizes, put(0, 5), 0, api.ErrRange}, {sizes, put(2, 4), 2, api.ErrRange}, {sizes, put(2, 61), 2, api.ErrRange}, {sizes, put(-1, 60), 0, api.OK}, {sizes, put(-1, 4), -1, api.ErrRange}, {sizes, put(-1, 61), -1, api.ErrRange}, {sizes, twoBad, 3, api.ErrForm}} {
		car, e := Check(x.c, x.s)
		if car != x.car || e != x.e {
			t.Error(i, car, e)
		}
		if e == api.OK {
			continue
		}
		a, e1 := Record(x.c, x.s, 0, 0)
		b, e2 := Forget(x.c, x.s, 0, 0)
		c, e3 := Store(x.c, x.s, 0, 0, 0)
		l, e4 := From(x.c, x.s, 99)
		p, n, e5 := Purge(x.c, x.s, 99)
		if !slices.Equal([]api.Errno{e1, e2, e3, e4, e5}, slices.Repeat([]api.Errno{x.e}, 5)) || n+len(l)+len(a.Cars)+len(b.Cars)+len(c.Cars)+len(p.Cars) > 0 {
			t.Error(i, e1, e2, e3, e4, e5)
		}
	}
}

// P8.2
func TestRecordForgetStore(t *testing.T) {
	s := with([2]int{6, 13})
	into(t, s, 1, 6)
	into(t, s, 0)
	for _, p := range [][2]int{{6, 7}, {2, 13}, {6, 0}, {2, 3}} {
		if n, _ := Count(with(p)); n != 0 {
			t.Error(p)
		}
	}
	into(t, with([2]int{6, 1}), -1, 6)
	moved, e := Store(sizes, s, 6, 13, 21)
	into(t, moved, 1)
	into(t, moved, 2, 6)
	into(t, s, 1, 6)
	if e != api.OK {
		t.Error(e)
	}
	same, e := Store(sizes, s, 6, 13, 13)
	if !slices.Equal(same.Cars[1].Cells, s.Cars[1].Cells) || e != api.OK {
		t.Error(same, e)
	}
	gone, e := Forget(sizes, s, 6, 14)
	into(t, gone, 1)
	if e != api.OK {
		t.Error(e)
	}
	for _, x := range [][3]int{{0, 1, 1}, {-1, 1, 1}, {61, 1, 1}, {6, 61, 1}, {6, -1, 1}, {6, 1, 61}, {6, 1, -1}, {math.MaxInt, 1, 1}} {
		if a, e := Store(sizes, s, x[0], x[1], x[2]); len(a.Cars) > 0 || e != api.ErrRange {
			t.Error(x, e)
		}
		if x[2] != 1 {
			continue
		}
		a, e := Record(sizes, s, x[0], x[1])
		b, e2 := Forget(sizes, s, x[0], x[1])
		if len(a.Cars)+len(b.Cars) > 0 || e != api.ErrRange || e2 != api.ErrRange {
			t.Error(x, e, e2)
		}
	}
}

// P8.3
func TestIntoYoungFrom(t *testing.T) {
	s := with([2]int{6, 13}, [2]int{7, 1}, [2]int{5, 60}, [2]int{14, 1}, [2]int{14, 30})
	if l, e := From(sizes, s, 0); !slices.Equal(l, []int{5, 6, 7}) || e != api.OK {
		t.Error(l, e)
	}
	if l, e := From(sizes, s, 1); !slices.Equal(l, []int{14}) || e != api.OK {
		t.Error("a slot in two sets", l, e)
	}
	into(t, s, -1, 7, 14)
	one, _ := Forget(sizes, s, 14, 30)
	into(t, one, -1, 7, 14)
	into(t, one, 3)
	for _, car := range []int{-1, 7, math.MaxInt} {
		l, e := Into(s, car)
		m, e2 := From(sizes, s, car)
		p, n, e3 := Purge(sizes, s, car)
		if len(l)+len(m)+len(p.Cars)+n > 0 || e != api.ErrRange || e2 != api.ErrRange || e3 != api.ErrRange {
			t.Error(car, e, e2, e3)
		}
	}
	s.Cars[1].Cells = s.Cars[1].Cells[1:]
	s.Nursery.Cells = nil
	if l, e := Into(s, 1); len(l) > 0 || e != api.ErrForm {
		t.Error(l, e)
	}
	if l, e := Young(s); len(l) > 0 || e != api.ErrForm {
		t.Error(l, e)
	}
}

// P8.4, P8.6
func TestPurgeCountSame(t *testing.T) {
	s := with([2]int{6, 13}, [2]int{14, 5})
	p, n, e := Purge(sizes, s, 0)
	if left, _ := Count(p); n != 2 || left != 0 || e != api.OK {
		t.Error(n, left, e)
	}
	if !slices.Equal(p.Cars[0].Cells, slots.New().Cells) || slices.Equal(p.Cars[1].Cells, slots.New().Cells) {
		t.Error("only the own set is new", p)
	}
	s = with([2]int{6, 13}, [2]int{14, 5}, [2]int{14, 1}, [2]int{22, 30}, [2]int{22, 13})
	p, n, _ = Purge(sizes, s, 1)
	if !Same(p, with([2]int{22, 30})) || n != 4 {
		t.Error(p, n)
	}
	for car := range sizes.N {
		s, _, _ = Purge(sizes, s, car)
	}
	if !Same(s, empty()) {
		t.Error("something is left")
	}
	a, b := with([2]int{6, 13}, [2]int{14, 5}), with([2]int{14, 5}, [2]int{6, 13})
	if !Same(a, b) || Same(a, empty()) || Same(with([2]int{6, 13}), with([2]int{6, 1})) || Same(with([2]int{6, 13}), with([2]int{6, 13}, [2]int{7, 13})) {
		t.Error("Same")
	}
	short := empty()
	short.Cars = short.Cars[1:]
	if Same(short, empty()) || Same(empty(), short) || !Same(short, short) || Same(api.RmSets{}, api.RmSets{}) {
		t.Error("Same of other sets")
	}
	broken := empty()
	broken.Nursery.Cells = nil
	broken.Cars[4].Cells = make([]int, 10000)
	if n, e := Count(broken); n != 0 || e != api.ErrLong || Same(broken, broken) || Same(broken, empty()) || Same(empty(), broken) {
		t.Error(n, e)
	}
}

// P8.5, P8.6, P8.7
func TestBarrier(t *testing.T) {
	words, _ := config.Words(sizes)
	holds := make([]int, words)
	s, seed := empty(), 5
	for range 1500 {
		seed = (seed*1103515245 + 12345) & 0x7fffffff
		slot, now := 1+seed/8%(words-1), seed/1024%words
		u, e := Store(sizes, s, slot, holds[slot], now)
		if e != api.OK {
			t.Fatal(e)
		}
		s, holds[slot] = u, now
	}
	want := map[int][]int{}
	for slot := 1; slot < words; slot++ {
		from, _ := config.Car(sizes, slot)
		to, e := config.Car(sizes, holds[slot])
		if from >= 0 && e == api.OK && to != from {
			want[to] = append(want[to], slot)
		}
	}
	for car := -1; car < sizes.N; car++ {
		into(t, s, car, want[car]...)
	}
	if car, e := Check(sizes, s); car != 0 || e != api.OK {
		t.Error(car, e)
	}
	before := empty()
	r, _ := Record(sizes, before, 6, 13)
	f, _ := Forget(sizes, r, 6, 13)
	if !Same(f, before) || !slices.Equal(before.Cars[1].Cells, slots.New().Cells) {
		t.Error("Forget of Record")
	}
	r.Cars[0].Cells[0] = 99
	if before.Cars[0].Cells[0] != 0 {
		t.Error("memory is shared")
	}
}
