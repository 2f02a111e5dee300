package barrier

import (
	"math"
	"reflect"
	"slices"
	"testing"

	"shunter/api"
	"shunter/heaps"
	"shunter/nursery"
	"shunter/remset"
)

var sizes = api.Config{C: 8, N: 9, S: 6, K: 2, Q: 2}

// young has two objects with P 1 and R 1 in the nursery, at 1 and 4.
func young() api.Heap {
	h, _ := nursery.New(sizes)
	h, _, _ = nursery.Bump(h, api.Shape{P: 1, R: 1})
	h, _, _ = nursery.Bump(h, api.Shape{P: 1, R: 1})
	return h
}

// spread has objects of P 2 at 1 (nursery), 7 (car 0), 15 (car 1), without references.
func spread() api.Heap {
	h, _ := nursery.New(sizes)
	h, _, _ = nursery.Bump(h, api.Shape{P: 2})
	for car, a := range []int{7, 15} {
		h.Words[a] = 513
		h.Frames[car] = api.Frame{State: api.FrUsed, Top: 3}
	}
	h.Trains = api.TrTrains{Lowest: []int{0}, Youngest: []int{1}}
	return h
}

func store(t *testing.T, h api.Heap, a, field, v int) api.Heap {
	t.Helper()
	g, e := Store(h, a, field, v)
	if rule, _ := nursery.Check(g); rule != 0 || e != api.OK {
		t.Fatal(a, field, v, rule, e)
	}
	return g
}

// The errors that all functions return first.
func TestFirstErrors(t *testing.T) {
	bad := young()
	bad.Pin = 99
	for i, x := range []struct {
		h api.Heap
		a int
		e api.Errno
	}{{bad, 0, api.ErrForm}, {api.Heap{}, 1, api.ErrRange}, {young(), 0, api.ErrBad}, {young(), 2, api.ErrArg}, {young(), -1, api.ErrArg}, {young(), math.MaxInt, api.ErrArg}} {
		v, e1 := Load(x.h, x.a, 9)
		g, e2 := Store(x.h, x.a, 9, 2)
		r, e3 := Read(x.h, x.a, 9)
		f, e4 := Write(x.h, x.a, 9, 1)
		s, e5 := Shape(x.h, x.a)
		l, m, e6 := Referrers(x.h, x.a)
		n, e7 := Remembered(x.h, x.a)
		if !slices.Equal([]api.Errno{e1, e2, e3, e4, e5, e6, e7}, slices.Repeat([]api.Errno{x.e}, 7)) || v != 0 || r != 0 || s != (api.Shape{}) || len(l)+len(m)+len(n) > 0 || !reflect.DeepEqual(g, api.Heap{}) || !reflect.DeepEqual(f, api.Heap{}) {
			t.Error(i, e1, e2, e3, e4, e5, e6, e7)
		}
	}
}

// P18.1, P18.2
func TestFields(t *testing.T) {
	h := young()
	g := store(t, h, 1, 0, 4)
	if v, e := Load(g, 1, 0); v != 4 || e != api.OK {
		t.Error(v, e)
	}
	if s, e := Shape(g, 1); s != (api.Shape{P: 1, R: 1}) || e != api.OK {
		t.Error(s, e)
	}
	f, e := Write(g, 4, 0, math.MaxUint64)
	if v, e2 := Read(f, 4, 0); v != math.MaxUint64 || e+e2 != api.OK {
		t.Error(v, e, e2)
	}
	if v, _ := Read(g, 4, 0); v != 0 {
		t.Error("the argument was changed")
	}
	two, _ := nursery.New(sizes)
	two, _, _ = nursery.Bump(two, api.Shape{P: 1, R: 2})
	f, e = Write(two, 1, 1, 8)
	if v, _ := Read(f, 1, 1); v != 8 || f.Words[4] != 8 || f.Words[3] != 0 || e != api.OK {
		t.Error(f.Words[:5], e)
	}
	for _, field := range []int{1, -1, math.MaxInt} {
		_, e1 := Load(h, 1, field)
		_, e2 := Store(h, 1, field, 2)
		_, e3 := Read(h, 1, field)
		_, e4 := Write(h, 1, field, 0)
		if e1 != api.ErrBad || e2 != api.ErrBad || e3 != api.ErrBad || e4 != api.ErrBad {
			t.Error(field, e1, e2, e3, e4)
		}
	}
	for _, v := range []int{2, -1, 5, 7, math.MaxInt} {
		if g, e := Store(h, 1, 0, v); !reflect.DeepEqual(g, api.Heap{}) || e != api.ErrArg {
			t.Error(v, e)
		}
	}
}

// P18.3, P18.7
func TestReferrersRemembered(t *testing.T) {
	g := store(t, young(), 1, 0, 4)
	slots, regs, e := Referrers(g, 4)
	if !slices.Equal(slots, []int{2}) || len(regs) > 0 || e != api.OK {
		t.Error(slots, regs, e)
	}
	if l, e := Remembered(g, 4); len(l) > 0 || e != api.OK {
		t.Error(l, e)
	}
	h := spread()
	for _, x := range [][3]int{{1, 0, 7}, {7, 0, 7}, {15, 0, 7}, {15, 1, 1}, {7, 1, 1}, {1, 1, 1}} {
		h = store(t, h, x[0], x[1], x[2])
	}
	h.Regs = []int{0, 7}
	slots, regs, _ = Referrers(h, 7)
	if !slices.Equal(slots, []int{2, 8, 16}) || !slices.Equal(regs, []int{1}) {
		t.Error(slots, regs)
	}
	if l, e := Remembered(h, 7); !slices.Equal(l, []int{16}) || e != api.OK {
		t.Error(l, e)
	}
	slots, _, _ = Referrers(h, 1)
	if l, e := Remembered(h, 1); !slices.Equal(l, []int{9, 17}) || !slices.Equal(slots, []int{3, 9, 17}) || e != api.OK {
		t.Error(l, slots, e)
	}
}

// P18.4, P18.5, P18.6, P18.8
func TestStores(t *testing.T) {
	h, seed := spread(), 1
	at := []int{0, 1, 7, 15}
	for range 300 {
		seed = (seed*1103515245 + 12345) & 0x7fffffff
		a, field, v := at[1+seed/16%3], seed/128%2, at[seed/1024%4]
		b, other, u := at[1+seed/4096%3], seed/32768%2, at[seed/65536%4]
		before := heaps.Clone(h)
		g := store(t, h, a, field, v)
		if got, _ := Load(g, a, field); got != v {
			t.Fatal(got, v)
		}
		changed := slices.Clone(h.Words)
		changed[a+1+field] = uint64(v)
		if !slices.Equal(g.Words, changed) || !reflect.DeepEqual(h, before) {
			t.Fatal("other words")
		}
		if a != b || field != other {
			one := store(t, g, b, other, u)
			two := store(t, store(t, h, b, other, u), a, field, v)
			if !slices.Equal(one.Words, two.Words) || !remset.Same(one.Sets, two.Sets) {
				t.Fatal("the order makes a difference")
			}
		}
		again := store(t, g, a, field, v)
		if !slices.Equal(again.Words, g.Words) || !remset.Same(again.Sets, g.Sets) {
			t.Fatal("storing again")
		}
		copied := heaps.Clone(g)
		same, _ := Store(g, a, field, v)
		clear(same.Words)
		clear(same.Frames)
		clear(same.Sets.Cars)
		clear(same.Sets.Nursery.Cells)
		clear(same.Regs)
		clear(same.Trains.Lowest)
		if !reflect.DeepEqual(g, copied) {
			t.Fatal("memory is shared")
		}
		h = g
	}
}
