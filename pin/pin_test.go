package pin

import (
	"reflect"
	"slices"
	"testing"

	"shunter/api"
	"shunter/external"
	"shunter/heaps"
	"shunter/heaptest"
	"shunter/nursery"
	"shunter/popular"
	"shunter/scavenge"
)

func turned() api.Heap {
	h, _, _ := scavenge.Do(heaptest.Young())
	h, _ = external.Turn(h)
	return h
}

// linked has the cars 0 (7), 1 (15) in the lowest train, 2 (23), 3 (31) in the youngest one.
func linked() api.Heap {
	two := api.Shape{P: 2}
	c := api.Config{C: 8, N: 14, S: 6, K: 3, Q: 2}
	h := heaptest.Built(c, nil, []heaptest.Car{heaptest.Used(0, two, api.Shape{R: 2}), heaptest.Used(1, two)}, []heaptest.Car{heaptest.Used(2, two, api.Shape{R: 2}), heaptest.Used(3, two)})
	return heaptest.Linked(h, [3]int{31, 0, 7}, [3]int{23, 1, 15})
}

var moved = api.EvReport{Out: []api.MvMove{{From: 1, To: 2, Words: 1}}}

// The errors that all functions return first.
func TestFirstErrors(t *testing.T) {
	bad := turned()
	bad.Regs[0] = 8
	for i, x := range []struct {
		h api.Heap
		e api.Errno
	}{{bad, api.ErrForm}, {api.Heap{}, api.ErrRange}, {heaptest.Young(), api.ErrDown}} {
		x.h.Pin = 1
		if i == 2 {
			x.h.Pin = 0
		}
		a, e1 := Target(x.h)
		g, e2 := Set(x.h)
		f, e3 := After(x.h, moved, true)
		n, e4 := Distance(x.h)
		if !slices.Equal([]api.Errno{e1, e2, e3, e4}, slices.Repeat([]api.Errno{x.e}, 4)) || a+n > 0 || !reflect.DeepEqual(g, api.Heap{}) || !reflect.DeepEqual(f, api.Heap{}) {
			t.Error(i, e1, e2, e3, e4)
		}
	}
}

// P24.1
func TestFutileTarget(t *testing.T) {
	kept := api.EvReport{Kept: moved.Out, Gone: 3}
	if !Futile(api.EvReport{}, false) || !Futile(kept, false) || Futile(moved, false) || Futile(api.EvReport{}, true) {
		t.Error("Futile")
	}
	if a, e := Target(turned()); a != 7 || e != api.OK {
		t.Error(a, e)
	}
	h := linked()
	if a, e := Target(h); a != 15 || e != api.OK {
		t.Error("the least slot", a, e)
	}
	h.Regs = []int{31, 7, 15}
	if a, e := Target(h); a != 7 || e != api.OK {
		t.Error("the first register", a, e)
	}
	h = heaptest.Linked(h, [3]int{31, 0, 0}, [3]int{23, 1, 0})
	h.Regs = []int{0, 23, 31}
	h.Pin = 7
	if a, e := Target(h); a != 0 || e != api.ErrNone {
		t.Error(a, e)
	}
	empty, _ := nursery.New(heaptest.Sizes())
	if a, e := Target(empty); a != 0 || e != api.ErrNone {
		t.Error(a, e)
	}
}

// P24.2, P24.6
func TestSetAfter(t *testing.T) {
	h := turned()
	g, e := Set(h)
	if g.Pin != 7 || h.Pin != 0 || e != api.OK {
		t.Error(g.Pin, e)
	}
	h = linked()
	h.Pin = 7
	if g, e := Set(h); !heaptest.Equal(g, h) || e != api.OK {
		t.Error(g.Pin, e)
	}
	lone := heaptest.Linked(h, [3]int{31, 0, 0}, [3]int{23, 1, 0})
	if g, e := Set(lone); !heaptest.Equal(g, lone) || e != api.OK {
		t.Error("a pin, and no target", e)
	}
	lone.Pin = 0
	if g, e := Set(lone); !reflect.DeepEqual(g, api.Heap{}) || e != api.ErrNone {
		t.Error(e)
	}
	if g, e := After(lone, api.EvReport{}, false); g.Counts.Futile != 1 || g.Pin != 0 || e != api.OK {
		t.Error("no target", g.Counts, e)
	}
	h.Pin = 0
	for i, x := range []struct {
		r        api.EvReport
		relinked bool
	}{{moved, false}, {api.EvReport{}, true}} {
		if g, e := After(h, x.r, x.relinked); !heaptest.Equal(g, h) || e != api.OK {
			t.Error(i, e)
		}
	}
	g, e = After(h, api.EvReport{}, false)
	want := heaps.Clone(h)
	want.Pin, want.Counts.Futile = 15, 1
	if !heaptest.Equal(g, want) || e != api.OK {
		t.Error(g.Pin, g.Counts, e)
	}
	h.Pin = 7
	if g, e := After(h, api.EvReport{}, false); g.Pin != 7 || g.Counts.Futile != 1 || e != api.OK {
		t.Error(g.Pin, g.Counts, e)
	}
	young, _, _ := scavenge.Do(heaptest.Young())
	if g, e := After(young, api.EvReport{}, false); !heaptest.Equal(g, young) || e != api.OK {
		t.Error("the lowest train has no cars", e)
	}
}

// P24.3
func TestDistance(t *testing.T) {
	h := linked()
	for a, want := range map[int]int{7: 0, 15: 1, 10: 0} {
		h.Pin = a
		if n, e := Distance(h); n != want || e != api.OK {
			t.Error(a, n, e)
		}
	}
	h.Pin = 0
	if n, e := Distance(h); n != 0 || e != api.ErrNone {
		t.Error(n, e)
	}
}

// P24.4, P24.5, P24.7
func TestTheorem(t *testing.T) {
	r := heaptest.NewRandom(24)
	pinned := 0
	for range 400 {
		h := r.Heap(false)
		before := heaps.Clone(h)
		g, e := Set(h)
		if e != api.OK {
			continue
		}
		pinned++
		other := heaps.Clone(g)
		other.Pin = h.Pin
		if rule, _ := nursery.Check(g); rule != 0 || !heaptest.Equal(other, h) || !reflect.DeepEqual(h, before) {
			t.Fatal(rule)
		}
		place, e := Distance(g)
		for range place {
			g, _, _, e = popular.Collect(g)
			n, e2 := Distance(g)
			if e != api.OK || e2 == api.OK && n != place-1 || e2 != api.OK && g.Pin != 0 {
				t.Fatal(place, n, e, e2)
			}
			if e2 != api.OK {
				break
			}
			place = n
		}
		if g.Pin != 0 {
			g, _, _, _ = popular.Collect(g)
		}
		if g.Pin != 0 {
			t.Fatal("the pin is still there")
		}
	}
	if pinned < 50 {
		t.Error(pinned)
	}
}

// Results share no memory with arguments (R3)
func TestNewMemory(t *testing.T) {
	r := heaptest.NewRandom(5)
	for range 40 {
		h := r.Heap(false)
		before := heaps.Clone(h)
		var results []api.Heap
		g, _ := Set(h)
		f, _ := After(h, moved, false)
		k, _ := After(h, api.EvReport{}, false)
		results = append(results, g, f, k)
		for _, g := range results {
			heaptest.Scribble(g)
		}
		if !reflect.DeepEqual(h, before) {
			t.Fatal("memory is shared")
		}
	}
}
