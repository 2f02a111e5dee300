package scavenge

import (
	"reflect"
	"slices"
	"testing"

	"shunter/api"
	"shunter/config"
	"shunter/heaps"
	"shunter/heaptest"
	"shunter/iso"
	"shunter/nursery"
)

// The error of nursery.Check of all functions
func TestFirstErrors(t *testing.T) {
	bad := heaptest.Young()
	bad.Words[60] = 1
	for i, x := range []struct {
		h api.Heap
		e api.Errno
	}{{bad, api.ErrForm}, {api.Heap{}, api.ErrRange}} {
		r, s, e1 := Roots(x.h)
		o, e2 := Order(x.h)
		g, m, e3 := Do(x.h)
		n, e4 := Words(x.h)
		d, e5 := Dead(x.h)
		if !slices.Equal([]api.Errno{e1, e2, e3, e4, e5}, slices.Repeat([]api.Errno{x.e}, 5)) || len(r)+len(s)+len(o)+len(m)+n+len(d) > 0 || !reflect.DeepEqual(g, api.Heap{}) {
			t.Error(i, e1, e2, e3, e4, e5)
		}
	}
}

// P20.1, P20.2, P20.3: the example
func TestExample(t *testing.T) {
	h := heaptest.Young()
	regs, slots, e := Roots(h)
	if !slices.Equal(regs, []int{0}) || len(slots) > 0 || e != api.OK {
		t.Error(regs, slots, e)
	}
	if l, e := Order(h); !slices.Equal(l, []int{4, 1}) || e != api.OK {
		t.Error(l, e)
	}
	g, moves, e := Do(h)
	if !slices.Equal(moves, []api.MvMove{{From: 4, To: 7, Words: 3}, {From: 1, To: 10, Words: 3}}) || e != api.OK {
		t.Error(moves, e)
	}
	if g.Regs[0] != 7 || g.Counts.Copied != 6 || g.Words[8] != 10 || g.Top != 0 || g.Words[1] != 0 || !slices.Equal(g.Trains.Youngest, []int{0}) {
		t.Error(g)
	}
	if n, e := Words(h); n != 6 || e != api.OK {
		t.Error(n, e)
	}
	if l, e := Dead(h); len(l) > 0 || e != api.OK {
		t.Error(l, e)
	}
	h.Regs[0] = 1
	if l, _ := Dead(h); !slices.Equal(l, []int{4}) {
		t.Error(l)
	}
	if !heaptest.Equal(heaptest.Young(), func() api.Heap { h.Regs[0] = 4; return h }()) {
		t.Error("the argument was changed")
	}
}

// P20.1, P20.2: roots in cars, and a last car that is popular
func TestRootsInCars(t *testing.T) {
	one, two := api.Shape{P: 1}, api.Shape{P: 2}
	c := api.Config{C: 8, N: 12, S: 6, K: 2, Q: 2}
	h := heaptest.Built(c, []api.Shape{one, one, {R: 1}}, []heaptest.Car{heaptest.Used(1, two)}, []heaptest.Car{heaptest.Popular(0, two)})
	h = heaptest.Linked(h, [3]int{7, 1, 3}, [3]int{15, 0, 1}, [3]int{15, 1, 3}, [3]int{3, 0, 15}, [3]int{1, 0, 3})
	h.Regs[1] = 1
	regs, slots, _ := Roots(h)
	if !slices.Equal(regs, []int{1}) || !slices.Equal(slots, []int{9, 16, 17}) {
		t.Error(regs, slots)
	}
	g, moves, e := Do(h)
	if !slices.Equal(moves, []api.MvMove{{From: 1, To: 23, Words: 2}, {From: 3, To: 25, Words: 2}}) || e != api.OK {
		t.Error(moves, e)
	}
	if !slices.Equal(g.Trains.Youngest, []int{0, 2}) || !slices.Equal(g.Trains.Lowest, []int{1}) || g.Words[9] != 25 || g.Words[16] != 23 || g.Words[17] != 25 || g.Words[24] != 25 || g.Words[26] != 15 {
		t.Error(g)
	}
	if rule, e := nursery.Check(g); rule != 0 || e != api.OK {
		t.Error(rule, e)
	}
	if l, _ := Dead(h); !slices.Equal(l, []int{5}) {
		t.Error(l)
	}
}

// P20.4, P20.5, P20.6, P20.7, P20.8
func TestTheorem(t *testing.T) {
	r := heaptest.NewRandom(20)
	for range 400 {
		h := r.Heap(true)
		before := heaps.Clone(h)
		g, moves, e := Do(h)
		if rule, _ := nursery.Check(g); rule != 0 || e != api.OK || g.Top != 0 {
			t.Fatal(rule, e)
		}
		if !reflect.DeepEqual(h, before) {
			t.Fatal("the argument was changed")
		}
		was, _, _ := iso.Read(h.Words, h.Regs)
		if same, e := iso.Matches(g.Words, g.Regs, was); !same || e != api.OK {
			t.Fatal("another graph", e)
		}
		order, _ := Order(h)
		dead, _ := Dead(h)
		words, _ := Words(h)
		all, _ := nursery.Objects(h)
		met := append(order, dead...)
		slices.Sort(met)
		for i, a := range met {
			if a != all[i] || a > h.Config.S || i+1 == len(met) && len(all) > i+1 && all[i+1] <= h.Config.S {
				t.Fatal(met, all)
			}
		}
		if words > h.Top || g.Counts.Copied != h.Counts.Copied+int64(words) || len(moves) != len(order) {
			t.Fatal(words, g.Counts)
		}
		untouched(t, h, g)
		again, moves, _ := Do(g)
		if len(moves) > 0 || !heaptest.Equal(again, g) {
			t.Fatal("scavenging again changes something")
		}
	}
}

// untouched checks that nothing of the lowest train is changed but fields that held what was copied.
func untouched(t *testing.T, h, g api.Heap) {
	for _, car := range h.Trains.Lowest {
		start, end, _ := config.Space(h.Config, car)
		slots, _ := nursery.Slots(h, car)
		for a := start; a < end; a++ {
			old := h.Words[a]
			if old != g.Words[a] && (!slices.Contains(slots, a) || old > uint64(h.Config.S)) {
				t.Fatal("a word was changed", a)
			}
		}
		if g.Frames[car] != h.Frames[car] {
			t.Fatal("a frame was changed", car)
		}
	}
	if !slices.Equal(h.Trains.Lowest, g.Trains.Lowest) {
		t.Fatal("the lowest train was changed")
	}
}

// Results share no memory with arguments (R3)
func TestNewMemory(t *testing.T) {
	r := heaptest.NewRandom(1)
	for range 40 {
		h := r.Heap(true)
		before := heaps.Clone(h)
		var results []api.Heap
		g, _, _ := Do(h)
		f, _, _ := Do(g)
		again := heaps.Clone(g)
		heaptest.Scribble(f)
		if !reflect.DeepEqual(g, again) {
			t.Fatal("memory is shared")
		}
		results = append(results, g)
		for _, g := range results {
			heaptest.Scribble(g)
		}
		if !reflect.DeepEqual(h, before) {
			t.Fatal("memory is shared")
		}
	}
}
