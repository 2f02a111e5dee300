package rebuild

import (
	"math"
	"reflect"
	"slices"
	"testing"

	"shunter/api"
	"shunter/audit"
	"shunter/config"
	"shunter/heaps"
	"shunter/heaptest"
	"shunter/nursery"
	"shunter/remset"
	"shunter/slots"
)

// example has the object (1, 1) at 1, whose field has 7, and in car 0 (2, 0) at 7, whose fields have 1 and 7.
func example() api.Heap {
	h := heaptest.Built(heaptest.Sizes(), []api.Shape{{P: 1, R: 1}}, []heaptest.Car{heaptest.Used(0, api.Shape{P: 2})}, nil)
	h.Regs[0] = 1
	return heaptest.Linked(h, [3]int{1, 0, 7}, [3]int{7, 0, 1}, [3]int{7, 1, 7})
}

// bare is the example with empty sets.
func bare() api.Heap {
	h := example()
	h.Sets, _ = remset.New(h.Config)
	return h
}

// P32.1, and the errors of the other functions
func TestWhole(t *testing.T) {
	if !Whole(example()) || !Whole(bare()) {
		t.Error("the example is whole")
	}
	sloppy := example()
	sloppy.Sets = api.RmSets{}
	sloppy.Pin, sloppy.Counts.Full = 99, -1
	if !Whole(sloppy) {
		t.Error("sets, the pin and counts make no difference")
	}
	rich := heaptest.Built(heaptest.Sizes(), nil, []heaptest.Car{heaptest.Used(0, api.Shape{R: 3}, api.Shape{R: 3}), heaptest.Used(1, api.Shape{R: 3}, api.Shape{R: 3})}, nil)
	if !Whole(rich) {
		t.Error("the budget makes no difference")
	}
	change := func(f func(h *api.Heap)) api.Heap {
		h := example()
		f(&h)
		return h
	}
	for i, h := range []api.Heap{{}, change(func(h *api.Heap) { h.Regs[0] = 2 }), change(func(h *api.Heap) { h.Words[60] = 1 }), change(func(h *api.Heap) { h.Trains.Lowest = nil }), change(func(h *api.Heap) { h.Frames[0].State = api.FrPopular; h.Words[10] = 1; h.Frames[0].Top = 4 }), change(func(h *api.Heap) { h.Regs = nil })} {
		a, e1 := Sets(h)
		b, e2 := Missing(h)
		c, e3 := Surplus(h)
		d, e4 := Exact(h)
		f, e5 := Fix(h)
		g, n, e6 := Patch(h)
		l, e7 := Of(h, 0)
		if Whole(h) || !slices.Equal([]api.Errno{e1, e2, e3, e4, e5, e6, e7}, slices.Repeat([]api.Errno{api.ErrForm}, 7)) || len(a.Cars)+len(b)+len(c)+n+len(l) > 0 || d || !reflect.DeepEqual(f, api.Heap{}) || !reflect.DeepEqual(g, api.Heap{}) {
			t.Error(i, e1, e2, e3, e4, e5, e6, e7)
		}
	}
	few, broken := example(), example()
	few.Sets = api.RmSets{}
	broken.Sets.Cars[3].Cells, broken.Sets.Nursery.Cells = make([]int, 9000), nil
	for i, x := range []struct {
		h api.Heap
		e api.Errno
	}{{few, api.ErrRange}, {broken, api.ErrLong}} {
		_, e1 := Missing(x.h)
		_, e2 := Surplus(x.h)
		_, e3 := Exact(x.h)
		_, _, e4 := Patch(x.h)
		if !slices.Equal([]api.Errno{e1, e2, e3, e4}, slices.Repeat([]api.Errno{x.e}, 4)) {
			t.Error(i, e1, e2, e3, e4)
		}
		if f, e := Fix(x.h); !heaptest.Equal(f, example()) || e != api.OK {
			t.Error(i, e)
		}
	}
}

// P32.1, P32.2, P32.3
func TestExample(t *testing.T) {
	s, e := Sets(bare())
	if young, _ := remset.Young(s); !slices.Equal(young, []int{8}) || !remset.Same(s, example().Sets) || e != api.OK {
		t.Error(s, e)
	}
	if l, e := Missing(bare()); !slices.Equal(l, []api.RbSlot{{Car: -1, Slot: 8}}) || e != api.OK {
		t.Error(l, e)
	}
	if l, e := Surplus(bare()); len(l) > 0 || e != api.OK {
		t.Error(l, e)
	}
	if g, n, e := Patch(bare()); n != 1 || !heaptest.Equal(g, example()) || e != api.OK {
		t.Error(n, e)
	}
	h := bare()
	h.Sets.Cars[4], _ = slots.Of([]int{9, 5, 1600})
	h.Sets.Cars[0], _ = slots.Of([]int{8})
	if l, e := Surplus(h); !slices.Equal(l, []api.RbSlot{{Slot: 8}, {Car: 4, Slot: 5}, {Car: 4, Slot: 9}, {Car: 4, Slot: 1600}}) || e != api.OK {
		t.Error(l, e)
	}
	if exact, e := Exact(h); exact || e != api.OK {
		t.Error(exact, e)
	}
	before := heaps.Clone(h)
	g, n, e := Patch(h)
	if exact, _ := Exact(g); !exact || n != 5 || e != api.OK || slices.Index(g.Sets.Cars[4].Cells, -1) < 0 || !reflect.DeepEqual(h, before) {
		t.Error(n, e, exact)
	}
	f, e := Fix(h)
	if exact, _ := Exact(f); !exact || slices.Index(f.Sets.Cars[4].Cells, -1) >= 0 || e != api.OK {
		t.Error(exact, e)
	}
}

// P32.4, P32.7
func TestOf(t *testing.T) {
	for a, want := range map[int][]int{1: {8}, 7: nil} {
		if l, e := Of(bare(), a); !slices.Equal(l, want) || e != api.OK {
			t.Error(a, l, e)
		}
	}
	for _, a := range []int{0, 2, 8, -1, 15, math.MaxInt} {
		if l, e := Of(bare(), a); len(l) > 0 || e != api.ErrRange {
			t.Error(a, l, e)
		}
	}
}

// P32.5, P32.6, P32.7
func TestTheorem(t *testing.T) {
	r := heaptest.NewRandom(32)
	for range 150 {
		h := r.Heap(true)
		s, e := Sets(h)
		exact, e2 := Exact(h)
		if !remset.Same(s, h.Sets) || !exact || e+e2 != api.OK {
			t.Fatal(e, e2)
		}
		if g, n, _ := Patch(h); n != 0 || !reflect.DeepEqual(g.Sets, h.Sets) {
			t.Fatal("Patch of an exact heap")
		}
		for range r.Next(4) {
			car, slot := r.Next(h.Config.N), 1+r.Next(200)
			if r.Next(2) == 0 {
				h.Sets.Cars[car], _, _ = slots.Add(h.Sets.Cars[car], slot)
			} else if l, _ := slots.List(h.Sets.Nursery); len(l) > 0 {
				h.Sets.Nursery, _, _ = slots.Drop(h.Sets.Nursery, l[0])
			}
		}
		exact, _ = Exact(h)
		missing, _ := Missing(h)
		surplus, _ := Surplus(h)
		if exact != (audit.Rule(h) != api.AuSets) || exact != (len(missing)+len(surplus) == 0) {
			t.Fatal(exact, audit.Find(h))
		}
		f, _ := Fix(h)
		g, n, _ := Patch(h)
		if rule, _ := nursery.Check(f); rule != 0 || !heaptest.Equal(f, g) || n != len(missing)+len(surplus) {
			t.Fatal(rule, n)
		}
		objects, _ := nursery.Objects(f)
		for _, a := range objects {
			of, _ := Of(h, a)
			car, _ := config.Car(h.Config, a)
			set := f.Sets.Nursery
			if car >= 0 {
				set = f.Sets.Cars[car]
			}
			l, _ := slots.List(set)
			l = slices.DeleteFunc(l, func(slot int) bool { return f.Words[slot] != uint64(a) })
			if !slices.Equal(of, l) {
				t.Fatal(a, of, l)
			}
		}
	}
}

// Results share no memory with arguments (R3)
func TestNewMemory(t *testing.T) {
	r := heaptest.NewRandom(7)
	for range 40 {
		h := r.Heap(true)
		before := heaps.Clone(h)
		var results []api.Heap
		g, _ := Fix(h)
		f, _, _ := Patch(h)
		results = append(results, g, f)
		for _, g := range results {
			heaptest.Scribble(g)
		}
		if !reflect.DeepEqual(h, before) {
			t.Fatal("memory is shared")
		}
	}
}
