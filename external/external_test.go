package external

import (
	"reflect"
	"slices"
	"testing"

	"shunter/api"
	"shunter/heaps"
	"shunter/heaptest"
	"shunter/iso"
	"shunter/nursery"
	"shunter/remset"
	"shunter/scavenge"
)

// turned is the heap of the examples after it was scavenged and turned.
func turned() api.Heap {
	h, _, _ := scavenge.Do(heaptest.Young())
	h, _ = Turn(h)
	return h
}

// linked has objects of P 2 in the cars 0 (7), 1 (15), both in the lowest train, and 2 (23), 3 (31) in the youngest one.
func linked() api.Heap {
	two, six := api.Shape{P: 2}, api.Shape{R: 1}
	c := api.Config{C: 8, N: 14, S: 6, K: 3, Q: 2}
	h := heaptest.Built(c, nil, []heaptest.Car{heaptest.Used(0, two, six), heaptest.Used(1, two)}, []heaptest.Car{heaptest.Used(2, two, six), heaptest.Used(3, two)})
	h = heaptest.Linked(h, [3]int{31, 0, 15}, [3]int{31, 1, 7}, [3]int{23, 0, 7}, [3]int{15, 0, 7}, [3]int{7, 0, 15}, [3]int{7, 1, 7})
	h.Regs = []int{7, 23, 15}
	h.Pin = 15
	return h
}

func sameRefs(x api.ExRefs, regs, slots []int, pin bool) bool {
	return slices.Equal(x.Regs, regs) && slices.Equal(x.Slots, slots) && x.Pin == pin
}

// The errors that all functions return first.
func TestFirstErrors(t *testing.T) {
	bad := turned()
	bad.Regs[0] = 8
	for i, x := range []struct {
		h api.Heap
		e api.Errno
	}{{bad, api.ErrForm}, {api.Heap{}, api.ErrRange}, {heaptest.Young(), api.ErrDown}} {
		a, e1 := Of(x.h)
		b, e2 := Into(x.h, 99)
		c, e3 := Any(x.h)
		d, e4 := Turn(x.h)
		f, n, e5 := Free(x.h)
		l, e6 := Inside(x.h, 99)
		if !slices.Equal([]api.Errno{e1, e2, e3, e4, e5, e6}, slices.Repeat([]api.Errno{x.e}, 6)) || !sameRefs(a, nil, nil, false) || !sameRefs(b, nil, nil, false) || c || n+len(l) > 0 || !reflect.DeepEqual(d, api.Heap{}) || !reflect.DeepEqual(f, api.Heap{}) {
			t.Error(i, e1, e2, e3, e4, e5, e6)
		}
	}
}

// P21.1, P21.3
func TestReferences(t *testing.T) {
	if x, e := Of(turned()); !sameRefs(x, []int{0}, nil, false) || e != api.OK {
		t.Error(x, e)
	}
	h := linked()
	if x, e := Of(h); !sameRefs(x, []int{0, 2}, []int{24, 32, 33}, true) || e != api.OK {
		t.Error(x, e)
	}
	if x, e := Into(h, 0); !sameRefs(x, []int{0}, []int{24, 33}, false) || e != api.OK {
		t.Error(x, e)
	}
	if x, e := Into(h, 1); !sameRefs(x, []int{2}, []int{32}, true) || e != api.OK {
		t.Error(x, e)
	}
	for _, car := range []int{2, -1, 14, 5} {
		x, e := Into(h, car)
		l, e2 := Inside(h, car)
		if !sameRefs(x, nil, nil, false) || len(l) > 0 || e != api.ErrRange || e2 != api.ErrRange {
			t.Error(car, x, l, e, e2)
		}
	}
	for car, want := range map[int][]int{0: {16}, 1: {8}} {
		if l, e := Inside(h, car); !slices.Equal(l, want) || e != api.OK {
			t.Error(car, l, e)
		}
	}
	if any, e := Any(h); !any || e != api.OK {
		t.Error(any, e)
	}
	h.Regs = []int{0, 23, 31}
	h = heaptest.Linked(h, [3]int{31, 0, 0}, [3]int{31, 1, 0}, [3]int{23, 0, 0})
	if any, _ := Any(h); !any {
		t.Error("the pin is one")
	}
	h.Pin = 0
	if any, _ := Any(h); any {
		t.Error("there is none")
	}
}

// P21.2, P21.4, P21.7
func TestTurnFree(t *testing.T) {
	h := turned()
	if !slices.Equal(h.Trains.Lowest, []int{0}) || len(h.Trains.Youngest) > 0 {
		t.Error(h.Trains)
	}
	if again, e := Turn(h); !heaptest.Equal(again, h) || e != api.OK {
		t.Error(e)
	}
	if g, n, e := Free(h); !reflect.DeepEqual(g, api.Heap{}) || n != 0 || e != api.ErrDown {
		t.Error(n, e)
	}
	h.Regs[0] = 0
	g, n, e := Free(h)
	if n != 1 || g.Counts.Trains != 1 || e != api.OK || g.Words[7] != 0 || len(g.Trains.Lowest) > 0 || g.Frames[0] != (api.Frame{}) {
		t.Error(g, n, e)
	}
	if g, n, e := Free(g); !reflect.DeepEqual(g, api.Heap{}) || n != 0 || e != api.ErrDown {
		t.Error(n, e)
	}
	h = linked()
	h.Pin, h.Regs = 0, []int{0, 23, 0}
	h = heaptest.Linked(h, [3]int{31, 0, 0}, [3]int{31, 1, 0}, [3]int{23, 0, 0}, [3]int{15, 1, 31}, [3]int{7, 1, 23})
	g, n, e = Free(h)
	if count, _ := remset.Count(g.Sets); n != 2 || e != api.OK || count != 0 || g.Regs[1] != 23 {
		t.Error(n, e, count)
	}
	if rule, e := nursery.Check(g); rule != 0 || e != api.OK {
		t.Error(rule, e)
	}
}

// P21.4, P21.5, P21.6, P21.7, P21.8
func TestTheorem(t *testing.T) {
	r := heaptest.NewRandom(21)
	freed := 0
	for i := range 300 {
		h := r.Heap(false)
		if i%2 == 0 {
			for car := range h.Regs {
				h.Regs[car] = 0
			}
			h.Pin = 0
		}
		before := heaps.Clone(h)
		whole, _ := Of(h)
		var regs, slots []int
		pins := 0
		for _, car := range h.Trains.Lowest {
			x, _ := Into(h, car)
			inside, _ := Inside(h, car)
			set, _ := remset.Into(h.Sets, car)
			both := append(inside, x.Slots...)
			slices.Sort(both)
			if !slices.Equal(both, set) {
				t.Fatal(both, set)
			}
			regs, slots = append(regs, x.Regs...), append(slots, x.Slots...)
			if x.Pin {
				pins++
			}
		}
		slices.Sort(regs)
		slices.Sort(slots)
		if !sameRefs(whole, regs, slots, pins == 1) || pins > 1 {
			t.Fatal(whole, regs, slots)
		}
		g, e := Turn(h)
		if rule, _ := nursery.Check(g); rule != 0 || e != api.OK || len(g.Trains.Lowest) == 0 && len(g.Trains.Youngest) > 0 {
			t.Fatal(rule, e)
		}
		if f, n, e := Free(h); e == api.OK {
			freed++
			was, _, _ := iso.Read(h.Words, h.Regs)
			same, _ := iso.Matches(f.Words, f.Regs, was)
			if rule, _ := nursery.Check(f); rule != 0 || !same || n != len(h.Trains.Lowest) || f.Counts.Copied != h.Counts.Copied {
				t.Fatal(rule, same)
			}
		}
		if !reflect.DeepEqual(h, before) {
			t.Fatal("the argument was changed")
		}
	}
	if freed < 10 {
		t.Error(freed)
	}
}

// Results share no memory with arguments (R3)
func TestNewMemory(t *testing.T) {
	r := heaptest.NewRandom(2)
	for range 40 {
		h := r.Heap(false)
		before := heaps.Clone(h)
		var results []api.Heap
		g, _ := Turn(h)
		f, _, _ := Free(h)
		results = append(results, g, f)
		for _, g := range results {
			heaptest.Scribble(g)
		}
		if !reflect.DeepEqual(h, before) {
			t.Fatal("memory is shared")
		}
	}
}
