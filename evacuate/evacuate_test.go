package evacuate

import (
	"reflect"
	"slices"
	"testing"

	"shunter/api"
	"shunter/config"
	"shunter/external"
	"shunter/heaps"
	"shunter/heaptest"
	"shunter/iso"
	"shunter/nursery"
	"shunter/scavenge"
)

func turned() api.Heap {
	h, _, _ := scavenge.Do(heaptest.Young())
	h, _ = external.Turn(h)
	return h
}

// large is a config with room.
var large = api.Config{C: 8, N: 16, S: 6, K: 2, Q: 2}

// The errors that all functions return first.
func TestFirstErrors(t *testing.T) {
	bad := turned()
	bad.Regs[0] = 8
	empty, _ := nursery.New(heaptest.Sizes())
	for i, x := range []struct {
		h api.Heap
		e api.Errno
	}{{bad, api.ErrForm}, {api.Heap{}, api.ErrRange}, {heaptest.Young(), api.ErrDown}, {empty, api.ErrDown}} {
		o, e1 := Out(x.h)
		k, e2 := Kept(x.h)
		n, e3 := Gone(x.h)
		p, e4 := Popular(x.h, 99)
		g, r, e5 := Do(x.h)
		if !slices.Equal([]api.Errno{e1, e2, e3, e4, e5}, slices.Repeat([]api.Errno{x.e}, 5)) || len(o)+len(k)+len(n) > 0 || p || !reflect.DeepEqual(g, api.Heap{}) || !reflect.DeepEqual(r, api.EvReport{}) {
			t.Error(i, e1, e2, e3, e4, e5)
		}
	}
}

// P22.1, P22.3: the example
func TestExample(t *testing.T) {
	h := turned()
	out, e1 := Out(h)
	kept, e2 := Kept(h)
	gone, e3 := Gone(h)
	if !slices.Equal(out, []int{7, 10}) || len(kept)+len(gone) > 0 || e1+e2+e3 != api.OK {
		t.Error(out, kept, gone)
	}
	g, r, e := Do(h)
	if !slices.Equal(r.Out, []api.MvMove{{From: 7, To: 15, Words: 3}, {From: 10, To: 18, Words: 3}}) || len(r.Kept)+r.Gone+r.Popular > 0 || e != api.OK {
		t.Error(r, e)
	}
	if g.Frames[0] != (api.Frame{}) || !slices.Equal(g.Trains.Youngest, []int{1}) || len(g.Trains.Lowest) > 0 || g.Counts.Cars != 1 || g.Counts.Copied != 12 || g.Words[7] != 0 {
		t.Error(g)
	}
	h.Regs[0] = 0
	if l, e := Gone(h); !slices.Equal(l, []int{7, 10}) || e != api.OK {
		t.Error(l, e)
	}
	if _, r, _ := Do(h); r.Gone != 6 || len(r.Out)+len(r.Kept) > 0 {
		t.Error(r)
	}
}

// P22.1, P22.3: registers, slots and the pin, and what is kept
func TestOrder(t *testing.T) {
	one, pair := api.Shape{P: 1}, api.Shape{P: 2}
	h := heaptest.Built(large, nil, []heaptest.Car{heaptest.Used(0, one, one, one, one), heaptest.Used(1, pair, pair)}, []heaptest.Car{heaptest.Used(2, pair)})
	// Car 0 has objects at 7, 9, 11, 13; car 1 at 15, 18; car 2 at 23.
	h = heaptest.Linked(h, [3]int{15, 0, 9}, [3]int{15, 1, 11}, [3]int{18, 0, 7}, [3]int{18, 1, 15}, [3]int{23, 1, 13}, [3]int{13, 0, 11})
	h.Pin = 13
	out, _ := Out(h)
	kept, _ := Kept(h)
	gone, _ := Gone(h)
	if !slices.Equal(out, []int{13, 11}) || !slices.Equal(kept, []int{9, 7}) || len(gone) > 0 {
		t.Error(out, kept, gone)
	}
	g, r, e := Do(h)
	if g.Pin != 0 || !slices.Equal(r.Out, []api.MvMove{{From: 13, To: 26, Words: 2}, {From: 11, To: 28, Words: 2}}) || !slices.Equal(r.Kept, []api.MvMove{{From: 9, To: 21, Words: 2}, {From: 7, To: 31, Words: 2}}) || e != api.OK {
		t.Error(g.Pin, r, e)
	}
	if !slices.Equal(g.Trains.Lowest, []int{1, 3}) || !slices.Equal(g.Trains.Youngest, []int{2}) || g.Words[16] != 21 || g.Words[17] != 28 || g.Words[19] != 31 || g.Words[25] != 26 || g.Words[27] != 28 {
		t.Error(g.Trains, g.Words)
	}
	h.Pin, h.Regs = 15, []int{11, 9}
	h = heaptest.Linked(h, [3]int{9, 0, 7})
	out, _ = Out(h)
	if g, _, _ := Do(h); !slices.Equal(out, []int{11, 9, 13, 7}) || g.Pin != 15 {
		t.Error(out, g.Pin)
	}
}

// P22.2, P22.3: popular objects get cars of their own, but never more than two
func TestPopular(t *testing.T) {
	two, one := api.Shape{P: 2}, api.Shape{P: 1}
	h := heaptest.Built(large, nil, []heaptest.Car{heaptest.Used(0, one, one, two, api.Shape{})}, []heaptest.Car{heaptest.Used(1, two, two), heaptest.Used(2, two)})
	// Car 0 has objects at 7, 9, 11, 14; car 1 at 15, 18; car 2 at 23.
	h = heaptest.Linked(h, [3]int{15, 0, 7}, [3]int{15, 1, 7}, [3]int{18, 0, 9}, [3]int{18, 1, 9}, [3]int{23, 0, 11}, [3]int{23, 1, 11})
	for a, want := range map[int]bool{7: true, 9: true, 11: true, 14: false} {
		if p, e := Popular(h, a); p != want || e != api.OK {
			t.Error(a, p, e)
		}
	}
	for _, a := range []int{0, 8, 15, -1} {
		if p, e := Popular(h, a); p || e != api.ErrArg {
			t.Error(a, p, e)
		}
	}
	g, r, e := Do(h)
	if r.Popular != 2 || e != api.OK || !slices.Equal(g.Trains.Youngest, []int{1, 3, 4, 2}) || g.Frames[3] != (api.Frame{State: 2, Top: 2}) || g.Frames[2].Top != 6 || r.Out[2].To != 26 || r.Gone != 1 {
		t.Error(r, g.Trains, g.Frames, e)
	}
	if rule, e := nursery.Check(g); rule != 0 || e != api.OK {
		t.Error(rule, e)
	}
	h = heaptest.Linked(h, [3]int{15, 1, 0}, [3]int{18, 1, 0}, [3]int{23, 1, 0}, [3]int{11, 0, 7})
	if p, _ := Popular(h, 7); p {
		t.Error("slots of the car itself do not count")
	}
	only := heaptest.Built(large, nil, []heaptest.Car{heaptest.Popular(0, two)}, []heaptest.Car{heaptest.Popular(1, two)})
	only = heaptest.Linked(only, [3]int{15, 0, 7}, [3]int{15, 1, 7})
	if g, r, _ := Do(only); r.Popular != 0 || !slices.Equal(g.Trains.Youngest, []int{1, 2}) || g.Frames[2].State != api.FrUsed {
		t.Error("the car itself counts among the popular ones", r, g.Trains)
	}
}

// P22.4, P22.5, P22.6, P22.7, P22.8
func TestTheorem(t *testing.T) {
	r := heaptest.NewRandom(22)
	popular, kept, gone := 0, 0, 0
	for range 800 {
		h := r.Heap(false)
		before := heaps.Clone(h)
		g, report, e := Do(h)
		if len(h.Trains.Lowest) == 0 {
			if e != api.ErrDown {
				t.Fatal(e)
			}
			continue
		}
		if rule, _ := nursery.Check(g); rule != 0 || e != api.OK {
			t.Fatal(rule, e)
		}
		was, _, _ := iso.Read(h.Words, h.Regs)
		if same, _ := iso.Matches(g.Words, g.Regs, was); !same {
			t.Fatal("another graph")
		}
		if !reflect.DeepEqual(h, before) {
			t.Fatal("the argument was changed")
		}
		parts(t, h, g, report)
		popular += report.Popular
		kept += len(report.Kept)
		gone += report.Gone
	}
	if popular < 20 || kept < 20 || gone < 20 {
		t.Error(popular, kept, gone)
	}
}

// parts checks that all objects of the car are told of, and that others stay.
func parts(t *testing.T, h, g api.Heap, r api.EvReport) {
	car := h.Trains.Lowest[0]
	start, end, _ := config.Space(h.Config, car)
	out, _ := Out(h)
	kept, _ := Kept(h)
	gone, _ := Gone(h)
	words := r.Gone
	for _, m := range append(slices.Clone(r.Out), r.Kept...) {
		words += m.Words
	}
	if words != h.Frames[car].Top || g.Counts.Copied-h.Counts.Copied != int64(words-r.Gone) || !slices.Equal(froms(r.Out), out) {
		t.Fatal(words, r)
	}
	met := slices.Concat(out, kept, gone)
	slices.Sort(met)
	all, _ := nursery.Objects(h)
	all = slices.DeleteFunc(all, func(a int) bool { return a < start || a >= end })
	if !slices.Equal(met, all) {
		t.Fatal(met, all)
	}
	for other, f := range h.Frames {
		from, _, _ := config.Space(h.Config, other)
		if other == car {
			continue
		}
		slots, _ := nursery.Slots(h, other)
		for a := from; a < from+f.Top; a++ {
			old := int(h.Words[a])
			if h.Words[a] != g.Words[a] && (!slices.Contains(slots, a) || old < start || old >= end) {
				t.Fatal("a word of another car was changed", a)
			}
		}
	}
	for _, now := range g.Trains.Lowest {
		if !slices.Contains(h.Trains.Lowest, now) && h.Frames[now].State != api.FrFree {
			t.Fatal("a car came into the lowest train", now)
		}
	}
}

// Results share no memory with arguments (R3)
func TestNewMemory(t *testing.T) {
	r := heaptest.NewRandom(3)
	for range 40 {
		h := r.Heap(false)
		before := heaps.Clone(h)
		var results []api.Heap
		g, _, _ := Do(h)
		results = append(results, g)
		for _, g := range results {
			heaptest.Scribble(g)
		}
		if !reflect.DeepEqual(h, before) {
			t.Fatal("memory is shared")
		}
	}
}
