package nursery

import (
	"math"
	"reflect"
	"slices"
	"testing"

	"shunter/api"
	"shunter/heaps"
	"shunter/slots"
)

var sizes = api.Config{C: 8, N: 9, S: 6, K: 2, Q: 2}

func empty() api.Heap {
	h, _ := New(sizes)
	return h
}

// small has objects at 1 (P 1, R 1, which holds 7) and, in car 0 of the lowest train, at 7 (P 2, which holds 1 and 7).
func small() api.Heap {
	h := empty()
	h.Top = 3
	copy(h.Words[1:], []uint64{65793, 7, 0})
	copy(h.Words[7:], []uint64{513, 1, 7})
	h.Frames[0] = api.Frame{State: api.FrUsed, Top: 3}
	h.Trains.Lowest = []int{0}
	h.Sets.Nursery, _ = slots.Of([]int{8})
	h.Regs[0] = 1
	h.Pin = 7
	return h
}

// broken are heaps that break a rule, and this rule.
func broken() map[string]struct {
	h    api.Heap
	rule int
} {
	l := map[string]struct {
		h    api.Heap
		rule int
	}{}
	with := func(name string, rule int, change func(h *api.Heap)) {
		h := small()
		change(&h)
		l[name] = struct {
			h    api.Heap
			rule int
		}{h, rule}
	}
	with("words", 1, func(h *api.Heap) { h.Words = h.Words[:70] })
	with("top", 1, func(h *api.Heap) { h.Top = 7 })
	with("top below", 1, func(h *api.Heap) { h.Top = -1 })
	with("frames", 1, func(h *api.Heap) { h.Frames = h.Frames[:8] })
	with("state", 1, func(h *api.Heap) { h.Frames[3].State = 3 })
	with("frame top", 1, func(h *api.Heap) { h.Frames[0].Top = 9 })
	with("train", 1, func(h *api.Heap) { h.Trains.Youngest = []int{9} })
	with("twice", 1, func(h *api.Heap) { h.Trains.Youngest = []int{0} })
	with("sets", 1, func(h *api.Heap) { h.Sets.Cars = h.Sets.Cars[:8] })
	with("set", 1, func(h *api.Heap) { h.Sets.Cars[4].Cells = nil })
	with("nursery set", 1, func(h *api.Heap) { h.Sets.Nursery.Cells = nil })
	with("registers", 1, func(h *api.Heap) { h.Regs = h.Regs[:1] })
	with("free in train", 2, func(h *api.Heap) { h.Trains.Lowest = []int{0, 1} })
	with("no train", 2, func(h *api.Heap) { h.Trains.Lowest = nil })
	with("free with top", 2, func(h *api.Heap) { h.Frames[5].Top = 1 })
	with("not filled", 3, func(h *api.Heap) { h.Top = 4 })
	with("beyond", 3, func(h *api.Heap) { h.Top = 2 })
	with("word 0", 3, func(h *api.Heap) { h.Words[0] = 1 })
	with("not zero", 3, func(h *api.Heap) { h.Words[70] = 1 })
	with("too large", 3, func(h *api.Heap) { h.Top = 5; h.Words[1] = 1 + 256 + 65536*3 })
	with("pointer", 4, func(h *api.Heap) { h.Words[2] = 8 })
	with("great pointer", 4, func(h *api.Heap) { h.Words[9] = math.MaxUint64 })
	with("register", 4, func(h *api.Heap) { h.Regs[1] = 2 })
	with("negative register", 4, func(h *api.Heap) { h.Regs[1] = -1 })
	with("popular with two", 5, func(h *api.Heap) { h.Frames[0] = api.Frame{State: 2, Top: 4}; h.Words[10] = 1 })
	with("popular without", 5, func(h *api.Heap) { h.Frames[1].State = 2; h.Trains.Lowest = []int{1, 0} })
	with("popular last", 5, func(h *api.Heap) {
		h.Frames[1] = api.Frame{State: 2, Top: 1}
		h.Words[15] = 1
		h.Trains.Lowest = []int{0, 1}
	})
	with("three popular", 5, func(h *api.Heap) {
		for car := 1; car < 4; car++ {
			h.Frames[car] = api.Frame{State: 2, Top: 1}
			h.Words[7+8*car] = 1
		}
		h.Trains.Youngest = []int{1, 2, 3}
	})
	with("not half full", 5, func(h *api.Heap) {
		h.Frames[1] = api.Frame{State: 1, Top: 1}
		h.Words[15] = 1
		h.Trains.Lowest = []int{0, 1}
	})
	with("missing", 6, func(h *api.Heap) { h.Sets.Nursery = slots.New() })
	with("surplus", 6, func(h *api.Heap) { h.Sets.Cars[0], _ = slots.Of([]int{2}) })
	with("pin", 7, func(h *api.Heap) { h.Pin = 8 })
	with("young pin", 7, func(h *api.Heap) { h.Pin = 1 })
	with("pin below", 7, func(h *api.Heap) { h.Pin = -1 })
	with("pin of the youngest train", 7, func(h *api.Heap) { h.Trains = api.TrTrains{Youngest: []int{0}} })
	with("budget", 8, func(h *api.Heap) {
		h.Frames[1] = api.Frame{State: 1, Top: 7}
		for a := 15; a < 22; a++ {
			h.Words[a] = 1
		}
		h.Trains.Youngest = []int{1}
	})
	with("count", 9, func(h *api.Heap) { h.Counts.Full = -1 })
	with("first count", 9, func(h *api.Heap) { h.Counts.Pauses = -1 })
	return l
}

// P17.1, and the error of Check of the other functions
func TestNewCheck(t *testing.T) {
	h := empty()
	if rule, e := Check(h); rule != 0 || e != api.OK || len(h.Words) != 79 || len(h.Frames) != 9 || len(h.Regs) != 2 || len(h.Sets.Cars[8].Cells) != 8 || h.Top != 0 {
		t.Error(h, rule, e)
	}
	if rule, e := Check(small()); rule != 0 || e != api.OK {
		t.Error(rule, e)
	}
	if h, e := New(api.Config{}); !reflect.DeepEqual(h, api.Heap{}) || e != api.ErrRange {
		t.Error(h, e)
	}
	if rule, e := Check(api.Heap{}); rule != 1 || e != api.ErrRange {
		t.Error(rule, e)
	}
	for name, x := range broken() {
		if rule, e := Check(x.h); rule != x.rule || e != api.ErrForm {
			t.Error(name, rule, e)
		}
		l, e1 := Objects(x.h)
		n, e2 := Occupied(x.h)
		y, e3 := Young(x.h, 0)
		m, e4 := Left(x.h)
		g, a, e5 := Bump(x.h, api.Shape{P: -1})
		s, e6 := Slots(x.h, 99)
		if !slices.Equal([]api.Errno{e1, e2, e3, e4, e5, e6}, slices.Repeat([]api.Errno{api.ErrForm}, 6)) || len(l)+n+m+a+len(s) > 0 || y || !reflect.DeepEqual(g, api.Heap{}) {
			t.Error(name, e1, e2, e3, e4, e5, e6)
		}
	}
}

// P17.1: the largest arena with an object at its last address, and a popular car
func TestGood(t *testing.T) {
	h, _ := New(api.Config{C: 64, N: 24, S: 64, K: 1, Q: 2})
	h.Words[1537], h.Words[1569], h.Words[1600] = 1+65536*31, 1+256*30, 1
	h.Words[1570] = 1600
	h.Frames[23] = api.Frame{State: api.FrUsed, Top: 64}
	h.Words[65] = 1
	h.Frames[0] = api.Frame{State: api.FrPopular, Top: 1}
	h.Trains.Youngest = []int{0, 23}
	h.Regs[0] = 1600
	if rule, e := Check(h); rule != 0 || e != api.OK {
		t.Error(rule, e)
	}
}

// P17.2, P17.6
func TestObjectsOccupiedLeft(t *testing.T) {
	l, e := Objects(small())
	n, e2 := Occupied(small())
	m, e3 := Left(small())
	if !slices.Equal(l, []int{1, 7}) || n != 6 || m != 3 || e+e2+e3 != api.OK {
		t.Error(l, n, m)
	}
}

// P17.3
func TestYoungSlots(t *testing.T) {
	for a, want := range map[int]bool{1: true, 7: false} {
		if y, e := Young(small(), a); y != want || e != api.OK {
			t.Error(a, y, e)
		}
	}
	for _, a := range []int{0, 2, -1, 15, math.MaxInt} {
		if y, e := Young(small(), a); y || e != api.ErrArg {
			t.Error(a, y, e)
		}
	}
	for car, want := range map[int][]int{-1: {2}, 0: {8, 9}, 8: nil} {
		if l, e := Slots(small(), car); !slices.Equal(l, want) || e != api.OK {
			t.Error(car, l, e)
		}
	}
	for _, car := range []int{-2, 9, math.MaxInt} {
		if l, e := Slots(small(), car); len(l) > 0 || e != api.ErrRange {
			t.Error(car, l, e)
		}
	}
}

// P17.4, P17.5, P17.8
func TestBump(t *testing.T) {
	h := empty()
	g, a, e := Bump(h, api.Shape{P: 1, R: 1})
	if left, _ := Left(g); a != 1 || left != 3 || e != api.OK {
		t.Error(a, left, e)
	}
	f, a, e := Bump(g, api.Shape{P: 1, R: 1})
	if left, _ := Left(f); a != 4 || left != 0 || e != api.OK {
		t.Error(a, left, e)
	}
	if rule, e := Check(f); rule != 0 || e != api.OK || f.Words[4] != 65793 || !reflect.DeepEqual(h, empty()) {
		t.Error(rule, e)
	}
	for i, x := range []struct {
		h api.Heap
		s api.Shape
		e api.Errno
	}{{f, api.Shape{}, api.ErrFull}, {f, api.Shape{P: 2, R: 2}, api.ErrTooLarge}, {f, api.Shape{P: -1, R: 99}, api.ErrRange}, {h, api.Shape{P: math.MaxInt, R: math.MaxInt}, api.ErrTooLarge}, {h, api.Shape{R: math.MinInt}, api.ErrRange}, {g, api.Shape{P: 3}, api.ErrFull}} {
		if g, a, e := Bump(x.h, x.s); !reflect.DeepEqual(g, api.Heap{}) || a != 0 || e != x.e {
			t.Error(i, a, e)
		}
	}
	before := heaps.Clone(small())
	s := small()
	g, a, e = Bump(s, api.Shape{P: 2})
	g.Sets.Nursery.Cells[0], g.Regs[0], g.Frames[0].Top, g.Trains.Lowest[0] = 99, 99, 99, 99
	if a != 4 || e != api.OK || !reflect.DeepEqual(s, before) {
		t.Error(a, e)
	}
}

// P17.7
func TestRoom(t *testing.T) {
	for _, c := range []api.Config{sizes, {C: 8, N: 7, S: 64, K: 1, Q: 2}, {C: 64, N: 24, S: 64, K: 8, Q: 16}} {
		h, _ := New(c)
		words := 0
		for {
			g, _, e := Bump(h, api.Shape{})
			if e != api.OK {
				break
			}
			h = g
			words++
		}
		if rule, e := Check(h); words != min(c.S, c.C*(c.N-6)/2) || rule != 0 || e != api.OK {
			t.Error(c, words, rule, e)
		}
	}
}
