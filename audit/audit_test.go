package audit

import (
	"math"
	"reflect"
	"slices"
	"strings"
	"testing"

	"shunter/api"
	"shunter/heaps"
	"shunter/heaptest"
	"shunter/nursery"
	"shunter/remset"
	"shunter/slots"
)

func empty() api.Heap {
	h, _ := nursery.New(heaptest.Sizes())
	return h
}

// filled has objects at 1 (P 1, R 1), in car 0 at 7 (P 2), 10 (P 1), in car 1 at 15 (P 2); it has room for more.
func filled() api.Heap {
	two, one := api.Shape{P: 2}, api.Shape{P: 1}
	c := api.Config{C: 8, N: 16, S: 6, K: 2, Q: 2}
	h := heaptest.Built(c, []api.Shape{{P: 1, R: 1}}, []heaptest.Car{heaptest.Used(0, two, one)}, []heaptest.Car{heaptest.Used(1, two)})
	h = heaptest.Linked(h, [3]int{7, 0, 1}, [3]int{7, 1, 15}, [3]int{15, 0, 7}, [3]int{1, 0, 15}, [3]int{10, 0, 7})
	h.Regs[0] = 15
	h.Pin = 10
	return h
}

func set(l ...int) api.SlSet {
	s, _ := slots.Of(l)
	return s
}

// breaks returns breaks, each of which is told by its three numbers.
func breaks(l [][3]int) []api.AuBreak {
	var out []api.AuBreak
	for _, x := range l {
		out = append(out, api.AuBreak{Rule: x[0], Where: x[1], What: x[2]})
	}
	return out
}

// changes are changes of filled, and the breaks that they make.
func changes() map[string]struct {
	change func(h *api.Heap)
	want   [][3]int
} {
	type changed = struct {
		change func(h *api.Heap)
		want   [][3]int
	}
	return map[string]changed{
		"config": {func(h *api.Heap) { h.Config.N = 25; h.Top = -1 }, [][3]int{{1, 1, 7}}},
		"parts": {func(h *api.Heap) {
			h.Frames, h.Words, h.Regs, h.Top = h.Frames[1:], h.Words[1:], nil, 7
			h.Sets.Cars, h.Trains.Youngest = nil, []int{0, 16}
		}, [][3]int{{1, 2, -1}, {1, 3, 0}, {1, 4, -2}, {1, 5, 134}, {1, 6, 7}, {1, 7, 0}}},
		"more parts": {func(h *api.Heap) {
			h.Frames[3].State, h.Frames[4].Top = 3, -1
			h.Trains.Lowest = []int{0, -3, 99}
			h.Sets.Cars[5].Cells, h.Sets.Nursery.Cells = nil, nil
			h.Top = -1
		}, [][3]int{{1, 2, 3}, {1, 3, -3}, {1, 4, 5}, {1, 6, -1}}},
		"no car": {func(h *api.Heap) { h.Trains.Youngest = []int{1, 16} }, [][3]int{{1, 3, 16}}},
		"just half": {func(h *api.Heap) {
			h.Frames[0].Top, h.Frames[2] = 4, api.Frame{State: 1, Top: 2}
			h.Words[10], h.Words[11], h.Words[23], h.Words[24] = 1, 0, 257, 7
			h.Trains.Lowest = []int{0, 2}
		}, [][3]int{{5, -1, 0}}},
		"nursery set": {func(h *api.Heap) { h.Sets.Nursery.Cells = nil; h.Frames[0].Top = 9 }, [][3]int{{1, 2, 0}, {1, 4, -1}}},
		"trains": {func(h *api.Heap) {
			h.Trains = api.TrTrains{Lowest: []int{0, 3}}
			h.Frames[3].Top, h.Frames[5].Top = 1, 2
		}, [][3]int{{2, 1, 2}, {2, 3, 1}, {2, 5, 3}}},
		"fill": {func(h *api.Heap) {
			h.Words[0], h.Words[5], h.Words[60] = 9, 9, 9
			h.Frames[1].Top = 2
			h.Words[10] = 2
		}, [][3]int{{3, 0, 3}, {3, 5, 3}, {3, 10, 1}, {3, 15, 1}, {3, 60, 3}}},
		"too large": {func(h *api.Heap) { h.Words[1] = 1 + 256 + 65536*3; h.Top = 5 }, [][3]int{{3, 1, 2}}},
		"pointers": {func(h *api.Heap) {
			h.Words[8], h.Words[9], h.Words[2] = 8, math.MaxUint64, 1600
			h.Regs = []int{-5, 2000}
		}, [][3]int{{4, -2, 2000}, {4, -1, -5}, {4, 2, 1600}, {4, 8, 8}, {4, 9, -1}}},
		"popular": {func(h *api.Heap) {
			h.Frames[0].State, h.Frames[2], h.Frames[3] = 2, api.Frame{State: 2}, api.Frame{State: 2}
			h.Trains.Youngest = []int{1, 2, 3}
		}, [][3]int{{5, -3, 3}, {5, -2, 0}, {5, 0, 2}, {5, 2, 0}, {5, 3, 0}}},
		"half": {func(h *api.Heap) {
			h.Trains = api.TrTrains{Lowest: []int{1, 0}}
		}, [][3]int{{5, -1, 0}}},
		"sets": {func(h *api.Heap) {
			h.Sets.Nursery, h.Sets.Cars[0], h.Sets.Cars[9] = set(9), set(16, 2), set(700)
		}, [][3]int{{6, -1, 8}, {6, -1, 9}, {6, 0, 2}, {6, 9, 700}}},
		"pin":      {func(h *api.Heap) { h.Pin = 15; h.Counts.Full = -1 }, [][3]int{{7, 15, 0}}},
		"pin else": {func(h *api.Heap) { h.Pin = -4 }, [][3]int{{7, -4, 0}}},
		"young":    {func(h *api.Heap) { h.Pin = 1 }, [][3]int{{7, 1, 0}}},
		"counts":   {func(h *api.Heap) { h.Counts.Pauses, h.Counts.Full, h.Counts.Relinked = -1, -9, -3 }, [][3]int{{9, 1, -1}, {9, 5, -1}, {9, 8, -1}}},
	}
}

// P31.1
func TestFind(t *testing.T) {
	if l := Find(filled()); len(l) > 0 || !Sound(filled()) || Rule(filled()) != 0 {
		t.Fatal(l)
	}
	for name, x := range changes() {
		h := filled()
		x.change(&h)
		before := heaps.Clone(h)
		l := Find(h)
		if !slices.Equal(l, breaks(x.want)) || Sound(h) || Rule(h) != x.want[0][0] || !heaptest.Equal(h, before) {
			t.Error(name, l)
		}
	}
	many := empty()
	many.Words = slices.Clone(many.Words)
	for a := range many.Words {
		many.Words[a] = 7
	}
	if l := Find(many); len(l) != 79 || l[0] != (api.AuBreak{Rule: 3, What: 3}) {
		t.Error(l)
	}
	large, _ := nursery.New(api.Config{C: 64, N: 24, S: 64, K: 1, Q: 2})
	for a := range large.Words {
		large.Words[a] = 7
	}
	if l := Find(large); len(l) != 100 || l[99] != (api.AuBreak{Rule: 3, Where: 99, What: 3}) {
		t.Error(len(l))
	}
	clear(large.Words)
	large.Words[1537], large.Words[1569], large.Words[1600] = 1+65536*31, 1+256*30, 1
	large.Words[1570], large.Regs[0] = 1600, 1600
	large.Frames[23] = api.Frame{State: api.FrUsed, Top: 64}
	large.Trains.Youngest = []int{23}
	if l := Find(large); len(l) > 0 {
		t.Error(l)
	}
	if l := Find(api.Heap{}); !slices.Equal(l, []api.AuBreak{{Rule: 1, Where: 1, What: 7}}) {
		t.Error(l)
	}
}

// P31.1: the examples, and the budget
func TestExamples(t *testing.T) {
	for i, x := range []struct {
		change func(h *api.Heap)
		want   api.AuBreak
	}{{func(h *api.Heap) { h.Words[7] = 3 }, api.AuBreak{Rule: 3, Where: 7, What: 3}}, {func(h *api.Heap) { h.Regs[1] = 4 }, api.AuBreak{Rule: 4, Where: -2, What: 4}}, {func(h *api.Heap) { h.Top = 2 }, api.AuBreak{Rule: 3, Where: 1, What: 1}}, {func(h *api.Heap) { h.Frames[2].State = 1 }, api.AuBreak{Rule: 2, Where: 2, What: 2}}, {func(h *api.Heap) { h.Pin = 7 }, api.AuBreak{Rule: 7, Where: 7}}, {func(h *api.Heap) { h.Counts.Pauses = -1 }, api.AuBreak{Rule: 9, Where: 1, What: -1}}} {
		h := empty()
		x.change(&h)
		if l := Find(h); !slices.Equal(l, []api.AuBreak{x.want}) {
			t.Error(i, l)
		}
	}
	one := slices.Repeat([]api.Shape{{}}, 7)
	h := heaptest.Built(heaptest.Sizes(), one[:6], []heaptest.Car{heaptest.Used(0, one...)}, nil)
	if l := Find(h); !slices.Equal(l, []api.AuBreak{{Rule: 8, Where: 13, What: 24}}) {
		t.Error(l)
	}
}

// P31.2, P31.5
func TestNameSpaces(t *testing.T) {
	for i, want := range strings.Fields("parts trains fill pointers popular sets pin budget counts") {
		if s, e := Name(i + 1); s != want || e != api.OK {
			t.Error(i, s, e)
		}
	}
	for _, rule := range []int{0, 10, -1, math.MaxInt} {
		if s, e := Name(rule); s != "" || e != api.ErrRange {
			t.Error(rule, s, e)
		}
	}
	l, e := Spaces(filled())
	if want := []api.AuSpace{{Car: -1, Objects: 1, Words: 3, Pointers: 1, Slots: 1}, {Car: 0, Objects: 2, Words: 5, Pointers: 3, Slots: 1}, {Car: 1, Objects: 1, Words: 3, Pointers: 1, Slots: 1}}; !slices.Equal(l, want) || e != api.OK {
		t.Error(l, e)
	}
	bad := filled()
	bad.Pin = 3
	if l, e := Spaces(bad); len(l) > 0 || e != api.ErrForm {
		t.Error(l, e)
	}
	r := heaptest.NewRandom(31)
	for range 50 {
		h := r.Heap(true)
		l, _ := Spaces(h)
		words, objects, slots := 0, 0, 0
		for _, x := range l {
			words, objects, slots = words+x.Words, objects+x.Objects, slots+x.Slots
		}
		occupied, _ := nursery.Occupied(h)
		all, _ := nursery.Objects(h)
		count, _ := remset.Count(h.Sets)
		if words != occupied || objects != len(all) || slots != count {
			t.Fatal(l)
		}
	}
}

// P31.3, P31.7
func TestText(t *testing.T) {
	l := []api.AuBreak{{Rule: 3, Where: 7, What: 3}, {Rule: 4, Where: -2, What: 1000000000}}
	l = append(l, api.AuBreak{Rule: 9, Where: -1000000000, What: -1})
	const text = "fill 7 3\npointers -2 1000000000\ncounts -1000000000 -1\n"
	if s, e := Print(l); s != text || e != api.OK {
		t.Error(s, e)
	}
	if m, line, e := Parse(text); !slices.Equal(m, l) || line != 0 || e != api.OK {
		t.Error(m, line, e)
	}
	if s, e := Print(nil); s != "" || e != api.OK {
		t.Error(s, e)
	}
	if m, line, e := Parse(""); len(m)+line > 0 || e != api.OK {
		t.Error(m, line, e)
	}
	for i, x := range []struct {
		l []api.AuBreak
		e api.Errno
	}{{make([]api.AuBreak, 101), api.ErrLong}, {make([]api.AuBreak, 100), api.ErrRange}, {[]api.AuBreak{{Rule: 1, Where: 1000000001}}, api.ErrRange}, {[]api.AuBreak{{Rule: 1, What: math.MinInt}}, api.ErrRange}, {[]api.AuBreak{{Rule: 10}}, api.ErrRange}} {
		if s, e := Print(x.l); s != "" || e != x.e {
			t.Error(i, s, e)
		}
	}
	good := strings.Repeat("pin 1 0\n", 100)
	if m, line, e := Parse(good); len(m) != 100 || line != 0 || e != api.OK {
		t.Error(len(m), line, e)
	}
	for s, want := range map[string][2]int{strings.Repeat("x", 10001): {0, 3}, strings.Repeat("x", 10000): {0, 6}, "fill 7 3": {0, 6}, "\n": {1, 6}, "fill 7 3\nfill 7\n": {2, 6}, "fill 07 3\n": {1, 6}, "fill 7 1000000001\n": {1, 6}, "none 7 3\n": {1, 6}, "fill  7 3\n": {1, 6}, "fill 7 3 \n": {1, 6}, good + "x\n": {101, 3}, good + "pin 1 0\n": {101, 3}, "x\n" + good: {1, 6}} {
		if m, line, e := Parse(s); len(m) > 0 || line != want[0] || int(e) != want[1] {
			t.Errorf("%.20q: %d, %d", s, line, e)
		}
	}
}

// P31.4, P31.6: random changes of good heaps are found by both, with the same rule
func TestTheorem(t *testing.T) {
	r := heaptest.NewRandom(32)
	rules := map[int]int{}
	for range 800 {
		h := r.Heap(true)
		for range 1 + r.Next(2) {
			spoil(r, &h)
		}
		rule, e := nursery.Check(h)
		if Rule(h) != rule || Sound(h) != (e == api.OK) {
			t.Fatal(rule, e, Find(h))
		}
		rules[rule]++
	}
	for rule := range 10 {
		if rules[rule] == 0 && rule != 8 {
			t.Error(rules)
		}
	}
	h := filled()
	car := h.Trains.Youngest[0]
	h.Trains.Youngest = nil
	if l := Find(h); !slices.Equal(l, []api.AuBreak{{Rule: 2, Where: car, What: 2}}) {
		t.Error(l)
	}
	if !reflect.DeepEqual(Find(h), Find(heaps.Clone(h))) {
		t.Error("Find")
	}
}

// spoil changes one thing of a heap.
func spoil(r *heaptest.Random, h *api.Heap) {
	if len(h.Words) == 0 || len(h.Frames) == 0 || len(h.Regs) == 0 || len(h.Sets.Cars) == 0 {
		return
	}
	car := r.Next(len(h.Frames))
	switch r.Next(11) {
	case 0:
		h.Words[r.Next(len(h.Words))] = uint64(r.Next(3))
	case 1:
		h.Words[r.Next(len(h.Words))] = uint64(r.Next(80))
	case 2:
		h.Frames[car].Top += r.Next(3) - 1
	case 3:
		h.Frames[car].State = r.Next(4)
	case 4:
		h.Trains.Lowest, h.Trains.Youngest = h.Trains.Youngest, h.Trains.Lowest
	case 5:
		slices.Reverse(h.Trains.Lowest)
	case 6:
		if s, _, e := slots.Add(h.Sets.Cars[car], 1+r.Next(100)); e == api.OK {
			h.Sets.Cars[car] = s
		}
	case 7:
		h.Regs[r.Next(len(h.Regs))] = r.Next(len(h.Words)) - 1
	case 8:
		h.Pin = r.Next(100)
	case 9:
		h.Counts.Copied = int64(r.Next(3) - 2)
	case 10:
		h.Top += r.Next(3) - 1
	}
}
