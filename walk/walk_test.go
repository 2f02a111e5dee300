package walk

import (
	"math"
	"slices"
	"testing"

	"shunter/api"
)

// example has objects at 1 (P 1, R 1), 4 (nothing) and 5 (P 2).
func example() []uint64 { return []uint64{0, 65793, 4, 9, 1, 513, 1, 0, 0, 0, 0, 0} }

// P6.1, and the error of Check of the other functions
func TestCheck(t *testing.T) {
	broken := example()
	broken[0] = 3
	for _, x := range []struct {
		w             []uint64
		from, top, at int
		e             api.Errno
	}{{example(), 1, 8, 0, api.OK}, {example(), 4, 4, 0, api.OK}, {example(), 12, 12, 0, api.OK}, {example(), 4, 5, 0, api.OK}, {example(), 1, 7, 5, api.ErrForm}, {example(), 2, 8, 2, api.ErrForm}, {example(), 1, 9, 8, api.ErrForm}, {example(), 0, 8, 0, api.ErrRange}, {example(), 1, 13, 0, api.ErrRange}, {example(), 13, 13, 0, api.ErrRange}, {example(), 5, 4, 0, api.ErrRange}, {example(), math.MinInt, math.MaxInt, 0, api.ErrRange}, {nil, 0, 0, 0, api.ErrLong}, {broken, 0, 0, 0, api.ErrForm}} {
		at, e := Check(x.w, x.from, x.top)
		if at != x.at || e != x.e {
			t.Error(x.from, x.top, at, e)
		}
		l, e1 := Objects(x.w, x.from, x.top)
		o, e2 := Find(x.w, x.from, x.top, x.from)
		s, e3 := Slots(x.w, x.from, x.top)
		r, e4 := Refs(x.w, x.from, x.top)
		i, e5 := Into(x.w, x.from, x.top, 0, 99)
		n, e6 := Count(x.w, x.from, x.top)
		if x.e != api.OK && (!slices.Equal([]api.Errno{e1, e2, e3, e4, e5, e6}, slices.Repeat([]api.Errno{x.e}, 6)) || len(l)+len(s)+len(r)+len(i)+o > 0 || n != api.WkCount{}) {
			t.Error(x.from, x.top, e1, e2, e3, e4, e5, e6)
		}
	}
}

// P6.2
func TestObjectsFind(t *testing.T) {
	if l, e := Objects(example(), 1, 8); !slices.Equal(l, []int{1, 4, 5}) || e != api.OK {
		t.Error(l, e)
	}
	for a, want := range map[int]int{1: 1, 3: 1, 4: 4, 5: 5, 7: 5, 8: 0, 0: 0, -5: 0, math.MaxInt: 0} {
		o, e := Find(example(), 1, 8, a)
		if o != want || (e == api.OK) != (want > 0) || e != api.OK && e != api.ErrNone {
			t.Error(a, o, e)
		}
	}
	if o, e := Find(example(), 4, 8, 3); o != 0 || e != api.ErrNone {
		t.Error(o, e)
	}
}

// P6.3
func TestSlotsRefsInto(t *testing.T) {
	if l, e := Slots(example(), 1, 8); !slices.Equal(l, []int{2, 6, 7}) || e != api.OK {
		t.Error(l, e)
	}
	if l, e := Refs(example(), 1, 8); !slices.Equal(l, []api.WkRef{{Slot: 2, To: 4}, {Slot: 6, To: 1}, {Slot: 7}}) || e != api.OK {
		t.Error(l, e)
	}
	for x, want := range map[[2]int][]int{{0, 4}: {6}, {1, 5}: {2, 6}, {4, 4}: nil, {2, 5}: {2}, {-9, 99}: {2, 6}, {5, 1}: nil} {
		if l, e := Into(example(), 1, 8, x[0], x[1]); !slices.Equal(l, want) || e != api.OK {
			t.Error(x, l, e)
		}
	}
	w := example()
	w[6] = 1601
	if l, e := Refs(w, 1, 8); len(l) > 0 || e != api.ErrForm {
		t.Error(l, e)
	}
	if l, e := Into(w, 1, 8, 0, 9); len(l) > 0 || e != api.ErrForm {
		t.Error(l, e)
	}
	if l, e := Slots(w, 1, 8); len(l) != 3 || e != api.OK {
		t.Error(l, e)
	}
}

// P6.4, P6.6
func TestCount(t *testing.T) {
	if n, e := Count(example(), 1, 8); n != (api.WkCount{Objects: 3, Pointers: 3, Raws: 1}) || e != api.OK || n.Objects+n.Pointers+n.Raws != 7 {
		t.Error(n, e)
	}
}

// P6.5, P6.8
func TestFill(t *testing.T) {
	w := example()
	w[9], w[10], w[11] = 5, 6, 7
	v, end, e := Fill(w, 8, 12, []api.Shape{{P: 1, R: 1}, {}})
	if end != 12 || e != api.OK || !slices.Equal(v, []uint64{0, 65793, 4, 9, 1, 513, 1, 0, 65793, 0, 0, 1}) || w[9] != 5 {
		t.Error(v, end, e)
	}
	if at, e := Check(v, 1, end); at != 0 || e != api.OK {
		t.Error(at, e)
	}
	v, end, e = Fill(w, 8, 12, []api.Shape{{R: 1}})
	if end != 10 || e != api.OK || v[10] != 6 || v[11] != 7 {
		t.Error(v, end, e)
	}
	if v, end, e := Fill(w, 12, 12, nil); !slices.Equal(v, w) || end != 12 || e != api.OK {
		t.Error(v, end, e)
	}
	for _, x := range []struct {
		w         []uint64
		from, top int
		l         []api.Shape
		e         api.Errno
	}{{nil, 0, 0, nil, api.ErrLong}, {w, 0, 4, []api.Shape{{P: -1}}, api.ErrRange}, {w, 8, 12, []api.Shape{{P: 2, R: 2}}, api.ErrFull}, {w, 8, 12, []api.Shape{{P: 3, R: 2}, {P: 99}}, api.ErrTooLarge}, {w, 8, 12, []api.Shape{{P: 9}, {R: -1}, {P: 99}}, api.ErrRange}, {w, 8, 8, []api.Shape{{}}, api.ErrFull}} {
		if v, end, e := Fill(x.w, x.from, x.top, x.l); len(v) > 0 || end != 0 || e != x.e {
			t.Error(x, v, end, e)
		}
	}
}

// P6.6, P6.7
func TestParts(t *testing.T) {
	w := example()
	all, _ := Objects(w, 1, 8)
	refs, _ := Refs(w, 1, 8)
	for _, cut := range all {
		l1, e1 := Objects(w, 1, cut)
		l2, e2 := Objects(w, cut, 8)
		r1, _ := Refs(w, 1, cut)
		r2, _ := Refs(w, cut, 8)
		if !slices.Equal(slices.Concat(l1, l2), all) || !slices.Equal(slices.Concat(r1, r2), refs) || e1+e2 != api.OK {
			t.Error(cut, l1, l2)
		}
	}
	for a := 1; a < 8; a++ {
		if o, e := Find(w, 1, 8, a); !slices.Contains(all, o) || e != api.OK {
			t.Error(a, o, e)
		}
	}
}
