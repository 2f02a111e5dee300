package objects

import (
	"math"
	"slices"
	"testing"

	"shunter/api"
)

// example has an object of 2 pointer fields and 1 raw field at 3.
func example() []uint64 { return []uint64{0, 0, 0, 66049, 7, 0, 99, 0, 0, 0} }

// The errors that all functions return first.
func TestFirstErrors(t *testing.T) {
	broken := example()
	broken[0] = 1
	beyond := example()
	beyond[9] = 257
	rawBeyond := example()
	rawBeyond[9] = 65537
	for _, x := range []struct {
		w []uint64
		a int
		e api.Errno
	}{{nil, 3, api.ErrLong}, {broken, 3, api.ErrForm}, {example(), 0, api.ErrRange}, {example(), 10, api.ErrRange}, {example(), -1, api.ErrRange}, {example(), math.MaxInt, api.ErrRange}, {example(), 4, api.ErrForm}, {beyond, 9, api.ErrForm}, {rawBeyond, 9, api.ErrForm}} {
		s, e1 := Shape(x.w, x.a)
		n, e2 := Size(x.w, x.a)
		l, e3 := Slots(x.w, x.a)
		p, e4 := Pointer(x.w, x.a, 9)
		ps, e5 := Pointers(x.w, x.a)
		r, e6 := Raw(x.w, x.a, 9)
		u, e7 := SetPointer(x.w, x.a, 9, -1)
		v, e8 := SetRaw(x.w, x.a, 9, 1)
		b, e9 := Alike(x.w, x.a, 3)
		if !slices.Equal([]api.Errno{e1, e2, e3, e4, e5, e6, e7, e8, e9}, slices.Repeat([]api.Errno{x.e}, 9)) {
			t.Error(x, e1, e2, e3, e4, e5, e6, e7, e8, e9)
		}
		if s != (api.Shape{}) || n != 0 || p != 0 || r != 0 || len(l)+len(ps)+len(u)+len(v) > 0 || b {
			t.Error(x, "results are not zero")
		}
	}
	if _, e := Alike(example(), 3, 0); e != api.ErrRange {
		t.Error(e)
	}
	if _, e := Alike(example(), 4, 0); e != api.ErrForm {
		t.Error(e)
	}
}

// P5.1, P5.7
func TestMake(t *testing.T) {
	w := example()
	w[8], w[9] = 5, 6
	v, e := Make(w, 7, api.Shape{P: 1, R: 1})
	if !slices.Equal(v, []uint64{0, 0, 0, 66049, 7, 0, 99, 65793, 0, 0}) || e != api.OK || w[8] != 5 {
		t.Error(v, e)
	}
	for _, x := range []struct {
		a int
		s api.Shape
		e api.Errno
	}{{8, api.Shape{P: 1, R: 1}, api.ErrRange}, {0, api.Shape{P: 1, R: 1}, api.ErrRange}, {-1, api.Shape{}, api.ErrRange}, {10, api.Shape{}, api.ErrRange}, {0, api.Shape{P: -1}, api.ErrRange}, {0, api.Shape{P: 64}, api.ErrTooLarge}, {math.MaxInt, api.Shape{P: 3}, api.ErrRange}} {
		if v, e := Make(w, x.a, x.s); len(v) > 0 || e != x.e {
			t.Error(x, v, e)
		}
	}
	if _, e := Make([]uint64{1}, 1, api.Shape{P: 64}); e != api.ErrForm {
		t.Error(e)
	}
	first, e := Make(w, 1, api.Shape{R: 1})
	if s, e2 := Shape(first, 1); s != (api.Shape{R: 1}) || e+e2 != api.OK {
		t.Error(s, e, e2)
	}
	if _, e := Make(w, 9, api.Shape{}); e != api.OK {
		t.Error(e)
	}
}

// P5.2, P5.7
func TestShape(t *testing.T) {
	s, e := Shape(example(), 3)
	n, e2 := Size(example(), 3)
	l, e3 := Slots(example(), 3)
	if s != (api.Shape{P: 2, R: 1}) || n != 4 || !slices.Equal(l, []int{4, 5}) || e+e2+e3 != api.OK {
		t.Error(s, n, l)
	}
}

// P5.3
func TestGet(t *testing.T) {
	for field, want := range map[int]int{0: 7, 1: 0} {
		if p, e := Pointer(example(), 3, field); p != want || e != api.OK {
			t.Error(field, p, e)
		}
	}
	for _, field := range []int{2, -1, math.MaxInt} {
		if p, e := Pointer(example(), 3, field); p != 0 || e != api.ErrBad {
			t.Error(field, p, e)
		}
		if v, e := Raw(example(), 3, field); v != 0 || e != api.ErrBad {
			t.Error(field, v, e)
		}
	}
	if v, e := Raw(example(), 3, 0); v != 99 || e != api.OK {
		t.Error(v, e)
	}
	if l, e := Pointers(example(), 3); !slices.Equal(l, []int{7, 0}) || e != api.OK {
		t.Error(l, e)
	}
	w := example()
	w[5] = 1601
	if p, e := Pointer(w, 3, 1); p != 0 || e != api.ErrForm {
		t.Error(p, e)
	}
	if p, e := Pointer(w, 3, 0); p != 7 || e != api.OK {
		t.Error(p, e)
	}
	if l, e := Pointers(w, 3); len(l) != 0 || e != api.ErrForm {
		t.Error(l, e)
	}
	w[5] = 1600
	if l, e := Pointers(w, 3); !slices.Equal(l, []int{7, 1600}) || e != api.OK {
		t.Error(l, e)
	}
}

// P5.4, P5.6, P5.8
func TestSet(t *testing.T) {
	w := example()
	v, e := SetPointer(w, 3, 1, 9)
	if !slices.Equal(v, []uint64{0, 0, 0, 66049, 7, 9, 99, 0, 0, 0}) || e != api.OK {
		t.Error(v, e)
	}
	u, e := SetRaw(v, 3, 0, math.MaxUint64)
	if !slices.Equal(u, []uint64{0, 0, 0, 66049, 7, 9, math.MaxUint64, 0, 0, 0}) || e != api.OK {
		t.Error(u, e)
	}
	other, _ := SetRaw(w, 3, 0, math.MaxUint64)
	other, _ = SetPointer(other, 3, 1, 9)
	if !slices.Equal(u, other) || !slices.Equal(w, example()) {
		t.Error("the order, or the argument")
	}
	for _, x := range []struct {
		field, to int
		e         api.Errno
	}{{2, -1, api.ErrBad}, {-1, 0, api.ErrBad}, {1, 10, api.ErrRange}, {1, -1, api.ErrRange}, {0, 0, api.OK}} {
		if v, e := SetPointer(w, 3, x.field, x.to); e != x.e || e != api.OK && len(v) > 0 {
			t.Error(x, v, e)
		}
	}
	if v, e := SetRaw(w, 3, 1, 0); len(v) > 0 || e != api.ErrBad {
		t.Error(v, e)
	}
}

// P5.5
func TestAlike(t *testing.T) {
	w := append(example(), 66049, 0, 3, 99, 65793, 1, 99)
	for b, want := range map[int]bool{3: true, 10: true, 14: false} {
		if like, e := Alike(w, 3, b); like != want || e != api.OK {
			t.Error(b, like, e)
		}
	}
	w[13] = 98
	if like, _ := Alike(w, 3, 10); like {
		t.Error("raw fields differ")
	}
}
