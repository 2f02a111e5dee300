package graph

import (
	"math"
	"reflect"
	"slices"
	"testing"

	"shunter/api"
)

// example has the objects 1 (2 pointers, 1 raw word) and 2 (nothing), held by the registers 0 and 1; 2 is the pointer 1 of 1.
func example() api.GrGraph {
	return api.GrGraph{Objects: []api.GrObject{{Ptrs: []int{0, 2}, Raws: []uint64{0}}, {Ptrs: []int{}, Raws: []uint64{}}}, Regs: []int{1, 2}}
}

// all calls each function that changes or asks with registers, and returns their errors.
func all(g api.GrGraph, a, b int) ([]api.Errno, bool) {
	h1, e1 := Alloc(g, a, -1, 0)
	h2, e2 := Load(g, a, b, 9)
	h3, e3 := Store(g, a, 9, b)
	v, e4 := Read(g, a, 9)
	h5, e5 := Write(g, a, 9, 1)
	h6, e6 := Move(g, a, b)
	h7, e7 := Clear(g, a)
	like, e8 := Alike(g, a, b)
	p, r, e9 := Shape(g, a)
	zero := v == 0 && !like && p+r == 0
	for _, h := range []api.GrGraph{h1, h2, h3, h5, h6, h7} {
		zero = zero && len(h.Objects)+len(h.Regs) == 0
	}
	return []api.Errno{e1, e2, e3, e4, e5, e6, e7, e8, e9}, zero
}

// P15.1, and the error of Check of the other functions
func TestNewCheck(t *testing.T) {
	for n, want := range map[int]api.Errno{1: api.OK, 8: api.OK, 0: api.ErrRange, 9: api.ErrRange, -1: api.ErrRange} {
		g, e := New(n)
		if e != want || e == api.OK && (len(g.Regs) != n || len(g.Objects) > 0) || e != api.OK && len(g.Regs) > 0 {
			t.Error(n, g, e)
		}
	}
	regs := []int{0}
	for i, x := range []struct {
		g      api.GrGraph
		object int
		e      api.Errno
	}{{example(), 0, api.OK}, {api.GrGraph{Regs: make([]int, 8)}, 0, api.OK}, {api.GrGraph{Objects: []api.GrObject{{Ptrs: make([]int, 31)}}, Regs: regs}, 0, api.OK}, {api.GrGraph{Objects: make([]api.GrObject, 401)}, 0, api.ErrRange}, {api.GrGraph{Regs: make([]int, 9)}, 0, api.ErrRange}, {api.GrGraph{Objects: make([]api.GrObject, 401), Regs: regs}, 0, api.ErrLong}, {api.GrGraph{Objects: make([]api.GrObject, 400), Regs: regs}, 0, api.OK}, {api.GrGraph{Objects: []api.GrObject{{}, {Ptrs: make([]int, 16), Raws: make([]uint64, 16)}}, Regs: regs}, 2, api.ErrLong}, {api.GrGraph{Objects: []api.GrObject{{Ptrs: make([]int, 16), Raws: make([]uint64, 15)}}, Regs: regs}, 0, api.OK}, {api.GrGraph{Objects: []api.GrObject{{Ptrs: []int{2}}}, Regs: []int{5}}, 1, api.ErrForm}, {api.GrGraph{Objects: []api.GrObject{{Ptrs: []int{-1}}}, Regs: regs}, 1, api.ErrForm}, {api.GrGraph{Objects: []api.GrObject{{Ptrs: []int{1}}}, Regs: []int{2}}, 0, api.ErrForm}, {api.GrGraph{Regs: []int{-1}}, 0, api.ErrForm}} {
		object, e := Check(x.g)
		if object != x.object || e != x.e {
			t.Error(i, object, e)
		}
		if e == api.OK {
			continue
		}
		errors, zero := all(x.g, 99, 99)
		l, e1 := Live(x.g)
		n, e2 := Words(x.g)
		if !slices.Equal(append(errors, e1, e2), slices.Repeat([]api.Errno{x.e}, 11)) || !zero || len(l)+n > 0 {
			t.Error(i, errors, e1, e2)
		}
	}
	for _, x := range [][2]int{{-1, 0}, {2, 0}, {math.MinInt, 0}, {2, 7}} {
		if errors, zero := all(example(), x[0], x[1]); !slices.Equal(errors, slices.Repeat([]api.Errno{api.ErrBad}, 9)) || !zero {
			t.Error(x, errors)
		}
	}
	_, e1 := Load(example(), 0, 2, 0)
	_, e2 := Store(example(), 0, 0, 2)
	_, e3 := Move(example(), 0, 2)
	_, e4 := Alike(example(), 0, 2)
	if e1 != api.ErrBad || e2 != api.ErrBad || e3 != api.ErrBad || e4 != api.ErrBad {
		t.Error(e1, e2, e3, e4)
	}
}

// P15.2
func TestAllocShape(t *testing.T) {
	g, _ := New(2)
	g, e1 := Alloc(g, 0, 2, 1)
	g, e2 := Alloc(g, 1, 0, 0)
	g, e3 := Store(g, 0, 1, 1)
	if !reflect.DeepEqual(g, example()) || e1+e2+e3 != api.OK {
		t.Error(g, e1, e2, e3)
	}
	for _, x := range []struct {
		p, r int
		e    api.Errno
	}{{16, 16, api.ErrTooLarge}, {-1, 40, api.ErrBad}, {0, -1, api.ErrBad}, {31, 0, api.OK}, {0, 32, api.ErrTooLarge}, {math.MaxInt, math.MaxInt, api.ErrTooLarge}} {
		if h, e := Alloc(g, 0, x.p, x.r); e != x.e || e != api.OK && len(h.Regs) > 0 {
			t.Error(x, h, e)
		}
	}
	full := api.GrGraph{Objects: make([]api.GrObject, 400), Regs: []int{0}}
	if _, e := Alloc(full, 0, 1, 1); e != api.ErrFull {
		t.Error(e)
	}
	if _, e := Alloc(full, 0, 32, 1); e != api.ErrTooLarge {
		t.Error(e)
	}
	if p, r, e := Shape(g, 0); p != 2 || r != 1 || e != api.OK {
		t.Error(p, r, e)
	}
	if p, r, e := Shape(full, 0); p+r != 0 || e != api.ErrBad {
		t.Error(p, r, e)
	}
}

// P15.3, P15.8
func TestFields(t *testing.T) {
	g := example()
	h, e := Load(g, 1, 0, 0)
	if !slices.Equal(h.Regs, []int{1, 0}) || e != api.OK {
		t.Error(h, e)
	}
	for _, field := range []int{-1, 2, math.MaxInt} {
		_, e1 := Load(g, 1, 0, field)
		_, e2 := Store(g, 0, field, 1)
		_, e3 := Read(g, 0, field)
		_, e4 := Write(g, 0, field, 1)
		if e1 != api.ErrBad || e2 != api.ErrBad || e3 != api.ErrBad || e4 != api.ErrBad {
			t.Error(field, e1, e2, e3, e4)
		}
	}
	if _, e := Read(g, 0, 1); e != api.ErrBad {
		t.Error(e)
	}
	none, _ := Clear(g, 1)
	_, e1 := Load(none, 0, 1, 0)
	_, e2 := Store(none, 1, 0, 0)
	_, e3 := Read(none, 1, 0)
	_, e4 := Write(none, 1, 0, 1)
	if e1 != api.ErrBad || e2 != api.ErrBad || e3 != api.ErrBad || e4 != api.ErrBad {
		t.Error(e1, e2, e3, e4)
	}
	h, e = Write(g, 0, 0, math.MaxUint64)
	if v, e2 := Read(h, 0, 0); v != math.MaxUint64 || e+e2 != api.OK {
		t.Error(v, e, e2)
	}
	h, e = Store(g, 0, 0, 0)
	if !slices.Equal(h.Objects[0].Ptrs, []int{1, 2}) || e != api.OK {
		t.Error(h, e)
	}
	if !reflect.DeepEqual(g, example()) {
		t.Error("the argument was changed", g)
	}
	h.Objects[0].Raws[0] = 5
	if g.Objects[0].Raws[0] != 0 {
		t.Error("memory is shared")
	}
}

// P15.4
func TestRegisters(t *testing.T) {
	g := example()
	if like, e := Alike(g, 0, 1); like || e != api.OK {
		t.Error(like, e)
	}
	h, e := Move(g, 0, 1)
	if like, _ := Alike(h, 0, 1); !slices.Equal(h.Regs, []int{2, 2}) || !like || e != api.OK {
		t.Error(h, e)
	}
	h, e = Clear(g, 0)
	if !slices.Equal(h.Regs, []int{0, 2}) || e != api.OK {
		t.Error(h, e)
	}
}

// P15.5, P15.6, P15.7
func TestLiveWords(t *testing.T) {
	g := example()
	cleared, _ := Clear(g, 1)
	none, _ := Clear(cleared, 0)
	one, _ := Load(g, 1, 0, 0)
	two, _ := Load(g, 0, 0, 0)
	for i, x := range []struct {
		g     api.GrGraph
		live  []int
		words int
	}{{g, []int{1, 2}, 5}, {cleared, []int{1, 2}, 5}, {none, nil, 0}, {one, []int{1, 2}, 5}, {two, []int{2}, 1}} {
		l, e := Live(x.g)
		n, e2 := Words(x.g)
		if !slices.Equal(l, x.live) || n != x.words || e+e2 != api.OK {
			t.Error(i, l, n, e, e2)
		}
	}
	spare := make([]int, 1, 9)
	spare[0] = 1
	if l, _ := Live(api.GrGraph{Objects: g.Objects, Regs: spare}); !slices.Equal(l, []int{1, 2}) || !slices.Equal(spare[:9], []int{1, 0, 0, 0, 0, 0, 0, 0, 0}) {
		t.Error("the argument was changed", spare[:9])
	}
	cycle := api.GrGraph{Objects: []api.GrObject{{Ptrs: []int{3}}, {Ptrs: []int{2}}, {Ptrs: []int{1, 3, 0}}}, Regs: []int{3}}
	if l, e := Live(cycle); !slices.Equal(l, []int{1, 3}) || e != api.OK {
		t.Error(l, e)
	}
}
