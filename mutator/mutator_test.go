package mutator

import (
	"math"
	"reflect"
	"slices"
	"testing"

	"shunter/api"
	"shunter/config"
	"shunter/graph"
	"shunter/heaps"
	"shunter/heaptest"
	"shunter/iso"
	"shunter/nursery"
	"shunter/pause"
)

func alloc(a, p, r int) api.OpCall {
	return api.OpCall{Kind: api.OpAlloc, A: a, Ptrs: p, Raws: r}
}

// after does operations with the heap of the examples, all of which must be answered with OK.
func after(t *testing.T, l ...api.OpCall) api.Heap {
	t.Helper()
	h, _ := nursery.New(heaptest.Sizes())
	for _, c := range l {
		g, a, e := Do(h, c)
		if a.E != api.OK || e != api.OK {
			t.Fatal(c, a, e)
		}
		h = g
	}
	return h
}

var store = api.OpCall{Kind: api.OpStore, A: 1}

// P27.1: the example
func TestExample(t *testing.T) {
	h := after(t, alloc(0, 1, 1), alloc(1, 1, 1), store)
	h = func() api.Heap {
		g, a, _ := Do(h, api.OpCall{Kind: api.OpLoad, A: 0, B: 1})
		if a != (api.OpAnswer{}) || !slices.Equal(g.Regs, h.Regs) {
			t.Error(a, g.Regs)
		}
		return g
	}()
	if _, a, _ := Do(h, api.OpCall{Kind: api.OpSame}); !a.Is {
		t.Error(a)
	}
	g, a, e := Do(h, alloc(0, 1, 1))
	if a != (api.OpAnswer{}) || g.Counts.Pauses != 1 || g.Regs[0] != 1 || g.Counts.Allocs != 3 || e != api.OK {
		t.Error(a, g.Counts, g.Regs, e)
	}
	for c, want := range map[api.OpCall]api.Errno{alloc(0, 4, 4): api.ErrTooLarge, {Kind: api.OpLoad, B: 1, Field: 3}: api.ErrBad} {
		if g, a, e := Do(h, c); a != (api.OpAnswer{E: want}) || !heaptest.Equal(g, h) || e != api.OK {
			t.Error(c, a, e)
		}
	}
}

// P27.1: errors, and all kinds
func TestDo(t *testing.T) {
	h := after(t, alloc(0, 1, 2), api.OpCall{Kind: api.OpWrite, Field: 1, Value: 77})
	for _, c := range []api.OpCall{{Kind: 0}, {Kind: 12}, {Kind: -1}} {
		if g, a, e := Do(h, c); !reflect.DeepEqual(g, api.Heap{}) || a != (api.OpAnswer{}) || e != api.ErrArg {
			t.Error(c, a, e)
		}
	}
	bad := heaps.Clone(h)
	bad.Pin = 1
	if g, a, e := Do(bad, api.OpCall{}); !reflect.DeepEqual(g, api.Heap{}) || a != (api.OpAnswer{}) || e != api.ErrForm {
		t.Error(a, e)
	}
	for kind := api.OpAlloc; kind <= api.OpSame; kind++ {
		for _, r := range []int{-1, 2, math.MaxInt} {
			g, a, e := Do(h, api.OpCall{Kind: kind, A: r, Ptrs: -1, Field: 9})
			if a.E != api.ErrBad || !heaptest.Equal(g, h) || e != api.OK {
				t.Error(kind, r, a, e)
			}
			_, a, _ = Do(h, api.OpCall{Kind: kind, B: r, Ptrs: -1, Field: 9})
			named := slices.Contains([]int{api.OpLoad, api.OpStore, api.OpMove, api.OpSame}, kind)
			if named && a.E != api.ErrBad {
				t.Error(kind, r, a)
			}
		}
	}
	for i, x := range []struct {
		c api.OpCall
		a api.OpAnswer
	}{{api.OpCall{Kind: api.OpRead, Field: 1}, api.OpAnswer{Value: 77}}, {api.OpCall{Kind: api.OpRead, Field: 2}, api.OpAnswer{E: api.ErrBad}}, {api.OpCall{Kind: api.OpRead, A: 1}, api.OpAnswer{E: api.ErrBad}}, {api.OpCall{Kind: api.OpWrite, Field: 2}, api.OpAnswer{E: api.ErrBad}}, {api.OpCall{Kind: api.OpWrite, A: 1}, api.OpAnswer{E: api.ErrBad}}, {api.OpCall{Kind: api.OpStore, Field: 1}, api.OpAnswer{E: api.ErrBad}}, {api.OpCall{Kind: api.OpStore, A: 1}, api.OpAnswer{E: api.ErrBad}}, {api.OpCall{Kind: api.OpLoad, B: 1}, api.OpAnswer{E: api.ErrBad}}, {api.OpCall{Kind: api.OpSize}, api.OpAnswer{Value: 258}}, {api.OpCall{Kind: api.OpSize, A: 1}, api.OpAnswer{E: api.ErrBad}}, {api.OpCall{Kind: api.OpNil}, api.OpAnswer{}}, {api.OpCall{Kind: api.OpNil, A: 1, B: 99}, api.OpAnswer{Is: true}}, {api.OpCall{Kind: api.OpSame, B: 1}, api.OpAnswer{}}, {api.OpCall{Kind: api.OpSame, A: 1, B: 1}, api.OpAnswer{Is: true}}, {alloc(0, -1, 99), api.OpAnswer{E: api.ErrBad}}, {alloc(0, 0, -1), api.OpAnswer{E: api.ErrBad}}, {alloc(0, math.MaxInt, math.MaxInt), api.OpAnswer{E: api.ErrTooLarge}}, {alloc(0, 2, 2), api.OpAnswer{E: api.ErrTooLarge}}} {
		g, a, e := Do(h, x.c)
		if a != x.a || e != api.OK || !heaptest.Equal(g, h) {
			t.Error(i, a, e)
		}
	}
	for _, c := range []api.OpCall{alloc(1, 0, 0), alloc(1, 2, 0), alloc(1, 0, 2)} {
		g, a, _ := Do(h, c)
		_, size, _ := Do(g, api.OpCall{Kind: api.OpSize, A: 1})
		if a != (api.OpAnswer{}) || size.Value != uint64(256*c.Ptrs+c.Raws) {
			t.Error(c, a)
		}
	}
	copied := heaps.Clone(h)
	for _, c := range []api.OpCall{alloc(9, 0, 0), {Kind: api.OpSame}, {Kind: api.OpClear}} {
		g, _, _ := Do(h, c)
		heaptest.Scribble(g)
	}
	if !reflect.DeepEqual(h, copied) {
		t.Fatal("memory is shared")
	}
	if g, _, _ := Do(h, api.OpCall{Kind: api.OpMove, A: 1}); !slices.Equal(g.Regs, []int{1, 1}) {
		t.Error(g.Regs)
	}
	if g, _, _ := Do(h, api.OpCall{Kind: api.OpClear, B: 99}); !slices.Equal(g.Regs, []int{0, 0}) {
		t.Error(g.Regs)
	}
	g, a, _ := Do(h, api.OpCall{Kind: api.OpCollect, A: -5})
	if want, _, _ := pause.Do(h); !heaptest.Equal(g, want) || a != (api.OpAnswer{}) {
		t.Error(a)
	}
}

// P27.1, P27.5: a pause before, and ErrFull
func TestFull(t *testing.T) {
	h := after(t, alloc(0, 1, 1), alloc(1, 1, 1), api.OpCall{Kind: api.OpCollect}, alloc(0, 1, 1), api.OpCall{Kind: api.OpStore, A: 0, B: 1}, alloc(1, 1, 1), api.OpCall{Kind: api.OpStore, A: 1, B: 0})
	g, a, e := Do(h, alloc(0, 1, 1))
	if a != (api.OpAnswer{}) || g.Counts.Pauses != 2 || e != api.OK {
		t.Error(a, g.Counts, e)
	}
	g, _, _ = Do(h, alloc(0, 0, 3))
	g, _, _ = Do(g, api.OpCall{Kind: api.OpCollect})
	occupied, _ := nursery.Occupied(g)
	n := 4
	before := g.Counts
	f, a, e := Do(g, alloc(0, 3, 0))
	if 2*(occupied+n) <= 24 || a != (api.OpAnswer{E: api.ErrFull}) || e != api.OK {
		t.Error(occupied, a, e)
	}
	if f.Counts.Full != before.Full+1 || f.Counts.Pauses != before.Pauses+1 || f.Counts.Allocs != before.Allocs {
		t.Error(f.Counts, before)
	}
}

// P27.2
func TestHeap(t *testing.T) {
	copied, _ := New(heaptest.Sizes())
	other := *copied
	for _, x := range []*Heap{nil, {}, &other} {
		a, e1 := x.Do(alloc(0, 0, 0))
		e2 := x.Alloc(0, 0, 0)
		r, e3 := x.Collect()
		g, e4 := x.Graph()
		if !slices.Equal([]api.Errno{e1, e2, e3, e4}, slices.Repeat([]api.Errno{api.ErrNil}, 4)) || a != (api.OpAnswer{}) || r != (api.PaReport{}) || len(g.Regs) > 0 || !reflect.DeepEqual(x.State(), api.Heap{}) {
			t.Error(e1, e2, e3, e4)
		}
	}
	if x, e := New(api.Config{}); x != nil || e != api.ErrRange {
		t.Error(x, e)
	}
	bad := heaptest.Young()
	bad.Regs[0] = 2
	if x, e := Load(bad); x != nil || e != api.ErrForm {
		t.Error(x, e)
	}
	x, e := New(heaptest.Sizes())
	e1 := x.Alloc(0, 1, 1)
	e2 := x.Alloc(1, 1, 1)
	a, e3 := x.Do(store)
	if e+e1+e2+e3 != api.OK || a != (api.OpAnswer{}) || x.Alloc(0, 4, 4) != api.ErrTooLarge || x.Alloc(7, 0, 0) != api.ErrBad {
		t.Error(e, e1, e2, e3)
	}
	want := after(t, alloc(0, 1, 1), alloc(1, 1, 1), store)
	state := x.State()
	if !heaptest.Equal(state, want) {
		t.Error(state)
	}
	state.Words[1], state.Regs[0] = 99, 99
	if !heaptest.Equal(x.State(), want) {
		t.Error("memory is shared")
	}
	g, e := x.Graph()
	read, _, _ := iso.Read(want.Words, want.Regs)
	if same, _ := iso.Same(g, read); !same || e != api.OK {
		t.Error(g, e)
	}
	y, e := Load(want)
	want.Words[1] = 99
	r, e2 := y.Collect()
	if _, report, _ := pause.Do(x.State()); r != report || e+e2 != api.OK {
		t.Error(r, e, e2)
	}
	if _, e := y.Do(api.OpCall{}); e != api.ErrArg || x.State().Counts.Pauses != 0 || y.State().Counts.Pauses != 1 {
		t.Error(e)
	}
}

// model does an operation with a graph.
func model(g api.GrGraph, c api.OpCall, a api.OpAnswer) api.GrGraph {
	if a.E != api.OK {
		return g
	}
	h := g
	switch c.Kind {
	case api.OpAlloc:
		h, _ = graph.Alloc(g, c.A, c.Ptrs, c.Raws)
	case api.OpLoad:
		h, _ = graph.Load(g, c.A, c.B, c.Field)
	case api.OpStore:
		h, _ = graph.Store(g, c.A, c.Field, c.B)
	case api.OpWrite:
		h, _ = graph.Write(g, c.A, c.Field, c.Value)
	case api.OpMove:
		h, _ = graph.Move(g, c.A, c.B)
	case api.OpClear:
		h, _ = graph.Clear(g, c.A)
	}
	return h
}

// P27.3, P27.4, P27.5, P27.6, P27.7
func TestTheorem(t *testing.T) {
	kinds := []int{1, 1, 1, 1, 1, 2, 2, 2, 3, 3, 3, 3, 3, 3, 3, 5, 6, 7, 4, 8, 9, 10, 11}
	r := heaptest.NewRandom(27)
	full, relinked := 0, int64(0)
	for _, c := range []api.Config{heaptest.Sizes(), {C: 8, N: 12, S: 6, K: 4, Q: 2}, {C: 12, N: 16, S: 12, K: 6, Q: 2}} {
		for range 5 {
			h, _ := nursery.New(c)
			g, _ := graph.New(c.K)
			budget, _ := config.Budget(c)
			for range 600 {
				op := api.OpCall{Kind: kinds[r.Next(len(kinds))], A: r.Next(c.K), B: r.Next(c.K), Field: r.Next(3)}
				switch op.Kind {
				case api.OpAlloc:
					op.Ptrs, op.Raws = r.Next(4), r.Next(3)
				case api.OpLoad, api.OpStore:
					op.Field = r.Next(2)
				case api.OpWrite:
					op.Value = uint64(r.Next(100))
				}
				before := heaps.Clone(h)
				next, a, e := Do(h, op)
				if rule, _ := nursery.Check(next); rule != 0 || e != api.OK || !reflect.DeepEqual(h, before) {
					t.Fatal(op, rule, e)
				}
				pauses := next.Counts.Pauses - h.Counts.Pauses
				if pauses > 1 || pauses > 0 && op.Kind != api.OpAlloc && op.Kind != api.OpCollect {
					t.Fatal(op, pauses)
				}
				if a.E == api.ErrFull {
					full++
					if had, _ := nursery.Occupied(next); 2*(had+1+op.Ptrs+op.Raws) <= budget {
						t.Fatal("it was refused without need")
					}
				} else if a.E != api.OK && !heaptest.Equal(next, h) {
					t.Fatal(op, a)
				}
				g = model(g, op, a)
				if len(g.Objects) > 300 {
					g, _, _ = iso.Canon(g)
				}
				if same, _ := iso.Matches(next.Words, next.Regs, g); !same {
					t.Fatal(op, "another graph")
				}
				h = next
			}
			relinked += h.Counts.Relinked
		}
	}
	if full < 20 || relinked == 0 {
		t.Error(full, relinked)
	}
}
