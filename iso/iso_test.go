package iso

import (
	"fmt"
	"math"
	"slices"
	"testing"

	"shunter/api"
	"shunter/graph"
	"shunter/objects"
)

func example() api.GrGraph {
	return api.GrGraph{Objects: []api.GrObject{{Ptrs: []int{3, 0}}, {}, {Ptrs: []int{1}, Raws: []uint64{7}}}, Regs: []int{3, 0, 3}}
}

// text tells graphs apart; nil and empty lists are the same.
func text(g api.GrGraph) string { return fmt.Sprint(g.Objects, g.Regs) }

const canonical = "[{[2] [7]} {[1 0] []}] [1 0 1]"

// P16.1, P16.6
func TestCanon(t *testing.T) {
	whole := example()
	h, ids, e := Canon(whole)
	if text(h) != canonical || !slices.Equal(ids, []int{3, 1}) || e != api.OK {
		t.Error(h, ids, e)
	}
	again, ids, e := Canon(h)
	if text(again) != canonical || !slices.Equal(ids, []int{1, 2}) || e != api.OK {
		t.Error(again, ids, e)
	}
	h.Objects[0].Raws[0] = 8
	if text(whole) != text(example()) {
		t.Error("memory is shared", whole)
	}
	wide := api.GrGraph{Objects: []api.GrObject{{}, {Ptrs: []int{4, 3}}, {Ptrs: []int{1}}, {Ptrs: []int{3, 5}}, {}}, Regs: []int{0, 2, 1}}
	if h, ids, _ := Canon(wide); !slices.Equal(ids, []int{2, 1, 4, 3, 5}) || text(h) != "[{[3 4] []} {[] []} {[4 5] []} {[2] []} {[] []}] [0 1 2]" {
		t.Error(h, ids)
	}
}

// P16.2, P16.5, P16.6
func TestSameDifferMap(t *testing.T) {
	g := example()
	h, _, _ := Canon(g)
	if same, e := Same(g, h); !same || e != api.OK {
		t.Error(same, e)
	}
	if l, e := Map(g, h); !slices.Equal(l, []int{2, 0, 1}) || e != api.OK {
		t.Error(l, e)
	}
	if l, e := Map(h, g); !slices.Equal(l, []int{3, 1}) || e != api.OK {
		t.Error(l, e)
	}
	change := func(f func(g *api.GrGraph)) api.GrGraph {
		x := example()
		f(&x)
		return x
	}
	for i, x := range []struct {
		g    api.GrGraph
		want int
	}{{g, -1}, {h, -1}, {change(func(g *api.GrGraph) { g.Objects[2].Raws[0] = 8 }), 1}, {change(func(g *api.GrGraph) { g.Regs[1] = 3 }), 0}, {change(func(g *api.GrGraph) { g.Regs = g.Regs[:2] }), 0}, {change(func(g *api.GrGraph) { g.Objects[0].Ptrs[1] = 2 }), 2}, {change(func(g *api.GrGraph) { g.Objects[2].Ptrs[0] = 0 }), 1}, {change(func(g *api.GrGraph) { g.Objects[1].Raws = []uint64{5} }), -1}, {change(func(g *api.GrGraph) { g.Objects[0].Ptrs = []int{3} }), 2}} {
		object, e := Differ(g, x.g)
		same, e2 := Same(x.g, g)
		l, e3 := Map(g, x.g)
		if object != x.want || same != (x.want == -1) || e+e2 != api.OK {
			t.Error(i, object, same, e, e2)
		}
		if same != (e3 == api.OK) || !same && (e3 != api.ErrNone || len(l) > 0) {
			t.Error(i, l, e3)
		}
	}
	bad, worse := api.GrGraph{Regs: []int{1}}, api.GrGraph{}
	_, _, e1 := Canon(bad)
	_, e2 := Same(bad, worse)
	_, e3 := Differ(g, bad)
	_, e4 := Map(bad, worse)
	_, e5 := Same(worse, bad)
	if e1 != api.ErrForm || e2 != api.ErrForm || e3 != api.ErrForm || e4 != api.ErrForm || e5 != api.ErrRange {
		t.Error(e1, e2, e3, e4, e5)
	}
}

// P16.3, P16.7
func TestRead(t *testing.T) {
	w := []uint64{0, 0, 0, 0, 0, 257, 5, 0}
	g, at, e := Read(w, []int{5, 0})
	if text(g) != "[{[1] []}] [1 0]" || !slices.Equal(at, []int{5}) || e != api.OK {
		t.Error(g, at, e)
	}
	h, _, _ := Canon(g)
	if text(h) != text(g) {
		t.Error(h)
	}
	far := slices.Clone(w)
	far[6] = 8
	large := make([]uint64, 60)
	large[1] = 1 + 65536*32
	order := slices.Clone(w)
	order[5], order[6], order[7] = 513, 1, 8
	for i, x := range []struct {
		w    []uint64
		regs []int
		e    api.Errno
	}{{w, []int{6}, api.ErrForm}, {nil, nil, api.ErrLong}, {[]uint64{1}, nil, api.ErrForm}, {w, nil, api.ErrRange}, {w, make([]int, 9), api.ErrRange}, {w, []int{6, 8}, api.ErrRange}, {w, []int{-1}, api.ErrRange}, {w, []int{math.MaxInt}, api.ErrRange}, {far, []int{5}, api.ErrForm}, {large, []int{1}, api.ErrLong}, {order, []int{5}, api.ErrForm}} {
		if g, at, e := Read(x.w, x.regs); e != x.e || len(g.Objects)+len(g.Regs)+len(at) > 0 {
			t.Error(i, g, at, e)
		}
	}
	large[1] = 1 + 65536*31
	if g, _, e := Read(large, []int{1}); len(g.Objects) != 1 || e != api.OK {
		t.Error(g, e)
	}
	if g, at, e := Read(w, make([]int, 8)); len(g.Objects)+len(at) > 0 || len(g.Regs) != 8 || e != api.OK {
		t.Error(g, at, e)
	}
	// A chain of 400 objects with one pointer each, and one that is longer.
	chain := make([]uint64, 1000)
	for i := range 400 {
		chain[1+2*i], chain[2+2*i] = 257, uint64(3+2*i)
	}
	chain[800] = 0
	if g, _, e := Read(chain, []int{1}); len(g.Objects) != 400 || e != api.OK {
		t.Error(len(g.Objects), e)
	}
	chain[800] = 999
	if g, _, e := Read(chain, []int{1}); len(g.Objects) > 0 || e != api.ErrLong {
		t.Error(len(g.Objects), e)
	}
}

// P16.4
func TestMatches(t *testing.T) {
	w := make([]uint64, 20)
	w, _ = objects.Make(w, 2, api.Shape{P: 1, R: 1})
	w, _ = objects.Make(w, 9, api.Shape{P: 2})
	w, _ = objects.SetPointer(w, 2, 0, 9)
	w, _ = objects.SetPointer(w, 9, 0, 2)
	w, _ = objects.SetRaw(w, 2, 0, 7)
	if ok, e := Matches(w, []int{2, 0, 2}, example()); !ok || e != api.OK {
		t.Error(ok, e)
	}
	if ok, e := Matches(w, []int{2, 0, 9}, example()); ok || e != api.OK {
		t.Error(ok, e)
	}
	if ok, e := Matches(w, []int{3}, api.GrGraph{}); ok || e != api.ErrForm {
		t.Error(ok, e)
	}
	if ok, e := Matches(w, []int{2}, api.GrGraph{}); ok || e != api.ErrRange {
		t.Error(ok, e)
	}
	g, _ := graph.New(1)
	if ok, e := Matches(w, []int{2}, g); ok || e != api.OK {
		t.Error(ok, e)
	}
}
