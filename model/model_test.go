package model

import (
	"fmt"
	"math"
	"slices"
	"testing"

	"shunter/api"
	"shunter/graph"
	"shunter/heaptest"
	"shunter/ops"
)

var sizes = api.Config{C: 8, N: 8, S: 6, K: 2, Q: 2}

const text = "alloc 0 1 1\nalloc 1 1 0\nstore 0 0 1\nclear 1\nload 1 0 0\nclear 0\nalloc 0 2 2\nread 1 0\n"

func script() []api.OpCall {
	l, _, _ := ops.List(text)
	return l
}

// lines returns the lines of answers.
func lines(l []api.OpCall, a []api.OpAnswer) []string {
	var out []string
	for i, x := range a {
		s, _ := ops.Answer(l[i], x)
		out = append(out, s)
	}
	return out
}

// P29.1, P29.7
func TestStep(t *testing.T) {
	g, _, _, _ := Play(sizes, script()[:3], nil)
	g, _ = graph.Write(g, 0, 0, 77)
	before := fmt.Sprint(g)
	for i, x := range []struct {
		line, answer, regs string
	}{{"alloc 0 1 1", "ok", "[3 2]"}, {"alloc 2 -1 0", "error 10", "[1 2]"}, {"alloc -1 9 9", "error 10", "[1 2]"}, {"alloc 0 -1 9", "error 10", "[1 2]"}, {"alloc 0 9 -1", "error 10", "[1 2]"}, {"alloc 0 2 2", "error 11", "[1 2]"}, {"alloc 0 1000000000 1000000000", "error 11", "[1 2]"}, {"load 1 0 0", "ok", "[1 2]"}, {"load 0 1 0", "ok", "[0 2]"}, {"load 0 1 1", "error 10", "[1 2]"}, {"load 0 2 0", "error 10", "[1 2]"}, {"store 0 1 0", "error 10", "[1 2]"}, {"read 0 0", "4d", "[1 2]"}, {"read 0 1", "error 10", "[1 2]"}, {"write 0 1 5", "error 10", "[1 2]"}, {"write 0 0 5", "ok", "[1 2]"}, {"move 0 1", "ok", "[2 2]"}, {"move 0 2", "error 10", "[1 2]"}, {"clear 1", "ok", "[1 0]"}, {"clear -1", "error 10", "[1 2]"}, {"same 0 1", "no", "[1 2]"}, {"same 1 1", "yes", "[1 2]"}, {"same 1 2", "error 10", "[1 2]"}, {"nil 0", "no", "[1 2]"}, {"nil 2", "error 10", "[1 2]"}, {"size 0", "1 1", "[1 2]"}, {"size 2", "error 10", "[1 2]"}, {"collect", "ok", "[1 2]"}} {
		c, _ := ops.Parse(x.line)
		h, a, e := Step(sizes, g, c)
		s, _ := ops.Answer(c, a)
		if s != x.answer || fmt.Sprint(h.Regs) != x.regs || e != api.OK || fmt.Sprint(g) != before {
			t.Error(i, x.line, s, h.Regs, e)
		}
		if a.E != api.OK && fmt.Sprint(h) != before {
			t.Error(i, h)
		}
		h.Regs[0], h.Objects[0].Raws[0] = 99, 99
		if fmt.Sprint(g) != before {
			t.Fatal("memory is shared")
		}
	}
	cleared, _, _ := Step(sizes, g, api.OpCall{Kind: api.OpClear})
	if _, a, _ := Step(sizes, cleared, api.OpCall{Kind: api.OpNil}); !a.Is {
		t.Error(a)
	}
	if _, a, _ := Step(sizes, cleared, api.OpCall{Kind: api.OpSize}); a.E != api.ErrBad {
		t.Error(a)
	}
	full := api.GrGraph{Objects: make([]api.GrObject, 400), Regs: []int{0, 0}}
	if _, a, _ := Step(sizes, full, api.OpCall{Kind: api.OpAlloc}); a.E != api.ErrFull {
		t.Error(a)
	}
	three, _ := graph.New(3)
	for i, x := range []struct {
		c api.Config
		g api.GrGraph
		x api.OpCall
		e api.Errno
	}{{api.Config{}, api.GrGraph{Regs: []int{1}}, api.OpCall{}, api.ErrRange}, {sizes, api.GrGraph{Regs: []int{1}}, api.OpCall{}, api.ErrForm}, {sizes, three, api.OpCall{}, api.ErrRange}, {sizes, g, api.OpCall{}, api.ErrArg}, {sizes, g, api.OpCall{Kind: 7, A: math.MaxInt}, api.ErrRange}} {
		if h, a, e := Step(x.c, x.g, x.x); len(h.Regs)+len(h.Objects) > 0 || a != (api.OpAnswer{}) || e != x.e {
			t.Error(i, a, e)
		}
	}
}

// P29.2, P29.6
func TestPlay(t *testing.T) {
	l := script()
	g, a, op, e := Play(sizes, l, nil)
	if want := []string{"ok", "ok", "ok", "ok", "ok", "ok", "error 11", "error 10"}; !slices.Equal(lines(l, a), want) || !slices.Equal(g.Regs, []int{0, 2}) || op != 0 || e != api.OK {
		t.Error(lines(l, a), g, op, e)
	}
	_, a, op, e = Play(sizes, l, []int{1})
	if want := []string{"ok", "error 5", "ok", "ok", "ok", "ok", "error 11", "error 10"}; !slices.Equal(lines(l, a), want) || op != 0 || e != api.OK {
		t.Error(lines(l, a), op, e)
	}
	if g, a, op, e := Play(sizes, nil, nil); !slices.Equal(g.Regs, []int{0, 0}) || len(a)+op > 0 || e != api.OK {
		t.Error(g, a, op, e)
	}
	if _, a, op, e := Play(sizes, slices.Repeat([]api.OpCall{{Kind: api.OpCollect}}, 200), nil); len(a) != 200 || op != 0 || e != api.OK {
		t.Error(len(a), op, e)
	}
	bad := append(script(), api.OpCall{Kind: 99})
	for i, x := range []struct {
		c    api.Config
		l    []api.OpCall
		full []int
		op   int
		e    api.Errno
	}{{api.Config{}, make([]api.OpCall, 201), nil, -1, api.ErrRange}, {sizes, make([]api.OpCall, 201), []int{-1}, -1, api.ErrLong}, {sizes, bad, []int{-1}, 8, api.ErrArg}, {sizes, l, []int{2}, 2, api.ErrArg}, {sizes, l, []int{6}, 6, api.ErrArg}, {sizes, l, []int{0, 1, 3, 5}, 3, api.ErrArg}, {sizes, l, []int{8}, -1, api.ErrForm}, {sizes, l, []int{-1}, -1, api.ErrForm}, {sizes, l, []int{2, 1}, -1, api.ErrForm}, {sizes, l, []int{1, 1}, -1, api.ErrForm}} {
		g, a, op, e := Play(x.c, x.l, x.full)
		if len(g.Regs)+len(g.Objects)+len(a) > 0 || op != x.op || e != x.e {
			t.Error(i, g, a, op, e)
		}
		h, e1 := At(x.c, x.l, x.full, -1)
		live, e2 := Live(x.c, x.l, x.full)
		n, e3 := Left(x.c, x.l, x.full, -1, 0)
		if e1 != x.e || e2 != x.e || e3 != x.e || n+len(live)+len(h.Regs) > 0 {
			t.Error(i, e1, e2, e3)
		}
	}
}

// P29.3, P29.5
func TestAtLiveLeft(t *testing.T) {
	l := script()
	live, e := Live(sizes, l, nil)
	if !slices.Equal(live, []int{0, 3, 5, 5, 5, 5, 2, 2, 2}) || e != api.OK {
		t.Error(live, e)
	}
	for x, want := range map[[2]int]int{{0, 8}: 5, {4, 8}: 5, {6, 8}: 2, {1, 2}: 5} {
		if n, e := Left(sizes, l, nil, x[0], x[1]); n != want || e != api.OK {
			t.Error(x, n, e)
		}
	}
	for i := range live {
		for j := i; j < len(live); j++ {
			if n, _ := Left(sizes, l, nil, i, j); live[j] > n || i == j && live[i] != n {
				t.Error(i, j, n)
			}
		}
	}
	if n, _ := Left(sizes, l, []int{1}, 0, 8); n != 3 {
		t.Error(n)
	}
	for _, x := range [][2]int{{-1, 0}, {1, 0}, {0, 9}, {9, 9}} {
		if n, e := Left(sizes, l, nil, x[0], x[1]); n != 0 || e != api.ErrRange {
			t.Error(x, n, e)
		}
	}
	for at, want := range map[int]string{0: "[0 0]", 2: "[1 2]", 4: "[1 0]", 8: "[0 2]"} {
		if g, e := At(sizes, l, nil, at); fmt.Sprint(g.Regs) != want || e != api.OK {
			t.Error(at, g, e)
		}
	}
	for _, at := range []int{-1, 9} {
		if g, e := At(sizes, l, nil, at); len(g.Regs) > 0 || e != api.ErrRange {
			t.Error(at, g, e)
		}
	}
}

// P29.4, P29.6
func TestJudge(t *testing.T) {
	l := script()
	_, good, _, _ := Play(sizes, l, nil)
	_, refused, _, _ := Play(sizes, l, []int{1})
	if full, op, e := Judge(sizes, l, good); len(full)+op > 0 || e != api.OK {
		t.Error(full, op, e)
	}
	if full, op, e := Judge(sizes, l, refused); !slices.Equal(full, []int{1}) || op != 0 || e != api.OK {
		t.Error(full, op, e)
	}
	with := func(i int, a api.OpAnswer) []api.OpAnswer {
		m := slices.Clone(good)
		m[i] = a
		return m
	}
	for i, x := range []struct {
		c  api.Config
		l  []api.OpCall
		a  []api.OpAnswer
		op int
		e  api.Errno
	}{{api.Config{}, make([]api.OpCall, 201), nil, -1, api.ErrRange}, {sizes, make([]api.OpCall, 201), nil, -1, api.ErrLong}, {sizes, append(script(), api.OpCall{}), nil, 8, api.ErrArg}, {sizes, l, good[1:], -1, api.ErrForm}, {sizes, l, with(3, api.OpAnswer{Is: true}), 3, api.ErrArg}, {sizes, l, with(3, api.OpAnswer{E: 1000}), 3, api.ErrRange}, {sizes, l, with(6, api.OpAnswer{E: api.ErrFull}), 6, api.ErrNone}, {sizes, l, with(2, api.OpAnswer{E: api.ErrFull}), 2, api.ErrNone}, {sizes, l, with(6, api.OpAnswer{}), 6, api.ErrNone}, {sizes, l, with(7, api.OpAnswer{Value: 1}), 7, api.ErrNone}} {
		if full, op, e := Judge(x.c, x.l, x.a); len(full) > 0 || op != x.op || e != x.e {
			t.Error(i, full, op, e)
		}
	}
}

// P29.5, P29.6, P29.7
func TestTheorem(t *testing.T) {
	r := heaptest.NewRandom(29)
	for range 30 {
		var l []api.OpCall
		var full []int
		g, _ := graph.New(2)
		var want []api.OpAnswer
		for i := range 60 {
			x := api.OpCall{Kind: 1 + r.Next(7), A: r.Next(2)}
			switch x.Kind {
			case api.OpAlloc:
				x.Ptrs, x.Raws = r.Next(3), r.Next(2)
			case api.OpLoad, api.OpStore, api.OpMove:
				x.B = r.Next(2)
			}
			l = append(l, x)
			if x.Kind == api.OpAlloc && r.Next(3) == 0 {
				full = append(full, i)
				want = append(want, api.OpAnswer{E: api.ErrFull})
				continue
			}
			h, a, e := Step(sizes, g, x)
			if e != api.OK || a.E != api.OK && fmt.Sprint(h) != fmt.Sprint(g) {
				t.Fatal(x, a, e)
			}
			g = h
			want = append(want, a)
		}
		h, a, op, e := Play(sizes, l, full)
		if !slices.Equal(a, want) || fmt.Sprint(h) != fmt.Sprint(g) || op != 0 || e != api.OK {
			t.Fatal(a, want)
		}
		if again, op, e := Judge(sizes, l, a); !slices.Equal(again, full) || op != 0 || e != api.OK {
			t.Fatal(again, full, op, e)
		}
	}
}
