package script

import (
	"math"
	"reflect"
	"slices"
	"strings"
	"testing"

	"shunter/api"
	"shunter/config"
	"shunter/heaptest"
	"shunter/model"
	"shunter/mutator"
	"shunter/nursery"
	"shunter/ops"
)

var sizes = api.Config{C: 8, N: 8, S: 6, K: 2, Q: 2}

const text = "alloc 0 1 1\nalloc 1 1 1\nstore 1 0 0\nalloc 0 1 1\ncollect\nalloc 0 0 1\n"

func script() []api.OpCall {
	l, _, _ := ops.List(text)
	return l
}

// The errors of Run, which all functions return first.
func TestFirstErrors(t *testing.T) {
	for i, x := range []struct {
		c  api.Config
		l  []api.OpCall
		op int
		e  api.Errno
	}{{api.Config{}, make([]api.OpCall, 201), -1, api.ErrRange}, {sizes, make([]api.OpCall, 201), -1, api.ErrLong}, {sizes, append(script(), api.OpCall{Kind: 12}), 6, api.ErrArg}, {sizes, append(script(), api.OpCall{Kind: 7, A: math.MaxInt}), 6, api.ErrRange}} {
		h, a, op, e1 := Run(x.c, x.l)
		m, e2 := Moments(x.c, x.l)
		f, e3 := Full(x.c, x.l)
		d, e4 := Differ(x.c, x.l)
		s, e5 := Settle(x.c, x.l, -1)
		r, e6 := Report(x.c, x.l)
		if !slices.Equal([]api.Errno{e1, e2, e3, e4, e5, e6}, slices.Repeat([]api.Errno{x.e}, 6)) || op != x.op || !reflect.DeepEqual(h, api.Heap{}) || len(a)+len(m)+len(f)+d+s+len(r) != 0 {
			t.Error(i, e1, e2, e3, e4, e5, e6)
		}
	}
}

// P30.1
func TestRun(t *testing.T) {
	l := script()
	h, a, op, e := Run(sizes, l)
	want, _ := nursery.New(sizes)
	for i, x := range l {
		g, answer, _ := mutator.Do(want, x)
		if answer != a[i] || (i == 3) != (answer.E == api.ErrFull) {
			t.Error(i, answer)
		}
		want = g
	}
	if !heaptest.Equal(h, want) || len(a) != 6 || op != 0 || e != api.OK {
		t.Error(op, e)
	}
	if _, a, op, e := Run(sizes, slices.Repeat([]api.OpCall{{Kind: api.OpNil}}, 200)); len(a) != 200 || op != 0 || e != api.OK {
		t.Error(len(a), op, e)
	}
	if h, a, op, e := Run(sizes, nil); h.Counts != (api.HpCounts{}) || len(h.Words) != 71 || len(a)+op > 0 || e != api.OK {
		t.Error(a, op, e)
	}
}

// P30.2
func TestMomentsFullReport(t *testing.T) {
	l, e := Moments(sizes, script())
	var occupied, live, pauses []int
	for _, m := range l {
		occupied, live, pauses = append(occupied, m.Occupied), append(live, m.Live), append(pauses, m.Pauses)
	}
	if !slices.Equal(occupied, []int{0, 3, 6, 6, 6, 6, 8}) || !slices.Equal(live, occupied) || !slices.Equal(pauses, []int{0, 0, 0, 0, 1, 2, 2}) || e != api.OK {
		t.Error(l, e)
	}
	h, _, _, _ := Run(sizes, script())
	if int64(l[6].Copied) != h.Counts.Copied || l[6].Copied == 0 || l[2].Copied != 0 {
		t.Error(l)
	}
	if f, e := Full(sizes, script()); !slices.Equal(f, []int{3}) || e != api.OK {
		t.Error(f, e)
	}
	r, e := Report(sizes, script())
	want := "alloc 0 1 1  ok  3 3 0\nalloc 1 1 1  ok  6 6 0\nstore 1 0 0  ok  6 6 0\nalloc 0 1 1  error 5  6 6 1\ncollect  ok  6 6 2\nalloc 0 0 1  ok  8 8 2\n"
	if r != want || e != api.OK {
		t.Error(r, e)
	}
	if r, e := Report(sizes, nil); r != "" || e != api.OK {
		t.Error(r, e)
	}
}

// P30.3, P30.4
func TestDifferSettle(t *testing.T) {
	if d, e := Differ(sizes, script()); d != -1 || e != api.OK {
		t.Error(d, e)
	}
	if n, e := Settle(sizes, script(), 10); n != 0 || e != api.OK {
		t.Error(n, e)
	}
	cleared := append(script()[:3], api.OpCall{Kind: api.OpClear}, api.OpCall{Kind: api.OpClear, A: 1}, api.OpCall{Kind: api.OpCollect})
	if n, e := Settle(sizes, cleared, 0); n != 0 || e != api.OK {
		t.Error(n, e)
	}
	cleared[3].Kind, cleared[5].Kind = api.OpCollect, api.OpClear
	if n, e := Settle(sizes, cleared, 10); n != 1 || e != api.OK {
		t.Error(n, e)
	}
	if n, e := Settle(sizes, cleared, 0); n != 0 || e != api.ErrNone {
		t.Error(n, e)
	}
	for _, most := range []int{-1, 401, math.MinInt} {
		if n, e := Settle(sizes, script(), most); n != 0 || e != api.ErrRange {
			t.Error(most, n, e)
		}
	}
}

// random returns a script.
func random(r *heaptest.Random, c api.Config, n int) []api.OpCall {
	kinds := []int{1, 1, 1, 1, 1, 2, 2, 3, 3, 3, 3, 3, 5, 6, 7, 4, 8, 9, 10, 11}
	var l []api.OpCall
	for range n {
		x := api.OpCall{Kind: kinds[r.Next(len(kinds))], A: r.Next(c.K)}
		switch x.Kind {
		case api.OpAlloc:
			x.Ptrs, x.Raws = r.Next(4), r.Next(3)
		case api.OpLoad, api.OpStore:
			x.B, x.Field = r.Next(c.K), r.Next(2)
		case api.OpMove, api.OpSame:
			x.B = r.Next(c.K)
		case api.OpRead:
			x.Field = r.Next(2)
		case api.OpWrite:
			x.Value = uint64(r.Next(1000))
		case api.OpCollect:
			x.A = 0
		}
		l = append(l, x)
	}
	return l
}

// P30.5, P30.6, P30.7, P30.8, P30.9
func TestTheorem(t *testing.T) {
	r := heaptest.NewRandom(30)
	for _, c := range []api.Config{sizes, {C: 8, N: 12, S: 6, K: 4, Q: 2}, {C: 12, N: 14, S: 9, K: 5, Q: 3}} {
		budget, _ := config.Budget(c)
		for range 8 {
			l := random(r, c, 150)
			if d, e := Differ(c, l); d != -1 || e != api.OK {
				t.Fatal(d, e)
			}
			h, a, _, _ := Run(c, l)
			m, _ := Moments(c, l)
			full, _ := Full(c, l)
			if _, want, _, e := model.Play(c, l, full); !slices.Equal(want, a) || e != api.OK {
				t.Fatal(e)
			}
			for i, x := range l {
				pauses, copied := m[i+1].Pauses-m[i].Pauses, m[i+1].Copied-m[i].Copied
				if pauses > 1 || pauses == 1 && x.Kind > api.OpAlloc && x.Kind < api.OpCollect || x.Kind == api.OpCollect && pauses != 1 || copied > c.S+c.C {
					t.Fatal(x, pauses, copied)
				}
				if a[i].E == api.ErrFull && 2*(m[i+1].Occupied+1+x.Ptrs+x.Raws) <= budget || m[i].Occupied < m[i].Live {
					t.Fatal(x, m[i])
				}
				if a[i].E != api.OK && a[i].E != api.ErrFull && m[i] != m[i+1] {
					t.Fatal(x, m[i], m[i+1])
				}
			}
			occupied, _ := nursery.Occupied(h)
			if n, e := Settle(c, l, api.MaxSettle); e != api.OK || n > 2*(c.N+1)*(occupied+1)+4 {
				t.Fatal(n, e)
			}
			if report, _ := Report(c, l); strings.Count(report, "\n") != len(l) {
				t.Fatal(report)
			}
		}
	}
}
