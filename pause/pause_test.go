package pause

import (
	"math"
	"reflect"
	"slices"
	"testing"

	"shunter/api"
	"shunter/external"
	"shunter/heaps"
	"shunter/heaptest"
	"shunter/iso"
	"shunter/nursery"
)

// The errors that all functions return first.
func TestFirstErrors(t *testing.T) {
	bad := heaptest.Young()
	bad.Regs[0] = 3
	for i, x := range []struct {
		h api.Heap
		e api.Errno
	}{{bad, api.ErrForm}, {api.Heap{}, api.ErrRange}} {
		a, r, e1 := Do(x.h)
		b, l, e2 := Many(x.h, -1)
		c, n, e3 := Round(x.h, 401)
		s, e4 := Settled(x.h)
		if !slices.Equal([]api.Errno{e1, e2, e3, e4}, slices.Repeat([]api.Errno{x.e}, 4)) || s || n+len(l) > 0 || r != (api.PaReport{}) {
			t.Error(i, e1, e2, e3, e4)
		}
		for _, g := range []api.Heap{a, b, c} {
			if !reflect.DeepEqual(g, api.Heap{}) {
				t.Error(i, g)
			}
		}
	}
}

// P25.1: the example
func TestExample(t *testing.T) {
	h, r, e := Do(heaptest.Young())
	if r != (api.PaReport{Kind: api.PaCollected, Young: 6, Out: 6, Cars: 1, Turned: true}) || e != api.OK {
		t.Error(r, e)
	}
	h, r, e = Do(h)
	if r != (api.PaReport{Kind: api.PaCollected, Out: 6, Cars: 1, Turned: true}) || e != api.OK || h.Counts.Pauses != 2 || h.Counts.Copied != 18 {
		t.Error(r, e, h.Counts)
	}
	h.Regs[0] = 0
	h, r, e = Do(h)
	if r != (api.PaReport{Kind: api.PaFreed, Cars: 1, Turned: true}) || e != api.OK || h.Counts.Trains != 1 {
		t.Error(r, e)
	}
	h, r, e = Do(h)
	if r != (api.PaReport{Kind: api.PaNothing}) || e != api.OK || h.Counts.Pauses != 4 {
		t.Error(r, e)
	}
}

// P25.1: a futile pause, and one that relinks
func TestFutileRelinked(t *testing.T) {
	two := api.Shape{P: 2}
	c := api.Config{C: 8, N: 16, S: 6, K: 2, Q: 2}
	h := heaptest.Built(c, nil, []heaptest.Car{heaptest.Used(0, two, two), heaptest.Used(1, two)}, nil)
	h = heaptest.Linked(h, [3]int{15, 0, 10}, [3]int{15, 1, 15})
	h.Regs[0] = 15
	g, r, e := Do(h)
	if r != (api.PaReport{Kind: api.PaCollected, Kept: 3, Gone: 3, Cars: 1, Futile: true}) || g.Pin != 15 || g.Counts.Futile != 1 || e != api.OK {
		t.Error(r, g.Pin, e)
	}
	h = heaptest.Built(c, nil, []heaptest.Car{heaptest.Popular(0, two)}, nil)
	h.Regs[1] = 7
	g, r, e = Do(h)
	if r != (api.PaReport{Kind: api.PaRelinked}) || !slices.Equal(g.Trains.Youngest, []int{0}) || g.Counts.Relinked != 1 || e != api.OK {
		t.Error(r, e)
	}
}

// P25.2, P25.7
func TestManyRound(t *testing.T) {
	h := heaptest.Young()
	g, l, e := Many(h, 3)
	f := h
	var want []api.PaReport
	for range 3 {
		var r api.PaReport
		f, r, _ = Do(f)
		want = append(want, r)
	}
	if !heaptest.Equal(g, f) || !slices.Equal(l, want) || e != api.OK {
		t.Error(l, e)
	}
	if g, l, e := Many(h, 0); !heaptest.Equal(g, h) || len(l) > 0 || e != api.OK {
		t.Error(l, e)
	}
	for _, n := range []int{-1, 401, math.MinInt} {
		g, l, e := Many(h, n)
		f, m, e2 := Round(h, n)
		if !reflect.DeepEqual(g, api.Heap{}) || !reflect.DeepEqual(f, api.Heap{}) || len(l)+m > 0 || e != api.ErrRange || e2 != api.ErrRange {
			t.Error(n, e, e2)
		}
	}
	if g, n, e := Round(h, 0); !heaptest.Equal(g, h) || n != 0 || e != api.OK {
		t.Error(n, e)
	}
	if _, n, e := Round(h, 400); n != 1 || e != api.OK {
		t.Error("the lowest train has no cars", n, e)
	}
	two := api.Shape{P: 2}
	chain := heaptest.Built(api.Config{C: 8, N: 16, S: 6, K: 2, Q: 2}, nil, []heaptest.Car{heaptest.Used(0, two, two), heaptest.Used(1, two)}, nil)
	chain = heaptest.Linked(chain, [3]int{15, 0, 10})
	chain.Regs[0] = 15
	if _, n, _ := Round(chain, 1); n != 1 {
		t.Error(n)
	}
	g, n, e := Round(chain, 400)
	if last := mustReport(chain, n); n < 2 || e != api.OK || last.Kind != api.PaFreed && len(g.Trains.Lowest) > 0 {
		t.Error(n, e, last)
	}
	empty, _ := nursery.New(heaptest.Sizes())
	if _, n, e := Round(empty, 400); n != 1 || e != api.OK {
		t.Error(n, e)
	}
}

// mustReport returns the report of the last of n pauses.
func mustReport(h api.Heap, n int) api.PaReport {
	_, l, _ := Many(h, n)
	return l[n-1]
}

// P25.3
func TestTotalSettled(t *testing.T) {
	a := api.PaReport{Kind: 4, Young: 1, Out: 2, Kept: 3, Gone: 4, Cars: 5, Futile: true}
	b := api.PaReport{Kind: 2, Young: 10, Out: 20, Kept: 30, Gone: 40, Cars: math.MaxInt, Turned: true}
	want := api.PaReport{Kind: 2, Young: 11, Out: 22, Kept: 33, Gone: 44, Cars: math.MinInt + 4, Futile: true, Turned: true}
	if got := Total([]api.PaReport{a, b}); got != want {
		t.Error(got)
	}
	if got := Total(nil); got != (api.PaReport{}) {
		t.Error(got)
	}
	h := heaptest.Young()
	if s, e := Settled(h); !s || e != api.OK {
		t.Error(s, e)
	}
	h.Regs[0] = 1
	if s, e := Settled(h); s || e != api.OK {
		t.Error(s, e)
	}
	empty, _ := nursery.New(heaptest.Sizes())
	if s, e := Settled(empty); !s || e != api.OK {
		t.Error(s, e)
	}
}

// P25.4, P25.5, P25.8
func TestTheorem(t *testing.T) {
	r := heaptest.NewRandom(25)
	kinds := map[int]int{}
	for range 500 {
		h := r.Heap(true)
		before := heaps.Clone(h)
		g, report, e := Do(h)
		if rule, _ := nursery.Check(g); rule != 0 || e != api.OK || g.Counts.Pauses != h.Counts.Pauses+1 {
			t.Fatal(rule, e)
		}
		was, _, _ := iso.Read(h.Words, h.Regs)
		same, _ := iso.Matches(g.Words, g.Regs, was)
		had, _ := nursery.Occupied(h)
		has, _ := nursery.Occupied(g)
		copied := report.Young + report.Out + report.Kept
		if !same || has > had || report.Young > h.Top || copied > h.Top+h.Config.C || !reflect.DeepEqual(h, before) {
			t.Fatal(same, had, has, report)
		}
		if int64(copied) != g.Counts.Copied-h.Counts.Copied || (g.Counts.Futile > h.Counts.Futile) != report.Futile {
			t.Fatal(report, g.Counts)
		}
		if report.Kind != api.PaCollected && report.Out+report.Kept+report.Gone > 0 {
			t.Fatal(report)
		}
		if any, _ := external.Any(g); report.Futile && any && g.Pin == 0 {
			t.Fatal("no pin")
		}
		kinds[report.Kind]++
	}
	for kind := api.PaNothing; kind <= api.PaCollected; kind++ {
		if kinds[kind] == 0 {
			t.Error(kinds)
		}
	}
}

// P25.6
func TestSettles(t *testing.T) {
	r := heaptest.NewRandom(26)
	for range 150 {
		h := r.Heap(true)
		had, _ := nursery.Occupied(h)
		most := 2*(h.Config.N+1)*(had+1) + 1
		pauses := 0
		for range 2 {
			g, n, e := Round(h, 400)
			if e != api.OK {
				t.Fatal(e)
			}
			h, pauses = g, pauses+n
		}
		h, _, _ = Do(h)
		if s, e := Settled(h); !s || e != api.OK || pauses+1 > most {
			t.Fatal(s, e, pauses, most)
		}
	}
}

// Results share no memory with arguments (R3)
func TestNewMemory(t *testing.T) {
	r := heaptest.NewRandom(6)
	for range 40 {
		h := r.Heap(true)
		before := heaps.Clone(h)
		var results []api.Heap
		g, _, _ := Do(h)
		f, _, _ := Many(h, 0)
		k, _, _ := Round(h, 0)
		results = append(results, g, f, k)
		for _, g := range results {
			heaptest.Scribble(g)
		}
		if !reflect.DeepEqual(h, before) {
			t.Fatal("memory is shared")
		}
	}
}
