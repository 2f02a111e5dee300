package stats

import (
	"math"
	"strings"
	"testing"

	"shunter/api"
	"shunter/heaptest"
	"shunter/mutator"
	"shunter/nursery"
	"shunter/pause"
)

func example() api.Heap {
	h := heaptest.Built(heaptest.Sizes(), []api.Shape{{P: 1, R: 1}}, []heaptest.Car{heaptest.Used(0, api.Shape{P: 2})}, nil)
	h.Regs[0] = 1
	return heaptest.Linked(h, [3]int{1, 0, 7}, [3]int{7, 0, 1}, [3]int{7, 1, 7})
}

// P34.1
func TestOfGrown(t *testing.T) {
	want := api.SaStats{Objects: 2, Words: 6, Live: 6, Young: 3, Cars: 1, Free: 8, Lowest: 1, Slots: 1, Refs: 3}
	if x, e := Of(example()); x != want || e != api.OK {
		t.Error(x, e)
	}
	bad := example()
	bad.Pin = 2
	if x, e := Of(bad); x != (api.SaStats{}) || e != api.ErrForm {
		t.Error(x, e)
	}
	h := example()
	h.Regs[0] = 0
	h.Trains = api.TrTrains{Youngest: []int{0}}
	h.Frames[0].State = api.FrPopular
	x, _ := Of(h)
	if got := Grown(want, x); got != (api.SaStats{Live: -6, Dead: 6, Popular: 1, Lowest: -1, Youngest: 1}) {
		t.Error(got)
	}
	all := api.SaStats{Objects: 1, Words: 2, Live: 3, Dead: 4, Young: 5, Cars: 6, Popular: 7, Free: 8, Lowest: 9, Youngest: 10, Slots: 11, Refs: 12}
	if got := Grown(api.SaStats{}, all); got != all {
		t.Error(got)
	}
	if got := Grown(all, all); got != (api.SaStats{}) {
		t.Error(got)
	}
	if got := Grown(api.SaStats{Objects: 1}, api.SaStats{Objects: math.MinInt}); got != (api.SaStats{Objects: math.MaxInt}) {
		t.Error(got)
	}
}

// P34.2
func TestEventsAddAgree(t *testing.T) {
	l := []api.PaReport{{Kind: api.PaCollected, Young: 3, Out: 3, Futile: true}, {Kind: api.PaFreed}}
	want := api.HpCounts{Pauses: 2, Copied: 6, Trains: 1, Cars: 1, Futile: 1, Allocs: 2}
	x, e := Events(l, 2, 0)
	if x != want || e != api.OK {
		t.Error(x, e)
	}
	x, e = Events([]api.PaReport{{Kind: api.PaRelinked, Kept: 5, Gone: 7, Cars: 9}, {Kind: api.PaNothing}}, 0, 4)
	if x != (api.HpCounts{Pauses: 2, Copied: 5, Relinked: 1, Full: 4}) || e != api.OK {
		t.Error(x, e)
	}
	x, e = Events([]api.PaReport{{Kind: api.PaNothing, Young: 1e9, Gone: 1e9}}, 1e9, 1e9)
	if x != (api.HpCounts{Pauses: 1, Copied: 1e9, Allocs: 1e9, Full: 1e9}) || e != api.OK {
		t.Error(x, e)
	}
	for i, x := range []struct {
		l            []api.PaReport
		allocs, full int
		e            api.Errno
	}{{make([]api.PaReport, 401), -1, 0, api.ErrLong}, {make([]api.PaReport, 400), 0, 0, api.ErrRange}, {nil, -1, 0, api.ErrRange}, {nil, 0, 1000000001, api.ErrRange}, {[]api.PaReport{{Kind: 5}}, 0, 0, api.ErrRange}, {[]api.PaReport{{Kind: 1, Young: -1}}, 0, 0, api.ErrRange}, {[]api.PaReport{{Kind: 1, Out: 1000000001}}, 0, 0, api.ErrRange}, {[]api.PaReport{{Kind: 1, Kept: -1}}, 0, 0, api.ErrRange}, {[]api.PaReport{{Kind: 1, Gone: -1}}, 0, 0, api.ErrRange}, {[]api.PaReport{{Kind: 1, Cars: -1}}, 0, 0, api.ErrRange}} {
		if got, e := Events(x.l, x.allocs, x.full); got != (api.HpCounts{}) || e != x.e {
			t.Error(i, got, e)
		}
	}
	most := api.HpCounts{Pauses: 1e15, Copied: 1e15, Trains: 1e15, Cars: 1e15, Relinked: 1e15, Futile: 1e15, Allocs: 1e15, Full: 1e15}
	if sum, e := Add(most, want); sum.Full != 1e15 || sum.Copied != 1e15+6 || sum.Allocs != 1e15+2 || e != api.OK {
		t.Error(sum, e)
	}
	for i, x := range []api.HpCounts{{Pauses: -1}, {Full: 1e15 + 1}, {Copied: math.MinInt64}, {Futile: -1}} {
		a, e := Add(x, want)
		b, e2 := Add(want, x)
		if a != (api.HpCounts{}) || b != (api.HpCounts{}) || e != api.ErrRange || e2 != api.ErrRange || Agree(x, want, want) || Agree(want, want, x) {
			t.Error(i, e, e2)
		}
	}
	sum, _ := Add(want, want)
	if !Agree(want, sum, want) || Agree(want, want, want) || !Agree(want, want, api.HpCounts{}) {
		t.Error("Agree")
	}
}

// P34.3, P34.7
func TestText(t *testing.T) {
	x, _ := Of(example())
	const text = "objects 2\nwords 6\nlive 6\ndead 0\nyoung 3\ncars 1\npopular 0\nfree 8\nlowest 1\nyoungest 0\nslots 1\nrefs 3\n"
	if s, e := Print(x); s != text || e != api.OK {
		t.Error(s, e)
	}
	if y, line, e := Parse(text); y != x || line != 0 || e != api.OK {
		t.Error(y, line, e)
	}
	least := api.SaStats{Objects: -1e9, Words: 1e9, Refs: -1e9}
	s, e := Print(least)
	if y, line, e2 := Parse(s); y != least || line != 0 || e+e2 != api.OK {
		t.Error(y, line, e, e2)
	}
	if s, e := Print(api.SaStats{}); !strings.HasPrefix(s, "objects 0\n") || strings.Count(s, "\n") != 12 || e != api.OK {
		t.Error(s, e)
	}
	for i, x := range []api.SaStats{{Objects: 1e9 + 1}, {Refs: -1e9 - 1}, {Young: math.MinInt}} {
		if s, e := Print(x); s != "" || e != api.ErrRange {
			t.Error(i, s, e)
		}
	}
	for s, want := range map[string][2]int{strings.Repeat("x", 1001): {0, 3}, strings.Repeat("x", 1000): {1, 6}, "": {1, 6}, "objects 2": {1, 6}, "objects 2\n": {2, 6}, "words 6\n" + text: {1, 6}, text + "\n": {13, 6}, text + "x": {13, 6}, strings.TrimSuffix(text, "\n"): {12, 6}, strings.Replace(text, "live 6", "live 06", 1): {3, 6}, strings.Replace(text, "dead 0", "dead 1000000001", 1): {4, 6}, strings.Replace(text, "cars ", "cars  ", 1): {6, 6}, strings.Replace(text, "slots 1", "slots 1 ", 1): {11, 6}} {
		if y, line, e := Parse(s); y != (api.SaStats{}) || line != want[0] || int(e) != want[1] {
			t.Errorf("%.20q: %v, %d, %d", s, y, line, e)
		}
	}
}

// P34.4, P34.5, P34.6
func TestTheorem(t *testing.T) {
	kinds := []int{1, 1, 1, 1, 1, 2, 2, 3, 3, 3, 3, 3, 6, 7, 11}
	r := heaptest.NewRandom(35)
	c := api.Config{C: 8, N: 12, S: 6, K: 4, Q: 2}
	for range 5 {
		h, _ := nursery.New(c)
		var l []api.PaReport
		allocs, full := 0, 0
		for range 200 {
			op := api.OpCall{Kind: kinds[r.Next(len(kinds))], A: r.Next(c.K), B: r.Next(c.K), Field: r.Next(2), Ptrs: r.Next(4), Raws: r.Next(2)}
			before, _ := Of(h)
			g, a, _ := mutator.Do(h, op)
			if g.Counts.Pauses > h.Counts.Pauses {
				p, report, _ := pause.Do(h)
				l = append(l, report)
				after, _ := Of(p)
				if copied := report.Young + report.Out + report.Kept; copied > before.Young+c.C || after.Words > before.Words || after.Live > before.Live || after.Young != 0 {
					t.Fatal(report, before, after)
				}
			}
			if op.Kind == api.OpAlloc && a.E == api.OK {
				allocs++
			} else if op.Kind == api.OpAlloc && a.E == api.ErrFull {
				full++
			}
			x, e := Of(g)
			if x.Words != x.Live+x.Dead || x.Cars+x.Free != c.N || x.Lowest+x.Youngest != x.Cars || x.Slots > x.Refs || x.Popular > 2 || e != api.OK {
				t.Fatal(x, e)
			}
			h = g
		}
		events, e := Events(l, allocs, full)
		if !Agree(api.HpCounts{}, h.Counts, events) || e != api.OK {
			t.Fatal(events, h.Counts)
		}
	}
}
