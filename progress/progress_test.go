package progress

import (
	"math"
	"reflect"
	"slices"
	"testing"

	"shunter/api"
	"shunter/config"
	"shunter/heaps"
	"shunter/heaptest"
	"shunter/mutator"
	"shunter/nursery"
	"shunter/objects"
	"shunter/pause"
)

func example() api.Heap {
	h := heaptest.Built(heaptest.Sizes(), []api.Shape{{P: 1, R: 1}}, []heaptest.Car{heaptest.Used(0, api.Shape{P: 2})}, nil)
	h.Regs[0] = 1
	return heaptest.Linked(h, [3]int{1, 0, 7}, [3]int{7, 0, 1}, [3]int{7, 1, 7})
}

// The errors that all functions return first.
func TestFirstErrors(t *testing.T) {
	bad := example()
	bad.Regs[1] = 2
	w := api.PgWatch{Words: -1}
	for i, x := range []struct {
		h api.Heap
		e api.Errno
	}{{bad, api.ErrForm}, {api.Heap{}, api.ErrRange}} {
		l, e1 := Live(x.h)
		g, e2 := Garbage(x.h)
		a, b, e3 := Words(x.h)
		v, e4 := Begin(x.h)
		p, e5 := Pause(w, x.h, api.PaReport{})
		c, d, e6 := Gone(w, x.h)
		n, e7 := Longest(x.h)
		if !slices.Equal([]api.Errno{e1, e2, e3, e4, e5, e6, e7}, slices.Repeat([]api.Errno{x.e}, 7)) || len(l)+len(g)+a+b+n != 0 || v != (api.PgWatch{}) || p != (api.PgWatch{}) || c || d {
			t.Error(i, e1, e2, e3, e4, e5, e6, e7)
		}
	}
	for i, w := range []api.PgWatch{{Words: -1}, {Pauses: -1}, {Rounds: -1}, {Words: 1000000001}, {Pauses: math.MaxInt}, {Rounds: 1000000001}} {
		v, e1 := Alloc(w, 0)
		p, e2 := Pause(w, example(), api.PaReport{})
		c, d, e3 := Gone(w, example())
		if e1 != api.ErrRange || e2 != api.ErrRange || e3 != api.ErrRange || v != (api.PgWatch{}) || p != (api.PgWatch{}) || c || d {
			t.Error(i, e1, e2, e3)
		}
	}
}

// P33.1
func TestLiveGarbageWords(t *testing.T) {
	h := example()
	live, e1 := Live(h)
	dead, e2 := Garbage(h)
	a, b, e3 := Words(h)
	if !slices.Equal(live, []int{1, 7}) || len(dead) > 0 || a != 6 || b != 0 || e1+e2+e3 != api.OK {
		t.Error(live, dead, a, b)
	}
	h.Regs[0] = 0
	live, _ = Live(h)
	dead, _ = Garbage(h)
	a, b, _ = Words(h)
	if len(live) > 0 || !slices.Equal(dead, []int{1, 7}) || a != 0 || b != 6 {
		t.Error(live, dead, a, b)
	}
}

// P33.2, P33.3
func TestWatch(t *testing.T) {
	h := example()
	w, e := Begin(h)
	if w != (api.PgWatch{Words: 6}) || e != api.OK {
		t.Error(w, e)
	}
	w, e = Alloc(w, 3)
	if w != (api.PgWatch{Words: 9}) || e != api.OK {
		t.Error(w, e)
	}
	for n, want := range map[int]api.Errno{0: api.ErrTooLarge, 65: api.ErrTooLarge, -1: api.ErrTooLarge, 1: api.OK, 64: api.OK} {
		if v, e := Alloc(w, n); e != want || e != api.OK && v != (api.PgWatch{}) {
			t.Error(n, v, e)
		}
	}
	if v, e := Alloc(api.PgWatch{Words: 1e9, Pauses: 1e9, Rounds: 1e9}, 64); v != (api.PgWatch{Words: 1e9 + 64, Pauses: 1e9, Rounds: 1e9}) || e != api.OK {
		t.Error(v, e)
	}
	if gone, holds, e := Gone(w, h); gone || !holds || e != api.OK {
		t.Error(gone, holds, e)
	}
	if gone, holds, e := Gone(api.PgWatch{Words: 5, Rounds: 2}, h); !gone || holds || e != api.OK {
		t.Error(gone, holds, e)
	}
	none := heaps.Clone(h)
	none.Trains = api.TrTrains{Youngest: []int{0}}
	for i, x := range []struct {
		h      api.Heap
		kind   int
		rounds int
		e      api.Errno
	}{{h, api.PaNothing, 1, api.OK}, {h, api.PaFreed, 1, api.OK}, {h, api.PaRelinked, 0, api.OK}, {h, api.PaCollected, 0, api.OK}, {none, api.PaCollected, 1, api.OK}, {h, 0, 0, api.ErrRange}, {h, 5, 0, api.ErrRange}} {
		v, e := Pause(w, x.h, api.PaReport{Kind: x.kind})
		want := api.PgWatch{Words: 9, Pauses: 1, Rounds: x.rounds}
		if x.e != api.OK {
			want = api.PgWatch{}
		}
		if v != want || e != x.e {
			t.Error(i, v, e)
		}
	}
	if n, e := Longest(h); n != 40 || e != api.OK {
		t.Error(n, e)
	}
	if n, e := Longest(none); n != 70 || e != api.OK {
		t.Error(n, e)
	}
}

// P33.5, P33.6, P33.7
func TestRounds(t *testing.T) {
	r := heaptest.NewRandom(33)
	for range 150 {
		h := r.Heap(true)
		live, _ := Live(h)
		dead, _ := Garbage(h)
		a, b, _ := Words(h)
		occupied, _ := nursery.Occupied(h)
		all, _ := nursery.Objects(h)
		both := slices.Concat(live, dead)
		slices.Sort(both)
		if !slices.Equal(both, all) || a+b != occupied {
			t.Fatal(live, dead)
		}
		for _, x := range live {
			to, _ := objects.Pointers(h.Words, x)
			for _, y := range to {
				if y != 0 && !slices.Contains(live, y) {
					t.Fatal(x, y)
				}
			}
		}
		cleared := heaps.Clone(h)
		cleared.Regs[r.Next(len(h.Regs))] = 0
		less, _ := Live(cleared)
		for _, x := range less {
			if !slices.Contains(live, x) {
				t.Fatal(x, "was garbage")
			}
		}
		bound, _ := config.Bound(h.Config)
		for range 3 {
			longest, _ := Longest(h)
			g, n, e := pause.Round(h, min(longest, 400))
			if 2*longest > bound || e != api.OK || n == 400 {
				t.Fatal(longest, n, e)
			}
			h = g
		}
		if dead, e := Garbage(h); len(dead) > 0 || e != api.OK {
			t.Fatal(dead)
		}
	}
}

// P33.4: watches that are begun at all moments, while a heap is used
func TestTheorem(t *testing.T) {
	kinds := []int{1, 1, 1, 1, 1, 2, 2, 3, 3, 3, 3, 3, 3, 6, 7, 11, 11}
	r := heaptest.NewRandom(34)
	gone := 0
	for _, c := range []api.Config{heaptest.Sizes(), {C: 8, N: 12, S: 6, K: 4, Q: 2}, {C: 12, N: 14, S: 9, K: 5, Q: 2}} {
		for range 4 {
			h, _ := nursery.New(c)
			var watches []api.PgWatch
			for range 250 {
				op := api.OpCall{Kind: kinds[r.Next(len(kinds))], A: r.Next(c.K), B: r.Next(c.K), Field: r.Next(2), Ptrs: r.Next(4), Raws: r.Next(2)}
				before := heaps.Clone(h)
				g, a, e := mutator.Do(h, op)
				if e != api.OK || !reflect.DeepEqual(h, before) {
					t.Fatal(e)
				}
				paused, report := h, api.PaReport{}
				if g.Counts.Pauses > h.Counts.Pauses {
					paused, report, _ = pause.Do(h)
				}
				for i, w := range watches {
					if report.Kind > 0 {
						w, _ = Pause(w, paused, report)
					}
					if op.Kind == api.OpAlloc && a.E == api.OK {
						w, _ = Alloc(w, 1+op.Ptrs+op.Raws)
					}
					ended, holds, e := Gone(w, g)
					if ended && !holds || e != api.OK {
						t.Fatal("garbage is left", w, e)
					}
					if ended {
						gone++
					}
					watches[i] = w
				}
				if w, _ := Begin(g); r.Next(3) == 0 {
					watches = append(watches, w)
				}
				if len(watches) > 12 {
					watches = watches[1:]
				}
				h = g
			}
		}
	}
	if gone == 0 {
		t.Error("no watch has ended")
	}
}
