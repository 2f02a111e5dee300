package popular

import (
	"reflect"
	"slices"
	"testing"

	"shunter/api"
	"shunter/evacuate"
	"shunter/external"
	"shunter/heaps"
	"shunter/heaptest"
	"shunter/iso"
	"shunter/nursery"
	"shunter/remset"
	"shunter/scavenge"
)

var two = api.Shape{P: 2}

var large = api.Config{C: 8, N: 16, S: 6, K: 2, Q: 2}

// relinkable has a popular car 0 in the lowest train, and the cars 1 and 2 in the youngest one.
func relinkable() api.Heap {
	h := heaptest.Built(large, nil, []heaptest.Car{heaptest.Popular(0, two), heaptest.Used(3, two)}, []heaptest.Car{heaptest.Popular(1, two), heaptest.Used(2, two)})
	h = heaptest.Linked(h, [3]int{15, 0, 7}, [3]int{15, 1, 7}, [3]int{7, 0, 31})
	h.Pin = 7
	return h
}

// The errors that all functions return first.
func TestFirstErrors(t *testing.T) {
	bad := relinkable()
	bad.Pin = 8
	empty, _ := nursery.New(large)
	for i, x := range []struct {
		h     api.Heap
		e, e2 api.Errno
	}{{bad, api.ErrForm, api.ErrForm}, {api.Heap{}, api.ErrRange, api.ErrRange}, {heaptest.Young(), api.ErrDown, api.OK}, {empty, api.ErrDown, api.OK}} {
		c, e1 := Can(x.h)
		g, e2 := Relink(x.h)
		f, r, b, e3 := Collect(x.h)
		cars, e4 := Cars(x.h)
		l, e5 := Census(x.h)
		if !slices.Equal([]api.Errno{e1, e2, e3}, slices.Repeat([]api.Errno{x.e}, 3)) || e4 != x.e2 || e5 != x.e2 || c || b || len(cars)+len(l) > 0 || !reflect.DeepEqual(g, api.Heap{}) || !reflect.DeepEqual(f, api.Heap{}) || !reflect.DeepEqual(r, api.EvReport{}) {
			t.Error(i, e1, e2, e3, e4, e5)
		}
	}
}

// P23.1, P23.4, P23.6
func TestRelink(t *testing.T) {
	h := relinkable()
	if can, e := Can(h); !can || e != api.OK {
		t.Error(can, e)
	}
	g, e := Relink(h)
	if !slices.Equal(g.Trains.Lowest, []int{3}) || !slices.Equal(g.Trains.Youngest, []int{1, 0, 2}) || g.Pin != 0 || g.Counts.Relinked != 1 || !slices.Equal(g.Words, h.Words) || !remset.Same(g.Sets, h.Sets) || e != api.OK {
		t.Error(g.Trains, g.Pin, e)
	}
	if rule, e := nursery.Check(g); rule != 0 || e != api.OK {
		t.Error(rule, e)
	}
	behind := relinkable()
	behind.Trains = api.TrTrains{Lowest: []int{0, 2}, Youngest: []int{1}}
	behind.Frames[3], behind.Words[31], behind.Words[8] = api.Frame{}, 0, 0
	behind.Sets.Cars[3], _ = remsetCar()
	behind.Pin = 23
	if g, e := Relink(behind); !slices.Equal(g.Trains.Youngest, []int{1, 0}) || g.Pin != 23 || e != api.OK {
		t.Error(g.Trains, g.Pin, e)
	}
	alone := relinkable()
	alone.Trains = api.TrTrains{Lowest: []int{0}}
	for _, car := range []int{1, 2, 3} {
		alone.Frames[car] = api.Frame{}
	}
	clear(alone.Words[8:])
	alone.Sets, _ = remset.New(large)
	if g, e := Relink(alone); !slices.Equal(g.Trains.Youngest, []int{0}) || len(g.Trains.Lowest) > 0 || e != api.OK {
		t.Error(g.Trains, e)
	}
	alone.Pin = 0
	if can, e := Can(alone); can || e != api.OK {
		t.Error("no external references", can, e)
	}
	if g, e := Relink(alone); !reflect.DeepEqual(g, api.Heap{}) || e != api.ErrDown {
		t.Error(e)
	}
	plain := heaptest.Built(large, nil, []heaptest.Car{heaptest.Used(0, two)}, nil)
	plain.Regs[0] = 7
	if can, e := Can(plain); can || e != api.OK {
		t.Error("no popular car", can, e)
	}
}

func remsetCar() (api.SlSet, api.Errno) {
	s, e := remset.New(large)
	return s.Cars[0], e
}

// P23.2
func TestCollect(t *testing.T) {
	h := relinkable()
	g, r, relinked, e := Collect(h)
	want, _ := Relink(h)
	if !relinked || !heaptest.Equal(g, want) || !reflect.DeepEqual(r, api.EvReport{}) || e != api.OK {
		t.Error(r, relinked, e)
	}
	h.Pin = 0
	h = heaptest.Linked(h, [3]int{15, 0, 0}, [3]int{15, 1, 0})
	g, r, relinked, e = Collect(h)
	want, report, _ := evacuate.Do(h)
	if relinked || !heaptest.Equal(g, want) || !reflect.DeepEqual(r, report) || e != api.OK || r.Gone != 3 {
		t.Error(r, relinked, e)
	}
}

// P23.3: the example
func TestCarsCensus(t *testing.T) {
	if l, e := Cars(relinkable()); !slices.Equal(l, []int{0, 1}) || e != api.OK {
		t.Error(l, e)
	}
	h := heaptest.Linked(relinkable(), [3]int{7, 1, 7}, [3]int{23, 0, 31}, [3]int{23, 1, 31})
	if l, e := Census(h); !slices.Equal(l, []api.RfCount{{Target: 7, N: 2}, {Target: 31, N: 3}}) || e != api.OK {
		t.Error(l, e)
	}
	h, _, _ = scavenge.Do(heaptest.Young())
	h, _ = external.Turn(h)
	h, _, _ = evacuate.Do(h)
	h, _ = external.Turn(h)
	if l, e := Cars(h); len(l) > 0 || e != api.OK {
		t.Error(l, e)
	}
	h, a, _ := nursery.Bump(h, two)
	h.Regs[1] = a
	h = heaptest.Linked(h, [3]int{a, 0, 15}, [3]int{a, 1, 15})
	if l, _ := Census(h); len(l) > 0 {
		t.Error("slots of the nursery are in no set", l)
	}
	h, _, _ = scavenge.Do(h)
	if l, e := Census(h); !slices.Equal(l, []api.RfCount{{Target: 15, N: 2}}) || e != api.OK {
		t.Error(l, e)
	}
}

// P23.4, P23.5, P23.7, P23.8
func TestTheorem(t *testing.T) {
	r := heaptest.NewRandom(23)
	many := 0
	for range 500 {
		h := r.Heap(false)
		before := heaps.Clone(h)
		g, report, relinked, e := Collect(h)
		if e != api.OK {
			continue
		}
		if rule, _ := nursery.Check(g); rule != 0 {
			t.Fatal(rule)
		}
		if relinked {
			many++
			if !slices.Equal(g.Words, h.Words) || !remset.Same(g.Sets, h.Sets) {
				t.Fatal("something was written")
			}
		}
		was, _, _ := iso.Read(h.Words, h.Regs)
		same, _ := iso.Matches(g.Words, g.Regs, was)
		census, _ := Census(h)
		cars, _ := Cars(g)
		if !same || len(cars) > 2 || report.Popular > len(census) || !reflect.DeepEqual(h, before) {
			t.Fatal(same, cars, report, census)
		}
	}
	if many < 20 {
		t.Error(many)
	}
}

// Results share no memory with arguments (R3)
func TestNewMemory(t *testing.T) {
	r := heaptest.NewRandom(4)
	for range 40 {
		h := r.Heap(false)
		before := heaps.Clone(h)
		var results []api.Heap
		g, _ := Relink(h)
		f, _, _, _ := Collect(h)
		results = append(results, g, f)
		for _, g := range results {
			heaptest.Scribble(g)
		}
		if !reflect.DeepEqual(h, before) {
			t.Fatal("memory is shared")
		}
	}
}
