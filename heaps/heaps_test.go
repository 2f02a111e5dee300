package heaps

import (
	"reflect"
	"testing"

	"shunter/api"
)

func TestClone(t *testing.T) {
	example := func() api.Heap {
		return api.Heap{Config: api.Config{C: 8}, Words: []uint64{0, 1}, Top: 1, Frames: []api.Frame{{State: 1, Top: 2}}, Trains: api.TrTrains{Lowest: []int{0}, Youngest: []int{1}}, Sets: api.RmSets{Cars: []api.SlSet{{Cells: []int{5}}}, Nursery: api.SlSet{Cells: []int{6}}}, Regs: []int{1}, Pin: 3, Counts: api.HpCounts{Full: 9}}
	}
	h := example()
	g := Clone(h)
	if !reflect.DeepEqual(g, h) {
		t.Error(g)
	}
	g.Words[1], g.Frames[0].Top, g.Trains.Lowest[0], g.Trains.Youngest[0], g.Sets.Cars[0].Cells[0], g.Sets.Nursery.Cells[0], g.Regs[0] = 9, 9, 9, 9, 9, 9, 9
	if !reflect.DeepEqual(h, example()) {
		t.Error("memory is shared", h)
	}
}

func TestCloneGraph(t *testing.T) {
	example := func() api.GrGraph {
		return api.GrGraph{Objects: []api.GrObject{{Ptrs: []int{1}, Raws: []uint64{2}}}, Regs: []int{1}}
	}
	g := example()
	h := CloneGraph(g)
	if !reflect.DeepEqual(g, h) {
		t.Error(h)
	}
	h.Objects[0].Ptrs[0], h.Objects[0].Raws[0], h.Regs[0] = 9, 9, 9
	if !reflect.DeepEqual(g, example()) {
		t.Error("memory is shared", g)
	}
}
