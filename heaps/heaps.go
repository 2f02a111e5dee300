// Package heaps copies heaps and graphs, as functions that are given one return another one in new memory.
package heaps

import (
	"slices"

	"shunter/api"
)

// Clone returns a heap that shares no memory with h.
func Clone(h api.Heap) api.Heap {
	h.Words = slices.Clone(h.Words)
	h.Frames = slices.Clone(h.Frames)
	h.Trains = api.TrTrains{Lowest: slices.Clone(h.Trains.Lowest), Youngest: slices.Clone(h.Trains.Youngest)}
	h.Sets = CloneSets(h.Sets)
	h.Regs = slices.Clone(h.Regs)
	return h
}

// CloneSets returns sets that share no memory with s.
func CloneSets(s api.RmSets) api.RmSets {
	t := api.RmSets{Nursery: api.SlSet{Cells: slices.Clone(s.Nursery.Cells)}}
	for _, set := range s.Cars {
		t.Cars = append(t.Cars, api.SlSet{Cells: slices.Clone(set.Cells)})
	}
	return t
}

// CloneGraph returns a graph that shares no memory with g.
func CloneGraph(g api.GrGraph) api.GrGraph {
	h := api.GrGraph{Regs: slices.Clone(g.Regs)}
	for _, o := range g.Objects {
		h.Objects = append(h.Objects, api.GrObject{Ptrs: slices.Clone(o.Ptrs), Raws: slices.Clone(o.Raws)})
	}
	return h
}
