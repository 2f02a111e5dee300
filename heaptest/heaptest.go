// Package heaptest makes heaps for the tests of other packages.
package heaptest

import (
	"shunter/api"
	"shunter/barrier"
	"shunter/nursery"
	"shunter/objects"
	"shunter/slots"
)

// Sizes is the config of the document's examples.
func Sizes() api.Config { return api.Config{C: 8, N: 9, S: 6, K: 2, Q: 2} }

// Car is a car with the shapes of its objects, from its first word on.
type Car struct {
	Number int
	State  int
	Shapes []api.Shape
}

// Built returns a heap without references, whose nursery and cars have objects of these shapes.
func Built(c api.Config, young []api.Shape, lowest, youngest []Car) api.Heap {
	h, _ := nursery.New(c)
	for _, s := range young {
		h.Words, _ = objects.Make(h.Words, 1+h.Top, s)
		h.Top += 1 + s.P + s.R
	}
	for i, train := range [][]Car{lowest, youngest} {
		for _, car := range train {
			top := 0
			for _, s := range car.Shapes {
				h.Words, _ = objects.Make(h.Words, 1+c.S+car.Number*c.C+top, s)
				top += 1 + s.P + s.R
			}
			h.Frames[car.Number] = api.Frame{State: car.State, Top: top}
			if i == 0 {
				h.Trains.Lowest = append(h.Trains.Lowest, car.Number)
			} else {
				h.Trains.Youngest = append(h.Trains.Youngest, car.Number)
			}
		}
	}
	return h
}

// Used returns a used car, Popular a popular one with one object.
func Used(number int, shapes ...api.Shape) Car { return Car{number, api.FrUsed, shapes} }

func Popular(number int, shape api.Shape) Car {
	return Car{number, api.FrPopular, []api.Shape{shape}}
}

// Linked returns a heap after stores: each one says an object, a field, and what is stored.
func Linked(h api.Heap, stores ...[3]int) api.Heap {
	for _, s := range stores {
		g, e := barrier.Store(h, s[0], s[1], s[2])
		if e != api.OK {
			panic("a store has an error")
		}
		h = g
	}
	return h
}

// Young returns the heap of the examples: A (1) and B (4) in the nursery, register 0 holds B, and B's field A.
func Young() api.Heap {
	pair := api.Shape{P: 1, R: 1}
	h := Built(Sizes(), []api.Shape{pair, pair}, nil, nil)
	h.Regs[0] = 4
	return Linked(h, [3]int{4, 0, 1})
}

// Equal reports whether two heaps are equal; sets are compared by what they have.
func Equal(a, b api.Heap) bool {
	for i := range max(len(a.Sets.Cars), len(b.Sets.Cars)) {
		if i >= len(a.Sets.Cars) || i >= len(b.Sets.Cars) || !sameSlots(a.Sets.Cars[i], b.Sets.Cars[i]) {
			return false
		}
	}
	return sameSlots(a.Sets.Nursery, b.Sets.Nursery) && equalParts(a, b)
}

func sameSlots(a, b api.SlSet) bool {
	l, e := slots.List(a)
	m, e2 := slots.List(b)
	return e == e2 && equal(l, m)
}

func equalParts(a, b api.Heap) bool {
	return a.Config == b.Config && a.Top == b.Top && a.Pin == b.Pin && a.Counts == b.Counts && equal(a.Words, b.Words) && equal(a.Frames, b.Frames) && equal(a.Trains.Lowest, b.Trains.Lowest) && equal(a.Trains.Youngest, b.Trains.Youngest) && equal(a.Regs, b.Regs)
}

func equal[T comparable](a, b []T) bool {
	if len(a) != len(b) {
		return false
	}
	for i := range a {
		if a[i] != b[i] {
			return false
		}
	}
	return true
}

// Random is a random source that always says the same.
type Random struct{ seed int }

// NewRandom returns one that begins with a seed.
func NewRandom(seed int) *Random { return &Random{seed} }

// Next returns a number from 0 on, and below n.
func (r *Random) Next(n int) int {
	r.seed = (r.seed*1103515245 + 12345) & 0x7fffffffffff
	return (r.seed >> 16) % n
}

// configs are the sizes of random heaps.
func configs() []api.Config {
	return []api.Config{Sizes(), {C: 8, N: 12, S: 10, K: 3, Q: 2}, {C: 16, N: 14, S: 12, K: 4, Q: 3}, {C: 9, N: 16, S: 20, K: 2, Q: 2}, {C: 12, N: 10, S: 8, K: 8, Q: 4}}
}

// shape returns a shape of at most n words.
func (r *Random) shape(n int) api.Shape {
	size := r.Next(n)
	p := r.Next(size + 1)
	return api.Shape{P: p, R: size - p}
}

// shapes returns shapes that have at most n words, each at most largest ones.
func (r *Random) shapes(n, largest int) []api.Shape {
	var l []api.Shape
	for n > 0 && r.Next(8) > 0 {
		s := r.shape(min(n, largest))
		l = append(l, s)
		n -= 1 + s.P + s.R
	}
	return l
}

// train returns cars of a train as it has to be, from a number on.
func (r *Random) train(c api.Config, from, popular int) []Car {
	var l []Car
	largest := min(c.C/2, c.S)
	for range popular {
		l = append(l, Popular(from+len(l), r.shape(largest)))
	}
	for range r.Next(3) {
		var full []api.Shape
		for words := 0; 2*words <= c.C; {
			s := r.shape(min(largest, c.C-words))
			full = append(full, s)
			words += 1 + s.P + s.R
		}
		l = append(l, Used(from+len(l), full...))
	}
	if r.Next(2) == 0 {
		l = append(l, Used(from+len(l), r.shapes(c.C, largest)...))
	}
	return l
}

// Heap returns a good heap; without objects in the nursery, unless young.
func (r *Random) Heap(young bool) api.Heap {
	for {
		c := configs()[r.Next(len(configs()))]
		var first []api.Shape
		if young {
			first = r.shapes(c.S, min(c.C/2, c.S))
		}
		many := r.Next(3)
		inLowest := r.Next(many + 1)
		lowest := r.train(c, 0, inLowest)
		h := Built(c, first, lowest, r.train(c, len(lowest), many-inLowest))
		if _, e := nursery.Check(h); e == api.OK {
			return r.link(h)
		}
	}
}

// link gives pointer fields, registers and the pin something to hold.
func (r *Random) link(h api.Heap) api.Heap {
	all, _ := nursery.Objects(h)
	if len(all) == 0 {
		return h
	}
	few := all[:1+r.Next(len(all))]
	for _, a := range all {
		s, _ := objects.Shape(h.Words, a)
		for field := range s.P {
			to := all[r.Next(len(all))]
			if r.Next(2) == 0 {
				to = few[r.Next(len(few))]
			}
			h = Linked(h, [3]int{a, field, to * min(1, r.Next(3))})
		}
		for raw := range s.R {
			h.Words[a+1+s.P+raw] = uint64(r.Next(1000))
		}
	}
	for reg := range h.Regs {
		h.Regs[reg] = all[r.Next(len(all))] * r.Next(2)
	}
	pinned := h
	pinned.Pin = all[r.Next(len(all))]
	if _, e := nursery.Check(pinned); e == api.OK && r.Next(2) == 0 {
		return pinned
	}
	return h
}

// Scribble overwrites all that a heap has in slices, so that what shares memory with it is seen to be changed.
func Scribble(h api.Heap) {
	fill(h.Words, 77)
	fill(h.Frames, api.Frame{State: 7, Top: 7})
	fill(h.Trains.Lowest, 77)
	fill(h.Trains.Youngest, 77)
	fill(h.Regs, 77)
	fill(h.Sets.Nursery.Cells, 77)
	for _, set := range h.Sets.Cars {
		fill(set.Cells, 77)
	}
	fill(h.Sets.Cars, api.SlSet{})
}

func fill[T any](l []T, x T) {
	l = l[:cap(l)]
	for i := range l {
		l[i] = x
	}
}
