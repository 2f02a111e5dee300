package nursery

import (
	"iter"
	"slices"

	"shunter/api"
	"shunter/bump"
	"shunter/config"
	"shunter/objects"
	"shunter/slots"
)

// look is a heap, and what was found in it: the addresses of its objects.
type look struct {
	api.Heap
	objects []int
	starts  map[int]bool // whether there is an object at an address
}

// looked goes through the rules, and returns the number of the first one that is not true.
func looked(h api.Heap) (l *look, rule int, e api.Errno) {
	if e := config.Check(h.Config); e != api.OK {
		return nil, api.AuParts, e
	}
	l = &look{Heap: h, starts: map[int]bool{}}
	rules := []func(*look) bool{(*look).parts, (*look).coupled, (*look).filled, (*look).pointing, (*look).popular, (*look).remembered, (*look).pinned, (*look).affordable, (*look).counted}
	for i, holds := range rules {
		if !holds(l) {
			return nil, i + 1, api.ErrForm
		}
	}
	return l, 0, api.OK
}

// spaces yields the nursery and all cars, with the first address of each, and the one after its used words.
func (l *look) spaces() iter.Seq2[int, [2]int] {
	return func(yield func(int, [2]int) bool) {
		if !yield(nurserySpace, [2]int{1, 1 + l.Top}) {
			return
		}
		for car, f := range l.Frames {
			start, _, _ := config.Space(l.Config, car)
			if !yield(car, [2]int{start, start + f.Top}) {
				return
			}
		}
	}
}

// slotsOf yields the slots of the objects of a space, ascending.
func (l *look) slotsOf(space int) iter.Seq[int] {
	return func(yield func(int) bool) {
		for _, a := range l.objects {
			if l.carOf(a) != space {
				continue
			}
			s, _ := objects.Shape(l.Words, a)
			for slot := a + 1; slot <= a+s.P; slot++ {
				if !yield(slot) {
					return
				}
			}
		}
	}
}

// carOf returns the car of an address of the arena.
func (l *look) carOf(a int) int {
	car, _ := config.Car(l.Config, a)
	return car
}

// isObject reports whether there is an object at an address.
func (l *look) isObject(a int) bool { return l.starts[a] }

// holdsObject reports whether a word is 0 or the address of an object.
func (l *look) holdsObject(v uint64) bool {
	return v == 0 || v <= api.MaxAddress && l.isObject(int(v))
}

// occupied returns how many words are used.
func (l *look) occupied() int {
	words := l.Top
	for _, f := range l.Frames {
		words += f.Top
	}
	return words
}

// parts is rule 1.
func (l *look) parts() bool {
	c := l.Config
	words, _ := config.Words(c)
	if len(l.Words) != words || l.Top < 0 || l.Top > c.S || len(l.Frames) != c.N || len(l.Sets.Cars) != c.N || len(l.Regs) != c.K {
		return false
	}
	for _, f := range l.Frames {
		if f.State < api.FrFree || f.State > api.FrPopular || f.Top < 0 || f.Top > c.C {
			return false
		}
	}
	seen := map[int]bool{}
	for _, train := range [][]int{l.Trains.Lowest, l.Trains.Youngest} {
		for _, car := range train {
			if car < 0 || car >= c.N || seen[car] {
				return false
			}
			seen[car] = true
		}
	}
	for _, set := range append([]api.SlSet{l.Sets.Nursery}, l.Sets.Cars...) {
		if _, e := slots.Check(set); e != api.OK {
			return false
		}
	}
	return true
}

// coupled is rule 2.
func (l *look) coupled() bool {
	for car, f := range l.Frames {
		there := slices.Contains(l.Trains.Lowest, car) || slices.Contains(l.Trains.Youngest, car)
		free := f.State == api.FrFree
		if there == free || free && f.Top != 0 {
			return false
		}
	}
	return true
}

// filled is rule 3; it finds the objects.
func (l *look) filled() bool {
	largest, _ := config.Largest(l.Config)
	used := make([]bool, len(l.Words))
	for _, space := range l.spaces() {
		for a := space[0]; a < space[1]; {
			n, e := objects.Size(l.Words, a)
			if e != api.OK || n > largest || n > space[1]-a {
				return false
			}
			l.objects = append(l.objects, a)
			l.starts[a] = true
			for range n {
				used[a] = true
				a++
			}
		}
	}
	for a, v := range l.Words {
		if v != 0 && !used[a] {
			return false
		}
	}
	return true
}

// pointing is rule 4.
func (l *look) pointing() bool {
	for space := range l.spaces() {
		for slot := range l.slotsOf(space) {
			if !l.holdsObject(l.Words[slot]) {
				return false
			}
		}
	}
	for _, a := range l.Regs {
		if a != 0 && !l.isObject(a) {
			return false
		}
	}
	return true
}

// popular is rule 5.
func (l *look) popular() bool {
	many := map[int]int{}
	for _, a := range l.objects {
		many[l.carOf(a)]++
	}
	for car, f := range l.Frames {
		if f.State == api.FrPopular && many[car] != 1 {
			return false
		}
	}
	// Unless there are too many popular cars, for which bump has an error, it tells whether a train is as it has to be.
	for _, train := range [][]int{l.Trains.Lowest, l.Trains.Youngest} {
		if sound, e := bump.Sound(l.Config, l.Frames, train); e != api.OK || !sound {
			return false
		}
	}
	return true
}

// remembered is rule 6.
func (l *look) remembered() bool {
	into := map[int][]int{}
	for space := range l.spaces() {
		if space == nurserySpace {
			continue
		}
		for slot := range l.slotsOf(space) {
			to := l.carOf(int(l.Words[slot]))
			if l.Words[slot] != 0 && to != space {
				into[to] = append(into[to], slot)
			}
		}
	}
	for space := range l.spaces() {
		set := l.Sets.Nursery
		if space != nurserySpace {
			set = l.Sets.Cars[space]
		}
		if has, _ := slots.List(set); !slices.Equal(has, into[space]) {
			return false
		}
	}
	return true
}

// pinned is rule 7.
func (l *look) pinned() bool {
	return l.Pin == 0 || l.isObject(l.Pin) && slices.Contains(l.Trains.Lowest, l.carOf(l.Pin))
}

// affordable is rule 8.
func (l *look) affordable() bool {
	budget, _ := config.Budget(l.Config)
	return 2*l.occupied() <= budget
}

// counted is rule 9.
func (l *look) counted() bool {
	c := l.Counts
	return min(c.Pauses, c.Copied, c.Trains, c.Cars, c.Relinked, c.Futile, c.Allocs, c.Full) >= 0
}
