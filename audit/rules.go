package audit

import (
	"slices"

	"shunter/api"
	"shunter/config"
	"shunter/header"
	"shunter/slots"
)

// nurserySpace stands for the nursery where a car is asked for.
const nurserySpace = -1

// Parts of a heap.
const (
	partConfig = iota + 1
	partFrames
	partTrains
	partSets
	partWords
	partTop
	partRegs
)

// manyPopular is where there are too many popular cars; the trains come after it.
const manyPopular = -3

// look is a heap, and the objects that were found in it.
type look struct {
	heap    api.Heap
	objects []int
	starts  map[int]bool // whether there is an object at an address
}

// place is a slot in the set of a car, or of the nursery.
type place struct{ car, slot int }

// carOf returns the car of an address of the arena.
func carOf(h api.Heap, a int) int {
	car, _ := config.Car(h.Config, a)
	return car
}

// parts is rule 1.
func (l *look) parts() []api.AuBreak {
	h, c := l.heap, l.heap.Config
	if e := config.Check(c); e != api.OK {
		return []api.AuBreak{{Rule: api.AuParts, Where: partConfig, What: int(e)}}
	}
	var breaks []api.AuBreak
	add := func(part, what int, broken bool) {
		if broken {
			breaks = append(breaks, api.AuBreak{Rule: api.AuParts, Where: part, What: what})
		}
	}
	frame, broken := badFrame(h)
	add(partFrames, frame, broken)
	car, broken := badCar(h)
	add(partTrains, car, broken)
	set, broken := badSet(h)
	add(partSets, set, broken)
	words, _ := config.Words(c)
	add(partWords, len(h.Words), len(h.Words) != words)
	add(partTop, h.Top, h.Top < 0 || h.Top > c.S)
	add(partRegs, len(h.Regs), len(h.Regs) != c.K)
	return breaks
}

// badFrame returns the first frame that is not as it has to be; -1: there are not as many as cars.
func badFrame(h api.Heap) (frame int, broken bool) {
	if len(h.Frames) != h.Config.N {
		return -1, true
	}
	for car, f := range h.Frames {
		if f.State < api.FrFree || f.State > api.FrPopular || f.Top < 0 || f.Top > h.Config.C {
			return car, true
		}
	}
	return 0, false
}

// badCar returns the first car of the trains that is none, or was there before.
func badCar(h api.Heap) (car int, broken bool) {
	seen := map[int]bool{}
	for _, train := range [][]int{h.Trains.Lowest, h.Trains.Youngest} {
		for _, car := range train {
			if car < 0 || car >= h.Config.N || seen[car] {
				return car, true
			}
			seen[car] = true
		}
	}
	return 0, false
}

// badSet returns the first set that is no good table; -2: there are not as many as cars.
func badSet(h api.Heap) (car int, broken bool) {
	if len(h.Sets.Cars) != h.Config.N {
		return -2, true
	}
	for car, set := range h.Sets.Cars {
		if _, e := slots.Check(set); e != api.OK {
			return car, true
		}
	}
	_, e := slots.Check(h.Sets.Nursery)
	return nurserySpace, e != api.OK
}

// trains is rule 2.
func (l *look) trains() []api.AuBreak {
	h := l.heap
	var breaks []api.AuBreak
	for car, f := range h.Frames {
		there := slices.Contains(h.Trains.Lowest, car) || slices.Contains(h.Trains.Youngest, car)
		free := f.State == api.FrFree
		what := 0
		switch {
		case free && there:
			what = 1
		case !free && !there:
			what = 2
		case free && f.Top != 0:
			what = 3
		}
		if what > 0 {
			breaks = append(breaks, api.AuBreak{Rule: api.AuTrains, Where: car, What: what})
		}
	}
	return breaks
}

// used returns the first address of a space, and the one after its used words.
func (l *look) used(car int) (start, top int) {
	start, _, _ = config.Space(l.heap.Config, car)
	if car == nurserySpace {
		return start, start + l.heap.Top
	}
	return start, start + l.heap.Frames[car].Top
}

// fill is rule 3; it finds the objects.
func (l *look) fill() []api.AuBreak {
	var breaks []api.AuBreak
	add := func(a, what int) {
		breaks = append(breaks, api.AuBreak{Rule: api.AuFill, Where: a, What: what})
	}
	largest, _ := config.Largest(l.heap.Config)
	inUse := make([]bool, len(l.heap.Words))
	for car := nurserySpace; car < l.heap.Config.N; car++ {
		start, top := l.used(car)
		for a := start; a < top; a++ {
			inUse[a] = true
		}
		found, missed := l.walk(start, top)
		if missed > 0 {
			add(missed, 1)
			continue
		}
		for _, a := range found {
			if l.size(a) > largest {
				add(a, 2)
			}
			l.objects = append(l.objects, a)
			l.starts[a] = true
		}
	}
	for a, v := range l.heap.Words {
		if v != 0 && !inUse[a] {
			add(a, 3)
		}
	}
	return breaks
}

// size returns the words of the object at an address; 0: there is none.
func (l *look) size(a int) int {
	s, e := header.Shape(l.heap.Words[a])
	if e != api.OK {
		return 0
	}
	return 1 + s.P + s.R
}

// walk returns the objects that fill a space, or the address at which one is missed.
func (l *look) walk(start, top int) (found []int, missed int) {
	for a := start; a < top; {
		n := l.size(a)
		if n == 0 || a+n > top {
			return nil, a
		}
		found = append(found, a)
		a += n
	}
	return found, 0
}

// slotsOf returns the slots of an object.
func (l *look) slotsOf(a int) []int {
	s, _ := header.Shape(l.heap.Words[a])
	var out []int
	for field := range s.P {
		out = append(out, a+1+field)
	}
	return out
}

// pointers is rule 4.
func (l *look) pointers() []api.AuBreak {
	var breaks []api.AuBreak
	check := func(where int, held uint64, what int) {
		if held != 0 && (held > api.MaxAddress || !l.starts[int(held)]) {
			breaks = append(breaks, api.AuBreak{Rule: api.AuPointers, Where: where, What: what})
		}
	}
	for _, a := range l.objects {
		for _, slot := range l.slotsOf(a) {
			held := l.heap.Words[slot]
			what := -1
			if held <= api.MaxAddress {
				what = int(held)
			}
			check(slot, held, what)
		}
	}
	for r, a := range l.heap.Regs {
		check(-1-r, uint64(a), a)
	}
	return breaks
}

// popular is rule 5.
func (l *look) popular() []api.AuBreak {
	h := l.heap
	var breaks []api.AuBreak
	add := func(where, what int) {
		breaks = append(breaks, api.AuBreak{Rule: api.AuPopular, Where: where, What: what})
	}
	many := map[int]int{}
	for _, a := range l.objects {
		many[carOf(h, a)]++
	}
	cars := 0
	for car, f := range h.Frames {
		if f.State != api.FrPopular {
			continue
		}
		cars++
		if many[car] != 1 {
			add(car, many[car])
		}
	}
	if cars > api.MaxPopular {
		add(manyPopular, cars)
	}
	for train, cars := range [api.MaxTrains][]int{h.Trains.Lowest, h.Trains.Youngest} {
		if !l.ordered(cars) {
			add(-1-train, 0)
		}
	}
	return breaks
}

// ordered reports whether the cars of a train are as they have to be.
func (l *look) ordered(train []int) bool {
	plainBehind := false
	for i, car := range slices.Backward(train) {
		f := l.heap.Frames[car]
		switch {
		case f.State == api.FrPopular:
			continue
		case !plainBehind && i < len(train)-1:
			return false
		case plainBehind && 2*f.Top <= l.heap.Config.C:
			return false
		}
		plainBehind = true
	}
	return true
}

// sets is rule 6.
func (l *look) sets() []api.AuBreak {
	h := l.heap
	differ := map[place]bool{}
	for car := nurserySpace; car < h.Config.N; car++ {
		set := h.Sets.Nursery
		if car != nurserySpace {
			set = h.Sets.Cars[car]
		}
		has, _ := slots.List(set)
		for _, slot := range has {
			differ[place{car, slot}] = true
		}
	}
	for _, a := range l.objects {
		for _, slot := range l.slotsOf(a) {
			from, to := carOf(h, a), carOf(h, int(h.Words[slot]))
			if from == nurserySpace || h.Words[slot] == 0 || from == to {
				continue
			}
			// What both have is taken out, so that what differs is left.
			if at := (place{to, slot}); differ[at] {
				delete(differ, at)
			} else {
				differ[at] = true
			}
		}
	}
	var breaks []api.AuBreak
	for at := range differ {
		breaks = append(breaks, api.AuBreak{Rule: api.AuSets, Where: at.car, What: at.slot})
	}
	return breaks
}

// pin is rule 7.
func (l *look) pin() []api.AuBreak {
	h := l.heap
	if h.Pin == 0 || l.starts[h.Pin] && slices.Contains(h.Trains.Lowest, carOf(h, h.Pin)) {
		return nil
	}
	return []api.AuBreak{{Rule: api.AuPin, Where: h.Pin}}
}

// budget is rule 8.
func (l *look) budget() []api.AuBreak {
	occupied := l.heap.Top
	for _, f := range l.heap.Frames {
		occupied += f.Top
	}
	budget, _ := config.Budget(l.heap.Config)
	if 2*occupied <= budget {
		return nil
	}
	return []api.AuBreak{{Rule: api.AuBudget, Where: occupied, What: budget}}
}

// counts is rule 9.
func (l *look) counts() []api.AuBreak {
	c := l.heap.Counts
	var breaks []api.AuBreak
	for i, n := range []int64{c.Pauses, c.Copied, c.Trains, c.Cars, c.Relinked, c.Futile, c.Allocs, c.Full} {
		if n < 0 {
			breaks = append(breaks, api.AuBreak{Rule: api.AuCounts, Where: i + 1, What: -1})
		}
	}
	return breaks
}
