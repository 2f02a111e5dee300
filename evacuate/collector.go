package evacuate

import (
	"shunter/api"
	"shunter/bump"
	"shunter/config"
	"shunter/external"
	"shunter/frames"
	"shunter/heaps"
	"shunter/move"
	"shunter/objects"
	"shunter/remset"
	"shunter/trains"
)

// noSkip stands for no car into which nothing is placed.
const noSkip = -1

// queue is what waits, in its order.
type queue[T any] struct{ waiting []T }

func (q *queue[T]) add(x T) { q.waiting = append(q.waiting, x) }

// take takes the first one out, if there is one.
func (q *queue[T]) take() (x T, there bool) {
	if len(q.waiting) == 0 {
		return x, false
	}
	x, q.waiting = q.waiting[0], q.waiting[1:]
	return x, true
}

// collector is a heap while one of its cars is collected.
type collector struct {
	heap       api.Heap
	before     api.Heap // the heap as it was
	car        int
	start, end int          // the addresses of the car
	popular    map[int]bool // its popular objects
	to         map[int]int  // the new addresses of copies, by the old ones
	copies     queue[int]   // those whose fields have to be updated
	report     api.EvReport
	fault      api.Errno // the first error, after which nothing is copied
}

// put finds room for an object of n words.
type put func(a, n int) (to int, e api.Errno)

// newCollector returns what collects a car of a good heap.
func newCollector(h api.Heap, car int) *collector {
	c := &collector{heap: heaps.Clone(h), before: h, car: car, popular: map[int]bool{}, to: map[int]int{}}
	c.start, c.end, _ = config.Space(h.Config, car)
	for _, a := range popularOf(h, car) {
		c.popular[a] = true
	}
	return c
}

// putOut finds room in the youngest train.
func (c *collector) putOut(a, n int) (to int, e api.Errno) {
	h := &c.heap
	popular, _ := frames.Popular(h.Config, h.Frames)
	var l []api.Frame
	var train []int
	if c.popular[a] && len(popular) < api.MaxPopular {
		to, l, train, e = bump.Own(h.Config, h.Frames, h.Trains.Youngest, n)
		c.report.Popular++
	} else {
		to, l, train, e = bump.Place(h.Config, h.Frames, h.Trains.Youngest, noSkip, n)
	}
	if e == api.OK {
		h.Frames, h.Trains.Youngest = l, train
	}
	return to, e
}

// putKept finds room in the lowest train.
func (c *collector) putKept(_, n int) (to int, e api.Errno) {
	h := &c.heap
	to, l, train, e := bump.Place(h.Config, h.Frames, h.Trains.Lowest, c.car, n)
	if e == api.OK {
		h.Frames, h.Trains.Lowest = l, train
	}
	return to, e
}

// copyObject copies an object of the car, and returns its new address.
func (c *collector) copyObject(a int, where put) (to int, e api.Errno) {
	n, e := objects.Size(c.heap.Words, a)
	if e != api.OK {
		return 0, e
	}
	if to, e = where(a, n); e != api.OK {
		return 0, e
	}
	w, _, e := move.Copy(c.heap.Words, a, to)
	if e != api.OK {
		return 0, e
	}
	c.heap.Words = w
	c.to[a] = to
	c.copies.add(to)
	c.heap.Counts.Copied += int64(n)
	return to, api.OK
}

// follow returns what a word that holds a has to hold, and the move, if an object had to be copied.
func (c *collector) follow(a int, where put) (to int, moved bool) {
	if a < c.start || a >= c.end || c.fault != api.OK {
		return a, false
	}
	if to, copied := c.to[a]; copied {
		return to, false
	}
	to, e := c.copyObject(a, where)
	if e != api.OK {
		c.fault = e
		return a, false
	}
	return to, true
}

// update updates what holds an address: a register, the pin, or a word.
func update[T ~int | ~uint64](c *collector, held *T, where put) (m api.MvMove, moved bool) {
	from := int(*held)
	to, moved := c.follow(from, where)
	*held = T(to)
	if !moved {
		return api.MvMove{}, false
	}
	n, _ := objects.Size(c.heap.Words, to)
	return api.MvMove{From: from, To: to, Words: n}, true
}

// out updates what holds an address, and lets its object get out.
func out[T ~int | ~uint64](c *collector, held *T) {
	if m, moved := update(c, held, c.putOut); moved {
		c.report.Out = append(c.report.Out, m)
	}
}

// kept updates what holds an address, and keeps its object.
func kept[T ~int | ~uint64](c *collector, held *T) {
	if m, moved := update(c, held, c.putKept); moved {
		c.report.Kept = append(c.report.Kept, m)
	}
}

// slot updates a slot, and remembers it for what it holds then.
func (c *collector) slot(at int, way func(c *collector, held *uint64)) {
	held := c.heap.Words[at]
	way(c, &held)
	if c.fault != api.OK {
		return
	}
	// Copying has made the words anew, so that the slot is written after it.
	c.heap.Words[at] = held
	c.heap.Sets, c.fault = remset.Record(c.heap.Config, c.heap.Sets, at, int(held))
}

// drain updates the slots of the copies that wait, and of those that are made meanwhile.
func (c *collector) drain(way func(c *collector, held *uint64)) {
	for {
		a, there := c.copies.take()
		if !there || c.fault != api.OK {
			return
		}
		slots, _ := objects.Slots(c.heap.Words, a)
		for _, at := range slots {
			c.slot(at, way)
		}
	}
}

// begin takes the slots of the car out of all sets, and makes its own set empty.
func (c *collector) begin() {
	c.heap.Sets, _, c.fault = remset.Purge(c.heap.Config, c.heap.Sets, c.car)
}

// registers lets out what registers hold.
func (c *collector) registers() {
	for r := range c.heap.Regs {
		out(c, &c.heap.Regs[r])
	}
}

// youngSlots lets out what slots of the youngest train hold.
func (c *collector) youngSlots() {
	x, _ := external.Into(c.before, c.car)
	for _, at := range x.Slots {
		c.slot(at, out[uint64])
	}
}

// pinned lets out what is pinned, if it is in the car, and takes the pin away then.
func (c *collector) pinned() {
	if car, _ := config.Car(c.heap.Config, c.heap.Pin); c.heap.Pin == 0 || car != c.car {
		return
	}
	out(c, &c.heap.Pin)
	c.heap.Pin = 0
}

// getOut lets out what copies refer to.
func (c *collector) getOut() { c.drain(out[uint64]) }

// keep keeps what slots of other cars of the lowest train hold, and what the copies refer to.
func (c *collector) keep() {
	inside, _ := external.Inside(c.before, c.car)
	for _, at := range inside {
		c.slot(at, kept[uint64])
	}
	c.drain(kept[uint64])
}

// empty frees the car.
func (c *collector) empty() {
	h := &c.heap
	c.report.Gone = h.Frames[c.car].Top
	for _, l := range [][]api.MvMove{c.report.Out, c.report.Kept} {
		for _, m := range l {
			c.report.Gone -= m.Words
		}
	}
	clear(h.Words[c.start:c.end])
	h.Frames, c.fault = frames.Empty(h.Config, h.Frames, c.car)
	if c.fault != api.OK {
		return
	}
	h.Trains, _, c.fault = trains.Take(h.Trains)
	h.Counts.Cars++
}
