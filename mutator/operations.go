package mutator

import (
	"shunter/admit"
	"shunter/api"
	"shunter/barrier"
	"shunter/config"
	"shunter/header"
	"shunter/heaps"
	"shunter/nursery"
	"shunter/pause"
)

// sizeBase is what the answer of OpSize multiplies pointers with.
const sizeBase = 256

// kinds is how many kinds there are, with 0, which is none.
const kinds = api.OpCollect + 1

// wrong is an error with which an operation leaves; full says that it could not allocate.
type (
	wrong api.Errno
	full  struct{}
)

// operation is an operation that is being done.
type operation struct {
	heap   api.Heap
	call   api.OpCall
	answer api.OpAnswer
}

// table returns what does the operations, by their kinds.
func table() [kinds]func(*operation) {
	return [kinds]func(*operation){
		api.OpAlloc:   (*operation).alloc,
		api.OpLoad:    (*operation).load,
		api.OpStore:   (*operation).store,
		api.OpRead:    (*operation).read,
		api.OpWrite:   (*operation).write,
		api.OpMove:    (*operation).move,
		api.OpClear:   (*operation).clear,
		api.OpSame:    (*operation).same,
		api.OpNil:     (*operation).isNil,
		api.OpSize:    (*operation).size,
		api.OpCollect: (*operation).collect,
	}
}

// do does an operation of some kind with a good heap.
func do(h api.Heap, c api.OpCall) (g api.Heap, a api.OpAnswer) {
	o := &operation{heap: heaps.Clone(h), call: c}
	defer func() {
		switch x := recover().(type) {
		case wrong:
			g, a = heaps.Clone(h), api.OpAnswer{E: api.Errno(x)}
		case full:
			o.heap.Counts.Full++
			g, a = o.heap, api.OpAnswer{E: api.ErrFull}
		}
	}()
	o.checkRegisters()
	table()[c.Kind](o)
	return o.heap, o.answer
}

// must leaves the operation with an error, unless it is OK.
func must(e api.Errno) {
	if e != api.OK {
		panic(wrong(e))
	}
}

// checkRegisters leaves with ErrBad if a register that the operation names is not there.
func (o *operation) checkRegisters() {
	var named []int
	switch o.call.Kind {
	case api.OpCollect:
	case api.OpLoad, api.OpStore, api.OpMove, api.OpSame:
		named = []int{o.call.A, o.call.B}
	default:
		named = []int{o.call.A}
	}
	for _, r := range named {
		if r < 0 || r >= len(o.heap.Regs) {
			must(api.ErrBad)
		}
	}
}

// a returns what the register A holds, b what B does.
func (o *operation) a() int { return o.heap.Regs[o.call.A] }

func (o *operation) b() int { return o.heap.Regs[o.call.B] }

// hold lets the register A hold an address.
func (o *operation) hold(address int) { o.heap.Regs[o.call.A] = address }

// admitted reports whether n words are admitted now.
func (o *operation) admitted(n int) bool {
	occupied, e := nursery.Occupied(o.heap)
	must(e)
	left, e := nursery.Left(o.heap)
	must(e)
	kind, e := admit.Admit(o.heap.Config, occupied, left, n)
	must(e)
	return kind == api.AdNow
}

func (o *operation) alloc() {
	s := api.Shape{P: o.call.Ptrs, R: o.call.Raws}
	if s.P < 0 || s.R < 0 {
		must(api.ErrBad)
	}
	n, e := header.Size(s)
	must(e)
	if fits, _ := config.Fits(o.heap.Config, n); !fits {
		must(api.ErrTooLarge)
	}
	if !o.admitted(n) {
		o.collect()
		if !o.admitted(n) {
			panic(full{})
		}
	}
	h, a, e := nursery.Bump(o.heap, s)
	must(e)
	o.heap = h
	o.hold(a)
	o.heap.Counts.Allocs++
}

func (o *operation) load() {
	v, e := barrier.Load(o.heap, o.b(), o.call.Field)
	must(e)
	o.hold(v)
}

func (o *operation) store() {
	h, e := barrier.Store(o.heap, o.a(), o.call.Field, o.b())
	must(e)
	o.heap = h
}

func (o *operation) read() {
	v, e := barrier.Read(o.heap, o.a(), o.call.Field)
	must(e)
	o.answer.Value = v
}

func (o *operation) write() {
	h, e := barrier.Write(o.heap, o.a(), o.call.Field, o.call.Value)
	must(e)
	o.heap = h
}

func (o *operation) move() { o.hold(o.b()) }

func (o *operation) clear() { o.hold(0) }

func (o *operation) same() { o.answer.Is = o.a() == o.b() }

func (o *operation) isNil() { o.answer.Is = o.a() == 0 }

func (o *operation) size() {
	s, e := barrier.Shape(o.heap, o.a())
	must(e)
	o.answer.Value = uint64(sizeBase*s.P + s.R)
}

func (o *operation) collect() {
	h, _, e := pause.Do(o.heap)
	must(e)
	o.heap = h
}
