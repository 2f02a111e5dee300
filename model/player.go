package model

import (
	"iter"
	"slices"

	"shunter/api"
	"shunter/config"
	"shunter/graph"
)

// sizeBase is what the answer of OpSize multiplies pointers with.
const sizeBase = 256

// player is a graph with which operations are done.
type player struct {
	config api.Config
	graph  api.GrGraph
}

// newPlayer returns one without objects.
func newPlayer(c api.Config) *player {
	g, _ := graph.New(c.K)
	return &player{c, g}
}

// has reports whether there is a register.
func (p *player) has(register int) bool { return register >= 0 && register < len(p.graph.Regs) }

func (p *player) alloc(x api.OpCall) (api.GrGraph, api.Errno) {
	return graph.Alloc(p.graph, x.A, x.Ptrs, x.Raws)
}

func (p *player) load(x api.OpCall) (api.GrGraph, api.Errno) {
	return graph.Load(p.graph, x.A, x.B, x.Field)
}

func (p *player) store(x api.OpCall) (api.GrGraph, api.Errno) {
	return graph.Store(p.graph, x.A, x.Field, x.B)
}

func (p *player) write(x api.OpCall) (api.GrGraph, api.Errno) {
	return graph.Write(p.graph, x.A, x.Field, x.Value)
}

func (p *player) move(x api.OpCall) (api.GrGraph, api.Errno) {
	return graph.Move(p.graph, x.A, x.B)
}

func (p *player) clear(x api.OpCall) (api.GrGraph, api.Errno) {
	return graph.Clear(p.graph, x.A)
}

// changeOf returns what changes the graph for a kind.
func (p *player) changeOf(kind int) func(api.OpCall) (api.GrGraph, api.Errno) {
	switch kind {
	case api.OpAlloc:
		return p.alloc
	case api.OpLoad:
		return p.load
	case api.OpStore:
		return p.store
	case api.OpWrite:
		return p.write
	case api.OpMove:
		return p.move
	}
	return p.clear
}

// checkAlloc returns the error of an OpAlloc before the one of the graph.
func (p *player) checkAlloc(x api.OpCall) api.Errno {
	if !p.has(x.A) || x.Ptrs < 0 || x.Raws < 0 {
		return api.ErrBad
	}
	if fits, _ := config.Fits(p.config, 1+x.Ptrs+x.Raws); !fits {
		return api.ErrTooLarge
	}
	return api.OK
}

// do does an operation, and returns the answer.
func (p *player) do(x api.OpCall) api.OpAnswer {
	switch x.Kind {
	case api.OpAlloc:
		if e := p.checkAlloc(x); e != api.OK {
			return api.OpAnswer{E: e}
		}
		fallthrough
	case api.OpLoad, api.OpStore, api.OpWrite, api.OpMove, api.OpClear:
		change := p.changeOf(x.Kind)
		g, e := change(x)
		if e == api.OK {
			p.graph = g
		}
		return api.OpAnswer{E: e}
	}
	return p.ask(x)
}

// ask answers an operation that changes nothing.
func (p *player) ask(x api.OpCall) (a api.OpAnswer) {
	switch x.Kind {
	case api.OpRead:
		a.Value, a.E = graph.Read(p.graph, x.A, x.Field)
	case api.OpSize:
		pointers, raws, e := graph.Shape(p.graph, x.A)
		a.Value, a.E = uint64(sizeBase*pointers+raws), e
	case api.OpNil:
		if !p.has(x.A) {
			return api.OpAnswer{E: api.ErrBad}
		}
		a.Is = p.graph.Regs[x.A] == 0
	case api.OpSame:
		a.Is, a.E = graph.Alike(p.graph, x.A, x.B)
	}
	return a
}

// refuse reports whether an OpAlloc may be refused, as it would be done without an error.
func (p *player) refuse(x api.OpCall) bool {
	again := player{p.config, p.graph}
	return x.Kind == api.OpAlloc && again.do(x).E == api.OK
}

// moment is the graph after some operations, and the answer to the last one; wrong says that this can't be refused.
type moment struct {
	graph  api.GrGraph
	answer api.OpAnswer
	wrong  bool
}

// moments yields the moments of a good script with refusals, the one before all operations first.
func moments(c api.Config, l []api.OpCall, full []int) iter.Seq2[int, moment] {
	return func(yield func(int, moment) bool) {
		p := newPlayer(c)
		if !yield(0, moment{graph: p.graph}) {
			return
		}
		for i, x := range l {
			m := moment{}
			if slices.Contains(full, i) {
				m.wrong = !p.refuse(x)
				m.answer.E = api.ErrFull
			} else {
				m.answer = p.do(x)
			}
			m.graph = p.graph
			if !yield(i+1, m) {
				return
			}
		}
	}
}
