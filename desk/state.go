package desk

import (
	"slices"

	"shunter/api"
	"shunter/graph"
	"shunter/model"
	"shunter/mutator"
	"shunter/nursery"
)

// state is a config, a script, and the heap and the model at its end; none of its parts is changed, but all are made anew.
type state struct {
	config api.Config
	script []api.OpCall
	heap   api.Heap
	model  api.GrGraph
}

// begun returns the state of a good config without operations.
func begun(c api.Config) state {
	h, _ := nursery.New(c)
	g, _ := graph.New(c.K)
	return state{config: c, heap: h, model: g}
}

// room leaves the line with ErrLong if there would be more operations than a script has.
func (s *state) room(more int) {
	if len(s.script)+more > api.MaxOps {
		must(api.ErrLong)
	}
}

// do does an operation with heap and model, and puts it into the script.
func (s *state) do(x api.OpCall) api.OpAnswer {
	h, a, e := mutator.Do(s.heap, x)
	must(e)
	s.heap = h
	if refused := x.Kind == api.OpAlloc && a.E == api.ErrFull; !refused {
		g, _, e := model.Step(s.config, s.model, x)
		must(e)
		s.model = g
	}
	s.script = append(slices.Clip(s.script), x)
	return a
}

// undone returns the state without the last operation.
func (s *state) undone() state {
	t := begun(s.config)
	for _, x := range s.script[:len(s.script)-1] {
		t.do(x)
	}
	return t
}
