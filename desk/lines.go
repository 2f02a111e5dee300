package desk

import (
	"strconv"
	"strings"

	"shunter/api"
	"shunter/audit"
	"shunter/config"
	"shunter/graph"
	"shunter/iso"
	"shunter/model"
	"shunter/nursery"
	"shunter/ops"
	"shunter/pause"
	"shunter/remset"
	"shunter/script"
	"shunter/words"
)

// Numbers of lines are from leastNumber to greatestNumber.
const (
	leastNumber    = -1
	greatestNumber = 400
)

// Letters of forms.
const (
	numberField = 'N'
	bytesField  = 'B'
)

// none is the answer where there is nothing to answer.
const none = "none"

// lineKind is what a line has after its word, whether it is heavy, and what does it.
type lineKind struct {
	form  string
	heavy bool
	do    func(r *request) string
}

// lines returns the kinds of lines, by their words.
func lines() map[string]lineKind {
	return map[string]lineKind{
		"play":      {form: "B", do: (*request).play},
		"pause":     {do: (*request).pause},
		"undo":      {do: (*request).undo},
		"config":    {form: "B", do: (*request).configure},
		"sizes":     {do: (*request).sizes},
		"script":    {do: (*request).operations},
		"state":     {do: (*request).moment},
		"cars":      {do: (*request).cars},
		"trains":    {do: (*request).trains},
		"registers": {do: (*request).registers},
		"pin":       {do: (*request).pin},
		"set":       {form: "N", do: (*request).set},
		"graph":     {do: (*request).graph},
		"breaks":    {do: (*request).breaks},
		"match":     {do: (*request).match},
		"report":    {heavy: true, do: (*request).report},
		"differ":    {heavy: true, do: (*request).differ},
		"settle":    {form: "N", heavy: true, do: (*request).settle},
		"left":      {form: "NN", heavy: true, do: (*request).left},
	}
}

// request is a line that is being done: its fields, and the state, which it may replace.
type request struct {
	state
	numbers []int
	bytes   string
}

// read reads the fields after the word.
func (r *request) read(form string, fields []api.Field) {
	if len(fields) != len(form) {
		must(api.ErrForm)
	}
	for i, letter := range form {
		f := fields[i]
		if f.Quoted != (letter == bytesField) {
			must(api.ErrForm)
		}
		if letter != numberField {
			r.bytes = f.S
			continue
		}
		n, e := words.Int(f.S, leastNumber, greatestNumber)
		if e != api.OK {
			must(api.ErrForm)
		}
		r.numbers = append(r.numbers, int(n))
	}
}

// number returns the decimal form of a number.
func number(n int) string { return words.Digits(int64(n)) }

// numbersOf answers numbers.
func numbersOf(l ...int) string {
	var parts []string
	for _, n := range l {
		parts = append(parts, number(n))
	}
	return joined(parts, " ")
}

// joined answers parts with something between them.
func joined(parts []string, between string) string {
	if len(parts) == 0 {
		return none
	}
	return strings.Join(parts, between)
}

// linesOf answers lines.
func linesOf(l []string) string { return joined(l, "\n") }

// textOf answers a text.
func textOf(s string) string {
	s = strings.TrimSuffix(s, "\n")
	if s == "" {
		return none
	}
	return s
}

// yesOrNo answers a question.
func yesOrNo(is bool) string {
	if is {
		return "yes"
	}
	return "no"
}

// operation does an operation.
func (r *request) operation(x api.OpCall) string {
	r.room(1)
	line, e := ops.Answer(x, r.do(x))
	must(e)
	return line
}

func (r *request) play() string {
	l, _, e := ops.List(r.bytes)
	must(e)
	r.room(len(l))
	var answers []string
	for _, x := range l {
		answers = append(answers, r.operation(x))
	}
	return linesOf(answers)
}

func (r *request) pause() string {
	r.room(1)
	_, report, e := pause.Do(r.heap)
	must(e)
	r.do(api.OpCall{Kind: api.OpCollect})
	kind := ""
	switch report.Kind {
	case api.PaNothing:
		kind = "nothing"
	case api.PaFreed:
		kind = "freed"
	case api.PaRelinked:
		kind = "relinked"
	default:
		kind = "collected"
	}
	answer := kind + " " + numbersOf(report.Young, report.Out, report.Kept, report.Gone, report.Cars)
	if report.Futile {
		answer += " futile"
	}
	if report.Turned {
		answer += " turned"
	}
	return answer
}

func (r *request) undo() string {
	if len(r.script) == 0 {
		must(api.ErrNone)
	}
	r.state = r.undone()
	return "ok"
}

func (r *request) configure() string {
	c, e := config.Parse(r.bytes)
	must(e)
	r.state = begun(c)
	return "ok"
}

func (r *request) sizes() string {
	s, e := config.Print(r.config)
	must(e)
	return textOf(s)
}

func (r *request) operations() string {
	s, _, e := ops.Text(r.script)
	must(e)
	return textOf(s)
}

func (r *request) moment() string {
	occupied, e := nursery.Occupied(r.heap)
	must(e)
	live, e := graph.Words(r.model)
	must(e)
	return numbersOf(occupied, live, int(r.heap.Counts.Pauses), int(r.heap.Counts.Copied))
}

func (r *request) cars() string {
	var l []string
	for car, f := range r.heap.Frames {
		switch f.State {
		case api.FrUsed:
			l = append(l, number(car)+" used "+number(f.Top))
		case api.FrPopular:
			l = append(l, number(car)+" popular "+number(f.Top))
		}
	}
	return linesOf(l)
}

func (r *request) trains() string {
	t := r.heap.Trains
	return linesOf([]string{"lowest " + numbersOf(t.Lowest...), "youngest " + numbersOf(t.Youngest...)})
}

func (r *request) registers() string { return numbersOf(r.heap.Regs...) }

func (r *request) pin() string { return number(r.heap.Pin) }

func (r *request) set() string {
	if r.numbers[0] == leastNumber {
		l, e := remset.Young(r.heap.Sets)
		must(e)
		return numbersOf(l...)
	}
	l, e := remset.Into(r.heap.Sets, r.numbers[0])
	must(e)
	return numbersOf(l...)
}

func (r *request) graph() string {
	g, _, e := iso.Read(r.heap.Words, r.heap.Regs)
	must(e)
	var l []string
	for i, o := range g.Objects {
		parts := []string{number(i + 1), number(len(o.Ptrs)), number(len(o.Raws))}
		for _, p := range o.Ptrs {
			parts = append(parts, number(p))
		}
		for _, v := range o.Raws {
			parts = append(parts, strconv.FormatUint(v, 16))
		}
		l = append(l, strings.Join(parts, " "))
	}
	return linesOf(l)
}

func (r *request) breaks() string {
	s, e := audit.Print(audit.Find(r.heap))
	must(e)
	return textOf(s)
}

func (r *request) match() string {
	same, e := iso.Matches(r.heap.Words, r.heap.Regs, r.model)
	must(e)
	return yesOrNo(same)
}

func (r *request) report() string {
	s, e := script.Report(r.config, r.script)
	must(e)
	return textOf(s)
}

func (r *request) differ() string {
	moment, e := script.Differ(r.config, r.script)
	must(e)
	if moment < 0 {
		return none
	}
	return number(moment)
}

func (r *request) settle() string {
	pauses, e := script.Settle(r.config, r.script, r.numbers[0])
	must(e)
	return number(pauses)
}

func (r *request) left() string {
	full, e := script.Full(r.config, r.script)
	must(e)
	n, e := model.Left(r.config, r.script, full, r.numbers[0], r.numbers[1])
	must(e)
	return number(n)
}
