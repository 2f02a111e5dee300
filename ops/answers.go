package ops

import (
	"strings"

	"shunter/api"
	"shunter/words"
)

// Sorts of lines of answers without an error.
const (
	okLine = iota
	yesLine
	valueLine
	sizeLine
)

// maxErrno is the greatest error of an answer.
const maxErrno = 999

// sizeBase divides the Value of OpSize into pointers and raw words.
const sizeBase = 256

const errorWord = "error "

// lineOf returns which line the answers of a kind have.
func lineOf(kind int) int {
	switch kind {
	case api.OpSame, api.OpNil:
		return yesLine
	case api.OpRead:
		return valueLine
	case api.OpSize:
		return sizeLine
	}
	return okLine
}

// fits reports whether an answer has only what the answers of a kind have.
func fits(kind int, a api.OpAnswer) bool {
	line := lineOf(kind)
	if a.E != api.OK {
		line = okLine
	}
	if a.Is && line != yesLine {
		return false
	}
	switch line {
	case valueLine:
		return true
	case sizeLine:
		return a.Value/sizeBase <= api.MaxParts && a.Value%sizeBase <= api.MaxParts
	}
	return a.Value == 0
}

// CheckAnswer returns the error of an answer to an operation.
func CheckAnswer(c api.OpCall, a api.OpAnswer) api.Errno {
	if e := Check(c); e != api.OK {
		return e
	}
	if a.E < api.OK || a.E > maxErrno {
		return api.ErrRange
	}
	if !fits(c.Kind, a) {
		return api.ErrArg
	}
	return api.OK
}

// Answer returns the line of an answer to an operation.
func Answer(c api.OpCall, a api.OpAnswer) (string, api.Errno) {
	if e := CheckAnswer(c, a); e != api.OK {
		return "", e
	}
	if a.E != api.OK {
		return errorWord + words.Digits(int64(a.E)), api.OK
	}
	switch lineOf(c.Kind) {
	case yesLine:
		if a.Is {
			return "yes", api.OK
		}
		return "no", api.OK
	case valueLine:
		return hexadecimal(a.Value), api.OK
	case sizeLine:
		return words.Digits(int64(a.Value/sizeBase)) + " " + words.Digits(int64(a.Value%sizeBase)), api.OK
	}
	return "ok", api.OK
}

// ParseAnswer returns the answer to an operation that has a line.
func ParseAnswer(c api.OpCall, line string) (api.OpAnswer, api.Errno) {
	if e := Check(c); e != api.OK {
		return api.OpAnswer{}, e
	}
	if number, is := strings.CutPrefix(line, errorWord); is {
		n, e := words.Int(number, 1, maxErrno)
		if e != api.OK {
			return api.OpAnswer{}, api.ErrForm
		}
		return api.OpAnswer{E: api.Errno(n)}, api.OK
	}
	a, ok := parseGood(lineOf(c.Kind), line)
	if !ok {
		return api.OpAnswer{}, api.ErrForm
	}
	return a, api.OK
}

// parseGood returns the answer without an error that has a line of a sort.
func parseGood(sort int, line string) (api.OpAnswer, bool) {
	switch sort {
	case yesLine:
		return api.OpAnswer{Is: line == "yes"}, line == "yes" || line == "no"
	case valueLine:
		v, e := parseHexadecimal(line)
		return api.OpAnswer{Value: v}, e == api.OK
	case sizeLine:
		pointers, raws, two := strings.Cut(line, " ")
		p, e := words.Int(pointers, 0, api.MaxParts)
		r, e2 := words.Int(raws, 0, api.MaxParts)
		return api.OpAnswer{Value: uint64(sizeBase*p + r)}, two && e == api.OK && e2 == api.OK
	}
	return api.OpAnswer{}, line == "ok"
}
