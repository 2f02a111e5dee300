package words

import (
	"iter"
	"strings"

	"shunter/api"
)

// isBare reports whether a byte may be in a bare field.
func isBare(b byte) bool { return b != ' ' && standsForItself(b) }

// bareEnd returns where the bare bytes end that begin at a place of a line.
func bareEnd(line string, at int) int {
	for at < len(line) && isBare(line[at]) {
		at++
	}
	return at
}

// fieldsOf yields the fields of a line; where it does not have the form of a line, the last one comes with false.
func fieldsOf(line string) iter.Seq2[api.Field, bool] {
	return func(yield func(api.Field, bool) bool) {
		at, end, good := 0, 0, true
		field := api.Field{}
		if line == "" {
			return
		}
	next:
		if at < len(line) && line[at] == '"' {
			goto quoted
		}
		end = bareEnd(line, at)
		field, good = api.Field{S: line[at:end]}, end > at
		goto found
	quoted:
		field.S, end, good = unquoteAt(line, at)
		field.Quoted = true
	found:
		if good && end < len(line) && line[end] != ' ' {
			good = false
		}
		if !good {
			yield(api.Field{}, false)
			return
		}
		if !yield(field, true) || end == len(line) {
			return
		}
		at = end + 1
		goto next
	}
}

// checkSizes returns ErrLong if there are too many fields, or one is too long.
func checkSizes(l []api.Field) api.Errno {
	if len(l) > api.MaxFields {
		return api.ErrLong
	}
	for _, f := range l {
		if len(f.S) > api.MaxField {
			return api.ErrLong
		}
	}
	return api.OK
}

// Split returns the fields of a line.
func Split(line string) ([]api.Field, api.Errno) {
	if len(line) > api.MaxLine {
		return nil, api.ErrLong
	}
	var l []api.Field
	for field, good := range fieldsOf(line) {
		if !good {
			return nil, api.ErrForm
		}
		l = append(l, field)
	}
	if e := checkSizes(l); e != api.OK {
		return nil, e
	}
	return l, api.OK
}

// Join returns the line that has these fields.
func Join(l []api.Field) (string, api.Errno) {
	if e := checkSizes(l); e != api.OK {
		return "", e
	}
	var out strings.Builder
	for i, f := range l {
		if i > 0 {
			out.WriteByte(' ')
		}
		if f.Quoted {
			out.WriteString(Quote(f.S))
			continue
		}
		if f.S == "" || bareEnd(f.S, 0) != len(f.S) {
			return "", api.ErrForm
		}
		out.WriteString(f.S)
	}
	if out.Len() > api.MaxLine {
		return "", api.ErrLong
	}
	return out.String(), api.OK
}
