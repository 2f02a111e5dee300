package audit

import (
	"strings"

	"shunter/api"
	"shunter/words"
)

// maxText is how many bytes the text of breaks has at most.
const maxText = 10000

var names = [...]string{"parts", "trains", "fill", "pointers", "popular", "sets", "pin", "budget", "counts"}

// Name returns the name of a rule.
func Name(rule int) (string, api.Errno) {
	if rule < api.AuParts || rule > api.AuCounts {
		return "", api.ErrRange
	}
	return names[rule-1], api.OK
}

// isNumber reports whether the text of breaks may have a number.
func isNumber(n int) bool { return n >= -api.MaxNumber && n <= api.MaxNumber }

// Print returns the text of breaks.
func Print(l []api.AuBreak) (string, api.Errno) {
	if len(l) > api.MaxBreaks {
		return "", api.ErrLong
	}
	var out strings.Builder
	for _, b := range l {
		name, e := Name(b.Rule)
		if e != api.OK || !isNumber(b.Where) || !isNumber(b.What) {
			return "", api.ErrRange
		}
		out.WriteString(name + " " + words.Digits(int64(b.Where)) + " " + words.Digits(int64(b.What)) + "\n")
	}
	return out.String(), api.OK
}

// parseLine returns the break that has a line.
func parseLine(line string) (b api.AuBreak, ok bool) {
	parts := strings.Split(line, " ")
	if len(parts) != 3 {
		return api.AuBreak{}, false
	}
	for i, name := range names {
		if name == parts[0] {
			b.Rule = i + 1
		}
	}
	where, e := words.Int(parts[1], -api.MaxNumber, api.MaxNumber)
	what, e2 := words.Int(parts[2], -api.MaxNumber, api.MaxNumber)
	b.Where, b.What = int(where), int(what)
	return b, b.Rule > 0 && e == api.OK && e2 == api.OK
}

// Parse returns the breaks that have a text; with an error, the number of its line.
func Parse(text string) (l []api.AuBreak, line int, e api.Errno) {
	if len(text) > maxText {
		return nil, 0, api.ErrLong
	}
	if text == "" {
		return nil, 0, api.OK
	}
	body, ended := strings.CutSuffix(text, "\n")
	if !ended {
		return nil, 0, api.ErrForm
	}
	for i, s := range strings.Split(body, "\n") {
		if i == api.MaxBreaks {
			return nil, i + 1, api.ErrLong
		}
		b, ok := parseLine(s)
		if !ok {
			return nil, i + 1, api.ErrForm
		}
		l = append(l, b)
	}
	return l, 0, api.OK
}
