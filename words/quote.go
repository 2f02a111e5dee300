package words

import (
	"strings"

	"shunter/api"
)

// escape is a byte that has an escape of one letter.
type escape struct{ plain, letter byte }

var escapes = [...]escape{{'"', '"'}, {'\\', '\\'}, {'\n', 'n'}, {'\r', 'r'}, {'\t', 't'}}

const hexDigits = "0123456789abcdef"

// standsForItself reports whether a quoted form has the byte as it is.
func standsForItself(b byte) bool { return 32 <= b && b <= 126 && b != '"' && b != '\\' }

// letterOf returns the letter with which a byte is escaped, if it has one.
func letterOf(b byte) (byte, bool) {
	for _, x := range escapes {
		if x.plain == b {
			return x.letter, true
		}
	}
	return 0, false
}

// plainOf returns the byte that is escaped with a letter, if there is one.
func plainOf(letter byte) (byte, bool) {
	for _, x := range escapes {
		if x.letter == letter {
			return x.plain, true
		}
	}
	return 0, false
}

// Quote returns the quoted form of s.
func Quote(s string) string {
	var out strings.Builder
	out.WriteByte('"')
	for i := range len(s) {
		b := s[i]
		letter, short := letterOf(b)
		switch {
		case standsForItself(b):
			out.WriteByte(b)
		case short:
			out.WriteByte('\\')
			out.WriteByte(letter)
		default:
			out.WriteString("\\x")
			out.WriteByte(hexDigits[b>>4])
			out.WriteByte(hexDigits[b&15])
		}
	}
	out.WriteByte('"')
	return out.String()
}

// Unquote returns the string whose quoted form s is.
func Unquote(s string) (string, api.Errno) {
	text, end, ok := unquoteAt(s, 0)
	if !ok || end != len(s) {
		return "", api.ErrForm
	}
	return text, api.OK
}

// unquoteAt reads the quoted form that begins at a place of s, and returns where it ends.
func unquoteAt(s string, at int) (text string, end int, ok bool) {
	if at >= len(s) || s[at] != '"' {
		return "", 0, false
	}
	var out strings.Builder
	at++
	for at < len(s) {
		switch b := s[at]; {
		case b == '"':
			return out.String(), at + 1, true
		case b == '\\':
			plain, length := unescape(s[at:])
			if length == 0 {
				return "", 0, false
			}
			out.WriteByte(plain)
			at += length
		case standsForItself(b):
			out.WriteByte(b)
			at++
		default:
			return "", 0, false
		}
	}
	return "", 0, false
}

// unescape returns the byte whose escape s begins with, and the length of this; the length 0 says that there is none.
func unescape(s string) (plain byte, length int) {
	if len(s) < 2 {
		return 0, 0
	}
	if b, ok := plainOf(s[1]); ok {
		return b, 2
	}
	if s[1] != 'x' || len(s) < 4 {
		return 0, 0
	}
	high, low := strings.IndexByte(hexDigits, s[2]), strings.IndexByte(hexDigits, s[3])
	if high < 0 || low < 0 {
		return 0, 0
	}
	b := byte(high<<4 | low)
	// A byte has one escape only, so that each string has one quoted form.
	if _, short := letterOf(b); short || standsForItself(b) {
		return 0, 0
	}
	return b, 4
}
