// Package words is layer 1: it reads and writes names, decimal numbers, quoted strings, lines of fields and lists of numbers.
package words

import (
	"strconv"
	"strings"

	"shunter/api"
)

// Name reports whether s is a name.
func Name(s string) bool {
	if s == "" || len(s) > api.MaxWord || !isLower(s[0]) {
		return false
	}
	for i := range len(s) {
		if !isLower(s[i]) && !isDigit(s[i]) && s[i] != '-' {
			return false
		}
	}
	return true
}

func isLower(b byte) bool { return 'a' <= b && b <= 'z' }

func isDigit(b byte) bool { return '0' <= b && b <= '9' }

// isNatural reports whether s is the decimal form of an integer that is not negative, of any size.
func isNatural(s string) bool {
	if s == "" || s[0] == '0' && len(s) > 1 {
		return false
	}
	for i := range len(s) {
		if !isDigit(s[i]) {
			return false
		}
	}
	return true
}

// isDecimal reports whether s is the decimal form of an integer of any size.
func isDecimal(s string) bool {
	if digits, negative := strings.CutPrefix(s, "-"); negative {
		return digits != "0" && isNatural(digits)
	}
	return isNatural(s)
}

// Int returns the integer whose decimal form s is, if it is from low to high.
func Int(s string, low, high int64) (int64, api.Errno) {
	if !isDecimal(s) {
		return 0, api.ErrForm
	}
	n, err := strconv.ParseInt(s, 10, 64)
	if err != nil || n < low || n > high {
		return 0, api.ErrRange
	}
	return n, api.OK
}

// Digits returns the decimal form of n.
func Digits(n int64) string { return strconv.FormatInt(n, 10) }

// Lines returns the lines of a text, without their line feeds.
func Lines(text string) ([]string, api.Errno) {
	if len(text) > api.MaxText {
		return nil, api.ErrLong
	}
	if text == "" {
		return nil, api.OK
	}
	body, ended := strings.CutSuffix(text, "\n")
	if !ended {
		return nil, api.ErrForm
	}
	if strings.Count(text, "\n") > api.MaxLines {
		return nil, api.ErrLong
	}
	return strings.Split(body, "\n"), api.OK
}
