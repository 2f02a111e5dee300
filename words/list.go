package words

import (
	"strconv"
	"strings"

	"shunter/api"
)

const emptyList = "-"

// List returns the list expression of l.
func List(l []int) (string, api.Errno) {
	if len(l) > api.MaxListed {
		return "", api.ErrLong
	}
	for _, n := range l {
		if n < 0 || n > api.MaxNumber {
			return "", api.ErrRange
		}
	}
	for i := 1; i < len(l); i++ {
		if l[i] <= l[i-1] {
			return "", api.ErrForm
		}
	}
	if len(l) == 0 {
		return emptyList, api.OK
	}
	var parts []string
	for from := 0; from < len(l); {
		to := from
		for to+1 < len(l) && l[to+1] == l[to]+1 {
			to++
		}
		part := strconv.Itoa(l[from])
		if to > from {
			part += "-" + strconv.Itoa(l[to])
		}
		parts = append(parts, part)
		from = to + 1
	}
	return strings.Join(parts, ","), api.OK
}

// run is a maximal run of consecutive integers, in decimal form, as they may be of any size.
type run struct{ first, last string }

// below reports whether one natural number is less than another one, both in decimal form.
func below(a, b string) bool {
	if len(a) != len(b) {
		return len(a) < len(b)
	}
	return a < b
}

// successor returns the decimal form of the natural number after another one.
func successor(s string) string {
	kept := strings.TrimRight(s, "9")
	zeros := strings.Repeat("0", len(s)-len(kept))
	if kept == "" {
		return "1" + zeros
	}
	last := len(kept) - 1
	return kept[:last] + string([]byte{kept[last] + 1}) + zeros
}

// parseRuns returns the runs of a list expression that is not the empty list's.
func parseRuns(s string) ([]run, bool) {
	var l []run
	for part := range strings.SplitSeq(s, ",") {
		first, last, long := strings.Cut(part, "-")
		if !long {
			last = first
		}
		if !isNatural(first) || !isNatural(last) || long && !below(first, last) {
			return nil, false
		}
		if n := len(l); n > 0 && !below(successor(l[n-1].last), first) {
			return nil, false
		}
		l = append(l, run{first, last})
	}
	return l, true
}

// ParseList returns the list whose list expression s is.
func ParseList(s string) ([]int, api.Errno) {
	if s == emptyList {
		return nil, api.OK
	}
	runs, ok := parseRuns(s)
	if !ok {
		return nil, api.ErrForm
	}
	if below(strconv.Itoa(api.MaxNumber), runs[len(runs)-1].last) {
		return nil, api.ErrRange
	}
	var l []int
	for _, r := range runs {
		first, _ := strconv.Atoi(r.first)
		last, _ := strconv.Atoi(r.last)
		if last-first+1 > api.MaxListed-len(l) {
			return nil, api.ErrLong
		}
		for n := first; n <= last; n++ {
			l = append(l, n)
		}
	}
	return l, api.OK
}
