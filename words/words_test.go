package words

import (
	"math"
	"slices"
	"strings"
	"testing"

	"shunter/api"
)

// P1.1
func TestNameIntDigits(t *testing.T) {
	for s, want := range map[string]bool{"web-1": true, "a": true, "z9-": true, "Web": false, "": false, "-a": false, "9a": false, "a b": false, strings.Repeat("a", 16): true, strings.Repeat("a", 17): false} {
		if Name(s) != want {
			t.Errorf("Name(%q) is not %v", s, want)
		}
	}
	for _, x := range []struct {
		s         string
		low, high int64
		n         int64
		e         api.Errno
	}{{"007", 0, 10, 0, api.ErrForm}, {"-0", 0, 10, 0, api.ErrForm}, {"+1", 0, 10, 0, api.ErrForm}, {"", 0, 10, 0, api.ErrForm}, {"-", 0, 10, 0, api.ErrForm}, {"1 ", 0, 10, 0, api.ErrForm}, {"0x1", 0, 10, 0, api.ErrForm}, {"12", 0, 10, 0, api.ErrRange}, {"-1", 0, 10, 0, api.ErrRange}, {"10", 0, 10, 10, api.OK}, {"-7", -7, -7, -7, api.OK}, {"5", 6, 4, 0, api.ErrRange}, {"9223372036854775808", math.MinInt64, math.MaxInt64, 0, api.ErrRange}, {"-9223372036854775808", math.MinInt64, 0, math.MinInt64, api.OK}} {
		if n, e := Int(x.s, x.low, x.high); n != x.n || e != x.e {
			t.Errorf("Int(%q): %d, %d", x.s, n, e)
		}
	}
	for _, n := range []int64{0, 1, -1, 10, math.MaxInt64, math.MinInt64} {
		if m, e := Int(Digits(n), math.MinInt64, math.MaxInt64); m != n || e != api.OK {
			t.Errorf("Int of Digits of %d: %d, %d", n, m, e)
		}
	}
	if Digits(-120) != "-120" {
		t.Error("Digits of -120")
	}
}

// P1.2, P1.7
func TestQuote(t *testing.T) {
	if got := Quote("a\n\x00\""); got != `"a\n\x00\""` {
		t.Error(got)
	}
	if got := Quote("\\\r\t\x7f\xff ~"); got != `"\\\r\t\x7f\xff ~"` {
		t.Error(got)
	}
	for i := range 256 {
		s := "x" + string([]byte{byte(i)}) + "y"
		if got, e := Unquote(Quote(s)); got != s || e != api.OK {
			t.Errorf("Unquote of Quote of %q: %q, %d", s, got, e)
		}
	}
	for _, s := range []string{"", `"`, "a", `"a`, `a"`, `"\x41"`, `"\x7F"`, `"\x0a"`, `"\x0"`, `"\x`, `"\q"`, `"\`, "\"\n\"", "\"\x80\"", `"a"b`, ` "a"`} {
		if got, e := Unquote(s); got != "" || e != api.ErrForm {
			t.Errorf("Unquote(%q): %q, %d", s, got, e)
		}
	}
	long := strings.Repeat("ab\x01", 10000)
	if got, e := Unquote(Quote(long)); got != long || e != api.OK {
		t.Error("a long string")
	}
}

// P1.3
func TestSplit(t *testing.T) {
	l, e := Split(`get / "a b" "" x-'`)
	want := []api.Field{{S: "get"}, {S: "/"}, {S: "a b", Quoted: true}, {Quoted: true}, {S: "x-'"}}
	if e != api.OK || !slices.Equal(l, want) {
		t.Errorf("%v, %d", l, e)
	}
	if l, e := Split(""); len(l) != 0 || e != api.OK {
		t.Error("the empty line")
	}
	for s, want := range map[string]api.Errno{" ": api.ErrForm, "a  b": api.ErrForm, "a ": api.ErrForm, " a": api.ErrForm, "a\tb": api.ErrForm, `a"b"`: api.ErrForm, `"a"b`: api.ErrForm, `"a""b"`: api.ErrForm, `a\b`: api.ErrForm, "\x7f": api.ErrForm, `"a`: api.ErrForm,
		strings.Repeat("a", 8193): api.ErrLong, strings.Repeat(" ", 8193): api.ErrLong, strings.Repeat(" ", 8192): api.ErrForm,
		strings.Repeat("a ", 64) + "a": api.ErrLong, strings.Repeat("a ", 63) + "a": api.OK, strings.Repeat("a ", 70) + "\t": api.ErrForm,
		strings.Repeat("b", 2001): api.ErrLong, strings.Repeat("b", 2000): api.OK, strings.Repeat("b", 2001) + "\t": api.ErrForm} {
		if l, e := Split(s); e != want || e != api.OK && len(l) > 0 {
			t.Errorf("Split(%.20q): %d, not %d", s, e, want)
		}
	}
}

// P1.4
func TestJoin(t *testing.T) {
	bare := func(n, length int) []api.Field {
		return slices.Repeat([]api.Field{{S: strings.Repeat("a", length)}}, n)
	}
	for i, x := range []struct {
		l []api.Field
		e api.Errno
	}{{bare(64, 1), api.OK}, {bare(65, 1), api.ErrLong}, {bare(1, 2001), api.ErrLong}, {bare(1, 0), api.ErrForm}, {append(bare(1, 0), bare(1, 2001)...), api.ErrLong}, {[]api.Field{{S: "a b"}}, api.ErrForm}, {[]api.Field{{S: "\xff"}}, api.ErrForm}, {append(bare(5, 2000), api.Field{S: "\""}), api.ErrForm}, {bare(5, 2000), api.ErrLong}, {nil, api.OK}} {
		s, e := Join(x.l)
		if e != x.e || e != api.OK && s != "" {
			t.Errorf("%d: %q, %d", i, s, e)
		}
	}
	exact := append(bare(4, 2000), bare(1, 188)...)
	if s, e := Join(exact); len(s) != 8192 || e != api.OK {
		t.Error(len(s), e)
	}
	if s, e := Join([]api.Field{{S: "a"}, {S: "b c\n", Quoted: true}}); s != `a "b c\n"` || e != api.OK {
		t.Errorf("%q, %d", s, e)
	}
}

// P1.5
func TestLines(t *testing.T) {
	for s, want := range map[string][]string{"": nil, "\n": {""}, "a\n\n b\r\n": {"a", "", " b\r"}} {
		if l, e := Lines(s); e != api.OK || !slices.Equal(l, want) {
			t.Errorf("Lines(%q): %q, %d", s, l, e)
		}
	}
	for s, want := range map[string]api.Errno{"a": api.ErrForm, "a\nb": api.ErrForm, strings.Repeat("x", 1<<20+1): api.ErrLong, strings.Repeat("\n", 5001): api.ErrLong, strings.Repeat("\n", 5000): api.OK, strings.Repeat("\n", 5001) + "a": api.ErrForm, strings.Repeat("x", 1<<20-1) + "\n": api.OK} {
		if l, e := Lines(s); e != want || e != api.OK && len(l) > 0 {
			t.Errorf("Lines(%.9q): %d, not %d", s, e, want)
		}
	}
}

// P1.6, P1.7
func TestList(t *testing.T) {
	for s, l := range map[string][]int{"-": nil, "1-3,5,8-9": {1, 2, 3, 5, 8, 9}, "0": {0}, "0-1,1000000000": {0, 1, 1000000000}} {
		if got, e := List(l); got != s || e != api.OK {
			t.Errorf("List(%v): %q, %d", l, got, e)
		}
		if got, e := ParseList(s); !slices.Equal(got, l) || e != api.OK {
			t.Errorf("ParseList(%q): %v, %d", s, got, e)
		}
	}
	var most []int
	for n := range 500 {
		most = append(most, 2*n)
	}
	if s, e := List(most); s == "" || e != api.OK {
		t.Error(s, e)
	}
	for _, x := range []struct {
		l []int
		e api.Errno
	}{{make([]int, 501), api.ErrLong}, {[]int{2, 1, -1}, api.ErrRange}, {[]int{2, 1, 1000000001}, api.ErrRange}, {[]int{1, 1}, api.ErrForm}, {[]int{2, 1}, api.ErrForm}} {
		if s, e := List(x.l); s != "" || e != x.e {
			t.Errorf("List: %q, %d", s, e)
		}
	}
	big := strings.Repeat("9", 30)
	for s, want := range map[string]api.Errno{"": api.ErrForm, "1-3,4": api.ErrForm, "3-3": api.ErrForm, "2,1": api.ErrForm, "1,2": api.ErrForm, "01": api.ErrForm, "1-": api.ErrForm, ",": api.ErrForm, "1-2-3": api.ErrForm, "-1": api.ErrForm, "a": api.ErrForm, "0-600": api.ErrLong, "0-499,501": api.ErrLong, "0-499": api.OK, "1000000001": api.ErrRange, "0-" + big: api.ErrRange, big + ",1" + strings.Repeat("0", 30): api.ErrForm, big + ",1" + strings.Repeat("0", 29) + "1": api.ErrRange, "199,200": api.ErrForm, "199,201": api.OK} {
		if l, e := ParseList(s); e != want || e != api.OK && len(l) > 0 {
			t.Errorf("ParseList(%q): %d, not %d", s, e, want)
		}
	}
}

// P1.7
func TestSplitJoinBack(t *testing.T) {
	for _, line := range []string{"", "a", `a "b c" ""`, `"\x00\xff" !#~`, "1 2 3"} {
		l, e := Split(line)
		if e != api.OK {
			t.Fatal(line, e)
		}
		if got, e := Join(l); got != line || e != api.OK {
			t.Errorf("Join of Split of %q: %q, %d", line, got, e)
		}
	}
}

// P1.8
func TestJoinOfParts(t *testing.T) {
	a, b := []api.Field{{S: "x"}, {S: " ", Quoted: true}}, []api.Field{{S: "", Quoted: true}, {S: "-"}}
	left, _ := Join(a)
	right, _ := Join(b)
	whole, e := Join(slices.Concat(a, b))
	if e != api.OK || whole != left+" "+right {
		t.Errorf("%q, %d", whole, e)
	}
	l, _ := Split(whole)
	l[0].S = "changed"
	if again, _ := Split(whole); again[0].S != "x" || a[0].S != "x" {
		t.Error("memory is shared")
	}
}
