package ops

import (
	"math"
	"slices"
	"strings"
	"testing"

	"shunter/api"
)

// samples are operations of all kinds, with their lines.
func samples() map[string]api.OpCall {
	return map[string]api.OpCall{
		"alloc 0 2 1":                 {Kind: api.OpAlloc, Ptrs: 2, Raws: 1},
		"load 1 2 3":                  {Kind: api.OpLoad, A: 1, B: 2, Field: 3},
		"store 1 0 -1":                {Kind: api.OpStore, A: 1, B: -1},
		"read 4 1000000000":           {Kind: api.OpRead, A: 4, Field: 1000000000},
		"write 1 0 ff":                {Kind: api.OpWrite, A: 1, Value: 255},
		"write 1 0 0":                 {Kind: api.OpWrite, A: 1},
		"write 1 -7 ffffffffffffffff": {Kind: api.OpWrite, A: 1, Field: -7, Value: math.MaxUint64},
		"move 5 6":                    {Kind: api.OpMove, A: 5, B: 6},
		"clear -1000000000":           {Kind: api.OpClear, A: -1000000000},
		"same 0 1":                    {Kind: api.OpSame, B: 1},
		"nil 7":                       {Kind: api.OpNil, A: 7},
		"size 0":                      {Kind: api.OpSize},
		"collect":                     {Kind: api.OpCollect},
	}
}

// P28.1, P28.4, P28.5
func TestPrintParse(t *testing.T) {
	for line, c := range samples() {
		if e := Check(c); e != api.OK {
			t.Error(line, e)
		}
		if s, e := Print(c); s != line || e != api.OK {
			t.Error(line, s, e)
		}
		if d, e := Parse(line); d != c || e != api.OK {
			t.Error(line, d, e)
		}
	}
	for _, x := range []struct {
		c api.OpCall
		e api.Errno
	}{{api.OpCall{}, api.ErrArg}, {api.OpCall{Kind: 12}, api.ErrArg}, {api.OpCall{Kind: -1}, api.ErrArg}, {api.OpCall{Kind: api.OpAlloc, B: 1}, api.ErrArg}, {api.OpCall{Kind: api.OpAlloc, A: 1e10, Field: 1}, api.ErrArg}, {api.OpCall{Kind: api.OpCollect, A: 1}, api.ErrArg}, {api.OpCall{Kind: api.OpLoad, Value: 1}, api.ErrArg}, {api.OpCall{Kind: api.OpRead, Raws: 1}, api.ErrArg}, {api.OpCall{Kind: api.OpRead, Ptrs: 1}, api.ErrArg}, {api.OpCall{Kind: api.OpLoad, Field: 1000000001}, api.ErrRange}, {api.OpCall{Kind: api.OpLoad, A: math.MinInt}, api.ErrRange}} {
		s, e := Print(x.c)
		if Check(x.c) != x.e || e != x.e || s != "" {
			t.Error(x, e)
		}
		_, e2 := Answer(x.c, api.OpAnswer{E: -1})
		_, e3 := ParseAnswer(x.c, "")
		if CheckAnswer(x.c, api.OpAnswer{E: -1}) != x.e || e2 != x.e || e3 != x.e {
			t.Error(x, e2, e3)
		}
	}
	for line, want := range map[string]api.Errno{"": api.ErrForm, " ": api.ErrForm, "write 1 0 0f": api.ErrForm, "write 1 0 F": api.ErrForm, "write 1 0 -1": api.ErrForm, "write 1 0 00": api.ErrForm, "write 1 0 11111111111111111": api.ErrRange, "write 1 x 11111111111111111": api.ErrForm, "write 1 0 0x1": api.ErrForm, "read 1": api.ErrForm, "read 1 0 0": api.ErrForm, "read 1  0": api.ErrForm, "read 1 \"0\"": api.ErrForm, "\"read\" 1 0": api.ErrForm, "load 1 0 1000000001": api.ErrRange, "load 1 0 99999999999999999999": api.ErrRange, "load 99999999999999999999 0 01": api.ErrForm, "load 1 0 a": api.ErrForm, "Load 1 0 0": api.ErrForm, "collect 1": api.ErrForm, "free 1": api.ErrForm, strings.Repeat("a", 8193): api.ErrLong, "read 1 " + strings.Repeat("1", 2001): api.ErrLong} {
		if c, e := Parse(line); c != (api.OpCall{}) || e != want {
			t.Errorf("%.30q: %v, %d", line, c, e)
		}
	}
}

// P28.2, P28.4, P28.5
func TestAnswers(t *testing.T) {
	alloc, read, size, same, none := samples()["alloc 0 2 1"], samples()["read 4 1000000000"], samples()["size 0"], samples()["same 0 1"], samples()["nil 7"]
	for _, x := range []struct {
		c    api.OpCall
		line string
		a    api.OpAnswer
	}{{size, "2 1", api.OpAnswer{Value: 513}}, {size, "31 31", api.OpAnswer{Value: 31*256 + 31}}, {same, "yes", api.OpAnswer{Is: true}}, {none, "no", api.OpAnswer{}}, {read, "ff", api.OpAnswer{Value: 255}}, {read, "0", api.OpAnswer{}}, {read, "ffffffffffffffff", api.OpAnswer{Value: math.MaxUint64}}, {alloc, "error 5", api.OpAnswer{E: 5}}, {same, "error 999", api.OpAnswer{E: 999}}, {read, "error 10", api.OpAnswer{E: 10}}, {alloc, "ok", api.OpAnswer{}}} {
		if e := CheckAnswer(x.c, x.a); e != api.OK {
			t.Error(x, e)
		}
		if s, e := Answer(x.c, x.a); s != x.line || e != api.OK {
			t.Error(x, s, e)
		}
		if a, e := ParseAnswer(x.c, x.line); a != x.a || e != api.OK {
			t.Error(x, a, e)
		}
	}
	for _, x := range []struct {
		c api.OpCall
		a api.OpAnswer
		e api.Errno
	}{{alloc, api.OpAnswer{E: -1, Is: true}, api.ErrRange}, {alloc, api.OpAnswer{E: 1000}, api.ErrRange}, {alloc, api.OpAnswer{Is: true}, api.ErrArg}, {alloc, api.OpAnswer{Value: 1}, api.ErrArg}, {same, api.OpAnswer{E: 5, Is: true}, api.ErrArg}, {read, api.OpAnswer{E: 5, Value: 1}, api.ErrArg}, {read, api.OpAnswer{Is: true}, api.ErrArg}, {size, api.OpAnswer{Value: 32}, api.ErrArg}, {size, api.OpAnswer{Value: 32 * 256}, api.ErrArg}, {size, api.OpAnswer{Value: math.MaxUint64}, api.ErrArg}} {
		if s, e := Answer(x.c, x.a); s != "" || e != x.e || CheckAnswer(x.c, x.a) != x.e {
			t.Error(x, s, e)
		}
	}
	for _, x := range []struct {
		c    api.OpCall
		line string
	}{{alloc, "yes"}, {alloc, ""}, {alloc, "ok "}, {alloc, "error 0"}, {alloc, "error 1000"}, {alloc, "error 05"}, {alloc, "error"}, {alloc, "error 5 "}, {same, "ok"}, {same, "YES"}, {read, "0f"}, {read, "11111111111111111"}, {read, "-1"}, {size, "2"}, {size, "32 0"}, {size, "0 32"}, {size, "2  1"}, {size, "2 1 "}, {size, "02 1"}} {
		if a, e := ParseAnswer(x.c, x.line); a != (api.OpAnswer{}) || e != api.ErrForm {
			t.Error(x, a, e)
		}
	}
}

// P28.3, P28.5
func TestListText(t *testing.T) {
	l := []api.OpCall{{Kind: api.OpClear, A: 1}, {Kind: api.OpCollect}}
	if s, op, e := Text(l); s != "clear 1\ncollect\n" || op != 0 || e != api.OK {
		t.Error(s, op, e)
	}
	for _, s := range []string{"clear 1\ncollect\n", "\nclear 1\n\n\ncollect\n\n"} {
		if m, line, e := List(s); !slices.Equal(m, l) || line != 0 || e != api.OK {
			t.Error(m, line, e)
		}
	}
	if m, line, e := List(""); len(m) > 0 || line != 0 || e != api.OK {
		t.Error(m, line, e)
	}
	for s, want := range map[string][2]int{"collect": {0, 6}, "collect\n\nclear\nx\n": {3, 6}, "clear 1000000001\n": {1, 7}, strings.Repeat("collect\n", 201): {201, 3}, "\n" + strings.Repeat("collect\n", 200) + "\nclear\n": {203, 6}, strings.Repeat("\n", 5001): {0, 3}, strings.Repeat("collect\n", 200) + "\n\ncollect\nclear\n": {203, 3}} {
		if m, line, e := List(s); len(m) > 0 || line != want[0] || int(e) != want[1] {
			t.Errorf("%.20q: %d, %d", s, line, e)
		}
	}
	if m, line, e := List(strings.Repeat("collect\n", 200) + "\n"); len(m) != 200 || line != 0 || e != api.OK {
		t.Error(len(m), line, e)
	}
	if s, op, e := Text(slices.Repeat([]api.OpCall{{Kind: api.OpCollect}}, 200)); len(s) != 1600 || op != 0 || e != api.OK {
		t.Error(len(s), op, e)
	}
	if s, op, e := Text(make([]api.OpCall, 201)); s != "" || op != -1 || e != api.ErrLong {
		t.Error(s, op, e)
	}
	if s, op, e := Text(append(l, api.OpCall{Kind: api.OpNil, A: math.MaxInt}, api.OpCall{})); s != "" || op != 2 || e != api.ErrRange {
		t.Error(s, op, e)
	}
}
