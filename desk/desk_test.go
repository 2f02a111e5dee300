package desk

import (
	"strconv"
	"strings"
	"testing"

	"shunter/api"
	"shunter/heaptest"
	"shunter/ops"
	"shunter/words"
)

// check does lines, each of which must be answered as told; an answer that begins with ! is an error.
func check(t *testing.T, d *Desk, l ...[2]string) {
	t.Helper()
	for _, x := range l {
		got, e := d.Do(x[0])
		if e != api.OK {
			if got != "" {
				t.Errorf("%s: an answer with an error: %q", x[0], got)
			}
			got = "!" + strconv.Itoa(int(e))
		}
		if got != x[1] {
			t.Errorf("%.60s: %q, not %q", x[0], got, x[1])
		}
	}
}

const first = `play "alloc 0 1 1\nalloc 1 1 1\nstore 1 0 0\n"`

// P35.1: the examples
func TestExamples(t *testing.T) {
	check(t, New(),
		[2]string{"sizes", "cars 8 of 8 nursery 6 registers 2 popular 2"},
		[2]string{"registers", "0 0"}, [2]string{"cars", "none"}, [2]string{"trains", "lowest none\nyoungest none"}, [2]string{"script", "none"}, [2]string{"pin", "0"}, [2]string{"graph", "none"}, [2]string{"report", "none"}, [2]string{"state", "0 0 0 0"},
		[2]string{first, "ok\nok\nok"},
		[2]string{"state", "6 6 0 0"}, [2]string{"registers", "1 4"}, [2]string{"script", "alloc 0 1 1\nalloc 1 1 1\nstore 1 0 0"},
		[2]string{"pause", "collected 6 6 0 0 1 turned"}, [2]string{"registers", "15 18"}, [2]string{"cars", "1 used 6"}, [2]string{"trains", "lowest none\nyoungest 1"},
		[2]string{"graph", "1 1 1 0 0\n2 1 1 1 0"}, [2]string{"set 1", "none"}, [2]string{"set -1", "none"}, [2]string{"state", "6 6 1 12"}, [2]string{"match", "yes"}, [2]string{"breaks", "none"},
		[2]string{"alloc 0 1 1", "error 5"},
		[2]string{"clear 0", "ok"}, [2]string{"clear 1", "ok"}, [2]string{"pause", "freed 0 0 0 0 1 turned"}, [2]string{"state", "0 0 3 18"},
		[2]string{"undo", "ok"}, [2]string{"state", "6 0 2 18"}, [2]string{"settle 5", "1"}, [2]string{"differ", "none"}, [2]string{"left 0 3", "6"}, [2]string{"left 0 8", "!7"}, [2]string{"left 1 3", "6"})
}

// P35.1: errors
func TestErrors(t *testing.T) {
	d := New()
	for _, line := range []string{"", `"play" "x"`, "none", "Pause", "pause 1", `sizes ""`, "play", "play x", "play a b", "set", "set x", `set "1"`, "set 401", "set -2", "set 01", "left 1", "left 1 2 3", "left 1 x", "settle 401", "config x", " pause", "alloc 0 1", "write 0 0 0F", `clear "0"`} {
		check(t, d, [2]string{line, "!6"})
	}
	check(t, d, [2]string{"undo", "!4"}, [2]string{"set 8", "!7"}, [2]string{"set 7", "none"}, [2]string{strings.Repeat("a", 8193), "!3"}, [2]string{strings.Repeat("a ", 64) + "a", "!3"}, [2]string{"clear 1000000001", "!7"}, [2]string{`play "clear"`, "!6"}, [2]string{`play "clear 0\nx\n"`, "!6"}, [2]string{`play ""`, "none"}, [2]string{`config "cars 8"`, "!6"}, [2]string{`config "cars 6 of 8 nursery 6 registers 2 popular 2"`, "!7"}, [2]string{"script", "none"}, [2]string{"clear 2", "error 10"}, [2]string{"script", "clear 2"})
	check(t, d, [2]string{"settle -1", "!7"}, [2]string{"left -1 0", "!7"}, [2]string{"left 1 0", "!7"}, [2]string{"settle 400", "0"})
	check(t, d, [2]string{`config "cars 9 of 10 nursery 5 registers 3 popular 4"`, "ok"}, [2]string{"sizes", "cars 9 of 10 nursery 5 registers 3 popular 4"}, [2]string{"registers", "0 0 0"}, [2]string{"script", "none"}, [2]string{"pause", "nothing 0 0 0 0 0"})
	for _, x := range []*Desk{nil, {}, func() *Desk { c := *New(); return &c }()} {
		check(t, x, [2]string{"sizes", "!1"}, [2]string{"", "!1"})
		if s, e := x.Run("sizes\n"); s != "" || e != api.ErrNil {
			t.Error(s, e)
		}
	}
}

// P35.1: 200 operations, and 40 heavy lines
func TestLimits(t *testing.T) {
	d := New()
	check(t, d, [2]string{`play "` + strings.Repeat(`collect\n`, 199) + `"`, strings.TrimSuffix(strings.Repeat("ok\n", 199), "\n")}, [2]string{`play "clear 0\nclear 1\n"`, "!3"}, [2]string{"pause", "nothing 0 0 0 0 0"}, [2]string{"pause", "!3"}, [2]string{"clear 0", "!3"}, [2]string{"clear x", "!6"}, [2]string{`play "\n"`, "none"}, [2]string{"undo", "ok"}, [2]string{"clear 0", "ok"})
	d = New()
	for range 19 {
		check(t, d, [2]string{"settle -1", "!7"}, [2]string{"differ", "none"}, [2]string{"settle x", "!6"})
	}
	check(t, d, [2]string{"left 0 0", "0"}, [2]string{"report", "none"}, [2]string{"report", "!350"}, [2]string{"left 9 9", "!350"}, [2]string{"differ 1", "!6"}, [2]string{"settle 0", "!350"}, [2]string{"match", "yes"}, [2]string{`config "cars 8 of 8 nursery 6 registers 2 popular 2"`, "ok"}, [2]string{"differ", "!350"})
}

// P35.1: popular cars, a pin, sets and reports
func TestLines(t *testing.T) {
	d := New()
	check(t, d, [2]string{`config "cars 12 of 8 nursery 4 registers 3 popular 2"`, "ok"},
		[2]string{`play "alloc 0 0 1\nwrite 0 0 ab\nalloc 1 1 0\nstore 1 0 0\ncollect\nalloc 2 2 0\nstore 2 0 0\nstore 2 1 0\n"`, strings.TrimSuffix(strings.Repeat("ok\n", 8), "\n")},
		[2]string{"read 0 0", "ab"}, [2]string{"size 2", "2 0"}, [2]string{"same 0 1", "no"}, [2]string{"nil 0", "no"}, [2]string{"set -1", "none"}, [2]string{"move 1 2", "ok"}, [2]string{"load 2 1 0", "ok"}, [2]string{"nil 9", "error 10"},
		[2]string{"graph", "1 0 1 ab\n2 2 0 1 1"})
	s, _ := d.Do("report")
	if !strings.HasPrefix(s, "alloc 0 0 1  ok  2 2 0\nwrite 0 0 ab  ok  2 2 0\n") || strings.HasSuffix(s, "\n") || strings.Count(s, "\n") != 14 {
		t.Error(s)
	}
	check(t, d, [2]string{`config "cars 12 of 8 nursery 12 registers 3 popular 2"`, "ok"},
		[2]string{`play "alloc 0 0 3\nalloc 1 3 0\nalloc 2 3 0\nstore 1 0 0\nstore 2 0 0\nstore 2 1 0\n"`, "ok\nok\nok\nok\nok\nok"},
		[2]string{"pause", "collected 12 8 0 0 1 turned"}, [2]string{"cars", "1 used 4\n2 popular 4\n3 used 4"}, [2]string{"trains", "lowest 1\nyoungest 2 3"}, [2]string{"set 2", "22 23 38"})
	met := map[string]bool{}
	for range 6 {
		s, e := d.Do("pause")
		if e != api.OK {
			t.Fatal(e)
		}
		met[strings.Fields(s)[0]] = true
		cars, _ := d.Do("cars")
		if strings.Contains(cars, "popular") {
			met["popular"] = true
		}
	}
	if !met["collected"] || !met["popular"] || !met["relinked"] || met["freed"] || met["nothing"] {
		t.Error(met)
	}
}

// P35.2, P35.6
func TestRun(t *testing.T) {
	text := "sizes\n\nclear 9\nundo\nundo\nset 8\nset 77\n"
	if s, e := New().Run(text); s != "cars 8 of 8 nursery 6 registers 2 popular 2\n!error 6\nerror 10\nok\n!error 4\n!error 7\n!error 7\n" || e != api.OK {
		t.Error(s, e)
	}
	for s, want := range map[string]api.Errno{"sizes": api.ErrForm, strings.Repeat("\n", 5001): api.ErrLong} {
		if got, e := New().Run(s); got != "" || e != want {
			t.Error(got, e)
		}
	}
	if s, e := New().Run(""); s != "" || e != api.OK {
		t.Error(s, e)
	}
	d := New()
	check(t, d, [2]string{`play "` + strings.Repeat(`collect\n`, 180) + `"`, strings.TrimSuffix(strings.Repeat("ok\n", 180), "\n")})
	// The script is answered with 180 lines of 8 bytes each time.
	full := strings.Repeat("script\n", 728) + strings.Repeat("pin\n", 128)
	if s, e := d.Run(full); len(s) != api.MaxDeskAnswer || e != api.OK {
		t.Error(len(s), e)
	}
	if s, e := d.Run(full + "pin\n"); s != "" || e != api.ErrLong {
		t.Error(len(s), e)
	}
	if s, e := d.Run(strings.Repeat("script\n", 728) + "pause\n"); len(s) != 728*1440+18 || e != api.OK {
		t.Error(len(s), e)
	}
	if s, e := d.Run(strings.Repeat("script\n", 729) + "pause\n"); s != "" || e != api.ErrLong {
		t.Error(len(s), e)
	}
	if s, _ := d.Do("state"); s != "0 0 182 0" {
		t.Error("the lines were not done", s)
	}
}

// randomScript returns the text of random operations.
func randomScript(r *heaptest.Random, n, k int) string {
	kinds := []int{1, 1, 1, 1, 2, 2, 3, 3, 3, 3, 5, 6, 7, 4, 8, 9, 10, 11}
	var l []api.OpCall
	for range n {
		x := api.OpCall{Kind: kinds[r.Next(len(kinds))], A: r.Next(k)}
		switch x.Kind {
		case api.OpAlloc:
			x.Ptrs, x.Raws = r.Next(3), r.Next(3)
		case api.OpLoad, api.OpStore:
			x.B, x.Field = r.Next(k), r.Next(2)
		case api.OpMove, api.OpSame:
			x.B = r.Next(k)
		case api.OpRead, api.OpWrite:
			x.Field = r.Next(2)
		case api.OpCollect:
			x.A = 0
		}
		l = append(l, x)
	}
	s, _, _ := ops.Text(l)
	return s
}

// P35.3, P35.4, P35.5, P35.6
func TestTheorem(t *testing.T) {
	r := heaptest.NewRandom(36)
	looks := []string{"state", "cars", "trains", "registers", "pin", "graph", "script", "set -1", "set 0", "set 1", "set 2", "set 3", "sizes"}
	look := func(d *Desk) string {
		var out []string
		for _, line := range looks {
			s, _ := d.Do(line)
			out = append(out, s)
		}
		return strings.Join(out, "|")
	}
	for range 6 {
		text := randomScript(r, 90, 2)
		lines, _ := words.Lines(text)
		one, two, three := New(), New(), New()
		var answers []string
		for _, line := range lines {
			before := look(one)
			s, e := one.Do(line)
			if e != api.OK {
				t.Fatal(line, e)
			}
			answers = append(answers, s)
			check(t, one, [2]string{"match", "yes"}, [2]string{"breaks", "none"})
			if r.Next(6) == 0 {
				after := look(one)
				check(t, one, [2]string{"undo", "ok"})
				if now := look(one); now != before {
					t.Fatal(before, now)
				}
				check(t, one, [2]string{line, s})
				if look(one) != after {
					t.Fatal("done again")
				}
			}
			state, _ := one.Do("state")
			n := strings.Fields(state)
			occupied, _ := strconv.Atoi(n[0])
			live, _ := strconv.Atoi(n[1])
			if occupied < live {
				t.Fatal(state)
			}
		}
		check(t, one, [2]string{"differ", "none"})
		if s, e := one.Do("settle 400"); e != api.OK {
			t.Fatal(s, e)
		}
		check(t, two, [2]string{"play " + words.Quote(text), strings.Join(answers, "\n")})
		if s, e := three.Run(text); s != strings.Join(answers, "\n")+"\n" || e != api.OK {
			t.Fatal(e)
		}
		if look(one) != look(two) || look(one) != look(three) {
			t.Fatal("other heaps")
		}
	}
}
