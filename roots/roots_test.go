package roots

import (
	"math"
	"slices"
	"testing"

	"shunter/api"
)

func example() []int { return []int{5, 0, 9, 5} }

// P19.1, and the error of Check of the other functions
func TestCheck(t *testing.T) {
	for i, x := range []struct {
		regs []int
		r    int
		e    api.Errno
	}{{example(), 0, api.OK}, {make([]int, 8), 0, api.OK}, {nil, -1, api.ErrRange}, {make([]int, 9), -1, api.ErrRange}, {[]int{0, 1601, -1}, 1, api.ErrRange}, {[]int{1600, -1}, 1, api.ErrRange}} {
		r, e := Check(x.regs)
		if r != x.r || e != x.e {
			t.Error(i, r, e)
		}
		if e == api.OK {
			continue
		}
		a, e1 := Get(x.regs, 99)
		b, e2 := Set(x.regs, 99, -1)
		c, e3 := Move(x.regs, 0, 99)
		d, e4 := Clear(x.regs, 99)
		f, e5 := Alike(x.regs, 0, 99)
		g, h, e6 := Into(x.regs, 5, 1)
		j, e7 := Targets(x.regs)
		k, l, e8 := Forward(x.regs, make([]api.RtMove, 1))
		if !slices.Equal([]api.Errno{e1, e2, e3, e4, e5, e6, e7, e8}, slices.Repeat([]api.Errno{x.e}, 8)) || f || a+g+h+l+len(b)+len(c)+len(d)+len(j)+len(k) != 0 {
			t.Error(i, e1, e2, e3, e4, e5, e6, e7, e8)
		}
	}
}

// P19.2
func TestRegisters(t *testing.T) {
	if a, e := Get(example(), 2); a != 9 || e != api.OK {
		t.Error(a, e)
	}
	if l, e := Set(example(), 1, 9); !slices.Equal(l, []int{5, 9, 9, 5}) || e != api.OK {
		t.Error(l, e)
	}
	if l, e := Move(example(), 0, 1); !slices.Equal(l, []int{0, 0, 9, 5}) || e != api.OK {
		t.Error(l, e)
	}
	if l, e := Clear(example(), 3); !slices.Equal(l, []int{5, 0, 9, 0}) || e != api.OK {
		t.Error(l, e)
	}
	for b, want := range map[int]bool{3: true, 1: false, 0: true} {
		if like, e := Alike(example(), 0, b); like != want || e != api.OK {
			t.Error(b, like, e)
		}
	}
	for _, r := range []int{4, -1, math.MaxInt} {
		_, e1 := Get(example(), r)
		_, e2 := Set(example(), r, -1)
		_, e3 := Move(example(), r, 0)
		_, e4 := Move(example(), 0, r)
		_, e5 := Clear(example(), r)
		_, e6 := Alike(example(), r, 0)
		_, e7 := Alike(example(), 0, r)
		if !slices.Equal([]api.Errno{e1, e2, e3, e4, e5, e6, e7}, slices.Repeat([]api.Errno{api.ErrBad}, 7)) {
			t.Error(r, e1, e2, e3, e4, e5, e6, e7)
		}
	}
	for a, want := range map[int]api.Errno{0: api.OK, 1600: api.OK, 1601: api.ErrRange, -1: api.ErrRange} {
		if l, e := Set(example(), 0, a); e != want || e != api.OK && len(l) > 0 {
			t.Error(a, l, e)
		}
	}
	regs := example()
	l, _ := Move(regs, 0, 1)
	l[2] = 77
	if !slices.Equal(regs, example()) {
		t.Error("memory is shared")
	}
}

// P19.3, P19.7
func TestIntoTargets(t *testing.T) {
	if l, e := Targets(example()); !slices.Equal(l, []int{5, 9}) || e != api.OK {
		t.Error(l, e)
	}
	if l, e := Targets([]int{0}); len(l) > 0 || e != api.OK {
		t.Error(l, e)
	}
	for x, want := range map[[2]int][3]int{{5, 6}: {0, 2, 0}, {6, 9}: {0, 0, 4}, {0, 10}: {0, 3, 0}, {9, 10}: {2, 1, 0}, {0, 1}: {0, 0, 4}, {0, 1601}: {0, 3, 0}, {-1, 5}: {0, 0, 7}, {0, 1602}: {0, 0, 7}, {6, 5}: {0, 0, 7}, {5, 5}: {0, 0, 4}} {
		if r, n, e := Into(example(), x[0], x[1]); [3]int{r, n, int(e)} != want {
			t.Error(x, r, n, e)
		}
	}
	for cut := range 11 {
		_, n, _ := Into(example(), 0, cut)
		_, m, _ := Into(example(), cut, 1601)
		if n+m != 3 {
			t.Error(cut, n, m)
		}
	}
}

// P19.4
func TestMovesForward(t *testing.T) {
	var many []api.RtMove
	for i := range 2000 {
		many = append(many, api.RtMove{From: 1 + i%1600, To: 1})
	}
	for i, x := range []struct {
		l  []api.RtMove
		at int
		e  api.Errno
	}{{nil, 0, api.OK}, {many[:1600], 0, api.OK}, {many, 1600, api.ErrTwice}, {append(many, api.RtMove{}), -1, api.ErrLong}, {[]api.RtMove{{From: 5, To: 7}, {From: 5, To: 8}}, 1, api.ErrTwice}, {[]api.RtMove{{To: 7}}, 0, api.ErrRange}, {[]api.RtMove{{From: 7, To: 1601}}, 0, api.ErrRange}, {[]api.RtMove{{From: 7}}, 0, api.ErrRange}, {[]api.RtMove{{From: 1, To: 1}, {From: 1, To: -1}}, 1, api.ErrRange}} {
		at, e := Moves(x.l)
		if at != x.at || e != x.e {
			t.Error(i, at, e)
		}
		if out, n, e := Forward(example(), x.l); e != x.e || e != api.OK && len(out)+n > 0 {
			t.Error(i, out, n, e)
		}
	}
	for i, x := range []struct {
		l, want []int
		n       int
	}{{[]int{5, 7, 9, 5}, []int{7, 0, 5, 7}, 3}, {[]int{5, 5}, example(), 0}, {[]int{4, 6}, example(), 0}} {
		var l []api.RtMove
		for j := 0; j < len(x.l); j += 2 {
			l = append(l, api.RtMove{From: x.l[j], To: x.l[j+1]})
		}
		if out, n, e := Forward(example(), l); !slices.Equal(out, x.want) || n != x.n || e != api.OK {
			t.Error(i, out, n, e)
		}
	}
}

// P19.5, P19.6
func TestForwardTheorem(t *testing.T) {
	there := []api.RtMove{{From: 5, To: 20}, {From: 9, To: 30}, {From: 8, To: 40}}
	back := []api.RtMove{{From: 20, To: 5}, {From: 30, To: 9}, {From: 40, To: 8}}
	out, _, _ := Forward(example(), there)
	if out[0] != out[3] || out[0] == out[2] {
		t.Error(out)
	}
	if again, n, e := Forward(out, back); !slices.Equal(again, example()) || n != 3 || e != api.OK {
		t.Error(again, n, e)
	}
	second := []api.RtMove{{From: 20, To: 50}, {From: 9, To: 60}, {From: 6, To: 1}}
	joined := []api.RtMove{{From: 5, To: 50}, {From: 9, To: 30}, {From: 8, To: 40}, {From: 20, To: 50}, {From: 6, To: 1}}
	regs := []int{5, 20, 9, 6, 8, 0}
	one, _, _ := Forward(regs, there)
	one, _, _ = Forward(one, second)
	two, _, _ := Forward(regs, joined)
	if !slices.Equal(one, two) {
		t.Error(one, two)
	}
}
