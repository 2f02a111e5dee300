package arena

import (
	"math"
	"slices"
	"testing"

	"shunter/api"
)

func example() []uint64 { return []uint64{0, 1, 2, 3, 4, 5} }

// P3.1, and the error of Check of all functions
func TestNewCheck(t *testing.T) {
	w, e := New(api.Config{C: 8, N: 7, S: 4, K: 1, Q: 2})
	if zero, _ := Zero(w, 1, len(w)); len(w) != 61 || !zero || w[0] != 0 || e != api.OK {
		t.Error(w, e)
	}
	if w, e := New(api.Config{}); len(w) != 0 || e != api.ErrRange {
		t.Error(w, e)
	}
	good := example()
	for _, x := range []struct {
		w []uint64
		e api.Errno
	}{{nil, api.ErrLong}, {make([]uint64, 1602), api.ErrLong}, {[]uint64{1, 0}, api.ErrForm}} {
		if e := Check(x.w); e != x.e {
			t.Error(e)
		}
		_, e1 := Get(x.w, 0)
		_, e2 := Set(x.w, 0, 1)
		_, e3 := Copy(x.w, 0, 0, 0)
		_, e4 := Clear(x.w, 0, 0)
		_, _, _, at, e5 := Play(x.w, make([]api.ArOp, 501))
		_, e6 := Zero(x.w, 0, 0)
		_, e7 := Differ(x.w, good)
		_, e8 := Differ(good, x.w)
		if !slices.Equal([]api.Errno{e1, e2, e3, e4, e5, e6, e7, e8}, slices.Repeat([]api.Errno{x.e}, 8)) || at != 0 {
			t.Error(e1, e2, e3, e4, e5, e6, e7, e8, at)
		}
	}
	if Check(make([]uint64, 1601)) != api.OK || Check(make([]uint64, 1)) != api.OK {
		t.Error("the limits")
	}
}

// P3.2
func TestGetSet(t *testing.T) {
	w := example()
	for a, want := range map[int]uint64{0: 0, 1: 1, 5: 5, 6: 0, -1: 0} {
		v, e := Get(w, a)
		u, e2 := Set(w, a, 77)
		if a >= 1 && a <= 5 {
			if v != want || e != api.OK || e2 != api.OK || u[a] != 77 {
				t.Error(a, v, e, u, e2)
			}
		} else if v != 0 || e != api.ErrRange || len(u) != 0 || e2 != api.ErrRange {
			t.Error(a, v, e, u, e2)
		}
	}
	if !slices.Equal(w, example()) {
		t.Error("the argument was changed")
	}
}

// P3.3
func TestCopyClear(t *testing.T) {
	w := example()
	for _, x := range []struct {
		from, to, n int
		want        []uint64
	}{{1, 2, 3, []uint64{0, 1, 1, 2, 3, 5}}, {2, 1, 3, []uint64{0, 2, 3, 4, 4, 5}}, {6, 6, 0, example()}, {6, 7, 0, nil}, {0, 1, 1, nil}, {1, 0, 1, nil}, {1, 2, -1, nil}, {1, 3, 4, nil}, {3, 1, 4, nil}, {1, 1, math.MaxInt, nil}, {math.MinInt, 1, 1, nil}} {
		v, e := Copy(w, x.from, x.to, x.n)
		if !slices.Equal(v, x.want) || (e == api.OK) != (x.want != nil) || e != api.OK && e != api.ErrRange {
			t.Error(x, v, e)
		}
	}
	for _, x := range []struct {
		a, n int
		want []uint64
	}{{4, 2, []uint64{0, 1, 2, 3, 0, 0}}, {6, 0, example()}, {5, 2, nil}, {7, 0, nil}, {0, 1, nil}, {1, -1, nil}, {2, math.MaxInt, nil}} {
		v, e := Clear(w, x.a, x.n)
		if !slices.Equal(v, x.want) || (e == api.OK) != (x.want != nil) || e != api.OK && e != api.ErrRange {
			t.Error(x, v, e)
		}
	}
	if !slices.Equal(w, example()) {
		t.Error("the argument was changed")
	}
}

// P3.4, P3.7
func TestPlay(t *testing.T) {
	l := []api.ArOp{{Kind: api.ArSet, At: 1, Value: 9}, {Kind: api.ArCopy, At: 1, To: 4, N: 2}, {Kind: api.ArGet, At: 4, N: -7, To: 99}}
	v, got, count, at, e := Play(example(), l)
	if !slices.Equal(v, []uint64{0, 9, 2, 3, 9, 2}) || !slices.Equal(got, []uint64{9}) || count != (api.ArCount{Reads: 3, Writes: 3}) || at != 0 || e != api.OK {
		t.Error(v, got, count, at, e)
	}
	u, got1, c1, _, _ := Play(example(), l[:1])
	u, got2, c2, _, _ := Play(u, l[1:])
	if !slices.Equal(u, v) || !slices.Equal(slices.Concat(got1, got2), got) || c1.Reads+c2.Reads != count.Reads || c1.Writes+c2.Writes != count.Writes {
		t.Error("two parts differ from one play")
	}
	if _, _, count, _, _ := Play(example(), []api.ArOp{{Kind: api.ArClear, At: 2, N: 3}}); count != (api.ArCount{Writes: 3}) {
		t.Error(count)
	}
	for _, x := range []struct {
		l  []api.ArOp
		at int
		e  api.Errno
	}{{make([]api.ArOp, 501), -1, api.ErrLong}, {[]api.ArOp{l[0], {Kind: 5}}, 1, api.ErrArg}, {[]api.ArOp{l[0], l[1], {Kind: api.ArGet}}, 2, api.ErrRange}, {[]api.ArOp{{Kind: api.ArClear, At: 5, N: 2}, {}}, 0, api.ErrRange}, {slices.Repeat(l[2:], 500), 0, api.OK}} {
		v, got, count, at, e := Play(example(), x.l)
		if at != x.at || e != x.e || e != api.OK && (len(v) > 0 || len(got) > 0 || count != (api.ArCount{})) {
			t.Error(v, got, count, at, e)
		}
	}
}

// P3.5
func TestZeroDiffer(t *testing.T) {
	w := []uint64{0, 0, 0, 3}
	for _, x := range []struct {
		from, to int
		zero     bool
		e        api.Errno
	}{{1, 1, true, api.OK}, {1, 3, true, api.OK}, {1, 4, false, api.OK}, {4, 4, true, api.OK}, {4, 5, false, api.ErrRange}, {5, 5, false, api.ErrRange}, {0, 1, false, api.ErrRange}, {2, 1, false, api.ErrRange}, {1, math.MinInt, false, api.ErrRange}} {
		if zero, e := Zero(w, x.from, x.to); zero != x.zero || e != x.e {
			t.Error(x, zero, e)
		}
	}
	v, _ := Copy(example(), 1, 2, 3)
	if l, e := Differ(example(), v); !slices.Equal(l, []int{2, 3, 4}) || e != api.OK {
		t.Error(l, e)
	}
	if l, e := Differ(example(), w); len(l) > 0 || e != api.ErrForm {
		t.Error(l, e)
	}
}

// P3.6, P3.8
func TestLastWrite(t *testing.T) {
	w := make([]uint64, 20)
	seed := 7
	next := func(n int) int {
		seed = (seed*1103515245 + 12345) & 0x7fffffff
		return seed / 8 % n
	}
	for range 500 {
		op := api.ArOp{Kind: 2 + next(3), At: 1 + next(16), To: 1 + next(16), N: next(4), Value: uint64(next(100))}
		want := slices.Clone(w)
		for i := range op.N {
			switch op.Kind {
			case api.ArCopy:
				want[op.To+i] = w[op.At+i]
			case api.ArClear:
				want[op.At+i] = 0
			}
		}
		if op.Kind == api.ArSet {
			want[op.At] = op.Value
		}
		before := slices.Clone(w)
		v, _, _, _, e := Play(w, []api.ArOp{op})
		if !slices.Equal(v, want) || e != api.OK || !slices.Equal(w, before) {
			t.Fatal(op, w, v, e)
		}
		w = v
	}
}
