package move

import (
	"math"
	"slices"
	"testing"

	"shunter/api"
	"shunter/objects"
)

// example has an object of P 1 and R 1 at 1, and one of P 1 at 5.
func example() []uint64 { return []uint64{0, 65793, 5, 9, 0, 257, 1, 0, 0, 0} }

// P14.1, P14.5, P14.6
func TestCopyMoved(t *testing.T) {
	w := example()
	v, n, e := Copy(w, 1, 7)
	if !slices.Equal(v, []uint64{0, 1794, 5, 9, 0, 257, 1, 65793, 5, 9}) || n != 3 || e != api.OK || !slices.Equal(w, example()) {
		t.Error(v, n, e)
	}
	for _, x := range []struct {
		w        []uint64
		from, to int
		e        api.Errno
	}{{w, 1, 8, api.ErrRange}, {w, 1, 0, api.ErrRange}, {w, 1, -1, api.ErrRange}, {w, 1, math.MaxInt, api.ErrRange}, {w, 1, 3, api.ErrTwice}, {w, 1, 1, api.ErrTwice}, {w, 5, 4, api.ErrTwice}, {w, 2, 7, api.ErrForm}, {w, 0, 7, api.ErrRange}, {nil, 1, 1, api.ErrLong}, {v, 1, 4, api.ErrForm}, {v, 7, 8, api.ErrRange}} {
		if v, n, e := Copy(x.w, x.from, x.to); len(v)+n > 0 || e != x.e {
			t.Error(x, v, n, e)
		}
	}
	if _, _, e := Copy(w, 1, 4); e != api.OK {
		t.Error("words side by side", e)
	}
	for a, want := range map[int]bool{1: true, 7: false, 4: false} {
		if m, e := Moved(v, a); m != want || e != api.OK {
			t.Error(a, m, e)
		}
	}
	for _, a := range []int{0, 10, -1} {
		if m, e := Moved(v, a); m || e != api.ErrRange {
			t.Error(a, m, e)
		}
	}
	if m, e := Moved([]uint64{2}, 1); m || e != api.ErrForm {
		t.Error(m, e)
	}
}

// P14.2
func TestResolve(t *testing.T) {
	v, _, _ := Copy(example(), 1, 7)
	for a, want := range map[int]int{1: 7, 5: 5, 0: 0, 7: 7} {
		if b, e := Resolve(v, a); b != want || e != api.OK {
			t.Error(a, b, e)
		}
	}
	round := []uint64{0, 2 + 256*2, 2 + 256*3, 2 + 256*1, 2 + 256*5, 2 + 256*6, 1, 2 + 256*9, 2 + 256*8}
	for _, x := range []struct {
		w []uint64
		a int
		e api.Errno
	}{{v, 2, api.ErrForm}, {v, 10, api.ErrRange}, {v, -1, api.ErrRange}, {nil, 0, api.ErrLong}, {round, 1, api.ErrForm}, {round, 7, api.ErrForm}, {round, 8, api.ErrForm}} {
		if b, e := Resolve(x.w, x.a); b != 0 || e != x.e {
			t.Error(x, b, e)
		}
	}
	if b, e := Resolve(round, 4); b != 6 || e != api.OK {
		t.Error(b, e)
	}
}

// P14.3, P14.7
func TestUpdateFields(t *testing.T) {
	v, _, _ := Copy(example(), 1, 7)
	u, changed, e := Update(v, 6)
	if u[6] != 7 || !changed || e != api.OK || v[6] != 1 {
		t.Error(u, changed, e)
	}
	again, changed, e := Update(u, 6)
	if !slices.Equal(again, u) || changed || e != api.OK {
		t.Error(again, changed, e)
	}
	fields, n, e := Fields(v, 5)
	if !slices.Equal(fields, u) || n != 1 || e != api.OK {
		t.Error(fields, n, e)
	}
	if same, n, e := Fields(u, 5); !slices.Equal(same, u) || n != 0 || e != api.OK {
		t.Error(same, n, e)
	}
	bad := example()
	bad[6], bad[8] = 10, math.MaxUint64
	for _, x := range []struct {
		w    []uint64
		slot int
		e    api.Errno
	}{{bad, 6, api.ErrForm}, {bad, 8, api.ErrForm}, {bad, 3, api.ErrForm}, {bad, 0, api.ErrRange}, {bad, 10, api.ErrRange}, {nil, 0, api.ErrLong}} {
		if v, changed, e := Update(x.w, x.slot); len(v) > 0 || changed || e != x.e {
			t.Error(x, v, changed, e)
		}
	}
	if v, changed, e := Update(bad, 4); !slices.Equal(v, bad) || changed || e != api.OK {
		t.Error(v, changed, e)
	}
	for a, want := range map[int]api.Errno{5: api.ErrForm, 2: api.ErrForm, 0: api.ErrRange} {
		if v, n, e := Fields(bad, a); len(v)+n > 0 || e != want {
			t.Error(a, v, n, e)
		}
	}
}

// P14.4, P14.6
func TestAll(t *testing.T) {
	one := api.MvMove{From: 1, To: 7, Words: 3}
	v, n, at, e := All(example(), []api.MvMove{one, {From: 5, To: 3, Words: 2}})
	if !slices.Equal(v, []uint64{0, 1794, 5, 257, 1, 770, 1, 65793, 5, 9}) || n != 5 || at != 0 || e != api.OK {
		t.Error(v, n, at, e)
	}
	for _, x := range []struct {
		w  []uint64
		l  []api.MvMove
		at int
		e  api.Errno
	}{{example(), []api.MvMove{one, one}, 1, api.ErrForm}, {example(), []api.MvMove{{From: 1, To: 7, Words: 2}}, 0, api.ErrArg}, {example(), []api.MvMove{one, {From: 5, To: 99, Words: 7}}, 1, api.ErrRange}, {nil, make([]api.MvMove, 201), -1, api.ErrLong}, {[]uint64{1}, make([]api.MvMove, 201), -1, api.ErrForm}, {example(), make([]api.MvMove, 201), -1, api.ErrLong}, {example(), make([]api.MvMove, 200), 0, api.ErrRange}} {
		if v, n, at, e := All(x.w, x.l); len(v)+n > 0 || at != x.at || e != x.e {
			t.Error(x.l, v, n, at, e)
		}
	}
	if v, n, at, e := All(example(), nil); !slices.Equal(v, example()) || n+at != 0 || e != api.OK {
		t.Error(v, n, at, e)
	}
	v[1] = 99
	empty := []uint64{0, 1, 5}
	v, _, e = Fields(empty, 1)
	v[2] = 99
	if empty[2] != 5 || e != api.OK {
		t.Error("memory is shared", e)
	}
	whole := example()
	v, _, _, _ = All(whole, nil)
	v[2] = 99
	if !slices.Equal(whole, example()) {
		t.Error("memory is shared")
	}
	twice := append(example(), 0, 0, 0)
	v, _, _, e = All(twice, []api.MvMove{one, {From: 7, To: 10, Words: 3}})
	b, e2 := Resolve(v, 1)
	s, e3 := objects.Shape(v, b)
	if b != 10 || s != (api.Shape{P: 1, R: 1}) || e+e2+e3 != api.OK {
		t.Error(b, s, e, e2, e3)
	}
}
