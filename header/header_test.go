package header

import (
	"math"
	"slices"
	"testing"

	"shunter/api"
)

// P4.1
func TestCheckSizePack(t *testing.T) {
	for s, want := range map[api.Shape]api.Errno{{P: 40, R: 24}: api.ErrTooLarge, {P: -1}: api.ErrRange, {R: -1}: api.ErrRange, {P: -1, R: 99}: api.ErrRange, {P: math.MaxInt, R: math.MaxInt}: api.ErrTooLarge, {P: math.MaxInt, R: 1}: api.ErrTooLarge, {P: 64}: api.ErrTooLarge, {R: math.MinInt}: api.ErrRange} {
		size, e := Size(s)
		v, e2 := Pack(s)
		if Check(s) != want || e != want || e2 != want || size != 0 || v != 0 {
			t.Error(s, size, e, v, e2)
		}
	}
	for s, want := range map[api.Shape]uint64{{P: 2, R: 1}: 66049, {}: 1, {P: 63}: 1 + 256*63, {R: 63}: 1 + 65536*63} {
		size, e := Size(s)
		v, e2 := Pack(s)
		if Check(s) != api.OK || e != api.OK || e2 != api.OK || size != 1+s.P+s.R || v != want {
			t.Error(s, size, e, v, e2)
		}
	}
}

// P4.2
func TestKindShape(t *testing.T) {
	for v, want := range map[uint64]int{1: api.HdObject, 1282: api.HdForwarded, 0: api.HdNone, 16777217: api.HdNone, 66048: api.HdNone, 66051: api.HdNone, 2: api.HdNone, 2 + 256*1600: api.HdForwarded, 2 + 256*1601: api.HdNone, 1 + 256*64: api.HdNone, 1 + 65536*64: api.HdNone, 1 + 256*63 + 65536: api.HdNone, math.MaxUint64: api.HdNone, 1<<63 + 1: api.HdNone, 1<<63 + 2 + 256: api.HdNone, 3: api.HdNone} {
		if Kind(v) != want {
			t.Errorf("Kind(%d): %d", v, Kind(v))
		}
		s, e := Shape(v)
		a, e2 := Target(v)
		if (e == api.OK) != (want == api.HdObject) || e != api.OK && (e != api.ErrForm || s != api.Shape{}) {
			t.Error(v, s, e)
		}
		if (e2 == api.OK) != (want == api.HdForwarded) || e2 != api.OK && (e2 != api.ErrForm || a != 0) {
			t.Error(v, a, e2)
		}
	}
	if s, e := Shape(66049); s != (api.Shape{P: 2, R: 1}) || e != api.OK {
		t.Error(s, e)
	}
}

// P4.3
func TestForwardTarget(t *testing.T) {
	for _, a := range []int{0, -1, 1601, math.MaxInt, math.MinInt} {
		if v, e := Forward(a); v != 0 || e != api.ErrRange {
			t.Error(a, v, e)
		}
	}
	if v, e := Forward(5); v != 1282 || e != api.OK {
		t.Error(v, e)
	}
	if a, e := Target(1282); a != 5 || e != api.OK {
		t.Error(a, e)
	}
	if a, e := Target(2); a != 0 || e != api.ErrForm {
		t.Error(a, e)
	}
}

// P4.4, P4.5, P4.6, P4.7
func TestAll(t *testing.T) {
	seen := map[uint64]bool{0: true}
	shapes := 0
	for n := 1; n <= api.MaxCar; n++ {
		l, e := Shapes(n)
		if len(l) != n || e != api.OK || !slices.IsSortedFunc(l, func(a, b api.Shape) int { return a.P - b.P }) {
			t.Error(n, l, e)
		}
		for _, s := range l {
			v, _ := Pack(s)
			size, _ := Size(s)
			back, e := Shape(v)
			if size != n || back != s || e != api.OK || seen[v] || Kind(v) != api.HdObject {
				t.Fatal(s, v, back, e)
			}
			seen[v] = true
			shapes++
		}
	}
	if shapes != 2080 {
		t.Error(shapes)
	}
	for a := 1; a <= api.MaxAddress; a++ {
		v, _ := Forward(a)
		if back, e := Target(v); back != a || e != api.OK || seen[v] || Kind(v) != api.HdForwarded {
			t.Fatal(a, v, back, e)
		}
		seen[v] = true
	}
	for v := range uint64(1 << 22) {
		if (Kind(v) != api.HdNone) != (seen[v] && v != 0) {
			t.Fatal(v)
		}
	}
	for _, n := range []int{0, 65, -1} {
		if l, e := Shapes(n); len(l) > 0 || e != api.ErrRange {
			t.Error(n, l, e)
		}
	}
	if l, _ := Shapes(2); !slices.Equal(l, []api.Shape{{P: 0, R: 1}, {P: 1, R: 0}}) {
		t.Error(l)
	}
}
