package config

import (
	"math"
	"testing"

	"shunter/api"
)

var small = api.Config{C: 8, N: 7, S: 4, K: 1, Q: 2}

var sizes = []api.Config{small, {C: 8, N: 9, S: 6, K: 2, Q: 2}, {C: 9, N: 8, S: 64, K: 8, Q: 16}, {C: 64, N: 24, S: 64, K: 8, Q: 16}, {C: 17, N: 13, S: 5, K: 3, Q: 4}}

var bad = []api.Config{{}, {C: 7, N: 7, S: 4, K: 1, Q: 2}, {C: 65, N: 7, S: 4, K: 1, Q: 2}, {C: 8, N: 6, S: 4, K: 1, Q: 2}, {C: 8, N: 25, S: 4, K: 1, Q: 2}, {C: 8, N: 7, S: 3, K: 1, Q: 2}, {C: 8, N: 7, S: 65, K: 1, Q: 2}, {C: 8, N: 7, S: 4, K: 0, Q: 2}, {C: 8, N: 7, S: 4, K: 9, Q: 2}, {C: 8, N: 7, S: 4, K: 1, Q: 1}, {C: 8, N: 7, S: 4, K: 1, Q: 17}, {C: math.MaxInt, N: math.MaxInt, S: math.MinInt, K: 1, Q: 2}}

// P2.1, and the error of Check of all functions
func TestCheck(t *testing.T) {
	for _, c := range sizes {
		if Check(c) != api.OK {
			t.Error(c)
		}
	}
	for _, c := range bad {
		if Check(c) != api.ErrRange {
			t.Error(c)
		}
		for i, f := range []func() (int, api.Errno){
			func() (int, api.Errno) { return Words(c) },
			func() (int, api.Errno) { return Largest(c) },
			func() (int, api.Errno) { return Budget(c) },
			func() (int, api.Errno) { return Bound(c) },
			func() (int, api.Errno) { s, n, e := Space(c, 0); return s + n, e },
			func() (int, api.Errno) { return Car(c, 1) },
			func() (int, api.Errno) { s, n, e := Place(c, 1); return s + n, e },
			func() (int, api.Errno) { return Address(c, 0, 0) },
			func() (int, api.Errno) { s, e := Print(c); return len(s), e },
			func() (int, api.Errno) {
				ok, e := Fits(c, 1)
				if ok {
					return 1, e
				}
				return 0, e
			},
		} {
			if n, e := f(); n != 0 || e != api.ErrRange {
				t.Errorf("function %d of %v: %d, %d", i, c, n, e)
			}
		}
	}
}

// P2.2
func TestNumbers(t *testing.T) {
	for i, f := range []func(api.Config) (int, api.Errno){Words, Largest, Budget, Bound} {
		want := []int{61, 4, 8, 3648}[i]
		if n, e := f(small); n != want || e != api.OK {
			t.Errorf("%d: %d, %d", i, n, e)
		}
	}
	if n, _ := Largest(sizes[4]); n != 5 {
		t.Error("the nursery limits objects", n)
	}
	if n, _ := Largest(sizes[2]); n != 4 {
		t.Error("half of 9", n)
	}
}

// P2.3
func TestSpaces(t *testing.T) {
	for _, x := range []struct {
		car, start, end int
		e               api.Errno
	}{{-1, 1, 5, api.OK}, {0, 5, 13, api.OK}, {6, 53, 61, api.OK}, {7, 0, 0, api.ErrRange}, {-2, 0, 0, api.ErrRange}, {math.MaxInt, 0, 0, api.ErrRange}} {
		if s, n, e := Space(small, x.car); s != x.start || n != x.end || e != x.e {
			t.Errorf("Space(%d): %d, %d, %d", x.car, s, n, e)
		}
	}
	for _, x := range []struct {
		a, car, offset int
		e              api.Errno
	}{{4, -1, 3, api.OK}, {5, 0, 0, api.OK}, {60, 6, 7, api.OK}, {61, 0, 0, api.ErrRange}, {0, 0, 0, api.ErrRange}, {-1, 0, 0, api.ErrRange}} {
		if car, offset, e := Place(small, x.a); car != x.car || offset != x.offset || e != x.e {
			t.Errorf("Place(%d): %d, %d, %d", x.a, car, offset, e)
		}
		if car, e := Car(small, x.a); car != x.car || e != x.e {
			t.Errorf("Car(%d): %d, %d", x.a, car, e)
		}
	}
	for _, x := range []struct {
		car, offset, a int
		e              api.Errno
	}{{1, 7, 20, api.OK}, {-1, 4, 0, api.ErrRange}, {-1, 3, 4, api.OK}, {0, 8, 0, api.ErrRange}, {0, -1, 0, api.ErrRange}, {7, 0, 0, api.ErrRange}, {0, math.MaxInt, 0, api.ErrRange}} {
		if a, e := Address(small, x.car, x.offset); a != x.a || e != x.e {
			t.Errorf("Address(%d, %d): %d, %d", x.car, x.offset, a, e)
		}
	}
}

// P2.4
func TestFits(t *testing.T) {
	for n, want := range map[int]bool{0: false, 1: true, 4: true, 5: false, -1: false, math.MinInt: false} {
		if ok, e := Fits(small, n); ok != want || e != api.OK {
			t.Error(n, ok, e)
		}
	}
}

// P2.5, P2.8
func TestText(t *testing.T) {
	const text = "cars 7 of 8 nursery 4 registers 1 popular 2"
	if s, e := Print(small); s != text || e != api.OK {
		t.Error(s, e)
	}
	for _, c := range sizes {
		s, _ := Print(c)
		if d, e := Parse(s); d != c || e != api.OK {
			t.Error(s, d, e)
		}
	}
	for s, want := range map[string]api.Errno{"": api.ErrForm, text + " ": api.ErrForm, " " + text: api.ErrForm, "cars 7 of 8 nursery 4 registers 1 popular": api.ErrForm, "cars 07 of 8 nursery 4 registers 1 popular 2": api.ErrForm, "cars 99 of 8 nursery 4 registers 1 popular x": api.ErrForm, "car 7 of 8 nursery 4 registers 1 popular 2": api.ErrForm, "cars 7  of 8 nursery 4 registers 1 popular 2": api.ErrForm, "cars 6 of 8 nursery 4 registers 1 popular 2": api.ErrRange, "cars 7 of 8 nursery 4 registers 1 popular 99999999999999999999": api.ErrRange, "cars 7 of 8 nursery 4 registers 1 popular -2": api.ErrRange} {
		if c, e := Parse(s); c != (api.Config{}) || e != want {
			t.Error(s, c, e)
		}
	}
}

// P2.6
func TestSpacesSideBySide(t *testing.T) {
	for _, c := range sizes {
		next := 1
		for car := -1; car < c.N; car++ {
			start, end, e := Space(c, car)
			if start != next || end <= start || e != api.OK {
				t.Fatal(c, car, start, end, e)
			}
			for a := start; a < end; a++ {
				at, offset, _ := Place(c, a)
				if b, e := Address(c, at, offset); at != car || offset != a-start || b != a || e != api.OK {
					t.Fatal(c, a, at, offset, b)
				}
			}
			next = end
		}
		if n, _ := Words(c); n != next {
			t.Error(c, n, next)
		}
	}
}

// P2.7
func TestRoom(t *testing.T) {
	for _, c := range sizes {
		budget, _ := Budget(c)
		largest, _ := Largest(c)
		bound, _ := Bound(c)
		if budget < c.C || budget > c.N*c.C-6*c.C || largest > c.S || 2*largest > c.C {
			t.Error(c, budget, largest)
		}
		c.N++
		if c.N <= api.MaxCars {
			more, _ := Budget(c)
			greater, _ := Bound(c)
			if more <= budget || greater <= bound {
				t.Error(c)
			}
		}
	}
}
