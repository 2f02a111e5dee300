package admit

import (
	"math"
	"slices"
	"testing"

	"shunter/api"
	"shunter/config"
)

var sizes = api.Config{C: 8, N: 7, S: 4, K: 1, Q: 2}

// P26.1, and the first errors of all functions
func TestCheck(t *testing.T) {
	for i, x := range []struct {
		c              api.Config
		occupied, left int
		e, alone       api.Errno
	}{{sizes, 0, 4, api.OK, api.OK}, {sizes, 60, 4, api.OK, api.OK}, {sizes, 60, 0, api.OK, api.OK}, {api.Config{}, 0, 4, api.ErrRange, api.ErrRange}, {sizes, -1, 4, api.ErrRange, api.ErrRange}, {sizes, 61, 4, api.ErrRange, api.ErrRange}, {sizes, 4, 5, api.ErrRange, api.OK}, {sizes, 4, -1, api.ErrRange, api.OK}, {sizes, 1, 2, api.ErrRange, api.OK}, {sizes, math.MaxInt, 4, api.ErrRange, api.ErrRange}, {sizes, 4, math.MinInt, api.ErrRange, api.OK}} {
		if e := Check(x.c, x.occupied, x.left); e != x.e {
			t.Error(i, e)
		}
		_, a1 := Slack(x.c, x.occupied)
		_, a2 := Cars(x.c, x.occupied)
		if a1 != x.alone || a2 != x.alone {
			t.Error(i, a1, a2)
		}
		if x.e == api.OK {
			continue
		}
		k, e1 := Admit(x.c, x.occupied, x.left, 99)
		e2 := After(x.c, x.occupied, x.left, 99)
		n, e3 := Most(x.c, x.occupied, x.left)
		d, e4 := Run(x.c, x.occupied, x.left, make([]int, 201))
		if !slices.Equal([]api.Errno{e1, e2, e3, e4}, slices.Repeat([]api.Errno{x.e}, 4)) || k+n+d != 0 {
			t.Error(i, e1, e2, e3, e4)
		}
	}
}

// P26.2
func TestAdmitAfter(t *testing.T) {
	for _, x := range []struct {
		occupied, left, n, kind int
		e, after                api.Errno
	}{{0, 4, 4, api.AdNow, 0, 0}, {1, 4, 4, api.AdPause, 0, api.ErrFull}, {0, 3, 4, 0, api.ErrRange, api.ErrRange}, {1, 3, 3, api.AdNow, 0, 0}, {1, 3, 4, api.AdPause, 0, api.ErrFull}, {0, 4, 5, 0, api.ErrTooLarge, api.ErrTooLarge}, {0, 4, 0, 0, api.ErrRange, api.ErrRange}, {0, 4, math.MinInt, 0, api.ErrRange, api.ErrRange}, {0, 4, math.MaxInt, 0, api.ErrTooLarge, api.ErrTooLarge}, {4, 4, 1, api.AdPause, 0, api.ErrFull}, {3, 4, 1, api.AdNow, 0, 0}} {
		kind, e := Admit(sizes, x.occupied, x.left, x.n)
		after := After(sizes, x.occupied, x.left, x.n)
		if kind != x.kind || e != x.e || after != x.after {
			t.Error(x, kind, e, after)
		}
	}
}

// P26.3, P26.5
func TestNumbers(t *testing.T) {
	for x, want := range map[[2]int]int{{1, 3}: 3, {4, 4}: 0, {0, 4}: 4, {9, 4}: 0, {3, 4}: 1} {
		if n, e := Most(sizes, x[0], x[1]); n != want || e != api.OK {
			t.Error(x, n, e)
		}
	}
	for occupied, want := range map[int]int{1: 3, 9: 0, 4: 0, 0: 4} {
		if n, e := Slack(sizes, occupied); n != want || e != api.OK {
			t.Error(occupied, n, e)
		}
	}
	for occupied, want := range map[int]int{4: 6, 0: 5, 3: 5, 60: 20} {
		if n, e := Cars(sizes, occupied); n != want || e != api.OK {
			t.Error(occupied, n, e)
		}
	}
}

// P26.4, P26.8
func TestRun(t *testing.T) {
	for i, x := range []struct {
		l    []int
		done int
		e    api.Errno
	}{{[]int{1, 2, 1}, 3, api.OK}, {[]int{3, 2}, 1, api.ErrFull}, {nil, 0, api.OK}, {make([]int, 201), 0, api.ErrLong}, {make([]int, 200), 0, api.ErrRange}, {[]int{1, 5}, 1, api.ErrTooLarge}, {[]int{1, 1, -1}, 2, api.ErrRange}} {
		if done, e := Run(sizes, 0, 4, x.l); done != x.done || e != x.e {
			t.Error(i, done, e)
		}
	}
}

// P26.6, P26.7, P26.8
func TestRoomAndOrder(t *testing.T) {
	for _, c := range []api.Config{sizes, {C: 9, N: 8, S: 10, K: 1, Q: 2}, {C: 16, N: 12, S: 7, K: 1, Q: 2}} {
		budget, _ := config.Budget(c)
		largest, _ := config.Largest(c)
		for occupied := range c.N*c.C + c.S + 1 {
			cars, _ := Cars(c, occupied)
			if 2*occupied <= budget && cars > c.N-1 {
				t.Fatal(c, occupied, cars)
			}
			slack, _ := Slack(c, occupied)
			for left := max(0, c.S-occupied); left <= c.S; left++ {
				most, _ := Most(c, occupied, left)
				if most > min(slack, left) {
					t.Fatal(most, slack, left)
				}
				for n := 1; n <= largest; n++ {
					if kind, _ := Admit(c, occupied, left, n); (kind == api.AdNow) != (n <= most) {
						t.Fatal(c, occupied, left, n, most)
					}
				}
			}
		}
	}
}
