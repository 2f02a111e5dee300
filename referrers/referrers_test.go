package referrers

import (
	"math"
	"slices"
	"testing"

	"shunter/api"
	"shunter/slots"
)

func example() ([]uint64, api.SlSet) {
	w := make([]uint64, 20)
	w[3], w[4], w[5] = 9, 9, 7
	s, _ := slots.Of([]int{3, 4, 5, 6})
	return w, s
}

var counts = []api.RfCount{{Target: 7, N: 1}, {Target: 9, N: 2}, {Target: 12, N: 2}}

// P9.1, and the error of Check of the other functions
func TestCheck(t *testing.T) {
	long := make([]api.RfCount, 1601)
	full := make([]api.RfCount, 1600)
	for i := range full {
		full[i] = api.RfCount{Target: i + 1, N: 1600}
	}
	for i, x := range []struct {
		l  []api.RfCount
		at int
		e  api.Errno
	}{{nil, 0, api.OK}, {counts, 0, api.OK}, {full, 0, api.OK}, {long, -1, api.ErrLong}, {[]api.RfCount{{Target: 0, N: 1}}, 0, api.ErrRange}, {[]api.RfCount{{Target: 1, N: 1}, {Target: 1601, N: 1}}, 1, api.ErrRange}, {[]api.RfCount{{Target: 1, N: 0}}, 0, api.ErrRange}, {[]api.RfCount{{Target: 1, N: 1601}}, 0, api.ErrRange}, {[]api.RfCount{{Target: 5, N: 1}, {Target: 5, N: 1}}, 1, api.ErrForm}, {[]api.RfCount{{Target: 5, N: 1}, {Target: 4, N: 0}}, 1, api.ErrRange}} {
		at, e := Check(x.l)
		if at != x.at || e != x.e {
			t.Error(i, at, e)
		}
		if e == api.OK {
			continue
		}
		p, e1 := Popular(x.l, 0)
		m, e2 := Most(x.l)
		g, e3 := Merge(x.l, nil)
		h, e4 := Merge(counts, x.l)
		w, e5 := Within(x.l, 1, 9)
		if !slices.Equal([]api.Errno{e1, e2, e3, e4, e5}, slices.Repeat([]api.Errno{x.e}, 5)) || len(p)+len(g)+len(h)+len(w) > 0 || m != (api.RfCount{}) {
			t.Error(i, e1, e2, e3, e4, e5)
		}
	}
}

// P9.2, P9.5
func TestCounts(t *testing.T) {
	w, s := example()
	l, e := Counts(w, s)
	if !slices.Equal(l, counts[:2]) || e != api.OK {
		t.Error(l, e)
	}
	for a, want := range map[int][]int{9: {3, 4}, 7: {5}, 8: nil, 1600: nil} {
		n, e := Of(w, s, a)
		h, e2 := Holders(w, s, a)
		if n != len(want) || !slices.Equal(h, want) || e+e2 != api.OK {
			t.Error(a, n, h, e, e2)
		}
	}
	for _, a := range []int{0, -1, 1601, math.MinInt} {
		n, e := Of(w, s, a)
		h, e2 := Holders(w, s, a)
		if n+len(h) != 0 || e != api.ErrRange || e2 != api.ErrRange {
			t.Error(a, e, e2)
		}
	}
	beyond, _ := slots.Of([]int{20})
	large := slices.Clone(w)
	large[6] = 1601
	for i, x := range []struct {
		w []uint64
		s api.SlSet
		e api.Errno
	}{{w, beyond, api.ErrRange}, {large, s, api.ErrRange}, {nil, s, api.ErrRange}, {make([]uint64, 1602), api.SlSet{}, api.ErrLong}, {w, api.SlSet{}, api.ErrForm}} {
		l, e := Counts(x.w, x.s)
		n, e2 := Of(x.w, x.s, 0)
		h, e3 := Holders(x.w, x.s, 0)
		if e != x.e || e2 != x.e || e3 != x.e || n+len(h)+len(l) > 0 {
			t.Error(i, e, e2, e3)
		}
	}
	if l, e := Counts(make([]uint64, 1601), s); len(l) > 0 || e != api.OK {
		t.Error(l, e)
	}
	if l, e := Counts(nil, slots.New()); len(l) > 0 || e != api.OK {
		t.Error(l, e)
	}
	large[6] = 1600
	if l, e := Counts(large, s); len(l) != 3 || e != api.OK {
		t.Error(l, e)
	}
}

// P9.3, P9.7
func TestPopularMost(t *testing.T) {
	for q, want := range map[int][]int{1: {7, 9, 12}, 2: {9, 12}, 3: nil, 1600: nil} {
		if l, e := Popular(counts, q); !slices.Equal(l, want) || e != api.OK {
			t.Error(q, l, e)
		}
	}
	for _, q := range []int{0, -1, 1601} {
		if l, e := Popular(counts, q); len(l) > 0 || e != api.ErrRange {
			t.Error(q, l, e)
		}
	}
	if m, e := Most(counts); m != counts[1] || e != api.OK {
		t.Error(m, e)
	}
	if m, e := Most(nil); m != (api.RfCount{}) || e != api.ErrNone {
		t.Error(m, e)
	}
}

// P9.4
func TestMergeWithin(t *testing.T) {
	l, e := Merge(counts, []api.RfCount{{Target: 1, N: 5}, {Target: 9, N: 3}})
	if !slices.Equal(l, []api.RfCount{{Target: 1, N: 5}, {Target: 7, N: 1}, {Target: 9, N: 5}, {Target: 12, N: 2}}) || e != api.OK || counts[1].N != 2 {
		t.Error(l, e)
	}
	if l, e := Merge([]api.RfCount{{Target: 3, N: 1599}}, []api.RfCount{{Target: 3, N: 1}}); !slices.Equal(l, []api.RfCount{{Target: 3, N: 1600}}) || e != api.OK {
		t.Error(l, e)
	}
	if l, e := Merge([]api.RfCount{{Target: 3, N: 1600}}, []api.RfCount{{Target: 3, N: 1}}); len(l) > 0 || e != api.ErrRange {
		t.Error(l, e)
	}
	for x, want := range map[[2]int][]api.RfCount{{7, 9}: counts[:1], {8, 13}: counts[1:], {9, 9}: nil, {math.MinInt, math.MaxInt}: counts} {
		if l, e := Within(counts, x[0], x[1]); !slices.Equal(l, want) || e != api.OK {
			t.Error(x, l, e)
		}
	}
}

// P9.5, P9.6
func TestTheorem(t *testing.T) {
	w := make([]uint64, 60)
	var even, odd, all []int
	for i := 1; i < 60; i++ {
		w[i] = uint64(i * i % 7)
		all = append(all, i)
		if i%2 == 0 {
			even = append(even, i)
		} else {
			odd = append(odd, i)
		}
	}
	a, _ := slots.Of(even)
	b, _ := slots.Of(odd)
	s, _ := slots.Of(all)
	l, _ := Counts(w, a)
	m, _ := Counts(w, b)
	n, _ := Counts(w, s)
	if both, e := Merge(l, m); !slices.Equal(both, n) || e != api.OK {
		t.Error(both, e)
	}
	sum := 0
	for _, x := range n {
		of, _ := Of(w, s, x.Target)
		if of != x.N {
			t.Error(x, of)
		}
		sum += x.N
	}
	for _, slot := range all {
		if w[slot] != 0 {
			sum--
		}
	}
	if sum != 0 {
		t.Error(sum)
	}
}
