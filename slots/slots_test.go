package slots

import (
	"math"
	"slices"
	"testing"

	"shunter/api"
)

func of(cells ...int) api.SlSet { return api.SlSet{Cells: cells} }

// P7.1, and the error of Check of all functions
func TestNewCheck(t *testing.T) {
	if s := New(); !slices.Equal(s.Cells, make([]int, 8)) {
		t.Error(s)
	}
	for _, x := range []struct {
		s    api.SlSet
		cell int
		e    api.Errno
	}{{New(), 0, api.OK}, {of(make([]int, 8193)...), -1, api.ErrLong}, {of(make([]int, 16384)...), -1, api.ErrLong}, {of(make([]int, 8192)...), 0, api.OK}, {of(), -1, api.ErrForm}, {of(0, 0, 0, 0), -1, api.ErrForm}, {of(make([]int, 9)...), -1, api.ErrForm}, {of(make([]int, 12)...), -1, api.ErrForm}, {of(0, -2, 0, 0, 0, 0, 0, 1601), 1, api.ErrRange}, {of(0, 0, 0, 0, 0, 0, 0, 1601), 7, api.ErrRange}, {of(5, 0, 0, 5, 0, -2, 0, 0), 3, api.ErrTwice}, {of(-1, -1, -1, -1, -1, -1, -1, 0), -1, api.ErrFull}, {of(-1, -1, -1, -1, -1, -1, 0, 0), 0, api.OK}, {of(1, 0, 0, 0, 0, 0, 0, 0), 0, api.ErrForm}, {of(1, 0, 0, 0, 0, 0, 0, -1), 0, api.OK}, {of(1, 0, 0, 1, 0, 0, 0, -1), 3, api.ErrTwice}, {of(1, 2, 3, 4, 5, 6, 7, 0), -1, api.ErrFull}} {
		cell, e := Check(x.s)
		if cell != x.cell || e != x.e {
			t.Error(x, cell, e)
		}
		if e == api.OK {
			continue
		}
		has, e1 := Has(x.s, 0)
		a, added, e2 := Add(x.s, 0)
		d, dropped, e3 := Drop(x.s, 0)
		n, e4 := Len(x.s)
		l, e5 := List(x.s)
		r, e6 := Range(x.s, 1, 9)
		j, e7 := Join(x.s, of())
		k, e8 := Join(New(), x.s)
		p, m, e9 := Purge(x.s, 1, 9)
		if !slices.Equal([]api.Errno{e1, e2, e3, e4, e5, e6, e7, e8, e9}, slices.Repeat([]api.Errno{x.e}, 9)) {
			t.Error(x, e1, e2, e3, e4, e5, e6, e7, e8, e9)
		}
		if has || added || dropped || n+m+len(a.Cells)+len(d.Cells)+len(l)+len(r)+len(j.Cells)+len(k.Cells)+len(p.Cells) > 0 {
			t.Error(x, "results are not zero")
		}
	}
}

// P7.2
func TestExamples(t *testing.T) {
	if s, e := Of([]int{1, 2}); !slices.Equal(s.Cells, []int{0, 0, 0, 0, 0, 0, 2, 1}) || e != api.OK {
		t.Error(s, e)
	}
	s, e := Of([]int{1, 9})
	if !slices.Equal(s.Cells, []int{9, 0, 0, 0, 0, 0, 0, 1}) || e != api.OK {
		t.Error(s, e)
	}
	u, dropped, e := Drop(s, 1)
	if !slices.Equal(u.Cells, []int{9, 0, 0, 0, 0, 0, 0, -1}) || !dropped || e != api.OK || s.Cells[7] != 1 {
		t.Error(u, dropped, e)
	}
	if has, e := Has(u, 9); !has || e != api.OK {
		t.Error(has, e)
	}
	if has, e := Has(u, 1); has || e != api.OK {
		t.Error(has, e)
	}
	v, added, e := Add(u, 17)
	if !slices.Equal(v.Cells, []int{9, 0, 0, 0, 0, 0, 0, 17}) || !added || e != api.OK {
		t.Error(v, added, e)
	}
	if w, added, e := Add(u, 9); !slices.Equal(w.Cells, u.Cells) || added || e != api.OK {
		t.Error(w, added, e)
	}
	if w, dropped, e := Drop(u, 1); !slices.Equal(w.Cells, u.Cells) || dropped || e != api.OK {
		t.Error(w, dropped, e)
	}
	for _, a := range []int{0, -1, 1601, math.MaxInt, math.MinInt} {
		_, e1 := Has(s, a)
		w, added, e2 := Add(s, a)
		x, dropped, e3 := Drop(s, a)
		if e1 != api.ErrRange || e2 != api.ErrRange || e3 != api.ErrRange || added || dropped || len(w.Cells)+len(x.Cells) > 0 {
			t.Error(a, e1, e2, e3)
		}
	}
}

// P7.3
func TestLenListRange(t *testing.T) {
	s, _ := Of([]int{7, 3, 1600, 1, 3})
	n, e := Len(s)
	l, e2 := List(s)
	if n != 4 || !slices.Equal(l, []int{1, 3, 7, 1600}) || e+e2 != api.OK {
		t.Error(n, l, e, e2)
	}
	for x, want := range map[[2]int][]int{{1, 7}: {1, 3}, {3, 8}: {3, 7}, {4, 4}: nil, {9, 1}: nil, {math.MinInt, math.MaxInt}: l} {
		if r, e := Range(s, x[0], x[1]); !slices.Equal(r, want) || e != api.OK {
			t.Error(x, r, e)
		}
	}
}

// P7.4, P7.7
func TestOfJoin(t *testing.T) {
	if s, _ := Of([]int{1, 2, 3, 4, 5, 6}); len(s.Cells) != 8 {
		t.Error(s)
	}
	if s, _ := Of([]int{1, 2, 3, 4, 5, 6, 7}); len(s.Cells) != 16 {
		t.Error(s)
	}
	if s, e := Of(make([]int, 4001)); len(s.Cells) > 0 || e != api.ErrLong {
		t.Error(s, e)
	}
	if s, e := Of([]int{1, 0}); len(s.Cells) > 0 || e != api.ErrRange {
		t.Error(s, e)
	}
	if s, e := Of(slices.Repeat([]int{1}, 4000)); len(s.Cells) != 8 || e != api.OK {
		t.Error(s, e)
	}
	var all []int
	for a := 1; a <= api.MaxAddress; a++ {
		all = append(all, a)
		s, e := Of(all)
		cell, e2 := Check(s)
		if cell != 0 || e+e2 != api.OK || len(s.Cells) != 8 && 3*len(s.Cells) >= 8*a {
			t.Fatal(a, len(s.Cells), cell, e, e2)
		}
		if l, _ := List(s); !slices.Equal(l, all) {
			t.Fatal(a, l)
		}
	}
	a, _ := Of([]int{1, 9})
	b, _ := Of([]int{17, 9, 4})
	j, e := Join(a, b)
	want, _ := Of([]int{1, 9, 4, 17})
	if !slices.Equal(j.Cells, want.Cells) || e != api.OK {
		t.Error(j, e)
	}
}

// P7.5
func TestPurge(t *testing.T) {
	s, _ := Of([]int{1, 9, 5, 30})
	p, n, e := Purge(s, 5, 30)
	if l, _ := List(p); n != 2 || !slices.Equal(l, []int{1, 30}) || e != api.OK || slices.Index(p.Cells, -1) < 0 {
		t.Error(p, n, e)
	}
	if p, n, e := Purge(s, 30, 5); n != 0 || !slices.Equal(p.Cells, s.Cells) || e != api.OK {
		t.Error(p, n, e)
	}
}

// P7.6, P7.7: tables that are built anew, with as many cells and with more
func TestSets(t *testing.T) {
	s, in, seed := New(), map[int]bool{}, 11
	twice := 0
	for range 3000 {
		seed = (seed*1103515245 + 12345) & 0x7fffffff
		a := 1 + seed/16%60
		var changed bool
		var u api.SlSet
		if seed/1024%2 == 0 {
			u, changed, _ = Add(s, a)
			if changed == in[a] {
				t.Fatal("Add of", a, changed)
			}
			in[a] = true
		} else {
			u, changed, _ = Drop(s, a)
			if changed != in[a] {
				t.Fatal("Drop of", a, changed)
			}
			delete(in, a)
		}
		if len(u.Cells) > len(s.Cells) {
			twice++
		}
		s = u
		if cell, e := Check(s); cell != 0 || e != api.OK {
			t.Fatal(cell, e)
		}
		if n, _ := Len(s); n != len(in) {
			t.Fatal(n, len(in))
		}
		for b := 1; b <= 60; b++ {
			if has, _ := Has(s, b); has != in[b] {
				t.Fatal(b, has)
			}
		}
	}
	if twice == 0 {
		t.Error("no table was built anew with more cells")
	}
}

// P7.2: a table in which few are left is built anew with as many cells
func TestBuiltWithAsMany(t *testing.T) {
	s := New()
	for a := 1; a <= 500; a++ {
		s, _, _ = Add(s, a)
		if a > 2 {
			s, _, _ = Drop(s, a-2)
		}
		if cell, e := Check(s); len(s.Cells) != 8 || cell != 0 || e != api.OK {
			t.Fatal(a, s, cell, e)
		}
	}
	for _, u := range []api.SlSet{of(-1, 0, 0, 0, 0, 0, 0, 0), of(-1, -1, 0, 0, 0, 0, 0, 0)} {
		if v, _, _ := Add(u, 8); v.Cells[0] != 8 || v.Cells[1] != u.Cells[1] {
			t.Error("not the first cell that was dropped", v)
		}
	}
	if u, _ := Of([]int{1600, 1599, 1598, 1597, 1596, 1595, 1594}); len(u.Cells) != 16 {
		t.Error(u)
	} else if l, _ := List(u); !slices.Equal(l, []int{1594, 1595, 1596, 1597, 1598, 1599, 1600}) {
		t.Error(l)
	}
	if l, _ := List(s); !slices.Equal(l, []int{499, 500}) {
		t.Error(l)
	}
	if u, _, _ := Add(of(-1, -1, -1, -1, 0, -1, 2, 0), 4); !slices.Equal(u.Cells, []int{0, 0, 0, 0, 4, 0, 2, 0}) {
		t.Error(u)
	}
	if u, _, _ := Add(of(-1, 7, -1, -1, 0, 3, 2, 0), 4); !slices.Equal(u.Cells, []int{0, 7, 0, 0, 0, 3, 0, 0, 0, 0, 0, 0, 4, 0, 2, 0}) {
		t.Error(u)
	}
}

// P7.8
func TestOrder(t *testing.T) {
	l := []int{5, 13, 21, 29, 1, 9, 100, 5, 37}
	r := slices.Clone(l)
	slices.Reverse(r)
	a, _ := Of(l)
	b, _ := Of(r)
	c, _ := Of([]int{2, 13, 45})
	la, _ := List(a)
	lb, _ := List(b)
	one, _ := Join(a, c)
	other, _ := Join(c, a)
	l1, _ := List(one)
	l2, _ := List(other)
	if !slices.Equal(la, lb) || !slices.Equal(l1, l2) {
		t.Error(la, lb, l1, l2)
	}
	before := slices.Clone(a.Cells)
	same, _, _ := Add(a, 5)
	same.Cells[0] = 77
	if !slices.Equal(a.Cells, before) {
		t.Error("memory is shared")
	}
}
