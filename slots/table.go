package slots

import (
	"iter"
	"slices"

	"shunter/api"
)

// spread is what an address is multiplied with for its home.
const spread = 40503

// table is a table that is changed; used counts the cells that are not 0, held those that are addresses.
type table struct {
	cells      []int
	used, held int
}

// tableOf returns a table with a copy of cells.
func tableOf(cells []int) *table {
	t := &table{cells: make([]int, len(cells)), used: countUsed(cells)}
	copy(t.cells, cells)
	for _, a := range cells {
		if a > 0 {
			t.held++
		}
	}
	return t
}

// set returns the table as a set.
func (t *table) set() api.SlSet { return api.SlSet{Cells: t.cells} }

// countUsed returns how many cells are not 0.
func countUsed(cells []int) int {
	n := 0
	for _, a := range cells {
		if a != 0 {
			n++
		}
	}
	return n
}

// tooFull reports whether more than three quarters of all cells are used.
func tooFull(used, cells int) bool { return 4*used > 3*cells }

// path yields the numbers and contents of the cells of an address's path, and the cell 0 at its end.
func path(cells []int, a int) iter.Seq2[int, int] {
	return func(yield func(int, int) bool) {
		home := a * spread % len(cells)
		for i := range cells {
			cell := (home + i) % len(cells)
			if !yield(cell, cells[cell]) || cells[cell] == 0 {
				return
			}
		}
	}
}

// locate returns the cell of an address that is on its path (-1: there is none), and otherwise the one into which it would be put.
func locate(cells []int, a int) (at, free int) {
	free = -1
	if a < 1 {
		return -1, free
	}
along:
	for cell, content := range path(cells, a) {
		switch content {
		case a:
			return cell, free
		case 0:
			if free < 0 {
				free = cell
			}
			break along
		case api.SlGone:
			if free < 0 {
				free = cell
			}
		}
	}
	return -1, free
}

// add puts an address into the set, and reports whether it was not there.
func (t *table) add(a int) bool {
	at, free := locate(t.cells, a)
	if at >= 0 {
		return false
	}
	if t.cells[free] == 0 {
		t.used++
	}
	t.cells[free] = a
	t.held++
	if tooFull(t.used, len(t.cells)) {
		t.build()
	}
	return true
}

// drop takes an address out of the set, and reports whether it was there.
func (t *table) drop(a int) bool {
	at, _ := locate(t.cells, a)
	if at < 0 {
		return false
	}
	t.cells[at] = api.SlGone
	t.held--
	return true
}

// build makes the table anew, with twice as many cells if many of them are addresses.
func (t *table) build() {
	n := len(t.cells)
	if 8*t.held > 3*n {
		n *= 2
	}
	addresses := t.between(1, api.MaxAddress+1)
	*t = table{cells: make([]int, n)}
	for _, a := range addresses {
		t.add(a)
	}
}

// between returns the addresses from one on, and below another one, ascending.
func (t *table) between(from, to int) []int {
	var l []int
	for _, a := range t.cells {
		if a > 0 && from <= a && a < to {
			l = append(l, a)
		}
	}
	slices.Sort(l)
	return l
}
