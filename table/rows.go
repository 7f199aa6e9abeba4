package table

import (
	"cmp"
	"slices"

	"cameo/api"
)

// row is a property that came: its number is greater than those of all that came ahead of it, and no other row of the table ever has it.
type row struct {
	prop   api.Prop
	number uint64
	gone   bool
}

// leave makes a gap of a row, which keeps its number, by which it stands among the others, and nothing else.
func (r *row) leave() { *r = row{number: r.number, gone: true} }

// add puts a property behind all others; its key is not there.
func (t *Table) add(p api.Prop) {
	t.last++
	r := &row{prop: p, number: t.last}
	t.rows = append(t.rows, r)
	t.found[p.Key] = r
}

// gaps is how many rows are gone.
func (t *Table) gaps() int { return len(t.rows) - len(t.found) }

// closeGaps leaves the rows that stand, in a list of their length.
func (t *Table) closeGaps() {
	if t.gaps() == 0 {
		return
	}
	rows := make([]*row, 0, len(t.found))
	for _, r := range t.rows {
		if !r.gone {
			rows = append(rows, r)
		}
	}
	t.rows = rows
}

// next is the first row that stands and has a number above n; nil, if there is none.
func (t *Table) next(n uint64) *row {
	at, _ := slices.BinarySearchFunc(t.rows, n+1, byNumber)
	for _, r := range t.rows[at:] {
		if !r.gone {
			return r
		}
	}
	return nil
}

// byNumber holds a row against a number.
func byNumber(r *row, n uint64) int { return cmp.Compare(r.number, n) }
