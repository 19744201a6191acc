package book

import (
	"slices"

	"saccharum/api"
	"saccharum/proof"
	"saccharum/table"
)

// place returns where a new line of the table comes between the others, or refuses it.
func place(lines []int, line int) int {
	at, isThere := slices.BinarySearch(lines, line)
	refuse(api.ErrRange, at == len(lines), line < lines[0])
	refuse(api.ErrTwice, isThere)
	refuse(api.ErrLimit, len(lines) >= api.MaxTableLines)
	return at
}

// strength returns the strength at a point of the table.
func (s State) strength(warmth, mark int) int {
	n, _ := table.At(s.Store.Table, warmth, mark)
	return n
}

// row adds the row of a warmth.
func (d *draft) row(n []int) {
	t, warmth := &d.Store.Table, n[0]
	at := place(t.Warmths, warmth)
	var values []int
	for _, mark := range t.Marks {
		values = append(values, d.strength(warmth, mark))
	}
	t.Warmths = slices.Insert(t.Warmths, at, warmth)
	t.Values = slices.Insert(t.Values, at, values)
}

// column adds the column of a mark.
func (d *draft) column(n []int) {
	t, mark := &d.Store.Table, n[0]
	at := place(t.Marks, mark)
	var values []int
	for _, warmth := range t.Warmths {
		values = append(values, d.strength(warmth, mark))
	}
	t.Marks = slices.Insert(t.Marks, at, mark)
	for i, row := range t.Values {
		t.Values[i] = slices.Insert(row, at, values[i])
	}
}

// value changes a value of the table.
func (d *draft) value(n []int) {
	t := d.Store.Table
	row, column, value := n[0], n[1], n[2]
	refuse(api.ErrNone, !hasNumber(t.Warmths, row), !hasNumber(t.Marks, column))
	refuse(api.ErrRange, value > api.MaxTableValue)
	t.Values[row][column] = value
}

// price changes the rate of the store.
func (d *draft) price(n []int) {
	refuse(api.ErrRange, n[0] > api.MaxProofRate)
	d.Store.Rate = n[0]
}

// caskOf returns a cask of some gallons, with the ends of its warmth and its mark, or refuses it.
func (d *draft) caskOf(gallons int, n []int) proof.Cask {
	c := proof.Cask{Gallons: gallons, Warmth: proof.Range{Lo: n[0], Hi: n[1]}, Mark: proof.Range{Lo: n[2], Hi: n[3]}}
	alone := proof.Store{Table: d.Store.Table, Casks: []proof.Cask{c}}
	refuse(api.ErrRange, proof.CheckStore(alone) != api.OK)
	return c
}

// cask adds a cask.
func (d *draft) cask(n []int) {
	c := d.caskOf(n[0], n[1:])
	refuse(api.ErrLimit, len(d.Store.Casks) >= api.MaxProofCasks)
	d.Store.Casks = append(d.Store.Casks, c)
}

// read changes the warmth and the mark of a cask.
func (d *draft) read(n []int) {
	casks, number := d.Store.Casks, n[0]
	refuse(api.ErrNone, !hasNumber(casks, number))
	casks[number] = d.caskOf(casks[number].Gallons, n[1:])
}

// gone removes a cask.
func (d *draft) gone(n []int) {
	number := n[0]
	refuse(api.ErrNone, !hasNumber(d.Store.Casks, number))
	refuse(api.ErrState, slices.Contains(d.Sources, Source{Kind: OfCask, Number: number}))
	d.Store.Casks = without(d.Store.Casks, number)
	for i, s := range d.Sources {
		if s.Kind == OfCask && s.Number > number {
			d.Sources[i].Number--
		}
	}
}

// without returns the list without its element of this number; it is nil if nothing is left.
func without[T any](l []T, number int) []T {
	return slices.Concat(l[:number], l[number+1:])
}
