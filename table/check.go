package table

import (
	"saccharum/api"
)

// atWork is a table whose calls are at work: one that was found valid, but in the checks of this file.
type atWork struct{ Table }

// side is one of both sides of a table: its lines, the last number that one may have, and on which of them a spot is.
type side struct {
	lines []int
	last  int
	line  func(Spot) int
}

func (p Spot) row() int { return p.Row }

func (p Spot) column() int { return p.Column }

// sides returns both sides of the table, that of the rows first.
func (w atWork) sides() []side {
	return []side{
		{lines: w.Warmths, last: api.MaxTableWarmth, line: Spot.row},
		{lines: w.Marks, last: api.MaxTableMark, line: Spot.column},
	}
}

// tooLong reports whether the table has more lines than it may.
func (w atWork) tooLong() bool {
	fits := func(s side) bool { return len(s.lines) <= api.MaxTableLines }
	return !all(w.sides(), fits) || len(w.Values) > api.MaxTableLines
}

// sound reports whether a table that is not too long is valid.
func (w atWork) sound() bool {
	soundRow := w.soundRow
	return all(w.sides(), soundSide) && len(w.Values) == len(w.Warmths) && all(w.Values, soundRow)
}

// soundSide reports whether there are enough lines, which rise, and none is beyond the ends.
func soundSide(s side) bool {
	ends := Range{Lo: 0, Hi: s.last}
	rises := func(a, b int) bool { return a < b }
	return len(s.lines) >= 2 && all(s.lines, ends.holds) && follow(s.lines, rises)
}

// soundRow reports whether a row has a valid value for each mark.
func (w atWork) soundRow(row []int) bool {
	return len(row) == len(w.Marks) && all(row, values().holds)
}

// values returns all that a value may be.
func values() Range { return Range{Lo: 0, Hi: api.MaxTableValue} }

// hasSpot reports whether there is such a spot.
func (w atWork) hasSpot(p Spot) bool {
	on := func(s side) bool { return Range{Lo: 0, Hi: len(s.lines) - 1}.holds(s.line(p)) }
	return all(w.sides(), on)
}

// all reports whether each element is as it should be.
func all[T any](l []T, is func(T) bool) bool {
	for _, x := range l {
		if !is(x) {
			return false
		}
	}
	return true
}

// follow reports whether each element but the first may follow the one before it.
func follow[T any](l []T, may func(a, b T) bool) bool {
	for i := 1; i < len(l); i++ {
		if !may(l[i-1], l[i]) {
			return false
		}
	}
	return true
}
