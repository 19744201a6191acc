package cask

import (
	"iter"
	"math"
	"slices"
)

// fit is a cask with a leak in some truths: the starts that it can have in them, and its levels.
type fit struct {
	leaking
	starts Range
	levels levels
}

// question is what is looked for in all truths, for a cask that fits, after so many moves.
type question struct{ answer func(f fit, after int) Range }

// content returns the contents after so many moves.
func (f fit) content(after int) Range { return f.starts.moved(f.levels[after]) }

// leaked returns what the cask leaked with so many moves.
func (f fit) leaked(after int) Range { return Range{Lo: f.leak * after, Hi: f.leak * after} }

// moved returns the range of numbers that are so much greater.
func (r Range) moved(by int) Range { return Range{Lo: r.Lo + by, Hi: r.Hi + by} }

// common returns the numbers that both ranges have; the range is empty if there are none.
func (r Range) common(other Range) Range {
	return Range{Lo: max(r.Lo, other.Lo), Hi: min(r.Hi, other.Hi)}
}

// joined returns the range from the minimum to the maximum of both ranges.
func (r Range) joined(other Range) Range {
	return Range{Lo: min(r.Lo, other.Lo), Hi: max(r.Hi, other.Hi)}
}

// numbers yields all numbers of the range.
func (r Range) numbers() iter.Seq[int] {
	return func(yield func(int) bool) {
		for n := r.Lo; n <= r.Hi; n++ {
			if !yield(n) {
				return
			}
		}
	}
}

// startsOf returns the starts with which the contents of a cask are always possible, and its gauges right.
// Each content differs from the start by a level, whatever the start is, so that these are all numbers of a range.
func (w atWork) startsOf(cask int, h levels) Range {
	k := w.Casks[cask]
	lowest, highest := least(h[0], h[1:len(w.Moves)+1]...), greatest(h[0], h[1:len(w.Moves)+1]...)
	r := k.Start.common(Range{Lo: k.contents().Lo - lowest, Hi: k.contents().Hi - highest})
	for i, g := range w.Gauges {
		if g.Cask == cask {
			r = r.common(w.meant[i].moved(-h[g.After]))
		}
	}
	return r
}

// starts returns the starts that each cask can have with each leak, or none if some cask has none.
// With the quantities of all moves, each cask may have any of its starts and leaks, whatever the other ones have.
func (w atWork) starts(q quantities) map[leaking]Range {
	can := map[leaking]Range{}
	for cask, c := range w.Casks {
		before := len(can)
		for leak := range c.Leak.numbers() {
			k := leaking{cask: cask, leak: leak}
			if r := w.startsOf(cask, w.levels(k, q)); !r.empty() {
				can[k] = r
			}
		}
		if len(can) == before {
			return nil
		}
	}
	return can
}

// truths yields the quantities of all truths of the cellar, in lexicographic order, with the starts that can be.
func (w atWork) truths() iter.Seq2[quantities, map[leaking]Range] {
	return func(yield func(quantities, map[leaking]Range) bool) {
		var choose func(q quantities, move int) bool
		choose = func(q quantities, move int) bool {
			if move == len(w.Moves) {
				can := w.starts(q)
				return len(can) == 0 || yield(q, can)
			}
			for n := range w.Moves[move].Quantity.numbers() {
				q[move] = n
				if !choose(q, move+1) {
					return false
				}
			}
			return true
		}
		choose(quantities{}, 0)
	}
}

// bounds returns for each cask the bounds of what is asked after 0, 1, .. moves, and whether there is a truth of the cellar.
func (w atWork) bounds(x question) (rows [][]Range, found bool) {
	nothing := Range{Lo: math.MaxInt, Hi: math.MinInt}
	for range w.Casks {
		rows = append(rows, slices.Repeat([]Range{nothing}, len(w.Moves)+1))
	}
	for q, can := range w.truths() {
		for k, r := range can {
			f := fit{leaking: k, starts: r, levels: w.levels(k, q)}
			row := rows[k.cask]
			for after := range row {
				row[after] = row[after].joined(x.answer(f, after))
			}
		}
		found = true
	}
	return rows, found
}

// lastOf returns the last range of each row.
func lastOf(rows [][]Range) []Range {
	var l []Range
	for _, row := range rows {
		l = append(l, row[len(row)-1])
	}
	return l
}

// firstTruth returns the first truth of the cellar, and whether there is one.
func (w atWork) firstTruth() (Truth, bool) {
	for q, can := range w.truths() {
		return w.chosen(q, can), true
	}
	return Truth{}, false
}

// chosen returns a truth with the quantities: each cask has its least leak that can be, and the least start with it.
func (w atWork) chosen(q quantities, can map[leaking]Range) Truth {
	t := Truth{Quantity: slices.Clone(q[:len(w.Moves)])}
	for cask, c := range w.Casks {
		for leak := range c.Leak.numbers() {
			if r, found := can[leaking{cask: cask, leak: leak}]; found {
				t.Start, t.Leak = append(t.Start, r.Lo), append(t.Leak, leak)
				break
			}
		}
	}
	return t
}
