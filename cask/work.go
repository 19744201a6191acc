package cask

import (
	"iter"

	"saccharum/api"
)

// quantities has the quantity of each move; those after the last move are 0.
type quantities [api.MaxCaskMoves]int

// levels has how much more there is in a cask after 0, 1, .. moves than at the start; those after the last move are 0.
type levels [api.MaxCaskMoves + 1]int

// leaking is a cask with one of its leaks.
type leaking struct{ cask, leak int }

// atWork is a valid cellar, with the contents that each of its gauges means.
type atWork struct {
	Cellar
	meant []Range
}

// newWork returns the valid cellar at work.
func newWork(c Cellar) atWork {
	w := atWork{Cellar: c}
	for _, g := range c.Gauges {
		w.meant = append(w.meant, c.Casks[g.Cask].meaning(g))
	}
	return w
}

// ungauged returns the cellar without its gauges.
func (w atWork) ungauged() atWork {
	return atWork{Cellar: Cellar{Casks: w.Casks, Moves: w.Moves}}
}

// last returns the last mark of a valid cask.
func (k Cask) last() Mark { return k.Marks[len(k.Marks)-1] }

// dips returns all dips of the cask.
func (k Cask) dips() Range { return Range{Lo: 0, Hi: k.last().Dip} }

// contents returns all contents that the cask can have.
func (k Cask) contents() Range { return Range{Lo: 0, Hi: k.last().Content} }

// content returns the content at one of the dips.
func (k Cask) content(dip int) int {
	next := 1
	for k.Marks[next].Dip < dip {
		next++
	}
	low, high := k.Marks[next-1], k.Marks[next]
	return low.Content + (high.Content-low.Content)*(dip-low.Dip)/(high.Dip-low.Dip)
}

// dip returns the greatest dip at which the content is at most this one, which is one of the contents.
func (k Cask) dip(content int) int {
	dip := k.last().Dip
	for k.content(dip) > content {
		dip--
	}
	return dip
}

// meaning returns the contents that a gauge of the cask means.
func (k Cask) meaning(g Gauge) Range {
	wet := g.Dip
	if g.Dry {
		depth := k.last().Dip
		wet = Range{Lo: depth - g.Dip.Hi, Hi: depth - g.Dip.Lo}
	}
	return Range{Lo: k.content(wet.Lo), Hi: k.content(wet.Hi)}
}

// touched yields the casks that the move touches, with what each of them gets.
func (m Move) touched(quantity int) iter.Seq2[int, int] {
	return func(yield func(int, int) bool) {
		if m.From != Out && !yield(m.From, -quantity) {
			return
		}
		if m.To != Out {
			yield(m.To, quantity)
		}
	}
}

// levels returns the levels of a cask with a leak.
func (w atWork) levels(k leaking, q quantities) levels {
	var h levels
	for i := range len(w.Moves) {
		h[i+1] = h[i] - k.leak
		for cask, more := range w.Moves[i].touched(q[i]) {
			if cask == k.cask {
				h[i+1] += more
			}
		}
	}
	return h
}

// quantitiesOf returns the quantities of a truth, which has no more of them than there may be moves.
func quantitiesOf(t Truth) quantities {
	var q quantities
	copy(q[:], t.Quantity)
	return q
}

// nearest returns the quantities of the ranges of the moves that are nearest to these; these themselves, if they are of the ranges.
func (w atWork) nearest(q quantities) quantities {
	for i, m := range w.Moves {
		q[i] = least(m.Quantity.Hi, greatest(m.Quantity.Lo, q[i]))
	}
	return q
}

// play returns for each cask its content after 0, 1, .. moves, in a truth of which each number is of its range.
func (w atWork) play(t Truth) [][]int {
	var played [][]int
	for i, start := range t.Start {
		h := w.levels(leaking{cask: i, leak: t.Leak[i]}, quantitiesOf(t))
		var row []int
		for after := range len(w.Moves) + 1 {
			row = append(row, start+h[after])
		}
		played = append(played, row)
	}
	return played
}

// holdAll reports whether no content is below 0, or more than its cask holds.
func (w atWork) holdAll(played [][]int) bool {
	for i, row := range played {
		fits := w.Casks[i].contents().holds
		if !all(row, fits) {
			return false
		}
	}
	return true
}

// allRight reports whether all gauges are right.
func (w atWork) allRight(played [][]int) bool {
	for i, g := range w.Gauges {
		if !w.meant[i].holds(played[g.Cask][g.After]) {
			return false
		}
	}
	return true
}

// least returns the minimum.
func least(first int, others ...int) int {
	for _, n := range others {
		first = min(first, n)
	}
	return first
}

// greatest returns the maximum.
func greatest(first int, others ...int) int {
	for _, n := range others {
		first = max(first, n)
	}
	return first
}
