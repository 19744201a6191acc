package cask

import (
	"saccharum/api"
)

// tooMuch reports whether the cellar has more casks, moves, gauges, or marks of a cask, than it may.
func tooMuch(c Cellar) bool {
	fits := func(k Cask) bool { return len(k.Marks) <= api.MaxCaskMarks }
	return len(c.Casks) > api.MaxCaskCasks || len(c.Moves) > api.MaxCaskMoves || len(c.Gauges) > api.MaxCaskGauges || !all(c.Casks, fits)
}

// sound reports whether a cellar that does not have too much is valid.
func (c Cellar) sound() bool {
	soundMove, soundGauge := c.soundMove, c.soundGauge
	return len(c.Casks) > 0 && all(c.Casks, soundCask) && all(c.Moves, soundMove) && all(c.Gauges, soundGauge)
}

// soundCask reports whether a cask that does not have too many marks is valid.
func soundCask(k Cask) bool {
	leaks := Range{Lo: 0, Hi: api.MaxCaskLeak}
	return soundMarks(k.Marks) && k.Start.isPartOf(k.contents()) && k.Leak.isPartOf(leaks)
}

// soundMarks reports whether marks begin at nothing, and rise to what a cask may be.
func soundMarks(l []Mark) bool {
	rises := func(a, b Mark) bool { return a.Dip < b.Dip && a.Content < b.Content }
	if len(l) < 2 || l[0] != (Mark{}) || !follow(l, rises) {
		return false
	}
	last := l[len(l)-1]
	return last.Dip <= api.MaxCaskDip && last.Content <= api.MaxCaskContent
}

// soundMove reports whether a move is valid in a cellar with valid casks.
func (c Cellar) soundMove(m Move) bool {
	quantities := Range{Lo: 1, Hi: api.MaxCaskContent}
	return m.From != m.To && c.hasPlace(m.From) && c.hasPlace(m.To) &&
		m.Quantity.isPartOf(quantities) && m.Quantity.Hi-m.Quantity.Lo <= api.MaxCaskWide
}

// hasPlace reports whether a move may be from there, or to there.
func (c Cellar) hasPlace(n int) bool { return n == Out || hasNumber(c.Casks, n) }

// soundGauge reports whether a gauge is valid in a cellar with valid casks.
func (c Cellar) soundGauge(g Gauge) bool {
	counts := Range{Lo: 0, Hi: len(c.Moves)}
	return hasNumber(c.Casks, g.Cask) && counts.holds(g.After) && g.Dip.isPartOf(c.Casks[g.Cask].dips())
}

// hasNumbers reports whether the truth has as many numbers as the cellar asks for, each of its range.
func (w atWork) hasNumbers(t Truth) bool {
	if len(t.Start) != len(w.Casks) || len(t.Leak) != len(w.Casks) || len(t.Quantity) != len(w.Moves) {
		return false
	}
	for i, k := range w.Casks {
		if !k.Start.holds(t.Start[i]) || !k.Leak.holds(t.Leak[i]) {
			return false
		}
	}
	q := quantitiesOf(t)
	return w.nearest(q) == q
}

// holds reports whether a number is in the range.
func (r Range) holds(n int) bool { return r.Lo <= n && n <= r.Hi }

// empty reports whether a range has no numbers.
func (r Range) empty() bool { return r.Lo > r.Hi }

// isPartOf reports whether a range has numbers, and all of them are in the other one.
func (r Range) isPartOf(other Range) bool {
	return !r.empty() && other.holds(r.Lo) && other.holds(r.Hi)
}

// hasNumber reports whether the list has an element of this number.
func hasNumber[T any](l []T, n int) bool { return 0 <= n && n < len(l) }

// all reports whether each element is as it should be.
func all[T any](l []T, is func(T) bool) bool {
	for _, x := range l {
		if !is(x) {
			return false
		}
	}
	return true
}

// follow reports whether each element but the first may follow the one before it.
func follow[T any](l []T, may func(a, b T) bool) bool {
	for i := 1; i < len(l); i++ {
		if !may(l[i-1], l[i]) {
			return false
		}
	}
	return true
}
