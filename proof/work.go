package proof

import (
	"saccharum/api"
	"saccharum/table"
)

// inTenth is how much gallons times strength have to be for each tenth of a proof gallon.
const inTenth = 100

// levels has a strength for each cask; those after the last cask are 0.
type levels [api.MaxProofCasks]int

// atWork is a valid store, with the strengths that all its casks have at least, and at most.
type atWork struct {
	Store
	low, high levels
}

// end is one end of the ranges of strengths.
type end struct{ strength func(Range) int }

func (r Range) weakest() int { return r.Lo }

func (r Range) strongest() int { return r.Hi }

// levels returns the strengths of all casks at this end.
func (d end) levels(strengths []Range) levels {
	var v levels
	for i, r := range strengths {
		v[i] = d.strength(r)
	}
	return v
}

// newWork returns the valid store at work.
func newWork(s Store) atWork {
	strengths := s.strengths()
	low, high := end{strength: Range.weakest}, end{strength: Range.strongest}
	return atWork{Store: s, low: low.levels(strengths), high: high.levels(strengths)}
}

// strengths returns for each cask of a valid store the range of its strengths.
func (s Store) strengths() []Range {
	var l []Range
	for _, c := range s.Casks {
		// The ranges of a valid cask have points of the table alone, so that there is no error.
		r, _ := table.Bounds(s.Table, table.Range(c.Warmth), table.Range(c.Mark))
		l = append(l, Range(r))
	}
	return l
}

// levelsOf returns the strengths of a truth, which has no more of them than there may be casks.
func levelsOf(truth []int) levels {
	var v levels
	copy(v[:], truth)
	return v
}

// least returns for each cask the minimum of its strengths.
func least(first levels, others ...levels) levels {
	for _, v := range others {
		for i := range first {
			first[i] = min(first[i], v[i])
		}
	}
	return first
}

// hasTruth reports whether a truth is one of the store.
func (w atWork) hasTruth(truth []int) bool {
	if len(truth) != len(w.Casks) {
		return false
	}
	v := levelsOf(truth)
	return least(w.low, v) == w.low && least(w.high, v) == v
}

// bounds returns the bounds of what is counted in a truth.
// Nothing that is counted is less if a cask is stronger, so that all casks together are at the same end.
func (w atWork) bounds(count func(levels) int) Range {
	return Range{Lo: count(w.low), Hi: count(w.high)}
}

// tenths returns the tenths of proof gallons of the cask with a strength.
func (c Cask) tenths(strength int) int { return c.Gallons * strength / inTenth }

// tenths returns the tenths of proof gallons of all casks in a truth.
func (w atWork) tenths(truth levels) []int {
	var l []int
	for i, c := range w.Casks {
		l = append(l, c.tenths(truth[i]))
	}
	return l
}

// duty returns the duty on all casks in a truth; on each of them it is rounded up.
func (w atWork) duty(truth levels) int {
	sum := 0
	for _, n := range w.tenths(truth) {
		sum += (n*w.Rate + 9) / 10
	}
	return sum
}

// declarable returns all declarations that can be true.
func (w atWork) declarable() map[Declaration]bool {
	can := map[Declaration]bool{}
	for i, c := range w.Casks {
		for strength := w.low[i]; strength <= w.high[i]; strength++ {
			can[Declaration{Cask: i, Tenths: c.tenths(strength)}] = true
		}
	}
	return can
}

// falseOf returns the indexes of the declarations that cannot be true.
func (w atWork) falseOf(l []Declaration) []int {
	can := w.declarable()
	var wrong []int
	for i, d := range l {
		if !can[d] {
			wrong = append(wrong, i)
		}
	}
	return wrong
}
