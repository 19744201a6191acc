package proof

import (
	"iter"
	"slices"
)

// chosen yields the casks of a blend, with their numbers.
func (w atWork) chosen(casks []int) iter.Seq2[int, Cask] {
	return func(yield func(int, Cask) bool) {
		for _, n := range casks {
			if !yield(n, w.Casks[n]) {
				return
			}
		}
	}
}

// strength returns the strength of a blend in a truth.
func (w atWork) strength(casks []int, water int, truth levels) int {
	gallons, sum := water, 0
	for n, c := range w.chosen(casks) {
		gallons += c.Gallons
		sum += c.Gallons * truth[n]
	}
	return sum / gallons
}

// blended returns the bounds of the strength of a blend.
func (w atWork) blended(casks []int, water int) Range {
	return w.bounds(func(truth levels) int { return w.strength(casks, water, truth) })
}

// waterFor returns the water for the strength, and whether a blend may have as much.
func (w atWork) waterFor(casks []int, strength int) (water int, enough bool) {
	for gallons := range waters().Hi + 1 {
		if w.blended(casks, gallons).Hi <= strength {
			return gallons, true
		}
	}
	return 0, false
}

// fewest returns the fewest casks for the range, or none.
func (w atWork) fewest(r Range) []int {
	var found []int
search:
	for more := range len(w.Casks) {
		for casks := range lists(len(w.Casks), more+1) {
			if w.blended(casks, 0).isPartOf(r) {
				found = casks
				break search
			}
		}
	}
	return found
}

// lists yields all rising lists of so many numbers below count, in lexicographic order.
func lists(count, size int) iter.Seq[[]int] {
	return func(yield func([]int) bool) {
		var choose func(list []int, next int) bool
		choose = func(list []int, next int) bool {
			if len(list) == size {
				return yield(slices.Clone(list))
			}
			for ; next < count; next++ {
				if !choose(append(list, next), next+1) {
					return false
				}
			}
			return true
		}
		choose(nil, 0)
	}
}
