package wash

import (
	"iter"
	"slices"
)

// smallestSet returns the smallest set of entries that can be left out.
// All of them can, with yields of 0, so that the search finds one.
func (w atWork) smallestSet() []int {
	count := len(w.yields)
	var smallest []int
search:
	for size := range count + 1 {
		for out := range lists(count, size) {
			if _, found := w.totals(out...).honest(); found {
				smallest = out
				break search
			}
		}
	}
	return smallest
}

// lists yields all increasing lists of so many numbers below count, in lexicographic order.
func lists(count, size int) iter.Seq[[]int] {
	return func(yield func([]int) bool) {
		var add func(list []int, next int) bool
		add = func(list []int, next int) bool {
			if len(list) == size {
				return yield(slices.Clone(list))
			}
			for ; next < count; next++ {
				if !add(append(list, next), next+1) {
					return false
				}
			}
			return true
		}
		add(nil, 0)
	}
}
