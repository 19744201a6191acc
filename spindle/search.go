package spindle

import (
	"iter"
	"slices"

	"saccharum/api"
)

// covered tells for each density whether it is covered; no density is 0.
type covered [api.MaxSpindleDensity + 1]bool

// densities returns all densities.
func densities() Range { return Range{Lo: 1, Hi: api.MaxSpindleDensity} }

// empty reports whether a range has no numbers.
func (r Range) empty() bool { return r.Lo > r.Hi }

// holds reports whether a number is in the range.
func (r Range) holds(n int) bool { return within(n, r.Lo, r.Hi) }

// size returns how many numbers a range has.
func (r Range) size() int { return greatest(0, r.Hi-r.Lo+1) }

// common returns what both ranges have; it may be empty.
func (r Range) common(other Range) Range {
	return Range{Lo: greatest(r.Lo, other.Lo), Hi: least(r.Hi, other.Hi)}
}

// least returns the minimum.
func least(first int, others ...int) int {
	for _, n := range others {
		if n < first {
			first = n
		}
	}
	return first
}

// greatest returns the maximum.
func greatest(first int, others ...int) int {
	for _, n := range others {
		if n > first {
			first = n
		}
	}
	return first
}

// coveredBy returns the densities of all the ranges, which have no others.
func coveredBy(ranges ...Range) covered {
	var c covered
	for _, r := range ranges {
		for density := r.Lo; density <= r.Hi; density++ {
			c[density] = true
		}
	}
	return c
}

// cover reports whether the loads cover the range.
func (w atWork) cover(loads []int, r Range) bool {
	var parts []Range
	for _, load := range loads {
		parts = append(parts, r.common(w.floating(load)))
	}
	return coveredBy(parts...) == coveredBy(r)
}

// fewest returns the fewest loads that cover the range, and whether any do.
func (w atWork) fewest(r Range) (loads []int, found bool) {
	covers := func(list []int) bool { return w.cover(list, r) }
	return shortest(len(w.Weights)+1, covers)
}

// smallestSet returns the smallest set of readings, by what they mean.
func smallestSet(l []Reading, means map[Reading]Range) []int {
	enough := func(out []int) bool {
		left := densities()
		for i, r := range l {
			if !slices.Contains(out, i) {
				left = left.common(means[r])
			}
		}
		return !left.empty()
	}
	set, _ := shortest(len(l), enough)
	return set
}

// shortest returns the shortest increasing list of numbers below count that is good, and whether any is;
// of several of the same length the lexicographically smallest one.
func shortest(count int, good func([]int) bool) (list []int, found bool) {
search:
	for size := range count + 1 {
		for l := range lists(count, size) {
			if good(l) {
				list, found = l, true
				break search
			}
		}
	}
	return list, found
}

// lists yields all increasing lists of so many numbers below count, in lexicographic order.
func lists(count, size int) iter.Seq[[]int] {
	return func(yield func([]int) bool) {
		var add func(list []int) bool
		add = func(list []int) bool {
			if len(list) == size {
				return yield(slices.Clone(list))
			}
			next := 0
			if len(list) > 0 {
				next = list[len(list)-1] + 1
			}
			for ; next < count; next++ {
				if !add(append(list, next)) {
					return false
				}
			}
			return true
		}
		add(nil)
	}
}
