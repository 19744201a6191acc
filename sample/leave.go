package sample

import (
	"iter"
	"slices"
)

// entries returns how many entries the sample has.
func (s Sample) entries() int { return len(s.Passes) + len(s.Sights) }

// with returns the sample with some of its entries alone.
func (s Sample) with(is func(entry int) bool) Sample {
	kept := s
	kept.Passes, kept.Sights = nil, nil
	for i, p := range s.Passes {
		if is(i) {
			kept.Passes = append(kept.Passes, p)
		}
	}
	for i, k := range s.Sights {
		if is(len(s.Passes) + i) {
			kept.Sights = append(kept.Sights, k)
		}
	}
	return kept
}

// smallestSet returns the smallest set of entries that can be left out.
// All of them can, since a bottle can be kept by one person, so that the search finds one.
func (s Sample) smallestSet() []int {
	var smallest []int
search:
	for size := range s.entries() + 1 {
		for out := range lists(s.entries(), size) {
			isKept := func(entry int) bool { return !slices.Contains(out, entry) }
			if newWork(s.with(isKept)).hasTruth() {
				smallest = out
				break search
			}
		}
	}
	return smallest
}

// lists yields all increasing lists of so many numbers below count, in lexicographic order.
func lists(count, size int) iter.Seq[[]int] {
	return func(yield func([]int) bool) {
		var add func(list []int, next int) bool
		add = func(list []int, next int) bool {
			if len(list) == size {
				return yield(slices.Clone(list))
			}
			for ; next < count; next++ {
				if !add(append(list, next), next+1) {
					return false
				}
			}
			return true
		}
		add(nil, 0)
	}
}
