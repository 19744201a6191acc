package wort

import (
	"iter"
	"slices"
)

// readings is a set of readings: it has the reading i if the bit i is set.
type readings uint

// setOf returns the set of the readings with these numbers.
func setOf(numbers ...int) readings {
	var s readings
	for _, i := range numbers {
		s |= 1 << i
	}
	return s
}

// agrees reports whether what all vessels have agrees with the reading.
func (h contents) agrees(r Reading) bool {
	c := h[r.Vessel]
	return r.Gallons.holds(c.gallons) && r.Degrees.holds(c.gravity())
}

// agreeing returns, for what all vessels can have, the sets of the readings that agree with it.
func agreeing(ends map[contents]bool, l []Reading) map[readings]bool {
	sets := map[readings]bool{}
	for h := range ends {
		var s readings
		for i, r := range l {
			if h.agrees(r) {
				s |= setOf(i)
			}
		}
		sets[s] = true
	}
	return sets
}

// canBeLeftOut reports whether some set has all of so many readings but these.
func canBeLeftOut(sets map[readings]bool, count int, out []int) bool {
	for s := range sets {
		if s|setOf(out...) == 1<<count-1 {
			return true
		}
	}
	return false
}

// smallestSet returns the smallest set of so many readings that can be left out.
// If there are sets, all readings can be left out together, so that the search finds one.
func smallestSet(sets map[readings]bool, count int) []int {
	var smallest []int
search:
	for size := range count + 1 {
		for out := range lists(count, size) {
			if canBeLeftOut(sets, count, out) {
				smallest = out
				break search
			}
		}
	}
	return smallest
}

// lists yields all increasing lists of so many numbers below count, in lexicographic order.
func lists(count, size int) iter.Seq[[]int] {
	return func(yield func([]int) bool) {
		var add func(list []int, next int) bool
		add = func(list []int, next int) bool {
			if len(list) == size {
				return yield(slices.Clone(list))
			}
			for ; next < count; next++ {
				if !add(append(list, next), next+1) {
					return false
				}
			}
			return true
		}
		add(nil, 0)
	}
}
