package cask

import (
	"iter"
	"maps"
	"slices"
)

// gauges is a set of gauges: it has the gauge i if the bit i is set.
type gauges uint

// setOf returns the set of the gauges with these numbers.
func setOf(numbers ...int) gauges {
	var s gauges
	for _, i := range numbers {
		s |= 1 << i
	}
	return s
}

// numbersBelow returns the numbers from 0 that are below the count.
func numbersBelow(count int) []int {
	return slices.Collect(Range{Lo: 0, Hi: count - 1}.numbers())
}

// rightFrom returns the set of the gauges of a cask that are right with a start.
func (w atWork) rightFrom(start, cask int, h levels) gauges {
	var s gauges
	for i, g := range w.Gauges {
		if g.Cask == cask && w.meant[i].holds(start+h[g.After]) {
			s |= setOf(i)
		}
	}
	return s
}

// rightInCask returns sets of the gauges of a cask that are right with some of the starts.
// It tries the least start, and those with which a gauge begins to be right: with any other one no gauge is right that is not right with the last of these before it.
func (w atWork) rightInCask(cask int, h levels, starts Range) map[gauges]bool {
	sets := map[gauges]bool{w.rightFrom(starts.Lo, cask, h): true}
	for i, g := range w.Gauges {
		start := w.meant[i].Lo - h[g.After]
		if g.Cask == cask && starts.holds(start) {
			sets[w.rightFrom(start, cask, h)] = true
		}
	}
	return sets
}

// rightInTruths returns sets of gauges that are right in truths with the quantities, and starts that can be.
func (w atWork) rightInTruths(q quantities, can map[leaking]Range) map[gauges]bool {
	sets := map[gauges]bool{setOf(): true}
	for cask := range w.Casks {
		own := map[gauges]bool{}
		for leak := range w.Casks[cask].Leak.numbers() {
			k := leaking{cask: cask, leak: leak}
			if starts, found := can[k]; found {
				maps.Copy(own, w.rightInCask(cask, w.levels(k, q), starts))
			}
		}
		more := map[gauges]bool{}
		for s := range own {
			for other := range sets {
				more[s|other] = true
			}
		}
		sets = more
	}
	return sets
}

// rightSets returns sets of gauges that are right in some truth without gauges.
// In each such truth the gauges that are right are a part of one of the sets; there are no sets if there is no such truth.
func (w atWork) rightSets() map[gauges]bool {
	sets := map[gauges]bool{}
	for q, can := range w.ungauged().truths() {
		maps.Copy(sets, w.rightInTruths(q, can))
	}
	return sets
}

// canBeRight reports whether all these gauges are right in some truth.
func canBeRight(sets map[gauges]bool, wanted gauges) bool {
	for s := range sets {
		if s&wanted == wanted {
			return true
		}
	}
	return false
}

// firstWrong returns the first wrong gauge, and whether there is one.
func (w atWork) firstWrong(sets map[gauges]bool) (gauge int, found bool) {
	for i := range w.Gauges {
		if !canBeRight(sets, setOf(numbersBelow(i+1)...)) {
			return i, true
		}
	}
	return 0, false
}

// smallestSet returns the smallest set of gauges that can be left out.
// If there are sets, all gauges can be left out together, so that the search finds one.
func (w atWork) smallestSet(sets map[gauges]bool) []int {
	count := len(w.Gauges)
	everyGauge := setOf(numbersBelow(count)...)
	var smallest []int
search:
	for size := range count + 1 {
		for out := range lists(count, size) {
			if canBeRight(sets, everyGauge&^setOf(out...)) {
				smallest = out
				break search
			}
		}
	}
	return smallest
}

// lists yields all increasing lists of so many numbers below count, in lexicographic order.
func lists(count, size int) iter.Seq[[]int] {
	return func(yield func([]int) bool) {
		var add func(list []int, next int) bool
		add = func(list []int, next int) bool {
			if len(list) == size {
				return yield(slices.Clone(list))
			}
			for ; next < count; next++ {
				if !add(append(list, next), next+1) {
					return false
				}
			}
			return true
		}
		add(nil, 0)
	}
}
