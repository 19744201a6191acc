package heat

import (
	"iter"
	"maps"
	"slices"
)

// looks is a set of looks: it has the look i if the bit i is set.
type looks uint

// setOf returns the set of the looks with these numbers.
func setOf(numbers ...int) looks {
	var s looks
	for _, i := range numbers {
		s |= 1 << i
	}
	return s
}

// rightInVat returns the sets of the looks into the vat that are right, for all its courses in a room.
func (w atWork) rightInVat(vat, room int, l []Look) map[looks]bool {
	sets := map[looks]bool{}
	for _, h := range w.truths(w.Vats[vat], room) {
		var s looks
		for i, k := range l {
			if k.Vat == vat && w.right(k, h) {
				s |= setOf(i)
			}
		}
		sets[s] = true
	}
	return sets
}

// rightInRoom returns the sets of looks that are right, for all truths with the room.
// In it each vat has any of its courses, whatever the other ones have.
func (w atWork) rightInRoom(room int, l []Look) map[looks]bool {
	sets := map[looks]bool{setOf(): true}
	for vat := range w.Vats {
		more := map[looks]bool{}
		for s := range w.rightInVat(vat, room, l) {
			for other := range sets {
				more[s|other] = true
			}
		}
		sets = more
	}
	return sets
}

// rightSets returns the sets of looks that are right, for all truths.
func (w atWork) rightSets(l []Look) map[looks]bool {
	sets := map[looks]bool{}
	for room := range w.Room.numbers() {
		maps.Copy(sets, w.rightInRoom(room, l))
	}
	return sets
}

// smallestSet returns the smallest set of looks that can be left out.
// All of them can be left out together, so that the search finds one.
func (w atWork) smallestSet(l []Look) []int {
	everyLook := setOf(slices.Collect(Range{Lo: 0, Hi: len(l) - 1}.numbers())...)
	sets := w.rightSets(l)
	var smallest []int
search:
	for size := range len(l) + 1 {
		for out := range lists(len(l), size) {
			for s := range sets {
				if s|setOf(out...) == everyLook {
					smallest = out
					break search
				}
			}
		}
	}
	return smallest
}

// lists yields all increasing lists of so many numbers below count, in lexicographic order.
func lists(count, size int) iter.Seq[[]int] {
	return func(yield func([]int) bool) {
		var add func(list []int, next int) bool
		add = func(list []int, next int) bool {
			if len(list) == size {
				return yield(slices.Clone(list))
			}
			for ; next < count; next++ {
				if !add(append(list, next), next+1) {
					return false
				}
			}
			return true
		}
		add(nil, 0)
	}
}
