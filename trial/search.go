package trial

import (
	"iter"
	"slices"

	"saccharum/api"
)

// likeness tells of each offer whether the same can be shown with it by two errors; after the last offer it is false.
type likeness [api.MaxTrialOffers]bool

// likenessOf returns the likeness of two errors, by what each of them can show with each of the offers.
func likenessOf(shown, other [][]int) likeness {
	var alike likeness
	for offer, l := range shown {
		isShown := func(seen int) bool { return slices.Contains(other[offer], seen) }
		alike[offer] = slices.ContainsFunc(l, isShown)
	}
	return alike
}

// shownWith returns what can be shown with each of the offers, by the errors.
func (w atWork) shownWith(errors allErrors, l []Offer) [][]int {
	var shown [][]int
	for _, o := range l {
		shown = append(shown, w.shown(errors, o))
	}
	return shown
}

// likenesses returns those of all two errors that have truths, of which one is good, and the other one is not.
func (w atWork) likenesses(good condition, l []Offer) map[likeness]bool {
	var goods, others [][][]int
	for errors := range w.known {
		shown := w.shownWith(errors, l)
		if w.isGood(good, errors) {
			goods = append(goods, shown)
		} else {
			others = append(others, shown)
		}
	}
	found := map[likeness]bool{}
	for _, shown := range goods {
		for _, other := range others {
			found[likenessOf(shown, other)] = true
		}
	}
	return found
}

// fewest returns the fewest offers, and whether any decide.
func (w atWork) fewest(good condition, l []Offer) (offers []int, found bool) {
	likenesses := w.likenesses(good, l)
	decide := func(list []int) bool {
		for alike := range likenesses {
			isAlike := func(offer int) bool { return alike[offer] }
			if all(list, isAlike) {
				return false
			}
		}
		return true
	}
	return shortest(len(l), decide)
}

// without returns the trial at work without some of its tests, of which no truths are known yet.
func (w atWork) without(out []int) atWork {
	left := atWork{Trial: w.Trial, reads: w.reads}
	left.Tests = nil
	for i, x := range w.Tests {
		if !slices.Contains(out, i) {
			left.Tests = append(left.Tests, x)
		}
	}
	return left
}

// hasTruth reports whether there is a truth of the trial.
func (w atWork) hasTruth() bool {
	for range w.truths() {
		return true
	}
	return false
}

// smallestSet returns the smallest set of tests that can be left out.
// All of them can be left out together, so that the search finds one.
func (w atWork) smallestSet() []int {
	enough := func(out []int) bool { return w.without(out).hasTruth() }
	set, _ := shortest(len(w.Tests), enough)
	return set
}

// shortest returns the shortest increasing list of numbers below count that is good, and whether any is;
// of several of the same length the lexicographically smallest one.
func shortest(count int, good func([]int) bool) (list []int, found bool) {
search:
	for size := range count + 1 {
		for l := range lists(count, size) {
			if good(l) {
				list, found = l, true
				break search
			}
		}
	}
	return list, found
}

// lists yields all increasing lists of so many numbers below count, in lexicographic order.
func lists(count, size int) iter.Seq[[]int] {
	return func(yield func([]int) bool) {
		var add func(list []int, next int) bool
		add = func(list []int, next int) bool {
			if len(list) == size {
				return yield(slices.Clone(list))
			}
			for ; next < count; next++ {
				if !add(append(list, next), next+1) {
					return false
				}
			}
			return true
		}
		add(nil, 0)
	}
}
