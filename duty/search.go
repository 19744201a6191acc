package duty

import (
	"iter"
	"slices"
)

// keeps reports whether no debt is above the bond.
func (a Account) keeps(d debts) bool {
	isWithin := func(debt int) bool { return debt <= a.Bond }
	return all(d[:a.Last+1], isWithin)
}

// kept returns whether the bond is kept in the truths of the account.
func (w atWork) kept() int {
	count := 0
	for _, d := range w.known {
		if w.keeps(d) {
			count++
		}
	}
	switch count {
	case len(w.known):
		return Always
	case 0:
		return Never
	}
	return Perhaps
}

// keepsWith reports whether the bond is kept in each truth of the account with the payments of the plan.
func (w atWork) keepsWith(plan []int) bool {
	keeps := func(d debts) bool { return w.keeps(w.paid(d, plan)) }
	return all(w.known, keeps)
}

// paid returns what becomes of the debts in a truth by the payments of the plan.
// What the entries of a day do is told by the debts without the plan.
func (a Account) paid(without debts, plan []int) debts {
	var with debts
	var before, now int
	for day := range a.Last + 1 {
		done := without[day] - a.withInterest(before)
		before = without[day]
		now = a.withInterest(now) + done
		if slices.Contains(plan, day) {
			now -= a.Purse
		}
		with[day] = now
	}
	return with
}

// fewest returns the fewest payments, and whether any plan keeps the bond.
func (w atWork) fewest() (days []int, found bool) {
	return shortest(w.Last+1, Range.falling, w.keepsWith)
}

// without returns the account without some of its entries.
func (a Account) without(out []int) Account {
	var left []Entry
	for i, x := range a.Entries {
		if !slices.Contains(out, i) {
			left = append(left, x)
		}
	}
	a.Entries = left
	return a
}

// smallestSet returns the smallest set of entries that can be left out.
// All of them can be left out together, so that the search finds one.
func (a Account) smallestSet() []int {
	enough := func(out []int) bool { return newWork(a.without(out)).hasTruth() }
	set, _ := shortest(len(a.Entries), Range.rising, enough)
	return set
}

// shortest returns the shortest increasing list of numbers below count that is good, and whether any is;
// of several of the same length the first one, if each of its numbers is chosen in the order.
func shortest(count int, order func(Range) iter.Seq[int], good func([]int) bool) (list []int, found bool) {
search:
	for size := range count + 1 {
		for l := range lists(count, size, order) {
			if good(l) {
				list, found = l, true
				break search
			}
		}
	}
	return list, found
}

// lists yields all increasing lists of so many numbers below count, of which each number is chosen in the order:
// the lexicographically first ones come first if it is rising, and the last ones if it is falling.
func lists(count, size int, order func(Range) iter.Seq[int]) iter.Seq[[]int] {
	return func(yield func([]int) bool) {
		var add func(list []int, next int) bool
		add = func(list []int, next int) bool {
			if len(list) == size {
				return yield(slices.Clone(list))
			}
			for n := range order(Range{Lo: next, Hi: count - 1}) {
				if !add(append(list, n), n+1) {
					return false
				}
			}
			return true
		}
		add(nil, 0)
	}
}
