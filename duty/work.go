package duty

import (
	"iter"
	"maps"
	"slices"

	"saccharum/api"
)

// tenThousandths is how many of them, as the interest has them, are the whole.
const tenThousandths = 10000

// debts are those of the ends of all days; after the last day they are 0.
type debts [api.MaxDutyLast + 1]int

// allUnits has the units of each entry; after the last entry it has zeros.
type allUnits [api.MaxDutyEntries]int

// event is an entry with its units.
type event struct {
	Entry
	units int
}

// ledger is what has become of the events so far: the debt, and the units that were charged, less those that were drawn back.
type ledger struct{ debt, units int }

// atWork is a valid account, with all kinds of entries, the indexes of the entries of each day, the duties that were found out, and the debts in its truths, each of them once.
type atWork struct {
	Account
	kinds  [Statement + 1]kind
	ofDay  [api.MaxDutyLast + 1][]int
	duties map[event]int
	known  []debts
}

// newWork returns the valid account at work, of which no truths are known yet.
func newWork(a Account) atWork {
	w := atWork{Account: a, kinds: kinds(), duties: map[event]int{}}
	for i, x := range a.Entries {
		w.ofDay[x.Day] = append(w.ofDay[x.Day], i)
	}
	return w
}

// workOf returns the account at work with the debts in all its truths, or an error if it is not valid, or has none.
func workOf(a Account) (atWork, api.Errno) {
	if e := CheckAccount(a); e != api.OK {
		return atWork{}, e
	}
	w := newWork(a)
	found := map[debts]bool{}
	for d := range w.played() {
		found[d] = true
	}
	if len(found) == 0 {
		return atWork{}, api.ErrFail
	}
	// The greatest debts come first, since they are the first ones that do not keep the bond.
	w.known = slices.SortedFunc(maps.Keys(found), debts.greaterFirst)
	return w, api.OK
}

// unitsOf returns the units of a list that has one for each entry.
func unitsOf(l []int) allUnits {
	var units allUnits
	copy(units[:], l)
	return units
}

// greaterFirst compares the debts of two truths, so that the greater ones come first.
func (d debts) greaterFirst(other debts) int { return slices.Compare(other[:], d[:]) }

// unitLists yields all units that the entries can have, whatever the drawbacks and statements say.
func (a Account) unitLists() iter.Seq[allUnits] {
	return func(yield func(allUnits) bool) {
		var units allUnits
		var choose func(entry int) bool
		choose = func(entry int) bool {
			if entry == len(a.Entries) {
				return yield(units)
			}
			for n := range a.Entries[entry].Units.rising() {
				units[entry] = n
				if !choose(entry + 1) {
					return false
				}
			}
			return true
		}
		choose(0)
	}
}

// played yields the debts in each truth of the account.
func (w atWork) played() iter.Seq[debts] {
	return func(yield func(debts) bool) {
		for units := range w.unitLists() {
			d, isTruth := w.play(units)
			if isTruth && !yield(d) {
				return
			}
		}
	}
}

// hasTruth reports whether there is a truth of the account.
func (w atWork) hasTruth() bool {
	for range w.played() {
		return true
	}
	return false
}

// play returns the debts with the units, and whether these are a truth.
func (w atWork) play(units allUnits) (d debts, isTruth bool) {
	var l ledger
	for day := range w.Last + 1 {
		l.debt = w.withInterest(l.debt)
		for _, i := range w.ofDay[day] {
			x := event{Entry: w.Entries[i], units: units[i]}
			if !w.kinds[x.Kind].happens(&l, x, w.duty(x)) {
				return debts{}, false
			}
		}
		d[day] = l.debt
	}
	return d, true
}

// charge makes the debt greater by the duty.
func (l *ledger) charge(x event, duty int) bool {
	l.debt += duty
	l.units += x.units
	return true
}

// pay makes the debt smaller by the pence.
func (l *ledger) pay(x event, _ int) bool {
	l.debt -= x.Pence
	return true
}

// drawBack makes the debt smaller by the duty, and reports whether so much was charged.
func (l *ledger) drawBack(x event, duty int) bool {
	l.debt -= duty
	l.units -= x.units
	return l.units >= 0
}

// state reports whether the debt is just the pence.
func (l *ledger) state(x event, _ int) bool { return l.debt == x.Pence }

// duty returns the duty on the units of the event.
func (w atWork) duty(x event) int {
	if pence, known := w.duties[x]; known {
		return pence
	}
	pence := x.units * w.rateOn(x.Day)
	w.duties[x] = pence
	return pence
}

// rateOn returns the rate on the day.
func (a Account) rateOn(day int) int {
	pence := 0
	for _, r := range a.Rates {
		if r.Day <= day {
			pence = r.Pence
		}
	}
	return pence
}

// withInterest returns what becomes of a debt by the interest of a day.
func (a Account) withInterest(debt int) int {
	if debt <= 0 {
		return debt
	}
	// A division rounds down; so that it rounds up, just less than the divisor is added.
	return debt + (debt*a.Interest+tenThousandths-1)/tenThousandths
}

// bounds returns the bounds of the debts of all days.
func (w atWork) bounds() []Range {
	var bounds []Range
	for day := range w.Last + 1 {
		var l []int
		for _, d := range w.known {
			l = append(l, d[day])
		}
		bounds = append(bounds, Range{Lo: least(l[0], l[1:]...), Hi: greatest(l[0], l[1:]...)})
	}
	return bounds
}

// rising yields the numbers of the range in increasing order.
func (r Range) rising() iter.Seq[int] {
	return func(yield func(int) bool) {
		for n := r.Lo; n <= r.Hi; n++ {
			if !yield(n) {
				return
			}
		}
	}
}

// falling yields the numbers of the range in decreasing order.
func (r Range) falling() iter.Seq[int] {
	return func(yield func(int) bool) {
		for n := r.Hi; n >= r.Lo; n-- {
			if !yield(n) {
				return
			}
		}
	}
}

// least returns the minimum.
func least(first int, others ...int) int {
	for _, n := range others {
		first = min(first, n)
	}
	return first
}

// greatest returns the maximum.
func greatest(first int, others ...int) int {
	for _, n := range others {
		first = max(first, n)
	}
	return first
}
