package duty_test

import (
	"slices"

	"saccharum/duty"
)

// What this file computes follows the definitions of the chapter word by word, and tries all truths.

const (
	huge   = 1<<63 - 1
	lowest = -1 << 63
)

func list(l ...int) []int { return l }

func to(low, high int) duty.Range { return duty.Range{Lo: low, Hi: high} }

func in(n int, r duty.Range) bool { return r.Lo <= n && n <= r.Hi }

// ranges reads each two numbers as a range.
func ranges(l ...int) (out []duty.Range) {
	for i := 0; i < len(l); i += 2 {
		out = append(out, to(l[i], l[i+1]))
	}
	return out
}

func rate(day, pence int) duty.Rate { return duty.Rate{Day: day, Pence: pence} }

func rates(l ...duty.Rate) []duty.Rate { return l }

func charge(day, low, high int) duty.Entry {
	return duty.Entry{Kind: duty.Charge, Day: day, Units: to(low, high)}
}

func pay(day, pence int) duty.Entry {
	return duty.Entry{Kind: duty.Payment, Day: day, Pence: pence}
}

func back(day, units int) duty.Entry {
	return duty.Entry{Kind: duty.Drawback, Day: day, Units: to(units, units)}
}

func state(day, pence int) duty.Entry {
	return duty.Entry{Kind: duty.Statement, Day: day, Pence: pence}
}

func entries(l ...duty.Entry) []duty.Entry { return l }

// example is the account of the chapter's examples, with further entries.
func example(more ...duty.Entry) duty.Account {
	return duty.Account{
		Last: 4, Interest: 100, Bond: 1000, Purse: 300,
		Rates:   rates(rate(0, 20), rate(3, 30)),
		Entries: append(entries(charge(0, 40, 42), pay(1, 200), back(2, 10), charge(3, 20, 20)), more...),
	}
}

// changed is the account of the examples after a change.
func changed(change func(a *duty.Account)) duty.Account {
	a := example()
	change(&a)
	return a
}

// plain has no interest, and a rate of 10 on all days.
func plain(last, bond, purse int, l ...duty.Entry) duty.Account {
	return duty.Account{Last: last, Bond: bond, Purse: purse, Rates: rates(rate(0, 10)), Entries: l}
}

// copied is the account in memory of its own.
func copied(a duty.Account) duty.Account {
	a.Rates, a.Entries = slices.Clone(a.Rates), slices.Clone(a.Entries)
	return a
}

// rateOn is the rate on the day.
func rateOn(a duty.Account, day int) int {
	for _, r := range slices.Backward(a.Rates) {
		if r.Day <= day {
			return r.Pence
		}
	}
	return 0
}

// interest is that of a day: the least number of pence that is not less than the ten thousandths.
func interest(a duty.Account, debt int) int {
	n := 0
	if debt > 0 {
		n = debt * a.Interest / 10000
		for n*10000 < debt*a.Interest {
			n++
		}
	}
	return n
}

// debtAfter is the debt on the day, after its interest and those of its entries whose numbers are below the count.
func debtAfter(a duty.Account, units []int, day, count int) int {
	debt := 0
	if day > 0 {
		before := debtAfter(a, units, day-1, len(a.Entries))
		debt = before + interest(a, before)
	}
	for i, x := range a.Entries[:count] {
		if x.Day != day {
			continue
		}
		switch x.Kind {
		case duty.Charge:
			debt += units[i] * rateOn(a, day)
		case duty.Payment:
			debt -= x.Pence
		case duty.Drawback:
			debt -= units[i] * rateOn(a, day)
		}
	}
	return debt
}

// debtsOf are the debts of all days with the units.
func debtsOf(a duty.Account, units []int) (l []int) {
	for day := range a.Last + 1 {
		l = append(l, debtAfter(a, units, day, len(a.Entries)))
	}
	return l
}

// unitsBefore are the units of all entries of the kind that happen before the entry.
func unitsBefore(a duty.Account, units []int, kind, entry int) int {
	sum := 0
	for i, x := range a.Entries {
		if x.Kind == kind && (x.Day < a.Entries[entry].Day || x.Day == a.Entries[entry].Day && i < entry) {
			sum += units[i]
		}
	}
	return sum
}

// isTruth reports whether the units, which are those of the entries, are a truth of the account.
func isTruth(a duty.Account, units []int) bool {
	for i, x := range a.Entries {
		switch x.Kind {
		case duty.Drawback:
			if units[i]+unitsBefore(a, units, duty.Drawback, i) > unitsBefore(a, units, duty.Charge, i) {
				return false
			}
		case duty.Statement:
			if debtAfter(a, units, x.Day, i) != x.Pence {
				return false
			}
		}
	}
	return true
}

// unitLists are all units that the entries can have.
func unitLists(a duty.Account) [][]int {
	l := [][]int{nil}
	for _, x := range a.Entries {
		var more [][]int
		for _, units := range l {
			for n := x.Units.Lo; n <= x.Units.Hi; n++ {
				more = append(more, append(slices.Clone(units), n))
			}
		}
		l = more
	}
	return l
}

// truthsOf are all truths of the account.
func truthsOf(a duty.Account) (l [][]int) {
	for _, units := range unitLists(a) {
		if isTruth(a, units) {
			l = append(l, units)
		}
	}
	return l
}

// playedOf are the debts of all days, in each of the truths.
func playedOf(a duty.Account, truths [][]int) (l [][]int) {
	for _, units := range truths {
		l = append(l, debtsOf(a, units))
	}
	return l
}

// boundsIn are the bounds of the debts of all days.
func boundsIn(played [][]int) (l []duty.Range) {
	for day := range played[0] {
		r := to(huge, lowest)
		for _, debts := range played {
			r = to(min(r.Lo, debts[day]), max(r.Hi, debts[day]))
		}
		l = append(l, r)
	}
	return l
}

// keptIn is Always, Never or Perhaps.
func keptIn(a duty.Account, played [][]int) int {
	kept := 0
	for _, debts := range played {
		if slices.Max(debts) <= a.Bond {
			kept++
		}
	}
	switch kept {
	case len(played):
		return duty.Always
	case 0:
		return duty.Never
	}
	return duty.Perhaps
}

// planKeeps reports whether the bond is kept in each of the truths with the payments of the plan, which are made after all entries.
func planKeeps(a duty.Account, truths [][]int, plan []int) bool {
	x := copied(a)
	for _, day := range plan {
		x.Entries = append(x.Entries, pay(day, a.Purse))
	}
	for _, units := range truths {
		if slices.Max(debtsOf(x, append(slices.Clone(units), make([]int, len(plan))...))) > a.Bond {
			return false
		}
	}
	return true
}

// subsets are all increasing lists of numbers below count: the shorter ones first, those of one length in lexicographic order.
func subsets(count int) (l [][]int) {
	for bits := range 1 << count {
		var s []int
		for i := range count {
			if bits>>i&1 == 1 {
				s = append(s, i)
			}
		}
		l = append(l, s)
	}
	slices.SortFunc(l, func(a, b []int) int {
		if len(a) != len(b) {
			return len(a) - len(b)
		}
		return slices.Compare(a, b)
	})
	return l
}

// plansOf are all plans: the shorter ones first, those of one length in the opposite of lexicographic order.
func plansOf(a duty.Account) [][]int {
	l := subsets(a.Last + 1)
	slices.SortStableFunc(l, func(a, b []int) int {
		if len(a) != len(b) {
			return len(a) - len(b)
		}
		return slices.Compare(b, a)
	})
	return l
}

// fewestOf are the fewest payments in the truths, and whether any plan keeps the bond.
func fewestOf(a duty.Account, truths [][]int) (plan []int, found bool) {
	for _, plan := range plansOf(a) {
		if planKeeps(a, truths, plan) {
			return plan, true
		}
	}
	return nil, false
}

// without is the account without some of its entries.
func without(a duty.Account, out []int) duty.Account {
	x := a
	x.Entries = nil
	for i, entry := range a.Entries {
		if !slices.Contains(out, i) {
			x.Entries = append(x.Entries, entry)
		}
	}
	return x
}

// smallestOf is the smallest set of entries.
func smallestOf(a duty.Account) []int {
	for _, out := range subsets(len(a.Entries)) {
		if len(truthsOf(without(a, out))) > 0 {
			return out
		}
	}
	panic("not even all entries can be left out")
}
