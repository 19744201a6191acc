package duty

import (
	"saccharum/api"
)

// kind is what entries of a kind have, and what they do: what happens reports whether it can be so.
type kind struct {
	units, pence Range
	// isOpen tells whether an entry may have several numbers of units.
	isOpen  bool
	happens func(l *ledger, x event, duty int) bool
}

// kinds returns all kinds of entries, by their numbers.
func kinds() [Statement + 1]kind {
	return [...]kind{
		Charge:    {units: Range{Lo: 0, Hi: api.MaxDutyUnits}, isOpen: true, happens: (*ledger).charge},
		Payment:   {pence: Range{Lo: 1, Hi: api.MaxDutyPence}, happens: (*ledger).pay},
		Drawback:  {units: Range{Lo: 1, Hi: api.MaxDutyUnits}, happens: (*ledger).drawBack},
		Statement: {pence: Range{Lo: -api.MaxDutyPence, Hi: api.MaxDutyPence}, happens: (*ledger).state},
	}
}

// tooLong reports whether the account has more rates or entries than it may.
func (a Account) tooLong() bool {
	return len(a.Rates) > api.MaxDutyRates || len(a.Entries) > api.MaxDutyEntries
}

// sound reports whether an account that is not too long is valid, but for the sizes of its ranges.
func (a Account) sound() bool {
	soundRate, soundEntry := a.soundRate, a.soundEntry
	lasts, interests, pence := Range{Lo: 0, Hi: api.MaxDutyLast}, Range{Lo: 0, Hi: api.MaxDutyInterest}, Range{Lo: 0, Hi: api.MaxDutyPence}
	return lasts.holds(a.Last) && interests.holds(a.Interest) && pence.holds(a.Bond) && pence.holds(a.Purse) &&
		all(a.Rates, soundRate) && increases(a.rateDays()) && all(a.Entries, soundEntry)
}

// soundRate reports whether a rate is valid beside the days of the account.
func (a Account) soundRate(r Rate) bool {
	pence := Range{Lo: 0, Hi: api.MaxDutyRate}
	return a.days().holds(r.Day) && pence.holds(r.Pence)
}

// soundEntry reports whether an entry is valid beside the days of the account.
func (a Account) soundEntry(x Entry) bool {
	numbers := Range{Lo: Charge, Hi: Statement}
	if !a.days().holds(x.Day) || !numbers.holds(x.Kind) {
		return false
	}
	k := kinds()[x.Kind]
	return x.Units.isPartOf(k.units) && k.pence.holds(x.Pence) && (k.isOpen || x.Units.Lo == x.Units.Hi)
}

// days returns all days.
func (a Account) days() Range { return Range{Lo: 0, Hi: a.Last} }

// rateDays returns the days of the rates.
func (a Account) rateDays() []int {
	var l []int
	for _, r := range a.Rates {
		l = append(l, r.Day)
	}
	return l
}

// unitListCount returns how many lists of units there are for the entries of an account that is valid otherwise.
func (a Account) unitListCount() int {
	count := 1
	for _, x := range a.Entries {
		count *= x.Units.Hi - x.Units.Lo + 1
	}
	return count
}

// isPlan reports whether the list is a plan of the valid account.
func (a Account) isPlan(days []int) bool { return increases(days) && all(days, a.days().holds) }

// may reports whether the entry can have so many units.
func (x Entry) may(units int) bool { return x.Units.holds(units) }

// holds reports whether a number is in the range.
func (r Range) holds(n int) bool { return r.Lo <= n && n <= r.Hi }

// isPartOf reports whether a range has numbers, and all of them are in the other one.
func (r Range) isPartOf(other Range) bool {
	return r.Lo <= r.Hi && other.holds(r.Lo) && other.holds(r.Hi)
}

// increases reports whether each element is greater than the one before it.
func increases(l []int) bool {
	for i := 1; i < len(l); i++ {
		if l[i-1] >= l[i] {
			return false
		}
	}
	return true
}

// all reports whether each element is as it should be.
func all[T any](l []T, is func(T) bool) bool {
	for _, x := range l {
		if !is(x) {
			return false
		}
	}
	return true
}

// agree reports whether both lists have as many elements, each of which is as it should be beside the one of the other list.
func agree[A, B any](l []A, m []B, is func(A, B) bool) bool {
	if len(l) != len(m) {
		return false
	}
	for i, x := range l {
		if !is(x, m[i]) {
			return false
		}
	}
	return true
}
