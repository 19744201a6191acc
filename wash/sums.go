package wash

import (
	"slices"

	"saccharum/api"
)

// sums has the sums that there can be: the element n is true if n is one.
// There may be as many entries of each kind, and none has a yield above MaxWashYield, whether it is left out or not.
type sums [api.MaxWashBacks*api.MaxWashYield + 1]bool

// plus returns the sums with a yield more, which is one of these.
func (s sums) plus(yields []int) sums {
	var more sums
	for n, is := range s {
		if !is {
			continue
		}
		for _, y := range yields {
			more[n+y] = true
		}
	}
	return more
}

// raised returns the sums with any number more, up to this one.
func (s sums) raised(most int) sums {
	var more sums
	reached := -1
	for n, is := range s {
		if is {
			reached = n + most
		}
		more[n] = n <= reached
	}
	return more
}

// sumsOf returns the sums of one yield of each entry; there are none if an entry has no yield.
func sumsOf(yields [][]int) sums {
	s := sums{0: true}
	for _, l := range yields {
		s = s.plus(l)
	}
	return s
}

// isSome reports whether there are any sums.
func (s sums) isSome() bool { return s != sums{} }

// span returns the range from the least to the greatest of some sums.
func (s sums) span() Range {
	r := Range{Lo: 0, Hi: len(s) - 1}
	for !s[r.Lo] {
		r.Lo++
	}
	for !s[r.Hi] {
		r.Hi--
	}
	return r
}

// totals has for each account the sums that it can be; there is a truth with any three of them, since no entry is of two accounts.
type totals struct{ wash, low, spirits sums }

// totals returns what the accounts can be if these entries are left out.
func (w atWork) totals(out ...int) totals {
	low, spirits := len(w.Backs), len(w.Backs)+len(w.Low)
	return totals{
		wash:    w.sums(0, low, out),
		low:     w.sums(low, spirits, out),
		spirits: w.sums(spirits, len(w.yields), out),
	}
}

// sums returns the sums of the entries from first to those before end, of which each that is left out has any yield.
func (w atWork) sums(first, end int, out []int) sums {
	var kept [][]int
	for entry := first; entry < end; entry++ {
		if !slices.Contains(out, entry) {
			kept = append(kept, w.yields[entry])
		}
	}
	left := end - first - len(kept)
	return sumsOf(kept).raised(left * api.MaxWashYield)
}

// areSome reports whether there are sums for each account, that is, whether there is a truth.
func (t totals) areSome() bool { return t.wash.isSome() && t.low.isSome() && t.spirits.isSome() }

// honest returns honest accounts that there can be, and whether there are any.
// If no low wines are between the greatest wash and the least spirits, none are between other ones.
func (t totals) honest() (a Account, found bool) {
	if !t.areSome() {
		return Account{}, false
	}
	wash, spirits := t.wash.span().Hi, t.spirits.span().Lo
	for low := spirits; low <= wash; low++ {
		if t.low[low] {
			return Account{Wash: wash, Low: low, Spirits: spirits}, true
		}
	}
	return Account{}, false
}
