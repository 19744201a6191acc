package wash

import (
	"saccharum/api"
)

// question is what is computed of accounts: as an account grows, the answer either never falls or never rises.
type question struct{ answer func(a Account) int }

// wash returns the account of the backs.
func (a Account) wash() int { return a.Wash }

// low returns the account of the low wines.
func (a Account) low() int { return a.Low }

// spirits returns the account of the spirits.
func (a Account) spirits() int { return a.Spirits }

// charge returns what is charged.
func (a Account) charge() int { return greatest(a.Wash, a.Low, a.Spirits) }

// missing returns what is missing.
func (a Account) missing() int { return greatest(0, a.Wash-a.Spirits, a.Low-a.Spirits) }

// unexplained returns what is unexplained.
func (a Account) unexplained() int { return greatest(0, a.Spirits-a.Wash) }

// isHonest reports whether the accounts are honest.
func (a Account) isHonest() bool { return a.Spirits <= a.Low && a.Low <= a.Wash }

// totalsOf returns what the accounts of the period can be, or an error if it is not valid, or has no truth.
func totalsOf(p Period) (totals, api.Errno) {
	if e := CheckPeriod(p); e != api.OK {
		return totals{}, e
	}
	t := newWork(p).totals()
	if !t.areSome() {
		return totals{}, api.ErrFalse
	}
	return t, api.OK
}

// ask returns the bounds of the answers in all truths of the period.
func ask(p Period, q question) (Range, api.Errno) {
	t, e := totalsOf(p)
	if e != api.OK {
		return Range{}, e
	}
	return t.bounds(q), api.OK
}

// ends returns both ends of the range.
func (r Range) ends() [2]int { return [2]int{r.Lo, r.Hi} }

// corners returns all accounts of which each is the least or the greatest that it can be.
func (t totals) corners() []Account {
	var l []Account
	for _, wash := range t.wash.span().ends() {
		for _, low := range t.low.span().ends() {
			for _, spirits := range t.spirits.span().ends() {
				l = append(l, Account{Wash: wash, Low: low, Spirits: spirits})
			}
		}
	}
	return l
}

// bounds returns the bounds of the answers. They are reached at corners, since no answer turns between the ends of an account.
func (t totals) bounds(q question) Range {
	var l []int
	for _, a := range t.corners() {
		l = append(l, q.answer(a))
	}
	return Range{Lo: least(l[0], l[1:]...), Hi: greatest(l[0], l[1:]...)}
}

// alwaysHonest reports whether the accounts are honest in each truth: they are if they are at the corners.
func (t totals) alwaysHonest() bool { return all(t.corners(), Account.isHonest) }

// least returns the minimum.
func least(first int, others ...int) int {
	for _, n := range others {
		first = min(first, n)
	}
	return first
}

// greatest returns the maximum.
func greatest(first int, others ...int) int {
	for _, n := range others {
		first = max(first, n)
	}
	return first
}
