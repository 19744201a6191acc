package book

import (
	"slices"

	"saccharum/api"
	"saccharum/duty"
)

// isOfDuty reports whether a part of an account, without its last day, is one of the package duty.
func isOfDuty(part duty.Account) bool {
	part.Last = api.MaxDutyLast
	return duty.CheckAccount(part) == api.OK
}

// rates adds a rate.
func (d *draft) rates(n []int) {
	r := duty.Rate{Day: n[0], Pence: n[1]}
	isNotBefore := func(other duty.Rate) bool { return other.Day >= r.Day }
	refuse(api.ErrRange, !isOfDuty(duty.Account{Rates: []duty.Rate{r}}))
	refuse(api.ErrState, slices.ContainsFunc(d.Account.Rates, isNotBefore))
	refuse(api.ErrLimit, len(d.Account.Rates) >= api.MaxDutyRates)
	d.Account.Rates = append(d.Account.Rates, r)
}

// interest changes the interest.
func (d *draft) interest(n []int) {
	refuse(api.ErrRange, n[0] > api.MaxDutyInterest)
	d.Account.Interest = n[0]
}

// bond changes the bond.
func (d *draft) bond(n []int) { d.Account.Bond = n[0] }

// purse changes the purse.
func (d *draft) purse(n []int) { d.Account.Purse = n[0] }

// charge adds a charge that is not levied.
func (d *draft) charge(n []int) {
	d.enter(duty.Entry{Kind: duty.Charge, Day: n[0], Units: duty.Range{Lo: n[1], Hi: n[2]}})
}

// levy adds a charge on a cask.
func (d *draft) levy(n []int) {
	d.enterOf(n[0], Source{Kind: OfCask, Number: n[1]}, hasNumber(d.Store.Casks, n[1]))
}

// brew adds a charge on a vessel.
func (d *draft) brew(n []int) {
	d.enterOf(n[0], Source{Kind: OfVessel, Number: n[1]}, hasNumber(d.House.Vessels, n[1]))
}

// pay adds a payment.
func (d *draft) pay(n []int) {
	d.enter(duty.Entry{Kind: duty.Payment, Day: n[0], Pence: n[1]})
}

// draw adds a drawback.
func (d *draft) draw(n []int) {
	d.enter(duty.Entry{Kind: duty.Drawback, Day: n[0], Units: duty.Range{Lo: n[1], Hi: n[1]}})
}

// owe adds a statement.
func (d *draft) owe(n []int) {
	d.enter(duty.Entry{Kind: duty.Statement, Day: n[0], Pence: n[1]})
}

// enter adds an entry that is not levied.
func (d *draft) enter(x duty.Entry) {
	refuse(api.ErrRange, !isOfDuty(duty.Account{Entries: []duty.Entry{x}}))
	d.add(x, Source{})
}

// enterOf adds a charge that is levied on a cask or a vessel, if there is this one; its units are found out with those of all others.
func (d *draft) enterOf(day int, s Source, isThere bool) {
	refuse(api.ErrRange, day > d.Account.Last)
	refuse(api.ErrNone, !isThere)
	d.add(duty.Entry{Kind: duty.Charge, Day: day}, s)
}

// add adds an entry with its source.
func (d *draft) add(x duty.Entry, s Source) {
	refuse(api.ErrLimit, len(d.Account.Entries) >= api.MaxDutyEntries)
	d.Account.Entries = append(d.Account.Entries, x)
	d.Sources = append(d.Sources, s)
}

// strike removes an entry.
func (d *draft) strike(n []int) {
	refuse(api.ErrNone, !hasNumber(d.Account.Entries, n[0]))
	d.Account.Entries = without(d.Account.Entries, n[0])
	d.Sources = without(d.Sources, n[0])
}
