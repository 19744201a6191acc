package duty_test

import (
	"slices"
	"testing"

	"saccharum/api"
	"saccharum/duty"
)

func TestP10_1CheckAccount(t *testing.T) {
	for _, x := range []struct {
		of   map[string]duty.Account
		want api.Errno
	}{{tooLong(), api.ErrLimit}, {tooWide(), api.ErrLimit}, {goodAccounts(), api.OK}, {badAccounts(), api.ErrArg}} {
		for name, a := range x.of {
			hasError(t, name, a, x.want)
		}
	}
	for _, a := range allAccounts() {
		hasError(t, "one of many", a, api.OK)
	}
}

// tooLong are accounts that have too many rates or entries.
func tooLong() map[string]duty.Account {
	bad, worse := charge(9, 5, 4), rate(huge, lowest)
	rising := rates(rate(0, 1), rate(1, 1), rate(2, 1), rate(3, 1), rate(4, 1))
	return map[string]duty.Account{
		"five rates":                        changed(func(a *duty.Account) { a.Rates = rising }),
		"five rates of one day":             changed(func(a *duty.Account) { a.Rates = make([]duty.Rate, 5) }),
		"five bad rates":                    changed(func(a *duty.Account) { a.Rates = slices.Repeat(rates(worse), 5) }),
		"a hundred rates":                   changed(func(a *duty.Account) { a.Rates = make([]duty.Rate, 100) }),
		"nine entries":                      changed(func(a *duty.Account) { a.Entries = make([]duty.Entry, 9) }),
		"nine bad entries":                  changed(func(a *duty.Account) { a.Entries = slices.Repeat(entries(bad), 9) }),
		"nine wide entries":                 changed(func(a *duty.Account) { a.Entries = slices.Repeat(entries(charge(0, 0, 50)), 9) }),
		"a hundred entries":                 changed(func(a *duty.Account) { a.Entries = make([]duty.Entry, 100) }),
		"five rates, and a bad day":         changed(func(a *duty.Account) { a.Last, a.Rates = 12, rising }),
		"five rates, and a bad entry":       changed(func(a *duty.Account) { a.Entries[0], a.Rates = bad, rising }),
		"nine entries, and a bad rate":      changed(func(a *duty.Account) { a.Rates[0], a.Entries = worse, make([]duty.Entry, 9) }),
		"nine entries, and a bad bond":      changed(func(a *duty.Account) { a.Bond, a.Entries = -1, make([]duty.Entry, 9) }),
		"five rates alone":                  {Rates: make([]duty.Rate, 5)},
		"nine entries alone":                {Entries: make([]duty.Entry, 9)},
		"five rates, and a last day of -1":  {Last: -1, Rates: make([]duty.Rate, 5)},
		"nine entries, and a last day of 5": {Last: 5, Interest: 999, Entries: make([]duty.Entry, 9)},
	}
}

// wideCharges has charges of so many numbers each.
func wideCharges(sizes ...int) duty.Account {
	return changed(func(a *duty.Account) {
		a.Entries = nil
		for i, size := range sizes {
			a.Entries = append(a.Entries, charge(i%5, 51-size, 50))
		}
	})
}

// tooWide are accounts that are valid, but for the sizes multiplied.
func tooWide() map[string]duty.Account {
	return map[string]duty.Account{
		"1001 units":               wideCharges(7, 11, 13),
		"1020 units":               wideCharges(51, 20),
		"1024 units":               wideCharges(2, 4, 4, 4, 4, 2),
		"1024 units, not two":      wideCharges(1, 32, 1, 32),
		"all units":                wideCharges(51, 51, 51, 51, 51, 51, 51, 51),
		"1001 units, with others":  changed(func(a *duty.Account) { a.Entries = append(wideCharges(7, 11, 13).Entries, pay(1, 1), back(4, 3)) }),
		"1002 units, and no truth": changed(func(a *duty.Account) { a.Entries = append(wideCharges(6, 50, 4).Entries, state(0, 1)) }),
	}
}

// goodAccounts are valid.
func goodAccounts() map[string]duty.Account {
	return map[string]duty.Account{
		"the example":               example(),
		"nothing":                   {},
		"empty lists":               {Rates: rates(), Entries: entries()},
		"four rates":                changed(func(a *duty.Account) { a.Rates = rates(rate(0, 0), rate(1, 100), rate(3, 7), rate(4, 7)) }),
		"a rate on the last day":    changed(func(a *duty.Account) { a.Rates = rates(rate(4, 1)) }),
		"rates that fall":           changed(func(a *duty.Account) { a.Rates = rates(rate(1, 100), rate(2, 50), rate(3, 0)) }),
		"eight entries":             changed(func(a *duty.Account) { a.Entries = slices.Repeat(entries(state(4, 7)), 8) }),
		"eight charges of nothing":  changed(func(a *duty.Account) { a.Entries = make([]duty.Entry, 8) }),
		"a thousand units":          wideCharges(10, 10, 10),
		"a thousand units, in many": wideCharges(1, 5, 5, 1, 5, 2, 2, 2),
		"1000 units of two":         wideCharges(50, 20),
		"999 units":                 wideCharges(27, 37),
		"a contradiction":           example(state(0, 830)),
		"drawbacks of nothing":      plain(0, 0, 0, back(0, 50), back(0, 1)),
		"the greatest numbers":      {Last: 11, Interest: 200, Bond: 100000, Purse: 100000, Rates: rates(rate(11, 100)), Entries: entries(charge(11, 50, 50), pay(11, 100000), back(11, 50), state(11, 100000), state(11, -100000))},
	}
}

// badAccounts are not valid.
func badAccounts() map[string]duty.Account {
	wide := wideCharges(51, 51).Entries
	return map[string]duty.Account{
		"a rate twice":                       changed(func(a *duty.Account) { a.Rates[1].Day = 0 }),
		"a last rate twice":                  changed(func(a *duty.Account) { a.Rates = rates(rate(0, 1), rate(3, 1), rate(3, 2)) }),
		"rates that do not rise":             changed(func(a *duty.Account) { a.Rates = rates(rate(3, 20), rate(0, 30)) }),
		"rates that do not rise at the end":  changed(func(a *duty.Account) { a.Rates = rates(rate(0, 20), rate(1, 20), rate(3, 20), rate(2, 30)) }),
		"a day less than a rate's":           changed(func(a *duty.Account) { a.Last, a.Entries = 2, nil }),
		"a day less than an entry's":         changed(func(a *duty.Account) { a.Last, a.Rates = 2, nil }),
		"no days":                            {Last: -1},
		"a bad day, and wide charges":        changed(func(a *duty.Account) { a.Last, a.Entries = 12, wide }),
		"a bad rate, and wide charges":       changed(func(a *duty.Account) { a.Rates[0].Pence, a.Entries = 101, wide }),
		"rates of a day, and wide charges":   changed(func(a *duty.Account) { a.Rates[0].Day, a.Entries = 3, wide }),
		"a bad entry after wide charges":     changed(func(a *duty.Account) { a.Entries = append(slices.Clone(wide), pay(0, 0)) }),
		"a bad entry before wide charges":    changed(func(a *duty.Account) { a.Entries = append(entries(back(5, 1)), wide...) }),
		"charges that are huge together":     changed(func(a *duty.Account) { a.Entries = slices.Repeat(entries(charge(0, lowest, huge)), 8) }),
		"a charge of more than all units":    changed(func(a *duty.Account) { a.Entries[0].Units = to(-1, 51) }),
		"the last of eight entries":          changed(func(a *duty.Account) { a.Entries = append(slices.Repeat(entries(state(4, 7)), 7), state(5, 7)) }),
		"a charge that has pence below 0":    changed(func(a *duty.Account) { a.Entries[0].Pence = -1 }),
		"a drawback that has pence below 0":  changed(func(a *duty.Account) { a.Entries[2].Pence = -1 }),
		"a payment that has several units":   changed(func(a *duty.Account) { a.Entries[1].Units = to(0, 1) }),
		"a statement that has several units": example(duty.Entry{Kind: duty.Statement, Units: to(0, 1)}),
		"a statement that has units":         example(duty.Entry{Kind: duty.Statement, Units: to(1, 1)}),
		"a drawback of several units":        changed(func(a *duty.Account) { a.Entries[2].Units = to(9, 10) }),
		"a drawback from none":               changed(func(a *duty.Account) { a.Entries[2].Units = to(0, 1) }),
	}
}

// TestP10_1Numbers has the least and the greatest of each number.
func TestP10_1Numbers(t *testing.T) {
	for _, x := range []struct {
		name      string
		low, high int
		of        func(a *duty.Account) *int
	}{
		{"the last day", 3, 11, func(a *duty.Account) *int { return &a.Last }}, {"the interest", 0, 200, func(a *duty.Account) *int { return &a.Interest }}, {"the bond", 0, 100000, func(a *duty.Account) *int { return &a.Bond }}, {"the purse", 0, 100000, func(a *duty.Account) *int { return &a.Purse }},
		{"the day of the first rate", 0, 2, func(a *duty.Account) *int { return &a.Rates[0].Day }}, {"the day of the last rate", 1, 4, func(a *duty.Account) *int { return &a.Rates[1].Day }}, {"the pence of the first rate", 0, 100, func(a *duty.Account) *int { return &a.Rates[0].Pence }}, {"the pence of the last rate", 0, 100, func(a *duty.Account) *int { return &a.Rates[1].Pence }},
		{"the day of a charge", 0, 4, func(a *duty.Account) *int { return &a.Entries[0].Day }}, {"the day of a payment", 0, 4, func(a *duty.Account) *int { return &a.Entries[1].Day }}, {"the day of a drawback", 0, 4, func(a *duty.Account) *int { return &a.Entries[2].Day }}, {"the day of a statement", 0, 4, func(a *duty.Account) *int { return &a.Entries[4].Day }},
		{"the pence of a charge", 0, 0, func(a *duty.Account) *int { return &a.Entries[0].Pence }}, {"the pence of a payment", 1, 100000, func(a *duty.Account) *int { return &a.Entries[1].Pence }}, {"the pence of a drawback", 0, 0, func(a *duty.Account) *int { return &a.Entries[2].Pence }}, {"the pence of a statement", -100000, 100000, func(a *duty.Account) *int { return &a.Entries[4].Pence }},
		// A charge of 20 units, in which a statement of 0 pence has no units, can be nothing else.
		{"the kind of a charge", 0, 0, func(a *duty.Account) *int { return &a.Entries[3].Kind }}, {"the kind of a statement", 3, 3, func(a *duty.Account) *int { return &a.Entries[5].Kind }},
	} {
		for _, n := range list(lowest, lowest+1, -100001, -100000, -99999, -2, -1, 0, 1, 2, 3, 4, 5, 10, 11, 12, 99, 100, 101, 199, 200, 201, 99999, 100000, 100001, huge-1, huge) {
			want := api.ErrArg
			if in(n, to(x.low, x.high)) {
				want = api.OK
			}
			a := example(state(1, 5), state(1, -5))
			a.Entries[3].Units = to(20, 21)
			*x.of(&a) = n
			hasError(t, x.name, a, want)
		}
	}
}

// TestP10_1Units has the valid and the invalid ranges of entries of each kind.
func TestP10_1Units(t *testing.T) {
	numbers := list(lowest, lowest+1, -2, -1, 0, 1, 2, 25, 49, 50, 51, 52, huge-1, huge)
	for _, low := range numbers {
		for _, high := range numbers {
			isOf := func(least, most int) bool { return least <= low && low <= high && high <= most }
			for kind, good := range map[int]bool{
				duty.Charge: isOf(0, 50), duty.Payment: isOf(0, 0), duty.Drawback: isOf(1, 50) && low == high, duty.Statement: isOf(0, 0),
				-1: false, 4: false, 5: false, lowest: false, huge: false,
			} {
				want := api.ErrArg
				if good {
					want = api.OK
				}
				x := duty.Entry{Kind: kind, Day: 2, Units: to(low, high)}
				if kind == duty.Payment || kind == duty.Statement {
					x.Pence = 7
				}
				hasError(t, "a range of units", plain(2, 0, 0, x), want)
			}
		}
	}
}

// hasError checks that each call has the error of its account, even if other arguments are invalid too.
func hasError(t *testing.T, name string, a duty.Account, want api.Errno) {
	if e := duty.CheckAccount(a); e != want {
		t.Errorf("%s: CheckAccount of %v: %v", name, a, e)
	}
	if want == api.OK {
		if _, e := duty.Leave(a); e != api.OK {
			t.Errorf("%s: Leave of %v: %v", name, a, e)
		}
		return
	}
	l, e := duty.Play(a, list(40, 0, 10, 20))
	m, f := duty.Play(a, nil)
	b, g := duty.Bounds(a)
	k, h := duty.Kept(a)
	p, i := duty.Pays(a)
	out, j := duty.Leave(a)
	for number, e := range []api.Errno{e, f, g, h, i, j} {
		if e != want {
			t.Errorf("%s: call %d with %v: %v", name, number, a, e)
		}
	}
	if len(l)+len(m)+len(b)+k+len(p)+len(out) != 0 {
		t.Errorf("%s: results beside an error, of %v", name, a)
	}
	if duty.ProvePays(a, nil, huge) || duty.ProvePays(a, list(0), huge) || duty.ProvePays(a, list(3), 1) {
		t.Errorf("%s: a proof about %v", name, a)
	}
}

// TestP10_1WrongNumbers has lists that have not one number of each entry's units.
func TestP10_1WrongNumbers(t *testing.T) {
	stated := example(state(0, 830))
	for _, x := range []struct {
		a     duty.Account
		truth []int
	}{
		{example(), nil}, {example(), list()}, {example(), list(40, 0, 10)}, {example(), list(40, 0, 10, 20, 0)}, {example(), list(0, 10, 20)}, {example(), list(40, 10, 20)}, {example(), make([]int, 100)},
		{example(), list(39, 0, 10, 20)}, {example(), list(43, 0, 10, 20)}, {example(), list(-40, 0, 10, 20)}, {example(), list(lowest, 0, 10, 20)}, {example(), list(huge, 0, 10, 20)},
		{example(), list(40, 1, 10, 20)}, {example(), list(40, -1, 10, 20)}, {example(), list(40, 200, 10, 20)}, {example(), list(40, 0, 9, 20)}, {example(), list(40, 0, 11, 20)}, {example(), list(40, 0, 0, 20)}, {example(), list(40, 0, -10, 20)}, {example(), list(40, 0, 10, 19)}, {example(), list(40, 0, 10, 21)}, {example(), list(40, 0, 10, huge)},
		{plain(0, 0, 0), list(0)}, {plain(0, 0, 0, charge(0, 0, 0)), nil}, {plain(0, 0, 0, state(0, 0)), nil}, {plain(0, 0, 0, state(0, 0)), list(1)}, {plain(0, 0, 0, state(0, 7)), list(7)}, {plain(0, 0, 0, state(0, -1)), list(-1)}, {plain(0, 0, 0, pay(0, 7)), list(7)},
		// Such a number comes before a statement, or a drawback, that is not right.
		{stated, list(41, 0, 10, 20)}, {stated, list(43, 0, 10, 20, 0)}, {stated, list(41, 0, 10, 20, 1)}, {stated, list(41, 0, 10, 20, 830)}, {plain(0, 0, 0, back(0, 1), charge(0, 1, 2)), list(1, 3)}, {plain(0, 0, 0, back(0, 1), charge(0, 1, 2)), list(0, 1)}, {plain(0, 0, 0, back(0, 1), charge(0, 1, 2)), list(1)},
	} {
		if l, e := duty.Play(x.a, x.truth); len(l) != 0 || e != api.ErrRange {
			t.Errorf("Play of %v, %v: %v, %v", x.a, x.truth, l, e)
		}
	}
}
