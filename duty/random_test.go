package duty_test

import (
	"cmp"
	"math/rand"
	"slices"

	"saccharum/api"
	"saccharum/duty"
)

// What this file makes up is always the same, since each source of chance starts with a number of its own.

// limits are what a random account has at most: its last day, its entries, and the sizes of its charges multiplied.
type limits struct{ last, entries, truths int }

// between is a random number from low to high, often one of both.
func between(random *rand.Rand, low, high int) int {
	switch random.Intn(8) {
	case 0:
		return low
	case 1:
		return high
	}
	return low + random.Intn(high-low+1)
}

// randomRates are on some of the days, mostly from the first one on.
func randomRates(random *rand.Rand, last int) (l []duty.Rate) {
	days := random.Perm(last + 1)
	days = days[:min(len(days), random.Intn(api.MaxDutyRates+1))]
	slices.Sort(days)
	for i, day := range days {
		if i == 0 && random.Intn(4) > 0 {
			day = 0
		}
		l = append(l, rate(day, between(random, 0, api.MaxDutyRate)))
	}
	return l
}

// randomUnits is a range with a number of units, and so many numbers at most.
func randomUnits(random *rand.Rand, units, most int) duty.Range {
	size := 1 + random.Intn(min(most, api.MaxDutyUnits+1))
	low := min(max(0, units-random.Intn(size)), api.MaxDutyUnits+1-size)
	return to(low, low+size-1)
}

// randomEntries are on any days, and have no truths yet: what is drawn back, paid and stated is still open.
func randomEntries(random *rand.Rand, a duty.Account, most limits) (l []duty.Entry) {
	kinds := list(duty.Charge, duty.Charge, duty.Charge, duty.Charge, duty.Payment, duty.Payment, duty.Drawback, duty.Drawback, duty.Statement)
	left, wide := most.truths, 2+random.Intn(most.truths)
	for range random.Intn(most.entries + 1) {
		x := duty.Entry{Kind: kinds[random.Intn(len(kinds))], Day: random.Intn(a.Last + 1)}
		if x.Kind == duty.Charge {
			x.Units = randomUnits(random, between(random, 0, api.MaxDutyUnits), min(left, wide))
			left /= x.Units.Hi - x.Units.Lo + 1
		}
		l = append(l, x)
	}
	if random.Intn(2) == 0 {
		slices.SortStableFunc(l, func(x, y duty.Entry) int { return cmp.Compare(x.Day, y.Day) })
	}
	return l
}

// settle closes what is open, in the order in which it happens, so that some units are a truth in most accounts.
func settle(random *rand.Rand, a duty.Account) (units []int) {
	units = make([]int, len(a.Entries))
	order := make([]int, len(a.Entries))
	for i, x := range a.Entries {
		order[i] = i
		units[i] = between(random, x.Units.Lo, x.Units.Hi)
	}
	slices.SortStableFunc(order, func(i, j int) int { return cmp.Compare(a.Entries[i].Day, a.Entries[j].Day) })
	for _, i := range order {
		x := &a.Entries[i]
		debt := debtAfter(a, units, x.Day, i)
		switch x.Kind {
		case duty.Payment:
			x.Pence = between(random, 1, max(1, min(2*debt, api.MaxDutyPence)))
		case duty.Drawback:
			left := unitsBefore(a, units, duty.Charge, i) - unitsBefore(a, units, duty.Drawback, i)
			units[i] = between(random, 1, max(1, min(left, api.MaxDutyUnits)))
			x.Units = to(units[i], units[i])
		case duty.Statement:
			x.Pence = min(max(-api.MaxDutyPence, debt), api.MaxDutyPence)
		}
	}
	return units
}

// randomAccount is one in which the bond can be kept by a plan, or not.
func randomAccount(random *rand.Rand, most limits) duty.Account {
	a := duty.Account{Last: between(random, 0, most.last)}
	if random.Intn(4) > 0 {
		a.Interest = between(random, 1, api.MaxDutyInterest)
	}
	a.Rates = randomRates(random, a.Last)
	a.Entries = randomEntries(random, a, most)
	debts := debtsOf(a, settle(random, a))
	greatest := max(slices.Max(debts), 0)
	a.Bond = between(random, greatest/3, greatest+1)
	a.Purse = between(random, greatest/(2+random.Intn(6)), greatest/2)
	return a
}

// smallAccounts have few truths and, but for some, few days, so that all of them can be tried.
func smallAccounts() (l []duty.Account) {
	for i, most := range []limits{{4, 5, 20}, {3, 8, 30}, {0, 8, 30}, {6, 6, 12}} {
		random := rand.New(rand.NewSource(int64(i)))
		for range 200 {
			l = append(l, randomAccount(random, most))
		}
	}
	random := rand.New(rand.NewSource(4))
	for range 20 {
		l = append(l, randomAccount(random, limits{api.MaxDutyLast, api.MaxDutyEntries, 8}))
	}
	return l
}

// busyAccounts charge about as much as a purse on most days, so that several payments are needed.
func busyAccounts() (l []duty.Account) {
	random := rand.New(rand.NewSource(7))
	for range 200 {
		a := duty.Account{Last: 2 + random.Intn(5), Interest: random.Intn(3) * random.Intn(100), Purse: 100 + random.Intn(100)}
		a.Bond = a.Purse + random.Intn(2*a.Purse)
		a.Rates = rates(rate(0, 1+random.Intn(9)))
		for range 4 + random.Intn(5) {
			day := random.Intn(a.Last + 1)
			units := min((a.Purse/2+random.Intn(a.Purse))/a.Rates[0].Pence, api.MaxDutyUnits-1)
			a.Entries = append(a.Entries, charge(day, units, units+random.Intn(2)))
		}
		if random.Intn(2) == 0 {
			a.Entries[0] = state(a.Last, 0)
			settle(random, a)
		}
		l = append(l, a)
	}
	return l
}

// swappedAccounts have truths of which some have greater debts on some days, and others on others: a statement at the end allows many units.
func swappedAccounts() (l []duty.Account) {
	random := rand.New(rand.NewSource(8))
	for range 150 {
		a := duty.Account{Last: 3 + random.Intn(2), Interest: random.Intn(2) * random.Intn(30)}
		for day := range 4 {
			a.Rates = append(a.Rates, rate(day, 1+random.Intn(5)))
			a.Entries = append(a.Entries, charge(day, 0, 2+random.Intn(3)))
		}
		a.Entries = append(a.Entries, state(3, 0))
		greatest := slices.Max(debtsOf(a, settle(random, a)))
		a.Bond, a.Purse = greatest*3/4+random.Intn(greatest/4+2), 1+random.Intn(greatest/2+1)
		l = append(l, a)
	}
	return l
}

// wideAccounts have as many truths as there may be.
func wideAccounts() (l []duty.Account) {
	random := rand.New(rand.NewSource(5))
	for len(l) < 120 {
		a := randomAccount(random, limits{api.MaxDutyLast, api.MaxDutyEntries, api.MaxDutyTruths})
		if len(unitLists(a)) > 100 {
			l = append(l, a)
		}
	}
	return l
}

// wrongAccounts have drawbacks and statements many of which contradict each other.
func wrongAccounts() (l []duty.Account) {
	random := rand.New(rand.NewSource(6))
	for len(l) < 250 {
		a := randomAccount(random, limits{3, api.MaxDutyEntries, 12})
		for i := range a.Entries {
			x := &a.Entries[i]
			if random.Intn(2) == 0 {
				continue
			}
			switch x.Kind {
			case duty.Drawback:
				*x = back(x.Day, between(random, 1, api.MaxDutyUnits))
			case duty.Statement:
				x.Pence = max(x.Pence-random.Intn(40), -api.MaxDutyPence)
			case duty.Payment:
				*x = state(x.Day, random.Intn(3)*rateOn(a, x.Day))
			}
		}
		l = append(l, a)
	}
	return l
}

// allAccounts are all of them.
func allAccounts() []duty.Account {
	return slices.Concat(smallAccounts(), busyAccounts(), swappedAccounts(), wideAccounts(), wrongAccounts())
}
