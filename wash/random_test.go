package wash_test

import (
	"math/rand"
	"slices"

	"saccharum/api"
	"saccharum/wash"
	"saccharum/wort"
)

// What this file makes up is always the same, since each source of chance starts with a number of its own.

// between is a random number from low to high, often one of both.
func between(random *rand.Rand, low, high int) int {
	switch random.Intn(8) {
	case 0:
		return low
	case 1:
		return high
	}
	return low + random.Intn(high-low+1)
}

// around is a range with a number, from 0 to most, and so wide at most.
func around(random *rand.Rand, n, most, wide int) wash.Range {
	r := to(n-random.Intn(wide+1), n)
	r.Hi = r.Lo + random.Intn(wide+1)
	r.Lo = min(max(r.Lo, 0), most)
	r.Hi = min(max(r.Hi, r.Lo), most)
	return r
}

// randomLosses is a table of losses, now and then the longest, or the steepest.
func randomLosses(random *rand.Rand) []int {
	l := list(0)
	count, steep := 1+random.Intn(api.MaxWortLosses-1), 1+random.Intn(12)
	for i := range count {
		most := min(l[i]+1+random.Intn(steep), api.MaxWortDegrees-count+1+i)
		l = append(l, between(random, l[i]+1, max(most, l[i]+1)))
	}
	return l
}

// randomBack is a back that has a truth with about this yield; but for one in sixteen, which may have none.
func randomBack(random *rand.Rand, losses []int, yield, wide int) wash.Back {
	var b wash.Back
	after, spirit := between(random, 0, 30), between(random, 0, 10*(len(losses)-1))
	b.After, b.Spirit = around(random, after, api.MaxWortDegrees, wide), around(random, spirit, 10*(len(losses)-1), wide)
	before, _ := wort.Original(losses, b.After.Lo+random.Intn(b.After.Hi-b.After.Lo+1), b.Spirit.Lo+random.Intn(b.Spirit.Hi-b.Spirit.Lo+1))
	if random.Intn(16) == 0 {
		before += random.Intn(9) - 4
	}
	b.Before = around(random, before, api.MaxWortDegrees, random.Intn(wide+1))
	gallons := 500 * yield / max(before-b.After.Lo, 1)
	b.Gallons = around(random, min(gallons+random.Intn(9), api.MaxWashGallons), api.MaxWashGallons, wide)
	return b
}

// randomLiquor is a liquor that has a truth with about this yield, if it is not too much.
func randomLiquor(random *rand.Rand, yield, wide int) wash.Liquor {
	strength := between(random, 0, api.MaxWashStrength)
	if random.Intn(2) == 0 {
		strength = 90 + random.Intn(20)
	}
	gallons := min(100*yield/max(strength, 1)+random.Intn(2), api.MaxWashLiquor)
	return wash.Liquor{Gallons: around(random, gallons, api.MaxWashLiquor, wide), Strength: around(random, strength, api.MaxWashStrength, wide)}
}

// share is about a part of a total for one of so many.
func share(random *rand.Rand, total, count int) int {
	return max(0, total/count+random.Intn(7)-3)
}

// some is a count up to most, which is 0 now and then.
func some(random *rand.Rand, most int) int {
	if random.Intn(10) == 0 {
		return 0
	}
	return 1 + random.Intn(most)
}

// about is a number near one of the sums of the entries of some kind.
func about(random *rand.Rand, rows [][]int) int {
	l := sums(rows)
	if len(l) == 0 {
		return random.Intn(20)
	}
	return max(0, l[random.Intn(len(l))]+2-random.Intn(6))
}

// randomPeriod is one whose accounts are about the same, or not. Its ranges are so wide at most.
func randomPeriod(random *rand.Rand, wide int) wash.Period {
	p := wash.Period{Losses: randomLosses(random)}
	total := between(random, 0, 90)
	count := some(random, api.MaxWashBacks)
	for range count {
		p.Backs = append(p.Backs, randomBack(random, p.Losses, share(random, total, count), wide))
	}
	total = about(random, yieldsOf(p))
	if random.Intn(8) == 0 {
		total = 3 * api.MaxWashYield
	}
	count = some(random, api.MaxWashLow)
	for range count {
		p.Low = append(p.Low, randomLiquor(random, share(random, total, count), wide))
	}
	total = about(random, yieldsOf(p)[len(p.Backs):])
	count = some(random, api.MaxWashSpirits)
	for range count {
		p.Spirits = append(p.Spirits, randomLiquor(random, share(random, total, count), wide))
	}
	return p
}

// tries is how many truths a period would have if all numbers of the ranges were right.
func tries(p wash.Period) int {
	size := func(r wash.Range) int { return r.Hi - r.Lo + 1 }
	count := 1
	for _, b := range p.Backs {
		count *= size(b.Gallons) * size(b.After) * size(b.Spirit)
	}
	for _, q := range slices.Concat(p.Low, p.Spirits) {
		count *= size(q.Gallons) * size(q.Strength)
	}
	return count
}

// smallPeriods have few truths, so that all of them can be tried.
func smallPeriods() (l []wash.Period) {
	random := rand.New(rand.NewSource(1))
	for len(l) < 500 {
		if p := randomPeriod(random, 1+random.Intn(4)); tries(p) <= 2000 {
			l = append(l, p)
		}
	}
	return l
}

// widePeriods have ranges as wide as they may be.
func widePeriods() (l []wash.Period) {
	random := rand.New(rand.NewSource(2))
	for range 250 {
		l = append(l, randomPeriod(random, api.MaxWashWide))
	}
	return l
}

// eachSmall calls the function for each period that has few truths, with all of them.
func eachSmall(do func(p wash.Period, l []played)) {
	for _, p := range smallPeriods() {
		do(p, truthsOf(p))
	}
}

// eachPeriod calls the function for each period, with the accounts of all its truths.
func eachPeriod(do func(p wash.Period, l []wash.Account)) {
	eachSmall(func(p wash.Period, l []played) { do(p, accountsOf(l)) })
	for _, p := range widePeriods() {
		do(p, anyAccounts(p))
	}
}

// tight are periods most of which are never honest, with many entries that have to be left out.
func tight() (l []wash.Period) {
	random := rand.New(rand.NewSource(3))
	for range 300 {
		p := simple(nil, nil, nil)
		for range random.Intn(4) {
			n := random.Intn(12) * random.Intn(10)
			b := lost(n, n+random.Intn(3))
			if random.Intn(3) == 0 {
				b.After = to(120, 120)
			}
			p.Backs = append(p.Backs, b)
		}
		for range random.Intn(4) {
			n := random.Intn(7) * random.Intn(49)
			p.Low = append(p.Low, liquor(n, n+3, 198, 200))
		}
		for range random.Intn(4) {
			n := random.Intn(7) * random.Intn(49)
			p.Spirits = append(p.Spirits, liquor(n, n, 196, 200))
		}
		l = append(l, p)
	}
	return l
}
