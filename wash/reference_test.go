package wash_test

import (
	"slices"

	"saccharum/api"
	"saccharum/wash"
	"saccharum/wort"
)

// What this file computes follows the definitions of the chapter word by word, and tries all truths.

func list(l ...int) []int { return l }

func to(low, high int) wash.Range { return wash.Range{Lo: low, Hi: high} }

func in(n int, r wash.Range) bool { return r.Lo <= n && n <= r.Hi }

// back reads each two numbers as a range.
func back(l ...int) wash.Back {
	return wash.Back{Gallons: to(l[0], l[1]), Before: to(l[2], l[3]), After: to(l[4], l[5]), Spirit: to(l[6], l[7])}
}

func backs(l ...wash.Back) []wash.Back { return l }

// liquor reads each two numbers as a range.
func liquor(l ...int) wash.Liquor {
	return wash.Liquor{Gallons: to(l[0], l[1]), Strength: to(l[2], l[3])}
}

func liquors(l ...wash.Liquor) []wash.Liquor { return l }

// of is a liquor of proof strength, whose yields are all of a range.
func of(low, high int) wash.Liquor { return liquor(low, high, 100, 100) }

// lost is a back of a simple period, whose yields are all of a range that is as wide at most as one may be.
func lost(low, high int) wash.Back { return back(500, 500, low, high, 0, 0, low, high) }

// simple is a period in which a tenth of a degree of spirit is a degree that was lost.
func simple(b []wash.Back, low, spirits []wash.Liquor) wash.Period {
	return wash.Period{Losses: list(0, 10, 20, 30, 40, 50, 60, 70, 80, 90, 100, 110), Backs: b, Low: low, Spirits: spirits}
}

func account(w, l, s int) wash.Account { return wash.Account{Wash: w, Low: l, Spirits: s} }

func truth(b []wash.Wash, low, spirits []wash.Proof) wash.Truth {
	return wash.Truth{Backs: b, Low: low, Spirits: spirits}
}

// washes reads each three numbers as what a back has.
func washes(l ...int) (out []wash.Wash) {
	for i := 0; i < len(l); i += 3 {
		out = append(out, wash.Wash{Gallons: l[i], After: l[i+1], Spirit: l[i+2]})
	}
	return out
}

// proofs reads each two numbers as what a liquor has.
func proofs(l ...int) (out []wash.Proof) {
	for i := 0; i < len(l); i += 2 {
		out = append(out, wash.Proof{Gallons: l[i], Strength: l[i+1]})
	}
	return out
}

// example is the period of the chapter's examples.
func example() wash.Period {
	return wash.Period{
		Losses:  list(0, 4, 9, 14),
		Backs:   backs(back(500, 500, 17, 17, 10, 10, 15, 15), back(1000, 1000, 15, 15, 5, 6, 20, 20)),
		Low:     liquors(liquor(60, 62, 40, 40)),
		Spirits: liquors(liquor(20, 21, 112, 120)),
	}
}

// changed is the period of the examples after a change.
func changed(change func(p *wash.Period)) wash.Period {
	p := example()
	change(&p)
	return p
}

// shown is a truth of the example.
func shown() wash.Truth {
	return truth(washes(500, 10, 15, 1000, 6, 20), proofs(60, 40), proofs(20, 112))
}

// wholes is how often the divisor is in the number. It divides by counting.
func wholes(n, divisor int) int {
	count := 0
	for divisor*(count+1) <= n {
		count++
	}
	return count
}

// washed is what a back has, and its yield.
type washed struct {
	of    wash.Wash
	yield int
}

// proved is what a liquor has, and its yield.
type proved struct {
	of    wash.Proof
	yield int
}

// washesOf is all that the back can have.
func washesOf(losses []int, b wash.Back) (l []washed) {
	for g := b.Gallons.Lo; g <= b.Gallons.Hi; g++ {
		for a := b.After.Lo; a <= b.After.Hi; a++ {
			for s := b.Spirit.Lo; s <= b.Spirit.Hi; s++ {
				before, e := wort.Original(losses, a, s)
				if e == api.OK && in(before, b.Before) {
					l = append(l, washed{of: wash.Wash{Gallons: g, After: a, Spirit: s}, yield: wholes(g*(before-a), 500)})
				}
			}
		}
	}
	return l
}

// proofsOf is all that the liquor can have.
func proofsOf(q wash.Liquor) (l []proved) {
	for g := q.Gallons.Lo; g <= q.Gallons.Hi; g++ {
		for s := q.Strength.Lo; s <= q.Strength.Hi; s++ {
			l = append(l, proved{of: wash.Proof{Gallons: g, Strength: s}, yield: wholes(g*s, 100)})
		}
	}
	return l
}

// yieldsOf are the yields of each entry, each of them once, in increasing order.
func yieldsOf(p wash.Period) (rows [][]int) {
	for _, b := range p.Backs {
		var l []int
		for _, x := range washesOf(p.Losses, b) {
			l = append(l, x.yield)
		}
		rows = append(rows, l)
	}
	for _, q := range slices.Concat(p.Low, p.Spirits) {
		var l []int
		for _, x := range proofsOf(q) {
			l = append(l, x.yield)
		}
		rows = append(rows, l)
	}
	for i, l := range rows {
		slices.Sort(l)
		rows[i] = slices.Compact(l)
	}
	return rows
}

// played is a truth with its accounts.
type played struct {
	truth    wash.Truth
	accounts wash.Account
}

// truthsOf are all truths of the period, which must not be wide.
func truthsOf(p wash.Period) []played {
	l := make([]played, 1)
	for _, b := range p.Backs {
		var more []played
		for _, before := range l {
			for _, x := range washesOf(p.Losses, b) {
				next := before
				next.truth.Backs = append(slices.Clone(before.truth.Backs), x.of)
				next.accounts.Wash += x.yield
				more = append(more, next)
			}
		}
		l = more
	}
	l = withLiquors(l, p.Low, func(next *played, x proved) {
		next.truth.Low = append(slices.Clone(next.truth.Low), x.of)
		next.accounts.Low += x.yield
	})
	return withLiquors(l, p.Spirits, func(next *played, x proved) {
		next.truth.Spirits = append(slices.Clone(next.truth.Spirits), x.of)
		next.accounts.Spirits += x.yield
	})
}

// withLiquors is each truth with all that the liquors can have.
func withLiquors(l []played, of []wash.Liquor, add func(next *played, x proved)) []played {
	for _, q := range of {
		var more []played
		for _, before := range l {
			for _, x := range proofsOf(q) {
				next := before
				add(&next, x)
				more = append(more, next)
			}
		}
		l = more
	}
	return l
}

// accountsOf are the accounts of some truths, each of them once.
func accountsOf(of []played) (l []wash.Account) {
	seen := map[wash.Account]bool{}
	for _, x := range of {
		if !seen[x.accounts] {
			l = append(l, x.accounts)
		}
		seen[x.accounts] = true
	}
	return l
}

// sums are all sums of one yield of each entry.
func sums(rows [][]int) []int {
	l := list(0)
	for _, row := range rows {
		var more []int
		for _, n := range l {
			for _, y := range row {
				more = append(more, n+y)
			}
		}
		slices.Sort(more)
		l = slices.Compact(more)
	}
	return l
}

// anyAccounts are the accounts of all truths of a period, which may be wide: the yields of an entry can be with all those of the others.
func anyAccounts(p wash.Period) (l []wash.Account) {
	rows, low, spirits := yieldsOf(p), len(p.Backs), len(p.Backs)+len(p.Low)
	for _, w := range sums(rows[:low]) {
		for _, n := range sums(rows[low:spirits]) {
			for _, s := range sums(rows[spirits:]) {
				l = append(l, account(w, n, s))
			}
		}
	}
	return l
}

func charge(a wash.Account) int { return max(a.Wash, a.Low, a.Spirits) }

func missing(a wash.Account) int { return max(max(a.Wash, a.Low)-a.Spirits, 0) }

func unexplained(a wash.Account) int { return max(a.Spirits-a.Wash, 0) }

func isHonest(a wash.Account) bool { return a.Spirits <= a.Low && a.Low <= a.Wash }

// six are the bounds of the accounts, the charge, what is missing and what is unexplained.
type six struct{ wash, low, spirits, charge, missing, unexplained wash.Range }

// boundsIn are the bounds in some truths.
func boundsIn(l []wash.Account) (b six) {
	span := func(of func(a wash.Account) int) wash.Range {
		r := to(of(l[0]), of(l[0]))
		for _, a := range l {
			r = to(min(r.Lo, of(a)), max(r.Hi, of(a)))
		}
		return r
	}
	return six{
		wash:    span(func(a wash.Account) int { return a.Wash }),
		low:     span(func(a wash.Account) int { return a.Low }),
		spirits: span(func(a wash.Account) int { return a.Spirits }),
		charge:  span(charge), missing: span(missing), unexplained: span(unexplained),
	}
}

// honesty is Always, Never or Open in some truths.
func honesty(l []wash.Account) int {
	honest := 0
	for _, a := range l {
		if isHonest(a) {
			honest++
		}
	}
	switch honest {
	case len(l):
		return wash.Always
	case 0:
		return wash.Never
	}
	return wash.Open
}

// without is the period without some entries, and how many of each kind are missing.
func without(p wash.Period, out []int) (others wash.Period, count [3]int) {
	others.Losses = p.Losses
	entry := 0
	isOut := func(kind int) bool {
		is := slices.Contains(out, entry)
		entry++
		if is {
			count[kind]++
		}
		return is
	}
	for _, b := range p.Backs {
		if !isOut(0) {
			others.Backs = append(others.Backs, b)
		}
	}
	for _, q := range p.Low {
		if !isOut(1) {
			others.Low = append(others.Low, q)
		}
	}
	for _, q := range p.Spirits {
		if !isOut(2) {
			others.Spirits = append(others.Spirits, q)
		}
	}
	return others, count
}

// canBeLeftOut reports whether the accounts of some truth of the others are honest with some yields of those that are left out.
// The most wash is added, and no spirits: with others the accounts are not honest if they are not with these.
func canBeLeftOut(p wash.Period, out []int) bool {
	others, count := without(p, out)
	return slices.ContainsFunc(anyAccounts(others), func(a wash.Account) bool {
		low := to(a.Low, a.Low+600*count[1])
		between := to(a.Spirits, a.Wash+600*count[0])
		return max(low.Lo, between.Lo) <= min(low.Hi, between.Hi)
	})
}

// subsets are all increasing lists of numbers below count: the shorter ones first, those of one length in lexicographic order.
func subsets(count int) (l [][]int) {
	for bits := range 1 << count {
		var s []int
		for i := range count {
			if bits>>i&1 == 1 {
				s = append(s, i)
			}
		}
		l = append(l, s)
	}
	slices.SortFunc(l, func(a, b []int) int {
		if len(a) != len(b) {
			return len(a) - len(b)
		}
		return slices.Compare(a, b)
	})
	return l
}

// entries is how many the period has.
func entries(p wash.Period) int { return len(p.Backs) + len(p.Low) + len(p.Spirits) }

// smallest is the smallest set of entries.
func smallest(p wash.Period) []int {
	for _, out := range subsets(entries(p)) {
		if canBeLeftOut(p, out) {
			return out
		}
	}
	panic("not even all entries can be left out")
}
