package proof_test

import (
	"math"
	"math/rand"
	"slices"

	"saccharum/api"
	"saccharum/proof"
	"saccharum/table"
)

// What this file computes follows the definitions of the chapter word by word, and tries all that there is to try.

const lowest, huge = math.MinInt, math.MaxInt

// mostTruths is how many truths of a store are tried, at most.
const mostTruths = 1500

func list(l ...int) []int { return l }

func to(low, high int) proof.Range { return proof.Range{Lo: low, Hi: high} }

func in(n int, r proof.Range) bool { return r.Lo <= n && n <= r.Hi }

// ranges reads numbers as both ends of ranges.
func ranges(l ...int) (out []proof.Range) {
	for i := 0; i < len(l); i += 2 {
		out = append(out, to(l[i], l[i+1]))
	}
	return out
}

// says reads numbers as casks and tenths.
func says(l ...int) (out []proof.Declaration) {
	for i := 0; i < len(l); i += 2 {
		out = append(out, proof.Declaration{Cask: l[i], Tenths: l[i+1]})
	}
	return out
}

func cask(gallons int, warmth, mark proof.Range) proof.Cask {
	return proof.Cask{Gallons: gallons, Warmth: warmth, Mark: mark}
}

// example is the store of the chapter's examples.
func example() proof.Store {
	return proof.Store{
		Table: table.Table{Warmths: list(10, 14, 20), Marks: list(0, 10, 20), Values: [][]int{{900, 1260, 1800}, {810, 1179, 1728}, {720, 1080, 1530}}},
		Rate:  120,
		Casks: []proof.Cask{cask(50, to(10, 10), to(10, 10)), cask(30, to(14, 14), to(0, 1)), cask(20, to(20, 20), to(20, 20))},
	}
}

// even has a table in which the strength is the mark, from 0 to 60, at each warmth.
func even(rate int, casks ...proof.Cask) proof.Store {
	t := table.Table{Warmths: list(0, 40), Marks: list(0, 60), Values: [][]int{{0, 60}, {0, 60}}}
	return proof.Store{Table: t, Rate: rate, Casks: casks}
}

// steep has a table whose strengths are 0 at the marks 0 and 2, and this one at the mark 1, at each warmth.
func steep(top, rate int, casks ...proof.Cask) proof.Store {
	t := table.Table{Warmths: list(3, 4), Marks: list(0, 1, 2), Values: [][]int{{0, top, 0}, {0, top, 0}}}
	return proof.Store{Table: t, Rate: rate, Casks: casks}
}

// full is a store of all of the most: six casks of 99 gallons of all strengths.
func full() proof.Store {
	s := steep(api.MaxTableValue, api.MaxProofRate)
	for range api.MaxProofCasks {
		s.Casks = append(s.Casks, cask(99, to(3, 4), to(0, 2)))
	}
	return s
}

// copied is the store in memory of its own.
func copied(s proof.Store) proof.Store {
	s.Table.Warmths, s.Table.Marks, s.Casks = slices.Clone(s.Table.Warmths), slices.Clone(s.Table.Marks), slices.Clone(s.Casks)
	s.Table.Values = slices.Clone(s.Table.Values)
	for i, row := range s.Table.Values {
		s.Table.Values[i] = slices.Clone(row)
	}
	return s
}

func between(random *rand.Rand, low, high int) int { return low + random.Intn(high-low+1) }

// lines are as many rising numbers, from low to high.
func lines(random *rand.Rand, count, low, high int) []int {
	l := random.Perm(high - low + 1)[:count]
	slices.Sort(l)
	for i := range l {
		l[i] += low
	}
	return l
}

// anyTable has any lines, and values that do not differ by more than wide.
func anyTable(random *rand.Rand, wide int) table.Table {
	t := table.Table{Warmths: lines(random, between(random, 2, 5), 0, api.MaxTableWarmth), Marks: lines(random, between(random, 2, 5), 0, api.MaxTableMark)}
	low := between(random, 0, api.MaxTableValue-wide)
	for range t.Warmths {
		var row []int
		for range t.Marks {
			row = append(row, between(random, low, low+wide))
		}
		t.Values = append(t.Values, row)
	}
	return t
}

// steps has a table whose strengths are a list of values, one at each mark from 0 on, at each warmth.
func steps(random *rand.Rand) table.Table {
	t := table.Table{Warmths: list(0, 7), Marks: list(0, 1, 2, 3, 4), Values: [][]int{nil, nil}}
	for range t.Marks {
		n := between(random, 0, api.MaxTableValue)
		t.Values[0], t.Values[1] = append(t.Values[0], n), append(t.Values[1], n)
	}
	return t
}

// inner is a range from the first to the last line, or within it; often it is a single number.
func inner(random *rand.Rand, l []int, wide int) proof.Range {
	low := between(random, l[0], l[len(l)-1])
	return to(low, min(l[len(l)-1], low+random.Intn(wide)*random.Intn(2)))
}

// anyStore has so many casks, by the table, with ranges that are so wide at most.
func anyStore(random *rand.Rand, t table.Table, casks, wide int) proof.Store {
	s := proof.Store{Table: t, Rate: between(random, 0, api.MaxProofRate)}
	for range casks {
		s.Casks = append(s.Casks, cask(between(random, 1, 99), inner(random, t.Warmths, wide), inner(random, t.Marks, wide)))
	}
	return s
}

// stores are those of the examples, those at the limits, and others whose truths can all be tried; always the same ones.
func stores() []proof.Store {
	random := rand.New(rand.NewSource(1))
	l := []proof.Store{
		example(), even(7), even(200, cask(99, to(0, 40), to(60, 60))), even(0, cask(50, to(0, 0), to(1, 9))), even(1, cask(1, to(0, 0), to(0, 60))),
		even(33, cask(99, to(1, 2), to(50, 51)), cask(1, to(0, 0), to(0, 60))), steep(2000, 199, cask(99, to(3, 4), to(0, 2))), steep(700, 3, cask(7, to(3, 3), to(0, 0)), cask(8, to(3, 3), to(1, 1))),
	}
	for len(l) < 160 {
		t := anyTable(random, list(20, 100, 500, api.MaxTableValue)[len(l)/6%4])
		if random.Intn(4) == 0 {
			t = steps(random)
		}
		s := anyStore(random, t, 1+len(l)%api.MaxProofCasks, 1+random.Intn(4))
		if n := manyTruths(s); 1 < n && n <= mostTruths || n == 1 && len(l)%20 == 0 {
			l = append(l, s)
		}
	}
	return l
}

// wideStores have more truths than can be tried; always the same ones.
func wideStores() []proof.Store {
	random := rand.New(rand.NewSource(2))
	l := []proof.Store{full()}
	for len(l) < 40 {
		l = append(l, anyStore(random, anyTable(random, api.MaxTableValue), 1+len(l)%api.MaxProofCasks, 1+random.Intn(61)))
	}
	return l
}

// strengthRanges has for each cask the minimum and the maximum of the strengths at all points of its ranges.
func strengthRanges(s proof.Store) (l []proof.Range) {
	for _, c := range s.Casks {
		r := to(huge, lowest)
		for warmth := c.Warmth.Lo; warmth <= c.Warmth.Hi; warmth++ {
			for mark := c.Mark.Lo; mark <= c.Mark.Hi; mark++ {
				n, e := table.At(s.Table, warmth, mark)
				if e != api.OK {
					panic(e)
				}
				r = to(min(r.Lo, n), max(r.Hi, n))
			}
		}
		l = append(l, r)
	}
	return l
}

// manyTruths is the number of truths of the store, or one that is above mostTruths.
func manyTruths(s proof.Store) int {
	n := 1
	for _, r := range strengthRanges(s) {
		n = min(n, mostTruths+1) * (r.Hi - r.Lo + 1)
	}
	return n
}

// truths are all truths of a store.
func truths(s proof.Store) [][]int {
	l := [][]int{nil}
	for _, r := range strengthRanges(s) {
		var more [][]int
		for _, truth := range l {
			for n := r.Lo; n <= r.Hi; n++ {
				more = append(more, append(slices.Clone(truth), n))
			}
		}
		l = more
	}
	return l
}

// someTruths are all truths of a store, or both ends and some others if they are too many.
func someTruths(random *rand.Rand, s proof.Store) (l [][]int) {
	if manyTruths(s) <= mostTruths {
		return truths(s)
	}
	r := strengthRanges(s)
	for i := range 30 {
		var truth []int
		for _, q := range r {
			truth = append(truth, list(q.Lo, q.Hi, between(random, q.Lo, q.Hi))[min(i, 2)])
		}
		l = append(l, truth)
	}
	return l
}

// divided is n divided by d, rounded down; neither is below 0.
func divided(n, d int) int { return (n - n%d) / d }

// tenths are the tenths of proof gallons of some gallons with a strength.
func tenths(gallons, strength int) int { return divided(gallons*strength, 100) }

// allTenths are the tenths of proof gallons of all casks in a truth.
func allTenths(s proof.Store, truth []int) (l []int) {
	for i, c := range s.Casks {
		l = append(l, tenths(c.Gallons, truth[i]))
	}
	return l
}

// duty is the duty on all casks in a truth.
func duty(s proof.Store, truth []int) (sum int) {
	for _, n := range allTenths(s, truth) {
		pence := divided(n*s.Rate, 10)
		if pence*10 < n*s.Rate {
			pence++
		}
		sum += pence
	}
	return sum
}

// strength is the strength of a blend in a truth.
func strength(s proof.Store, casks []int, water int, truth []int) int {
	gallons, sum := water, 0
	for _, i := range casks {
		gallons += s.Casks[i].Gallons
		sum += s.Casks[i].Gallons * truth[i]
	}
	return divided(sum, gallons)
}

// bounds are the minimum and the maximum of what is counted, in all the truths.
func bounds(l [][]int, count func(truth []int) int) proof.Range {
	r := to(huge, lowest)
	for _, truth := range l {
		n := count(truth)
		r = to(min(r.Lo, n), max(r.Hi, n))
	}
	return r
}

// blend are the bounds of the strength of a blend.
func blend(s proof.Store, l [][]int, casks []int, water int) proof.Range {
	return bounds(l, func(truth []int) int { return strength(s, casks, water, truth) })
}

// subsets are all increasing lists of numbers below count, shorter ones first, then lexicographically smaller ones.
func subsets(count int) (l [][]int) {
	for bits := range 1 << count {
		var set []int
		for i := range count {
			if bits>>i&1 == 1 {
				set = append(set, i)
			}
		}
		l = append(l, set)
	}
	slices.SortFunc(l, func(a, b []int) int {
		if len(a) != len(b) {
			return len(a) - len(b)
		}
		return slices.Compare(a, b)
	})
	return l
}

// blends are the lists of casks of all blends of a store.
func blends(s proof.Store) [][]int { return subsets(len(s.Casks))[1:] }

// within reports whether all numbers of a range, which has some, are in the other one.
func within(r, other proof.Range) bool { return other.Lo <= r.Lo && r.Hi <= other.Hi }
