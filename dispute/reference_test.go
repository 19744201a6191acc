package dispute_test

import (
	"math"
	"slices"

	"saccharum/api"
	"saccharum/dispute"
	"saccharum/table"
)

// What this file computes follows the definitions of the chapter word by word, and tries all truths.

const lowest, huge = math.MinInt, math.MaxInt

func list(l ...int) []int { return l }

func to(low, high int) dispute.Range { return dispute.Range{Lo: low, Hi: high} }

func in(n int, r dispute.Range) bool { return r.Lo <= n && n <= r.Hi }

// ranges reads each two numbers as a range.
func ranges(l ...int) (out []dispute.Range) {
	for i := 0; i < len(l); i += 2 {
		out = append(out, to(l[i], l[i+1]))
	}
	return out
}

func link(a, b, low, high int) dispute.Link { return dispute.Link{A: a, B: b, Differs: to(low, high)} }

func links(l ...dispute.Link) []dispute.Link { return l }

// read is a fact: what a party read of a sample, at one warmth, with marks from one to another one.
func read(party, sample, warmth, low, high int) dispute.Fact {
	return dispute.Fact{Party: party, Sample: sample, Warmth: to(warmth, warmth), Mark: to(low, high)}
}

func facts(l ...dispute.Fact) []dispute.Fact { return l }

// grid is the table of the examples of chapter 2.
func grid() table.Table {
	return table.Table{Warmths: list(10, 14, 20), Marks: list(0, 10, 20), Values: [][]int{{100, 140, 200}, {90, 131, 192}, {80, 120, 170}}}
}

// straight is a table whose strength is the mark, so many times, less the warmth, and with so much more.
func straight(times, more int) table.Table {
	return table.Table{Warmths: list(0, 1), Marks: list(0, 60), Values: [][]int{{more, more + 60*times}, {more - 1, more - 1 + 60*times}}}
}

// example is the dispute of the chapter's examples, with further facts.
func example(more ...dispute.Fact) dispute.Dispute {
	return dispute.Dispute{
		Table: grid(), Samples: 2, Parties: 3,
		Links: links(link(0, 1, -3, 0)),
		Facts: append(facts(read(0, 0, 12, 5, 6), read(1, 0, 14, 2, 3), read(2, 1, 10, 4, 4)), more...),
	}
}

// changed is the dispute of the examples after a change.
func changed(change func(d *dispute.Dispute)) dispute.Dispute {
	d := example()
	change(&d)
	return d
}

// agreed is the dispute of the examples without its wrong fact.
func agreed() dispute.Dispute { return without(example(), list(1)) }

// plain has a table whose strength at the warmth 0 is the mark and 100.
func plain(samples, parties int, links []dispute.Link, l ...dispute.Fact) dispute.Dispute {
	return dispute.Dispute{Table: straight(1, 100), Samples: samples, Parties: parties, Links: links, Facts: l}
}

// torn has links that contradict each other.
func torn(l ...dispute.Fact) dispute.Dispute {
	return plain(2, 2, links(link(0, 1, 1, 2), link(1, 0, 0, 1)), l...)
}

// copied is the dispute in memory of its own.
func copied(d dispute.Dispute) dispute.Dispute {
	d.Links, d.Facts = slices.Clone(d.Links), slices.Clone(d.Facts)
	return d
}

// without is the dispute without some of its facts.
func without(d dispute.Dispute, out []int) dispute.Dispute {
	x := d
	x.Facts = nil
	for i, f := range d.Facts {
		if !slices.Contains(out, i) {
			x.Facts = append(x.Facts, f)
		}
	}
	return x
}

// factsOf are the indexes of all facts of the parties.
func factsOf(d dispute.Dispute, parties []int) (l []int) {
	for i, f := range d.Facts {
		if slices.Contains(parties, f.Party) {
			l = append(l, i)
		}
	}
	return l
}

// none is a range that nothing has widened yet.
func none() dispute.Range { return to(huge, lowest) }

// wider is the range with one more number.
func wider(r dispute.Range, n int) dispute.Range { return to(min(r.Lo, n), max(r.Hi, n)) }

// both is what is in both ranges.
func both(r, s dispute.Range) dispute.Range { return to(max(r.Lo, s.Lo), min(r.Hi, s.Hi)) }

// meaning is the range of the strengths at all points of both ranges of a fact.
func meaning(d dispute.Dispute, f dispute.Fact) dispute.Range {
	r := none()
	for warmth := f.Warmth.Lo; warmth <= f.Warmth.Hi; warmth++ {
		for mark := f.Mark.Lo; mark <= f.Mark.Hi; mark++ {
			strength, e := table.At(d.Table, warmth, mark)
			if e != api.OK {
				panic(e)
			}
			r = wider(r, strength)
		}
	}
	return r
}

// meanings are those of all facts.
func meanings(d dispute.Dispute) (l []dispute.Range) {
	for _, f := range d.Facts {
		l = append(l, meaning(d, f))
	}
	return l
}

// isLinked reports whether all links hold.
func isLinked(d dispute.Dispute, truth []int) bool {
	for _, x := range d.Links {
		if !in(truth[x.B]-truth[x.A], x.Differs) {
			return false
		}
	}
	return true
}

// right are the bits of the facts that are right.
func right(d dispute.Dispute, meanings []dispute.Range, truth []int) (bits int) {
	for i, f := range d.Facts {
		if in(truth[f.Sample], meanings[i]) {
			bits |= 1 << i
		}
	}
	return bits
}

// eachTruth calls the function for each list of strengths for which all links hold.
func eachTruth(d dispute.Dispute, do func(truth []int)) {
	truth := make([]int, d.Samples)
	var choose func(sample int)
	choose = func(sample int) {
		if sample == d.Samples {
			do(truth)
			return
		}
		r := to(0, api.MaxDisputeStrength)
		for _, x := range d.Links {
			switch {
			case x.B == sample && x.A < sample:
				r = both(r, to(truth[x.A]+x.Differs.Lo, truth[x.A]+x.Differs.Hi))
			case x.A == sample && x.B < sample:
				r = both(r, to(truth[x.B]-x.Differs.Hi, truth[x.B]-x.Differs.Lo))
			}
		}
		for n := r.Lo; n <= r.Hi; n++ {
			truth[sample] = n
			choose(sample + 1)
		}
	}
	choose(0)
}

// reading is a dispute with the bounds of all strengths in the truths in which the facts of the bits are right; nil if there are none.
type reading struct {
	d      dispute.Dispute
	bounds [][]dispute.Range
}

// hull is the bounds of both; nil are those of no truth.
func hull(a, b []dispute.Range) []dispute.Range {
	if a == nil {
		return b
	}
	l := slices.Clone(a)
	for i, r := range b {
		l[i] = to(min(l[i].Lo, r.Lo), max(l[i].Hi, r.Hi))
	}
	return l
}

// readNarrow is the reading of a dispute with few truths, by all of them.
func readNarrow(d dispute.Dispute) reading {
	meanings := meanings(d)
	found := map[int][]dispute.Range{}
	eachTruth(d, func(truth []int) {
		bits := right(d, meanings, truth)
		l, is := found[bits]
		if !is {
			l = slices.Repeat([]dispute.Range{none()}, d.Samples)
			found[bits] = l
		}
		for i, n := range truth {
			l[i] = wider(l[i], n)
		}
	})
	x := reading{d: d}
	for asked := range 1 << len(d.Facts) {
		var l []dispute.Range
		for bits, r := range found {
			if bits&asked == asked {
				l = hull(l, r)
			}
		}
		x.bounds = append(x.bounds, l)
	}
	return x
}

// differs is what the links leave for the strength of the one sample less that of the other one.
func differs(d dispute.Dispute, one, other int) dispute.Range {
	r := to(-api.MaxDisputeStrength, api.MaxDisputeStrength)
	for _, x := range d.Links {
		switch {
		case x.A == other && x.B == one:
			r = both(r, x.Differs)
		case x.A == one && x.B == other:
			r = both(r, to(-x.Differs.Hi, -x.Differs.Lo))
		}
	}
	return r
}

// boundsBy are the bounds by all strengths of the sample 0: with one of them each of the other samples has a range,
// and the links of both of these leave a part of each.
func boundsBy(d dispute.Dispute, meanings []dispute.Range, asked int) []dispute.Range {
	given := [3]dispute.Range{to(0, 2000), to(0, 2000), to(0, 2000)}
	for i, f := range d.Facts {
		if asked>>i&1 == 1 {
			given[f.Sample] = both(given[f.Sample], meanings[i])
		}
	}
	one, two, between := differs(d, 1, 0), differs(d, 2, 0), differs(d, 2, 1)
	found := [3]dispute.Range{none(), none(), none()}
	for n := given[0].Lo; n <= given[0].Hi; n++ {
		r := both(given[1], to(n+one.Lo, n+one.Hi))
		s := both(given[2], to(n+two.Lo, n+two.Hi))
		if r.Lo > r.Hi || s.Lo > s.Hi || between.Lo > between.Hi || s.Hi-r.Lo < between.Lo || s.Lo-r.Hi > between.Hi {
			continue
		}
		for i, x := range [3]dispute.Range{to(n, n), both(r, to(s.Lo-between.Hi, s.Hi-between.Lo)), both(s, to(r.Lo+between.Lo, r.Hi+between.Hi))} {
			found[i] = to(min(found[i].Lo, x.Lo), max(found[i].Hi, x.Hi))
		}
	}
	if found[0] == none() {
		return nil
	}
	return slices.Clone(found[:d.Samples])
}

// readWide is the reading of a dispute that may have many truths, by the strengths of its sample 0.
func readWide(d dispute.Dispute) reading {
	x := reading{d: d}
	meanings := meanings(d)
	for asked := range 1 << len(d.Facts) {
		x.bounds = append(x.bounds, boundsBy(d, meanings, asked))
	}
	return x
}

// subsets are all increasing lists of numbers below count: the shorter ones first, those of one length in lexicographic order.
func subsets(count int) (l [][]int) {
	for bits := range 1 << count {
		var s []int
		for i := range count {
			if bits>>i&1 == 1 {
				s = append(s, i)
			}
		}
		l = append(l, s)
	}
	slices.SortFunc(l, func(a, b []int) int {
		if len(a) != len(b) {
			return len(a) - len(b)
		}
		return slices.Compare(a, b)
	})
	return l
}

// isTorn reports whether there is no truth even without facts.
func (x reading) isTorn() bool { return x.bounds[0] == nil }

// all are the bounds in all truths of the dispute.
func (x reading) all() []dispute.Range { return x.bounds[len(x.bounds)-1] }

// left are the bounds if some facts are left out.
func (x reading) left(out []int) []dispute.Range {
	asked := len(x.bounds) - 1
	for _, i := range out {
		asked &^= 1 << i
	}
	return x.bounds[asked]
}

// first is the first wrong fact, or -1.
func (x reading) first() int {
	for i := range x.d.Facts {
		if x.bounds[1<<(i+1)-1] == nil {
			return i
		}
	}
	return -1
}

// leave is the smallest set of facts.
func (x reading) leave() []int {
	for _, out := range subsets(len(x.d.Facts)) {
		if x.left(out) != nil {
			return out
		}
	}
	panic("not even all facts can be left out")
}

// believe are all shortest lists of parties that can be left out; the first one is the smallest set.
func (x reading) believe() (l [][]int) {
	for _, out := range subsets(x.d.Parties) {
		if x.left(factsOf(x.d, out)) != nil && (len(l) == 0 || len(out) == len(l[0])) {
			l = append(l, out)
		}
	}
	return l
}

// blame are the parties of all shortest lists, and of some.
func (x reading) blame() (must, may []int) {
	lists := x.believe()
	for party := range x.d.Parties {
		count := 0
		for _, l := range lists {
			if slices.Contains(l, party) {
				count++
			}
		}
		if count == len(lists) {
			must = append(must, party)
		}
		if count > 0 {
			may = append(may, party)
		}
	}
	return must, may
}

// charge are the bounds of the charge.
func (x reading) charge(sample, gallons int) dispute.Range {
	r := none()
	s := x.left(x.leave())[sample]
	for strength := s.Lo; strength <= s.Hi; strength++ {
		r = wider(r, gallons*strength/1000)
	}
	return r
}

// costs deals the pence out, one by one.
func (x reading) costs(pence int) []int {
	bearers, _ := x.blame()
	if len(bearers) == 0 {
		bearers = list(0, 1, 2, 3)[:x.d.Parties]
	}
	l := make([]int, x.d.Parties)
	for i := range pence {
		l[bearers[i%len(bearers)]]++
	}
	return l
}
