package dispute

import (
	"iter"
	"slices"

	"saccharum/api"
)

// numbered is a fact with its number.
type numbered struct {
	Fact
	number int
}

// itself returns the number of the fact.
func (n numbered) itself() int { return n.number }

// reader returns the number of the party that read.
func (n numbered) reader() int { return n.Party }

// side is what can be left out: how many of them there are, and which one a fact goes with.
type side struct {
	count int
	of    func(numbered) int
}

// facts returns the side of the facts.
func (w atWork) facts() side { return side{count: len(w.Facts), of: numbered.itself} }

// parties returns the side of the parties.
func (w atWork) parties() side { return side{count: w.Parties, of: numbered.reader} }

// without yields the facts that count if some of a side are left out.
func (w atWork) without(s side, out []int) iter.Seq[Fact] {
	return func(yield func(Fact) bool) {
		for i, x := range w.Facts {
			if !slices.Contains(out, s.of(numbered{Fact: x, number: i})) && !yield(x) {
				return
			}
		}
	}
}

// firstWrong returns the first wrong fact, and whether there is one.
func (w atWork) firstWrong() (fact int, found bool) {
	for i := range w.Facts {
		if !w.hasTruth(slices.Values(w.Facts[:i+1])) {
			return i, true
		}
	}
	return 0, false
}

// smallestSet returns the smallest set of a side that can be left out.
// All of them can be left out together if the links do not contradict each other, so that the search finds one.
func (w atWork) smallestSet(s side) []int {
	var set []int
search:
	for size := range s.count + 1 {
		for l := range lists(s.count, size) {
			if w.hasTruth(w.without(s, l)) {
				set = l
				break search
			}
		}
	}
	return set
}

// shortestSets returns all shortest lists of a side that can be left out.
func (w atWork) shortestSets(s side) [][]int {
	var sets [][]int
	for l := range lists(s.count, len(w.smallestSet(s))) {
		if w.hasTruth(w.without(s, l)) {
			sets = append(sets, l)
		}
	}
	return sets
}

// blame returns the parties that must be wrong, and those that may be.
func (w atWork) blame() (must, may []int) {
	sets := w.shortestSets(w.parties())
	for party := range w.Parties {
		has := func(l []int) bool { return slices.Contains(l, party) }
		if all(sets, has) {
			must = append(must, party)
		}
		if slices.ContainsFunc(sets, has) {
			may = append(may, party)
		}
	}
	return must, may
}

// charge returns the bounds of the charge on the gallons of the sample.
// No charge is less if the sample is stronger, so that both ends are charged at the ends of the strength.
func (w atWork) charge(sample, gallons int) Range {
	s := w.facts()
	bounds, _ := w.bounds(w.without(s, w.smallestSet(s)))
	strength := bounds[sample]
	return Range{Lo: gallons * strength.Lo / api.MaxDisputeWhole, Hi: gallons * strength.Hi / api.MaxDisputeWhole}
}

// costs returns for each party how many of the pence it bears.
func (w atWork) costs(pence int) []int {
	bearers, _ := w.blame()
	if len(bearers) == 0 {
		for party := range w.Parties {
			bearers = append(bearers, party)
		}
	}
	share, over := pence/len(bearers), pence%len(bearers)
	costs := make([]int, w.Parties)
	for i, party := range bearers {
		costs[party] = share
		if i < over {
			costs[party]++
		}
	}
	return costs
}

// lists yields all increasing lists of so many numbers below count, in lexicographic order.
func lists(count, size int) iter.Seq[[]int] {
	return func(yield func([]int) bool) {
		var add func(list []int, next int) bool
		add = func(list []int, next int) bool {
			if len(list) == size {
				return yield(slices.Clone(list))
			}
			for ; next < count; next++ {
				if !add(append(list, next), next+1) {
					return false
				}
			}
			return true
		}
		add(nil, 0)
	}
}
