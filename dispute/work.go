package dispute

import (
	"iter"
	"slices"

	"saccharum/api"
	"saccharum/table"
)

// atWork is a valid dispute, with what those of its facts mean that were asked.
type atWork struct {
	Dispute
	means map[Fact]Range
}

// workOf returns the dispute at work, or its error.
func workOf(d Dispute) (atWork, api.Errno) {
	if e := CheckDispute(d); e != api.OK {
		return atWork{}, e
	}
	return atWork{Dispute: d, means: map[Fact]Range{}}, api.OK
}

// linkedWorkOf returns the dispute at work, or an error if it is not valid, or its links contradict each other.
func linkedWorkOf(d Dispute) (atWork, api.Errno) {
	w, e := workOf(d)
	if e != api.OK {
		return atWork{}, e
	}
	if !w.isLinked() {
		return atWork{}, api.ErrFail
	}
	return w, api.OK
}

// isLinked reports whether there are strengths for which all links hold.
func (w atWork) isLinked() bool { return w.hasTruth(slices.Values(w.Facts[:0])) }

// mean returns the range of strengths that the fact means.
func (w atWork) mean(x Fact) Range {
	if r, known := w.means[x]; known {
		return r
	}
	// The ranges of a valid fact have points of the table alone, so that there is no error.
	r, _ := table.Bounds(w.Table, table.Range(x.Warmth), table.Range(x.Mark))
	w.means[x] = Range(r)
	return Range(r)
}

// strengths returns all strengths that a sample may have.
func strengths() Range { return Range{Lo: 0, Hi: api.MaxDisputeStrength} }

// isTruth reports whether the list is a truth of the dispute.
func (w atWork) isTruth(truth []int) bool {
	holds := func(x Link) bool { return x.Differs.holds(truth[x.B] - truth[x.A]) }
	isRight := func(x Fact) bool { return w.mean(x).holds(truth[x.Sample]) }
	return len(truth) == w.Samples && all(truth, strengths().holds) && all(w.Links, holds) && all(w.Facts, isRight)
}

// zero is the number of the strength 0 among those that are held against each other; each sample has its own number.
const zero = api.MaxDisputeSamples

// apart tells, in the row of one strength and the column of another one, how far the other one can be above the one at most.
type apart [zero + 1][zero + 1]int

// anyApart returns how far strengths can be apart that nothing is known of.
// A dispute may have fewer samples: since nothing is said of the other ones, they change nothing.
func anyApart() apart {
	var a apart
	for i := range a {
		for j := range a {
			if i != j && j != zero {
				a[i][j] = strengths().Hi
			}
		}
	}
	return a
}

// narrow lets the other strength less the one be in the range alone.
func (a *apart) narrow(one, other int, differs Range) {
	a[one][other] = least(a[one][other], differs.Hi)
	a[other][one] = least(a[other][one], -differs.Lo)
}

// byOneBetween returns how far strengths can be apart by what is known of them, and of each of them and one between.
func (a apart) byOneBetween() apart {
	narrower := a
	for i := range a {
		for j := range a {
			for k := range a {
				narrower[i][j] = least(narrower[i][j], a[i][k]+a[k][j])
			}
		}
	}
	return narrower
}

// closed returns how far strengths can be apart by all that is known, and whether there are any such strengths.
// If there are, what follows needs each strength between only once, and each round has twice as many of them, so that soon nothing is narrower;
// if not, some strength is below itself, and farther with each round.
func (a apart) closed() (closed apart, possible bool) {
	for range len(a) {
		narrower := a.byOneBetween()
		if narrower == a {
			return a, true
		}
		a = narrower
	}
	return apart{}, false
}

// bounds returns the bounds of the strength of a sample, if the strengths are closed.
func (a apart) bounds(sample int) Range {
	return Range{Lo: -a[sample][zero], Hi: a[zero][sample]}
}

// bounds returns the bounds of the strengths of all samples in the truths in which the facts that count are right, and whether there are any.
func (w atWork) bounds(counting iter.Seq[Fact]) (bounds []Range, hasTruth bool) {
	known := anyApart()
	for _, x := range w.Links {
		known.narrow(x.A, x.B, x.Differs)
	}
	for x := range counting {
		known.narrow(zero, x.Sample, w.mean(x))
	}
	closed, possible := known.closed()
	if !possible {
		return nil, false
	}
	for sample := range w.Samples {
		bounds = append(bounds, closed.bounds(sample))
	}
	return bounds, true
}

// hasTruth reports whether there is a truth in which the facts that count are right.
func (w atWork) hasTruth(counting iter.Seq[Fact]) bool {
	_, hasTruth := w.bounds(counting)
	return hasTruth
}

// ends returns the greatest numbers of all ranges, if high is true, otherwise the least ones.
func ends(l []Range, high bool) []int {
	var numbers []int
	for _, r := range l {
		n := r.Lo
		if high {
			n = r.Hi
		}
		numbers = append(numbers, n)
	}
	return numbers
}

// least returns the minimum.
func least(first int, others ...int) int {
	for _, n := range others {
		first = min(first, n)
	}
	return first
}
