package dispute_test

import (
	"math/rand"
	"slices"
	"sync"

	"saccharum/api"
	"saccharum/dispute"
	"saccharum/table"
)

// What this file makes up is always the same, since each source of chance starts with a number of its own.

// limits are what a random dispute has: how many samples and links, by how much the ends of a link are wrong or wide at most, and the chance that a fact, or a link, is wrong, in tenths.
type limits struct{ samples, links, wide, wrongFacts, wrongLinks int }

// inside is the number, or the end of the range that it is beyond.
func inside(n int, r dispute.Range) int { return min(max(n, r.Lo), r.Hi) }

// strengths are those that a sample may have.
func strengths() dispute.Range { return to(0, api.MaxDisputeStrength) }

// rising are so many numbers from 0 to the last one, in increasing order.
func rising(random *rand.Rand, count, last int) []int {
	l := random.Perm(last + 1)[:count]
	slices.Sort(l)
	return l
}

// randomTable has strengths that rise with the marks and fall with the warmth, but for some.
func randomTable(random *rand.Rand) table.Table {
	t := table.Table{Warmths: rising(random, 2+random.Intn(4), api.MaxTableWarmth), Marks: rising(random, 2+random.Intn(4), api.MaxTableMark)}
	first, rise, fall := random.Intn(1900), 1+random.Intn(6), random.Intn(4)
	for _, warmth := range t.Warmths {
		var row []int
		for _, mark := range t.Marks {
			row = append(row, inside(first+rise*mark-fall*warmth+random.Intn(5), strengths()))
		}
		t.Values = append(t.Values, row)
	}
	return t
}

// markOf is the mark whose strength at the warmth is nearest.
func markOf(t table.Table, warmth, strength int) (nearest int) {
	off := huge
	for mark := t.Marks[0]; mark <= t.Marks[len(t.Marks)-1]; mark++ {
		n, _ := table.At(t, warmth, mark)
		if o := max(n-strength, strength-n); o < off {
			nearest, off = mark, o
		}
	}
	return nearest
}

// around is a range about the number, within the lines.
func around(random *rand.Rand, n int, lines []int, wide int) dispute.Range {
	r := to(lines[0], lines[len(lines)-1])
	return to(inside(n-random.Intn(wide), r), inside(n+random.Intn(wide), r))
}

// randomFact is what a party read of a sample that has a strength; it can be wrong.
func randomFact(random *rand.Rand, d dispute.Dispute, truth []int, wrong int) dispute.Fact {
	f := dispute.Fact{Party: random.Intn(d.Parties), Sample: random.Intn(d.Samples)}
	warmths := d.Table.Warmths
	warmth := warmths[0] + random.Intn(warmths[len(warmths)-1]-warmths[0]+1)
	mark := markOf(d.Table, warmth, truth[f.Sample])
	if random.Intn(10) < wrong {
		mark = inside(mark+random.Intn(9)-4, to(d.Table.Marks[0], d.Table.Marks[len(d.Table.Marks)-1]))
	}
	f.Warmth, f.Mark = around(random, warmth, warmths, 3), around(random, mark, d.Table.Marks, 3)
	return f
}

// randomLink is one of both samples, in any order, that have strengths; it can be wrong.
func randomLink(random *rand.Rand, truth []int, a, b int, most limits) dispute.Link {
	if random.Intn(2) == 0 {
		a, b = b, a
	}
	n := truth[b] - truth[a]
	if random.Intn(10) < most.wrongLinks {
		n += random.Intn(2*most.wide+1) - most.wide
	}
	ends := to(-api.MaxDisputeStrength, api.MaxDisputeStrength)
	return link(a, b, inside(n-random.Intn(most.wide), ends), inside(n+random.Intn(most.wide), ends))
}

// middle is a strength that the table has.
func middle(random *rand.Rand, t table.Table) int {
	marks := t.Marks[len(t.Marks)-1] - t.Marks[0] + 1
	n, _ := table.At(t, t.Warmths[1], t.Marks[0]+random.Intn(marks))
	return n
}

// randomDispute has samples that are linked one after another, as far as the links go, and then any of them.
func randomDispute(random *rand.Rand, most limits) dispute.Dispute {
	d := dispute.Dispute{Table: randomTable(random), Samples: most.samples, Parties: 1 + random.Intn(api.MaxDisputeParties)}
	n := middle(random, d.Table)
	var truth []int
	for range d.Samples {
		truth = append(truth, inside(n+random.Intn(41)-20, strengths()))
	}
	for i := range most.links {
		b := 1 + i
		if b >= d.Samples {
			b = 1 + random.Intn(d.Samples-1)
		}
		a := random.Intn(b)
		d.Links = append(d.Links, randomLink(random, truth, a, b, most))
	}
	for range random.Intn(api.MaxDisputeFacts + 1) {
		d.Facts = append(d.Facts, randomFact(random, d, truth, most.wrongFacts))
	}
	return d
}

// narrowDisputes have few truths: one sample, or samples that links keep together.
func narrowDisputes() (l []dispute.Dispute) {
	random := rand.New(rand.NewSource(1))
	for _, most := range []limits{{1, 0, 1, 3, 0}, {1, 0, 1, 8, 0}, {2, 1, 6, 4, 0}, {2, 3, 6, 6, 1}, {3, 2, 4, 3, 0}, {3, 3, 5, 5, 1}, {3, 4, 5, 8, 2}} {
		for range 150 {
			l = append(l, randomDispute(random, most))
		}
	}
	return l
}

// wideDisputes have samples that nothing keeps together, or only wide links.
func wideDisputes() (l []dispute.Dispute) {
	random := rand.New(rand.NewSource(2))
	for _, most := range []limits{{2, 0, 1, 5, 0}, {2, 2, 40, 6, 3}, {3, 0, 1, 6, 0}, {3, 1, 9, 5, 0}, {3, 3, 30, 6, 3}, {3, 4, 25, 4, 2}, {3, 4, 900, 5, 3}} {
		for range 75 {
			l = append(l, randomDispute(random, most))
		}
	}
	return l
}

// farDisputes have samples whose strengths are as far apart as can be, or nearly.
func farDisputes() (l []dispute.Dispute) {
	random := rand.New(rand.NewSource(3))
	for len(l) < 240 {
		d := randomDispute(random, limits{2 + random.Intn(2), 0, 1, 5, 0})
		d.Facts = d.Facts[:min(3, len(d.Facts))]
		for range 1 + random.Intn(2) {
			low := api.MaxDisputeStrength - random.Intn(30)
			far := link(0, d.Samples-1, low, min(low+random.Intn(4), api.MaxDisputeStrength))
			if random.Intn(2) == 0 {
				far = link(1, 0, random.Intn(1200), 1500+random.Intn(501))
			}
			if random.Intn(2) == 0 {
				far = turned(far)
			}
			d.Links = append(d.Links, far)
		}
		l = append(l, d)
	}
	return l
}

// turned is the link from its other end.
func turned(x dispute.Link) dispute.Link { return link(x.B, x.A, -x.Differs.Hi, -x.Differs.Lo) }

// allReadings are those of all disputes, each of them read once.
var allReadings = sync.OnceValue(func() (l []reading) {
	for _, d := range narrowDisputes() {
		l = append(l, readNarrow(d))
	}
	for _, d := range slices.Concat(wideDisputes(), farDisputes()) {
		l = append(l, readWide(d))
	}
	return l
})

// linkedReadings are those of all disputes whose links do not contradict each other.
func linkedReadings() (l []reading) {
	for _, x := range allReadings() {
		if !x.isTorn() {
			l = append(l, x)
		}
	}
	return l
}
