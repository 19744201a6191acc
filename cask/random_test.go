package cask_test

import (
	"math/rand"
	"slices"

	"saccharum/api"
	"saccharum/cask"
)

// What this file makes up is always the same, since each source of chance starts with a number of its own.

// between is a random number from low to high, often one of both.
func between(random *rand.Rand, low, high int) int {
	switch random.Intn(8) {
	case 0:
		return low
	case 1:
		return high
	}
	return low + random.Intn(high-low+1)
}

// within is a range from low to high whose ends differ by at most so much.
func within(random *rand.Rand, low, high, wide int) cask.Range {
	n := between(random, low, high)
	return to(n, min(high, n+random.Intn(wide+1)))
}

// randomCask has marks that differ by at most these, and a start and a leak that are at most so wide.
func randomCask(random *rand.Rand, dips, contents, start, leak int) cask.Cask {
	k := cask.Cask{Marks: marks(0, 0)}
	for range 1 + random.Intn(api.MaxCaskMarks-1) {
		last := k.Marks[len(k.Marks)-1]
		k.Marks = append(k.Marks, cask.Mark{Dip: last.Dip + 1 + random.Intn(dips), Content: last.Content + 1 + random.Intn(contents)})
	}
	k.Start, k.Leak = within(random, 0, holds(k), start), within(random, 0, api.MaxCaskLeak, leak)
	return k
}

// randomMove is from a cask, or to one, and at most so wide.
func randomMove(random *rand.Rand, c cask.Cellar, wide int) cask.Move {
	from := random.Intn(len(c.Casks)+1) - 1
	into := random.Intn(len(c.Casks)+1) - 1
	if from == into {
		return randomMove(random, c, wide)
	}
	most := 1 + max(holds(c.Casks[max(0, from)]), holds(c.Casks[max(0, into)]))/3
	return cask.Move{From: from, To: into, Quantity: within(random, 1, min(api.MaxCaskContent, most), wide)}
}

// smallCellar has few truths, and seldom none.
func smallCellar(random *rand.Rand) cask.Cellar {
	for {
		var c cask.Cellar
		for range 1 + random.Intn(api.MaxCaskCasks) {
			c.Casks = append(c.Casks, randomCask(random, 4, 12, 6, 3))
		}
		for range random.Intn(api.MaxCaskMoves + 1) {
			c.Moves = append(c.Moves, randomMove(random, c, 3))
		}
		if in(countOf(c), to(1+random.Intn(200), 1500)) && (random.Intn(12) == 0 || isPossible(c, anyTruth(random, c))) {
			return c
		}
	}
}

// jointCellar has casks whose dips are their contents, and of which nearly all that is not known is what was moved between them.
func jointCellar(random *rand.Rand) cask.Cellar {
	for {
		var c cask.Cellar
		for range 2 + random.Intn(2) {
			start := 15 + random.Intn(20)
			c.Casks = append(c.Casks, barrel(to(start, start+random.Intn(2)), to(0, random.Intn(2)), 0, 0, 50, 50))
		}
		for i := range 1 + random.Intn(2) {
			low := 1 + random.Intn(6)
			c.Moves = append(c.Moves, move(i, 1-i, low, low+3+random.Intn(6)))
		}
		if countOf(c) <= 1500 {
			return c
		}
	}
}

// countOf is the number of truths of the ranges.
func countOf(c cask.Cellar) int {
	count := 1
	for _, k := range c.Casks {
		count *= (k.Start.Hi - k.Start.Lo + 1) * (k.Leak.Hi - k.Leak.Lo + 1)
	}
	for _, m := range c.Moves {
		count *= m.Quantity.Hi - m.Quantity.Lo + 1
	}
	return count
}

// cellars have so few truths, and no gauges, that all of them can be tried.
func cellars() []cask.Cellar {
	l := []cask.Cellar{
		with(example(), nil), single(), joint(),
		{Casks: []cask.Cask{barrel(to(0, 1), to(0, 4), 0, 0, 1, 1)}},
		{Casks: []cask.Cask{barrel(to(0, 30), to(0, 4), 0, 0, 5, 3, 9, 30)}, Moves: []cask.Move{move(0, cask.Out, 1, 9)}},
		{Casks: []cask.Cask{barrel(to(1, 1), to(4, 4), 0, 0, 1, 1)}, Moves: []cask.Move{move(cask.Out, 0, 1, 9), move(cask.Out, 0, 1, 9)}},
		{Casks: []cask.Cask{barrel(to(0, 3), to(0, 4), 0, 0, 100, 3), barrel(to(999, 1000), to(0, 1), 0, 0, 1, 1000)}, Moves: []cask.Move{move(1, 0, 1, 3), move(0, 1, 1, 3)}},
	}
	random := rand.New(rand.NewSource(1))
	for range 40 {
		l = append(l, smallCellar(random), smallCellar(random), smallCellar(random), jointCellar(random))
	}
	return l
}

// wideCellar has the widest moves, and seldom no truth.
func wideCellar(random *rand.Rand, casks, contents, moves int) cask.Cellar {
	for {
		var c cask.Cellar
		for range casks {
			c.Casks = append(c.Casks, randomCask(random, 25, contents, 10, 4))
		}
		for range moves {
			c.Moves = append(c.Moves, randomMove(random, c, api.MaxCaskWide))
		}
		if isPossible(c, anyTruth(random, c)) {
			return c
		}
	}
}

// wideCellars have no gauges.
func wideCellars() []cask.Cellar {
	l := []cask.Cellar{full()}
	for i, r := range ranges(0, 12, 970, 985, 0, 7) {
		l[0].Casks[i].Start = r
	}
	random := rand.New(rand.NewSource(2))
	for i := range 7 {
		l = append(l, wideCellar(random, 1+i%3, 40+210*(i%2), 2+i%3))
	}
	return l
}

// some is a random number of the range.
func some(random *rand.Rand, r cask.Range) int { return r.Lo + random.Intn(r.Hi-r.Lo+1) }

// anyTruth is a random truth of the ranges; it is possible, if one is found soon.
func anyTruth(random *rand.Rand, c cask.Cellar) played {
	var p played
	for range 100 {
		var t cask.Truth
		for _, k := range c.Casks {
			t.Start, t.Leak = append(t.Start, some(random, k.Start)), append(t.Leak, some(random, k.Leak))
		}
		for _, m := range c.Moves {
			t.Quantity = append(t.Quantity, some(random, m.Quantity))
		}
		p = play(c, t)
		if isPossible(c, p) {
			break
		}
	}
	return p
}

// turned is a gauge that means the same, read from the other end.
func turned(c cask.Cellar, g cask.Gauge) cask.Gauge {
	d := depth(c.Casks[g.Cask])
	g.Dip, g.Dry = to(d-g.Dip.Hi, d-g.Dip.Lo), !g.Dry
	return g
}

// gaugeOf is a narrow gauge of the contents, which is right if these are possible; it is moved up to so much.
func gaugeOf(random *rand.Rand, c cask.Cellar, p played, wrong int) cask.Gauge {
	k, after := random.Intn(len(c.Casks)), random.Intn(len(c.Moves)+1)
	x, n := c.Casks[k], p.rows[k][after]
	low := 0
	for low < depth(x) && contentAt(x, low+1) <= n {
		low++
	}
	high := low
	for high < depth(x) && contentAt(x, high) < n {
		high++
	}
	by := random.Intn(2*wrong+1) - wrong
	low = min(depth(x), max(0, low+by-random.Intn(2)))
	high = max(low, min(depth(x), high+by+random.Intn(2)))
	g := wet(k, after, low, high)
	if random.Intn(2) == 0 {
		g = turned(c, g)
	}
	return g
}

// gaugeLists are lists of gauges that are right in one truth, of gauges of several truths, and of gauges with mistakes.
func gaugeLists(random *rand.Rand, c cask.Cellar) [][]cask.Gauge {
	lists := [][]cask.Gauge{nil}
	for i := range 12 {
		p := anyTruth(random, c)
		var l []cask.Gauge
		for range 1 + random.Intn(api.MaxCaskGauges) {
			wrong := 0
			switch {
			case i%4 == 1:
				p = anyTruth(random, c)
			case i%4 == 2 && random.Intn(3) == 0, i%4 == 3:
				wrong = 1 + random.Intn(4)
			}
			l = append(l, gaugeOf(random, c, p, wrong))
		}
		lists = append(lists, l)
	}
	return lists
}

// gauged are the cellars with lists of gauges.
func gauged(random *rand.Rand, of []cask.Cellar, lists int) (l []cask.Cellar) {
	for _, c := range of {
		for _, g := range gaugeLists(random, c)[:lists] {
			l = append(l, with(c, g))
		}
	}
	return l
}

// eachGauged calls the function for lists of gauges of each small cellar, with all truths of it without gauges, and with them.
func eachGauged(do func(c cask.Cellar, all, of []played)) {
	random := rand.New(rand.NewSource(3))
	for _, c := range cellars() {
		all := allTruths(c)
		for _, l := range gaugeLists(random, c) {
			c = with(c, slices.Clone(l))
			do(c, all, truthsOf(c, all, nil))
		}
	}
}
