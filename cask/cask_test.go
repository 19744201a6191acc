package cask_test

import (
	"math"
	"math/rand"
	"slices"
	"testing"

	"saccharum/api"
	"saccharum/cask"
)

const lowest, huge = math.MinInt, math.MaxInt

// changed is the cellar of the examples after a change.
func changed(change func(c *cask.Cellar)) cask.Cellar {
	c := example()
	change(&c)
	return c
}

// equal reports whether both have the same rows.
func equal[T comparable](a, b [][]T) bool {
	return slices.EqualFunc(a, b, func(x, y []T) bool { return slices.Equal(x, y) })
}

// isZero reports whether the truth has nothing.
func isZero(t cask.Truth) bool { return len(t.Start)+len(t.Leak)+len(t.Quantity) == 0 }

func TestP5_1CheckCellar(t *testing.T) {
	limits, good, wrong := tooMuch(), goodCellars(), wrongCellars()
	for _, x := range []struct {
		of   map[string]cask.Cellar
		want api.Errno
	}{{limits, api.ErrLimit}, {good, api.OK}, {wrong, api.ErrArg}} {
		for name, c := range x.of {
			hasError(t, name, c, x.want)
		}
	}
	random := rand.New(rand.NewSource(4))
	for _, c := range append(gauged(random, cellars(), 3), gauged(random, wideCellars(), 13)...) {
		if e := cask.CheckCellar(c); e != api.OK {
			t.Errorf("CheckCellar of %v: %v", c, e)
		}
	}
}

// tooMuch are cellars that have too much.
func tooMuch() map[string]cask.Cellar {
	return map[string]cask.Cellar{
		"four casks":                       changed(func(c *cask.Cellar) { c.Casks = append(c.Casks, c.Casks...) }),
		"four casks of nothing":            changed(func(c *cask.Cellar) { c.Casks = make([]cask.Cask, 4) }),
		"four casks, and nothing else":     {Casks: make([]cask.Cask, 4)},
		"five moves":                       changed(func(c *cask.Cellar) { c.Moves = slices.Repeat(c.Moves, 5) }),
		"five moves, and no casks":         {Moves: make([]cask.Move, 5)},
		"seven gauges":                     changed(func(c *cask.Cellar) { c.Gauges = slices.Repeat(c.Gauges[:1], 7) }),
		"seven bad gauges, and a bad move": changed(func(c *cask.Cellar) { c.Gauges, c.Moves[0].From = make([]cask.Gauge, 7), 9 }),
		"seven gauges, and no casks":       {Gauges: make([]cask.Gauge, 7)},
		"six marks":                        changed(func(c *cask.Cellar) { c.Casks[0].Marks = marks(0, 0, 1, 1, 2, 2, 3, 3, 4, 4, 20, 180) }),
		"six bad marks":                    changed(func(c *cask.Cellar) { c.Casks[0].Marks = make([]cask.Mark, 6) }),
		"six marks of the last cask":       changed(func(c *cask.Cellar) { c.Casks[1].Marks = marks(0, 0, 1, 1, 2, 2, 3, 3, 4, 4, 20, 200) }),
		"six marks after a bad cask":       {Casks: []cask.Cask{{}, {Marks: make([]cask.Mark, 6)}}},
		"a hundred gauges":                 changed(func(c *cask.Cellar) { c.Gauges = make([]cask.Gauge, 100) }),
	}
}

// goodCellars are valid.
func goodCellars() map[string]cask.Cellar {
	return map[string]cask.Cellar{
		"the example":          example(),
		"all of the most":      full(wet(0, 0, 0, 100), wet(1, 4, 0, 0), wet(2, 2, 100, 100), dry(0, 4, 0, 100), dry(1, 0, 99, 100), dry(2, 3, 0, 1)),
		"one cask alone":       {Casks: example().Casks[:1]},
		"no moves":             changed(func(c *cask.Cellar) { c.Moves, c.Gauges = nil, nil }),
		"empty lists":          changed(func(c *cask.Cellar) { c.Moves, c.Gauges = []cask.Move{}, []cask.Gauge{} }),
		"two marks":            changed(func(c *cask.Cellar) { c.Casks[0].Marks = marks(0, 0, 20, 180) }),
		"five marks":           changed(func(c *cask.Cellar) { c.Casks[0].Marks = marks(0, 0, 1, 1, 2, 2, 3, 3, 100, 1000) }),
		"a cask of one":        {Casks: []cask.Cask{barrel(to(0, 1), to(4, 4), 0, 0, 1, 1)}},
		"four moves":           changed(func(c *cask.Cellar) { c.Moves = slices.Repeat(c.Moves, 4) }),
		"six gauges":           changed(func(c *cask.Cellar) { c.Gauges = slices.Repeat(c.Gauges, 3) }),
		"six gauges of 0":      changed(func(c *cask.Cellar) { c.Gauges = make([]cask.Gauge, 6) }),
		"three casks":          changed(func(c *cask.Cellar) { c.Casks = append(c.Casks, c.Casks[0]) }),
		"from outside":         changed(func(c *cask.Cellar) { c.Moves[0].From = cask.Out }),
		"to outside":           changed(func(c *cask.Cellar) { c.Moves[0].To = cask.Out }),
		"back":                 changed(func(c *cask.Cellar) { c.Moves[0].From, c.Moves[0].To = 1, 0 }),
		"to the third cask":    changed(func(c *cask.Cellar) { c.Casks, c.Moves[0].To = append(c.Casks, c.Casks[0]), 2 }),
		"no truth":             changed(func(c *cask.Cellar) { c.Casks[0].Start = to(0, 0) }),
		"a gauge at the end":   changed(func(c *cask.Cellar) { c.Gauges[0].After = 1 }),
		"more than it holds":   changed(func(c *cask.Cellar) { c.Moves[0].Quantity = to(992, 1000) }),
		"dips without content": {Casks: []cask.Cask{barrel(to(0, 0), to(0, 0), 0, 0, 100, 1)}},
	}
}

// wrongCellars are not valid.
func wrongCellars() map[string]cask.Cellar {
	marked := func(l ...int) cask.Cellar {
		return cask.Cellar{Casks: []cask.Cask{{Marks: marks(0, 0, 1, 1)}, {Marks: marks(l...)}}}
	}
	moved := func(from, into int) cask.Cellar {
		return changed(func(c *cask.Cellar) { c.Moves = append(c.Moves, move(from, into, 1, 1)) })
	}
	return map[string]cask.Cellar{
		"nothing": {}, "empty lists": {Casks: []cask.Cask{}, Moves: []cask.Move{}, Gauges: []cask.Gauge{}}, "no casks": changed(func(c *cask.Cellar) { c.Casks = nil }),
		"no casks, and nothing of them": {Moves: []cask.Move{move(cask.Out, cask.Out, 1, 1)}},
		"no marks":                      marked(), "one mark": marked(0, 0), "a first dip of 1": marked(1, 0, 2, 1), "a first content of 1": marked(0, 1, 1, 2), "a first mark below 0": marked(-1, -1, 1, 1),
		"a first dip below 0": marked(-1, 0, 1, 1), "a first content below 0": marked(0, -1, 1, 1), "no first mark": marked(5, 5, 9, 9),
		"a dip twice": marked(0, 0, 5, 5, 5, 6), "a content twice": marked(0, 0, 5, 5, 6, 5), "a dip that falls": marked(0, 0, 5, 5, 4, 6), "a content that falls": marked(0, 0, 5, 5, 6, 4),
		"the first dip twice": marked(0, 0, 0, 1), "the first content twice": marked(0, 0, 1, 0), "a mark twice": marked(0, 0, 5, 5, 5, 5),
		"the last dip falls": marked(0, 0, 1, 1, 2, 2, 3, 3, 2, 9), "the last content falls": marked(0, 0, 1, 1, 2, 2, 3, 3, 9, 2),
		"a dip of 101": marked(0, 0, 101, 9), "a content of 1001": marked(0, 0, 9, 1001), "a huge dip": marked(0, 0, huge, 9), "a huge content": marked(0, 0, 9, huge), "the lowest dip": marked(0, 0, lowest, 9), "huge marks": marked(0, 0, 1, huge, huge, 1),
		"from a cask to itself": moved(0, 0), "from the last cask to itself": moved(1, 1), "from outside to outside": moved(-1, -1), "to the cask 2": moved(0, 2), "from the cask 2": moved(2, 0), "from -2": moved(-2, 0), "to -2": moved(0, -2),
		"from outside to the cask 2": moved(-1, 2), "from the cask 2 to outside": moved(2, -1), "from 2 to -2": moved(2, -2), "from a huge one": moved(huge, 0), "to the lowest one": moved(0, lowest),
		"a gauge of the cask 2": example(wet(2, 0, 0, 0)), "a gauge of the cask -1": example(wet(-1, 0, 0, 0)), "a gauge of a huge cask": example(wet(huge, 0, 0, 0)), "a gauge of the lowest cask": example(dry(lowest, 0, 0, 0)),
		"a gauge after 2 moves": example(wet(0, 2, 0, 0)), "a gauge after -1 moves": example(wet(0, -1, 0, 0)), "a gauge after huge moves": example(wet(0, huge, 0, 0)), "a gauge after the lowest moves": example(dry(0, lowest, 0, 0)),
		"a gauge after 1 of no moves": with(cask.Cellar{Casks: example().Casks}, gauges(wet(0, 1, 0, 0))), "the last of six gauges": example(wet(0, 0, 0, 0), wet(0, 0, 0, 0), wet(0, 0, 0, 0), wet(0, 0, 0, 21)),
	}
}

// TestP5_1Ranges has the valid and the invalid ranges of a cellar.
func TestP5_1Ranges(t *testing.T) {
	start := func(c *cask.Cellar) *cask.Range { return &c.Casks[0].Start }
	leak := func(c *cask.Cellar) *cask.Range { return &c.Casks[1].Leak }
	quantity := func(c *cask.Cellar) *cask.Range { return &c.Moves[0].Quantity }
	dip := func(c *cask.Cellar) *cask.Range { return &c.Gauges[0].Dip }
	dryDip := func(c *cask.Cellar) *cask.Range { return &c.Gauges[1].Dip }
	for _, x := range []struct {
		name        string
		r           func(c *cask.Cellar) *cask.Range
		good, wrong []cask.Range
	}{
		{"start", start, ranges(0, 0, 0, 180, 180, 180, 7, 99), ranges(-1, -1, -1, 0, 180, 181, 181, 181, 0, 181, -1, 181, 8, 7, 180, 0)},
		{"leak", leak, ranges(0, 0, 0, 4, 4, 4, 1, 3), ranges(-1, -1, -1, 0, 4, 5, 5, 5, 0, 5, -1, 5, 2, 1, 4, 0)},
		{"quantity", quantity, ranges(1, 1, 1, 9, 1000, 1000, 992, 1000, 500, 508), ranges(0, 0, 0, 1, 1000, 1001, 1001, 1001, 1, 10, 991, 1000, -5, -1, 500, 509, 1, 1000, 6, 5)},
		{"dip", dip, ranges(0, 0, 0, 20, 20, 20, 9, 11), ranges(-1, -1, -1, 0, 20, 21, 21, 21, 0, 21, -1, 21, 8, 7, 20, 0)},
		{"dry dip", dryDip, ranges(0, 0, 0, 20, 20, 20, 9, 11), ranges(-1, -1, -1, 0, 20, 21, 21, 21, 0, 21, -1, 21, 8, 7, 20, 0)},
	} {
		x.wrong = append(x.wrong, to(lowest, huge), to(huge, lowest), to(lowest, lowest), to(huge, huge), to(3, huge), to(lowest, 3), to(3, lowest), to(huge, 3))
		for _, r := range x.good {
			hasError(t, x.name, changed(func(c *cask.Cellar) { *x.r(c) = r }), api.OK)
		}
		for _, r := range x.wrong {
			hasError(t, x.name, changed(func(c *cask.Cellar) { *x.r(c) = r }), api.ErrArg)
		}
	}
}

// hasError checks that each call with a cellar has its error, even if other arguments are invalid too.
func hasError(t *testing.T, name string, c cask.Cellar, want api.Errno) {
	if e := cask.CheckCellar(c); e != want {
		t.Errorf("%s: CheckCellar of %v: %v", name, c, e)
	}
	if want == api.OK {
		return
	}
	n, e := cask.Content(c, 9, -1)
	m, f := cask.Dip(c, -1, 9999)
	r, g := cask.Mean(c, 99)
	p, h := cask.Play(c, truth(list(-1), nil, nil))
	b, i := cask.Bounds(c)
	l, j := cask.Leaked(c)
	sure, may, k := cask.Over(c, -1)
	s, o := cask.Show(c)
	w, q := cask.First(c)
	out, u := cask.Leave(c)
	_, v := cask.Content(c, 0, 0)
	_, x := cask.Mean(c, 0)
	if n != 0 || m != 0 || r != to(0, 0) || len(p)+len(b)+len(l)+len(sure)+len(may)+len(out) != 0 || !isZero(s) || w != 0 {
		t.Errorf("%s: results beside an error, of %v", name, c)
	}
	for _, e := range []api.Errno{e, f, g, h, i, j, k, o, q, u, v, x} {
		if e != want {
			t.Errorf("%s: a call with %v: %v", name, c, e)
		}
	}
	if cask.ProveTruth(c, truth(list(150, 0), list(0, 0), list(40))) || cask.ProveTruth(c, cask.Truth{}) {
		t.Errorf("%s: a proof about %v", name, c)
	}
}

func TestP5_1ContentExamples(t *testing.T) {
	flat := cask.Cellar{Casks: []cask.Cask{barrel(to(0, 0), to(0, 0), 0, 0, 7, 2, 8, 20, 10, 21)}}
	for _, x := range []struct {
		c            cask.Cellar
		k, dip, want int
		e            api.Errno
	}{
		{example(), 0, 16, 148, api.OK}, {example(), 0, 17, 156, api.OK}, {example(), 0, 0, 0, api.OK}, {example(), 0, 1, 10, api.OK}, {example(), 0, 10, 100, api.OK}, {example(), 0, 11, 108, api.OK}, {example(), 0, 20, 180, api.OK}, {example(), 1, 20, 200, api.OK}, {example(), 1, 7, 70, api.OK},
		{flat, 0, 3, 0, api.OK}, {flat, 0, 4, 1, api.OK}, {flat, 0, 6, 1, api.OK}, {flat, 0, 7, 2, api.OK}, {flat, 0, 8, 20, api.OK}, {flat, 0, 9, 20, api.OK}, {flat, 0, 10, 21, api.OK}, {full(), 2, 11, 153, api.OK}, {full(), 2, 98, 984, api.OK},
		{example(), 0, 21, 0, api.ErrRange}, {example(), 0, -1, 0, api.ErrRange}, {example(), 1, 21, 0, api.ErrRange}, {example(), 2, 0, 0, api.ErrRange}, {example(), -1, 0, 0, api.ErrRange}, {flat, 0, 11, 0, api.ErrRange}, {flat, 1, 0, 0, api.ErrRange},
		{example(), 0, huge, 0, api.ErrRange}, {example(), 0, lowest, 0, api.ErrRange}, {example(), huge, 0, 0, api.ErrRange}, {example(), lowest, 0, 0, api.ErrRange},
	} {
		if n, e := cask.Content(x.c, x.k, x.dip); n != x.want || e != x.e {
			t.Errorf("Content of %v, %d, %d: %d, %v", x.c, x.k, x.dip, n, e)
		}
	}
}

func TestP5_1DipExamples(t *testing.T) {
	flat := cask.Cellar{Casks: []cask.Cask{barrel(to(0, 0), to(0, 0), 0, 0, 7, 2, 8, 20, 10, 21)}}
	for _, x := range []struct {
		c                cask.Cellar
		k, content, want int
		e                api.Errno
	}{
		{example(), 0, 155, 16, api.OK}, {example(), 0, 156, 17, api.OK}, {example(), 0, 0, 0, api.OK}, {example(), 0, 9, 0, api.OK}, {example(), 0, 10, 1, api.OK}, {example(), 0, 180, 20, api.OK}, {example(), 0, 179, 19, api.OK}, {example(), 1, 200, 20, api.OK},
		{flat, 0, 0, 3, api.OK}, {flat, 0, 1, 6, api.OK}, {flat, 0, 2, 7, api.OK}, {flat, 0, 19, 7, api.OK}, {flat, 0, 20, 9, api.OK}, {flat, 0, 21, 10, api.OK}, {full(), 1, 1000, 100, api.OK}, {full(), 1, 999, 99, api.OK}, {full(), 1, 998, 98, api.OK},
		{example(), 0, 181, 0, api.ErrRange}, {example(), 0, -1, 0, api.ErrRange}, {example(), 1, 201, 0, api.ErrRange}, {example(), 2, 0, 0, api.ErrRange}, {example(), -1, 0, 0, api.ErrRange}, {flat, 0, 22, 0, api.ErrRange}, {flat, 1, 0, 0, api.ErrRange},
		{example(), 0, huge, 0, api.ErrRange}, {example(), 0, lowest, 0, api.ErrRange}, {example(), huge, 0, 0, api.ErrRange}, {example(), lowest, 0, 0, api.ErrRange},
	} {
		if n, e := cask.Dip(x.c, x.k, x.content); n != x.want || e != x.e {
			t.Errorf("Dip of %v, %d, %d: %d, %v", x.c, x.k, x.content, n, e)
		}
	}
}

// eachCask calls the function for each cask of all cellars, as the cask 0 or 1 of a cellar.
func eachCask(do func(c cask.Cellar, number int, k cask.Cask)) {
	for i, c := range append(cellars(), append(wideCellars(), example(), full())...) {
		for _, k := range c.Casks {
			l := []cask.Cask{k, barrel(to(0, 0), to(0, 0), 0, 0, 1, 1)}
			if i%2 == 1 {
				slices.Reverse(l)
			}
			do(cask.Cellar{Casks: l}, i%2, k)
		}
	}
}

func TestP5_1ContentAndDip(t *testing.T) {
	eachCask(func(c cask.Cellar, number int, k cask.Cask) {
		var table []int
		for dip := range depth(k) + 1 {
			table = append(table, contentAt(k, dip))
			if n, e := cask.Content(c, number, dip); n != table[dip] || e != api.OK {
				t.Fatalf("Content of %v at %d: %d, %v, not %d", k, dip, n, e, table[dip])
			}
		}
		for content := range holds(k) + 1 {
			want := 0
			for dip, n := range table {
				if n <= content {
					want = dip
				}
			}
			if n, e := cask.Dip(c, number, content); n != want || e != api.OK {
				t.Fatalf("Dip of %v with %d: %d, %v, not %d", k, content, n, e, want)
			}
		}
		for _, n := range list(-1, max(depth(k), holds(k))+1) {
			a, e := cask.Content(c, number, n)
			b, f := cask.Dip(c, number, n)
			if a != 0 || b != 0 || e != api.ErrRange || f != api.ErrRange {
				t.Fatalf("Content and Dip of %v, %d: %d, %v; %d, %v", k, n, a, e, b, f)
			}
		}
	})
}

func TestP5_2Mean(t *testing.T) {
	c := example(wet(0, 0, 0, 20), dry(0, 0, 8, 10), dry(0, 1, 0, 0), wet(0, 1, 0, 0))
	for i, want := range ranges(148, 156, 40, 40, 0, 180, 100, 116, 180, 180, 0, 0) {
		if r, e := cask.Mean(c, i); r != want || e != api.OK {
			t.Errorf("Mean of %d: %v, %v", i, r, e)
		}
	}
	for _, i := range list(-1, 6, 7, lowest, huge) {
		if r, e := cask.Mean(c, i); r != to(0, 0) || e != api.ErrRange {
			t.Errorf("Mean of %d: %v, %v", i, r, e)
		}
	}
	if r, e := cask.Mean(with(example(), nil), 0); r != to(0, 0) || e != api.ErrRange {
		t.Errorf("Mean of no gauge: %v, %v", r, e)
	}
	random := rand.New(rand.NewSource(5))
	for _, c := range append(gauged(random, cellars(), 13), gauged(random, wideCellars(), 13)...) {
		for i, g := range c.Gauges {
			if r, e := cask.Mean(c, i); r != meaning(c, g) || e != api.OK {
				t.Fatalf("Mean of %v, %d: %v, %v", c, i, r, e)
			}
		}
	}
}

func TestP5_3PlayExamples(t *testing.T) {
	round := cask.Cellar{Casks: []cask.Cask{barrel(to(5, 5), to(1, 1), 0, 0, 9, 9), barrel(to(0, 9), to(0, 4), 0, 0, 9, 9), barrel(to(9, 9), to(2, 2), 0, 0, 9, 9)}, Moves: []cask.Move{move(0, 1, 2, 2), move(2, cask.Out, 1, 3), move(cask.Out, 0, 1, 9)}}
	for _, x := range []struct {
		c    cask.Cellar
		t    cask.Truth
		want [][]int
		e    api.Errno
	}{
		{example(), truth(list(150, 0), list(1, 0), list(40)), [][]int{{150, 109}, {0, 40}}, api.OK},
		{example(), truth(list(157, 0), list(0, 0), list(42)), [][]int{{157, 115}, {0, 42}}, api.OK},
		{single(), truth(list(4), list(2), list(5, 4)), [][]int{{4, 7, 1}}, api.OK}, {single(), truth(list(5), list(0), list(5, 2)), [][]int{{5, 10, 8}}, api.OK},
		{single(), truth(list(6), list(2), list(6, 4)), [][]int{{6, 10, 4}}, api.OK}, {single(), truth(list(7), list(2), list(5, 4)), [][]int{{7, 10, 4}}, api.OK}, {single(), truth(list(0), list(1), list(5, 3)), [][]int{{0, 4, 0}}, api.OK},
		{single(), truth(list(0), list(2), list(5, 2)), nil, api.ErrFalse}, {single(), truth(list(5), list(0), list(6, 2)), nil, api.ErrFalse}, {single(), truth(list(10), list(0), list(5, 4)), nil, api.ErrFalse},
		{round, truth(list(5, 7, 9), list(1, 3, 2), list(2, 3, 9)), [][]int{{5, 2, 1, 9}, {7, 6, 3, 0}, {9, 7, 2, 0}}, api.OK}, {round, truth(list(5, 7, 9), list(1, 4, 2), list(2, 3, 9)), nil, api.ErrFalse}, {round, truth(list(5, 7, 9), list(1, 3, 2), list(2, 1, 8)), [][]int{{5, 2, 1, 8}, {7, 6, 3, 0}, {9, 7, 4, 2}}, api.OK},
		{round, truth(list(5, 7, 9), list(1, 0, 2), list(2, 1, 9)), [][]int{{5, 2, 1, 9}, {7, 9, 9, 9}, {9, 7, 4, 2}}, api.OK}, {round, truth(list(5, 8, 9), list(1, 0, 2), list(2, 1, 9)), nil, api.ErrFalse},
		{cask.Cellar{Casks: round.Casks}, truth(list(5, 9, 9), list(1, 4, 2), nil), [][]int{{5}, {9}, {9}}, api.OK},
		{with(single(), gauges(wet(0, 0, 0, 0), wet(0, 1, 0, 0))), truth(list(4), list(2), list(5, 4)), [][]int{{4, 7, 1}}, api.OK},
	} {
		if l, e := cask.Play(x.c, x.t); !equal(l, x.want) || e != x.e {
			t.Errorf("Play of %v, %v: %v, %v", x.c, x.t, l, e)
		}
	}
}

// noTruths have numbers that are not of the ranges of the cellar of the examples, or not as many.
func noTruths() []cask.Truth {
	return []cask.Truth{
		{}, truth(list(149, 0), list(0, 0), list(40)), truth(list(161, 0), list(0, 0), list(40)), truth(list(150, 1), list(0, 0), list(40)), truth(list(150, -1), list(0, 0), list(40)),
		truth(list(150, 0), list(-1, 0), list(40)), truth(list(150, 0), list(2, 0), list(40)), truth(list(150, 0), list(0, 1), list(40)), truth(list(150, 0), list(0, 0), list(39)), truth(list(150, 0), list(0, 0), list(43)),
		truth(list(0, 150), list(0, 0), list(40)), truth(nil, list(0, 0), list(40)), truth(list(150), list(0, 0), list(40)), truth(list(150, 0, 0), list(0, 0), list(40)), truth(list(150, 0), nil, list(40)),
		truth(list(150, 0), list(0), list(40)), truth(list(150, 0), list(0, 0, 0), list(40)), truth(list(150, 0), list(0, 0), nil), truth(list(150, 0), list(0, 0), list(40, 0)), truth(list(150, 0), list(0, 0), list(40, 40)),
		truth(list(150, 0), list(0, 0), list(40, 0, 0, 0)), truth(list(150, 0), list(0, 0), make([]int, 99)), truth(make([]int, 99), make([]int, 99), list(40)), truth(list(150), list(0), list(40)),
		truth(list(huge, 0), list(0, 0), list(40)), truth(list(lowest, 0), list(0, 0), list(40)), truth(list(150, 0), list(huge, 0), list(40)), truth(list(150, 0), list(0, lowest), list(40)), truth(list(150, 0), list(0, 0), list(huge)), truth(list(150, 0), list(0, 0), list(lowest)),
		truth(list(150, 0), list(0, 0), list(0)), truth(list(160, 0), list(1, 0), list(-40)), truth(list(200, 0), list(9, 0), list(400)),
	}
}

func TestP5_3NoTruth(t *testing.T) {
	for _, u := range noTruths() {
		for _, c := range []cask.Cellar{example(), with(example(), nil)} {
			if l, e := cask.Play(c, u); len(l) != 0 || e != api.ErrRange || cask.ProveTruth(c, u) {
				t.Errorf("Play of %v, %v: %v, %v", c, u, l, e)
			}
		}
	}
}

func TestP5_3EachTruth(t *testing.T) {
	random := rand.New(rand.NewSource(6))
	possible, other := 0, 0
	for _, c := range cellars() {
		c = with(c, gaugeLists(random, c)[12])
		for _, p := range tries(c) {
			want, f := p.rows, api.OK
			possible++
			if !isPossible(c, p) {
				want, f = nil, api.ErrFalse
				possible--
				other++
			}
			if l, e := cask.Play(c, p.truth); !equal(l, want) || e != f {
				t.Fatalf("Play of %v, %v: %v, %v, not %v", c, p.truth, l, e, want)
			}
		}
	}
	if possible < 5000 || other < 5000 {
		t.Errorf("only %d truths are possible, and %d are not", possible, other)
	}
	for _, c := range wideCellars() {
		for range 200 {
			p := anyTruth(random, c)
			if l, e := cask.Play(c, p.truth); (e == api.OK) != isPossible(c, p) || e == api.OK && !equal(l, p.rows) {
				t.Fatalf("Play of %v, %v: %v, %v", c, p.truth, l, e)
			}
		}
	}
}

// truthless are cellars without a truth even if they have no gauges.
func truthless() []cask.Cellar {
	return []cask.Cellar{
		changed(func(c *cask.Cellar) { c.Casks[0].Start = to(0, 39) }), changed(func(c *cask.Cellar) { c.Casks[1].Start = to(161, 200) }), changed(func(c *cask.Cellar) { c.Casks[1].Leak = to(4, 4); c.Moves[0].To = cask.Out }),
		changed(func(c *cask.Cellar) { c.Moves[0].Quantity = to(992, 1000) }), changed(func(c *cask.Cellar) { c.Casks[0].Start, c.Gauges = to(0, 39), nil }),
		{Casks: []cask.Cask{barrel(to(1, 1), to(2, 4), 0, 0, 9, 9)}, Moves: []cask.Move{move(cask.Out, 0, 9, 9), move(cask.Out, 0, 9, 9)}}, {Casks: []cask.Cask{barrel(to(0, 9), to(0, 0), 0, 0, 9, 9)}, Moves: []cask.Move{move(0, cask.Out, 9, 9), move(0, cask.Out, 1, 9)}},
	}
}

func TestP5_4BoundsExamples(t *testing.T) {
	rows := func(l ...[]cask.Range) [][]cask.Range { return l }
	between := cask.Cellar{Casks: []cask.Cask{barrel(to(0, 9), to(4, 4), 0, 0, 9, 9)}, Moves: []cask.Move{move(cask.Out, 0, 4, 4)}}
	for _, x := range []struct {
		c    cask.Cellar
		want [][]cask.Range
		e    api.Errno
	}{
		{example(), rows(ranges(150, 156, 109, 116), ranges(0, 0, 40, 40)), api.OK}, {with(example(), nil), rows(ranges(150, 160, 107, 120), ranges(0, 0, 40, 42)), api.OK},
		{example(wet(0, 1, 12, 12)), rows(ranges(156, 156, 116, 116), ranges(0, 0, 40, 40)), api.OK}, {example(wet(0, 1, 10, 10)), nil, api.ErrFalse}, {example(wet(0, 1, 10, 11)), nil, api.ErrFalse}, {example(wet(0, 1, 0, 20)), rows(ranges(150, 156, 109, 116), ranges(0, 0, 40, 40)), api.OK},
		{single(), rows(ranges(0, 7, 4, 10, 0, 8)), api.OK}, {single(wet(0, 2, 0, 0)), rows(ranges(0, 3, 4, 6, 0, 0)), api.OK}, {single(wet(0, 0, 7, 7)), rows(ranges(7, 7, 10, 10, 4, 6)), api.OK}, {single(dry(0, 2, 2, 2)), rows(ranges(4, 5, 10, 10, 8, 8)), api.OK}, {single(wet(0, 0, 8, 8)), nil, api.ErrFalse},
		{joint(), rows(ranges(30, 30, 18, 26), ranges(10, 10, 14, 22)), api.OK}, {joint(wet(1, 1, 16, 17)), rows(ranges(30, 30, 23, 24), ranges(10, 10, 16, 17)), api.OK}, {joint(wet(1, 1, 16, 17), dry(0, 1, 27, 30)), rows(ranges(30, 30, 23, 23), ranges(10, 10, 17, 17)), api.OK},
		{joint(wet(1, 1, 16, 17), wet(0, 1, 22, 22)), nil, api.ErrFalse}, {between, rows(ranges(0, 9, 0, 9)), api.OK}, {cask.Cellar{Casks: between.Casks}, rows(ranges(0, 9)), api.OK},
		{with(cask.Cellar{Casks: between.Casks}, gauges(wet(0, 0, 2, 5), dry(0, 0, 0, 6))), rows(ranges(3, 5)), api.OK}, {with(cask.Cellar{Casks: between.Casks}, gauges(wet(0, 0, 2, 5), dry(0, 0, 0, 3))), nil, api.ErrFalse},
	} {
		if b, e := cask.Bounds(x.c); !equal(b, x.want) || e != x.e {
			t.Errorf("Bounds of %v: %v, %v", x.c, b, e)
		}
	}
	for _, c := range truthless() {
		b, e := cask.Bounds(c)
		l, f := cask.Leaked(c)
		sure, may, g := cask.Over(c, -1)
		u, h := cask.Show(c)
		if len(b)+len(l)+len(sure)+len(may) != 0 || !isZero(u) || e != api.ErrFalse || f != api.ErrFalse || g != api.ErrFalse || h != api.ErrFalse {
			t.Errorf("%v: %v, %v; %v, %v; %v, %v, %v; %v, %v", c, b, e, l, f, sure, may, g, u, h)
		}
	}
}

func TestP5_4Bounds(t *testing.T) {
	some, none := 0, 0
	eachGauged(func(c cask.Cellar, all, of []played) {
		var want [][]cask.Range
		f := api.ErrFalse
		if len(of) > 0 {
			want, f = boundsIn(c, of), api.OK
		}
		if b, e := cask.Bounds(c); !equal(b, want) || e != f {
			t.Fatalf("Bounds of %v: %v, %v, not %v", c, b, e, want)
		}
		switch {
		case len(of) > 0:
			some++
		case len(all) > 0:
			none++
		}
	})
	if some < 500 || none < 500 {
		t.Errorf("only %d cellars with a truth, and %d whose gauges leave none", some, none)
	}
}

// TestP5_4Joint checks that the cellars have some whose gauges contradict each other through the moves alone.
func TestP5_4Joint(t *testing.T) {
	wrong, narrower := 0, 0
	eachGauged(func(c cask.Cellar, all, of []played) {
		var alone [][]cask.Range
		for k := range c.Casks {
			other := func(g cask.Gauge) bool { return g.Cask != k }
			b, e := cask.Bounds(with(c, slices.DeleteFunc(slices.Clone(c.Gauges), other)))
			if e != api.OK {
				return
			}
			alone = append(alone, b[k])
		}
		b, e := cask.Bounds(c)
		if (e == api.OK) != (len(of) > 0) {
			t.Fatalf("Bounds of %v: %v", c, e)
		}
		switch {
		case e != api.OK:
			wrong++
		case !equal(b, alone):
			narrower++
		}
	})
	if wrong < 20 || narrower < 50 {
		t.Errorf("the moves matter only %d and %d times", wrong, narrower)
	}
}

// TestP5_4Wide has the widest cellars, for P5.4 to P5.7.
func TestP5_4Wide(t *testing.T) {
	random := rand.New(rand.NewSource(7))
	some := 0
	for _, c := range gauged(random, wideCellars(), 8) {
		isWide(t, c)
		if _, e := cask.Show(c); e == api.OK && len(c.Gauges) > 0 {
			some++
		}
	}
	if some < 20 {
		t.Errorf("only %d wide cellars have a truth", some)
	}
}

// isWide checks all calls with a cellar of too many truths to try each of them.
func isWide(t *testing.T, c cask.Cellar) {
	w := wideOf(c)
	f := api.ErrFalse
	if w.found {
		f = api.OK
	} else {
		w.bounds, w.leaked = nil, nil
	}
	b, e := cask.Bounds(c)
	l, g := cask.Leaked(c)
	if !equal(b, w.bounds) || !slices.Equal(l, w.leaked) || e != f || g != f {
		t.Fatalf("Bounds and Leaked of %v: %v, %v, not %v; %v, %v, not %v", c, b, e, w.bounds, l, g, w.leaked)
	}
	if u, e := cask.Show(c); e != f || (e == api.OK) != cask.ProveTruth(c, u) {
		t.Fatalf("Show of %v: %v, %v", c, u, e)
	}
	n, e := cask.First(c)
	out, g := cask.Leave(c)
	if len(w.right) == 0 {
		if n != 0 || len(out) != 0 || e != api.ErrFail || g != api.ErrFail {
			t.Fatalf("First and Leave of %v: %d, %v; %v, %v", c, n, e, out, g)
		}
		return
	}
	if want := w.first(len(c.Gauges)); want == -1 && (n != 0 || e != api.ErrNone) || want != -1 && (n != want || e != api.OK) {
		t.Fatalf("First of %v: %d, %v, not %d", c, n, e, want)
	}
	if want := w.smallest(len(c.Gauges)); !slices.Equal(out, want) || g != api.OK {
		t.Fatalf("Leave of %v: %v, %v, not %v", c, out, g, want)
	}
}

// TestP5_4Full has the most of all.
func TestP5_4Full(t *testing.T) {
	b, e := cask.Bounds(full())
	want := [][]cask.Range{ranges(1, 925, 0, 912, 0, 908, 0, 904, 96, 1000), ranges(983, 1000, 992, 1000, 0, 8, 0, 8, 0, 8), ranges(0, 16, 0, 12, 988, 1000, 476, 500, 472, 500)}
	if !equal(b, want) || e != api.OK {
		t.Errorf("Bounds: %v, %v", b, e)
	}
	// Those of the cask 1 cannot be right after the move 1, nor can the last one; the other three can.
	c := full(wet(0, 1, 3, 4), dry(0, 3, 97, 98), wet(1, 2, 4, 9), wet(1, 4, 2, 3), wet(2, 2, 99, 100), wet(2, 4, 10, 17))
	n, e := cask.First(c)
	out, f := cask.Leave(c)
	if n != 2 || e != api.OK || !slices.Equal(out, list(2, 3, 5)) || f != api.OK {
		t.Errorf("First and Leave: %d, %v; %v, %v", n, e, out, f)
	}
}

// TestP5_4References checks that the reference for wide cellars is that for the other ones.
func TestP5_4References(t *testing.T) {
	eachGauged(func(c cask.Cellar, all, of []played) {
		w := wideOf(c)
		if w.found != (len(of) > 0) || (len(w.right) > 0) != (len(all) > 0) {
			t.Fatalf("%v: %v, but %d truths", c, w, len(of))
		}
		if len(all) > 0 && (w.first(len(c.Gauges)) != first(c, all) || !slices.Equal(w.smallest(len(c.Gauges)), smallest(c, all))) {
			t.Fatalf("%v: %v", c, w)
		}
		if w.found && (!equal(w.bounds, boundsIn(c, of)) || !slices.Equal(w.leaked, leakedIn(c, of))) {
			t.Fatalf("%v: %v, not %v, %v", c, w, boundsIn(c, of), leakedIn(c, of))
		}
	})
}

func TestP5_5Examples(t *testing.T) {
	both := cask.Cellar{Casks: []cask.Cask{barrel(to(40, 50), to(2, 4), 0, 0, 50, 50), barrel(to(10, 20), to(0, 3), 0, 0, 50, 50)}, Moves: []cask.Move{move(0, 1, 1, 1), move(0, cask.Out, 1, 1), move(0, cask.Out, 1, 1), move(cask.Out, 1, 1, 1)}}
	still := cask.Cellar{Casks: both.Casks}
	for _, x := range []struct {
		c         cask.Cellar
		leaked    []cask.Range
		allowance int
		sure, may []int
	}{
		{example(), ranges(0, 1, 0, 0), 0, nil, list(0)}, {example(), ranges(0, 1, 0, 0), 1, nil, nil}, {example(), ranges(0, 1, 0, 0), -1, list(0, 1), list(0, 1)}, {example(wet(0, 1, 12, 12)), ranges(0, 0, 0, 0), 0, nil, nil},
		{both, ranges(8, 16, 0, 12), 0, list(0), list(0, 1)}, {both, ranges(8, 16, 0, 12), 7, list(0), list(0, 1)}, {both, ranges(8, 16, 0, 12), 8, nil, list(0, 1)}, {both, ranges(8, 16, 0, 12), 11, nil, list(0, 1)}, {both, ranges(8, 16, 0, 12), 12, nil, list(0)},
		{both, ranges(8, 16, 0, 12), 15, nil, list(0)}, {both, ranges(8, 16, 0, 12), 16, nil, nil}, {both, ranges(8, 16, 0, 12), huge, nil, nil}, {both, ranges(8, 16, 0, 12), lowest, list(0, 1), list(0, 1)},
		{with(both, gauges(wet(1, 0, 20, 20), wet(1, 4, 10, 10))), ranges(8, 16, 12, 12), 10, list(1), list(0, 1)}, {still, ranges(0, 0, 0, 0), 0, nil, nil}, {still, ranges(0, 0, 0, 0), -1, list(0, 1), list(0, 1)},
		{single(wet(0, 0, 7, 7)), ranges(4, 4), 3, list(0), list(0)}, {single(wet(0, 2, 0, 0)), ranges(2, 4), 1, list(0), list(0)}, {single(wet(0, 2, 0, 0)), ranges(2, 4), 4, nil, nil},
	} {
		l, e := cask.Leaked(x.c)
		sure, may, f := cask.Over(x.c, x.allowance)
		if !slices.Equal(l, x.leaked) || !slices.Equal(sure, x.sure) || !slices.Equal(may, x.may) || e != api.OK || f != api.OK {
			t.Errorf("Leaked, and Over with %d, of %v: %v, %v; %v, %v, %v", x.allowance, x.c, l, e, sure, may, f)
		}
	}
}

func TestP5_5Leaked(t *testing.T) {
	eachGauged(func(c cask.Cellar, all, of []played) {
		l, e := cask.Leaked(c)
		if len(of) == 0 {
			if len(l) != 0 || e != api.ErrFalse {
				t.Fatalf("Leaked of %v: %v, %v", c, l, e)
			}
			return
		}
		if want := leakedIn(c, of); !slices.Equal(l, want) || e != api.OK {
			t.Fatalf("Leaked of %v: %v, %v, not %v", c, l, e, want)
		}
		for allowance := -1; allowance <= 17; allowance += 1 + allowance&1 {
			sure, may, e := cask.Over(c, allowance)
			if n, m := overIn(c, of, allowance); !slices.Equal(sure, n) || !slices.Equal(may, m) || e != api.OK {
				t.Fatalf("Over of %v, %d: %v, %v, %v, not %v, %v", c, allowance, sure, may, e, n, m)
			}
		}
	})
}

func TestP5_6Show(t *testing.T) {
	eachGauged(func(c cask.Cellar, all, of []played) {
		u, e := cask.Show(c)
		if len(of) == 0 {
			if !isZero(u) || e != api.ErrFalse {
				t.Fatalf("Show of %v: %v, %v", c, u, e)
			}
			return
		}
		same := func(p played) bool {
			return slices.Equal(p.truth.Start, u.Start) && slices.Equal(p.truth.Leak, u.Leak) && slices.Equal(p.truth.Quantity, u.Quantity)
		}
		if e != api.OK || !slices.ContainsFunc(of, same) || !cask.ProveTruth(c, u) {
			t.Fatalf("Show of %v: %v, %v", c, u, e)
		}
	})
}

func TestP5_6ProveTruth(t *testing.T) {
	for _, x := range []struct {
		c    cask.Cellar
		t    cask.Truth
		want bool
	}{
		{example(), truth(list(150, 0), list(1, 0), list(40)), true}, {example(), truth(list(156, 0), list(0, 0), list(40)), true}, {example(), truth(list(157, 0), list(0, 0), list(40)), false}, {example(), truth(list(150, 0), list(1, 0), list(41)), false},
		{with(example(), nil), truth(list(157, 0), list(0, 0), list(41)), true}, {single(), truth(list(4), list(2), list(5, 4)), true}, {single(), truth(list(0), list(2), list(5, 2)), false}, {single(), truth(list(5), list(0), list(6, 2)), false},
		{cask.Cellar{Casks: single().Casks}, truth(list(4), list(2), nil), true}, {cask.Cellar{Casks: single().Casks}, truth(list(4), list(2), list()), true}, {cask.Cellar{Casks: single().Casks}, truth(list(4), list(2), list(0)), false},
	} {
		if is := cask.ProveTruth(x.c, x.t); is != x.want {
			t.Errorf("ProveTruth of %v, %v: %t", x.c, x.t, is)
		}
	}
	random := rand.New(rand.NewSource(8))
	right, wrong := 0, 0
	for _, c := range cellars() {
		for _, l := range gaugeLists(random, c)[1:5] {
			c = with(c, l)
			for _, p := range tries(c) {
				want := isPossible(c, p) && areRight(c, nil, p)
				if is := cask.ProveTruth(c, p.truth); is != want {
					t.Fatalf("ProveTruth of %v, %v: %t", c, p.truth, is)
				}
				if want {
					right++
				} else if isPossible(c, p) {
					wrong++
				}
			}
		}
	}
	if right < 1000 || wrong < 1000 {
		t.Errorf("only %d truths are right, and %d wrong", right, wrong)
	}
}

func TestP5_7Examples(t *testing.T) {
	for _, x := range []struct {
		c     cask.Cellar
		first int
		e     api.Errno
		leave []int
	}{
		{example(), 0, api.ErrNone, nil}, {example(wet(0, 1, 10, 10)), 2, api.OK, list(2)}, {example(wet(0, 1, 11, 11)), 2, api.OK, list(1)}, {example(wet(0, 1, 12, 12)), 0, api.ErrNone, nil}, {with(example(), nil), 0, api.ErrNone, nil},
		{single(), 0, api.ErrNone, nil}, {single(wet(0, 0, 7, 7), wet(0, 1, 9, 9), dry(0, 2, 0, 5)), 1, api.OK, list(0)}, {single(wet(0, 0, 8, 8)), 0, api.OK, list(0)}, {single(wet(0, 0, 8, 8), wet(0, 0, 9, 9), wet(0, 0, 10, 10)), 0, api.OK, list(0, 1, 2)},
		{single(wet(0, 0, 8, 8), wet(0, 0, 3, 3), wet(0, 0, 10, 10)), 0, api.OK, list(0, 2)}, {single(wet(0, 0, 3, 3), wet(0, 0, 4, 4)), 1, api.OK, list(0)}, {single(wet(0, 0, 3, 3), wet(0, 0, 4, 4), wet(0, 0, 3, 3)), 1, api.OK, list(1)},
		{single(wet(0, 0, 3, 3), wet(0, 0, 4, 4), wet(0, 0, 3, 3), wet(0, 0, 4, 4)), 1, api.OK, list(0, 2)}, {single(wet(0, 0, 1, 3), wet(0, 0, 3, 5), wet(0, 0, 5, 7)), 2, api.OK, list(0)},
		{joint(wet(0, 1, 22, 22), wet(1, 1, 17, 17)), 1, api.OK, list(0)}, {joint(wet(0, 1, 22, 22), wet(1, 1, 17, 17), dry(0, 1, 28, 28)), 1, api.OK, list(1)}, {joint(wet(0, 1, 22, 22), wet(1, 1, 18, 18)), 0, api.ErrNone, nil},
	} {
		n, e := cask.First(x.c)
		out, f := cask.Leave(x.c)
		if n != x.first || e != x.e || !slices.Equal(out, x.leave) || f != api.OK {
			t.Errorf("First and Leave of %v: %d, %v; %v, %v", x.c, n, e, out, f)
		}
	}
	for _, c := range truthless() {
		n, e := cask.First(c)
		out, f := cask.Leave(c)
		if n != 0 || len(out) != 0 || e != api.ErrFail || f != api.ErrFail {
			t.Errorf("First and Leave of %v: %d, %v; %v, %v", c, n, e, out, f)
		}
	}
}

func TestP5_7Leave(t *testing.T) {
	sizes := map[int]int{}
	eachGauged(func(c cask.Cellar, all, of []played) {
		n, e := cask.First(c)
		out, f := cask.Leave(c)
		if len(all) == 0 {
			if n != 0 || len(out) != 0 || e != api.ErrFail || f != api.ErrFail {
				t.Fatalf("First and Leave of %v: %d, %v; %v, %v", c, n, e, out, f)
			}
			return
		}
		if want := first(c, all); want == -1 && (n != 0 || e != api.ErrNone) || want != -1 && (n != want || e != api.OK) {
			t.Fatalf("First of %v: %d, %v, not %d", c, n, e, want)
		}
		if want := smallest(c, all); !slices.Equal(out, want) || f != api.OK {
			t.Fatalf("Leave of %v: %v, %v, not %v", c, out, f, want)
		}
		sizes[len(out)]++
	})
	for size := range 5 {
		if sizes[size] < 10 {
			t.Errorf("only %d sets of %d", sizes[size], size)
		}
	}
}
