package cask_test

import (
	"math/rand"
	"reflect"
	"slices"
	"testing"

	"saccharum/api"
	"saccharum/cask"
)

func TestP5_8InEachTruth(t *testing.T) {
	eachGauged(func(c cask.Cellar, all, of []played) {
		b, e := cask.Bounds(c)
		leaked, f := cask.Leaked(c)
		if (e == api.OK) != (len(of) > 0) || f != e {
			t.Fatalf("Bounds and Leaked of %v: %v, %v", c, e, f)
		}
		for _, p := range of {
			l, e := cask.Play(c, p.truth)
			if e != api.OK || !cask.ProveTruth(c, p.truth) {
				t.Fatalf("Play of %v, %v: %v, %v", c, p.truth, l, e)
			}
			for k, row := range l {
				for after, n := range row {
					if !in(n, b[k][after]) || !in(p.truth.Leak[k]*len(c.Moves), leaked[k]) {
						t.Fatalf("%v, %v: %d in the cask %d after %d moves, but the bounds are %v; leaked: %v", c, p.truth, n, k, after, b, leaked)
					}
				}
			}
			for i, g := range c.Gauges {
				if r, e := cask.Mean(c, i); e != api.OK || !in(l[g.Cask][g.After], r) {
					t.Fatalf("%v, %v: the gauge %d means %v, %v", c, p.truth, i, r, e)
				}
			}
		}
	})
}

// sum adds up.
func sum(l []int) (n int) {
	for _, x := range l {
		n += x
	}
	return n
}

func TestP5_9NothingIsLost(t *testing.T) {
	random := rand.New(rand.NewSource(10))
	played, leaked, outside := 0, 0, 0
	for _, c := range append(cellars(), wideCellars()...) {
		for range 60 {
			u := anyTruth(random, c).truth
			l, e := cask.Play(c, u)
			if e != api.OK {
				continue
			}
			played++
			want := sum(u.Start) - sum(u.Leak)*len(c.Moves)
			for i, m := range c.Moves {
				switch {
				case m.From == cask.Out:
					want += u.Quantity[i]
					outside++
				case m.To == cask.Out:
					want -= u.Quantity[i]
					outside++
				}
			}
			n := 0
			for k, row := range l {
				if len(row) != len(c.Moves)+1 || row[0] != u.Start[k] {
					t.Fatalf("Play of %v, %v: %v", c, u, l)
				}
				n += row[len(c.Moves)]
			}
			if n != want {
				t.Fatalf("Play of %v, %v: %v, with %d, not %d", c, u, l, n, want)
			}
			leaked += sum(u.Leak) * len(c.Moves)
		}
	}
	if played < 5000 || leaked < 5000 || outside < 5000 {
		t.Errorf("only %d truths, with %d that leaked, and %d moves from outside or to there", played, leaked, outside)
	}
}

func TestP5_10Deeper(t *testing.T) {
	eachCask(func(c cask.Cellar, number int, k cask.Cask) {
		at := func(dip int) int {
			n, e := cask.Content(c, number, dip)
			if e != api.OK || !in(n, to(0, holds(k))) {
				t.Fatalf("Content of %v at %d: %d, %v", k, dip, n, e)
			}
			return n
		}
		for dip := range depth(k) {
			if at(dip+1) < at(dip) {
				t.Fatalf("%v: %d at %d, but %d at %d", k, at(dip+1), dip+1, at(dip), dip)
			}
		}
		for dip := range depth(k) + 1 {
			back, e := cask.Dip(c, number, at(dip))
			if e != api.OK || back < dip || at(back) != at(dip) {
				t.Fatalf("Dip of %v with the content at %d: %d, %v", k, dip, back, e)
			}
		}
		for content := range holds(k) + 1 {
			dip, e := cask.Dip(c, number, content)
			if e != api.OK || !in(dip, to(0, depth(k))) || at(dip) > content || dip < depth(k) && at(dip+1) <= content {
				t.Fatalf("Dip of %v with %d: %d, %v", k, content, dip, e)
			}
		}
	})
}

// TestP5_11WetAndDry reads some gauges from the other end: each call has the same results.
func TestP5_11WetAndDry(t *testing.T) {
	random := rand.New(rand.NewSource(11))
	for _, c := range append(gauged(random, cellars(), 13), gauged(random, wideCellars(), 5)...) {
		other := with(c, slices.Clone(c.Gauges))
		for i, g := range c.Gauges {
			if random.Intn(4) > 0 {
				other.Gauges[i] = turned(c, g)
			}
			r, e := cask.Mean(c, i)
			q, f := cask.Mean(other, i)
			if r != q || e != api.OK || f != api.OK {
				t.Fatalf("Mean of %d of %v: %v, %v; of %v: %v, %v", i, c, r, e, other, q, f)
			}
		}
		if a, b := results(c), results(other); !reflect.DeepEqual(a, b) {
			t.Fatalf("results of %v: %v; of %v: %v", c, a, other, b)
		}
	}
}

// inside reports whether all bounds are within the others.
func inside(narrow, wide [][]cask.Range) bool {
	return slices.EqualFunc(narrow, wide, func(a, b []cask.Range) bool {
		return slices.EqualFunc(a, b, func(r, q cask.Range) bool { return q.Lo <= r.Lo && r.Hi <= q.Hi })
	})
}

func TestP5_12OneMoreGauge(t *testing.T) {
	random := rand.New(rand.NewSource(12))
	narrower, more := 0, 0
	for _, c := range append(cellars(), wideCellars()...) {
		last, e := cask.Bounds(c)
		if e != api.OK {
			continue
		}
		for _, l := range gaugeLists(random, c)[1:9] {
			last, fewest := last, 0
			for i := range l {
				b, e := cask.Bounds(with(c, l[:i+1]))
				out, f := cask.Leave(with(c, l[:i+1]))
				if !in(len(out), to(fewest, fewest+1)) || f != api.OK || (e == api.OK) != (len(out) == 0) || e == api.OK && !inside(b, last) {
					t.Fatalf("%v, %v: %v, %v after %v; Leave: %v, %v after %d", c, l[:i+1], b, e, last, out, f, fewest)
				}
				if e == api.OK && !equal(b, last) {
					narrower++
				}
				if len(out) > fewest {
					more++
				}
				last, fewest = b, len(out)
			}
		}
	}
	if narrower < 500 || more < 200 {
		t.Errorf("only %d bounds were narrower, and %d sets greater", narrower, more)
	}
}

// longer is the range with some numbers more, as far as it may be.
func longer(random *rand.Rand, r cask.Range, low, high, wide int) cask.Range {
	for range random.Intn(4) {
		if r.Lo > low && r.Hi-r.Lo < wide {
			r.Lo--
		}
	}
	for range random.Intn(4) {
		if r.Hi < high && r.Hi-r.Lo < wide {
			r.Hi++
		}
	}
	return r
}

// wider is the cellar with wider ranges of a cask, a move, or a gauge.
func wider(random *rand.Rand, c cask.Cellar) cask.Cellar {
	c.Casks, c.Moves, c.Gauges = slices.Clone(c.Casks), slices.Clone(c.Moves), slices.Clone(c.Gauges)
	switch n := random.Intn(3); {
	case n == 0 && len(c.Moves) > 0:
		m := &c.Moves[random.Intn(len(c.Moves))]
		m.Quantity = longer(random, m.Quantity, 1, api.MaxCaskContent, api.MaxCaskWide)
	case n == 1 && len(c.Gauges) > 0:
		g := &c.Gauges[random.Intn(len(c.Gauges))]
		d := depth(c.Casks[g.Cask])
		g.Dip = longer(random, g.Dip, 0, d, d)
	default:
		k := &c.Casks[random.Intn(len(c.Casks))]
		k.Start, k.Leak = longer(random, k.Start, 0, holds(*k), holds(*k)), longer(random, k.Leak, 0, api.MaxCaskLeak, api.MaxCaskLeak)
	}
	return c
}

func TestP5_13Wider(t *testing.T) {
	random := rand.New(rand.NewSource(13))
	fewer, more := 0, 0
	for _, c := range gauged(random, cellars(), 13) {
		d := wider(random, c)
		b, e := cask.Bounds(c)
		q, f := cask.Bounds(d)
		out, g := cask.Leave(c)
		other, h := cask.Leave(d)
		if e == api.OK && (f != api.OK || !inside(b, q)) || g == api.OK && (h != api.OK || len(other) > len(out)) {
			t.Fatalf("%v and %v: %v, %v; %v, %v; %v, %v; %v, %v", c, d, b, e, q, f, out, g, other, h)
		}
		if len(other) < len(out) {
			fewer++
		}
		if e == api.OK && !equal(b, q) {
			more++
		}
	}
	if fewer < 50 || more < 200 {
		t.Errorf("only %d sets were smaller, and %d bounds wider", fewer, more)
	}
}

// isPart reports whether all elements of a list are in the other one.
func isPart(l, other []int) bool {
	return !slices.ContainsFunc(l, func(n int) bool { return !slices.Contains(other, n) })
}

func TestP5_14Over(t *testing.T) {
	random := rand.New(rand.NewSource(14))
	changes := 0
	for _, c := range append(gauged(random, cellars(), 13), gauged(random, wideCellars(), 2)...) {
		if _, e := cask.Show(c); e != api.OK {
			continue
		}
		lastSure, lastMay, e := cask.Over(c, -1)
		if e != api.OK || len(lastSure) != len(c.Casks) || len(lastMay) != len(c.Casks) {
			t.Fatalf("Over of %v, -1: %v, %v, %v", c, lastSure, lastMay, e)
		}
		for allowance := range api.MaxCaskLeak*api.MaxCaskMoves + 1 {
			sure, may, e := cask.Over(c, allowance)
			if e != api.OK || !slices.IsSorted(sure) || !slices.IsSorted(may) || !isPart(sure, may) || !isPart(sure, lastSure) || !isPart(may, lastMay) {
				t.Fatalf("Over of %v, %d: %v, %v, %v after %v, %v", c, allowance, sure, may, e, lastSure, lastMay)
			}
			if len(sure) < len(lastSure) && len(may) == len(lastMay) {
				changes++
			}
			lastSure, lastMay = sure, may
		}
		if len(lastSure)+len(lastMay) != 0 {
			t.Fatalf("Over of %v: %v, %v", c, lastSure, lastMay)
		}
	}
	if changes < 200 {
		t.Errorf("only %d allowances for what may have leaked, but not for sure", changes)
	}
}

func TestP5_15First(t *testing.T) {
	random := rand.New(rand.NewSource(15))
	wrong := 0
	for _, c := range append(gauged(random, cellars(), 13), gauged(random, wideCellars(), 6)...) {
		n, e := cask.First(c)
		out, f := cask.Leave(c)
		switch e {
		case api.OK:
			_, before := cask.Show(with(c, c.Gauges[:n]))
			_, after := cask.Show(with(c, c.Gauges[:n+1]))
			if before != api.OK || after != api.ErrFalse || f != api.OK || len(out) == 0 {
				t.Fatalf("First of %v: %d; before it %v, with it %v; Leave: %v, %v", c, n, before, after, out, f)
			}
			wrong++
		case api.ErrNone:
			if u, e := cask.Show(c); e != api.OK || !cask.ProveTruth(c, u) || len(out) != 0 || f != api.OK {
				t.Fatalf("First of %v: none; Show: %v, %v; Leave: %v, %v", c, u, e, out, f)
			}
		default:
			if _, g := cask.Show(with(c, nil)); e != api.ErrFail || f != api.ErrFail || g != api.ErrFalse {
				t.Fatalf("First of %v: %v; Leave: %v; Show: %v", c, e, f, g)
			}
		}
	}
	if wrong < 500 {
		t.Errorf("only %d wrong gauges", wrong)
	}
}

// without are the gauges but those of the list.
func without(l []cask.Gauge, out []int) (left []cask.Gauge) {
	for i, g := range l {
		if !slices.Contains(out, i) {
			left = append(left, g)
		}
	}
	return left
}

func TestP5_16LeftOut(t *testing.T) {
	random := rand.New(rand.NewSource(16))
	for _, c := range append(gauged(random, cellars(), 13), gauged(random, wideCellars()[1:], 4)...) {
		out, e := cask.Leave(c)
		if e == api.ErrFail {
			continue
		}
		left := with(c, without(c.Gauges, out))
		u, f := cask.Show(left)
		if e != api.OK || f != api.OK || len(left.Gauges) != len(c.Gauges)-len(out) || !cask.ProveTruth(left, u) {
			t.Fatalf("%v: without %v %v, %v", c, out, u, f)
		}
		for _, other := range subsets(len(c.Gauges)) {
			if slices.Equal(other, out) {
				break
			}
			if _, e := cask.Show(with(c, without(c.Gauges, other))); e != api.ErrFalse {
				t.Fatalf("Leave of %v: %v, but without %v: %v", c, out, other, e)
			}
		}
	}
}

// TestAnyOrder lists the gauges in another order: the ranges are the same, and as many have to be left out.
func TestAnyOrder(t *testing.T) {
	random := rand.New(rand.NewSource(17))
	for _, c := range gauged(random, cellars(), 13) {
		other := with(c, slices.Clone(c.Gauges))
		random.Shuffle(len(other.Gauges), func(i, j int) {
			other.Gauges[i], other.Gauges[j] = other.Gauges[j], other.Gauges[i]
		})
		b, e := cask.Bounds(c)
		q, f := cask.Bounds(other)
		l, _ := cask.Leaked(c)
		m, _ := cask.Leaked(other)
		out, g := cask.Leave(c)
		out2, h := cask.Leave(other)
		if !equal(b, q) || e != f || !slices.Equal(l, m) || len(out) != len(out2) || g != h {
			t.Fatalf("%v: %v, %v, %v, %v; %v: %v, %v, %v, %v", c, b, e, l, out, other, q, f, m, out2)
		}
	}
}

// results are those of the calls that look at all truths of a cellar.
func results(c cask.Cellar) []any {
	b, e := cask.Bounds(c)
	l, f := cask.Leaked(c)
	sure, may, g := cask.Over(c, 2)
	u, h := cask.Show(c)
	n, i := cask.First(c)
	out, j := cask.Leave(c)
	return []any{b, e, l, f, sure, may, g, u, h, n, i, out, j}
}

// TestAgain checks that nothing is kept: the calls in between change no results.
func TestAgain(t *testing.T) {
	random := rand.New(rand.NewSource(18))
	l := gauged(random, cellars()[:40], 13)
	var before [][]any
	for _, c := range l {
		before = append(before, results(c))
	}
	for i, c := range slices.Backward(l) {
		if again := results(c); !reflect.DeepEqual(again, before[i]) {
			t.Fatalf("results of %v again: %v, not %v", c, again, before[i])
		}
	}
}

// overwrite changes all elements, and those that could be after them.
func overwrite[T any](x T, rows ...[]T) {
	for _, row := range rows {
		for i := range row {
			row[i] = x
		}
		_ = append(row, x)
	}
}

// TestOwnMemory checks that arguments are not written to, and that results share no memory with them, with each other, nor with later results.
func TestOwnMemory(t *testing.T) {
	arguments := func() (cask.Cellar, cask.Cellar, cask.Truth) {
		return example(), example(wet(0, 1, 10, 10)), truth(list(150, 0), list(1, 0), list(40))
	}
	c, wrong, u := arguments()
	before := append(results(c), results(wrong)...)
	p, _ := cask.Play(c, u)
	b, _ := cask.Bounds(c)
	l, _ := cask.Leaked(c)
	sure, may, _ := cask.Over(c, -1)
	s, _ := cask.Show(c)
	out, _ := cask.Leave(wrong)
	for i := range p {
		row, bounds := slices.Clone(p[1-i]), slices.Clone(b[1-i])
		overwrite(-99, p[i])
		overwrite(to(-99, -99), b[i])
		if !slices.Equal(p[1-i], row) || !slices.Equal(b[1-i], bounds) {
			t.Errorf("the rows share memory: %v, %v", p, b)
		}
	}
	lists := [][]int{sure, may, s.Start, s.Leak, s.Quantity, out}
	for i, x := range lists {
		if len(x) == 0 {
			t.Errorf("the list %d is empty", i)
		}
		overwrite(-99-i, x)
	}
	for i, x := range lists {
		if slices.ContainsFunc(x, func(n int) bool { return n != -99-i }) {
			t.Errorf("the lists share memory: %v", lists)
		}
	}
	overwrite(to(-99, -99), l)
	cask.ProveTruth(c, u)
	cask.Content(c, 0, 5)
	cask.Dip(c, 0, 5)
	cask.Mean(c, 1)
	if after := append(results(c), results(wrong)...); !reflect.DeepEqual(after, before) {
		t.Errorf("results again: %v, not %v", after, before)
	}
	d, other, v := arguments()
	if !reflect.DeepEqual(c, d) || !reflect.DeepEqual(wrong, other) || !reflect.DeepEqual(u, v) {
		t.Errorf("arguments were written to: %v, %v, %v", c, wrong, u)
	}
}

// anyCellar has numbers of the list, in lists that may be too long.
func anyCellar(random *rand.Rand, some func() int) cask.Cellar {
	r := func() cask.Range { return to(some(), some()) }
	var c cask.Cellar
	for range random.Intn(5) {
		k := cask.Cask{Marks: marks(0, 0), Start: r(), Leak: r()}
		for range random.Intn(6) {
			k.Marks = append(k.Marks, cask.Mark{Dip: some(), Content: some()})
		}
		c.Casks = append(c.Casks, k)
	}
	for range random.Intn(6) {
		c.Moves = append(c.Moves, cask.Move{From: some(), To: some(), Quantity: r()})
	}
	for range random.Intn(8) {
		c.Gauges = append(c.Gauges, cask.Gauge{Cask: some(), After: some(), Dip: r(), Dry: random.Intn(2) == 0})
	}
	return c
}

// TestAnyArguments checks that no call panics, and that each result beside an error is zero, whatever the arguments are.
func TestAnyArguments(t *testing.T) {
	values := list(lowest, lowest+1, -2, -1, -1, 0, 0, 0, 0, 1, 1, 1, 2, 2, 3, 4, 5, 9, 20, 40, 100, 101, 150, 180, 1000, 1001, huge-1, huge)
	random := rand.New(rand.NewSource(19))
	some := func() int { return values[random.Intn(len(values))] }
	several := func() (l []int) {
		for range random.Intn(4) {
			l = append(l, some())
		}
		return l
	}
	for i := range 20000 {
		c := anyCellar(random, some)
		switch i % 4 {
		case 0:
			c = example(c.Gauges...)
		case 1:
			c.Casks = example().Casks
		case 2:
			c.Casks, c.Moves = example().Casks, example().Moves
		}
		none := cask.CheckCellar(c) != api.OK
		u := truth(several(), several(), several())
		n, e := cask.Content(c, some(), some())
		m, f := cask.Dip(c, some(), some())
		r, g := cask.Mean(c, some())
		p, h := cask.Play(c, u)
		b, j := cask.Bounds(c)
		l, k := cask.Leaked(c)
		sure, may, o := cask.Over(c, some())
		s, q := cask.Show(c)
		w, v := cask.First(c)
		out, x := cask.Leave(c)
		for _, y := range []struct {
			e    api.Errno
			zero bool
		}{{e, n == 0}, {f, m == 0}, {g, r == to(0, 0)}, {h, len(p) == 0}, {j, len(b) == 0}, {k, len(l) == 0}, {o, len(sure)+len(may) == 0}, {q, isZero(s)}, {v, w == 0}, {x, len(out) == 0}} {
			if y.e != api.OK && !y.zero || none && y.e == api.OK {
				t.Fatalf("a result beside an error, of %v, %v", c, u)
			}
		}
		if cask.ProveTruth(c, u) && (none || h != api.OK || j != api.OK) || !none && cask.ProveTruth(c, s) != (q == api.OK) {
			t.Fatalf("ProveTruth of %v, %v, %v", c, u, s)
		}
	}
}
