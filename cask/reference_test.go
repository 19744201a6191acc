package cask_test

import (
	"slices"

	"saccharum/cask"
)

// What this file computes follows the definitions of the chapter word by word, and tries all truths.

func list(l ...int) []int { return l }

func to(low, high int) cask.Range { return cask.Range{Lo: low, Hi: high} }

func in(n int, r cask.Range) bool { return r.Lo <= n && n <= r.Hi }

// ranges reads each two numbers as a range.
func ranges(l ...int) (out []cask.Range) {
	for i := 0; i < len(l); i += 2 {
		out = append(out, to(l[i], l[i+1]))
	}
	return out
}

// marks reads each two numbers as a dip and a content.
func marks(l ...int) (out []cask.Mark) {
	for i := 0; i < len(l); i += 2 {
		out = append(out, cask.Mark{Dip: l[i], Content: l[i+1]})
	}
	return out
}

// barrel is a cask with these marks.
func barrel(start, leak cask.Range, l ...int) cask.Cask {
	return cask.Cask{Marks: marks(l...), Start: start, Leak: leak}
}

func move(from, into, low, high int) cask.Move {
	return cask.Move{From: from, To: into, Quantity: to(low, high)}
}

func wet(k, after, low, high int) cask.Gauge {
	return cask.Gauge{Cask: k, After: after, Dip: to(low, high)}
}

func dry(k, after, low, high int) cask.Gauge {
	return cask.Gauge{Cask: k, After: after, Dip: to(low, high), Dry: true}
}

func gauges(l ...cask.Gauge) []cask.Gauge { return l }

func truth(start, leak, quantity []int) cask.Truth {
	return cask.Truth{Start: start, Leak: leak, Quantity: quantity}
}

// example is the cellar of the chapter's examples, with more gauges.
func example(more ...cask.Gauge) cask.Cellar {
	return cask.Cellar{
		Casks:  []cask.Cask{barrel(to(150, 160), to(0, 1), 0, 0, 10, 100, 20, 180), barrel(to(0, 0), to(0, 0), 0, 0, 20, 200)},
		Moves:  []cask.Move{move(0, 1, 40, 42)},
		Gauges: append(gauges(wet(0, 0, 16, 17), dry(1, 1, 16, 16)), more...),
	}
}

// single has one cask of 10 inches that hold one each, which is filled, and drawn from.
func single(l ...cask.Gauge) cask.Cellar {
	return cask.Cellar{Casks: []cask.Cask{barrel(to(0, 10), to(0, 2), 0, 0, 10, 10)}, Moves: []cask.Move{move(cask.Out, 0, 5, 6), move(0, cask.Out, 2, 4)}, Gauges: l}
}

// joint has two casks that know of each other only through what is moved between them.
func joint(l ...cask.Gauge) cask.Cellar {
	return cask.Cellar{Casks: []cask.Cask{barrel(to(30, 30), to(0, 0), 0, 0, 50, 50), barrel(to(10, 10), to(0, 0), 0, 0, 50, 50)}, Moves: []cask.Move{move(0, 1, 4, 12)}, Gauges: l}
}

// full has the most of all, the widest ranges, and casks that hold the most.
func full(l ...cask.Gauge) cask.Cellar {
	k := barrel(to(0, 1000), to(0, 4), 0, 0, 10, 150, 50, 300, 99, 999, 100, 1000)
	return cask.Cellar{Casks: []cask.Cask{k, k, k}, Moves: []cask.Move{move(0, 1, 1, 9), move(1, 2, 992, 1000), move(2, cask.Out, 500, 508), move(cask.Out, 0, 100, 108)}, Gauges: l}
}

// with is the cellar with these gauges.
func with(c cask.Cellar, l []cask.Gauge) cask.Cellar {
	c.Gauges = l
	return c
}

// depth and holds are those of a cask.
func depth(k cask.Cask) int { return k.Marks[len(k.Marks)-1].Dip }

func holds(k cask.Cask) int { return k.Marks[len(k.Marks)-1].Content }

// contentAt is the content at a dip. It divides by counting.
func contentAt(k cask.Cask, dip int) int {
	for i, m := range k.Marks {
		if m.Dip == dip {
			return m.Content
		}
		if m.Dip > dip {
			low, n := k.Marks[i-1], 0
			for (n+1)*(m.Dip-low.Dip) <= (m.Content-low.Content)*(dip-low.Dip) {
				n++
			}
			return low.Content + n
		}
	}
	panic("it is deeper than the cask")
}

// meaning are the contents that a gauge means.
func meaning(c cask.Cellar, g cask.Gauge) cask.Range {
	k := c.Casks[g.Cask]
	if g.Dry {
		return to(contentAt(k, depth(k)-g.Dip.Hi), contentAt(k, depth(k)-g.Dip.Lo))
	}
	return to(contentAt(k, g.Dip.Lo), contentAt(k, g.Dip.Hi))
}

// contents are those of a cask after 0, 1, .. moves.
func contents(c cask.Cellar, k, start, leak int, quantity []int) []int {
	row := list(start)
	for i, m := range c.Moves {
		start -= leak
		if m.From == k {
			start -= quantity[i]
		}
		if m.To == k {
			start += quantity[i]
		}
		row = append(row, start)
	}
	return row
}

// played is a truth with the contents of each cask.
type played struct {
	truth cask.Truth
	rows  [][]int
}

// play follows a truth; what it has may be more than a cask holds, or less than nothing.
func play(c cask.Cellar, t cask.Truth) played {
	p := played{truth: t}
	for k := range c.Casks {
		p.rows = append(p.rows, contents(c, k, t.Start[k], t.Leak[k], t.Quantity))
	}
	return p
}

// isPossible reports whether each content is from 0 to what the cask holds.
func isPossible(c cask.Cellar, p played) bool {
	for k, row := range p.rows {
		if slices.ContainsFunc(row, func(n int) bool { return !in(n, to(0, holds(c.Casks[k]))) }) {
			return false
		}
	}
	return true
}

// tuples are all lists with a number of each range.
func tuples(l []cask.Range) [][]int {
	all := [][]int{nil}
	for _, r := range l {
		var more [][]int
		for _, t := range all {
			for n := r.Lo; n <= r.Hi; n++ {
				more = append(more, append(slices.Clone(t), n))
			}
		}
		all = more
	}
	return all
}

// quantityRanges are the ranges of the moves.
func quantityRanges(c cask.Cellar) (l []cask.Range) {
	for _, m := range c.Moves {
		l = append(l, m.Quantity)
	}
	return l
}

// tries are all truths of the ranges, those that are none with the others.
func tries(c cask.Cellar) (l []played) {
	var starts, leaks []cask.Range
	for _, k := range c.Casks {
		starts, leaks = append(starts, k.Start), append(leaks, k.Leak)
	}
	for _, start := range tuples(starts) {
		for _, leak := range tuples(leaks) {
			for _, quantity := range tuples(quantityRanges(c)) {
				l = append(l, play(c, truth(start, leak, quantity)))
			}
		}
	}
	return l
}

// allTruths are the truths of the cellar without gauges.
func allTruths(c cask.Cellar) (l []played) {
	for _, p := range tries(c) {
		if isPossible(c, p) {
			l = append(l, p)
		}
	}
	return l
}

// areRight reports whether all gauges, but those left out, are right in the truth.
func areRight(c cask.Cellar, out []int, p played) bool {
	for i, g := range c.Gauges {
		if !slices.Contains(out, i) && !in(p.rows[g.Cask][g.After], meaning(c, g)) {
			return false
		}
	}
	return true
}

// truthsOf are the truths in which all gauges, but those left out, are right.
func truthsOf(c cask.Cellar, all []played, out []int) (of []played) {
	for _, p := range all {
		if areRight(c, out, p) {
			of = append(of, p)
		}
	}
	return of
}

// boundsIn are the bounds of each cask after each move in some truths.
func boundsIn(c cask.Cellar, of []played) (bounds [][]cask.Range) {
	for k := range c.Casks {
		var l []cask.Range
		for after := range len(c.Moves) + 1 {
			r := to(1<<30, -1<<30)
			for _, p := range of {
				r = to(min(r.Lo, p.rows[k][after]), max(r.Hi, p.rows[k][after]))
			}
			l = append(l, r)
		}
		bounds = append(bounds, l)
	}
	return bounds
}

// leakedIn are the bounds of what each cask leaked in some truths.
func leakedIn(c cask.Cellar, of []played) (bounds []cask.Range) {
	for k := range c.Casks {
		r := to(1<<30, -1<<30)
		for _, p := range of {
			n := p.truth.Leak[k] * len(c.Moves)
			r = to(min(r.Lo, n), max(r.Hi, n))
		}
		bounds = append(bounds, r)
	}
	return bounds
}

// overIn are the casks that leaked too much in each of some truths, and in some of them.
func overIn(c cask.Cellar, of []played, allowance int) (sure, may []int) {
	for k := range c.Casks {
		tooMuch := func(p played) bool { return p.truth.Leak[k]*len(c.Moves) > allowance }
		little := func(p played) bool { return !tooMuch(p) }
		if !slices.ContainsFunc(of, little) {
			sure = append(sure, k)
		}
		if slices.ContainsFunc(of, tooMuch) {
			may = append(may, k)
		}
	}
	return sure, may
}

// subsets are all increasing lists of numbers below count, the shorter ones first, then the lexicographically smaller ones.
func subsets(count int) (l [][]int) {
	for bits := range 1 << count {
		var s []int
		for i := range count {
			if bits>>i&1 == 1 {
				s = append(s, i)
			}
		}
		l = append(l, s)
	}
	slices.SortFunc(l, func(a, b []int) int {
		if len(a) != len(b) {
			return len(a) - len(b)
		}
		return slices.Compare(a, b)
	})
	return l
}

// first is the first wrong gauge, or -1.
func first(c cask.Cellar, all []played) int {
	for i := range c.Gauges {
		if len(truthsOf(with(c, c.Gauges[:i+1]), all, nil)) == 0 {
			return i
		}
	}
	return -1
}

// smallest is the smallest set, if there is any truth.
func smallest(c cask.Cellar, all []played) []int {
	for _, out := range subsets(len(c.Gauges)) {
		if len(truthsOf(c, all, out)) > 0 {
			return out
		}
	}
	panic("not even all gauges can be left out")
}

// course is what is in a cask with a start and a leak, with the gauges of it that are right: gauge i if the bit i is set.
type course struct {
	leak  int
	row   []int
	right int
}

// courses are those of a cask with the quantities that are possible.
func courses(c cask.Cellar, means []cask.Range, k int, quantity []int) (l []course) {
	x := c.Casks[k]
	for leak := x.Leak.Lo; leak <= x.Leak.Hi; leak++ {
		change := contents(c, k, 0, leak, quantity)
		for start := x.Start.Lo; start <= x.Start.Hi; start++ {
			if start+slices.Min(change) < 0 || start+slices.Max(change) > holds(x) {
				continue
			}
			o := course{leak: leak}
			for _, n := range change {
				o.row = append(o.row, start+n)
			}
			for i, g := range c.Gauges {
				if g.Cask == k && in(o.row[g.After], means[i]) {
					o.right |= 1 << i
				}
			}
			l = append(l, o)
		}
	}
	return l
}

// wide is what is so in all truths of a cellar that has too many to try each of them.
type wide struct {
	bounds [][]cask.Range
	leaked []cask.Range
	found  bool
	right  map[int]bool
}

// wideOf goes through the quantities: with them, each cask has any of its courses, whatever the other ones have.
func wideOf(c cask.Cellar) wide {
	means := make([]cask.Range, len(c.Gauges))
	own := make([]int, len(c.Casks))
	for i, g := range c.Gauges {
		means[i] = meaning(c, g)
		own[g.Cask] |= 1 << i
	}
	w := wide{bounds: boundsIn(c, nil), leaked: leakedIn(c, nil), right: map[int]bool{}}
	for _, quantity := range tuples(quantityRanges(c)) {
		sets := map[int]bool{0: true}
		fits := make([][]course, len(c.Casks))
		for k := range c.Casks {
			mine := map[int]bool{}
			for _, o := range courses(c, means, k, quantity) {
				mine[o.right] = true
				if o.right == own[k] {
					fits[k] = append(fits[k], o)
				}
			}
			more := map[int]bool{}
			for s := range mine {
				for other := range sets {
					more[s|other] = true
				}
			}
			sets = more
		}
		for s := range sets {
			w.right[s] = true
		}
		if !slices.ContainsFunc(fits, func(l []course) bool { return len(l) == 0 }) {
			w.add(c, fits)
		}
	}
	return w
}

// add counts the truths in which each cask has one of its courses.
func (w *wide) add(c cask.Cellar, fits [][]course) {
	w.found = true
	for k, l := range fits {
		for _, o := range l {
			n := o.leak * len(c.Moves)
			w.leaked[k] = to(min(w.leaked[k].Lo, n), max(w.leaked[k].Hi, n))
			for after, n := range o.row {
				r := w.bounds[k][after]
				w.bounds[k][after] = to(min(r.Lo, n), max(r.Hi, n))
			}
		}
	}
}

// canBeRight reports whether all gauges, but those left out, are right in some truth.
func (w wide) canBeRight(count int, out []int) bool {
	wanted := 1<<count - 1
	for _, i := range out {
		wanted &^= 1 << i
	}
	for s := range w.right {
		if s&wanted == wanted {
			return true
		}
	}
	return false
}

// first is the first wrong gauge, or -1.
func (w wide) first(count int) int {
	for i := range count {
		if !w.canBeRight(i+1, nil) {
			return i
		}
	}
	return -1
}

// smallest is the smallest set, if there is any truth.
func (w wide) smallest(count int) []int {
	for _, out := range subsets(count) {
		if w.canBeRight(count, out) {
			return out
		}
	}
	panic("not even all gauges can be left out")
}
