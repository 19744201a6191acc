package sample_test

import (
	"math"
	"slices"
	"testing"

	"saccharum/api"
	"saccharum/sample"
)

const lowest, huge = math.MinInt, math.MaxInt

func list(l ...int) []int { return l }

func to(low, high int) sample.Range { return sample.Range{Lo: low, Hi: high} }

func in(n int, r sample.Range) bool { return r.Lo <= n && n <= r.Hi }

func pass(bottle, from, into, low, high int) sample.Pass {
	return sample.Pass{Bottle: bottle, From: from, To: into, Hour: to(low, high)}
}

func whole(bottle, hour int) sample.Sight {
	return sample.Sight{Bottle: bottle, Hour: hour, Whole: true}
}

func broken(bottle, hour int) sample.Sight {
	return sample.Sight{Bottle: bottle, Hour: hour, Whole: false}
}

func passes(l ...sample.Pass) []sample.Pass { return l }

func sights(l ...sample.Sight) []sample.Sight { return l }

func stamps(l ...bool) []bool { return l }

func truth(hours []int, acts ...[]int) sample.Truth {
	return sample.Truth{Hours: hours, Acts: acts}
}

// example is the sample of the chapter's examples, with further sights.
func example(more ...sample.Sight) sample.Sample {
	return sample.Sample{
		Bottles: 2, People: 3, Last: 4, First: 0,
		Stamps: stamps(false, false, true),
		Passes: passes(pass(0, 0, 1, 1, 2), pass(0, 1, 2, 3, 3), pass(1, 0, 1, 2, 2)),
		Sights: append(sights(whole(0, 2), whole(1, 4)), more...),
	}
}

// changed is the sample of the examples after a change.
func changed(change func(s *sample.Sample)) sample.Sample {
	s := example()
	change(&s)
	return s
}

// single has one bottle, and as many people as stamps, of whom 0 has it at first.
func single(last int, has []bool, l []sample.Pass, k ...sample.Sight) sample.Sample {
	return sample.Sample{Bottles: 1, People: len(has), Last: last, Stamps: has, Passes: l, Sights: k}
}

// played is a truth, with what there is in each hour: who has each bottle, whether its seal is whole, and whether it is open.
type played struct {
	hours       [6]int
	acts, held  [3][10]int
	whole, open [3][10]bool
}

// truthOf is the truth without what there is in it.
func (p played) truthOf(s sample.Sample) sample.Truth {
	u := sample.Truth{Hours: slices.Clone(p.hours[:len(s.Passes)])}
	for b := range s.Bottles {
		u.Acts = append(u.Acts, slices.Clone(p.acts[b][:s.Last+1]))
	}
	return u
}

// hourLists are all lists of hours of some passes.
func hourLists(l []sample.Pass) (all [][6]int) {
	all = make([][6]int, 1)
	for i, p := range l {
		var more [][6]int
		for _, before := range all {
			for h := p.Hour.Lo; h <= p.Hour.Hi; h++ {
				before[i] = h
				more = append(more, before)
			}
		}
		all = more
	}
	return all
}

// eachTruth calls the function for all truths of the sample, hour by hour and bottle by bottle.
func eachTruth(s sample.Sample, do func(p played)) {
	for _, hours := range hourLists(s.Passes) {
		eachFrom(s, played{hours: hours}, 0, do)
	}
}

// eachFrom lets the passes of the hour happen, and goes on.
func eachFrom(s sample.Sample, p played, hour int, do func(p played)) {
	if hour > s.Last {
		isWrong := func(k sample.Sight) bool { return p.whole[k.Bottle][k.Hour] != k.Whole }
		if !slices.ContainsFunc(s.Sights, isWrong) {
			do(p)
		}
		return
	}
	for b := range s.Bottles {
		p.held[b][hour] = s.First
		if hour > 0 {
			p.held[b][hour] = p.held[b][hour-1]
		}
	}
	for i, x := range s.Passes {
		if p.hours[i] != hour {
			continue
		}
		if p.held[x.Bottle][hour] != x.From {
			return
		}
		p.held[x.Bottle][hour] = x.To
	}
	eachAct(s, p, hour, 0, do)
}

// eachAct tries all acts for the bottle, and goes on.
func eachAct(s sample.Sample, p played, hour, b int, do func(p played)) {
	if b == s.Bottles {
		eachFrom(s, p, hour+1, do)
		return
	}
	before := hour == 0 || p.whole[b][hour-1]
	stamp := s.Stamps[p.held[b][hour]]
	try := func(act int, whole, open bool) {
		next := p
		next.acts[b][hour], next.whole[b][hour], next.open[b][hour] = act, whole, open
		eachAct(s, next, hour, b+1, do)
	}
	try(sample.Keep, before, !before)
	if before {
		try(sample.Break, false, true)
	}
	if !before && stamp {
		try(sample.Seal, true, true)
	}
	if before && stamp {
		try(sample.Again, true, true)
	}
}

// facts is what there is in the truths of a sample; if it has none, it is zero.
type facts struct {
	is                bool
	held              [3][10][4]bool // who can have each bottle at the end of each hour
	opened            [3][4]bool     // who can have opened each bottle
	verdicts, fewest  [3]int
	alike             int
	truths, unopened  int
	alwaysOpen, never [3]bool
}

// factsOf are the facts of the sample, by all of its truths.
func factsOf(s sample.Sample) facts {
	var f facts
	eachTruth(s, func(p played) { f.add(s, p) })
	if !f.is {
		return facts{}
	}
	for b := range s.Bottles {
		f.verdicts[b] = verdict(f.alwaysOpen[b], f.never[b])
	}
	f.alike = verdict(f.unopened == f.truths, f.unopened == 0)
	return f.plain()
}

// verdict is Always, Never or Perhaps.
func verdict(always, never bool) int {
	switch {
	case always:
		return sample.Always
	case never:
		return sample.Never
	}
	return sample.Perhaps
}

// plain is the facts without what they were counted with.
func (f facts) plain() facts {
	f.truths, f.unopened = 0, 0
	f.alwaysOpen, f.never = [3]bool{}, [3]bool{}
	return f
}

// add adds one more truth.
func (f *facts) add(s sample.Sample, p played) {
	if !f.is {
		f.is = true
		for b := range s.Bottles {
			f.fewest[b], f.alwaysOpen[b], f.never[b] = huge, true, true
		}
	}
	f.truths++
	all := 0
	for b := range s.Bottles {
		count := 0
		for h := range s.Last + 1 {
			f.held[b][h][p.held[b][h]] = true
			if p.open[b][h] {
				f.opened[b][p.held[b][h]] = true
				count++
			}
		}
		f.fewest[b] = min(f.fewest[b], count)
		f.alwaysOpen[b] = f.alwaysOpen[b] && count > 0
		f.never[b] = f.never[b] && count == 0
		all += count
	}
	if all == 0 {
		f.unopened++
	}
}

// coursesOf are all lists of who can have the bottle in each hour, whatever the sights are, by the passes of this bottle that are kept.
func coursesOf(s sample.Sample, b int, kept func(entry int) bool) [][10]int {
	var own []sample.Pass
	for i, x := range s.Passes {
		if x.Bottle == b && kept(i) {
			own = append(own, x)
		}
	}
	seen := map[[10]int]bool{}
	var all [][10]int
	for _, hours := range hourLists(own) {
		if c, possible := courseOf(s, own, hours); possible && !seen[c] {
			seen[c] = true
			all = append(all, c)
		}
	}
	return all
}

// courseOf sorts the passes by their hours, and lets them happen one by one.
func courseOf(s sample.Sample, own []sample.Pass, hours [6]int) (c [10]int, possible bool) {
	order := make([]int, len(own))
	for i := range order {
		order[i] = i
	}
	slices.SortStableFunc(order, func(i, j int) int { return hours[i] - hours[j] })
	holder := s.First
	for h := range s.Last + 1 {
		c[h] = holder
	}
	for _, i := range order {
		if own[i].From != holder {
			return c, false
		}
		holder = own[i].To
		for h := hours[i]; h <= s.Last; h++ {
			c[h] = holder
		}
	}
	return c, true
}

// wideFacts are the facts of the sample, by all lists of seals that each bottle can have on each of its courses.
func wideFacts(s sample.Sample) facts {
	f := facts{is: true, alike: sample.Always}
	all := func(int) bool { return true }
	for b := range s.Bottles {
		f.fewest[b] = huge
		for _, c := range coursesOf(s, b, all) {
			for seals := range 1 << (s.Last + 1) {
				f.addSeals(s, b, c, seals)
			}
		}
		if f.fewest[b] == huge {
			return facts{}
		}
		f.verdicts[b] = verdict(f.fewest[b] > 0, f.opened[b] == [4]bool{})
		if f.verdicts[b] == sample.Perhaps && f.alike == sample.Always {
			f.alike = sample.Perhaps
		}
		if f.verdicts[b] == sample.Always {
			f.alike = sample.Never
		}
	}
	return f
}

// addSeals adds the truths in which the seal is whole at the end of the hours whose bits are set.
func (f *facts) addSeals(s sample.Sample, b int, c [10]int, seals int) {
	isWhole := func(hour int) bool { return hour < 0 || seals>>hour&1 == 1 }
	for h := range s.Last + 1 {
		if !isWhole(h-1) && isWhole(h) && !s.Stamps[c[h]] {
			return
		}
	}
	for _, k := range s.Sights {
		if k.Bottle == b && isWhole(k.Hour) != k.Whole {
			return
		}
	}
	count := 0
	for h := range s.Last + 1 {
		f.held[b][h][c[h]] = true
		must := !isWhole(h-1) || !isWhole(h)
		if must {
			count++
		}
		if must || s.Stamps[c[h]] {
			f.opened[b][c[h]] = true
		}
	}
	f.fewest[b] = min(f.fewest[b], count)
}

// isRight reports whether the seal of the bottle can be as all its sights say that are kept: who has a stamp must have it after an hour in which it is broken, if it is whole later.
func isRight(s sample.Sample, b int, c [10]int, kept func(entry int) bool) bool {
	for i, k := range s.Sights {
		for j, other := range s.Sights {
			if k.Bottle != b || other.Bottle != b || !kept(len(s.Passes)+i) || !kept(len(s.Passes)+j) || k.Whole || !other.Whole || k.Hour > other.Hour {
				continue
			}
			stamp := false
			for h := k.Hour + 1; h <= other.Hour; h++ {
				stamp = stamp || s.Stamps[c[h]]
			}
			if !stamp {
				return false
			}
		}
	}
	return true
}

// without reports of each entry whether it is kept if some are left out.
func without(out []int) func(entry int) bool {
	return func(entry int) bool { return !slices.Contains(out, entry) }
}

// leaver tells of a sample which entries can be left out. It has the courses of each bottle for the passes that are kept.
type leaver struct {
	s       sample.Sample
	courses map[[7]bool][][10]int
}

func newLeaver(s sample.Sample) leaver {
	return leaver{s: s, courses: map[[7]bool][][10]int{}}
}

// canLeave reports whether the sample with some entries alone has a truth: whether each bottle has a course that fits its sights.
func (l leaver) canLeave(kept func(entry int) bool) bool {
	for b := range l.s.Bottles {
		var key [7]bool
		for i, x := range l.s.Passes {
			key[i] = x.Bottle == b && kept(i)
		}
		if key == [7]bool{} {
			key[6] = true // No pass of any bottle is kept, and whoever has the bottle at first keeps it.
		}
		if _, known := l.courses[key]; !known {
			l.courses[key] = coursesOf(l.s, b, kept)
		}
		fits := func(c [10]int) bool { return isRight(l.s, b, c, kept) }
		if !slices.ContainsFunc(l.courses[key], fits) {
			return false
		}
	}
	return true
}

// only is the sample with some entries alone.
func only(s sample.Sample, kept func(entry int) bool) sample.Sample {
	x := s
	x.Passes, x.Sights = nil, nil
	for i, p := range s.Passes {
		if kept(i) {
			x.Passes = append(x.Passes, p)
		}
	}
	for i, k := range s.Sights {
		if kept(len(s.Passes) + i) {
			x.Sights = append(x.Sights, k)
		}
	}
	return x
}

// hasTruth reports whether the sample has a truth, by all of its truths.
func hasTruth(s sample.Sample) bool {
	is := false
	eachTruth(s, func(played) { is = true })
	return is
}

// subsets are all increasing lists of numbers below count: the shorter ones first, those of one length in lexicographic order.
func subsets(count int) (l [][]int) {
	for bits := range 1 << count {
		var s []int
		for i := range count {
			if bits>>i&1 == 1 {
				s = append(s, i)
			}
		}
		l = append(l, s)
	}
	slices.SortFunc(l, func(a, b []int) int {
		if len(a) != len(b) {
			return len(a) - len(b)
		}
		return slices.Compare(a, b)
	})
	return l
}

// entries is how many the sample has.
func entries(s sample.Sample) int { return len(s.Passes) + len(s.Sights) }

// smallest is the smallest set of entries, if this is how it is asked whether some alone have a truth.
func smallest(s sample.Sample, can func(kept func(entry int) bool) bool) []int {
	for _, out := range subsets(entries(s)) {
		if can(without(out)) {
			return out
		}
	}
	panic("not even all entries can be left out")
}

// first is the first entry that contradicts, or ErrNone, if this is how it is asked whether some alone have a truth.
func first(s sample.Sample, can func(kept func(entry int) bool) bool) (int, api.Errno) {
	for n := range entries(s) {
		if !can(func(entry int) bool { return entry <= n }) {
			return n, api.OK
		}
	}
	return 0, api.ErrNone
}

// answersOf are the facts of a sample, as the program has them. It checks that the calls agree about whether there are any.
func answersOf(t *testing.T, s sample.Sample) (facts, api.Errno) {
	verdicts, e := sample.Verdicts(s)
	alike, e2 := sample.Alike(s)
	fewest, e3 := sample.Least(s)
	if e2 != e || e3 != e {
		t.Fatalf("Verdicts, Alike, Least of %v: %v, %v, %v", s, e, e2, e3)
	}
	if e != api.OK {
		if len(verdicts)+len(fewest)+alike != 0 {
			t.Fatalf("results beside an error, of %v: %v, %d, %v", s, verdicts, alike, fewest)
		}
		return facts{}, e
	}
	if len(verdicts) != s.Bottles || len(fewest) != s.Bottles {
		t.Fatalf("Verdicts, Least of %v: %v, %v", s, verdicts, fewest)
	}
	f := facts{is: true, alike: alike}
	copy(f.verdicts[:], verdicts)
	copy(f.fewest[:], fewest)
	for b := range s.Bottles {
		l, e := sample.Openers(s, b)
		f.opened[b] = people(t, l)
		for h := range s.Last + 1 {
			l, g := sample.Holders(s, b, h)
			f.held[b][h] = people(t, l)
			if e != api.OK || g != api.OK {
				t.Fatalf("Openers, Holders of %v: %v, %v", s, e, g)
			}
		}
	}
	return f, api.OK
}

// people are those of an increasing list.
func people(t *testing.T, l []int) (is [4]bool) {
	for i, n := range l {
		if i > 0 && l[i-1] >= n || !in(n, to(0, 3)) {
			t.Fatalf("people: %v", l)
		}
		is[n] = true
	}
	return is
}
