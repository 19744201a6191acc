package wort_test

import (
	"slices"

	"saccharum/wort"
)

// What this file computes follows the definitions of the chapter word by word, and tries all truths and all plans.

func list(l ...int) []int { return l }

func to(low, high int) wort.Range { return wort.Range{Lo: low, Hi: high} }

func in(n int, r wort.Range) bool { return r.Lo <= n && n <= r.Hi }

// ranges reads each two numbers as a range.
func ranges(l ...int) (out []wort.Range) {
	for i := 0; i < len(l); i += 2 {
		out = append(out, to(l[i], l[i+1]))
	}
	return out
}

func vessel(gallons, degrees wort.Range, room int) wort.Vessel {
	return wort.Vessel{Gallons: gallons, Degrees: degrees, Room: room}
}

func exactly(gallons, degrees, room int) wort.Vessel {
	return vessel(to(gallons, gallons), to(degrees, degrees), room)
}

func vessels(l ...wort.Vessel) []wort.Vessel { return l }

func step(kind, from, into, low, high int) wort.Step {
	return wort.Step{Kind: kind, From: from, To: into, Gallons: to(low, high)}
}

func move(from, into, n int) wort.Step { return step(wort.Move, from, into, n, n) }

func water(at, n int) wort.Step { return step(wort.Water, at, at, n, n) }

func boil(at, n int) wort.Step { return step(wort.Boil, at, at, n, n) }

func steps(l ...wort.Step) []wort.Step { return l }

func house(v []wort.Vessel, l ...wort.Step) wort.Brewhouse {
	return wort.Brewhouse{Vessels: v, Steps: l}
}

func reading(at, low, high, weak, strong int) wort.Reading {
	return wort.Reading{Vessel: at, Gallons: to(low, high), Degrees: to(weak, strong)}
}

func readings(l ...wort.Reading) []wort.Reading { return l }

func truth(gallons, degrees, moved []int) wort.Truth {
	return wort.Truth{Gallons: gallons, Degrees: degrees, Moved: moved}
}

func state(gallons, extract, gravity int) wort.State {
	return wort.State{Gallons: gallons, Extract: extract, Gravity: gravity}
}

// example is the brewhouse of the chapter's examples.
func example() wort.Brewhouse {
	return house(vessels(vessel(to(10, 11), to(60, 60), 20), exactly(5, 30, 12)), move(0, 1, 4), step(wort.Boil, 1, 1, 1, 2), water(0, 2))
}

// exact is that brewhouse with 10 gallons in the vessel 0, for plans.
func exact() wort.Brewhouse {
	b := example()
	b.Vessels[0].Gallons = to(10, 10)
	return b
}

// with is the brewhouse of the example with 10 gallons in the vessel 0, and with other steps.
func with(l ...wort.Step) wort.Brewhouse { return house(exact().Vessels, l...) }

// gravity is that of a quantity with an extract. It divides by counting.
func gravity(gallons, extract int) int {
	if gallons == 0 {
		return 0
	}
	n := 0
	for 2*extract >= (2*n+1)*gallons {
		n++
	}
	return n
}

// filled is what the vessels have at first, and whether none of them has more than its room.
func filled(b wort.Brewhouse, t wort.Truth) (l []wort.State, possible bool) {
	possible = true
	for i, v := range b.Vessels {
		n, x := t.Gallons[i], t.Gallons[i]*t.Degrees[i]
		l = append(l, state(n, x, gravity(n, x)))
		possible = possible && n <= v.Room
	}
	return l, possible
}

// after is what the vessels have after a step, and whether it is possible.
func after(b wort.Brewhouse, before []wort.State, s wort.Step, n int) (l []wort.State, possible bool) {
	l = slices.Clone(before)
	from, into := &l[s.From], &l[s.To]
	if s.Kind != wort.Water && from.Gallons < n {
		return nil, false
	}
	switch s.Kind {
	case wort.Move:
		x := 0
		if n > 0 {
			x = (n*from.Extract - n*from.Extract%from.Gallons) / from.Gallons
		}
		from.Gallons, from.Extract = from.Gallons-n, from.Extract-x
		into.Gallons, into.Extract = into.Gallons+n, into.Extract+x
	case wort.Water:
		into.Gallons += n
	case wort.Boil:
		from.Gallons -= n
		if from.Gallons == 0 && from.Extract > 0 {
			return nil, false
		}
	}
	from.Gravity, into.Gravity = gravity(from.Gallons, from.Extract), gravity(into.Gallons, into.Extract)
	return l, into.Gallons <= b.Vessels[s.To].Room
}

// played is a truth with what the vessels have after 0, 1, .. steps.
type played struct {
	truth wort.Truth
	rows  [][]wort.State
}

// end is what the vessels have after all steps.
func (p played) end() []wort.State { return p.rows[len(p.rows)-1] }

// play follows a truth, and reports whether it is one of the brewhouse.
func play(b wort.Brewhouse, t wort.Truth) (p played, possible bool) {
	l, possible := filled(b, t)
	p = played{truth: t, rows: [][]wort.State{l}}
	for i, s := range b.Steps {
		if !possible {
			return p, false
		}
		l, possible = after(b, l, s, t.Moved[i])
		p.rows = append(p.rows, l)
	}
	return p, possible
}

// tuples are all lists with a number of each range.
func tuples(l []wort.Range) [][]int {
	all := [][]int{nil}
	for _, r := range l {
		var more [][]int
		for _, t := range all {
			for n := r.Lo; n <= r.Hi; n++ {
				more = append(more, append(slices.Clone(t), n))
			}
		}
		all = more
	}
	return all
}

// tries are all truths whose numbers are of the ranges, those that are none with the others.
func tries(b wort.Brewhouse) (l []wort.Truth) {
	var gallons, degrees, moved []wort.Range
	for _, v := range b.Vessels {
		gallons, degrees = append(gallons, v.Gallons), append(degrees, v.Degrees)
	}
	for _, s := range b.Steps {
		moved = append(moved, s.Gallons)
	}
	for _, g := range tuples(gallons) {
		for _, d := range tuples(degrees) {
			for _, m := range tuples(moved) {
				l = append(l, truth(g, d, m))
			}
		}
	}
	return l
}

// truthsOf are all truths of the brewhouse.
func truthsOf(b wort.Brewhouse) (l []played) {
	for _, t := range tries(b) {
		if p, possible := play(b, t); possible {
			l = append(l, p)
		}
	}
	return l
}

// boundsIn are the bounds of each vessel in some truths.
func boundsIn(b wort.Brewhouse, of []played) (l []wort.Bound) {
	widen := func(r wort.Range, n int) wort.Range { return to(min(r.Lo, n), max(r.Hi, n)) }
	for i := range b.Vessels {
		none := to(1<<30, -1<<30)
		x := wort.Bound{Gallons: none, Extract: none, Gravity: none}
		for _, p := range of {
			s := p.end()[i]
			x = wort.Bound{Gallons: widen(x.Gallons, s.Gallons), Extract: widen(x.Extract, s.Extract), Gravity: widen(x.Gravity, s.Gravity)}
		}
		l = append(l, x)
	}
	return l
}

// agrees reports whether the truth agrees with the reading.
func agrees(p played, r wort.Reading) bool {
	s := p.end()[r.Vessel]
	return in(s.Gallons, r.Gallons) && in(s.Gravity, r.Degrees)
}

// canBeLeftOut reports whether some truth agrees with all readings but these.
func canBeLeftOut(of []played, l []wort.Reading, out []int) bool {
	return slices.ContainsFunc(of, func(p played) bool {
		for i, r := range l {
			if !slices.Contains(out, i) && !agrees(p, r) {
				return false
			}
		}
		return true
	})
}

// subsets are all increasing lists of numbers below count: the shorter ones first, those of one length in lexicographic order.
func subsets(count int) (l [][]int) {
	for bits := range 1 << count {
		var s []int
		for i := range count {
			if bits>>i&1 == 1 {
				s = append(s, i)
			}
		}
		l = append(l, s)
	}
	slices.SortFunc(l, func(a, b []int) int {
		if len(a) != len(b) {
			return len(a) - len(b)
		}
		return slices.Compare(a, b)
	})
	return l
}

// smallest is the smallest set of readings, if there are truths.
func smallest(of []played, l []wort.Reading) []int {
	for _, out := range subsets(len(l)) {
		if canBeLeftOut(of, l, out) {
			return out
		}
	}
	panic("not even all readings can be left out")
}

// original is the original gravity: the nearest whole number, the greater one of two that are as near.
func original(losses []int, gravity, spirit int) int {
	k := spirit / 10
	tenths := 10 * losses[k]
	if spirit%10 > 0 {
		tenths += (losses[k+1] - losses[k]) * (spirit % 10)
	}
	n := losses[k]
	for 10*(n+1)-tenths <= tenths-10*n {
		n++
	}
	return gravity + n
}

// made are the brewings that can have made the beer.
func made(losses []int, gravity, spirit wort.Range, brewings []wort.Range) (l []int) {
	can := map[int]bool{}
	for g := gravity.Lo; g <= gravity.Hi; g++ {
		for s := spirit.Lo; s <= spirit.Hi; s++ {
			can[original(losses, g, s)] = true
		}
	}
	for i, r := range brewings {
		for n := range can {
			if in(n, r) {
				l = append(l, i)
				break
			}
		}
	}
	return l
}

// isPlan reports whether a list is one of steps without a Boil, each with one number of gallons, of which each is possible; and what the vessels have after it.
func isPlan(b wort.Brewhouse, l []wort.Step) (end []wort.State, is bool) {
	var t wort.Truth
	for _, v := range b.Vessels {
		if v.Gallons.Lo != v.Gallons.Hi || v.Degrees.Lo != v.Degrees.Hi {
			return nil, false
		}
		t.Gallons, t.Degrees = append(t.Gallons, v.Gallons.Lo), append(t.Degrees, v.Degrees.Lo)
	}
	end, is = filled(b, t)
	for _, s := range l {
		there := in(s.From, to(0, len(b.Vessels)-1)) && in(s.To, to(0, len(b.Vessels)-1))
		kind := s.Kind == wort.Move && s.From != s.To || s.Kind == wort.Water && s.From == s.To
		if !is || !there || !kind || s.Gallons.Lo != s.Gallons.Hi || !in(s.Gallons.Lo, to(1, 60)) {
			return nil, false
		}
		end, is = after(b, end, s, s.Gallons.Lo)
	}
	return end, is
}

// has reports whether some vessel has just the wort.
func has(l []wort.State, gallons, gravity int) bool {
	return slices.ContainsFunc(l, func(s wort.State) bool { return s.Gallons == gallons && s.Gravity == gravity })
}

// allSteps are all steps of plans, those that are never possible with the others.
func allSteps(b wort.Brewhouse) (l []wort.Step) {
	for from := range b.Vessels {
		for into := range b.Vessels {
			for n := 1; n <= 60; n++ {
				if from == into {
					l = append(l, water(from, n))
				} else {
					l = append(l, move(from, into, n))
				}
			}
		}
	}
	return l
}

// brewed is a wort.
type brewed struct{ gallons, gravity int }

// fewest are the fewest steps of each wort that can be made with at most two.
func fewest(b wort.Brewhouse) map[brewed]int {
	worts := map[brewed]int{}
	all := allSteps(b)
	var extend func(l []wort.Step, end []wort.State)
	extend = func(l []wort.Step, end []wort.State) {
		for _, s := range end {
			x := brewed{gallons: s.Gallons, gravity: s.Gravity}
			if n, found := worts[x]; s.Gallons > 0 && (!found || n > len(l)) {
				worts[x] = len(l)
			}
		}
		if len(l) == 2 {
			return
		}
		for _, s := range all {
			if next, possible := after(b, end, s, s.Gallons.Lo); possible {
				extend(append(slices.Clone(l), s), next)
			}
		}
	}
	if end, is := isPlan(b, nil); is {
		extend(nil, end)
	}
	return worts
}
