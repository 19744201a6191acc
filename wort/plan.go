package wort

import (
	"iter"
	"slices"

	"saccharum/api"
)

// wanted is a wort that is to be made.
type wanted struct{ gallons, gravity int }

// isExact reports whether each range of each vessel has one number.
func (w atWork) isExact() bool { return all(w.open[:2*len(w.Vessels)], Range.isSingle) }

// start returns what the vessels of an exact brewhouse have at first, and whether they have room for it.
func (w atWork) start() (h contents, possible bool) {
	var numbers []int
	for _, r := range w.open {
		numbers = append(numbers, r.Lo)
	}
	return w.filled(w.truth(numbers))
}

// has reports whether some vessel has just the wort.
func (w atWork) has(h contents, x wanted) bool {
	is := func(c content) bool { return wanted{gallons: c.gallons, gravity: c.gravity()} == x }
	return slices.ContainsFunc(h[:len(w.Vessels)], is)
}

// most returns the most gallons with which a Move between two vessels, or a Water to one, is possible.
func (w atWork) most(h contents, from, to int) int {
	room := w.Vessels[to].Room - h[to].gallons
	if from == to {
		return room
	}
	return least(room, h[from].gallons)
}

// steps yields all steps of a plan that are possible, with what the vessels have after them.
func (w atWork) steps(h contents) iter.Seq2[Step, contents] {
	return func(yield func(Step, contents) bool) {
		for from := range w.Vessels {
			for to := range w.Vessels {
				kind := Move
				if from == to {
					kind = Water
				}
				for before := range w.most(h, from, to) {
					n := before + 1
					s := Step{Kind: kind, From: from, To: to, Gallons: Range{Lo: n, Hi: n}}
					next, possible := w.after(h, s, n)
					if possible && !yield(s, next) {
						return
					}
				}
			}
		}
	}
}

// planned returns a plan of so many steps that makes the wort of what the vessels have, and whether there is one.
func (w atWork) planned(h contents, x wanted, size int) ([]Step, bool) {
	if size == 0 {
		return nil, w.has(h, x)
	}
	for s, next := range w.steps(h) {
		if later, found := w.planned(next, x, size-1); found {
			return append([]Step{s}, later...), true
		}
	}
	return nil, false
}

// fewest returns a plan with the fewest steps that makes the wort, and whether there is one that is not too long.
func (w atWork) fewest(x wanted) ([]Step, bool) {
	h, possible := w.start()
	if !possible {
		return nil, false
	}
	for size := range api.MaxWortPlan + 1 {
		if plan, found := w.planned(h, x, size); found {
			return plan, true
		}
	}
	return nil, false
}

// mayBePlanned reports whether a step is one of a plan, if it is possible.
func (w atWork) mayBePlanned(s Step) bool {
	return w.soundStep(s) && s.Kind != Boil && s.Gallons.isSingle() && s.Gallons.Lo > 0
}

// isMade reports whether the list is a plan of an exact brewhouse that makes the wort.
func (w atWork) isMade(l []Step, x wanted) bool {
	h, possible := w.start()
	for _, s := range l {
		if !possible || !w.mayBePlanned(s) {
			return false
		}
		h, possible = w.after(h, s, s.Gallons.Lo)
	}
	return possible && w.has(h, x)
}
