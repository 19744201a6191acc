package trial

import (
	"iter"
	"maps"
	"slices"

	"saccharum/api"
	"saccharum/spindle"
)

// allErrors has the error of each part; after the last part it has zeros.
type allErrors [api.MaxTrialParts]int

// atWork is a valid trial, with what its spindle was found to read, and the errors that have truths of the trial, with the bounds of the densities of each liquid in these.
type atWork struct {
	Trial
	reads map[Offer]Range
	known map[allErrors][]Range
}

// newWork returns the valid trial at work, of which no truths are known yet.
func newWork(t Trial) atWork { return atWork{Trial: t, reads: map[Offer]Range{}} }

// workOf returns the trial at work with all its truths, or an error if it is not valid, or has none.
func workOf(t Trial) (atWork, api.Errno) {
	if e := CheckTrial(t); e != api.OK {
		return atWork{}, e
	}
	w := newWork(t)
	w.known = maps.Collect(w.truths())
	if len(w.known) == 0 {
		return atWork{}, api.ErrFalse
	}
	return w, api.OK
}

// errorsOf returns the errors of a list that has one for each part.
func errorsOf(l []int) allErrors {
	var errors allErrors
	copy(errors[:], l)
	return errors
}

// listed returns the errors of the parts alone, in memory of their own.
func (t Trial) listed(errors allErrors) []int { return slices.Clone(errors[:len(t.Parts)]) }

// truthOf returns the errors with the least of these densities.
func (t Trial) truthOf(errors allErrors, densities []Range) Truth {
	truth := Truth{Errors: t.listed(errors)}
	for _, r := range densities {
		truth.Densities = append(truth.Densities, r.Lo)
	}
	return truth
}

// errorLists yields all errors that the parts can have, whatever the tests say.
func (t Trial) errorLists() iter.Seq[allErrors] {
	return func(yield func(allErrors) bool) {
		var errors allErrors
		var choose func(part int) bool
		choose = func(part int) bool {
			if part == len(t.Parts) {
				return yield(errors)
			}
			for above := range 2*t.Worst + 1 {
				errors[part] = above - t.Worst
				if !choose(part + 1) {
					return false
				}
			}
			return true
		}
		choose(0)
	}
}

// truths yields all errors that have truths of the trial, with the bounds of the densities of each liquid in these.
// Tests are of one liquid each, so that with the errors each liquid may have any density in which its own tests are right.
func (w atWork) truths() iter.Seq2[allErrors, []Range] {
	return func(yield func(allErrors, []Range) bool) {
		for errors := range w.errorLists() {
			densities, found := w.densitiesBy(errors)
			if found && !yield(errors, densities) {
				return
			}
		}
	}
}

// densitiesBy returns the bounds of the densities of each liquid in which its tests are right by the errors, and whether each liquid has some.
func (w atWork) densitiesBy(errors allErrors) (densities []Range, found bool) {
	for liquid := range w.Liquids {
		r := w.densities(errors, liquid)
		if r.empty() {
			return nil, false
		}
		densities = append(densities, r)
	}
	return densities, true
}

// densities returns the bounds of the densities in which the tests of the liquid are right by the errors; it is empty if there are none.
func (w atWork) densities(errors allErrors, liquid int) Range {
	r := w.Liquids[liquid]
	for !r.empty() && !w.isRight(errors, liquid, r.Lo) {
		r.Lo++
	}
	for !r.empty() && !w.isRight(errors, liquid, r.Hi) {
		r.Hi--
	}
	return r
}

// isRight reports whether all tests of the liquid are right by the errors if it has the density.
func (w atWork) isRight(errors allErrors, liquid, density int) bool {
	right := func(x Test) bool {
		return x.Liquid != liquid || w.canShow(errors, Offer{Load: x.Load, Density: density}, x.Seen)
	}
	return all(w.Tests, right)
}

// isTruth reports whether all tests are right by the errors if the liquids have the densities.
func (w atWork) isTruth(errors allErrors, densities []int) bool {
	for liquid, density := range densities {
		if !w.isRight(errors, liquid, density) {
			return false
		}
	}
	return true
}

// canShow reports whether a division, or None, can be shown by the errors.
func (w atWork) canShow(errors allErrors, o Offer, seen int) bool {
	read := w.read(o)
	nothing := true
	for part := range w.Parts {
		shown := read.moved(errors[part]).common(w.part(part))
		if shown.holds(seen) {
			return true
		}
		nothing = nothing && shown.empty()
	}
	return nothing && seen == None
}

// shown returns all that can be shown by the errors, in increasing order.
func (w atWork) shown(errors allErrors, o Offer) []int {
	var l []int
	for division := range w.Spindle.Divisions + 1 {
		if w.canShow(errors, o, division) {
			l = append(l, division)
		}
	}
	if len(l) == 0 {
		l = append(l, None)
	}
	return l
}

// read returns the divisions that the spindle reads with the load in the density; it is empty if the spindle does not float.
func (w atWork) read(o Offer) Range {
	if r, known := w.reads[o]; known {
		return r
	}
	r := Range{Lo: 0, Hi: -1}
	if seen, e := spindle.See(w.Spindle, o.Load, o.Density); e == api.OK {
		r = Range(seen)
	}
	w.reads[o] = r
	return r
}

// part returns the divisions of a part.
func (w atWork) part(part int) Range {
	r := Range{Lo: w.Parts[part], Hi: w.Spindle.Divisions}
	if part+1 < len(w.Parts) {
		r.Hi = w.Parts[part+1] - 1
	}
	return r
}

// partOf returns the part in which the division is.
func (w atWork) partOf(division int) int {
	part := len(w.Parts) - 1
	for w.Parts[part] > division {
		part--
	}
	return part
}

// possible returns the possible errors of the part, in increasing order.
func (w atWork) possible(part int) []int {
	is := map[int]bool{}
	for errors := range w.known {
		is[errors[part]] = true
	}
	return slices.Sorted(maps.Keys(is))
}

// bounds returns the bounds of the density of each liquid.
func (w atWork) bounds() []Range {
	l := make([][]Range, len(w.Liquids))
	for _, densities := range w.known {
		for liquid, r := range densities {
			l[liquid] = append(l[liquid], r)
		}
	}
	var bounds []Range
	for _, ranges := range l {
		bounds = append(bounds, span(ranges[0], ranges[1:]...))
	}
	return bounds
}

// isGood reports whether the condition is so of the errors of all parts.
func (w atWork) isGood(good condition, errors allErrors) bool {
	return good.isSoOf(errors[:len(w.Parts)])
}

// judge returns whether a trial that has truths is good in each of them, or in none.
func (w atWork) judge(good condition) int {
	some, each := false, true
	for errors := range w.known {
		is := w.isGood(good, errors)
		some, each = some || is, each && is
	}
	switch {
	case each:
		return Certified
	case !some:
		return Refused
	}
	return Again
}

// lineOf returns what the certificate has of a part with these possible errors.
func lineOf(possible []int) Line {
	low, high := possible[0], possible[len(possible)-1]
	// A shift rounds down, also what is below 0.
	middle := (low + high) >> 1
	return Line{Error: middle, Width: high - middle}
}

// meanings returns what the division means with the load, for each possible error with which it is shown in some density.
func (w atWork) meanings(load, division int) []Range {
	var l []Range
	for _, off := range w.possible(w.partOf(division)) {
		read := division - off
		// What is beside the stem would mean to the spindle that it sinks, or rises.
		if !w.divisions().holds(read) {
			continue
		}
		if m, e := spindle.Mean(w.Spindle, load, read); e == api.OK {
			l = append(l, Range(m))
		}
	}
	return l
}

// moved returns the range with each number greater by so much.
func (r Range) moved(by int) Range { return Range{Lo: r.Lo + by, Hi: r.Hi + by} }

// common returns what both ranges have; it may be empty.
func (r Range) common(other Range) Range {
	return Range{Lo: greatest(r.Lo, other.Lo), Hi: least(r.Hi, other.Hi)}
}

// span returns the bounds of all that is in the ranges.
func span(first Range, others ...Range) Range {
	for _, r := range others {
		first = Range{Lo: least(first.Lo, r.Lo), Hi: greatest(first.Hi, r.Hi)}
	}
	return first
}

// least returns the minimum.
func least(first int, others ...int) int {
	for _, n := range others {
		first = min(first, n)
	}
	return first
}

// greatest returns the maximum.
func greatest(first int, others ...int) int {
	for _, n := range others {
		first = max(first, n)
	}
	return first
}
