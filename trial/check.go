package trial

import (
	"saccharum/api"
)

// condition is what is to be so of an error.
type condition struct {
	bounds Range
	isSo   func(bounds Range, off int) bool
}

// atMost returns the condition that an error is not less than minus the number, nor more than it.
func atMost(n int) condition {
	return condition{bounds: Range{Lo: -n, Hi: n}, isSo: Range.holds}
}

// isSoOf reports whether the condition is so of each error.
func (c condition) isSoOf(errors []int) bool {
	is := func(off int) bool { return c.isSo(c.bounds, off) }
	return all(errors, is)
}

// tooLong reports whether the trial has more parts, liquids or tests than it may.
func (t Trial) tooLong() bool {
	return len(t.Parts) > api.MaxTrialParts || len(t.Liquids) > api.MaxTrialLiquids || len(t.Tests) > api.MaxTrialTests
}

// sound reports whether a trial with a valid spindle that is not too long is valid.
func (t Trial) sound() bool {
	soundTest := t.soundTest
	worst := Range{Lo: 0, Hi: api.MaxTrialError}
	return t.soundParts() && worst.holds(t.Worst) && len(t.Liquids) > 0 && all(t.Liquids, soundLiquid) && all(t.Tests, soundTest)
}

// soundParts reports whether the parts are divisions, increasing, of which the first one is 0.
func (t Trial) soundParts() bool {
	return len(t.Parts) > 0 && t.Parts[0] == 0 && increases(t.Parts) && all(t.Parts, t.divisions().holds)
}

// soundLiquid reports whether a liquid is valid.
func soundLiquid(r Range) bool {
	// The width comes last: only then is it sure to fit into an int.
	return isDensity(r.Lo) && isDensity(r.Hi) && !r.empty() && r.Hi-r.Lo <= api.MaxTrialWide
}

// soundTest reports whether a test is valid, if the spindle is.
func (t Trial) soundTest(x Test) bool {
	liquids := Range{Lo: 0, Hi: len(t.Liquids) - 1}
	return liquids.holds(x.Liquid) && t.loads().holds(x.Load) && (x.Seen == None || t.divisions().holds(x.Seen))
}

// soundOffer reports whether an offer is of a load, and of a density.
func (t Trial) soundOffer(o Offer) bool {
	return t.loads().holds(o.Load) && isDensity(o.Density)
}

// hasErrors reports whether there is an error of the valid trial for each part.
func (t Trial) hasErrors(errors []int) bool {
	return len(errors) == len(t.Parts) && atMost(t.Worst).isSoOf(errors)
}

// hasDensities reports whether there is a density for each liquid, of its range.
func (t Trial) hasDensities(densities []int) bool {
	if len(densities) != len(t.Liquids) {
		return false
	}
	for liquid, r := range t.Liquids {
		if !r.holds(densities[liquid]) {
			return false
		}
	}
	return true
}

// checkTolerance returns the error of a call with a tolerance before there need be a truth.
func checkTolerance(t Trial, tolerance int) api.Errno {
	if e := CheckTrial(t); e != api.OK {
		return e
	}
	if tolerance < 0 {
		return api.ErrRange
	}
	return api.OK
}

// checkOffers returns the error of a call with offers before there need be a truth.
func checkOffers(t Trial, tolerance int, l []Offer) api.Errno {
	if e := checkTolerance(t, tolerance); e != api.OK {
		return e
	}
	if len(l) > api.MaxTrialOffers {
		return api.ErrLimit
	}
	if !all(l, t.soundOffer) {
		return api.ErrRange
	}
	return api.OK
}

// loads returns the loads of the spindle.
func (t Trial) loads() Range { return Range{Lo: 0, Hi: len(t.Spindle.Weights)} }

// divisions returns the divisions of the stem.
func (t Trial) divisions() Range { return Range{Lo: 0, Hi: t.Spindle.Divisions} }

// isDensity reports whether a number is a density.
func isDensity(n int) bool { return Range{Lo: 1, Hi: api.MaxSpindleDensity}.holds(n) }

// empty reports whether a range has no numbers.
func (r Range) empty() bool { return r.Lo > r.Hi }

// holds reports whether a number is in the range.
func (r Range) holds(n int) bool { return r.Lo <= n && n <= r.Hi }

// increases reports whether each element is greater than the one before it.
func increases(l []int) bool {
	for i := 1; i < len(l); i++ {
		if l[i-1] >= l[i] {
			return false
		}
	}
	return true
}

// all reports whether each element is as it should be.
func all[T any](l []T, is func(T) bool) bool {
	for _, x := range l {
		if !is(x) {
			return false
		}
	}
	return true
}
