package wort

import (
	"saccharum/api"
)

// tooLong reports whether the brewhouse has more vessels or steps than it may.
func (b Brewhouse) tooLong() bool {
	return len(b.Vessels) > api.MaxWortVessels || len(b.Steps) > api.MaxWortSteps
}

// sound reports whether a brewhouse that is not too long is valid, but for the sizes of its ranges.
func (b Brewhouse) sound() bool {
	soundStep := b.soundStep
	return len(b.Vessels) > 0 && all(b.Vessels, soundVessel) && all(b.Steps, soundStep)
}

// soundVessel reports whether a vessel is valid.
func soundVessel(v Vessel) bool {
	return isKnown(v.Gallons, quantities()) && isKnown(v.Degrees, gravities()) && quantities().holds(v.Room)
}

// soundStep reports whether a step is valid in the brewhouse.
func (b Brewhouse) soundStep(s Step) bool {
	return hasNumber(deeds(), s.Kind) && hasNumber(b.Vessels, s.From) && hasNumber(b.Vessels, s.To) &&
		deeds()[s.Kind].apart == (s.From != s.To) && isKnown(s.Gallons, quantities())
}

// soundReading reports whether a reading is valid in the brewhouse.
func (b Brewhouse) soundReading(r Reading) bool {
	return hasNumber(b.Vessels, r.Vessel) && r.Gallons.hasNumbers() && r.Degrees.hasNumbers()
}

// quantities returns all gallons that a vessel or a step may have.
func quantities() Range { return Range{Lo: 0, Hi: api.MaxWortGallons} }

// gravities returns all degrees that a vessel may have at first, and the gravities that a beer may have.
func gravities() Range { return Range{Lo: 0, Hi: api.MaxWortDegrees} }

// isKnown reports whether a range of a brewhouse is part of another one, and narrow enough.
func isKnown(r, within Range) bool {
	return r.isPartOf(within) && r.size() <= api.MaxWortWide+1
}

// ranges returns all ranges of which a truth has a number, in the order: the gallons of the vessels, their degrees, and the gallons of the steps.
func (b Brewhouse) ranges() []Range {
	var l []Range
	for _, v := range b.Vessels {
		l = append(l, v.Gallons)
	}
	for _, v := range b.Vessels {
		l = append(l, v.Degrees)
	}
	for _, s := range b.Steps {
		l = append(l, s.Gallons)
	}
	return l
}

// sizes returns the sizes of all ranges of a valid brewhouse, multiplied.
func (b Brewhouse) sizes() int {
	product := 1
	for _, r := range b.ranges() {
		product *= r.size()
	}
	return product
}

// holds reports whether a number is in the range.
func (r Range) holds(n int) bool { return r.Lo <= n && n <= r.Hi }

// hasNumbers reports whether the range has any.
func (r Range) hasNumbers() bool { return r.Lo <= r.Hi }

// isPartOf reports whether a range has numbers, and all of them are in the other one.
func (r Range) isPartOf(other Range) bool {
	return r.hasNumbers() && other.holds(r.Lo) && other.holds(r.Hi)
}

// size returns how many numbers a range has.
func (r Range) size() int { return r.Hi - r.Lo + 1 }

// isSingle reports whether the range has one number.
func (r Range) isSingle() bool { return r.Lo == r.Hi }

// hasNumber reports whether the list has an element of this number.
func hasNumber[T any](l []T, n int) bool { return 0 <= n && n < len(l) }

// all reports whether each element is as it should be.
func all[T any](l []T, is func(T) bool) bool {
	for _, x := range l {
		if !is(x) {
			return false
		}
	}
	return true
}
