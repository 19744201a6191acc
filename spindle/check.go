package spindle

import (
	"cmp"

	"saccharum/api"
)

// soundWeight reports whether a weight of a spindle is valid.
func soundWeight(weight int) bool {
	return within(weight, 1, api.MaxSpindleWeight)
}

// soundStem reports whether a spindle is valid without its weights.
func soundStem(s Spindle) bool {
	// The width comes last: only then is twice as much sure to fit into an int.
	return within(s.Mass, 1, api.MaxSpindleMass) &&
		within(s.Volume, 1, api.MaxSpindleVolume) &&
		within(s.Step, 1, api.MaxSpindleStep) &&
		within(s.Divisions, 1, api.MaxSpindleDivisions) &&
		within(s.Width, 1, s.Step) && 2*s.Width >= s.Step
}

// checkReadings returns the error of a call with readings before it is asked what they mean.
func checkReadings(s Spindle, l []Reading) api.Errno {
	if e := CheckSpindle(s); e != api.OK {
		return e
	}
	if len(l) > api.MaxSpindleReadings {
		return api.ErrLimit
	}
	valid := atWork{s}.valid
	if !all(l, valid) {
		return api.ErrRange
	}
	return api.OK
}

// checkRange returns the error of a call with a range of densities.
func checkRange(s Spindle, r Range) api.Errno {
	if e := CheckSpindle(s); e != api.OK {
		return e
	}
	if !isDensity(r.Lo) || !isDensity(r.Hi) || r.empty() {
		return api.ErrRange
	}
	return api.OK
}

// isDensity reports whether a number is a density.
func isDensity(n int) bool { return densities().holds(n) }

// within reports whether n is from low to high.
func within(n, low, high int) bool { return low <= n && n <= high }

// all reports whether each element is as it should be.
func all[T any](l []T, is func(T) bool) bool {
	for _, x := range l {
		if !is(x) {
			return false
		}
	}
	return true
}

// increases reports whether each element is greater than the one before it.
func increases[T cmp.Ordered](l []T) bool {
	for i := 1; i < len(l); i++ {
		if l[i-1] >= l[i] {
			return false
		}
	}
	return true
}
