// Package spindle is layer 1: it floats a spindle in liquids, and tells what a reading means.
package spindle

import (
	"saccharum/api"
)

// Range has all whole numbers from Lo to Hi.
type Range struct{ Lo, Hi int }

// Spindle is an instrument with a stem of divisions, and weights that can be put on it.
type Spindle struct {
	Mass, Volume, Step, Divisions, Width int
	Weights                              []int
}

// Reading is what was seen with a load: Sinks, Rises or a division.
type Reading struct{ Load, Seen int }

const (
	Sinks  = -1
	Rises  = -2
	Always = 1
	Never  = 2
	Open   = 3
)

// CheckSpindle returns the error of the spindle, or OK.
func CheckSpindle(s Spindle) api.Errno {
	if len(s.Weights) > api.MaxSpindleWeights {
		return api.ErrLimit
	}
	if !all(s.Weights, soundWeight) || !soundStem(s) {
		return api.ErrArg
	}
	return api.OK
}

// Floats returns Sinks, Rises, or 0 if the spindle floats.
func Floats(s Spindle, load, density int) (int, api.Errno) {
	if e := CheckSpindle(s); e != api.OK {
		return 0, e
	}
	w := atWork{s}
	if !w.hasLoad(load) || !isDensity(density) {
		return 0, api.ErrRange
	}
	return w.rest(load, density), api.OK
}

// See returns the range of all divisions that can be read.
func See(s Spindle, load, density int) (Range, api.Errno) {
	rest, e := Floats(s, load, density)
	if e != api.OK {
		return Range{}, e
	}
	if rest != 0 {
		return Range{}, api.ErrSink
	}
	return atWork{s}.read(load, density), api.OK
}

// Mean returns the range of the densities that fit what was seen.
func Mean(s Spindle, load, seen int) (Range, api.Errno) {
	if e := CheckSpindle(s); e != api.OK {
		return Range{}, e
	}
	w := atWork{s}
	r := Reading{Load: load, Seen: seen}
	if !w.valid(r) {
		return Range{}, api.ErrRange
	}
	m := w.meaning(r)
	if m.empty() {
		return Range{}, api.ErrNone
	}
	return m, api.OK
}

// Narrow returns the range of the densities that fit all readings.
func Narrow(s Spindle, l []Reading) (Range, api.Errno) {
	if e := checkReadings(s, l); e != api.OK {
		return Range{}, e
	}
	left := densities()
	for _, m := range (atWork{s}).meanings(l...) {
		left = left.common(m)
	}
	if left.empty() {
		return Range{}, api.ErrFalse
	}
	return left, api.OK
}

// Leave returns the smallest set of readings that have to be left out.
func Leave(s Spindle, l []Reading) ([]int, api.Errno) {
	if e := checkReadings(s, l); e != api.OK {
		return nil, e
	}
	return smallestSet(l, atWork{s}.meanings(l...)), api.OK
}

// Verdicts returns for each load Always, Never or Open.
func Verdicts(s Spindle, r Range) ([]int, api.Errno) {
	if e := checkRange(s, r); e != api.OK {
		return nil, e
	}
	w := atWork{s}
	var verdicts []int
	for load := range w.loads() {
		verdicts = append(verdicts, w.verdict(load, r))
	}
	return verdicts, api.OK
}

// Cover returns the fewest loads that cover the range.
func Cover(s Spindle, r Range) ([]int, api.Errno) {
	if e := checkRange(s, r); e != api.OK {
		return nil, e
	}
	loads, found := atWork{s}.fewest(r)
	if !found {
		return nil, api.ErrSink
	}
	return loads, api.OK
}

// Best returns the best load for the range, and how many densities it leaves.
func Best(s Spindle, r Range) (load, left int, e api.Errno) {
	if e := checkRange(s, r); e != api.OK {
		return 0, 0, e
	}
	w := atWork{s}
	load, left = 0, w.leaves(0, r)
	for other := range w.loads() {
		if n := w.leaves(other, r); n < left {
			load, left = other, n
		}
	}
	return load, left, api.OK
}

// ProveCover reports whether the loads are an increasing list of at most so many that covers the range.
func ProveCover(s Spindle, r Range, loads []int, many int) bool {
	if checkRange(s, r) != api.OK {
		return false
	}
	w := atWork{s}
	return len(loads) <= many && all(loads, w.hasLoad) && increases(loads) && w.cover(loads, r)
}
