package wort

import (
	"slices"

	"saccharum/api"
)

// checkLosses returns the error of a table of losses, or OK.
func checkLosses(losses []int) api.Errno {
	switch {
	case len(losses) > api.MaxWortLosses:
		return api.ErrLimit
	case !soundLosses(losses):
		return api.ErrArg
	}
	return api.OK
}

// soundLosses reports whether a table of losses that is not too long is valid.
func soundLosses(losses []int) bool {
	if len(losses) < 2 || losses[0] != 0 || losses[len(losses)-1] > api.MaxWortDegrees {
		return false
	}
	for i := 1; i < len(losses); i++ {
		if losses[i] <= losses[i-1] {
			return false
		}
	}
	return true
}

// spirits returns all spirits, in tenths of a degree, for which a table tells what was lost.
func spirits(losses []int) Range { return Range{Lo: 0, Hi: 10 * (len(losses) - 1)} }

// lost returns the degrees lost for one of the spirits of a table.
func lost(losses []int, spirit int) int {
	degree, tenths := spirit/10, spirit%10
	if tenths == 0 {
		return losses[degree]
	}
	rise := losses[degree+1] - losses[degree]
	return losses[degree] + (rise*tenths+5)/10
}

// originals returns ranges that have just the original gravities of the beer, for all gravities and spirits of two ranges.
func originals(losses []int, gravity, spirit Range) []Range {
	var l []Range
	for i := range spirit.size() {
		by := lost(losses, spirit.Lo+i)
		l = append(l, Range{Lo: gravity.Lo + by, Hi: gravity.Hi + by})
	}
	return slices.Compact(l)
}

// meets reports whether both ranges have a number in common.
func (r Range) meets(other Range) bool { return r.Lo <= other.Hi && other.Lo <= r.Hi }

// madeBy returns the numbers of the brewings in whose range there is an original gravity.
func madeBy(originals, brewings []Range) []int {
	var numbers []int
	for i, r := range brewings {
		if slices.ContainsFunc(originals, r.meets) {
			numbers = append(numbers, i)
		}
	}
	return numbers
}
