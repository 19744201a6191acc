package book

import (
	"strconv"

	"saccharum/api"
)

// greatestNumber is the greatest number that a line can have: one of 4 digits.
const greatestNumber = 9999

// limit is the most bytes that a line may have.
type limit int

// holds reports whether a line is short enough.
func (most limit) holds(line string) bool { return len(line) <= int(most) }

// isSession reports whether there are not too many lines, and each one is short enough.
func isSession(lines []string) bool {
	isShort := limit(api.MaxBookLine).holds
	return len(lines) <= api.MaxBookSession && all(lines, isShort)
}

// isNumber reports whether a part of a line is a number of 1 to 4 digits, without unnecessary zeros in front.
func isNumber(part string) bool {
	n, e := strconv.Atoi(part)
	return e == nil && 0 <= n && n <= greatestNumber && strconv.Itoa(n) == part
}

// hasNumber reports whether the list has an element of this number.
func hasNumber[T any](l []T, n int) bool { return 0 <= n && n < len(l) }

// all reports whether each element is as it should be.
func all[T any](l []T, is func(T) bool) bool {
	for _, x := range l {
		if !is(x) {
			return false
		}
	}
	return true
}
