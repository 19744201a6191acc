package proof

import (
	"cmp"

	"saccharum/api"
)

// sound reports whether a store with a valid table, and not too many casks, is valid.
func (s Store) sound() bool {
	rates := Range{Lo: 0, Hi: api.MaxProofRate}
	soundCask := s.soundCask
	return rates.holds(s.Rate) && all(s.Casks, soundCask)
}

// soundCask reports whether a cask is valid, by the valid table of the store.
func (s Store) soundCask(c Cask) bool {
	gallons := Range{Lo: 1, Hi: api.MaxProofGallons}
	return gallons.holds(c.Gallons) && c.Warmth.isPartOf(span(s.Table.Warmths)) && c.Mark.isPartOf(span(s.Table.Marks))
}

// hasCask reports whether the store has a cask of this number.
func (s Store) hasCask(n int) bool { return 0 <= n && n < len(s.Casks) }

// hasBlend reports whether a list is one of casks of a blend.
func (s Store) hasBlend(casks []int) bool {
	hasCask := s.hasCask
	return len(casks) > 0 && all(casks, hasCask) && rises(casks)
}

// waters returns all gallons of water that a blend may have.
func waters() Range { return Range{Lo: 0, Hi: api.MaxProofGallons} }

// span returns the range from the first to the last line of a table.
func span(lines []int) Range { return Range{Lo: lines[0], Hi: lines[len(lines)-1]} }

// empty reports whether a range has no numbers.
func (r Range) empty() bool { return r.Lo > r.Hi }

// holds reports whether a number is in the range.
func (r Range) holds(n int) bool { return r.Lo <= n && n <= r.Hi }

// isPartOf reports whether a range has numbers, and all of them are in the other one.
func (r Range) isPartOf(other Range) bool {
	return !r.empty() && other.holds(r.Lo) && other.holds(r.Hi)
}

// all reports whether each element is as it should be.
func all[T any](l []T, is func(T) bool) bool {
	for _, x := range l {
		if !is(x) {
			return false
		}
	}
	return true
}

// rises reports whether each element is greater than the one before it.
func rises[T cmp.Ordered](l []T) bool {
	for i := 1; i < len(l); i++ {
		if l[i] <= l[i-1] {
			return false
		}
	}
	return true
}
