package wash

import (
	"saccharum/api"
	"saccharum/wort"
)

// lossError returns the error of the table of losses, or OK.
func (p Period) lossError() api.Errno {
	_, e := wort.Original(p.Losses, 0, 0)
	return e
}

// tooLong reports whether the period has more entries of a kind than it may.
func (p Period) tooLong() bool {
	return len(p.Backs) > api.MaxWashBacks || len(p.Low) > api.MaxWashLow || len(p.Spirits) > api.MaxWashSpirits
}

// sound reports whether all entries are valid, if the losses are.
func (p Period) sound() bool {
	soundBack, soundLiquor := p.widestBack().covers, widestLiquor().covers
	return all(p.Backs, soundBack) && all(p.Low, soundLiquor) && all(p.Spirits, soundLiquor)
}

// widestBack returns a back with all numbers that one may have.
func (p Period) widestBack() Back {
	degrees := Range{Lo: 0, Hi: api.MaxWortDegrees}
	return Back{
		Gallons: Range{Lo: 0, Hi: api.MaxWashGallons},
		Before:  degrees,
		After:   degrees,
		Spirit:  Range{Lo: 0, Hi: 10 * (len(p.Losses) - 1)},
	}
}

// widestLiquor returns a liquor with all numbers that one may have.
func widestLiquor() Liquor {
	return Liquor{Gallons: Range{Lo: 0, Hi: api.MaxWashLiquor}, Strength: Range{Lo: 0, Hi: api.MaxWashStrength}}
}

// covers reports whether a back is valid, if the widest one is this.
func (widest Back) covers(b Back) bool {
	return isKnown(b.Gallons, widest.Gallons) && isKnown(b.Before, widest.Before) &&
		isKnown(b.After, widest.After) && isKnown(b.Spirit, widest.Spirit)
}

// covers reports whether a liquor is valid, if the widest one is this.
func (widest Liquor) covers(l Liquor) bool {
	return isKnown(l.Gallons, widest.Gallons) && isKnown(l.Strength, widest.Strength)
}

// isKnown reports whether a range of a period is part of another one, and narrow enough.
func isKnown(r, within Range) bool {
	return r.isPartOf(within) && r.Hi-r.Lo <= api.MaxWashWide
}

// hasNumbers reports whether the truth has as many numbers as the valid period asks for, each of its range.
func (p Period) hasNumbers(t Truth) bool {
	return agree(p.Backs, t.Backs, Back.holds) && agree(p.Low, t.Low, Liquor.holds) && agree(p.Spirits, t.Spirits, Liquor.holds)
}

// holds reports whether the numbers are of the ranges of the back.
func (b Back) holds(x Wash) bool {
	return b.Gallons.holds(x.Gallons) && b.After.holds(x.After) && b.Spirit.holds(x.Spirit)
}

// holds reports whether the numbers are of the ranges of the liquor.
func (l Liquor) holds(x Proof) bool {
	return l.Gallons.holds(x.Gallons) && l.Strength.holds(x.Strength)
}

// holds reports whether a number is in the range.
func (r Range) holds(n int) bool { return r.Lo <= n && n <= r.Hi }

// isPartOf reports whether a range has numbers, and all of them are in the other one.
func (r Range) isPartOf(other Range) bool {
	return r.Lo <= r.Hi && other.holds(r.Lo) && other.holds(r.Hi)
}

// hasNumber reports whether the list has an element of this number.
func hasNumber[T any](l []T, n int) bool { return 0 <= n && n < len(l) }

// all reports whether each element is as it should be.
func all[T any](l []T, is func(T) bool) bool {
	for _, x := range l {
		if !is(x) {
			return false
		}
	}
	return true
}

// agree reports whether both lists have as many elements, each of which is as it should be beside the one of the other list.
func agree[A, B any](l []A, m []B, is func(A, B) bool) bool {
	if len(l) != len(m) {
		return false
	}
	for i, x := range l {
		if !is(x, m[i]) {
			return false
		}
	}
	return true
}
