package wash

import (
	"iter"
	"slices"

	"saccharum/api"
	"saccharum/wort"
)

// beer is what a back has when it has fermented: a gravity in degrees, and a spirit in tenths of a degree.
type beer struct{ gravity, spirit int }

// atWork is a valid period, with the original gravities of all beers of its backs, and the yields of each entry in increasing order.
type atWork struct {
	Period
	originals map[beer]int
	yields    [][]int
}

// newWork returns the valid period at work.
func newWork(p Period) atWork {
	w := atWork{Period: p, originals: p.originals()}
	for _, b := range p.Backs {
		w.yields = append(w.yields, yieldsOf(w.washes(b)))
	}
	for _, l := range slices.Concat(p.Low, p.Spirits) {
		w.yields = append(w.yields, yieldsOf(l.proofs()))
	}
	return w
}

// originals returns the original gravities of all beers of the backs of a valid period.
func (p Period) originals() map[beer]int {
	gravities := map[beer]int{}
	for _, b := range p.Backs {
		for x := range b.beers() {
			// This has no error: the losses are valid, and have all spirits of a valid back.
			gravities[x], _ = wort.Original(p.Losses, x.gravity, x.spirit)
		}
	}
	return gravities
}

// numbers yields all numbers of a range of a valid period.
func (r Range) numbers() iter.Seq[int] {
	return func(yield func(int) bool) {
		for above := range r.Hi - r.Lo + 1 {
			if !yield(r.Lo + above) {
				return
			}
		}
	}
}

// beers yields all beers that the back can have, whether its gravity before can be theirs or not.
func (b Back) beers() iter.Seq[beer] {
	return func(yield func(beer) bool) {
		for gravity := range b.After.numbers() {
			for spirit := range b.Spirit.numbers() {
				if !yield(beer{gravity: gravity, spirit: spirit}) {
					return
				}
			}
		}
	}
}

// washes yields all that the back can have in a truth, with its yield.
func (w atWork) washes(b Back) iter.Seq2[Wash, int] {
	return func(yield func(Wash, int) bool) {
		for x := range b.beers() {
			before := w.originals[x]
			if !b.Before.holds(before) {
				continue
			}
			for gallons := range b.Gallons.numbers() {
				can := Wash{Gallons: gallons, After: x.gravity, Spirit: x.spirit}
				if !yield(can, can.yield(before)) {
					return
				}
			}
		}
	}
}

// proofs yields all that the liquor can have in a truth, with its yield.
func (l Liquor) proofs() iter.Seq2[Proof, int] {
	return func(yield func(Proof, int) bool) {
		for gallons := range l.Gallons.numbers() {
			for strength := range l.Strength.numbers() {
				can := Proof{Gallons: gallons, Strength: strength}
				if !yield(can, can.yield()) {
					return
				}
			}
		}
	}
}

// yield returns the yield of a back that had the gravity before it fermented.
func (x Wash) yield(before int) int { return x.Gallons * (before - x.After) / api.MaxWashWhole }

// yield returns the yield of a liquor.
func (x Proof) yield() int { return x.Gallons * x.Strength / 100 }

// yieldsOf returns the yields of all that an entry can have, each of them once, in increasing order.
func yieldsOf[T any](can iter.Seq2[T, int]) []int {
	var l []int
	for _, n := range can {
		l = append(l, n)
	}
	slices.Sort(l)
	return slices.Compact(l)
}

// play returns the accounts of numbers that are of the ranges of the period, and whether they are a truth of it.
func (w atWork) play(t Truth) (a Account, right bool) {
	for i, x := range t.Backs {
		before := w.originals[beer{gravity: x.After, spirit: x.Spirit}]
		if !w.Backs[i].Before.holds(before) {
			return Account{}, false
		}
		a.Wash += x.yield(before)
	}
	for _, x := range t.Low {
		a.Low += x.yield()
	}
	for _, x := range t.Spirits {
		a.Spirits += x.yield()
	}
	return a, true
}

// truth returns a truth with accounts that there can be.
func (w atWork) truth(a Account) Truth {
	var t Truth
	low, spirits := len(w.Backs), len(w.Backs)+len(w.Low)
	for i, n := range parts(w.yields[:low], a.Wash) {
		t.Backs = append(t.Backs, firstWith(n, w.washes(w.Backs[i])))
	}
	for i, n := range parts(w.yields[low:spirits], a.Low) {
		t.Low = append(t.Low, firstWith(n, w.Low[i].proofs()))
	}
	for i, n := range parts(w.yields[spirits:], a.Spirits) {
		t.Spirits = append(t.Spirits, firstWith(n, w.Spirits[i].proofs()))
	}
	return t
}

// firstWith returns the first thing that an entry can have with the yield; there is one.
func firstWith[T any](wanted int, can iter.Seq2[T, int]) T {
	var first T
	for x, n := range can {
		if n == wanted {
			first = x
			break
		}
	}
	return first
}

// parts returns a yield of each entry, which together are the sum; it is one that there can be.
func parts(yields [][]int, sum int) []int {
	var l []int
	for i, can := range yields {
		later := sumsOf(yields[i+1:])
		for _, n := range can {
			// The yields rise, so that none above the sum comes before one that leaves a sum of the later entries.
			if later[sum-n] {
				l = append(l, n)
				sum -= n
				break
			}
		}
	}
	return l
}
