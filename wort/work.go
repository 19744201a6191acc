package wort

import (
	"iter"
	"slices"

	"saccharum/api"
)

// content is what a vessel has.
type content struct{ gallons, extract int }

// contents has what each vessel has; those that there are not have nothing.
type contents [api.MaxWortVessels]content

// atWork is a valid brewhouse, with all ranges of which a truth has a number.
type atWork struct {
	Brewhouse
	open []Range
}

// newWork returns the valid brewhouse at work.
func newWork(b Brewhouse) atWork { return atWork{Brewhouse: b, open: b.ranges()} }

// gravity returns the gravity of what a vessel has.
func (c content) gravity() int {
	if c.gallons == 0 {
		return 0
	}
	return (2*c.extract + c.gallons) / (2 * c.gallons)
}

// portion returns what is drawn with so many gallons, which are not more than there are.
func (c content) portion(gallons int) content {
	if gallons == 0 {
		return content{}
	}
	return content{gallons: gallons, extract: gallons * c.extract / c.gallons}
}

// more returns both together.
func (c content) more(d content) content {
	return content{gallons: c.gallons + d.gallons, extract: c.extract + d.extract}
}

// less returns what is left without a part.
func (c content) less(d content) content {
	return content{gallons: c.gallons - d.gallons, extract: c.extract - d.extract}
}

// deed is what a step of a kind does, and what it asks for.
type deed struct {
	do    func(h contents, s Step, gallons int) contents
	apart bool // whether From and To differ
	draws bool // whether the gallons must be in the vessel From
}

// deeds returns the deeds of all kinds, by their numbers.
func deeds() []deed {
	return []deed{
		Move:  {do: contents.move, apart: true, draws: true},
		Water: {do: contents.water},
		Boil:  {do: contents.boil, draws: true},
	}
}

// move returns what the vessels have after a Move of gallons that the vessel From has.
func (h contents) move(s Step, gallons int) contents {
	drawn := h[s.From].portion(gallons)
	h[s.From] = h[s.From].less(drawn)
	h[s.To] = h[s.To].more(drawn)
	return h
}

// water returns what the vessels have after a Water.
func (h contents) water(s Step, gallons int) contents {
	h[s.To] = h[s.To].more(content{gallons: gallons})
	return h
}

// boil returns what the vessels have after a Boil of gallons that the vessel has.
func (h contents) boil(s Step, gallons int) contents {
	h[s.From] = h[s.From].less(content{gallons: gallons})
	return h
}

// after returns what the vessels have after a valid step with so many gallons, and whether it is possible.
func (w atWork) after(h contents, s Step, gallons int) (next contents, possible bool) {
	d := deeds()[s.Kind]
	if d.draws && h[s.From].gallons < gallons {
		return h, false
	}
	next = d.do(h, s, gallons)
	into := next[s.To]
	// Only a Boil can leave extract without gallons: a Move of all gallons moves all extract.
	boiledDry := into.gallons == 0 && into.extract > 0
	return next, into.gallons <= w.Vessels[s.To].Room && !boiledDry
}

// hasNumbers reports whether the truth has as many numbers as the brewhouse asks for, each of its range.
func (w atWork) hasNumbers(t Truth) bool {
	if len(t.Gallons) != len(w.Vessels) || len(t.Degrees) != len(w.Vessels) || len(t.Moved) != len(w.Steps) {
		return false
	}
	for i, n := range slices.Concat(t.Gallons, t.Degrees, t.Moved) {
		if !w.open[i].holds(n) {
			return false
		}
	}
	return true
}

// truth returns the truth that has a number for each open range.
func (w atWork) truth(numbers []int) Truth {
	count := len(w.Vessels)
	return Truth{Gallons: numbers[:count], Degrees: numbers[count : 2*count], Moved: numbers[2*count:]}
}

// filled returns what the vessels have at first, and whether they have room for it.
func (w atWork) filled(t Truth) (h contents, possible bool) {
	for i, v := range w.Vessels {
		h[i] = content{gallons: t.Gallons[i], extract: t.Gallons[i] * t.Degrees[i]}
		if h[i].gallons > v.Room {
			return h, false
		}
	}
	return h, true
}

// play returns what the vessels have after all steps, and whether the truth, whose numbers are of their ranges, is one of the brewhouse.
func (w atWork) play(t Truth) (h contents, possible bool) {
	h, possible = w.filled(t)
	for i, s := range w.Steps {
		if !possible {
			return h, false
		}
		h, possible = w.after(h, s, t.Moved[i])
	}
	return h, possible
}

// states returns what each vessel has, as it is told.
func (w atWork) states(h contents) []State {
	var l []State
	for _, c := range h[:len(w.Vessels)] {
		l = append(l, State{Gallons: c.gallons, Extract: c.extract, Gravity: c.gravity()})
	}
	return l
}

// tries yields all truths whose numbers are of their ranges, also those that are none of the brewhouse. Each one counts until the next.
func (w atWork) tries() iter.Seq[Truth] {
	return func(yield func(Truth) bool) {
		numbers := make([]int, len(w.open))
		var choose func(i int) bool
		choose = func(i int) bool {
			if i == len(numbers) {
				return yield(w.truth(numbers))
			}
			for n := range w.open[i].size() {
				numbers[i] = w.open[i].Lo + n
				if !choose(i + 1) {
					return false
				}
			}
			return true
		}
		choose(0)
	}
}

// ends returns what all vessels can have after all steps: there is nothing if the brewhouse has no truth.
func (w atWork) ends() map[contents]bool {
	can := map[contents]bool{}
	for t := range w.tries() {
		if h, possible := w.play(t); possible {
			can[h] = true
		}
	}
	return can
}
