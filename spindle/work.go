package spindle

import (
	"iter"

	"saccharum/api"
)

// unit is the volume whose mass the density is.
const unit = 1000

// atWork is a spindle that was found valid.
type atWork struct{ Spindle }

// ends are both ends of the depth at which a division can be read.
type ends struct {
	shallow, deep func(w atWork, division int) int
}

// divisionEnds returns the ends for the divisions of the stem.
func divisionEnds() ends {
	return ends{shallow: atWork.shallowest, deep: atWork.deepest}
}

// top is the volume of the whole spindle, with its stem.
func (w atWork) top() int { return w.Volume + w.Divisions*w.Step }

// shallowest is the least depth at which the division is read; what is less deep than the stem begins rises.
func (w atWork) shallowest(division int) int {
	return greatest(w.Volume, w.Volume+division*w.Step-w.Width)
}

// deepest is the greatest depth at which the division is read; what is deeper than the stem ends sinks.
func (w atWork) deepest(division int) int {
	return least(w.top(), w.Volume+division*w.Step+w.Width)
}

// loads yields the loads, the load 0 first.
func (w atWork) loads() iter.Seq[int] {
	return func(yield func(int) bool) {
		for load := 0; w.hasLoad(load); load++ {
			if !yield(load) {
				return
			}
		}
	}
}

// hasLoad reports whether there is such a load.
func (w atWork) hasLoad(load int) bool { return within(load, 0, len(w.Weights)) }

// mass is the mass of a load.
func (w atWork) mass(load int) int {
	if load == 0 {
		return w.Mass
	}
	return w.Mass + w.Weights[load-1]
}

// valid reports whether a reading is of a load, and of something that can be seen.
func (w atWork) valid(r Reading) bool {
	seen := r.Seen == Sinks || r.Seen == Rises || within(r.Seen, 0, w.Divisions)
	return w.hasLoad(r.Load) && seen
}

// between returns the densities in which the depth of a load is from shallow to deep.
// They are not cut off at the greatest density, so that those on either side of them are known too.
func (w atWork) between(load, shallow, deep int) Range {
	displaced := unit * w.mass(load)
	return Range{Lo: (displaced + deep - 1) / deep, Hi: displaced / shallow}
}

// floating returns the densities in which the spindle floats with a load, not cut off either.
func (w atWork) floating(load int) Range { return w.between(load, w.Volume, w.top()) }

// rest returns Sinks, Rises, or 0 if the spindle floats.
func (w atWork) rest(load, density int) int {
	floats := w.floating(load)
	switch {
	case density < floats.Lo:
		return Sinks
	case density > floats.Hi:
		return Rises
	}
	return 0
}

// meaning returns the densities that fit a valid reading; it may be empty.
func (w atWork) meaning(r Reading) Range {
	floats := w.floating(r.Load)
	switch r.Seen {
	case Sinks:
		return densities().common(Range{Lo: 1, Hi: floats.Lo - 1})
	case Rises:
		return densities().common(Range{Lo: floats.Hi + 1, Hi: api.MaxSpindleDensity})
	}
	e := divisionEnds()
	return densities().common(w.between(r.Load, e.shallow(w, r.Seen), e.deep(w, r.Seen)))
}

// meanings returns what each of the readings means.
func (w atWork) meanings(l ...Reading) map[Reading]Range {
	means := map[Reading]Range{}
	for _, r := range l {
		means[r] = w.meaning(r)
	}
	return means
}

// read returns the divisions that can be read in a density in which the spindle floats.
func (w atWork) read(load, density int) Range {
	seen := Range{Lo: w.Divisions}
	for division := range w.Divisions + 1 {
		if w.meaning(Reading{Load: load, Seen: division}).holds(density) {
			seen.Lo = least(seen.Lo, division)
			seen.Hi = division
		}
	}
	return seen
}

// sights returns all that can be seen with a load.
func (w atWork) sights(load int) []Reading {
	l := []Reading{{Load: load, Seen: Sinks}, {Load: load, Seen: Rises}}
	for division := range w.Divisions + 1 {
		l = append(l, Reading{Load: load, Seen: division})
	}
	return l
}

// verdict returns whether the spindle floats with a load in each density of a range.
func (w atWork) verdict(load int, r Range) int {
	floats := r.common(w.floating(load))
	switch {
	case floats == r:
		return Always
	case floats.empty():
		return Never
	}
	return Open
}

// leaves returns how many densities of the range fit, at most, whatever is seen with the load.
func (w atWork) leaves(load int, r Range) int {
	most := 0
	for _, m := range w.meanings(w.sights(load)...) {
		most = greatest(most, r.common(m).size())
	}
	return most
}
