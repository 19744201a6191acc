package heat

import (
	"saccharum/api"
)

// maxRate is the greatest rate: at each hour nothing of the difference to the room is left.
const maxRate = 100

// tooMuch reports whether the cellar has more vats, thermometers, or parts of one, than it may.
func tooMuch(c Cellar) bool {
	fits := func(t Thermometer) bool { return len(t.Parts) <= api.MaxHeatParts }
	return len(c.Vats) > api.MaxHeatVats || len(c.Thermometers) > api.MaxHeatThermometers || !all(c.Thermometers, fits)
}

// sound reports whether a cellar that does not have too much is valid.
func sound(c Cellar) bool {
	hours := Range{Lo: 1, Hi: api.MaxHeatHours}
	return c.Room.isNarrow(degrees()) && hours.holds(c.Hours) &&
		len(c.Vats) > 0 && all(c.Vats, soundVat) && all(c.Thermometers, soundThermometer)
}

// soundVat reports whether a vat is valid.
func soundVat(v Vat) bool {
	return v.Start.isNarrow(degrees()) && v.Rate.isNarrow(Range{Lo: 0, Hi: maxRate})
}

// soundThermometer reports whether a thermometer that does not have too many parts is valid.
func soundThermometer(t Thermometer) bool {
	scale := Range{Lo: 0, Hi: t.Top}
	errors := Range{Lo: -api.MaxHeatError, Hi: api.MaxHeatError}
	soundPart := func(p Part) bool { return scale.holds(p.From) && p.Error.isPartOf(errors) }
	rises := func(p, q Part) bool { return p.From < q.From }
	return degrees().holds(t.Top) && len(t.Parts) > 0 && all(t.Parts, soundPart) && follow(t.Parts, rises)
}

// soundPortion reports whether a portion of a mixture is valid.
func soundPortion(p Portion) bool {
	quantities := Range{Lo: 1, Hi: api.MaxHeatQuantity}
	return quantities.holds(p.Quantity) && p.Heat.isPartOf(degrees())
}

// checkLooks returns the error of a call with looks before it is asked what they mean.
func checkLooks(c Cellar, l []Look) api.Errno {
	if e := CheckCellar(c); e != api.OK {
		return e
	}
	if len(l) > api.MaxHeatLooks {
		return api.ErrLimit
	}
	valid := newWork(c).valid
	if !all(l, valid) {
		return api.ErrRange
	}
	return api.OK
}

// valid reports whether a look is of a vat, an hour and a thermometer, and of what is on its scale.
func (w atWork) valid(k Look) bool {
	hours := Range{Lo: 0, Hi: w.Hours}
	return hasNumber(w.Vats, k.Vat) && hours.holds(k.Hour) && w.shows(k.Thermometer, k.Seen)
}

// shows reports whether there is such a thermometer, and what was seen is on its scale.
func (w atWork) shows(thermometer, seen int) bool {
	return hasNumber(w.Thermometers, thermometer) && w.Thermometers[thermometer].scale().holds(seen)
}

// hasTruth reports whether a truth is one of the cellar.
func (w atWork) hasTruth(t Truth) bool {
	if len(t.Start) != len(w.Vats) || len(t.Rate) != len(w.Vats) || !w.Room.holds(t.Room) {
		return false
	}
	for i, v := range w.Vats {
		if !v.Start.holds(t.Start[i]) || !v.Rate.holds(t.Rate[i]) {
			return false
		}
	}
	return true
}

// degrees returns all degrees.
func degrees() Range { return Range{Lo: 0, Hi: api.MaxHeatDegree} }

// holds reports whether a number is in the range.
func (r Range) holds(n int) bool { return r.Lo <= n && n <= r.Hi }

// isPartOf reports whether a range has numbers, and all of them are in the other one.
func (r Range) isPartOf(other Range) bool {
	return r.Lo <= r.Hi && other.holds(r.Lo) && other.holds(r.Hi)
}

// isNarrow reports whether a range is a part of the other one whose ends do not differ too much.
func (r Range) isNarrow(other Range) bool {
	return r.isPartOf(other) && r.Hi-r.Lo <= api.MaxHeatWide
}

// hasNumber reports whether the list has an element of this number.
func hasNumber[T any](l []T, n int) bool { return 0 <= n && n < len(l) }

// all reports whether each element is as it should be.
func all[T any](l []T, is func(T) bool) bool {
	for _, x := range l {
		if !is(x) {
			return false
		}
	}
	return true
}

// follow reports whether each element but the first may follow the one before it.
func follow[T any](l []T, may func(a, b T) bool) bool {
	for i := 1; i < len(l); i++ {
		if !may(l[i-1], l[i]) {
			return false
		}
	}
	return true
}
