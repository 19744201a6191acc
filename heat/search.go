package heat

import (
	"iter"
	"slices"

	"saccharum/api"
)

// track has the bounds of the warmth of a vat at each hour.
type track [api.MaxHeatHours + 1]Range

// into returns the looks into a vat.
func into(vat int, l []Look) []Look {
	elsewhere := func(k Look) bool { return k.Vat != vat }
	return slices.DeleteFunc(slices.Clone(l), elsewhere)
}

// fitting yields the courses of a vat in a room with which all looks into it are right, with their warmths.
func (w atWork) fitting(vat, room int, l []Look) iter.Seq2[course, warmths] {
	mine := into(vat, l)
	return func(yield func(course, warmths) bool) {
		for k, h := range w.truths(w.Vats[vat], room) {
			isRight := func(k Look) bool { return w.right(k, h) }
			if all(mine, isRight) && !yield(k, h) {
				return
			}
		}
	}
}

// vatBounds returns the bounds of a vat in a room, and whether any course fits.
func (w atWork) vatBounds(vat, room int, l []Look) (bounds track, found bool) {
	for _, h := range w.fitting(vat, room, l) {
		for hour, n := range h {
			if !found {
				bounds[hour] = Range{Lo: n, Hi: n}
			}
			bounds[hour] = Range{Lo: least(n, bounds[hour].Lo), Hi: greatest(n, bounds[hour].Hi)}
		}
		found = true
	}
	return bounds, found
}

// allBounds returns the bounds of all vats in a room, and whether there is a truth of the looks with it.
// In a room each vat has any of its courses that fit, whatever the other ones have.
func (w atWork) allBounds(room int, l []Look) (vats []track, found bool) {
	for vat := range w.Vats {
		bounds, found := w.vatBounds(vat, room, l)
		if !found {
			return nil, false
		}
		vats = append(vats, bounds)
	}
	return vats, true
}

// roomBounds returns the bounds of all vats in each room with which there is a truth of the looks.
func (w atWork) roomBounds(l []Look) [][]track {
	var rooms [][]track
	for room := range w.Room.numbers() {
		if vats, found := w.allBounds(room, l); found {
			rooms = append(rooms, vats)
		}
	}
	return rooms
}

// joined returns the bounds of all vats in all the rooms.
func joined(first []track, others ...[]track) []track {
	vats := slices.Clone(first)
	for _, room := range others {
		for vat, bounds := range room {
			for hour, r := range bounds {
				vats[vat][hour] = Range{Lo: least(r.Lo, vats[vat][hour].Lo), Hi: greatest(r.Hi, vats[vat][hour].Hi)}
			}
		}
	}
	return vats
}

// listed returns the bounds at the hours of the cellar.
func (w atWork) listed(vats []track) [][]Range {
	var list [][]Range
	for _, bounds := range vats {
		list = append(list, slices.Clone(bounds[:w.Hours+1]))
	}
	return list
}

// firstHour returns the first hour that is as it should be, or Never.
func (w atWork) firstHour(is func(hour int) bool) int {
	for hour := range w.Hours + 1 {
		if is(hour) {
			return hour
		}
	}
	return Never
}

// sureHour returns the sure hour, by the bounds in each room.
func (w atWork) sureHour(rooms [][]track, limit int) int {
	return w.firstHour(func(hour int) bool {
		cool := func(bounds track) bool { return bounds[hour].Hi <= limit }
		return all(rooms, func(vats []track) bool { return all(vats, cool) })
	})
}

// possibleHour returns the possible hour, by the bounds in each room.
func (w atWork) possibleHour(rooms [][]track, limit int) int {
	return w.firstHour(func(hour int) bool {
		cool := func(bounds track) bool { return bounds[hour].Lo <= limit }
		return slices.ContainsFunc(rooms, func(vats []track) bool { return all(vats, cool) })
	})
}

// firstTruth returns the first truth of the looks, and whether there is one.
func (w atWork) firstTruth(l []Look) (first Truth, found bool) {
	for room := range w.Room.numbers() {
		t := Truth{Room: room}
		for vat := range w.Vats {
			for k := range w.fitting(vat, room, l) {
				t.Start, t.Rate = append(t.Start, k.start), append(t.Rate, k.rate)
				break
			}
		}
		if len(t.Start) == len(w.Vats) {
			return t, true
		}
	}
	return Truth{}, false
}

// least returns the minimum.
func least(first int, others ...int) int {
	for _, n := range others {
		first = min(first, n)
	}
	return first
}

// greatest returns the maximum.
func greatest(first int, others ...int) int {
	for _, n := range others {
		first = max(first, n)
	}
	return first
}
