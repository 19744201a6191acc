package heat

import (
	"iter"
	"slices"

	"saccharum/api"
)

// course is how a vat starts, and cools, in a room.
type course struct{ room, start, rate int }

// warmths has the warmth of a vat at each hour; those after the last hour of the cellar are 0.
type warmths [api.MaxHeatHours + 1]int

// atWork is a cellar that was found valid, but in the checks, with the warmths of the courses that were asked for.
type atWork struct {
	Cellar
	known map[course]warmths
}

// newWork returns the cellar at work, of which no course is known yet.
func newWork(c Cellar) atWork { return atWork{Cellar: c, known: map[course]warmths{}} }

// scale returns all that can be seen on the thermometer.
func (t Thermometer) scale() Range { return Range{Lo: t.Parts[0].From, Hi: t.Top} }

// meaning returns the warmths with which what was seen on a thermometer, and is on its scale, is right.
func (w atWork) meaning(thermometer, seen int) Range {
	var wrong Range
	for _, p := range w.Thermometers[thermometer].Parts {
		if p.From <= seen {
			wrong = p.Error
		}
	}
	return Range{Lo: seen - wrong.Hi, Hi: seen - wrong.Lo}
}

// warmths returns the warmths of a course.
func (w atWork) warmths(k course) warmths {
	h, found := w.known[k]
	if !found {
		h = w.cooled(k)
		w.known[k] = h
	}
	return h
}

// cooled follows a course hour by hour.
func (w atWork) cooled(k course) warmths {
	h := warmths{k.start}
	for hour := range w.Hours {
		h[hour+1] = k.room + (h[hour]-k.room)*(maxRate-k.rate)/maxRate
	}
	return h
}

// truths yields the courses that the vat can have in a room, with their warmths.
// It leaves out those with the warmths of the one before, from which nothing can tell them apart.
// With a greater rate a vat is nowhere further from the room, so that those of a start with the same warmths are side by side.
func (w atWork) truths(v Vat, room int) iter.Seq2[course, warmths] {
	return func(yield func(course, warmths) bool) {
		for start := range v.Start.numbers() {
			var last warmths
			for rate := range v.Rate.numbers() {
				k := course{room: room, start: start, rate: rate}
				h := w.warmths(k)
				if rate > v.Rate.Lo && h == last {
					continue
				}
				last = h
				if !yield(k, h) {
					return
				}
			}
		}
	}
}

// numbers yields all numbers of the range.
func (r Range) numbers() iter.Seq[int] {
	return func(yield func(int) bool) {
		for n := r.Lo; n <= r.Hi; n++ {
			if !yield(n) {
				return
			}
		}
	}
}

// right reports whether a look into a vat with these warmths is right.
func (w atWork) right(k Look, h warmths) bool {
	return w.meaning(k.Thermometer, k.Seen).holds(h[k.Hour])
}

// course returns the course of a vat in a truth.
func (t Truth) course(vat int) course {
	return course{room: t.Room, start: t.Start[vat], rate: t.Rate[vat]}
}

// allRight reports whether all looks are right in a truth.
func (w atWork) allRight(t Truth, l []Look) bool {
	isRight := func(k Look) bool { return w.right(k, w.warmths(t.course(k.Vat))) }
	return all(l, isRight)
}

// play returns for each vat its warmth at each hour.
func (w atWork) play(t Truth) [][]int {
	var played [][]int
	for vat := range w.Vats {
		h := w.warmths(t.course(vat))
		played = append(played, slices.Clone(h[:w.Hours+1]))
	}
	return played
}
