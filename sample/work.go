package sample

import (
	"iter"
	"slices"

	"saccharum/api"
)

// moment is what a seal is when so many hours are over.
type moment struct {
	over  int
	whole bool
}

// step is what an act makes of a moment, and whether the bottle is open in this hour.
type step struct {
	to   moment
	open bool
}

// future has the moments from which acts lead to the end, against no sight, and the fewest hours in which the bottle is open until then.
type future map[moment]int

// atWork is a valid sample, with the courses that each of its bottles has in truths of its own entries.
// No entry is of two bottles, so that there is a truth with any courses, one for each bottle.
type atWork struct {
	Sample
	courses []map[course]future
}

// people tells of each person whether it can be this one.
type people [api.MaxSamplePeople]bool

// start returns the moment before all hours.
func start() moment { return moment{over: 0, whole: true} }

// newWork returns the valid sample at work.
func newWork(s Sample) atWork {
	w := atWork{Sample: s}
	for bottle := range s.Bottles {
		w.courses = append(w.courses, s.coursesOf(bottle))
	}
	return w
}

// workOf returns the sample at work, or an error if it is not valid, or contradicts itself.
func workOf(s Sample) (atWork, api.Errno) {
	if e := CheckSample(s); e != api.OK {
		return atWork{}, e
	}
	w := newWork(s)
	if !w.hasTruth() {
		return atWork{}, api.ErrFail
	}
	return w, api.OK
}

// hasTruth reports whether the sample has a truth.
func (w atWork) hasTruth() bool {
	isSome := func(l map[course]future) bool { return len(l) > 0 }
	return all(w.courses, isSome)
}

// numbers yields all numbers of a range of a valid sample.
func (r Range) numbers() iter.Seq[int] {
	return func(yield func(int) bool) {
		for above := range r.Hi - r.Lo + 1 {
			if !yield(r.Lo + above) {
				return
			}
		}
	}
}

// hoursOf yields all hours of all passes as far as they matter for the bottle: those of other bottles are in the first hour that they may be in.
// The next list takes the place of the one before it.
func (s Sample) hoursOf(bottle int) iter.Seq[[]int] {
	return func(yield func([]int) bool) {
		hours := make([]int, len(s.Passes))
		var choose func(pass int) bool
		choose = func(pass int) bool {
			if pass == len(s.Passes) {
				return yield(hours)
			}
			p := s.Passes[pass]
			if p.Bottle != bottle {
				p.Hour.Hi = p.Hour.Lo
			}
			for hour := range p.Hour.numbers() {
				hours[pass] = hour
				if !choose(pass + 1) {
					return false
				}
			}
			return true
		}
		choose(0)
	}
}

// coursesOf returns all courses that the bottle has in truths of its own entries.
func (s Sample) coursesOf(bottle int) map[course]future {
	tried, right := map[course]bool{}, map[course]future{}
	for hours := range s.hoursOf(bottle) {
		c, possible := s.course(bottle, hours)
		if !possible || tried[c] {
			continue
		}
		tried[c] = true
		f := s.futureOf(bottle, c)
		if _, goesOn := f[start()]; goesOn {
			right[c] = f
		}
	}
	return right
}

// futureOf returns the future of a bottle on its course. It goes back from the end.
func (s Sample) futureOf(bottle int, c course) future {
	f := make(future, 2*(s.Last+2))
	for _, m := range bothSeals(s.Last + 1) {
		if s.mayBe(bottle, m) {
			f[m] = 0
		}
	}
	for later := range s.Last + 1 {
		for _, m := range bothSeals(s.Last - later) {
			open := s.openAfter(c, m, f)
			if s.mayBe(bottle, m) && len(open) > 0 {
				f[m] = least(open[0], open[1:]...)
			}
		}
	}
	return f
}

// bothSeals returns both moments when so many hours are over.
func bothSeals(over int) [2]moment {
	return [...]moment{{over: over, whole: true}, {over: over, whole: false}}
}

// mayBe reports whether the moment is as the sights of the bottle say.
func (s Sample) mayBe(bottle int, m moment) bool {
	isRight := func(k Sight) bool {
		return k.Bottle != bottle || k.Hour+1 != m.over || k.Whole == m.whole
	}
	return all(s.Sights, isRight)
}

// steps yields what each act that is possible then makes of the moment.
func (s Sample) steps(c course, m moment) iter.Seq[step] {
	return func(yield func(step) bool) {
		before := inHand{whole: m.whole, stamp: s.Stamps[c[m.over]]}
		for _, a := range acts() {
			whole, possible := a.does(before)
			next := step{to: moment{over: m.over + 1, whole: whole}, open: a.opens || !m.whole}
			if possible && !yield(next) {
				return
			}
		}
	}
}

// openAfter returns for each step from the moment that has a future how many hours the bottle is open from then on.
func (s Sample) openAfter(c course, m moment, f future) []int {
	var l []int
	for next := range s.steps(c, m) {
		open, goesOn := f[next.to]
		if !goesOn {
			continue
		}
		if next.open {
			open++
		}
		l = append(l, open)
	}
	return l
}

// holders returns who can have the bottle at the end of the hour.
func (w atWork) holders(bottle, hour int) []int {
	var can people
	for c := range w.courses[bottle] {
		can[c[hour]] = true
	}
	return can.list()
}

// openers returns who can have opened the bottle.
func (w atWork) openers(bottle int) []int {
	var can people
	for c, f := range w.courses[bottle] {
		for hour := range w.openHours(c, f) {
			can[c[hour]] = true
		}
	}
	return can.list()
}

// openHours yields the hours in which a bottle on this course can be open, some of them more than once.
func (w atWork) openHours(c course, f future) iter.Seq[int] {
	return func(yield func(int) bool) {
		reached := map[moment]bool{start(): true}
		for hour := range w.Last + 1 {
			for _, m := range bothSeals(hour) {
				if !reached[m] {
					continue
				}
				for next := range w.steps(c, m) {
					if _, goesOn := f[next.to]; !goesOn {
						continue
					}
					reached[next.to] = true
					if next.open && !yield(hour) {
						return
					}
				}
			}
		}
	}
}

// fewestOpen returns the fewest open hours of a bottle of a sample that has a truth.
func (w atWork) fewestOpen(bottle int) int {
	var l []int
	for _, f := range w.courses[bottle] {
		l = append(l, f[start()])
	}
	return least(l[0], l[1:]...)
}

// verdict returns whether a bottle of a sample that has a truth was opened.
func (w atWork) verdict(bottle int) int {
	if w.fewestOpen(bottle) > 0 {
		return Always
	}
	if len(w.openers(bottle)) == 0 {
		return Never
	}
	return Perhaps
}

// verdicts returns whether each bottle of a sample that has a truth was opened.
func (w atWork) verdicts() []int {
	var l []int
	for bottle := range w.Bottles {
		l = append(l, w.verdict(bottle))
	}
	return l
}

// alike returns whether the bottles of a sample that has a truth are alike.
func (w atWork) alike() int {
	verdicts := w.verdicts()
	isNever := func(v int) bool { return v == Never }
	switch {
	case slices.Contains(verdicts, Always):
		return Never
	case all(verdicts, isNever):
		return Always
	}
	return Perhaps
}

// list returns the people who it can be, in increasing order.
func (can people) list() []int {
	var l []int
	for person, is := range can {
		if is {
			l = append(l, person)
		}
	}
	return l
}

// least returns the minimum.
func least(first int, others ...int) int {
	for _, n := range others {
		first = min(first, n)
	}
	return first
}
