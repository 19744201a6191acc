package sample

import (
	"saccharum/api"
)

// tooMuch reports whether the sample has more bottles, people, passes or sights than it may.
func (s Sample) tooMuch() bool {
	return s.Bottles > api.MaxSampleBottles || s.People > api.MaxSamplePeople ||
		len(s.Passes) > api.MaxSamplePasses || len(s.Sights) > api.MaxSampleSights
}

// sound reports whether a sample that does not have too much is valid, but for the sizes of its ranges.
func (s Sample) sound() bool {
	soundPass, soundSight := s.soundPass, s.soundSight
	lasts := Range{Lo: 0, Hi: api.MaxSampleHour}
	return s.Bottles > 0 && s.people().holds(s.First) && len(s.Stamps) == s.People && lasts.holds(s.Last) &&
		all(s.Passes, soundPass) && all(s.Sights, soundSight)
}

// soundPass reports whether a pass is valid, if the rest of the sample is.
func (s Sample) soundPass(p Pass) bool {
	people := s.people()
	return s.bottles().holds(p.Bottle) && people.holds(p.From) && people.holds(p.To) && p.From != p.To &&
		p.Hour.isPartOf(s.hours())
}

// soundSight reports whether a sight is valid, if the rest of the sample is.
func (s Sample) soundSight(k Sight) bool {
	return s.bottles().holds(k.Bottle) && s.hours().holds(k.Hour)
}

// bottles returns the numbers of all bottles.
func (s Sample) bottles() Range { return Range{Lo: 0, Hi: s.Bottles - 1} }

// people returns the numbers of all people.
func (s Sample) people() Range { return Range{Lo: 0, Hi: s.People - 1} }

// hours returns all hours.
func (s Sample) hours() Range { return Range{Lo: 0, Hi: s.Last} }

// hourLists returns how many lists of hours there are for the passes of a sample that is valid otherwise.
func (s Sample) hourLists() int {
	count := 1
	for _, p := range s.Passes {
		count *= p.Hour.Hi - p.Hour.Lo + 1
	}
	return count
}

// hasNumbers reports whether the truth has as many hours and acts as the valid sample asks for, each of them one that there is.
func (s Sample) hasNumbers(t Truth) bool {
	return agree(s.Passes, t.Hours, Pass.may) && len(t.Acts) == s.Bottles && all(t.Acts, s.hasActs)
}

// may reports whether the hour is one of the pass.
func (p Pass) may(hour int) bool { return p.Hour.holds(hour) }

// hasActs reports whether the list has an act for each hour.
func (s Sample) hasActs(l []int) bool {
	isAct := Range{Lo: Keep, Hi: Again}.holds
	return len(l) == s.Last+1 && all(l, isAct)
}

// holds reports whether a number is in the range.
func (r Range) holds(n int) bool { return r.Lo <= n && n <= r.Hi }

// isPartOf reports whether a range has numbers, and all of them are in the other one.
func (r Range) isPartOf(other Range) bool {
	return r.Lo <= r.Hi && other.holds(r.Lo) && other.holds(r.Hi)
}

// all reports whether each element is as it should be.
func all[T any](l []T, is func(T) bool) bool {
	for _, x := range l {
		if !is(x) {
			return false
		}
	}
	return true
}

// agree reports whether both lists have as many elements, each of which is as it should be beside the one of the other list.
func agree[A, B any](l []A, m []B, is func(A, B) bool) bool {
	if len(l) != len(m) {
		return false
	}
	for i, x := range l {
		if !is(x, m[i]) {
			return false
		}
	}
	return true
}
