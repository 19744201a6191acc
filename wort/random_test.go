package wort_test

import (
	"math/rand"
	"slices"

	"saccharum/api"
	"saccharum/wort"
)

// What this file makes up is always the same, since each source of chance starts with a number of its own.

// between is a random number from low to high, often one of both.
func between(random *rand.Rand, low, high int) int {
	switch random.Intn(8) {
	case 0:
		return low
	case 1:
		return high
	}
	return low + random.Intn(high-low+1)
}

// within is a range from low to high, as wide as a range of a brewhouse may be.
func within(random *rand.Rand, low, high int) wort.Range {
	n := between(random, low, high)
	return to(n, min(high, n+random.Intn(api.MaxWortWide+1)))
}

// some is a random number of the range.
func some(random *rand.Rand, r wort.Range) int { return r.Lo + random.Intn(r.Hi-r.Lo+1) }

// randomVessel has at most so many gallons, and now and then less room than it may have at first.
func randomVessel(random *rand.Rand, gallons int) wort.Vessel {
	v := vessel(within(random, 0, gallons), within(random, 0, api.MaxWortDegrees), 0)
	switch random.Intn(6) {
	case 0:
		v.Room = some(random, v.Gallons)
	case 1:
		v.Degrees = within(random, 0, 2)
		fallthrough
	default:
		v.Room = between(random, v.Gallons.Hi, min(api.MaxWortGallons, 2*gallons))
	}
	return v
}

// randomStep is one of a brewhouse whose vessels have, or have had, so much.
func randomStep(random *rand.Rand, b wort.Brewhouse, now []wort.State) wort.Step {
	from, into := random.Intn(len(b.Vessels)), random.Intn(len(b.Vessels))
	kind := wort.Move
	if from == into {
		kind = wort.Water + random.Intn(2)
	}
	most := now[from].Gallons
	if kind == wort.Water {
		most = max(0, b.Vessels[into].Room-now[into].Gallons)
	}
	s := step(kind, from, into, 0, 0)
	s.Gallons = within(random, 0, min(api.MaxWortGallons, most+random.Intn(2)))
	return s
}

// sizes is the number of truths of the ranges.
func sizes(b wort.Brewhouse) int {
	count := 1
	for _, v := range b.Vessels {
		count *= (v.Gallons.Hi - v.Gallons.Lo + 1) * (v.Degrees.Hi - v.Degrees.Lo + 1)
	}
	for _, s := range b.Steps {
		count *= s.Gallons.Hi - s.Gallons.Lo + 1
	}
	return count
}

// single is the range with one number alone, if chance has it so.
func single(random *rand.Rand, r *wort.Range) {
	if random.Intn(2) == 0 {
		r.Hi = r.Lo
	}
}

// narrower has some ranges of one number alone.
func narrower(random *rand.Rand, b wort.Brewhouse) wort.Brewhouse {
	for i := range b.Vessels {
		single(random, &b.Vessels[i].Gallons)
		single(random, &b.Vessels[i].Degrees)
	}
	for i := range b.Steps {
		single(random, &b.Steps[i].Gallons)
	}
	return b
}

// randomHouse has so many tries, and seldom no truth.
func randomHouse(random *rand.Rand, gallons int, count wort.Range) wort.Brewhouse {
	for {
		var b wort.Brewhouse
		for range 1 + random.Intn(api.MaxWortVessels) {
			b.Vessels = append(b.Vessels, randomVessel(random, gallons))
		}
		_, now := anyTruth(random, b)
		for range random.Intn(api.MaxWortSteps + 1) {
			s := randomStep(random, b, now)
			b.Steps = append(b.Steps, s)
			if next, possible := after(b, now, s, some(random, s.Gallons)); possible {
				now = next
			}
		}
		for !in(sizes(b), to(0, count.Hi)) {
			b = narrower(random, b)
		}
		if in(sizes(b), count) && (random.Intn(12) == 0 || len(truthsOf(b)) > 0) {
			return b
		}
	}
}

// anyTruth is a random truth of the ranges, with what the vessels have at first.
func anyTruth(random *rand.Rand, b wort.Brewhouse) (t wort.Truth, l []wort.State) {
	for _, v := range b.Vessels {
		t.Gallons, t.Degrees = append(t.Gallons, some(random, v.Gallons)), append(t.Degrees, some(random, v.Degrees))
	}
	for _, s := range b.Steps {
		t.Moved = append(t.Moved, some(random, s.Gallons))
	}
	l, _ = filled(b, t)
	return t, l
}

// widest has as many truths as a brewhouse may have, and all that it may have of vessels and steps.
func widest() wort.Brewhouse {
	return house(
		vessels(vessel(to(28, 30), to(118, 120), 60), vessel(to(0, 2), to(60, 61), 60), vessel(to(29, 31), to(7, 7), 60), exactly(10, 0, 60)),
		step(wort.Move, 0, 1, 5, 7), step(wort.Move, 2, 0, 20, 21), move(0, 3, 17), step(wort.Boil, 1, 1, 1, 2), water(2, 3), move(3, 2, 19),
	)
}

// houses have so few truths that all of them can be tried.
func houses() []wort.Brewhouse {
	l := []wort.Brewhouse{
		example(), exact(), with(), widest(),
		house(vessels(vessel(to(0, 2), to(10, 12), 9))),
		house(vessels(vessel(to(58, 60), to(118, 120), 60), vessel(to(0, 0), to(0, 2), 60)), step(wort.Move, 0, 1, 57, 59), step(wort.Boil, 0, 0, 0, 2), step(wort.Boil, 1, 1, 56, 58)),
		house(vessels(exactly(3, 0, 9), exactly(0, 120, 0)), step(wort.Boil, 0, 0, 1, 3), step(wort.Move, 0, 1, 0, 2)),
		house(vessels(exactly(1, 100, 9), exactly(9, 1, 20)), step(wort.Move, 0, 1, 0, 1), step(wort.Move, 1, 0, 3, 5), step(wort.Move, 0, 1, 1, 3), step(wort.Move, 1, 0, 2, 4)),
		house(vessels(vessel(to(4, 6), to(50, 52), 5), vessel(to(1, 3), to(20, 22), 2)), step(wort.Move, 0, 1, 0, 1), step(wort.Water, 1, 1, 0, 1)),
	}
	random := rand.New(rand.NewSource(1))
	for i := range 120 {
		l = append(l, randomHouse(random, list(3, 12, 40)[i%3], to(1, 60)), randomHouse(random, list(5, 20, 60)[i%3], to(30, 300)))
	}
	for i := range 6 {
		l = append(l, randomHouse(random, list(9, 30, 60)[i%3], to(1000, api.MaxWortTruths)))
	}
	return l
}

// readingOf agrees with the state of a vessel; it is moved up to so much.
func readingOf(random *rand.Rand, at int, s wort.State, wrong int) wort.Reading {
	by := func() int { return random.Intn(2*wrong+1) - wrong }
	r := reading(at, s.Gallons, s.Gallons, s.Gravity, s.Gravity)
	for _, x := range []*wort.Range{&r.Gallons, &r.Degrees} {
		n := by()
		*x = to(x.Lo+n-random.Intn(2), x.Hi+n+random.Intn(2))
	}
	return r
}

// readingLists are lists of readings that one truth agrees with, of readings of several truths, and of readings with mistakes.
func readingLists(random *rand.Rand, b wort.Brewhouse, of []played) [][]wort.Reading {
	lists := [][]wort.Reading{nil, readings(reading(len(b.Vessels)-1, lowest, huge, lowest, huge))}
	if len(of) == 0 {
		return lists
	}
	one := func() played { return of[random.Intn(len(of))] }
	for i := range 12 {
		p := one()
		var l []wort.Reading
		for range 1 + random.Intn(api.MaxWortReadings) {
			wrong := 0
			switch {
			case i%4 == 1:
				p = one()
			case i%4 == 2 && random.Intn(3) == 0, i%4 == 3:
				wrong = 1 + random.Intn(3)
			}
			at := random.Intn(len(b.Vessels))
			l = append(l, readingOf(random, at, p.end()[at], wrong))
		}
		lists = append(lists, l)
	}
	return lists
}

// eachHouse calls the function for each brewhouse, with all its truths.
func eachHouse(do func(b wort.Brewhouse, of []played)) {
	for _, b := range houses() {
		do(b, truthsOf(b))
	}
}

// eachRead calls the function for lists of readings of each brewhouse, with all its truths.
func eachRead(do func(b wort.Brewhouse, l []wort.Reading, of []played)) {
	random := rand.New(rand.NewSource(2))
	eachHouse(func(b wort.Brewhouse, of []played) {
		for _, l := range readingLists(random, b, of) {
			do(b, slices.Clone(l), of)
		}
	})
}

// exactHouse has so much in vessels of such a room; its steps do not count.
func exactHouse(random *rand.Rand, count, room int) wort.Brewhouse {
	var b wort.Brewhouse
	for range count {
		v := exactly(0, random.Intn(api.MaxWortDegrees+1), between(random, 1, room))
		n := between(random, 0, v.Room)
		v.Gallons = to(n, n)
		b.Vessels = append(b.Vessels, v)
	}
	for range random.Intn(3) {
		b.Steps = append(b.Steps, step(wort.Boil, 0, 0, 0, random.Intn(3)))
	}
	return b
}

// exactHouses are brewhouses for plans, so small that all plans can be tried.
func exactHouses() []wort.Brewhouse {
	full := exact()
	full.Vessels[1].Room = 4
	l := []wort.Brewhouse{
		exact(), with(), with(boil(1, 60), move(1, 0, 60)), full,
		house(vessels(exactly(4, 0, 9))), house(vessels(exactly(0, 50, 3))), house(vessels(exactly(0, 50, 0))), house(vessels(exactly(1, 120, 60))),
		house(vessels(exactly(5, 60, 5), exactly(5, 20, 5), exactly(0, 0, 3))), house(vessels(exactly(7, 119, 9), exactly(2, 1, 3), exactly(3, 77, 4), exactly(0, 0, 2))),
		house(vessels(exactly(1, 100, 7), exactly(9, 1, 9), exactly(3, 50, 5))),
	}
	random := rand.New(rand.NewSource(3))
	for i := range 40 {
		l = append(l, exactHouse(random, 1+i%api.MaxWortVessels, 3+random.Intn(6)))
	}
	return append(l, exactHouse(random, 2, 20), exactHouse(random, 2, 24), exactHouse(random, 1, 60))
}

// tables are tables of losses, from the shortest and flattest to the longest and steepest.
func tables() [][]int {
	l := [][]int{list(0, 4, 9, 14), list(0, 1), list(0, 120), list(0, 119, 120), list(0, 1, 120), list(0, 1, 2, 3, 4, 5, 6, 7, 8, 9, 10, 11), list(0, 10, 21, 31, 42, 52, 63, 73, 84, 94, 105, 120), list(0, 5, 15, 30, 50)}
	random := rand.New(rand.NewSource(4))
	for range 30 {
		t := list(0)
		for range 1 + random.Intn(api.MaxWortLosses-1) {
			t = append(t, min(api.MaxWortDegrees, t[len(t)-1]+1+random.Intn(14)))
		}
		l = append(l, slices.Compact(t))
	}
	return l
}
