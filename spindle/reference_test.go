package spindle_test

import (
	"math/rand"
	"slices"

	"saccharum/api"
	"saccharum/spindle"
)

// What this file computes follows the definitions of the chapter word by word, density by density.

func to(low, high int) spindle.Range { return spindle.Range{Lo: low, Hi: high} }

func row(l ...int) []int { return l }

// brass is the spindle of the chapter's examples.
func brass() spindle.Spindle {
	return spindle.Spindle{Mass: 900, Volume: 800, Step: 20, Divisions: 10, Width: 10, Weights: row(100, 200)}
}

// spindles are those of the examples, those at the limits, and others; always the same ones.
func spindles() []spindle.Spindle {
	l := []spindle.Spindle{
		brass(),
		{Mass: 100, Volume: 90, Step: 10, Divisions: 2, Width: 10},
		{Mass: 1, Volume: 1, Step: 1, Divisions: 1, Width: 1},
		{Mass: 1, Volume: 5000, Step: 100, Divisions: 20, Width: 50, Weights: row(1, 1, 1, 1, 1, 1)},
		{Mass: 5000, Volume: 1, Step: 1, Divisions: 1, Width: 1, Weights: row(1000)},
		{Mass: 5000, Volume: 5000, Step: 100, Divisions: 20, Width: 100, Weights: row(1000, 1, 500, 500, 999, 2)},
		{Mass: 10, Volume: 3000, Step: 7, Divisions: 3, Width: 4, Weights: row(3)},
		{Mass: 3, Volume: 5, Step: 5, Divisions: 20, Width: 3, Weights: row(2, 7, 1)},
		{Mass: 700, Volume: 650, Step: 9, Divisions: 4, Width: 5, Weights: row(40, 80, 120, 160, 200, 240)},
		{Mass: 700, Volume: 1000, Step: 3, Divisions: 20, Width: 3, Weights: row(300, 50, 120, 300)},
	}
	random := rand.New(rand.NewSource(1))
	for range 25 {
		l = append(l, randomSpindle(random))
	}
	return l
}

func randomSpindle(random *rand.Rand) spindle.Spindle {
	s := spindle.Spindle{Mass: 1 + random.Intn(1200), Volume: 1 + random.Intn(1200), Step: 1 + random.Intn(60), Divisions: 1 + random.Intn(12)}
	least := (s.Step + 1) / 2
	s.Width = least + random.Intn(s.Step-least+1)
	for range random.Intn(api.MaxSpindleWeights + 1) {
		s.Weights = append(s.Weights, 1+random.Intn(300))
	}
	return s
}

// ranges are some ranges of densities; always the same ones.
func ranges() []spindle.Range {
	l := []spindle.Range{to(1, 2000), to(1, 1), to(2000, 2000), to(990, 1011), to(950, 1300), to(1000, 1100), to(850, 900)}
	random := rand.New(rand.NewSource(2))
	for range 6 {
		low := 1 + random.Intn(1900)
		l = append(l, to(low, low+random.Intn(min(400, 2001-low))))
	}
	return l
}

// mass is the mass of a load.
func mass(s spindle.Spindle, load int) int {
	if load == 0 {
		return s.Mass
	}
	return s.Mass + s.Weights[load-1]
}

// rests tells what becomes of the spindle: both sides are multiplied by the density, so that nothing is rounded.
func rests(s spindle.Spindle, load, density int) int {
	depth := 1000 * mass(s, load)
	switch {
	case depth < density*s.Volume:
		return spindle.Rises
	case depth > density*(s.Volume+s.Divisions*s.Step):
		return spindle.Sinks
	}
	return 0
}

// reads lists the divisions that can be read.
func reads(s spindle.Spindle, load, density int) (l []int) {
	if rests(s, load, density) != 0 {
		return nil
	}
	for d := 0; d <= s.Divisions; d++ {
		off := 1000*mass(s, load) - density*(s.Volume+d*s.Step)
		if max(off, -off) <= density*s.Width {
			l = append(l, d)
		}
	}
	return l
}

// fits reports whether this can be seen in the density.
func fits(s spindle.Spindle, r spindle.Reading, density int) bool {
	if r.Seen < 0 {
		return rests(s, r.Load, density) == r.Seen
	}
	return slices.Contains(reads(s, r.Load, density), r.Seen)
}

// sights lists all that can be seen on a spindle.
func sights(s spindle.Spindle) []int {
	l := row(spindle.Sinks, spindle.Rises)
	for d := 0; d <= s.Divisions; d++ {
		l = append(l, d)
	}
	return l
}

// fitting lists the densities that fit all readings, but for those that are left out.
func fitting(s spindle.Spindle, readings []spindle.Reading, out []int) (l []int) {
	for density := 1; density <= api.MaxSpindleDensity; density++ {
		ok := true
		for i, r := range readings {
			ok = ok && (slices.Contains(out, i) || fits(s, r, density))
		}
		if ok {
			l = append(l, density)
		}
	}
	return l
}

// span is the range from the first to the last element, or zero.
func span(l []int) spindle.Range {
	if len(l) == 0 {
		return spindle.Range{}
	}
	return to(l[0], l[len(l)-1])
}

// subsets lists all increasing lists of numbers below count, shorter ones first, then lexicographically.
func subsets(count int) (l [][]int) {
	for bits := range 1 << count {
		var set []int
		for i := range count {
			if bits>>i&1 == 1 {
				set = append(set, i)
			}
		}
		l = append(l, set)
	}
	slices.SortFunc(l, func(a, b []int) int {
		if len(a) != len(b) {
			return len(a) - len(b)
		}
		return slices.Compare(a, b)
	})
	return l
}

// covers reports whether the spindle floats with one of the loads in each density of the range.
func covers(s spindle.Spindle, r spindle.Range, loads []int) bool {
	for density := r.Lo; density <= r.Hi; density++ {
		if !slices.ContainsFunc(loads, func(load int) bool { return rests(s, load, density) == 0 }) {
			return false
		}
	}
	return true
}

// leaves is what a load leaves of the range.
func leaves(s spindle.Spindle, r spindle.Range, load int) int {
	counts := map[int]int{}
	most := 0
	for density := r.Lo; density <= r.Hi; density++ {
		seen := reads(s, load, density)
		if rest := rests(s, load, density); rest != 0 {
			seen = row(rest)
		}
		for _, x := range seen {
			counts[x]++
			most = max(most, counts[x])
		}
	}
	return most
}

// readingLists are some lists of readings, of one liquid with a few that are false; always the same ones.
func readingLists(s spindle.Spindle, random *rand.Rand) (lists [][]spindle.Reading) {
	for n := range api.MaxSpindleReadings + 1 {
		density := 1 + random.Intn(api.MaxSpindleDensity)
		var l []spindle.Reading
		for len(l) < n {
			r := spindle.Reading{Load: random.Intn(len(s.Weights) + 1), Seen: random.Intn(s.Divisions+3) - 2}
			if random.Intn(3) > 0 {
				r.Seen = seenIn(s, r.Load, density, random)
			}
			l = append(l, r)
		}
		lists = append(lists, l)
	}
	return lists
}

// seenIn is something that can be seen with the load in the density.
func seenIn(s spindle.Spindle, load, density int, random *rand.Rand) int {
	if rest := rests(s, load, density); rest != 0 {
		return rest
	}
	l := reads(s, load, density)
	return l[random.Intn(len(l))]
}
