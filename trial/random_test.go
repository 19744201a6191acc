package trial_test

import (
	"math/rand"
	"slices"

	"saccharum/api"
	"saccharum/spindle"
	"saccharum/trial"
)

// What this file makes up is always the same, since each source of chance starts with a number of its own.

// bounds are what a random trial has at most: how many parts, its Worst, how many liquids and how wide, and how many tests; and one of how many tests is of anything.
type bounds struct{ parts, worst, liquids, wide, tests, any int }

// wideBounds are those of the limits.
func wideBounds() bounds {
	return bounds{parts: api.MaxTrialParts, worst: api.MaxTrialError, liquids: api.MaxTrialLiquids, wide: api.MaxTrialWide, tests: api.MaxTrialTests, any: 6}
}

// randomSpindle is one that floats in some densities.
func randomSpindle(random *rand.Rand) spindle.Spindle {
	s := spindle.Spindle{Mass: 5 + random.Intn(1200), Divisions: 1 + random.Intn(api.MaxSpindleDivisions)}
	density := 400 + random.Intn(1400)
	s.Volume = max(1, 1000*s.Mass/density)
	s.Step = 1 + random.Intn(min(api.MaxSpindleStep, 2+s.Volume/s.Divisions))
	least := (s.Step + 1) / 2
	s.Width = least + random.Intn(s.Step-least+1)
	for range random.Intn(4) {
		s.Weights = append(s.Weights, 1+random.Intn(1+s.Mass/4))
	}
	return s
}

// someDensity is one in which the spindle floats with the load, or nearly.
func someDensity(random *rand.Rand, s spindle.Spindle, load int) int {
	low, high := 1000*mass(s, load)/(s.Volume+s.Divisions*s.Step), 1000*mass(s, load)/s.Volume
	return min(max(1, low-4+random.Intn(high-low+9)), api.MaxSpindleDensity)
}

// someLoad is a load, most often none.
func someLoad(random *rand.Rand, s spindle.Spindle) int {
	if random.Intn(2) == 0 {
		return 0
	}
	return random.Intn(len(s.Weights) + 1)
}

// randomLiquid is a range of densities in which the spindle floats, or nearly.
func randomLiquid(random *rand.Rand, s spindle.Spindle, wide int) trial.Range {
	density := someDensity(random, s, someLoad(random, s))
	above := random.Intn(wide + 1)
	return to(max(1, density-random.Intn(above+1)), min(density+random.Intn(wide-above+1), api.MaxSpindleDensity))
}

// randomParts are increasing divisions.
func randomParts(random *rand.Rand, s spindle.Spindle, most int) []int {
	l := list(0)
	for range random.Intn(most) {
		l = append(l, random.Intn(s.Divisions+1))
	}
	slices.Sort(l)
	return slices.Compact(l)
}

// randomTruth is one of the trial without its tests.
func randomTruth(random *rand.Rand, x trial.Trial) (errors, densities [3]int) {
	for part := range x.Parts {
		errors[part] = random.Intn(2*x.Worst+1) - x.Worst
	}
	for liquid, r := range x.Liquids {
		densities[liquid] = r.Lo + random.Intn(r.Hi-r.Lo+1)
	}
	return errors, densities
}

// randomTest is of what can be shown in the truth.
func randomTest(random *rand.Rand, x trial.Trial, errors, densities [3]int) trial.Test {
	y := test(random.Intn(len(x.Liquids)), someLoad(random, x.Spindle), 0)
	l := shownBy(x, errors, y.Load, densities[y.Liquid])
	y.Seen = l[random.Intn(len(l))]
	return y
}

// shownTrial is a trial with a truth, in which all tests are right but for one of so many, on the average.
func shownTrial(random *rand.Rand, most bounds) (x trial.Trial, errors, densities [3]int) {
	x = trial.Trial{Spindle: randomSpindle(random), Worst: random.Intn(most.worst + 1)}
	x.Parts = randomParts(random, x.Spindle, most.parts)
	for range 1 + random.Intn(most.liquids) {
		x.Liquids = append(x.Liquids, randomLiquid(random, x.Spindle, most.wide))
	}
	errors, densities = randomTruth(random, x)
	for range random.Intn(most.tests + 1) {
		y := randomTest(random, x, errors, densities)
		if most.any > 0 && random.Intn(most.any) == 0 {
			y.Seen = random.Intn(x.Spindle.Divisions+2) - 1
		}
		x.Tests = append(x.Tests, y)
	}
	return x, errors, densities
}

// randomTrials are so many trials.
func randomTrials(seed int64, count int, most bounds) (l []trial.Trial) {
	random := rand.New(rand.NewSource(seed))
	for range count {
		x, _, _ := shownTrial(random, most)
		l = append(l, x)
	}
	return l
}

// smallTrials have few truths, so that all of them can be tried.
func smallTrials() (l []trial.Trial) {
	for i, most := range []bounds{{2, 2, 2, 12, 5, 7}, {1, 3, 3, 8, 6, 5}, {3, 1, 2, 16, 6, 5}, {3, 3, 1, 20, 6, 4}, {2, 3, 2, 5, 3, 9}, {3, 2, 2, 8, 6, 2}} {
		l = append(l, randomTrials(int64(i), 60, most)...)
	}
	return l
}

// wideTrials are up to as large as they may be.
func wideTrials() []trial.Trial {
	narrow := wideBounds()
	narrow.wide, narrow.any = 12, 3
	return slices.Concat(randomTrials(11, 120, wideBounds()), randomTrials(12, 60, narrow))
}

// allTrials are all that are made up.
func allTrials() []trial.Trial { return slices.Concat(smallTrials(), wideTrials()) }

// randomOffers are some that can tell something.
func randomOffers(random *rand.Rand, s spindle.Spindle) (l []trial.Offer) {
	count := api.MaxTrialOffers
	if random.Intn(2) == 0 {
		count = random.Intn(count)
	}
	for range count {
		load := random.Intn(len(s.Weights) + 1)
		o := offer(load, someDensity(random, s, load))
		if random.Intn(12) == 0 {
			o.Density = 1 + random.Intn(api.MaxSpindleDensity)
		}
		l = append(l, o)
	}
	return l
}

// copied is the trial in memory of its own.
func copied(x trial.Trial) trial.Trial {
	x.Spindle.Weights = slices.Clone(x.Spindle.Weights)
	x.Parts, x.Liquids, x.Tests = slices.Clone(x.Parts), slices.Clone(x.Liquids), slices.Clone(x.Tests)
	return x
}
