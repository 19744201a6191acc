package sample_test

import (
	"math/rand"

	"saccharum/api"
	"saccharum/sample"
)

// What this file makes up is always the same, since each source of chance starts with a number of its own.

// bounds are what a random sample has at most: its last hour, how many bottles, passes and sights, and how many hours more than one a pass can be in.
type bounds struct{ last, bottles, passes, sights, wide int }

// wideBounds are those of the limits.
func wideBounds() bounds {
	return bounds{last: api.MaxSampleHour, bottles: api.MaxSampleBottles, passes: api.MaxSamplePasses, sights: api.MaxSampleSights, wide: api.MaxSampleHour}
}

// hoursAround is a range with an hour, and so many more at most.
func hoursAround(random *rand.Rand, hour, last, wide int) sample.Range {
	r := to(hour, hour)
	for range random.Intn(wide + 1) {
		if random.Intn(2) == 0 && r.Lo > 0 {
			r.Lo--
		} else if r.Hi < last {
			r.Hi++
		}
	}
	return r
}

// randomPasses are passes most of which can follow one another.
func randomPasses(random *rand.Rand, s sample.Sample, count, wide int) (l []sample.Pass) {
	holders, hours := make([]int, s.Bottles), make([]int, s.Bottles)
	for b := range holders {
		holders[b] = s.First
	}
	for range count {
		b := random.Intn(s.Bottles)
		p := sample.Pass{Bottle: b, From: holders[b]}
		if random.Intn(9) == 0 {
			p.From = random.Intn(s.People)
		}
		p.To = (p.From + 1 + random.Intn(s.People-1)) % s.People
		hour := min(hours[b]+random.Intn(3), s.Last)
		if random.Intn(12) == 0 {
			hour = random.Intn(s.Last + 1)
		}
		p.Hour = hoursAround(random, hour, s.Last, wide)
		holders[b], hours[b] = p.To, hour
		l = append(l, p)
	}
	if random.Intn(5) == 0 {
		random.Shuffle(len(l), func(i, j int) { l[i], l[j] = l[j], l[i] })
	}
	return l
}

// randomSight is one of any seal.
func randomSight(random *rand.Rand, s sample.Sample) sample.Sight {
	return sample.Sight{Bottle: random.Intn(s.Bottles), Hour: random.Intn(s.Last + 1), Whole: random.Intn(5) > 1}
}

// randomSights are sights of seals that are broken once, or, in one of three samples, of any.
func randomSights(random *rand.Rand, s sample.Sample, count int) (l []sample.Sight) {
	isAny, first := random.Intn(3) == 0, random.Intn(s.Last+2)
	for range count {
		k := randomSight(random, s)
		if !isAny && random.Intn(12) > 0 {
			k.Whole = k.Hour < first
		}
		l = append(l, k)
	}
	return l
}

// randomSample is one of up to so much.
func randomSample(random *rand.Rand, most bounds) sample.Sample {
	s := sample.Sample{Bottles: 1 + random.Intn(most.bottles), People: 1 + random.Intn(api.MaxSamplePeople), Last: random.Intn(most.last + 1)}
	s.First = random.Intn(s.People)
	stamped := random.Intn(4)
	for range s.People {
		s.Stamps = append(s.Stamps, random.Intn(4) < stamped)
	}
	if s.People > 1 {
		s.Passes = randomPasses(random, s, random.Intn(most.passes+1), most.wide)
	}
	s.Sights = randomSights(random, s, random.Intn(most.sights+1))
	return s
}

// smallSamples have few truths, so that all of them can be tried.
func smallSamples() (l []sample.Sample) {
	for i, most := range []bounds{{6, 1, 5, 4, 3}, {3, 2, 4, 5, 2}, {2, 3, 5, 5, 1}, {4, 1, 3, 6, 4}} {
		random := rand.New(rand.NewSource(int64(i)))
		for range 150 {
			l = append(l, randomSample(random, most))
		}
	}
	return l
}

// wideSamples are as large as they may be, and valid.
func wideSamples() (l []sample.Sample) {
	random := rand.New(rand.NewSource(9))
	for len(l) < 400 {
		most := wideBounds()
		most.bottles = 1 + random.Intn(most.bottles)
		s := randomSample(random, most)
		if len(l)%4 == 0 && len(s.Passes) > 0 {
			i := random.Intn(len(s.Passes))
			s.Passes[i].From, s.Passes[i].To = s.Passes[i].To, s.Passes[i].From
		}
		if sample.CheckSample(s) == api.OK && len(s.Passes) > 2 && s.Last > 4 {
			l = append(l, s)
		}
	}
	return l
}

// wrongSamples are valid, and have entries many of which contradict each other.
func wrongSamples() (l []sample.Sample) {
	random := rand.New(rand.NewSource(10))
	for len(l) < 200 {
		s := randomSample(random, bounds{last: 3, bottles: 3, passes: 6, sights: 6, wide: 2})
		for i := range s.Passes {
			if random.Intn(2) == 0 {
				s.Passes[i].From, s.Passes[i].To = s.Passes[i].To, s.Passes[i].From
			}
		}
		if len(s.Passes)+len(s.Sights) > 5 {
			l = append(l, s)
		}
	}
	return l
}
