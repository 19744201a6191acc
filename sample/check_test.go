package sample_test

import (
	"slices"
	"testing"

	"saccharum/api"
	"saccharum/sample"
)

func TestP8_1CheckSample(t *testing.T) {
	for _, x := range []struct {
		of   map[string]sample.Sample
		want api.Errno
	}{{tooMuch(), api.ErrLimit}, {tooManyHours(), api.ErrLimit}, {goodSamples(), api.OK}, {wrongs(), api.ErrArg}} {
		for name, s := range x.of {
			hasError(t, name, s, x.want)
		}
	}
	for _, s := range slices.Concat(smallSamples(), wideSamples(), wrongSamples()) {
		hasError(t, "one of many", s, api.OK)
	}
}

// tooMuch are samples that have too much of what is counted first.
func tooMuch() map[string]sample.Sample {
	bad, worse := pass(9, -1, 7, 5, 4), broken(lowest, huge)
	return map[string]sample.Sample{
		"four bottles":                      changed(func(s *sample.Sample) { s.Bottles = 4 }),
		"huge bottles":                      changed(func(s *sample.Sample) { s.Bottles = huge }),
		"five people":                       changed(func(s *sample.Sample) { s.People, s.Stamps = 5, make([]bool, 5) }),
		"five people, and three stamps":     changed(func(s *sample.Sample) { s.People = 5 }),
		"huge people":                       changed(func(s *sample.Sample) { s.People = huge }),
		"seven passes":                      changed(func(s *sample.Sample) { s.Passes = slices.Repeat(s.Passes[:1], 7) }),
		"seven passes that are none":        changed(func(s *sample.Sample) { s.Passes = make([]sample.Pass, 7) }),
		"seven sights":                      changed(func(s *sample.Sample) { s.Sights = slices.Repeat(s.Sights[:1], 7) }),
		"seven bad sights":                  changed(func(s *sample.Sample) { s.Sights = slices.Repeat(sights(worse), 7) }),
		"seven bad passes":                  changed(func(s *sample.Sample) { s.Passes = slices.Repeat(passes(bad), 7) }),
		"a hundred passes":                  changed(func(s *sample.Sample) { s.Passes = make([]sample.Pass, 100) }),
		"four bottles alone":                {Bottles: 4},
		"five people alone":                 {People: 5},
		"seven passes alone":                {Passes: make([]sample.Pass, 7)},
		"seven sights alone":                {Sights: make([]sample.Sight, 7)},
		"no bottles, and five people":       {Bottles: -1, People: 5},
		"seven sights, and a bad pass":      changed(func(s *sample.Sample) { s.Passes[0], s.Sights = bad, make([]sample.Sight, 7) }),
		"seven passes, and a bad last hour": changed(func(s *sample.Sample) { s.Last, s.Passes = -1, make([]sample.Pass, 7) }),
		"four bottles, and a bad first":     changed(func(s *sample.Sample) { s.First, s.Bottles = -1, 4 }),
		"five people, and no stamps":        changed(func(s *sample.Sample) { s.Stamps, s.People = nil, 5 }),
	}
}

// wideSizes has passes with ranges of these sizes.
func wideSizes(sizes ...int) sample.Sample {
	return changed(func(s *sample.Sample) {
		s.Last, s.Passes = 9, nil
		for _, size := range sizes {
			s.Passes = append(s.Passes, pass(0, 0, 1, 0, size-1))
		}
	})
}

// tooManyHours are samples whose sizes multiplied are too much.
func tooManyHours() map[string]sample.Sample {
	return map[string]sample.Sample{
		"1001 hours at least": wideSizes(10, 10, 10, 2),
		"1008 hours":          wideSizes(7, 9, 8, 2),
		"1008 hours, in six":  wideSizes(2, 2, 2, 2, 7, 9),
		"1024 hours":          wideSizes(4, 4, 4, 4, 4),
		"1024 hours, not two": wideSizes(1, 4, 4, 4, 4, 4),
		"a million hours":     wideSizes(10, 10, 10, 10, 10, 10),
		"1050 hours, with gaps": changed(func(s *sample.Sample) {
			s.Last = 9
			s.Passes = passes(pass(0, 0, 1, 3, 9), pass(1, 1, 0, 5, 9), pass(0, 2, 1, 1, 6), pass(1, 0, 1, 4, 8))
		}),
	}
}

// goodSamples are valid.
func goodSamples() map[string]sample.Sample {
	return map[string]sample.Sample{
		"the example":              example(),
		"the least":                {Bottles: 1, People: 1, Stamps: stamps(false)},
		"empty lists":              {Bottles: 1, People: 1, Stamps: stamps(true), Passes: passes(), Sights: sights()},
		"three bottles":            changed(func(s *sample.Sample) { s.Bottles = 3 }),
		"four people":              changed(func(s *sample.Sample) { s.People, s.Stamps = 4, make([]bool, 4) }),
		"the last person first":    changed(func(s *sample.Sample) { s.First = 2 }),
		"hour 9":                   changed(func(s *sample.Sample) { s.Last = 9 }),
		"a thousand hours":         wideSizes(10, 10, 10),
		"a thousand hours, in six": wideSizes(10, 5, 5, 4, 1, 1),
		"990 hours":                wideSizes(9, 10, 10, 1, 1, 1),
		"six sights":               changed(func(s *sample.Sample) { s.Sights = slices.Repeat(s.Sights[:1], 6) }),
		"one hour":                 {Bottles: 3, People: 2, Last: 0, First: 1, Stamps: stamps(true, false), Passes: passes(pass(2, 1, 0, 0, 0), pass(2, 0, 1, 0, 0)), Sights: sights(whole(2, 0), broken(0, 0))},
		"a contradiction":          example(broken(0, 2)),
		"all wrong":                single(0, stamps(false, false), slices.Repeat(passes(pass(0, 1, 0, 0, 0)), 6), whole(0, 0), broken(0, 0), whole(0, 0), broken(0, 0), whole(0, 0), broken(0, 0)),
	}
}

// wrongs are not valid.
func wrongs() map[string]sample.Sample {
	change := changed
	return map[string]sample.Sample{
		"nothing": {}, "no bottles": change(func(s *sample.Sample) { s.Bottles = 0 }), "bottles below 0": change(func(s *sample.Sample) { s.Bottles = -1 }), "the lowest bottles": change(func(s *sample.Sample) { s.Bottles = lowest }),
		"no bottles alone": {Bottles: 0, People: 1, Stamps: stamps(true)}, "a bottle of a pass too few": change(func(s *sample.Sample) { s.Bottles, s.Sights = 1, nil }), "a bottle of a sight too few": change(func(s *sample.Sample) { s.Bottles, s.Passes = 1, nil }),
		"no people": change(func(s *sample.Sample) { s.People = 0 }), "no people, and no stamps": {Bottles: 1}, "people below 0": change(func(s *sample.Sample) { s.People = -1 }), "the lowest people": change(func(s *sample.Sample) { s.People = lowest }),
		"people below 0 without stamps": {Bottles: 1, People: -1, First: -1}, "a person of a pass too few": change(func(s *sample.Sample) { s.People, s.Stamps = 2, make([]bool, 2) }),
		"no stamps": change(func(s *sample.Sample) { s.Stamps = nil }), "a stamp too few": change(func(s *sample.Sample) { s.Stamps = s.Stamps[:2] }), "a stamp too many": change(func(s *sample.Sample) { s.Stamps = append(s.Stamps, false) }), "a hundred stamps": change(func(s *sample.Sample) { s.Stamps = make([]bool, 100) }),
		"a last hour below 0": change(func(s *sample.Sample) { s.Last, s.Passes, s.Sights = -1, nil, nil }), "the last hour 10": change(func(s *sample.Sample) { s.Last = 10 }), "a huge last hour": change(func(s *sample.Sample) { s.Last = huge }), "the lowest last hour": change(func(s *sample.Sample) { s.Last = lowest }),
		"a last hour before a sight": change(func(s *sample.Sample) { s.Last = 3 }), "a last hour before a pass": change(func(s *sample.Sample) { s.Last, s.Sights = 2, nil }),
		"a first below 0": change(func(s *sample.Sample) { s.First = -1 }), "a first of nobody": change(func(s *sample.Sample) { s.First = 3 }), "a huge first": change(func(s *sample.Sample) { s.First = huge }), "the lowest first": change(func(s *sample.Sample) { s.First = lowest }),
		"a bad sight, and too many hours": change(func(s *sample.Sample) { s.Passes, s.Sights[1].Hour = wideSizes(4, 4, 4, 4, 4).Passes, -1 }),
		"a bad pass, and too many hours":  change(func(s *sample.Sample) { s.Last, s.Passes = 9, wideSizes(4, 4, 4, 4, 4, 11).Passes }),
		"a bad first, and too many hours": change(func(s *sample.Sample) { s.First, s.Last, s.Passes = -1, 9, wideSizes(4, 4, 4, 4, 4).Passes }),
		"no stamps, and too many hours":   change(func(s *sample.Sample) { s.Stamps, s.Last, s.Passes = nil, 9, wideSizes(4, 4, 4, 4, 4).Passes }),
		"hours that are huge together":    change(func(s *sample.Sample) { s.Passes = slices.Repeat(passes(pass(0, 0, 1, lowest, huge)), 6) }),
	}
}

// TestP8_1Entries has the numbers of entries.
func TestP8_1Entries(t *testing.T) {
	for _, x := range []struct {
		name string
		most int
		of   func(s *sample.Sample) *int
	}{
		{"the bottle of the first pass", 1, func(s *sample.Sample) *int { return &s.Passes[0].Bottle }}, {"the bottle of the last pass", 1, func(s *sample.Sample) *int { return &s.Passes[2].Bottle }},
		{"the bottle of the first sight", 1, func(s *sample.Sample) *int { return &s.Sights[0].Bottle }}, {"the bottle of the last sight", 1, func(s *sample.Sample) *int { return &s.Sights[1].Bottle }},
		{"the hour of the first sight", 4, func(s *sample.Sample) *int { return &s.Sights[0].Hour }}, {"the hour of the last sight", 4, func(s *sample.Sample) *int { return &s.Sights[1].Hour }},
		{"the first person", 2, func(s *sample.Sample) *int { return &s.First }},
	} {
		for _, n := range list(lowest, -1, 0, 1, 2, 3, 4, 5, huge) {
			want := api.ErrArg
			if in(n, to(0, x.most)) {
				want = api.OK
			}
			hasError(t, x.name, changed(func(s *sample.Sample) { *x.of(s) = n }), want)
		}
	}
	for i := range 3 {
		for _, from := range list(lowest, -1, 0, 1, 2, 3, huge) {
			for _, into := range list(lowest, -1, 0, 1, 2, 3, huge) {
				want := api.ErrArg
				if from != into && in(from, to(0, 2)) && in(into, to(0, 2)) {
					want = api.OK
				}
				hasError(t, "the people of a pass", changed(func(s *sample.Sample) { s.Passes[i].From, s.Passes[i].To = from, into }), want)
			}
		}
		for _, low := range list(lowest, -1, 0, 1, 2, 3, 4, 5, huge) {
			for _, high := range list(lowest, -1, 0, 1, 2, 3, 4, 5, huge) {
				want := api.ErrArg
				if 0 <= low && low <= high && high <= 4 {
					want = api.OK
				}
				hasError(t, "the hours of a pass", changed(func(s *sample.Sample) { s.Passes[i].Hour = to(low, high) }), want)
			}
		}
	}
}

// hasError checks that each call has the error of its sample, even if other arguments are invalid too.
func hasError(t *testing.T, name string, s sample.Sample, want api.Errno) {
	if e := sample.CheckSample(s); e != want {
		t.Errorf("%s: CheckSample of %v: %v", name, s, e)
	}
	if want == api.OK {
		if _, e := sample.Leave(s); e != api.OK {
			t.Errorf("%s: Leave of %v: %v", name, s, e)
		}
		return
	}
	held, seals, e := sample.Play(s, shown())
	held2, seals2, e2 := sample.Play(s, sample.Truth{})
	l, e3 := sample.Holders(s, 0, 0)
	m, e4 := sample.Holders(s, -1, huge)
	o, e5 := sample.Openers(s, 0)
	p, e6 := sample.Openers(s, huge)
	v, e7 := sample.Verdicts(s)
	a, e8 := sample.Alike(s)
	f, e9 := sample.Least(s)
	n, e10 := sample.First(s)
	out, e11 := sample.Leave(s)
	for i, e := range []api.Errno{e, e2, e3, e4, e5, e6, e7, e8, e9, e10, e11} {
		if e != want {
			t.Errorf("%s: call %d with %v: %v", name, i, s, e)
		}
	}
	if len(held)+len(seals)+len(held2)+len(seals2)+len(l)+len(m)+len(o)+len(p)+len(v)+a+len(f)+n+len(out) != 0 {
		t.Errorf("%s: results beside an error, of %v", name, s)
	}
	if sample.ProveTruth(s, shown()) || sample.ProveTruth(s, sample.Truth{}) {
		t.Errorf("%s: a proof about %v", name, s)
	}
}

// shown is a truth of the example.
func shown() sample.Truth {
	return truth(list(1, 3, 2), list(0, 0, 0, 3, 1), list(0, 0, 0, 0, 0))
}

// TestP8_1WrongNumbers has truths with numbers that there are not, or not as many as there must be.
func TestP8_1WrongNumbers(t *testing.T) {
	none := list(0, 0, 0, 0, 0)
	for _, u := range []sample.Truth{
		{}, truth(list(1, 3, 2)), truth(nil, none, none), truth(list(1, 3), none, none), truth(list(1, 3, 2, 2), none, none),
		truth(list(0, 3, 2), none, none), truth(list(3, 3, 2), none, none), truth(list(1, 2, 2), none, none), truth(list(1, 4, 2), none, none), truth(list(1, 3, 1), none, none), truth(list(1, 3, 3), none, none), truth(list(lowest, 3, 2), none, none), truth(list(1, huge, 2), none, none), truth(list(1, 3, -2), none, none),
		truth(list(1, 3, 2), none), truth(list(1, 3, 2), none, none, none), truth(list(1, 3, 2), none, nil), truth(list(1, 3, 2), nil, none), truth(list(1, 3, 2), none[:4], none), truth(list(1, 3, 2), none, none[:4]), truth(list(1, 3, 2), append(list(0), none...), none), truth(list(1, 3, 2), none, append(list(0), none...)), truth(list(1, 3, 2), none[:4], append(list(0), none...)),
		truth(list(1, 3, 2), list(4, 0, 0, 0, 0), none), truth(list(1, 3, 2), none, list(0, 0, 0, 0, 4)), truth(list(1, 3, 2), list(0, 0, -1, 0, 0), none), truth(list(1, 3, 2), none, list(0, huge, 0, 0, 0)), truth(list(1, 3, 2), none, list(0, lowest, 0, 0, 0)),
		// A number that there is not comes before an act or a pass that is not possible, and a sight that is not right.
		truth(list(1, 3, 2), list(2, 1, 0, 0, 0), list(0, 0, 0, 0, 4)), truth(list(1, 3, 3), list(2, 0, 0, 0, 0), none), truth(list(1, 3, 2), list(1, 0, 0, 0, 0), none[:4]),
	} {
		if held, seals, e := sample.Play(example(), u); len(held)+len(seals) != 0 || e != api.ErrRange || sample.ProveTruth(example(), u) {
			t.Errorf("Play of %v: %v, %v, %v; or a proof", u, held, seals, e)
		}
	}
	late := single(3, stamps(true, true), passes(pass(0, 1, 0, 0, 2)))
	for hour := range 5 {
		want := api.ErrFalse
		if hour > 2 {
			want = api.ErrRange
		}
		if _, _, e := sample.Play(late, truth(list(hour), list(0, 0, 0, 0))); e != want {
			t.Errorf("Play of an hour %d: %v", hour, e)
		}
	}
	if _, _, e := sample.Play(single(0, stamps(false), nil), truth(list(0), list(0))); e != api.ErrRange {
		t.Errorf("Play of an hour without a pass: %v", e)
	}
}

// TestP8_2Numbers has bottles and hours that there are not.
func TestP8_2Numbers(t *testing.T) {
	for _, s := range []sample.Sample{example(), example(broken(0, 2)), single(0, stamps(true), nil), single(9, stamps(true), nil, whole(0, 3), broken(0, 3))} {
		_, f := sample.Least(s)
		for _, b := range list(lowest, -1, 0, 1, 2, 3, huge) {
			want := f
			if !in(b, to(0, s.Bottles-1)) {
				want = api.ErrRange
			}
			if l, e := sample.Openers(s, b); e != want || e != api.OK && len(l) != 0 {
				t.Errorf("Openers of %v, %d: %v, %v", s, b, l, e)
			}
			for _, h := range list(lowest, -1, 0, 4, 5, 9, 10, huge) {
				want := want
				if !in(h, to(0, s.Last)) {
					want = api.ErrRange
				}
				if l, e := sample.Holders(s, b, h); e != want || (e == api.OK) != (len(l) > 0) {
					t.Errorf("Holders of %v, %d, %d: %v, %v", s, b, h, l, e)
				}
			}
		}
	}
}
