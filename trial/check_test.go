package trial_test

import (
	"slices"
	"testing"

	"saccharum/api"
	"saccharum/trial"
)

func TestP9_1CheckTrial(t *testing.T) {
	for _, x := range []struct {
		of   map[string]trial.Trial
		want api.Errno
	}{{tooMuch(), api.ErrLimit}, {wrongSpindles(), api.ErrArg}, {wrongs(), api.ErrArg}, {goods(), api.OK}} {
		for name, y := range x.of {
			hasError(t, name, y, x.want)
		}
	}
	for _, x := range allTrials() {
		hasError(t, "one of many", x, api.OK)
	}
}

// tooMuch are trials of which something is more than it may be.
func tooMuch() map[string]trial.Trial {
	bad := test(-1, huge, lowest)
	return map[string]trial.Trial{
		"seven weights":                        changed(func(x *trial.Trial) { x.Spindle.Weights = slices.Repeat(list(1), 7) }),
		"seven weights of a bad spindle":       changed(func(x *trial.Trial) { x.Spindle.Mass, x.Spindle.Weights = 0, make([]int, 7) }),
		"seven weights alone":                  changed(func(x *trial.Trial) { *x = trial.Trial{}; x.Spindle.Weights = make([]int, 7) }),
		"seven weights, and a bad trial":       changed(func(x *trial.Trial) { x.Spindle.Weights, x.Parts, x.Worst = make([]int, 7), nil, -1 }),
		"four parts":                           changed(func(x *trial.Trial) { x.Parts = list(0, 1, 2, 3) }),
		"four parts that are none":             changed(func(x *trial.Trial) { x.Parts = list(7, huge, -1, 3) }),
		"a hundred parts":                      changed(func(x *trial.Trial) { x.Parts = make([]int, 100) }),
		"four liquids":                         changed(func(x *trial.Trial) { x.Liquids = slices.Repeat(x.Liquids[:1], 4) }),
		"four liquids that are none":           changed(func(x *trial.Trial) { x.Liquids = make([]trial.Range, 4) }),
		"seven tests":                          changed(func(x *trial.Trial) { x.Tests = slices.Repeat(x.Tests[:1], 7) }),
		"seven bad tests":                      changed(func(x *trial.Trial) { x.Tests = slices.Repeat(tests(bad), 7) }),
		"seven tests, and no parts":            changed(func(x *trial.Trial) { x.Parts, x.Tests = nil, make([]trial.Test, 7) }),
		"seven tests, and a bad liquid":        changed(func(x *trial.Trial) { x.Liquids[0], x.Tests = to(2, 1), make([]trial.Test, 7) }),
		"four liquids, and a bad worst":        changed(func(x *trial.Trial) { x.Worst, x.Liquids = -1, make([]trial.Range, 4) }),
		"four parts, and a bad test":           changed(func(x *trial.Trial) { x.Parts, x.Tests[0] = make([]int, 4), bad }),
		"seven tests of a trial without parts": {Spindle: brass(), Tests: make([]trial.Test, 7)},
	}
}

// wrongSpindles are trials whose spindle is not valid, which comes before all else.
func wrongSpindles() map[string]trial.Trial {
	return map[string]trial.Trial{
		"nothing":                           {},
		"no mass":                           changed(func(x *trial.Trial) { x.Spindle.Mass = 0 }),
		"a volume above the limit":          changed(func(x *trial.Trial) { x.Spindle.Volume = api.MaxSpindleVolume + 1 }),
		"a step below 1":                    changed(func(x *trial.Trial) { x.Spindle.Step = 0 }),
		"huge divisions":                    changed(func(x *trial.Trial) { x.Spindle.Divisions = huge }),
		"a width below half the step":       changed(func(x *trial.Trial) { x.Spindle.Width = 9 }),
		"a weight of nothing":               changed(func(x *trial.Trial) { x.Spindle.Weights[1] = 0 }),
		"no mass, and four parts":           changed(func(x *trial.Trial) { x.Spindle.Mass, x.Parts = 0, make([]int, 4) }),
		"no step, and four liquids":         changed(func(x *trial.Trial) { x.Spindle.Step, x.Liquids = 0, make([]trial.Range, 4) }),
		"a weight of -1, and seven tests":   changed(func(x *trial.Trial) { x.Spindle.Weights[0], x.Tests = -1, make([]trial.Test, 7) }),
		"a bad spindle, and all of it much": {Parts: make([]int, 4), Liquids: make([]trial.Range, 4), Tests: make([]trial.Test, 7)},
	}
}

// wrongs are not valid, though their spindles are.
func wrongs() map[string]trial.Trial {
	return map[string]trial.Trial{
		"nothing but a spindle": {Spindle: brass()}, "no parts": changed(func(x *trial.Trial) { x.Parts = nil }), "no liquids": changed(func(x *trial.Trial) { x.Liquids, x.Tests = nil, nil }), "no liquids for the tests": changed(func(x *trial.Trial) { x.Liquids = nil }), "a liquid too few": changed(func(x *trial.Trial) { x.Liquids = x.Liquids[:1] }),
		"a first part above 0": changed(func(x *trial.Trial) { x.Parts = list(1, 6) }), "a first part below 0": changed(func(x *trial.Trial) { x.Parts = list(-1, 6) }), "a single part above 0": changed(func(x *trial.Trial) { x.Parts = list(3) }), "a first part that is huge": changed(func(x *trial.Trial) { x.Parts = list(huge) }),
		"parts that are equal": changed(func(x *trial.Trial) { x.Parts = list(0, 0) }), "parts that are equal at the end": changed(func(x *trial.Trial) { x.Parts = list(0, 6, 6) }), "parts that fall": changed(func(x *trial.Trial) { x.Parts = list(0, 7, 6) }), "a second part below 0": changed(func(x *trial.Trial) { x.Parts = list(0, lowest) }),
		"a part behind the stem": changed(func(x *trial.Trial) { x.Parts = list(0, 11) }), "a third part behind the stem": changed(func(x *trial.Trial) { x.Parts = list(0, 6, 11) }), "a huge part": changed(func(x *trial.Trial) { x.Parts = list(0, 6, huge) }), "a stem that is too short": changed(func(x *trial.Trial) { x.Spindle.Divisions, x.Tests = 5, nil }),
	}
}

// goods are valid.
func goods() map[string]trial.Trial {
	return map[string]trial.Trial{
		"the example":         example(),
		"no tests":            single(1000, 1000),
		"an empty list":       single(1000, 1000, tests()...),
		"three parts":         changed(func(x *trial.Trial) { x.Parts = list(0, 1, 10) }),
		"one part":            changed(func(x *trial.Trial) { x.Parts = list(0) }),
		"two divisions":       changed(func(x *trial.Trial) { x.Spindle.Divisions, x.Parts, x.Tests = 1, list(0, 1), nil }),
		"no error":            changed(func(x *trial.Trial) { x.Worst = 0 }),
		"errors of 3":         changed(func(x *trial.Trial) { x.Worst = 3 }),
		"three liquids":       changed(func(x *trial.Trial) { x.Liquids = append(x.Liquids, to(1, 41)) }),
		"the least densities": changed(func(x *trial.Trial) { x.Liquids[0] = to(1, 1) }),
		"the greatest":        changed(func(x *trial.Trial) { x.Liquids[1] = to(1960, 2000) }),
		"six tests":           example(test(0, 1, 0), test(1, 2, 10), test(0, 2, -1), test(1, 0, 5)),
		"a contradiction":     example(test(0, 0, 8)),
		"no weights":          changed(func(x *trial.Trial) { x.Spindle.Weights = nil }),
		"the largest": {
			Spindle: brass(), Parts: list(0, 3, 7), Worst: 3, Liquids: slices.Repeat([]trial.Range{to(980, 1020)}, 3),
			Tests: tests(test(0, 0, 5), test(0, 1, 9), test(1, 0, 5), test(1, 1, 8), test(2, 0, 4), test(2, 2, -1)),
		},
	}
}

// TestP9_1Numbers has the numbers of trials.
func TestP9_1Numbers(t *testing.T) {
	for _, x := range []struct {
		name      string
		low, high int
		of        func(x *trial.Trial) *int
	}{
		{"the worst error", 0, 3, func(x *trial.Trial) *int { return &x.Worst }},
		{"the liquid of the first test", 0, 1, func(x *trial.Trial) *int { return &x.Tests[0].Liquid }}, {"the liquid of the last test", 0, 1, func(x *trial.Trial) *int { return &x.Tests[1].Liquid }},
		{"the load of the first test", 0, 2, func(x *trial.Trial) *int { return &x.Tests[0].Load }}, {"the load of the last test", 0, 2, func(x *trial.Trial) *int { return &x.Tests[1].Load }},
		{"what the first test has seen", -1, 10, func(x *trial.Trial) *int { return &x.Tests[0].Seen }}, {"what the last test has seen", -1, 10, func(x *trial.Trial) *int { return &x.Tests[1].Seen }},
		{"the second part", 1, 10, func(x *trial.Trial) *int { return &x.Parts[1] }}, {"the first part", 0, 0, func(x *trial.Trial) *int { return &x.Parts[0] }},
	} {
		for _, n := range list(lowest, -3, -2, -1, 0, 1, 2, 3, 4, 9, 10, 11, huge) {
			want := api.ErrArg
			if in(n, to(x.low, x.high)) {
				want = api.OK
			}
			hasError(t, x.name, changed(func(y *trial.Trial) { *x.of(y) = n }), want)
		}
	}
	ends := list(lowest, -1, 0, 1, 40, 41, 42, 960, 1000, 1001, 1040, 1041, 1959, 1960, 1999, 2000, 2001, huge)
	for liquid := range 2 {
		for _, low := range ends {
			for _, high := range ends {
				want := api.ErrArg
				if 1 <= low && low <= high && high <= 2000 && high-low <= 40 {
					want = api.OK
				}
				hasError(t, "a liquid", changed(func(x *trial.Trial) { x.Liquids[liquid] = to(low, high) }), want)
			}
		}
	}
}

// hasError checks that each call has the error of its trial, even if other arguments are invalid too.
func hasError(t *testing.T, name string, x trial.Trial, want api.Errno) {
	if e := trial.CheckTrial(x); e != want {
		t.Errorf("%s: CheckTrial of %v: %v", name, x, e)
	}
	if want == api.OK {
		if _, e := trial.Leave(x); e != api.OK {
			t.Errorf("%s: Leave of %v: %v", name, x, e)
		}
		return
	}
	errors, e := trial.Errors(x)
	densities, e2 := trial.Densities(x)
	verdict, e3 := trial.Judge(x, 1)
	verdict2, e4 := trial.Judge(x, -1)
	lines, e5 := trial.Certificate(x)
	r, e6 := trial.Correct(x, 0, 5)
	r2, e7 := trial.Correct(x, -1, huge)
	l, e8 := trial.Fewest(x, 1, offers(offer(0, 1000)))
	l2, e9 := trial.Fewest(x, -1, slices.Repeat(offers(offer(9, 0)), 5))
	u, e10 := trial.Show(x)
	out, e11 := trial.Leave(x)
	shown, e12 := trial.Shown(x, make([]int, len(x.Parts)), 0, 1000)
	shown2, e13 := trial.Shown(x, list(huge), -1, 0)
	for i, e := range []api.Errno{e, e2, e3, e4, e5, e6, e7, e8, e9, e10, e11, e12, e13} {
		if e != want {
			t.Errorf("%s: call %d with %v: %v", name, i, x, e)
		}
	}
	numbers := verdict + verdict2 + r.Lo + r.Hi + r2.Lo + r2.Hi
	if numbers != 0 || len(errors)+len(densities)+len(lines)+len(l)+len(l2)+len(u.Errors)+len(u.Densities)+len(out)+len(shown)+len(shown2) != 0 {
		t.Errorf("%s: results beside an error, of %v", name, x)
	}
	if trial.ProveTruth(x, truth(list(0, 1), 1000, 920)) || trial.ProveTruth(x, trial.Truth{}) {
		t.Errorf("%s: a proof about %v", name, x)
	}
}

// TestP9_1WrongNumbers has errors, loads and densities that there are not.
func TestP9_1WrongNumbers(t *testing.T) {
	for _, x := range []trial.Trial{example(), example(test(0, 0, 8))} {
		for _, errors := range rows(nil, list(), list(0), list(0, 0, 0), list(3, 0), list(0, 3), list(-3, 0), list(0, -3), list(huge, 0), list(0, lowest), list(huge, lowest)) {
			if l, e := trial.Shown(x, errors, 0, 1000); len(l) != 0 || e != api.ErrRange {
				t.Errorf("Shown by %v: %v, %v", errors, l, e)
			}
		}
		for _, load := range list(lowest, -2, -1, 0, 1, 2, 3, huge) {
			for _, density := range list(lowest, -1, 0, 1, 1000, 1999, 2000, 2001, huge) {
				want := api.ErrRange
				if in(load, to(0, 2)) && in(density, to(1, 2000)) {
					want = api.OK
				}
				if l, e := trial.Shown(x, list(0, 1), load, density); e != want || (e == api.OK) != (len(l) > 0) {
					t.Errorf("Shown of %d, %d: %v, %v", load, density, l, e)
				}
			}
		}
	}
}

// TestP9_3Tolerances has tolerances below 0, which come before a trial without a truth, and great ones.
func TestP9_3Tolerances(t *testing.T) {
	for _, n := range list(lowest, lowest+1, -2, -1) {
		for _, x := range []trial.Trial{example(), example(test(0, 0, 8))} {
			if verdict, e := trial.Judge(x, n); verdict != 0 || e != api.ErrRange {
				t.Errorf("Judge with %d: %d, %v", n, verdict, e)
			}
			// They come before offers that are too many, or of nothing.
			for _, l := range [][]trial.Offer{nil, offers(offer(0, 1000)), offers(offer(9, 0)), make([]trial.Offer, 5)} {
				if out, e := trial.Fewest(x, n, l); len(out) != 0 || e != api.ErrRange {
					t.Errorf("Fewest with %d, %v: %v, %v", n, l, out, e)
				}
			}
		}
	}
	for _, n := range list(2, 3, 4, 100, huge-1, huge) {
		if verdict, e := trial.Judge(example(), n); verdict != trial.Certified || e != api.OK {
			t.Errorf("Judge with %d: %d, %v", n, verdict, e)
		}
		if out, e := trial.Fewest(example(), n, nil); len(out) != 0 || e != api.OK {
			t.Errorf("Fewest with %d: %v, %v", n, out, e)
		}
	}
}

// TestP9_4WrongNumbers has loads and divisions that there are not, which come before a trial without a truth.
func TestP9_4WrongNumbers(t *testing.T) {
	for _, x := range []trial.Trial{example(), example(test(0, 0, 8))} {
		_, f := trial.Errors(x)
		for _, load := range list(lowest, -2, -1, 0, 1, 2, 3, huge) {
			for _, division := range list(lowest, -2, -1, 0, 1, 9, 10, 11, huge) {
				want := f
				if !in(load, to(0, 2)) || !in(division, to(0, 10)) {
					want = api.ErrRange
				}
				r, e := trial.Correct(x, load, division)
				if e != want || (e == api.OK) != (r != to(0, 0)) {
					t.Errorf("Correct of %v, %d, %d: %v, %v", x, load, division, r, e)
				}
			}
		}
	}
}

// TestP9_5WrongOffers has too many offers, and those of no load, or no density; both come before a trial without a truth.
func TestP9_5WrongOffers(t *testing.T) {
	good := offer(0, 1000)
	for _, x := range []trial.Trial{example(), example(test(0, 0, 8))} {
		for _, bad := range offers(offer(-1, 1000), offer(3, 1000), offer(lowest, 1000), offer(huge, 1000), offer(0, 0), offer(0, -1), offer(0, 2001), offer(0, lowest), offer(0, huge), offer(3, 2001)) {
			for _, l := range [][]trial.Offer{offers(bad), offers(bad, good), offers(good, bad), offers(good, good, good, bad)} {
				if out, e := trial.Fewest(x, 1, l); len(out) != 0 || e != api.ErrRange {
					t.Errorf("Fewest of %v: %v, %v", l, out, e)
				}
			}
			if out, e := trial.Fewest(x, 1, slices.Repeat(offers(bad), 5)); len(out) != 0 || e != api.ErrLimit {
				t.Errorf("Fewest of %v, five times: %v, %v", bad, out, e)
			}
		}
		for count := range 8 {
			_, want := trial.Errors(x)
			if count > 4 {
				want = api.ErrLimit
			}
			if out, e := trial.Fewest(x, 2, slices.Repeat(offers(good), count)); len(out) != 0 || e != want {
				t.Errorf("Fewest of %d: %v, %v", count, out, e)
			}
		}
	}
}

// TestP9_6WrongTruths has truths with numbers that there are not, or not as many as there must be.
func TestP9_6WrongTruths(t *testing.T) {
	if !trial.ProveTruth(example(), truth(list(0, 1), 1000, 920)) {
		t.Fatalf("no proof")
	}
	for _, u := range []trial.Truth{
		{}, truth(list(0, 1)), truth(nil, 1000, 920), truth(list(0), 1000, 920), truth(list(1), 1000, 920), truth(list(0, 1, 0), 1000, 920), truth(list(0, 1), 1000), truth(list(0, 1), 1000, 920, 1000),
		truth(list(-3, 1), 1000, 920), truth(list(3, 1), 1000, 920), truth(list(huge, 1), 1000, 920), truth(list(lowest, 1), 1000, 920), truth(list(0, 3), 1000, 920), truth(list(0, huge), 1000, 920),
		truth(list(0, 1), 999, 920), truth(list(0, 1), 1001, 920), truth(list(0, 1), 1000, 914), truth(list(0, 1), 1000, 926), truth(list(0, 1), lowest, 920), truth(list(0, 1), 1000, huge), truth(list(0, 1), 920, 1000),
		// These have all the numbers, but a test is not right.
		truth(list(0, 0), 1000, 920), truth(list(0, 2), 1000, 920), truth(list(1, 0), 1000, 920),
	} {
		if trial.ProveTruth(example(), u) {
			t.Errorf("ProveTruth of %v", u)
		}
	}
	// A liquid without tests must have a density of its range, too.
	idle := single(1000, 1010)
	for density := 998; density < 1013; density++ {
		if trial.ProveTruth(idle, truth(list(0), density)) != in(density, to(1000, 1010)) {
			t.Errorf("ProveTruth of the density %d", density)
		}
	}
}
