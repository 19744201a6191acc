package wash_test

import (
	"math"
	"slices"
	"testing"

	"saccharum/api"
	"saccharum/wash"
)

const lowest, huge = math.MinInt, math.MaxInt

func TestP7_1CheckPeriod(t *testing.T) {
	for _, x := range []struct {
		of   map[string]wash.Period
		want api.Errno
	}{{tooMuch(), api.ErrLimit}, {goodPeriods(), api.OK}, {wrongPeriods(), api.ErrArg}} {
		for name, p := range x.of {
			hasError(t, name, p, x.want)
		}
	}
	for _, p := range slices.Concat(smallPeriods(), widePeriods(), tight()) {
		hasError(t, "one of many", p, api.OK)
	}
}

// tooMuch are periods that have too much.
func tooMuch() map[string]wash.Period {
	bad, worse := back(-1, 1001, 121, 5, huge, lowest, -9, 999), liquor(301, -1, huge, lowest)
	long := list(0, 1, 2, 3, 4, 5, 6, 7, 8, 9, 10, 11, 12)
	return map[string]wash.Period{
		"thirteen losses":                  changed(func(p *wash.Period) { p.Losses = long }),
		"thirteen losses alone":            {Losses: long},
		"thirteen losses that do not rise": changed(func(p *wash.Period) { p.Losses = make([]int, 13) }),
		"thirteen losses, and bad backs":   {Losses: long, Backs: backs(bad)},
		"thirteen losses, and four backs":  {Losses: long, Backs: make([]wash.Back, 4)},
		"a hundred losses":                 {Losses: make([]int, 100)},
		"four backs":                       changed(func(p *wash.Period) { p.Backs = append(p.Backs, p.Backs...) }),
		"four low wines":                   changed(func(p *wash.Period) { p.Low = make([]wash.Liquor, 4) }),
		"four spirits":                     changed(func(p *wash.Period) { p.Spirits = make([]wash.Liquor, 4) }),
		"four backs, and nothing else":     {Losses: list(0, 1), Backs: make([]wash.Back, 4)},
		"four low wines, and nothing else": {Losses: list(0, 1), Low: make([]wash.Liquor, 4)},
		"four spirits, and nothing else":   {Losses: list(0, 1), Spirits: make([]wash.Liquor, 4)},
		"four bad backs":                   changed(func(p *wash.Period) { p.Backs = slices.Repeat(backs(bad), 4) }),
		"four bad low wines":               changed(func(p *wash.Period) { p.Low = slices.Repeat(liquors(worse), 4) }),
		"four bad spirits":                 changed(func(p *wash.Period) { p.Spirits = slices.Repeat(liquors(worse), 4) }),
		"four spirits, and a bad back":     changed(func(p *wash.Period) { p.Backs[0], p.Spirits = bad, make([]wash.Liquor, 4) }),
		"four low wines, and a bad spirit": changed(func(p *wash.Period) { p.Spirits[0], p.Low = worse, make([]wash.Liquor, 4) }),
		"four backs, and a bad low wine":   changed(func(p *wash.Period) { p.Low[0], p.Backs = worse, make([]wash.Back, 4) }),
		"a hundred spirits":                changed(func(p *wash.Period) { p.Spirits = make([]wash.Liquor, 100) }),
	}
}

// goodPeriods are valid.
func goodPeriods() map[string]wash.Period {
	return map[string]wash.Period{
		"the example":           example(),
		"no entries":            {Losses: list(0, 1)},
		"empty lists":           {Losses: list(0, 1), Backs: []wash.Back{}, Low: []wash.Liquor{}, Spirits: []wash.Liquor{}},
		"entries of nothing":    {Losses: list(0, 120), Backs: make([]wash.Back, 3), Low: make([]wash.Liquor, 3), Spirits: make([]wash.Liquor, 3)},
		"the most losses":       changed(func(p *wash.Period) { p.Losses = list(0, 1, 2, 3, 4, 5, 6, 7, 8, 9, 10, 120) }),
		"the most of all":       {Losses: list(0, 120), Backs: slices.Repeat(backs(back(992, 1000, 112, 120, 112, 120, 2, 10)), 3), Low: slices.Repeat(liquors(liquor(292, 300, 192, 200)), 3), Spirits: slices.Repeat(liquors(liquor(292, 300, 192, 200)), 3)},
		"a back that is wrong":  changed(func(p *wash.Period) { p.Backs[1].Before = to(16, 17) }),
		"backs alone":           changed(func(p *wash.Period) { p.Low, p.Spirits = nil, nil }),
		"spirits alone":         changed(func(p *wash.Period) { p.Backs, p.Low = nil, nil }),
		"an After above Before": changed(func(p *wash.Period) { p.Backs[0].After = to(50, 50) }),
	}
}

// wrongPeriods are not valid.
func wrongPeriods() map[string]wash.Period {
	losses := func(l ...int) wash.Period {
		return changed(func(p *wash.Period) { p.Losses = l })
	}
	noLosses := func(change func(p *wash.Period)) wash.Period {
		return changed(func(p *wash.Period) {
			p.Losses = nil
			change(p)
		})
	}
	return map[string]wash.Period{
		"nothing": {}, "no losses": losses(), "one loss": losses(0), "a loss of no spirit": losses(1, 4, 9, 14), "a loss below 0": losses(-1, 4, 9, 14), "losses that do not rise": losses(0, 4, 4, 14), "losses that fall": losses(0, 4, 3, 14), "a loss of 121": losses(0, 4, 9, 121), "a huge loss": losses(0, 4, 9, huge), "the lowest loss": losses(lowest, 4, 9, 14),
		// The losses come before anything else, even before a number of entries.
		"no losses, and four backs":     noLosses(func(p *wash.Period) { p.Backs = make([]wash.Back, 4) }),
		"no losses, and four low wines": noLosses(func(p *wash.Period) { p.Low = make([]wash.Liquor, 4) }),
		"no losses, and four spirits":   noLosses(func(p *wash.Period) { p.Spirits = make([]wash.Liquor, 4) }),
		"no losses, and a bad back":     noLosses(func(p *wash.Period) { p.Backs[0].Gallons = to(5, 4) }),
		"a bad first spirit":            changed(func(p *wash.Period) { p.Spirits = liquors(of(5, 4), of(4, 4)) }),
		"a bad last spirit":             changed(func(p *wash.Period) { p.Spirits = liquors(of(4, 4), of(4, 4), of(5, 4)) }),
		"a bad last low wine":           changed(func(p *wash.Period) { p.Low = liquors(of(4, 4), of(4, 4), of(5, 4)) }),
		"a bad last back":               changed(func(p *wash.Period) { p.Backs = append(p.Backs, back(1, 0, 5, 5, 5, 5, 5, 5)) }),
		"a spirit of one loss":          changed(func(p *wash.Period) { p.Losses = list(0, 1) }),
	}
}

// TestP7_1Ranges has the valid and the invalid ranges of a period.
func TestP7_1Ranges(t *testing.T) {
	for _, x := range []struct {
		name string
		most int
		of   func(p *wash.Period) *wash.Range
	}{
		{"gallons of the first back", 1000, func(p *wash.Period) *wash.Range { return &p.Backs[0].Gallons }}, {"gallons of a back", 1000, func(p *wash.Period) *wash.Range { return &p.Backs[1].Gallons }},
		{"before of the first back", 120, func(p *wash.Period) *wash.Range { return &p.Backs[0].Before }}, {"before of a back", 120, func(p *wash.Period) *wash.Range { return &p.Backs[1].Before }},
		{"after of the first back", 120, func(p *wash.Period) *wash.Range { return &p.Backs[0].After }}, {"after of a back", 120, func(p *wash.Period) *wash.Range { return &p.Backs[1].After }},
		{"spirit of the first back", 30, func(p *wash.Period) *wash.Range { return &p.Backs[0].Spirit }}, {"spirit of a back", 30, func(p *wash.Period) *wash.Range { return &p.Backs[1].Spirit }},
		{"gallons of low wines", 300, func(p *wash.Period) *wash.Range { return &p.Low[0].Gallons }}, {"strength of low wines", 200, func(p *wash.Period) *wash.Range { return &p.Low[0].Strength }},
		{"gallons of spirits", 300, func(p *wash.Period) *wash.Range { return &p.Spirits[0].Gallons }}, {"strength of spirits", 200, func(p *wash.Period) *wash.Range { return &p.Spirits[0].Strength }},
	} {
		m := x.most
		good := []wash.Range{to(0, 0), to(0, 8), to(1, 9), to(7, 7), to(m, m), to(m-1, m), to(m-8, m), to(m-9, m-1)}
		wrong := []wash.Range{
			to(-1, -1), to(-1, 0), to(-1, 7), to(-8, 0), to(m+1, m+1), to(m, m+1), to(m-7, m+1), to(m, m+8), to(0, 9), to(m-9, m), to(5, 14), to(0, m), to(-1, m+1), to(1, 0), to(m, m-1), to(9, 7), to(m, 0),
			to(lowest, huge), to(huge, lowest), to(lowest, lowest), to(huge, huge), to(3, huge), to(lowest, 3), to(3, lowest), to(huge, 3), to(huge-1, huge), to(lowest, lowest+1),
		}
		for _, r := range good {
			hasError(t, x.name, changed(func(p *wash.Period) { *x.of(p) = r }), api.OK)
		}
		for _, r := range wrong {
			hasError(t, x.name, changed(func(p *wash.Period) { *x.of(p) = r }), api.ErrArg)
		}
	}
	// How much spirit there can be is as the losses have it.
	for count := 2; count <= api.MaxWortLosses; count++ {
		p := simple(backs(lost(5, 5)), nil, nil)
		p.Losses = p.Losses[:count]
		p.Backs[0].Spirit = to(10*(count-1), 10*(count-1))
		hasError(t, "the most spirit", p, api.OK)
		p.Backs[0].Spirit.Hi++
		hasError(t, "more spirit", p, api.ErrArg)
	}
}

// hasError checks that each call has the error of its period, even if other arguments are invalid too.
func hasError(t *testing.T, name string, p wash.Period, want api.Errno) {
	if e := wash.CheckPeriod(p); e != want {
		t.Errorf("%s: CheckPeriod of %v: %v", name, p, e)
	}
	if want == api.OK {
		if _, e := wash.Leave(p); e != api.OK {
			t.Errorf("%s: Leave of %v: %v", name, p, e)
		}
		return
	}
	l, e := wash.Yields(p, 0)
	m, f := wash.Yields(p, -1)
	a, g := wash.Play(p, shown())
	b, h := wash.Play(p, wash.Truth{})
	w, n, s, i := wash.Bounds(p)
	c, j := wash.Charge(p)
	d, k := wash.Missing(p)
	u, q := wash.Unexplained(p)
	v, r := wash.Honest(p)
	x, y := wash.Show(p)
	out, z := wash.Leave(p)
	for _, e := range []api.Errno{e, f, g, h, i, j, k, q, r, y, z} {
		if e != want {
			t.Errorf("%s: a call with %v: %v", name, p, e)
		}
	}
	none := wash.Range{}
	if len(l)+len(m)+len(out)+len(x.Backs)+len(x.Low)+len(x.Spirits)+v != 0 || a != account(0, 0, 0) || b != a || w != none || n != none || s != none || c != none || d != none || u != none {
		t.Errorf("%s: results beside an error, of %v", name, p)
	}
	if wash.ProveTruth(p, shown(), false) || wash.ProveTruth(p, shown(), true) || wash.ProveTruth(p, wash.Truth{}, false) {
		t.Errorf("%s: a proof about %v", name, p)
	}
}

// TestP7_2WrongTruths has truths of which a number is not of its range, or which have not as many.
func TestP7_2WrongTruths(t *testing.T) {
	isWrong := func(p wash.Period, u wash.Truth) {
		if a, e := wash.Play(p, u); a != account(0, 0, 0) || e != api.ErrRange || wash.ProveTruth(p, u, false) || wash.ProveTruth(p, u, true) {
			t.Errorf("Play of %v, %v: %v, %v; or a proof", p, u, a, e)
		}
	}
	wide := changed(func(p *wash.Period) {
		p.Backs[0] = back(498, 502, 10, 18, 9, 11, 13, 17)
		p.Low[0].Strength = to(38, 42)
	})
	good := shown()
	if _, e := wash.Play(wide, good); e != api.OK {
		t.Fatalf("Play of %v, %v: %v", wide, good, e)
	}
	low, spirits := proofs(60, 40), proofs(20, 112)
	for _, l := range [][]wash.Wash{
		nil, good.Backs[:1], good.Backs[1:], append(slices.Clone(good.Backs), good.Backs[1]),
		washes(497, 10, 15, 1000, 6, 20), washes(503, 10, 15, 1000, 6, 20), washes(500, 8, 15, 1000, 6, 20), washes(500, 12, 15, 1000, 6, 20), washes(500, 10, 12, 1000, 6, 20), washes(500, 10, 18, 1000, 6, 20), washes(lowest, 10, 15, 1000, 6, 20), washes(500, huge, 15, 1000, 6, 20), washes(500, 10, huge, 1000, 6, 20), washes(500, 10, lowest, 1000, 6, 20),
		washes(500, 10, 15, 999, 6, 20), washes(500, 10, 15, 1001, 6, 20), washes(500, 10, 15, 1000, 7, 20), washes(500, 10, 15, 1000, 4, 20), washes(500, 10, 15, 1000, 6, 19), washes(500, 10, 15, 1000, 6, 21), washes(1000, 6, 20, 500, 10, 15),
	} {
		isWrong(wide, truth(l, low, spirits))
	}
	for _, l := range [][]wash.Proof{nil, proofs(60, 40, 60, 40), proofs(59, 40), proofs(63, 40), proofs(60, 37), proofs(60, 43), proofs(lowest, 40), proofs(60, huge), proofs(20, 112)} {
		isWrong(wide, truth(good.Backs, l, spirits))
	}
	for _, l := range [][]wash.Proof{nil, proofs(20, 112, 20, 112), proofs(19, 112), proofs(22, 112), proofs(20, 111), proofs(20, 121), proofs(huge, 112), proofs(20, lowest), proofs(60, 40)} {
		isWrong(wide, truth(good.Backs, low, l))
	}
	isWrong(wide, wash.Truth{})
	isWrong(wide, truth(good.Backs, proofs(60, 40, 20, 112), nil))
	isWrong(wide, truth(good.Backs, nil, proofs(60, 40, 20, 112)))
	isWrong(wide, truth(good.Backs, spirits, low))
	isWrong(wash.Period{Losses: list(0, 1)}, truth(washes(0, 0, 0), nil, nil))
	isWrong(wash.Period{Losses: list(0, 1)}, truth(nil, proofs(0, 0), nil))
	isWrong(wash.Period{Losses: list(0, 1)}, truth(nil, nil, proofs(0, 0)))
	// A number that is not of its range comes before a gravity before that is not of its.
	isWrong(wide, truth(washes(500, 10, 15, 1000, 5, 20), low, proofs(20, 111)))
	isWrong(wide, truth(washes(500, 10, 15, 1000, 5, 20), proofs(60, 40, 60, 40), spirits))
	isWrong(wide, truth(washes(500, 10, 15, 1000, 5, 20, 1000, 6, 20), low, spirits))
	// Gravities before can be anything, if they are of their ranges.
	for before := range 9 {
		p := changed(func(p *wash.Period) { p.Backs[0].Before = to(before+9, before+17) })
		if _, e := wash.Play(p, good); e != api.OK {
			t.Errorf("Play of %v, %v: %v", p, good, e)
		}
	}
}
