package wash_test

import (
	"slices"
	"testing"

	"saccharum/api"
	"saccharum/wash"
)

func TestP7_1YieldsExamples(t *testing.T) {
	wrong := changed(func(p *wash.Period) { p.Backs[1].Before = to(16, 17) })
	most := wash.Period{Losses: list(0, 120), Backs: backs(back(1000, 1000, 120, 120, 0, 0, 10, 10)), Low: liquors(liquor(300, 300, 200, 200))}
	steep := func(l ...int) wash.Period { return wash.Period{Losses: list(0, 5, 20), Backs: backs(back(l...))} }
	for _, x := range []struct {
		p     wash.Period
		entry int
		want  []int
	}{
		{example(), 0, list(7)}, {example(), 1, list(18)}, {example(), 2, list(24)}, {example(), 3, list(22, 23, 24, 25)},
		{wrong, 0, list(7)}, {wrong, 2, list(24)}, {wrong, 3, list(22, 23, 24, 25)}, {most, 0, list(240)}, {most, 1, list(600)},
		{simple(backs(lost(3, 9)), nil, nil), 0, list(3, 4, 5, 6, 7, 8, 9)}, {simple(nil, liquors(of(3, 5)), nil), 0, list(3, 4, 5)}, {simple(nil, nil, liquors(of(0, 3))), 0, list(0, 1, 2, 3)},
		{simple(nil, liquors(of(1, 1), of(2, 2)), liquors(of(3, 3), of(4, 4), of(5, 5))), 1, list(2)}, {simple(nil, liquors(of(1, 1), of(2, 2)), liquors(of(3, 3), of(4, 4), of(5, 5))), 2, list(3)}, {simple(nil, liquors(of(1, 1), of(2, 2)), liquors(of(3, 3), of(4, 4), of(5, 5))), 4, list(5)}, {simple(backs(lost(7, 7)), nil, liquors(of(3, 3))), 1, list(3)},
		{simple(nil, liquors(liquor(1, 1, 99, 101)), nil), 0, list(0, 1)}, {simple(nil, liquors(liquor(0, 8, 0, 8)), nil), 0, list(0)}, {simple(nil, liquors(liquor(3, 3, 33, 34)), nil), 0, list(0, 1)}, {simple(nil, liquors(liquor(10, 11, 192, 200)), nil), 0, list(19, 20, 21, 22)},
		{simple(backs(back(49, 51, 10, 10, 0, 0, 10, 10)), nil, nil), 0, list(0, 1)}, {simple(backs(back(499, 499, 10, 10, 0, 0, 10, 10)), nil, nil), 0, list(9)}, {simple(backs(back(0, 0, 10, 10, 0, 0, 10, 10)), nil, nil), 0, list(0)}, {simple(backs(back(500, 500, 10, 12, 5, 8, 0, 8)), nil, nil), 0, list(2, 3, 4, 5, 6, 7)},
		// 0, 1, 1, 2, 2, 3, 3, 4 and 4 degrees are lost for 0 to 8 tenths, a half up; and 4, 5, 5, 7, 8, 10, 11, 13 and 14 for 8 to 16.
		{steep(500, 500, 0, 8, 0, 0, 0, 8), 0, list(0, 1, 2, 3, 4)}, {steep(500, 500, 4, 12, 0, 0, 8, 16), 0, list(4, 5, 7, 8, 10, 11)}, {steep(500, 500, 4, 12, 1, 1, 8, 16), 0, list(4, 5, 7, 8, 10, 11)}, {steep(100, 108, 8, 8, 0, 8, 0, 8), 0, list(0)}, {steep(125, 133, 8, 8, 0, 8, 0, 8), 0, list(0, 1)}, {steep(0, 8, 10, 18, 0, 8, 10, 18), 0, list(0)},
	} {
		if l, e := wash.Yields(x.p, x.entry); !slices.Equal(l, x.want) || e != api.OK {
			t.Errorf("Yields of %v, %d: %v, %v", x.p, x.entry, l, e)
		}
	}
	for _, x := range []struct {
		p     wash.Period
		entry int
		want  api.Errno
	}{
		{example(), -1, api.ErrRange}, {example(), 4, api.ErrRange}, {example(), huge, api.ErrRange}, {example(), lowest, api.ErrRange}, {simple(nil, nil, nil), 0, api.ErrRange}, {wrong, 4, api.ErrRange}, {wrong, 1, api.ErrFalse},
		{simple(backs(back(500, 500, 9, 9, 0, 0, 10, 10)), nil, nil), 0, api.ErrFalse}, {simple(backs(back(500, 500, 11, 11, 0, 0, 10, 10)), nil, nil), 0, api.ErrFalse}, {simple(backs(back(500, 500, 110, 118, 120, 120, 0, 8)), nil, nil), 0, api.ErrFalse}, {simple(backs(back(0, 0, 120, 120, 120, 120, 1, 1)), nil, nil), 0, api.ErrFalse},
	} {
		if l, e := wash.Yields(x.p, x.entry); len(l) != 0 || e != x.want {
			t.Errorf("Yields of %v, %d: %v, %v", x.p, x.entry, l, e)
		}
	}
}

func TestP7_1Yields(t *testing.T) {
	several, none := 0, 0
	for _, p := range slices.Concat(smallPeriods(), widePeriods(), tight()) {
		for entry, want := range yieldsOf(p) {
			f := api.OK
			if len(want) == 0 {
				f = api.ErrFalse
				none++
			}
			if len(want) > 1 {
				several++
			}
			if l, e := wash.Yields(p, entry); !slices.Equal(l, want) || e != f {
				t.Fatalf("Yields of %v, %d: %v, %v, not %v, %v", p, entry, l, e, want, f)
			}
		}
		if l, e := wash.Yields(p, entries(p)); len(l) != 0 || e != api.ErrRange {
			t.Fatalf("Yields of %v, %d: %v, %v", p, entries(p), l, e)
		}
	}
	if several < 2000 || none < 200 {
		t.Errorf("only %d entries with several yields, and %d without", several, none)
	}
}

func TestP7_2PlayExamples(t *testing.T) {
	one := simple(backs(back(492, 500, 10, 10, 0, 0, 10, 10)), nil, nil)
	full := wash.Period{Losses: list(0, 120), Backs: slices.Repeat(backs(back(1000, 1000, 120, 120, 0, 0, 10, 10)), 3), Low: slices.Repeat(liquors(liquor(300, 300, 200, 200)), 3), Spirits: slices.Repeat(liquors(liquor(299, 300, 199, 200)), 3)}
	for _, x := range []struct {
		p    wash.Period
		t    wash.Truth
		want wash.Account
	}{
		{example(), shown(), account(25, 24, 22)}, {example(), truth(shown().Backs, proofs(62, 40), proofs(21, 120)), account(25, 24, 25)}, {example(), truth(shown().Backs, proofs(62, 40), proofs(21, 118)), account(25, 24, 24)}, {example(), truth(shown().Backs, proofs(61, 40), proofs(20, 115)), account(25, 24, 23)},
		{wash.Period{Losses: list(0, 1)}, wash.Truth{}, account(0, 0, 0)}, {wash.Period{Losses: list(0, 1)}, truth([]wash.Wash{}, []wash.Proof{}, []wash.Proof{}), account(0, 0, 0)}, {one, truth(washes(500, 0, 10), nil, nil), account(10, 0, 0)}, {one, truth(washes(499, 0, 10), nil, nil), account(9, 0, 0)},
		{simple(nil, liquors(liquor(7, 7, 150, 150)), nil), truth(nil, proofs(7, 150), nil), account(0, 10, 0)}, {simple(nil, nil, liquors(liquor(7, 7, 199, 199), liquor(1, 1, 99, 99))), truth(nil, nil, proofs(7, 199, 1, 99)), account(0, 0, 13)},
		// Each yield is rounded down, not their sum.
		{simple(backs(back(499, 499, 1, 1, 0, 0, 1, 1), back(499, 499, 1, 1, 0, 0, 1, 1), back(2, 2, 1, 1, 0, 0, 1, 1)), liquors(of(2, 2), liquor(1, 1, 99, 99), liquor(1, 1, 99, 99)), nil), truth(washes(499, 0, 1, 499, 0, 1, 2, 0, 1), proofs(2, 100, 1, 99, 1, 99), nil), account(0, 2, 0)},
		{full, truth(washes(1000, 0, 10, 1000, 0, 10, 1000, 0, 10), proofs(300, 200, 300, 200, 300, 200), proofs(300, 200, 300, 199, 299, 199)), account(720, 1800, 600+597+595)},
	} {
		if a, e := wash.Play(x.p, x.t); a != x.want || e != api.OK {
			t.Errorf("Play of %v, %v: %v, %v", x.p, x.t, a, e)
		}
	}
	for _, x := range []struct {
		p wash.Period
		l []wash.Wash
	}{
		{example(), washes(500, 10, 15, 1000, 5, 20)}, {changed(func(p *wash.Period) { p.Backs[0].Before = to(18, 20) }), shown().Backs}, {changed(func(p *wash.Period) { p.Backs[0].Before = to(9, 16) }), shown().Backs}, {changed(func(p *wash.Period) { p.Backs[1].Before = to(16, 16) }), shown().Backs}, {changed(func(p *wash.Period) { p.Backs[1].Before = to(6, 14) }), shown().Backs},
	} {
		u := truth(x.l, proofs(60, 40), proofs(20, 112))
		if a, e := wash.Play(x.p, u); a != account(0, 0, 0) || e != api.ErrFalse || wash.ProveTruth(x.p, u, false) || wash.ProveTruth(x.p, u, true) {
			t.Errorf("Play of %v, %v: %v, %v; or a proof", x.p, u, a, e)
		}
	}
}

func TestP7_2Play(t *testing.T) {
	count, others := 0, 0
	eachSmall(func(p wash.Period, l []played) {
		for _, x := range l {
			if a, e := wash.Play(p, x.truth); a != x.accounts || e != api.OK {
				t.Fatalf("Play of %v, %v: %v, %v, not %v", p, x.truth, a, e, x.accounts)
			}
			count++
		}
		// Other numbers of the ranges are no truth, because of a gravity before.
		for i, b := range p.Backs {
			alone, free := wash.Period{Losses: p.Losses, Backs: p.Backs[i : i+1]}, b
			free.Before = to(0, huge)
			right := washesOf(p.Losses, b)
			for _, x := range washesOf(p.Losses, free) {
				want, f := account(x.yield, 0, 0), api.OK
				if !slices.Contains(right, x) {
					want, f = account(0, 0, 0), api.ErrFalse
					others++
				}
				if a, e := wash.Play(alone, truth([]wash.Wash{x.of}, nil, nil)); a != want || e != f {
					t.Fatalf("Play of %v, %v: %v, %v, not %v, %v", alone, x.of, a, e, want, f)
				}
			}
		}
	})
	if count < 45000 || others < 1500 {
		t.Errorf("only %d truths, and %d backs that have none", count, others)
	}
}

// answers are what the calls return of a period, in all its truths.
type answers struct {
	six
	honest int
	e      api.Errno
}

// answersOf are those of the calls, which must have the same error.
func answersOf(t *testing.T, p wash.Period) (x answers) {
	var f, g, h, i api.Errno
	x.wash, x.low, x.spirits, x.e = wash.Bounds(p)
	x.charge, f = wash.Charge(p)
	x.missing, g = wash.Missing(p)
	x.unexplained, h = wash.Unexplained(p)
	x.honest, i = wash.Honest(p)
	for _, e := range []api.Errno{f, g, h, i} {
		if e != x.e {
			t.Fatalf("Bounds, Charge, Missing, Unexplained, Honest of %v: %v, %v, %v, %v, %v", p, x.e, f, g, h, i)
		}
	}
	return x
}

// noAnswers are those of a period without a truth.
func noAnswers() answers { return answers{e: api.ErrFalse} }

// answersIn are those in some truths.
func answersIn(l []wash.Account) answers {
	if len(l) == 0 {
		return noAnswers()
	}
	return answers{six: boundsIn(l), honest: honesty(l)}
}

// theirs reads each two numbers as bounds: of the accounts, the charge, what is missing and what is unexplained.
func theirs(honest int, l ...int) answers {
	b := six{wash: to(l[0], l[1]), low: to(l[2], l[3]), spirits: to(l[4], l[5]), charge: to(l[6], l[7]), missing: to(l[8], l[9]), unexplained: to(l[10], l[11])}
	return answers{six: b, honest: honest}
}

// TestP7_3Examples has the bounds of Bounds, Charge, Missing and Unexplained, and what Honest returns.
func TestP7_3Examples(t *testing.T) {
	ten := func(low, spirits []wash.Liquor) wash.Period { return simple(backs(lost(10, 10)), low, spirits) }
	for _, x := range []struct {
		p    wash.Period
		want answers
	}{
		{example(), theirs(wash.Open, 25, 25, 24, 24, 22, 25, 25, 25, 0, 3, 0, 0)},
		{changed(func(p *wash.Period) { p.Spirits[0].Strength = to(130, 130) }), theirs(wash.Never, 25, 25, 24, 24, 26, 27, 26, 27, 0, 0, 1, 2)},
		{changed(func(p *wash.Period) { p.Spirits[0].Strength = to(110, 118) }), theirs(wash.Always, 25, 25, 24, 24, 22, 24, 25, 25, 1, 3, 0, 0)},
		{changed(func(p *wash.Period) { p.Spirits[0].Strength = to(120, 125) }), theirs(wash.Open, 25, 25, 24, 24, 24, 26, 25, 26, 0, 1, 0, 1)},
		{changed(func(p *wash.Period) { p.Spirits[0] = liquor(25, 25, 100, 100) }), theirs(wash.Never, 25, 25, 24, 24, 25, 25, 25, 25, 0, 0, 0, 0)},
		{changed(func(p *wash.Period) { p.Low[0].Strength = to(42, 42) }), theirs(wash.Open, 25, 25, 25, 26, 22, 25, 25, 26, 0, 4, 0, 0)},
		{wash.Period{Losses: list(0, 1)}, theirs(wash.Always, 0, 0, 0, 0, 0, 0, 0, 0, 0, 0, 0, 0)},
		{ten(nil, nil), theirs(wash.Always, 10, 10, 0, 0, 0, 0, 10, 10, 10, 10, 0, 0)},
		{ten(nil, liquors(of(2, 3))), theirs(wash.Never, 10, 10, 0, 0, 2, 3, 10, 10, 7, 8, 0, 0)},
		{ten(nil, liquors(of(0, 3))), theirs(wash.Open, 10, 10, 0, 0, 0, 3, 10, 10, 7, 10, 0, 0)},
		{ten(liquors(of(10, 10)), liquors(of(10, 10))), theirs(wash.Always, 10, 10, 10, 10, 10, 10, 10, 10, 0, 0, 0, 0)},
		{ten(liquors(of(9, 10)), liquors(of(9, 10))), theirs(wash.Open, 10, 10, 9, 10, 9, 10, 10, 10, 0, 1, 0, 0)},
		{ten(liquors(of(11, 11)), liquors(of(9, 10))), theirs(wash.Never, 10, 10, 11, 11, 9, 10, 11, 11, 1, 2, 0, 0)},
		{ten(liquors(of(10, 11)), liquors(of(9, 10))), theirs(wash.Open, 10, 10, 10, 11, 9, 10, 10, 11, 0, 2, 0, 0)},
		{ten(liquors(of(3, 5), of(4, 8)), liquors(of(9, 12))), theirs(wash.Open, 10, 10, 7, 13, 9, 12, 10, 13, 0, 4, 0, 2)},
		{simple(backs(lost(3, 9), lost(4, 6)), liquors(of(2, 9), of(1, 1), of(0, 1)), liquors(of(4, 4), of(1, 4))), theirs(wash.Open, 7, 15, 3, 11, 5, 8, 7, 15, 0, 10, 0, 1)},
		{simple(nil, liquors(of(5, 7)), nil), theirs(wash.Never, 0, 0, 5, 7, 0, 0, 5, 7, 5, 7, 0, 0)},
		{simple(nil, nil, liquors(of(5, 7))), theirs(wash.Never, 0, 0, 0, 0, 5, 7, 5, 7, 0, 0, 5, 7)},
		{simple(nil, liquors(of(9, 9)), liquors(of(5, 7))), theirs(wash.Never, 0, 0, 9, 9, 5, 7, 9, 9, 2, 4, 5, 7)},
		// Low wines of 18, 20 or 22 are between the wash and the spirits if these have 20 between them.
		{simple(backs(lost(21, 21)), liquors(liquor(9, 11, 200, 200)), liquors(of(19, 19))), theirs(wash.Open, 21, 21, 18, 22, 19, 19, 21, 22, 2, 3, 0, 0)},
		{simple(backs(lost(19, 19)), liquors(liquor(9, 11, 200, 200)), liquors(of(19, 19))), theirs(wash.Never, 19, 19, 18, 22, 19, 19, 19, 22, 0, 3, 0, 0)},
		{simple(backs(lost(20, 21)), liquors(liquor(9, 11, 200, 200)), liquors(of(19, 20))), theirs(wash.Open, 20, 21, 18, 22, 19, 20, 20, 22, 0, 3, 0, 0)},
	} {
		if a := answersOf(t, x.p); a != x.want {
			t.Errorf("Bounds, Charge, Missing, Unexplained, Honest of %v: %v, not %v", x.p, a, x.want)
		}
	}
	for _, p := range truthless() {
		if a := answersOf(t, p); a != noAnswers() {
			t.Errorf("Bounds, Charge, Missing, Unexplained, Honest of %v: %v", p, a)
		}
		if u, e := wash.Show(p); len(u.Backs)+len(u.Low)+len(u.Spirits) != 0 || e != api.ErrFalse {
			t.Errorf("Show of %v: %v, %v", p, u, e)
		}
	}
}

// truthless are periods without a truth. Their accounts would be honest, or not, without the wrong backs.
func truthless() []wash.Period {
	wrong := lost(5, 5)
	wrong.After = to(6, 6)
	return []wash.Period{
		changed(func(p *wash.Period) { p.Backs[1].Before = to(16, 17) }), changed(func(p *wash.Period) { p.Backs[0].Before = to(16, 16) }), changed(func(p *wash.Period) { p.Backs[0].Spirit = to(0, 8) }), changed(func(p *wash.Period) { p.Backs[1].After = to(7, 15) }),
		simple(backs(wrong), nil, nil), simple(backs(lost(9, 9), wrong), nil, liquors(of(9, 9))), simple(backs(wrong, lost(9, 9), lost(9, 9)), liquors(of(9, 9)), liquors(of(9, 9))), simple(backs(wrong, wrong, wrong), nil, nil), simple(backs(back(0, 0, 119, 120, 120, 120, 6, 6)), nil, nil),
	}
}

func TestP7_3Bounds(t *testing.T) {
	honest, rounds := map[int]int{}, 0
	eachPeriod(func(p wash.Period, l []wash.Account) {
		a, want := answersOf(t, p), answersIn(l)
		if a.wash != want.wash || a.low != want.low || a.spirits != want.spirits || a.charge != want.charge || a.e != want.e {
			t.Fatalf("Bounds, Charge of %v: %v, not %v", p, a, want)
		}
		honest[a.honest]++
		rounds++
	})
	if rounds < 700 || honest[wash.Always] < 100 || honest[wash.Never] < 100 || honest[wash.Open] < 100 || honest[0] < 100 {
		t.Errorf("%d periods, honest: %v", rounds, honest)
	}
}

func TestP7_4MissingUnexplained(t *testing.T) {
	some, none := 0, 0
	eachPeriod(func(p wash.Period, l []wash.Account) {
		a, want := answersOf(t, p), answersIn(l)
		if a.missing != want.missing || a.unexplained != want.unexplained || a.e != want.e {
			t.Fatalf("Missing, Unexplained of %v: %v, not %v", p, a, want)
		}
		if a.missing.Lo > 0 || a.unexplained.Lo > 0 {
			some++
		}
		if a.missing.Lo == 0 && a.missing.Hi > 0 && a.unexplained.Lo == 0 && a.unexplained.Hi > 0 {
			none++
		}
	})
	if some < 300 || none < 40 {
		t.Errorf("only %d periods with something missing or unexplained in each truth, and %d with both in some", some, none)
	}
}

// TestP7_5Honest checks what Show returns by the definitions, and by ProveTruth.
func TestP7_5Honest(t *testing.T) {
	found := 0
	eachPeriod(func(p wash.Period, l []wash.Account) {
		want := answersIn(l)
		if v, e := wash.Honest(p); v != want.honest || e != want.e {
			t.Fatalf("Honest of %v: %v, %v, not %v, %v", p, v, e, want.honest, want.e)
		}
		u, e := wash.Show(p)
		if e != api.OK {
			if f := want.e; len(u.Backs)+len(u.Low)+len(u.Spirits) != 0 || f != e && (f != api.OK || e != api.ErrFail || want.honest != wash.Never) {
				t.Fatalf("Show of %v: %v, %v", p, u, e)
			}
			return
		}
		found++
		a, is := playTruth(p, u)
		if !is || !isHonest(a) || want.honest == wash.Never || !wash.ProveTruth(p, u, true) || !wash.ProveTruth(p, u, false) {
			t.Fatalf("Show of %v: %v", p, u)
		}
	})
	if found < 280 {
		t.Errorf("only %d periods with honest accounts", found)
	}
}

// playTruth has the accounts of a truth, and whether it is one of the period.
func playTruth(p wash.Period, u wash.Truth) (a wash.Account, is bool) {
	if len(u.Backs) != len(p.Backs) || len(u.Low) != len(p.Low) || len(u.Spirits) != len(p.Spirits) {
		return a, false
	}
	is = true
	for i, x := range u.Backs {
		l := washesOf(p.Losses, p.Backs[i])
		n := slices.IndexFunc(l, func(y washed) bool { return y.of == x })
		if n < 0 {
			return a, false
		}
		a.Wash += l[n].yield
	}
	of := func(q wash.Liquor, x wash.Proof) int {
		is = is && in(x.Gallons, q.Gallons) && in(x.Strength, q.Strength)
		return wholes(x.Gallons*x.Strength, 100)
	}
	for i, x := range u.Low {
		a.Low += of(p.Low[i], x)
	}
	for i, x := range u.Spirits {
		a.Spirits += of(p.Spirits[i], x)
	}
	return a, is
}

func TestP7_5ProveTruth(t *testing.T) {
	honest, others := 0, 0
	eachSmall(func(p wash.Period, l []played) {
		for _, x := range l {
			if !wash.ProveTruth(p, x.truth, false) || wash.ProveTruth(p, x.truth, true) != isHonest(x.accounts) {
				t.Fatalf("ProveTruth of %v, %v, with the accounts %v", p, x.truth, x.accounts)
			}
			if isHonest(x.accounts) {
				honest++
			} else {
				others++
			}
		}
	})
	if honest < 10000 || others < 10000 {
		t.Errorf("only %d truths with honest accounts, and %d with others", honest, others)
	}
	// The spirits of 25 gallons are more than the low wines, but not than the wash.
	if u := truth(shown().Backs, proofs(62, 40), proofs(21, 120)); !wash.ProveTruth(example(), u, false) || wash.ProveTruth(example(), u, true) || !wash.ProveTruth(example(), shown(), true) {
		t.Errorf("ProveTruth of %v, or of %v", u, shown())
	}
}

// TestP7_5Show has periods that are honest with a few truths alone.
func TestP7_5Show(t *testing.T) {
	fine := simple(backs(lost(7, 9), lost(7, 9), lost(7, 9)), liquors(of(7, 9), of(7, 9), of(7, 9)), liquors(of(7, 9), of(7, 9), of(7, 9)))
	for low := range 200 {
		p := simple(backs(lost(30, 30), lost(50, 50)), liquors(liquor(28, 36, 100, 108), liquor(low, low, 100, 100)), liquors(of(80, 80)))
		if u, e := wash.Show(p); (e == api.OK) != (low >= 42 && low <= 52) || (e == api.OK) != wash.ProveTruth(p, u, true) || e != api.OK && e != api.ErrFail {
			t.Errorf("Show of %v: %v, %v", p, u, e)
		}
	}
	// Low wines of each of these sums are there with some gallons and strengths, but not with the least gallons, or the least strength.
	for n := 200; n <= 217; n++ {
		p := simple(backs(lost(n-110, n-110), lost(110, 110)), liquors(liquor(200, 201, 100, 108)), liquors(of(n, n)))
		if u, e := wash.Show(p); e != api.OK || !wash.ProveTruth(p, u, true) {
			t.Errorf("Show of %v: %v, %v", p, u, e)
		}
	}
	for less := range 9 {
		for more := 8; more < 17; more++ {
			p := fine
			p.Backs = backs(lost(less, less), lost(7, 9), lost(7, 9))
			p.Spirits = liquors(of(7, 9), of(more, more), of(7, 9))
			u, e := wash.Show(p)
			if can := max(21, 14+more) <= min(27, 18+less); (e == api.OK) != can || can != wash.ProveTruth(p, u, true) {
				t.Errorf("Show of %v: %v, %v", p, u, e)
			}
		}
	}
}

func TestP7_6LeaveExamples(t *testing.T) {
	strong := changed(func(p *wash.Period) { p.Spirits[0].Strength = to(130, 130) })
	ten := func(low, spirits []wash.Liquor) wash.Period { return simple(backs(lost(10, 10)), low, spirits) }
	wrong := lost(5, 5)
	wrong.After = to(6, 6)
	most, three := liquor(300, 300, 200, 200), func(q wash.Liquor) []wash.Liquor { return slices.Repeat(liquors(q), 3) }
	for _, x := range []struct {
		p    wash.Period
		want []int
	}{
		{example(), nil}, {strong, list(3)}, {changed(func(p *wash.Period) { p.Spirits[0].Strength = to(110, 118) }), nil}, {wash.Period{Losses: list(0, 1)}, nil}, {changed(func(p *wash.Period) { p.Backs[1].Before = to(16, 17) }), list(1)}, {changed(func(p *wash.Period) { p.Backs[0].Before, p.Spirits[0].Strength = to(16, 16), to(130, 130) }), list(0, 2)},
		{ten(nil, liquors(of(2, 3))), list(1)}, {ten(liquors(of(1, 1)), liquors(of(2, 3))), list(1)}, {ten(liquors(of(12, 12)), liquors(of(2, 3))), list(0)}, {ten(liquors(of(12, 12), of(1, 1)), liquors(of(2, 3))), list(0)}, {ten(liquors(of(1, 1), of(12, 12)), liquors(of(2, 3))), list(0)}, {simple(backs(wrong), liquors(of(12, 12)), liquors(of(12, 12))), list(0)},
		// A smaller first entry counts, if as many have to be left out.
		{ten(liquors(of(3, 3)), liquors(of(4, 4))), list(1)}, {ten(liquors(of(12, 12)), liquors(of(12, 12))), list(0)}, {ten(liquors(of(9, 9)), liquors(of(12, 12))), list(2)}, {ten(liquors(of(9, 9)), liquors(of(5, 5), of(6, 6))), list(2)}, {ten(liquors(of(5, 5), of(4, 4)), liquors(of(5, 5), of(5, 5))), list(1)}, {ten(liquors(of(5, 5), of(6, 6)), liquors(of(5, 5), of(5, 5))), list(0)}, {simple(backs(lost(5, 5), lost(6, 6)), liquors(of(20, 20)), nil), list(0)},
		// What is left out yields 600 at most, also a back, or low wines.
		{ten(liquors(most), liquors(of(7, 7))), list(0)}, {ten(liquors(most, of(10, 10)), liquors(of(7, 7))), list(1)}, {ten(liquors(most, of(11, 11)), liquors(of(7, 7))), list(0, 1)}, {ten(liquors(of(5, 5), most, of(6, 6)), liquors(of(7, 7))), list(0, 2)}, {simple(backs(lost(9, 9)), liquors(of(9, 9), most), liquors(most, of(9, 9))), list(2, 3)}, {simple(backs(lost(8, 8)), liquors(of(9, 9), most), liquors(most, of(9, 9))), list(0, 1, 3)}, {simple(backs(wrong), liquors(of(0, 0)), liquors(most)), list(0, 1)}, {simple(backs(wrong), liquors(of(1, 1)), liquors(most)), list(0, 1)}, {simple(backs(wrong), liquors(of(1, 1)), liquors(most, of(1, 1))), list(0, 2)},
		{simple(backs(lost(0, 0), lost(0, 0)), liquors(most), liquors(most)), list(0)}, {simple(backs(lost(0, 0), lost(0, 0)), liquors(most, of(1, 1)), liquors(most)), list(0, 1)}, {simple(backs(lost(0, 0), lost(0, 0), lost(0, 0)), three(most), three(most)), list(0, 1, 2)},
		// Nothing can make up for wash that there is not.
		{simple(nil, liquors(of(1, 1)), liquors(of(2, 2))), list(0, 1)}, {simple(nil, three(of(1, 1)), three(of(1, 1))), list(0, 1, 2, 3, 4, 5)}, {simple(nil, liquors(of(1, 1), of(0, 0), of(1, 1)), liquors(of(0, 8), of(1, 1))), list(0, 2, 4)}, {simple(backs(lost(0, 0)), three(of(1, 1)), three(of(1, 1))), list(0)}, {simple(backs(wrong, wrong, wrong), three(of(1, 1)), three(of(1, 1))), list(0, 1, 2)}, {simple(nil, nil, three(most)), list(0, 1, 2)}, {simple(nil, three(most), nil), list(0, 1, 2)}, {simple(backs(wrong, wrong, wrong), nil, three(of(1, 1))), list(0, 1, 2, 3, 4, 5)},
	} {
		if l, e := wash.Leave(x.p); !slices.Equal(l, x.want) || e != api.OK {
			t.Errorf("Leave of %v: %v, %v, not %v", x.p, l, e, x.want)
		}
	}
}

func TestP7_6Leave(t *testing.T) {
	sizes := map[int]int{}
	for _, p := range slices.Concat(smallPeriods(), widePeriods(), tight()) {
		want := smallest(p)
		if l, e := wash.Leave(p); !slices.Equal(l, want) || e != api.OK {
			t.Fatalf("Leave of %v: %v, %v, not %v", p, l, e, want)
		}
		sizes[len(want)]++
	}
	if sizes[0] < 300 || sizes[1] < 300 || sizes[2] < 100 || sizes[3] < 50 || sizes[4] < 15 || sizes[5] < 4 {
		t.Errorf("so many sets of each size: %v", sizes)
	}
}

// TestP7_6OneEntry tries all yields of one entry that is left out.
func TestP7_6OneEntry(t *testing.T) {
	count := 0
	for _, p := range tight() {
		for entry := range entries(p) {
			others, kinds := without(p, list(entry))
			is := false
			for _, a := range anyAccounts(others) {
				for y := range 601 {
					is = is || isHonest(account(a.Wash+kinds[0]*y, a.Low+kinds[1]*y, a.Spirits+kinds[2]*y))
				}
			}
			if is != canBeLeftOut(p, list(entry)) {
				t.Fatalf("%v, without %d: %v", p, entry, is)
			}
			if l, e := wash.Leave(p); is && (len(l) > 1 || e != api.OK) {
				t.Fatalf("Leave of %v: %v, %v, not %d", p, l, e, entry)
			}
			if is {
				count++
			}
		}
	}
	if count < 200 {
		t.Errorf("only %d entries", count)
	}
}
