package duty_test

import (
	"slices"
	"testing"

	"saccharum/api"
	"saccharum/duty"
)

func TestP10_1PlayExamples(t *testing.T) {
	twice := duty.Account{Last: 3, Rates: rates(rate(1, 7), rate(2, 0), rate(3, 100)), Entries: entries(charge(3, 2, 2), charge(2, 50, 50), charge(1, 3, 3), charge(0, 9, 9))}
	late := func(interest int, l ...duty.Entry) duty.Account {
		a := plain(3, 0, 0, l...)
		a.Interest = interest
		return a
	}
	most := duty.Account{Last: 11, Interest: 200, Rates: rates(rate(0, 100)), Entries: slices.Repeat(entries(charge(0, 50, 50)), 8)}
	mixed := plain(1, 0, 0, state(1, 15), charge(0, 2, 2), pay(1, 5), state(1, 10), state(0, 20), pay(0, 5))
	for _, x := range []struct {
		a           duty.Account
		truth, want []int
	}{
		{example(), list(40, 0, 10, 20), list(800, 608, 415, 1020, 1031)}, {example(), list(41, 0, 10, 20), list(820, 629, 436, 1041, 1052)}, {example(), list(42, 0, 10, 20), list(840, 649, 456, 1061, 1072)},
		{plain(0, 0, 0), nil, list(0)}, {plain(2, 0, 0), list(), list(0, 0, 0)}, {plain(0, 0, 0, charge(0, 0, 0)), list(0), list(0)},
		// The rate of a day is that of the last Rate whose day it is not before.
		{twice, list(2, 50, 3, 9), list(0, 21, 21, 221)}, {duty.Account{Last: 1, Entries: entries(charge(0, 50, 50), back(1, 50))}, list(50, 50), list(0, 0)},
		// Each interest is rounded up, and a debt of 0, or below it, has none.
		{late(1, charge(0, 1, 1)), list(1), list(10, 11, 12, 13)}, {late(100, charge(0, 10, 10)), list(10), list(100, 101, 103, 105)}, {late(100, charge(0, 20, 20), pay(1, 2)), list(20, 0), list(200, 200, 202, 205)}, {late(100, charge(0, 10, 10), pay(0, 100)), list(10, 0), list(0, 0, 0, 0)}, {late(200, pay(0, 500), charge(2, 50, 50)), list(0, 50), list(-500, -500, 0, 0)}, {late(200, pay(0, 5000)), list(0), list(-5000, -5000, -5000, -5000)}, {late(200, pay(1, 10), charge(3, 5, 5)), list(0, 5), list(0, -10, -10, 40)}, {late(0, charge(0, 10, 10)), list(10), list(100, 100, 100, 100)},
		// Interest comes before the entries of a day, and is that of the debt of the day before.
		{late(100, charge(0, 10, 10), pay(1, 101), charge(1, 1, 1)), list(10, 0, 1), list(100, 10, 11, 12)}, {late(100, charge(3, 50, 50)), list(50), list(0, 0, 0, 500)}, {late(200, charge(1, 50, 50)), list(50), list(0, 500, 510, 521)},
		// Entries happen by their days, and on a day by their numbers.
		{plain(1, 0, 0, back(1, 2), charge(0, 2, 2)), list(2, 2), list(20, 0)}, {mixed, list(0, 2, 0, 0, 0, 0), list(15, 10)}, {plain(0, 0, 0, state(0, 0), charge(0, 3, 3), state(0, 30), back(0, 3), state(0, 0)), list(0, 3, 0, 3, 0), list(0)},
		{plain(1, 0, 0, pay(0, 7), state(0, -7), state(1, -7)), list(0, 0, 0), list(-7, -7)}, {plain(0, 0, 0, slices.Repeat(entries(pay(0, 100000)), 8)...), make([]int, 8), list(-800000)}, {example(state(3, 1020)), list(40, 0, 10, 20, 0), list(800, 608, 415, 1020, 1031)},
		{most, slices.Repeat(list(50), 8), list(40000, 40800, 41616, 42449, 43298, 44164, 45048, 45949, 46868, 47806, 48763, 49739)},
	} {
		if l, e := duty.Play(x.a, x.truth); !slices.Equal(l, x.want) || e != api.OK {
			t.Errorf("Play of %v, %v: %v, %v", x.a, x.truth, l, e)
		}
	}
}

// TestP10_1NoTruths has units of which the drawbacks or the statements are not right.
func TestP10_1NoTruths(t *testing.T) {
	for _, x := range []struct {
		a     duty.Account
		truth []int
	}{
		{example(state(0, 830)), list(41, 0, 10, 20, 0)}, {example(state(0, 820)), list(40, 0, 10, 20, 0)}, {example(state(4, 1020)), list(40, 0, 10, 20, 0)}, {plain(0, 0, 0, state(0, 1)), list(0)}, {plain(0, 0, 0, state(0, -1)), list(0)}, {plain(1, 0, 0, state(0, 20), charge(0, 2, 2)), list(0, 2)}, {plain(1, 0, 0, charge(1, 2, 2), state(0, 20)), list(2, 0)},
		{plain(1, 0, 0, back(0, 1)), list(1)}, {plain(1, 0, 0, back(0, 1), charge(0, 1, 1)), list(1, 1)}, {plain(1, 0, 0, back(0, 1), charge(1, 1, 1)), list(1, 1)}, {plain(1, 0, 0, charge(1, 1, 1), back(0, 1)), list(1, 1)}, {plain(1, 0, 0, charge(0, 3, 3), back(1, 4)), list(3, 4)}, {plain(1, 0, 0, charge(0, 3, 3), back(1, 2), back(1, 2)), list(3, 2, 2)}, {plain(1, 0, 0, charge(0, 3, 3), back(1, 2), back(0, 2)), list(3, 2, 2)}, {plain(1, 0, 0, charge(0, 3, 4), back(1, 2), back(0, 2)), list(3, 2, 2)},
		// What is drawn back later, or was drawn back too early, does not become right by what is charged later.
		{plain(2, 0, 0, charge(0, 1, 1), back(1, 2), charge(1, 9, 9)), list(1, 2, 9)}, {plain(2, 0, 0, charge(2, 9, 9), charge(0, 1, 1), back(1, 2)), list(9, 1, 2)},
		// Units count, not pence.
		{duty.Account{Last: 1, Rates: rates(rate(0, 100), rate(1, 1)), Entries: entries(charge(0, 2, 2), back(1, 3))}, list(2, 3)}, {duty.Account{Entries: entries(charge(0, 2, 2), back(0, 3))}, list(2, 3)},
	} {
		if l, e := duty.Play(x.a, x.truth); len(l) != 0 || e != api.ErrFalse {
			t.Errorf("Play of %v, %v: %v, %v", x.a, x.truth, l, e)
		}
	}
	right := plain(2, 0, 0, charge(0, 3, 4), back(1, 2), back(0, 2), charge(1, 5, 5), back(1, 4), back(2, 1))
	if l, e := duty.Play(right, list(4, 2, 2, 5, 4, 1)); !slices.Equal(l, list(20, 10, 0)) || e != api.OK {
		t.Errorf("Play of %v: %v, %v", right, l, e)
	}
}

func TestP10_1Play(t *testing.T) {
	truths, others := 0, 0
	for _, a := range allAccounts() {
		for i, units := range unitLists(a) {
			if i%7 != 0 && i > 60 {
				continue
			}
			var want []int
			f := api.ErrFalse
			if isTruth(a, units) {
				want, f = debtsOf(a, units), api.OK
				truths++
			} else {
				others++
			}
			if l, e := duty.Play(a, units); !slices.Equal(l, want) || e != f {
				t.Fatalf("Play of %v, %v: %v, %v, not %v, %v", a, units, l, e, want, f)
			}
		}
	}
	if truths < 10000 || others < 5000 {
		t.Errorf("only %d truths, and %d units that are none", truths, others)
	}
}

// fact is what is to be returned of an account.
type fact struct {
	a    duty.Account
	want []duty.Range
	kept int
	e    api.Errno
}

// swapped has the debts 12, 12, 13 in a truth, and 9, 13, 13 in the other one.
func swapped(bond, purse int) duty.Account {
	return duty.Account{Last: 2, Bond: bond, Purse: purse, Rates: rates(rate(0, 3), rate(1, 2), rate(2, 1)), Entries: entries(charge(0, 3, 4), charge(1, 0, 9), charge(2, 0, 1), state(2, 13))}
}

func TestP10_2BoundsExamples(t *testing.T) {
	wide := plain(1, 0, 0, charge(0, 0, 50))
	paid := func(bond int) duty.Account {
		a := swapped(bond, 0)
		a.Entries = entries(charge(0, 3, 4), charge(1, 0, 9), pay(1, 1), charge(2, 0, 1), state(2, 12), pay(2, 5))
		return a
	}
	for _, x := range []fact{
		{example(), ranges(800, 840, 608, 649, 415, 456, 1020, 1061, 1031, 1072), duty.Never, api.OK}, {example(state(4, 1052)), ranges(820, 820, 629, 629, 436, 436, 1041, 1041, 1052, 1052), duty.Never, api.OK},
		{plain(0, 0, 0), ranges(0, 0), duty.Always, api.OK}, {plain(2, 0, 0, pay(1, 3)), ranges(0, 0, -3, -3, -3, -3), duty.Always, api.OK}, {wide, ranges(0, 500, 0, 500), duty.Perhaps, api.OK},
		{plain(1, 50, 0, charge(0, 4, 6)), ranges(40, 60, 40, 60), duty.Perhaps, api.OK}, {plain(1, 60, 0, charge(0, 4, 6)), ranges(40, 60, 40, 60), duty.Always, api.OK}, {plain(1, 59, 0, charge(0, 4, 6)), ranges(40, 60, 40, 60), duty.Perhaps, api.OK}, {plain(1, 40, 0, charge(0, 4, 6)), ranges(40, 60, 40, 60), duty.Perhaps, api.OK}, {plain(1, 39, 0, charge(0, 4, 6)), ranges(40, 60, 40, 60), duty.Never, api.OK},
		// The debt of a day is that of its end; and one day above the bond is enough.
		{plain(1, 50, 0, charge(0, 4, 6), pay(0, 10)), ranges(30, 50, 30, 50), duty.Always, api.OK}, {plain(2, 50, 0, charge(1, 6, 6), pay(2, 60)), ranges(0, 0, 60, 60, 0, 0), duty.Never, api.OK}, {plain(2, 50, 0, charge(2, 6, 6)), ranges(0, 0, 0, 0, 60, 60), duty.Never, api.OK}, {plain(2, 50, 0, charge(0, 6, 6), pay(1, 60)), ranges(60, 60, 0, 0, 0, 0), duty.Never, api.OK},
		// Drawbacks and statements leave some of the units.
		{plain(1, 50, 0, charge(0, 4, 6), back(1, 5)), ranges(50, 60, 0, 10), duty.Perhaps, api.OK}, {plain(1, 50, 0, charge(0, 4, 6), back(1, 6)), ranges(60, 60, 0, 0), duty.Never, api.OK}, {plain(1, 70, 0, charge(0, 4, 6), charge(1, 1, 3), state(1, 70)), ranges(40, 60, 70, 70), duty.Always, api.OK}, {plain(1, 50, 0, charge(0, 4, 6), charge(0, 1, 3), state(0, 60), pay(0, 10), back(1, 5)), ranges(50, 50, 0, 0), duty.Always, api.OK},
		// The greatest debts of two days need not be those of one truth, nor those that are above the bond.
		{swapped(12, 0), ranges(9, 12, 12, 13, 13, 13), duty.Never, api.OK}, {swapped(13, 0), ranges(9, 12, 12, 13, 13, 13), duty.Always, api.OK}, {paid(12), ranges(9, 12, 11, 12, 7, 7), duty.Always, api.OK}, {paid(11), ranges(9, 12, 11, 12, 7, 7), duty.Never, api.OK},
		{example(state(0, 830)), nil, 0, api.ErrFail}, {plain(1, 0, 0, charge(0, 4, 6), back(1, 7)), nil, 0, api.ErrFail}, {plain(1, 0, 0, back(0, 1), charge(0, 4, 6)), nil, 0, api.ErrFail}, {plain(0, 0, 0, state(0, 1)), nil, 0, api.ErrFail}, {plain(1, 50, 0, charge(0, 4, 6), charge(1, 1, 3), state(0, 50), state(1, 90)), nil, 0, api.ErrFail},
	} {
		hasFact(t, x)
	}
}

// hasFact checks the bounds, and whether the bond is kept.
func hasFact(t *testing.T, x fact) {
	b, e := duty.Bounds(x.a)
	k, f := duty.Kept(x.a)
	if !slices.Equal(b, x.want) || e != x.e || k != x.kept || f != x.e {
		t.Fatalf("Bounds, Kept of %v: %v, %v; %d, %v, not %v, %v; %d", x.a, b, e, k, f, x.want, x.e, x.kept)
	}
}

func TestP10_2Bounds(t *testing.T) {
	count := map[int]int{}
	for _, a := range allAccounts() {
		x := fact{a: a, e: api.ErrFail}
		if played := playedOf(a, truthsOf(a)); len(played) > 0 {
			x = fact{a: a, want: boundsIn(played), kept: keptIn(a, played)}
		}
		hasFact(t, x)
		count[x.kept]++
	}
	if min(count[0], count[duty.Always], count[duty.Never], count[duty.Perhaps]) < 70 {
		t.Errorf("not all were tried: %v", count)
	}
}

// chargeEachDay charges 40 pence on each of four days, with a bond of 50, and a purse of 40.
func chargeEachDay() duty.Account {
	return plain(3, 50, 40, charge(0, 4, 4), charge(1, 4, 4), charge(2, 4, 4), charge(3, 4, 4))
}

func TestP10_3PaysExamples(t *testing.T) {
	uphill := plain(2, 50, 30, charge(0, 4, 4), charge(1, 5, 5), charge(2, 0, 1))
	purse := func(a duty.Account, pence int) duty.Account {
		a.Purse = pence
		return a
	}
	grows := func(interest, bond int) duty.Account {
		return duty.Account{Last: 11, Interest: interest, Bond: bond, Purse: 100, Rates: rates(rate(0, 100)), Entries: entries(charge(0, 10, 10))}
	}
	for _, x := range []struct {
		a    duty.Account
		want []int
		e    api.Errno
	}{
		{example(), list(3), api.OK}, {chargeEachDay(), list(1, 2, 3), api.OK}, {plain(1, 60, 0, charge(0, 4, 6)), nil, api.OK}, {plain(0, 0, 0), nil, api.OK}, {plain(1, 59, 1, charge(0, 4, 6)), list(0), api.OK}, {plain(2, 59, 1, charge(0, 4, 5), charge(2, 1, 1)), list(2), api.OK},
		{uphill, list(0, 1), api.OK}, {purse(uphill, 45), list(1, 2), api.OK}, {purse(uphill, 50), list(1), api.OK}, {purse(uphill, 40), list(1, 2), api.OK}, {purse(uphill, 39), list(0, 1), api.OK}, {purse(uphill, 19), nil, api.ErrSink}, {purse(uphill, 20), list(0, 1, 2), api.OK}, {purse(uphill, 100000), list(1), api.OK},
		// A debt that a plan made less has less interest: of 1000 pence at 1 and 2 hundredths a day.
		{grows(0, 1000), nil, api.OK}, {grows(0, 999), list(0), api.OK}, {grows(100, 1000), list(1, 11), api.OK}, {grows(100, 1009), list(0), api.OK}, {grows(100, 1010), list(1), api.OK}, {grows(200, 1000), list(1, 6, 11), api.OK}, {grows(200, 1040), list(2, 7), api.OK}, {grows(200, 900), list(0, 1, 6), api.OK}, {grows(200, 899), nil, api.ErrSink},
		// Statements are of the account without the plan.
		{plain(1, 30, 10, state(0, 0), charge(0, 4, 4), state(1, 40)), list(0), api.OK}, {plain(1, 30, 10, charge(0, 0, 9), state(0, 40), state(1, 40)), list(0), api.OK}, {plain(2, 30, 10, charge(0, 0, 9), charge(2, 0, 9), state(1, 30), state(2, 40)), list(2), api.OK},
		// The bond is to be kept in each truth, also if no truth has the greatest debts of all days.
		{plain(1, 50, 10, charge(0, 4, 6), charge(1, 1, 3), state(1, 70)), list(0, 1), api.OK}, {plain(1, 50, 20, charge(0, 4, 6), charge(1, 1, 3), state(1, 70)), list(0), api.OK}, {plain(1, 50, 20, charge(0, 4, 5), charge(1, 2, 3), state(1, 70)), list(1), api.OK}, {swapped(12, 1), list(1), api.OK}, {swapped(11, 2), list(0), api.OK}, {swapped(11, 1), list(0, 1), api.OK}, {swapped(10, 1), nil, api.ErrSink},
		{plain(1, 39, 0, charge(0, 4, 6)), nil, api.ErrSink}, {plain(0, 10, 9, charge(0, 2, 2)), nil, api.ErrSink}, {plain(0, 10, 10, charge(0, 2, 2)), list(0), api.OK}, {plain(1, 10, 9, charge(0, 2, 2)), nil, api.ErrSink}, {plain(2, 10, 100, charge(0, 2, 2), charge(2, 50, 50)), nil, api.ErrSink},
		{example(state(0, 830)), nil, api.ErrFail}, {plain(0, 0, 0, charge(0, 2, 2), state(0, 1)), nil, api.ErrFail}, {plain(0, 0, 0, state(0, 1)), nil, api.ErrFail},
	} {
		want := x.want
		if x.e != api.OK {
			want = nil
		}
		if l, e := duty.Pays(x.a); !slices.Equal(l, want) || e != x.e {
			t.Errorf("Pays of %v: %v, %v, not %v, %v", x.a, l, e, want, x.e)
		}
		if duty.ProvePays(x.a, x.want, len(x.want)) != (x.e == api.OK) || duty.ProvePays(x.a, x.want, len(x.want)-1) {
			t.Errorf("ProvePays of %v, %v", x.a, x.want)
		}
	}
}

func TestP10_3ProvePaysExamples(t *testing.T) {
	for _, x := range []struct {
		a    duty.Account
		days []int
		most int
		want bool
	}{
		{chargeEachDay(), list(1, 2, 3), 3, true}, {chargeEachDay(), list(1, 2, 3), huge, true}, {chargeEachDay(), list(1, 2, 3), 2, false}, {chargeEachDay(), list(1, 2, 3), 0, false}, {chargeEachDay(), list(1, 2, 3), -1, false}, {chargeEachDay(), list(1, 2, 3), lowest, false}, {chargeEachDay(), list(0, 1, 2, 3), 4, true}, {chargeEachDay(), list(0, 1, 2, 3), 3, false}, {chargeEachDay(), list(0, 1, 2), 3, true}, {chargeEachDay(), list(0, 2, 3), 3, true}, {chargeEachDay(), list(0, 1, 3), 3, true},
		{chargeEachDay(), list(2, 3), 9, false}, {chargeEachDay(), list(0, 1), 9, false}, {chargeEachDay(), list(3), 9, false}, {chargeEachDay(), nil, 9, false}, {chargeEachDay(), list(), 9, false},
		{chargeEachDay(), list(1, 3, 2), 9, false}, {chargeEachDay(), list(3, 2, 1), 9, false}, {chargeEachDay(), list(1, 1, 2, 3), 9, false}, {chargeEachDay(), list(1, 2, 3, 3), 9, false}, {chargeEachDay(), list(0, 0, 1, 2, 3), 9, false}, {chargeEachDay(), list(1, 2, 3, 4), 9, false}, {chargeEachDay(), list(-1, 1, 2, 3), 9, false}, {chargeEachDay(), list(1, 2, 3, huge), 9, false}, {chargeEachDay(), list(lowest, 1, 2, 3), 9, false},
		{plain(0, 0, 0), nil, 0, true}, {plain(0, 0, 0), list(), 5, true}, {plain(0, 0, 0), nil, -1, false}, {plain(0, 0, 0), nil, lowest, false}, {plain(0, 0, 0), list(0), 1, true}, {plain(0, 0, 0), list(0), 0, false}, {plain(0, 0, 0), list(1), 1, false}, {plain(0, 0, 0, state(0, 1)), nil, 5, false}, {plain(0, 0, 0, state(0, 1)), list(0), 5, false}, {plain(12, 0, 0), nil, 5, false}, {duty.Account{Last: -1}, nil, 5, false},
		{example(), list(3), 1, true}, {example(), list(2), 1, true}, {example(), list(1), 1, true}, {example(), list(0), 1, true}, {example(), list(4), 1, false}, {example(), list(3, 4), 2, true}, {example(state(0, 830)), list(3), 1, false}, {example(state(0, 820)), list(3), 1, true},
	} {
		if duty.ProvePays(x.a, x.days, x.most) != x.want {
			t.Errorf("ProvePays of %v, %v, %d", x.a, x.days, x.most)
		}
	}
}

func TestP10_3Pays(t *testing.T) {
	lengths, sunk, failed := map[int]int{}, 0, 0
	for _, a := range slices.Concat(smallAccounts(), busyAccounts(), swappedAccounts(), wrongAccounts()) {
		truths := truthsOf(a)
		want, found := fewestOf(a, truths)
		f := api.OK
		switch {
		case len(truths) == 0:
			want, f = nil, api.ErrFail
			failed++
		case !found:
			f = api.ErrSink
			sunk++
		default:
			lengths[len(want)]++
		}
		if l, e := duty.Pays(a); !slices.Equal(l, want) || e != f {
			t.Fatalf("Pays of %v: %v, %v, not %v, %v", a, l, e, want, f)
		}
	}
	if min(lengths[0], lengths[1], lengths[2], lengths[3], lengths[4], lengths[5], sunk, failed) < 10 {
		t.Errorf("not all were tried: %v, %d, %d", lengths, sunk, failed)
	}
}

// TestP10_3WidePays has more truths and days, of which only some plans can be tried.
func TestP10_3WidePays(t *testing.T) {
	count := 0
	for _, a := range wideAccounts() {
		truths := truthsOf(a)
		l, e := duty.Pays(a)
		if len(truths) == 0 || e != api.OK {
			continue
		}
		if !planKeeps(a, truths, l) {
			t.Fatalf("Pays of %v: %v", a, l)
		}
		if len(l) > 0 {
			count++
		}
		for i, day := range l {
			less := slices.Delete(slices.Clone(l), i, i+1)
			if planKeeps(a, truths, less) {
				t.Fatalf("Pays of %v: %v, but %v is a plan too", a, l, less)
			}
			later := slices.Clone(l)
			later[i] = day + 1
			if day < a.Last && !slices.Contains(l, day+1) && planKeeps(a, truths, later) {
				t.Fatalf("Pays of %v: %v, but %v is a plan too", a, l, later)
			}
		}
	}
	if count < 20 {
		t.Errorf("only %d accounts", count)
	}
}

func TestP10_3ProvePays(t *testing.T) {
	right, wrong := 0, 0
	for i, a := range smallAccounts() {
		if i%3 > 0 || a.Last > 6 {
			continue
		}
		truths := truthsOf(a)
		for _, plan := range plansOf(a) {
			want := len(truths) > 0 && planKeeps(a, truths, plan)
			if duty.ProvePays(a, plan, len(plan)) != want || duty.ProvePays(a, plan, huge) != want || duty.ProvePays(a, plan, len(plan)-1) {
				t.Fatalf("ProvePays of %v, %v: not %v", a, plan, want)
			}
			if want {
				right++
			} else {
				wrong++
			}
		}
	}
	if right < 1000 || wrong < 1000 {
		t.Errorf("only %d plans that keep the bond, and %d that do not", right, wrong)
	}
}

func TestP10_4LeaveExamples(t *testing.T) {
	for _, x := range []struct {
		a    duty.Account
		want []int
	}{
		{example(), nil}, {plain(0, 0, 0), nil}, {example(state(0, 830)), list(4)}, {example(state(0, 820)), nil}, {example(state(0, 820), state(0, 800)), list(4)}, {example(state(0, 820), state(0, 830)), list(5)},
		// What was left out charges, pays and draws back nothing.
		{plain(1, 0, 0, charge(0, 4, 6), back(1, 7)), list(1)}, {plain(1, 0, 0, back(0, 3), charge(0, 4, 6)), list(0)}, {plain(1, 0, 0, charge(0, 4, 4), pay(0, 10), state(1, 40)), list(1)}, {plain(1, 0, 0, charge(0, 4, 4), pay(0, 10), state(0, 40), state(1, 30)), list(2)}, {plain(1, 0, 0, charge(0, 4, 4), state(1, 0)), list(0)}, {plain(1, 0, 0, charge(0, 4, 4), back(0, 1), state(1, 40)), list(1)},
		{plain(1, 0, 0, charge(0, 5, 6), charge(0, 5, 6), state(0, 60)), list(0)}, {plain(1, 0, 0, charge(0, 4, 4), charge(0, 5, 6), state(0, 60)), list(0)}, {plain(1, 0, 0, charge(0, 5, 6), charge(0, 4, 4), state(0, 60)), list(1)},
		// Several have to be left out.
		{plain(0, 0, 0, state(0, 5), state(0, -5)), list(0, 1)}, {plain(0, 0, 0, state(0, 5), state(0, 0), state(0, -5)), list(0, 2)}, {plain(0, 0, 0, back(0, 1), back(0, 2), back(0, 3)), list(0, 1, 2)}, {plain(1, 0, 0, charge(0, 3, 3), back(0, 3), back(1, 3), back(1, 3)), list(1, 2)}, {plain(1, 0, 0, charge(0, 3, 3), back(0, 1), back(1, 2), back(1, 3)), list(3)}, {plain(1, 0, 0, charge(0, 3, 3), back(1, 1), back(0, 2), back(1, 3)), list(3)}, {plain(1, 0, 0, charge(0, 3, 3), back(0, 2), back(1, 2), back(1, 1)), list(1)},
		{plain(0, 0, 0, slices.Repeat(entries(state(0, 1)), 8)...), list(0, 1, 2, 3, 4, 5, 6, 7)}, {plain(0, 0, 0, state(0, 10), charge(0, 1, 1), state(0, 0), state(0, 20), state(0, 10)), list(0, 2, 3)},
	} {
		if l, e := duty.Leave(x.a); !slices.Equal(l, x.want) || e != api.OK {
			t.Errorf("Leave of %v: %v, %v, not %v", x.a, l, e, x.want)
		}
	}
}

func TestP10_4Leave(t *testing.T) {
	sizes := map[int]int{}
	for _, a := range allAccounts() {
		want := smallestOf(a)
		if l, e := duty.Leave(a); !slices.Equal(l, want) || e != api.OK {
			t.Fatalf("Leave of %v: %v, %v, not %v", a, l, e, want)
		}
		sizes[len(want)]++
	}
	if min(sizes[0], sizes[1], sizes[2], sizes[3]) < 20 {
		t.Errorf("not all were tried: %v", sizes)
	}
}
