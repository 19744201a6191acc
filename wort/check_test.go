package wort_test

import (
	"math"
	"slices"
	"testing"

	"saccharum/api"
	"saccharum/wort"
)

const lowest, huge = math.MinInt, math.MaxInt

// changed is the brewhouse of the examples after a change.
func changed(change func(b *wort.Brewhouse)) wort.Brewhouse {
	b := example()
	change(&b)
	return b
}

// wide has the most vessels and steps, with as many ranges of three, and then of two numbers; the other ones have one.
func wide(three, two int) wort.Brewhouse {
	b := house(slices.Repeat(vessels(exactly(7, 7, 60)), 4), slices.Repeat(steps(water(3, 7)), 6)...)
	var l []*wort.Range
	for i := range b.Steps {
		l = append(l, &b.Steps[i].Gallons)
	}
	for i := range b.Vessels {
		l = append(l, &b.Vessels[i].Gallons, &b.Vessels[i].Degrees)
	}
	for i, r := range l[:three+two] {
		r.Hi++
		if i < three {
			r.Hi++
		}
	}
	return b
}

func TestP6_1CheckBrewhouse(t *testing.T) {
	limits, good, wrong := tooMuch(), goodHouses(), wrongHouses()
	for _, x := range []struct {
		of   map[string]wort.Brewhouse
		want api.Errno
	}{{limits, api.ErrLimit}, {good, api.OK}, {wrong, api.ErrArg}} {
		for name, b := range x.of {
			hasError(t, name, b, x.want)
		}
	}
	for _, b := range append(houses(), exactHouses()...) {
		hasError(t, "one of many", b, api.OK)
	}
}

// tooMuch are brewhouses that have too much.
func tooMuch() map[string]wort.Brewhouse {
	return map[string]wort.Brewhouse{
		"five vessels":                   changed(func(b *wort.Brewhouse) { b.Vessels = append(b.Vessels, make([]wort.Vessel, 3)...) }),
		"five vessels, and nothing else": {Vessels: make([]wort.Vessel, 5)},
		"five bad vessels":               {Vessels: slices.Repeat(vessels(exactly(-1, 999, -9)), 5)},
		"five vessels, and a bad step":   changed(func(b *wort.Brewhouse) { b.Vessels, b.Steps[0].Kind = make([]wort.Vessel, 5), 9 }),
		"a hundred vessels":              {Vessels: make([]wort.Vessel, 100)},
		"seven steps":                    changed(func(b *wort.Brewhouse) { b.Steps = slices.Repeat(steps(water(0, 0)), 7) }),
		"seven bad steps":                changed(func(b *wort.Brewhouse) { b.Steps = slices.Repeat(steps(step(9, -1, 7, 5, 1)), 7) }),
		"seven steps, and no vessels":    {Steps: make([]wort.Step, 7)},
		"seven steps, and a bad vessel":  changed(func(b *wort.Brewhouse) { b.Steps, b.Vessels[0].Room = slices.Repeat(steps(water(0, 0)), 7), 61 }),
		"2048 truths of sizes 2":         wide(0, 11),
		"2187 truths of sizes 3":         wide(7, 0),
		"2304 truths of both sizes":      wide(2, 8),
		"2048 truths of vessels, mostly": house(slices.Repeat(vessels(vessel(to(0, 1), to(0, 1), 0)), 4), step(wort.Water, 0, 0, 0, 1), step(wort.Boil, 0, 0, 0, 1), step(wort.Move, 0, 1, 0, 1)),
		"2187 truths, half of degrees":   house(slices.Repeat(vessels(vessel(to(0, 0), to(0, 2), 0)), 4), slices.Repeat(steps(step(wort.Water, 0, 0, 0, 2)), 3)...),
		"2187 truths, half of gallons":   house(slices.Repeat(vessels(vessel(to(0, 2), to(0, 0), 0)), 4), slices.Repeat(steps(step(wort.Water, 0, 0, 0, 2)), 3)...),
		"all ranges as wide as they may": wide(14, 0),
		"2187 that are none in the end":  house(vessels(vessel(to(0, 2), to(0, 0), 0)), slices.Repeat(steps(step(wort.Boil, 0, 0, 58, 60)), 6)...),
		"2187 of a vessel without room":  house(vessels(vessel(to(58, 60), to(0, 0), 0)), slices.Repeat(steps(step(wort.Water, 0, 0, 0, 2)), 6)...),
	}
}

// goodHouses are valid.
func goodHouses() map[string]wort.Brewhouse {
	return map[string]wort.Brewhouse{
		"the example":                  example(),
		"one vessel of nothing":        {Vessels: make([]wort.Vessel, 1)},
		"four vessels of nothing":      {Vessels: make([]wort.Vessel, 4)},
		"empty steps":                  {Vessels: make([]wort.Vessel, 1), Steps: []wort.Step{}},
		"six steps of nothing":         {Vessels: make([]wort.Vessel, 1), Steps: slices.Repeat(steps(water(0, 0)), 6)},
		"the most of all":              house(slices.Repeat(vessels(exactly(60, 120, 60)), 4), slices.Repeat(steps(move(3, 2, 60)), 6)...),
		"1944 truths":                  wide(5, 3),
		"1944 truths, and one vessel":  house(vessels(vessel(to(1, 2), to(2, 3), 9)), append(slices.Repeat(steps(step(wort.Water, 0, 0, 0, 2)), 5), step(wort.Water, 0, 0, 0, 1))...),
		"1024 truths":                  wide(0, 10),
		"729 truths of steps alone":    wide(6, 0),
		"no truth":                     changed(func(b *wort.Brewhouse) { b.Steps[0].Gallons = to(59, 60) }),
		"no room":                      changed(func(b *wort.Brewhouse) { b.Vessels[0].Room, b.Vessels[1].Room = 0, 0 }),
		"a Move back":                  changed(func(b *wort.Brewhouse) { b.Steps[0].From, b.Steps[0].To = 1, 0 }),
		"a Move to the last vessel":    changed(func(b *wort.Brewhouse) { b.Vessels, b.Steps[0].To = append(b.Vessels, b.Vessels...), 3 }),
		"a Boil of the first vessel":   changed(func(b *wort.Brewhouse) { b.Steps[1].From, b.Steps[1].To = 0, 0 }),
		"a Water to the second vessel": changed(func(b *wort.Brewhouse) { b.Steps[2].From, b.Steps[2].To = 1, 1 }),
	}
}

// wrongHouses are not valid.
func wrongHouses() map[string]wort.Brewhouse {
	roomy := func(room int) wort.Brewhouse {
		return changed(func(b *wort.Brewhouse) { b.Vessels[1].Room = room })
	}
	stepped := func(kind, from, into int) wort.Brewhouse {
		return changed(func(b *wort.Brewhouse) { b.Steps = append(b.Steps, step(kind, from, into, 1, 1)) })
	}
	most := wide(14, 0)
	most.Steps[5].Kind = 3
	roomless := wide(7, 0)
	roomless.Vessels[3].Room = 61
	return map[string]wort.Brewhouse{
		"nothing": {}, "empty lists": {Vessels: []wort.Vessel{}, Steps: []wort.Step{}}, "no vessels": changed(func(b *wort.Brewhouse) { b.Vessels = nil }), "six steps, and no vessels": {Steps: make([]wort.Step, 6)},
		"a room of 61": roomy(61), "a room of -1": roomy(-1), "a huge room": roomy(huge), "the lowest room": roomy(lowest),
		"a kind of 3 in two vessels": stepped(3, 0, 1), "a kind of 3 in one": stepped(3, 0, 0), "a kind of -1 in two": stepped(-1, 0, 1), "a kind of -1 in one": stepped(-1, 1, 1), "a huge kind": stepped(huge, 0, 0), "the lowest kind": stepped(lowest, 0, 1),
		"a Move from 0 to 0": stepped(wort.Move, 0, 0), "a Move from 1 to 1": stepped(wort.Move, 1, 1), "a Water in two": stepped(wort.Water, 0, 1), "a Boil in two": stepped(wort.Boil, 1, 0),
		"a Move from 2": stepped(wort.Move, 2, 0), "a Move to 2": stepped(wort.Move, 0, 2), "a Move from -1": stepped(wort.Move, -1, 0), "a Move to -1": stepped(wort.Move, 0, -1), "a Move from a huge one": stepped(wort.Move, huge, 1), "a Move to the lowest one": stepped(wort.Move, 1, lowest), "a Move from 2 to 3": stepped(wort.Move, 2, 3),
		"a Water to 2": stepped(wort.Water, 2, 2), "a Water to -1": stepped(wort.Water, -1, -1), "a Boil of 2": stepped(wort.Boil, 2, 2), "a Boil of -1": stepped(wort.Boil, -1, -1), "a Water from 2": stepped(wort.Water, 2, 0), "a Boil to 2": stepped(wort.Boil, 1, 2), "a Boil of a huge one": stepped(wort.Boil, huge, huge),
		"a bad kind, and too many truths": most, "a bad room, and too many truths": roomless,
	}
}

// TestP6_1Ranges has the valid and the invalid ranges of a brewhouse.
func TestP6_1Ranges(t *testing.T) {
	first := func(b *wort.Brewhouse) *wort.Range { return &b.Vessels[0].Gallons }
	last := func(b *wort.Brewhouse) *wort.Range { return &b.Vessels[1].Gallons }
	weak := func(b *wort.Brewhouse) *wort.Range { return &b.Vessels[0].Degrees }
	strong := func(b *wort.Brewhouse) *wort.Range { return &b.Vessels[1].Degrees }
	moved := func(b *wort.Brewhouse) *wort.Range { return &b.Steps[0].Gallons }
	boiled := func(b *wort.Brewhouse) *wort.Range { return &b.Steps[1].Gallons }
	added := func(b *wort.Brewhouse) *wort.Range { return &b.Steps[2].Gallons }
	for _, x := range []struct {
		name string
		most int
		of   []func(b *wort.Brewhouse) *wort.Range
	}{{"gallons", 60, []func(b *wort.Brewhouse) *wort.Range{first, last, moved, boiled, added}}, {"degrees", 120, []func(b *wort.Brewhouse) *wort.Range{weak, strong}}} {
		m := x.most
		good := ranges(0, 0, 0, 1, 0, 2, 1, 3, 7, 7, m, m, m-1, m, m-2, m, m-3, m-1)
		wrong := ranges(-1, -1, -1, 0, -1, 1, -2, 0, m+1, m+1, m, m+1, m-1, m+1, m, m+2, 0, 3, m-3, m, 5, 8, 0, m, -1, m+1, 1, 0, m, m-1, 9, 7, m, 0)
		wrong = append(wrong, ranges(lowest, huge, huge, lowest, lowest, lowest, huge, huge, 3, huge, lowest, 3, 3, lowest, huge, 3, huge-1, huge, lowest, lowest+1)...)
		for i, r := range x.of {
			for _, n := range good {
				hasError(t, x.name, changed(func(b *wort.Brewhouse) { *r(b) = n }), api.OK)
			}
			for _, n := range wrong {
				hasError(t, x.name, changed(func(b *wort.Brewhouse) { *x.of[i](b) = n }), api.ErrArg)
			}
		}
	}
}

// hasError checks that each call with a brewhouse has its error, even if other arguments are invalid too.
func hasError(t *testing.T, name string, b wort.Brewhouse, want api.Errno) {
	if e := wort.CheckBrewhouse(b); e != want {
		t.Errorf("%s: CheckBrewhouse of %v: %v", name, b, e)
	}
	if want == api.OK {
		return
	}
	p, e := wort.Play(b, truth(list(-1), nil, nil))
	q, f := wort.Play(b, truth(list(10, 5), list(60, 30), list(4, 1, 2)))
	l, g := wort.Bounds(b)
	out, h := wort.Leave(b, nil)
	other, i := wort.Leave(b, make([]wort.Reading, 5))
	third, j := wort.Leave(b, readings(reading(9, 1, 0, 1, 0)))
	plan, k := wort.Fewest(b, 10, 60)
	none, m := wort.Fewest(b, 0, -1)
	if len(p)+len(q)+len(l)+len(out)+len(other)+len(third)+len(plan)+len(none) != 0 {
		t.Errorf("%s: results beside an error, of %v", name, b)
	}
	for _, e := range []api.Errno{e, f, g, h, i, j, k, m} {
		if e != want {
			t.Errorf("%s: a call with %v: %v", name, b, e)
		}
	}
	if wort.ProvePlan(b, nil, 10, 60, 9) || wort.ProvePlan(b, nil, 5, 30, 9) || wort.ProvePlan(b, nil, 7, 7, 9) || wort.ProvePlan(b, nil, 0, 0, 9) {
		t.Errorf("%s: a proof about %v", name, b)
	}
}

// TestP6_1WrongTruths has truths that have not one number of its range for each vessel and step.
func TestP6_1WrongTruths(t *testing.T) {
	const noTruth = api.ErrRange
	for _, u := range []wort.Truth{
		{}, truth(list(10), list(60, 30), list(4, 1, 2)), truth(list(10, 5, 5), list(60, 30), list(4, 1, 2)), truth(nil, list(60, 30), list(4, 1, 2)),
		truth(list(10, 5), list(60), list(4, 1, 2)), truth(list(10, 5), list(60, 30, 30), list(4, 1, 2)), truth(list(10, 5), nil, list(4, 1, 2)), truth(list(10, 5), list(60, 30), list(4, 1)), truth(list(10, 5), list(60, 30), list(4, 1, 2, 2)), truth(list(10, 5), list(60, 30), nil),
		truth(list(10, 5, 60), list(30), list(4, 1, 2)), truth(list(10), list(5, 60, 30), list(4, 1, 2)), truth(list(10, 5), list(60, 30, 4), list(1, 2)), truth(list(10, 5), list(60), list(30, 4, 1, 2)), truth(list(10, 5, 60, 30, 4, 1, 2), nil, nil), truth(nil, nil, list(10, 5, 60, 30, 4, 1, 2)),
		truth(list(9, 5), list(60, 30), list(4, 1, 2)), truth(list(12, 5), list(60, 30), list(4, 1, 2)), truth(list(10, 4), list(60, 30), list(4, 1, 2)), truth(list(10, 6), list(60, 30), list(4, 1, 2)),
		truth(list(10, 5), list(59, 30), list(4, 1, 2)), truth(list(10, 5), list(61, 30), list(4, 1, 2)), truth(list(10, 5), list(60, 29), list(4, 1, 2)), truth(list(10, 5), list(60, 31), list(4, 1, 2)),
		truth(list(10, 5), list(60, 30), list(3, 1, 2)), truth(list(10, 5), list(60, 30), list(5, 1, 2)), truth(list(10, 5), list(60, 30), list(4, 0, 2)), truth(list(10, 5), list(60, 30), list(4, 3, 2)), truth(list(10, 5), list(60, 30), list(4, 1, 1)), truth(list(10, 5), list(60, 30), list(4, 1, 3)),
		truth(list(lowest, 5), list(60, 30), list(4, 1, 2)), truth(list(10, huge), list(60, 30), list(4, 1, 2)), truth(list(10, 5), list(huge, lowest), list(4, 1, 2)), truth(list(10, 5), list(60, 30), list(4, 1, huge)), truth(list(10, 5), list(60, 30), list(lowest, 1, 2)),
	} {
		if l, e := wort.Play(example(), u); len(l) != 0 || e != noTruth {
			t.Errorf("Play of %v: %v, %v", u, l, e)
		}
	}
	// A number that is not of its range comes before a step that is not possible.
	if l, e := wort.Play(with(boil(1, 6), water(0, 1)), truth(list(10, 5), list(60, 30), list(6, 2))); len(l) != 0 || e != noTruth {
		t.Errorf("Play: %v, %v", l, e)
	}
	// Numbers that all fit do not make up for one too many, or one too few.
	b := house(vessels(exactly(1, 1, 9), exactly(1, 1, 9)), move(0, 1, 1))
	for counts := range 64 {
		u := truth(slices.Repeat(list(1), counts%4), slices.Repeat(list(1), counts/4%4), slices.Repeat(list(1), counts/16))
		want := noTruth
		if len(u.Gallons) == 2 && len(u.Degrees) == 2 && len(u.Moved) == 1 {
			want = api.OK
		}
		if l, e := wort.Play(b, u); e != want || (e == api.OK) != (len(l) == 2) {
			t.Errorf("Play of %v: %v, %v", u, l, e)
		}
	}
}
