package wort_test

import (
	"math/rand"
	"slices"
	"testing"

	"saccharum/api"
	"saccharum/wort"
)

// moved is the truth of a brewhouse with the vessels of the example, and some gallons of steps.
func moved(gallons ...int) wort.Truth { return truth(list(10, 5), list(60, 30), gallons) }

func TestP6_1PlayExamples(t *testing.T) {
	states := func(l ...wort.State) []wort.State { return l }
	still := states(state(10, 600, 60), state(5, 150, 30))
	dregs := house(vessels(exactly(7, 100, 9), exactly(0, 9, 7)), move(0, 1, 2), water(0, 3), move(0, 1, 3), move(1, 0, 1))
	for _, x := range []struct {
		b    wort.Brewhouse
		t    wort.Truth
		want []wort.State
	}{
		{example(), moved(4, 1, 2), states(state(8, 360, 45), state(8, 390, 49))}, {example(), truth(list(11, 5), list(60, 30), list(4, 2, 2)), states(state(9, 420, 47), state(7, 390, 56))},
		{with(), moved(), still}, {with(move(0, 1, 0)), moved(0), still}, {with(boil(0, 0)), moved(0), still}, {with(water(1, 0)), moved(0), still},
		{with(move(1, 0, 5)), moved(5), states(state(15, 750, 50), state(0, 0, 0))}, {with(move(0, 1, 7)), moved(7), states(state(3, 180, 60), state(12, 570, 48))}, {with(move(1, 0, 5), move(1, 0, 0)), moved(5, 0), states(state(15, 750, 50), state(0, 0, 0))}, {with(move(1, 0, 5), boil(1, 0)), moved(5, 0), states(state(15, 750, 50), state(0, 0, 0))}, {with(move(1, 0, 5), move(0, 1, 12)), moved(5, 12), states(state(3, 150, 50), state(12, 600, 50))},
		{with(water(0, 1), move(0, 1, 7)), moved(1, 7), states(state(4, 219, 55), state(12, 531, 44))}, {with(water(0, 10)), moved(10), states(state(20, 600, 30), still[1])}, {with(water(1, 7)), moved(7), states(still[0], state(12, 150, 13))}, {with(water(0, 6)), moved(6), states(state(16, 600, 38), still[1])},
		{with(boil(1, 4)), moved(4), states(still[0], state(1, 150, 150))}, {with(boil(0, 9)), moved(9), states(state(1, 600, 600), still[1])}, {with(boil(0, 1), move(0, 1, 4)), moved(1, 4), states(state(5, 334, 67), state(9, 416, 46))}, {with(boil(0, 2), water(0, 2)), moved(2, 2), still},
		{dregs, truth(list(7, 0), list(100, 9), list(2, 3, 3, 1)), states(state(6, 390, 65), state(4, 310, 78))}, {house(vessels(exactly(1, 100, 2), exactly(3, 0, 4)), move(0, 1, 1), move(1, 0, 1)), truth(list(1, 3), list(100, 0), list(1, 1)), states(state(1, 25, 25), state(3, 75, 25))}, {house(vessels(exactly(1, 10, 9), exactly(2, 0, 9)), move(0, 1, 1), move(1, 0, 1)), truth(list(1, 2), list(10, 0), list(1, 1)), states(state(1, 3, 3), state(2, 7, 4))},
		{house(vessels(exactly(3, 0, 9), exactly(0, 120, 0))), truth(list(3, 0), list(0, 120), nil), states(state(3, 0, 0), state(0, 0, 0))}, {house(vessels(exactly(3, 0, 9)), boil(0, 3), boil(0, 0)), truth(list(3), list(0), list(3, 0)), states(state(0, 0, 0))}, {house(vessels(exactly(0, 120, 9)), water(0, 9)), truth(list(0), list(120), list(9)), states(state(9, 0, 0))}, {house(vessels(exactly(0, 120, 9), exactly(0, 7, 0)), move(0, 1, 0)), truth(list(0, 0), list(120, 7), list(0)), states(state(0, 0, 0), state(0, 0, 0))},
		{house(vessels(exactly(60, 120, 60), exactly(0, 0, 60)), boil(0, 59), move(0, 1, 1), water(1, 59), move(1, 0, 60)), truth(list(60, 0), list(120, 0), list(59, 1, 59, 60)), states(state(60, 7200, 120), state(0, 0, 0))}, {house(vessels(exactly(60, 120, 60)), boil(0, 59)), truth(list(60), list(120), list(59)), states(state(1, 7200, 7200))},
	} {
		if l, e := wort.Play(x.b, x.t); !slices.Equal(l, x.want) || e != api.OK {
			t.Errorf("Play of %v, %v: %v, %v", x.b, x.t, l, e)
		}
	}
}

// TestP6_1Impossible has truths that are none of their brewhouse.
func TestP6_1Impossible(t *testing.T) {
	for _, x := range []struct {
		b wort.Brewhouse
		t wort.Truth
	}{
		{with(boil(1, 5)), moved(5)}, {with(boil(1, 6)), moved(6)}, {with(boil(0, 10)), moved(10)}, {with(boil(0, 11)), moved(11)}, {with(boil(0, 9), boil(0, 1)), moved(9, 1)}, {with(boil(0, 10), water(0, 5)), moved(10, 5)}, {with(boil(1, 6), water(1, 9)), moved(6, 9)},
		{with(move(1, 0, 6)), moved(6)}, {with(move(0, 1, 8)), moved(8)}, {with(move(0, 1, 11)), moved(11)}, {with(move(1, 0, 5), move(1, 0, 1)), moved(5, 1)}, {with(move(1, 0, 6), water(1, 1)), moved(6, 1)}, {with(move(0, 1, 8), move(1, 0, 8)), moved(8, 8)},
		{with(water(0, 11)), moved(11)}, {with(water(1, 8)), moved(8)}, {with(water(1, 8), boil(1, 8)), moved(8, 8)}, {with(water(0, 5), water(0, 5), water(0, 1)), moved(5, 5, 1)}, {with(move(1, 0, 5), boil(1, 1)), moved(5, 1)}, {with(move(0, 1, 7), water(1, 1)), moved(7, 1)},
		{house(vessels(exactly(10, 1, 9))), truth(list(10), list(1), nil)}, {house(vessels(exactly(10, 1, 10), exactly(1, 0, 0))), truth(list(10, 1), list(1, 0), nil)}, {house(vessels(exactly(10, 1, 9)), boil(0, 1)), truth(list(10), list(1), list(1))}, {house(vessels(exactly(10, 0, 9)), water(0, 0)), truth(list(10), list(0), list(0))},
		{house(vessels(exactly(3, 0, 9)), boil(0, 4)), truth(list(3), list(0), list(4))}, {house(vessels(exactly(0, 120, 9)), boil(0, 1)), truth(list(0), list(120), list(1))}, {house(vessels(exactly(3, 1, 9)), water(0, 3), boil(0, 6)), truth(list(3), list(1), list(3, 6))}, {house(vessels(exactly(10, 1, 9), exactly(0, 0, 9)), move(0, 1, 5)), truth(list(10, 0), list(1, 0), list(5))},
	} {
		if l, e := wort.Play(x.b, x.t); len(l) != 0 || e != api.ErrFalse {
			t.Errorf("Play of %v, %v: %v, %v", x.b, x.t, l, e)
		}
		if l, e := wort.Bounds(x.b); len(l) != 0 || e != api.ErrFail {
			t.Errorf("Bounds of %v: %v, %v", x.b, l, e)
		}
	}
}

func TestP6_1Play(t *testing.T) {
	possible, other := 0, 0
	for _, b := range houses() {
		for _, u := range tries(b) {
			p, is := play(b, u)
			want, f := p.end(), api.OK
			possible++
			if !is {
				want, f = nil, api.ErrFalse
				possible--
				other++
			}
			if l, e := wort.Play(b, u); !slices.Equal(l, want) || e != f {
				t.Fatalf("Play of %v, %v: %v, %v, not %v, %v", b, u, l, e, want, f)
			}
		}
	}
	if possible < 5000 || other < 5000 {
		t.Errorf("only %d truths are possible, and %d are not", possible, other)
	}
}

func TestP6_2BoundsExamples(t *testing.T) {
	bound := func(l ...int) wort.Bound {
		return wort.Bound{Gallons: to(l[0], l[1]), Extract: to(l[2], l[3]), Gravity: to(l[4], l[5])}
	}
	bounds := func(l ...wort.Bound) []wort.Bound { return l }
	tight := example()
	tight.Vessels[0].Room = 10
	for _, x := range []struct {
		b    wort.Brewhouse
		want []wort.Bound
	}{
		{example(), bounds(bound(8, 9, 360, 420, 45, 47), bound(7, 8, 390, 390, 49, 56))}, {exact(), bounds(bound(8, 8, 360, 360, 45, 45), bound(7, 8, 390, 390, 49, 56))}, {tight, bounds(bound(8, 8, 360, 360, 45, 45), bound(7, 8, 390, 390, 49, 56))}, {with(), bounds(bound(10, 10, 600, 600, 60, 60), bound(5, 5, 150, 150, 30, 30))},
		{house(vessels(vessel(to(0, 2), to(10, 12), 9))), bounds(bound(0, 2, 0, 24, 0, 12))}, {house(vessels(vessel(to(0, 2), to(10, 12), 1))), bounds(bound(0, 1, 0, 12, 0, 12))}, {house(vessels(vessel(to(0, 2), to(10, 12), 0))), bounds(bound(0, 0, 0, 0, 0, 0))}, {house(vessels(vessel(to(4, 6), to(10, 12), 5))), bounds(bound(4, 5, 40, 60, 10, 12))},
		{house(vessels(exactly(10, 60, 20), exactly(5, 0, 5)), step(wort.Boil, 1, 1, 3, 5)), bounds(bound(10, 10, 600, 600, 60, 60), bound(0, 2, 0, 0, 0, 0))}, {house(vessels(exactly(5, 1, 5)), step(wort.Boil, 0, 0, 3, 5)), bounds(bound(1, 2, 5, 5, 3, 5))}, {house(vessels(exactly(5, 1, 5)), step(wort.Water, 0, 0, 0, 2)), bounds(bound(5, 5, 5, 5, 1, 1))},
		// The extract that is left is greatest with a number between the ends.
		{house(vessels(exactly(1, 4, 9), exactly(2, 0, 9), exactly(0, 0, 9)), move(0, 1, 1), step(wort.Boil, 1, 1, 0, 2), move(1, 2, 1)), bounds(bound(0, 0, 0, 0, 0, 0), bound(0, 2, 0, 3, 0, 2), bound(1, 1, 1, 4, 1, 4))},
		{house(vessels(vessel(to(2, 4), to(0, 0), 9), exactly(1, 6, 5), exactly(0, 0, 5)), step(wort.Move, 0, 1, 2, 4), step(wort.Move, 1, 2, 2, 3)), bounds(bound(0, 2, 0, 0, 0, 0), bound(0, 3, 0, 4, 0, 2), bound(2, 3, 2, 6, 1, 2))},
	} {
		if l, e := wort.Bounds(x.b); !slices.Equal(l, x.want) || e != api.OK {
			t.Errorf("Bounds of %v: %v, %v", x.b, l, e)
		}
	}
	for _, b := range truthless() {
		if l, e := wort.Bounds(b); len(l) != 0 || e != api.ErrFail {
			t.Errorf("Bounds of %v: %v, %v", b, l, e)
		}
	}
}

// truthless are brewhouses without a truth.
func truthless() []wort.Brewhouse {
	return []wort.Brewhouse{
		changed(func(b *wort.Brewhouse) { b.Vessels[1].Room = 8 }), changed(func(b *wort.Brewhouse) { b.Vessels[1].Room = 4 }), changed(func(b *wort.Brewhouse) { b.Vessels[0].Room = 9 }), changed(func(b *wort.Brewhouse) { b.Steps[0].Gallons = to(8, 10) }),
		changed(func(b *wort.Brewhouse) { b.Steps[1].Gallons = to(9, 11) }), changed(func(b *wort.Brewhouse) { b.Steps[2].Gallons = to(15, 17) }), with(boil(1, 5)), with(move(1, 0, 6)), house(vessels(vessel(to(4, 6), to(0, 2), 3))), {Vessels: vessels(exactly(1, 0, 1), exactly(1, 0, 0))},
	}
}

func TestP6_2Bounds(t *testing.T) {
	some, none, between := 0, 0, 0
	eachHouse(func(b wort.Brewhouse, of []played) {
		if len(of) == 0 {
			none++
			if l, e := wort.Bounds(b); len(l) != 0 || e != api.ErrFail {
				t.Fatalf("Bounds of %v: %v, %v", b, l, e)
			}
			return
		}
		some++
		want := boundsIn(b, of)
		if l, e := wort.Bounds(b); !slices.Equal(l, want) || e != api.OK {
			t.Fatalf("Bounds of %v: %v, %v, not %v", b, l, e, want)
		}
		atEnds := func(p played) bool { return !isAtEnds(b, p.truth) }
		if l := slices.DeleteFunc(slices.Clone(of), atEnds); !slices.Equal(boundsIn(b, l), want) {
			between++
		}
	})
	if some < 200 || none < 5 || between < 20 {
		t.Errorf("only %d brewhouses with a truth, and %d without; and the bounds of %d need numbers between the ends", some, none, between)
	}
}

// isAtEnds reports whether each number of a truth is an end of its range.
func isAtEnds(b wort.Brewhouse, t wort.Truth) bool {
	is := func(n int, r wort.Range) bool { return n == r.Lo || n == r.Hi }
	for i, v := range b.Vessels {
		if !is(t.Gallons[i], v.Gallons) || !is(t.Degrees[i], v.Degrees) {
			return false
		}
	}
	for i, s := range b.Steps {
		if !is(t.Moved[i], s.Gallons) {
			return false
		}
	}
	return true
}

func TestP6_3LeaveExamples(t *testing.T) {
	for _, x := range []struct {
		b    wort.Brewhouse
		l    []wort.Reading
		want []int
	}{
		{example(), nil, nil}, {example(), readings(), nil}, {example(), readings(reading(1, 7, 7, 40, 50), reading(0, 9, 9, 0, 99)), list(0)}, {example(), readings(reading(1, 7, 7, 56, 56), reading(0, 9, 9, 47, 47)), nil}, {example(), readings(reading(1, 7, 7, 56, 56), reading(0, 9, 9, 46, 46)), list(1)}, {example(), readings(reading(1, 8, 8, 49, 49), reading(0, 9, 9, 47, 47)), nil},
		{example(), readings(reading(0, 8, 8, 0, 99), reading(0, 9, 9, 0, 99)), list(0)}, {example(), readings(reading(0, 9, 9, 0, 99), reading(0, 8, 8, 0, 99)), list(0)}, {example(), readings(reading(0, 9, 9, 0, 99), reading(0, 8, 8, 0, 99), reading(0, 8, 9, 45, 45)), list(0)}, {example(), readings(reading(0, 8, 8, 0, 99), reading(0, 9, 9, 0, 99), reading(0, 8, 9, 45, 45)), list(1)},
		{example(), readings(reading(0, 0, 0, 0, 0), reading(1, 0, 0, 0, 0)), list(0, 1)}, {example(), slices.Repeat(readings(reading(0, 0, 7, 0, 99)), 4), list(0, 1, 2, 3)}, {example(), slices.Repeat(readings(reading(0, 8, 8, 45, 45)), 4), nil}, {example(), readings(reading(1, 7, 7, 56, 56), reading(0, 0, 0, 0, 0), reading(1, 8, 8, 49, 49), reading(1, 8, 8, 49, 49)), list(0, 1)},
		{example(), readings(reading(0, 8, 8, 47, 47)), list(0)}, {example(), readings(reading(0, 8, 9, 46, 46)), list(0)}, {example(), readings(reading(0, 10, 11, 60, 60)), list(0)}, {example(), readings(reading(1, 7, 8, 48, 48)), list(0)}, {example(), readings(reading(1, 7, 8, 50, 55)), list(0)}, {example(), readings(reading(1, 7, 8, 50, 56)), nil},
		{example(), readings(reading(1, -5, 99, -5, 999)), nil}, {example(), readings(reading(1, lowest, huge, lowest, huge), reading(0, lowest, 8, 45, huge)), nil}, {example(), readings(reading(1, lowest, -1, lowest, huge)), list(0)}, {example(), readings(reading(1, lowest, huge, huge, huge)), list(0)},
		{with(), readings(reading(0, 10, 10, 60, 60), reading(1, 5, 5, 30, 30)), nil}, {with(move(1, 0, 5)), readings(reading(1, 0, 0, 0, 0), reading(0, 15, 15, 50, 50)), nil}, {with(move(1, 0, 5)), readings(reading(1, 0, 0, 1, 99), reading(0, 15, 15, 50, 50)), list(0)},
		// The readings agree two by two, but not all three.
		{house(vessels(exactly(1, 5, 9), vessel(to(0, 1), to(7, 7), 9)), step(wort.Move, 0, 1, 0, 1)), readings(reading(1, 1, 1, 0, 99), reading(0, 0, 0, 0, 99), reading(1, 0, 2, 6, 7)), list(0)},
		{house(vessels(vessel(to(1, 3), to(5, 5), 9))), readings(reading(0, 1, 2, 5, 5), reading(0, 2, 3, 5, 5), reading(0, 3, 4, 5, 5)), list(0)}, {house(vessels(vessel(to(1, 3), to(5, 5), 9))), readings(reading(0, 2, 3, 5, 5), reading(0, 1, 1, 5, 5), reading(0, 3, 4, 5, 5), reading(0, 1, 2, 5, 5)), list(0, 2)},
	} {
		if l, e := wort.Leave(x.b, x.l); !slices.Equal(l, x.want) || e != api.OK {
			t.Errorf("Leave of %v, %v: %v, %v", x.b, x.l, l, e)
		}
	}
}

func TestP6_3LeaveErrors(t *testing.T) {
	fine := reading(0, 8, 9, 0, 99)
	for _, b := range append(truthless(), example(), exact()) {
		for _, x := range []struct {
			l []wort.Reading
			e api.Errno
		}{
			{make([]wort.Reading, 5), api.ErrLimit}, {slices.Repeat(readings(fine), 5), api.ErrLimit}, {slices.Repeat(readings(reading(9, 1, 0, 1, 0)), 5), api.ErrLimit}, {make([]wort.Reading, 100), api.ErrLimit},
			{readings(reading(2, 8, 9, 0, 99)), api.ErrRange}, {readings(reading(-1, 8, 9, 0, 99)), api.ErrRange}, {readings(reading(huge, 8, 9, 0, 99)), api.ErrRange}, {readings(reading(lowest, 8, 9, 0, 99)), api.ErrRange}, {readings(fine, fine, fine, reading(len(b.Vessels), 8, 9, 0, 99)), api.ErrRange},
			{readings(reading(0, 9, 8, 0, 99)), api.ErrRange}, {readings(reading(0, 8, 9, 1, 0)), api.ErrRange}, {readings(reading(0, huge, lowest, 0, 9)), api.ErrRange}, {readings(reading(0, 8, 9, huge, lowest)), api.ErrRange}, {readings(reading(0, 1, 0, 1, 0)), api.ErrRange}, {readings(fine, reading(0, 8, 9, 99, 98)), api.ErrRange}, {readings(fine, fine, fine, reading(0, 9, 8, 0, 9)), api.ErrRange},
		} {
			if l, e := wort.Leave(b, x.l); len(l) != 0 || e != x.e {
				t.Errorf("Leave of %v, %v: %v, %v, not %v", b, x.l, l, e, x.e)
			}
		}
	}
	for _, b := range truthless() {
		for _, l := range [][]wort.Reading{nil, readings(fine), slices.Repeat(readings(fine), 4)} {
			if l, e := wort.Leave(b, l); len(l) != 0 || e != api.ErrFail {
				t.Errorf("Leave of %v: %v, %v", b, l, e)
			}
		}
	}
}

func TestP6_3Leave(t *testing.T) {
	sizes, joint := map[int]int{}, 0
	eachRead(func(b wort.Brewhouse, l []wort.Reading, of []played) {
		out, e := wort.Leave(b, l)
		if len(of) == 0 {
			if len(out) != 0 || e != api.ErrFail {
				t.Fatalf("Leave of %v, %v: %v, %v", b, l, out, e)
			}
			return
		}
		want := smallest(of, l)
		if !slices.Equal(out, want) || e != api.OK {
			t.Fatalf("Leave of %v, %v: %v, %v, not %v", b, l, out, e, want)
		}
		sizes[len(out)]++
		alone := func(r wort.Reading) bool { return !canBeLeftOut(of, readings(r), nil) }
		if len(out) > 0 && !slices.ContainsFunc(l, alone) {
			joint++
		}
	})
	if sizes[0] < 500 || sizes[1] < 200 || sizes[2] < 50 || sizes[3] < 20 || joint < 50 {
		t.Errorf("only %v sets of each size, and %d of readings that agree with some truth each", sizes, joint)
	}
}

func TestP6_4OriginalExamples(t *testing.T) {
	losses, odd := list(0, 4, 9, 14), list(0, 1, 4, 120)
	for _, x := range []struct {
		losses                []int
		gravity, spirit, want int
	}{
		{losses, 10, 15, 17}, {losses, 10, 0, 10}, {losses, 0, 0, 0}, {losses, 0, 30, 14}, {losses, 120, 20, 129}, {losses, 120, 30, 134}, {losses, 120, 0, 120}, {losses, 10, 1, 10}, {losses, 10, 2, 11}, {losses, 10, 16, 17}, {losses, 10, 12, 15}, {losses, 10, 11, 15}, {losses, 10, 10, 14}, {losses, 10, 9, 14}, {losses, 10, 29, 24}, {losses, 10, 19, 19}, {losses, 7, 13, 13},
		{list(0, 1), 5, 5, 6}, {list(0, 1), 5, 4, 5}, {list(0, 1), 5, 6, 6}, {list(0, 1), 5, 10, 6}, {list(0, 120), 0, 10, 120}, {list(0, 120), 120, 10, 240}, {list(0, 120), 3, 1, 15}, {list(0, 3), 1, 5, 3}, {list(0, 3), 1, 4, 2}, {odd, 0, 15, 3}, {odd, 0, 11, 1}, {odd, 0, 12, 2}, {odd, 0, 25, 62}, {odd, 0, 21, 16}, {list(0, 1, 2, 3, 4, 5, 6, 7, 8, 9, 10, 11), 100, 110, 111}, {list(0, 1, 2, 3, 4, 5, 6, 7, 8, 9, 10, 11), 100, 105, 111},
	} {
		if n, e := wort.Original(x.losses, x.gravity, x.spirit); n != x.want || e != api.OK {
			t.Errorf("Original of %v, %d, %d: %d, %v, not %d", x.losses, x.gravity, x.spirit, n, e, x.want)
		}
	}
}

func TestP6_4Original(t *testing.T) {
	for _, losses := range tables() {
		for spirit := range 10*(len(losses)-1) + 1 {
			for gravity := range api.MaxWortDegrees + 1 {
				want := original(losses, gravity, spirit)
				if n, e := wort.Original(losses, gravity, spirit); n != want || e != api.OK {
					t.Fatalf("Original of %v, %d, %d: %d, %v, not %d", losses, gravity, spirit, n, e, want)
				}
			}
		}
	}
}

func TestP6_4Errors(t *testing.T) {
	losses := list(0, 4, 9, 14)
	wrong := [][]int{nil, list(), list(0), list(1), list(5, 9), list(1, 2), list(-1, 2), list(-1, 0, 4), list(0, 0), list(0, 0, 4), list(0, -1), list(0, 4, 4), list(0, 4, 3), list(0, 4, 9, 8), list(0, 5, 3, 9), list(0, 121), list(0, 4, 121), list(0, 121, 122), list(0, huge), list(0, huge, lowest), list(0, lowest), list(lowest, 0, 1), list(huge, lowest), list(0, 1, 2, 3, 4, 5, 6, 7, 8, 9, 10, 10), list(0, 1, 2, 3, 4, 5, 6, 7, 8, 9, 10, 121), list(0, 200, 100)}
	long := [][]int{make([]int, 13), make([]int, 100), list(0, 1, 2, 3, 4, 5, 6, 7, 8, 9, 10, 11, 12), list(5, 4, 3, 2, 1, 0, 0, 0, 0, 0, 0, 0, 999)}
	for e, tables := range map[api.Errno][][]int{api.ErrArg: wrong, api.ErrLimit: long} {
		for _, l := range tables {
			n, f := wort.Original(l, 0, 0)
			m, g := wort.Original(l, -1, 999)
			out, h := wort.Made(l, to(0, 0), to(0, 0), ranges(0, 240))
			other, i := wort.Made(l, to(11, 10), to(-1, 999), ranges(1, 0))
			if n != 0 || m != 0 || len(out)+len(other) != 0 || f != e || g != e || h != e || i != e {
				t.Errorf("%v: %d, %v; %d, %v; %v, %v; %v, %v", l, n, f, m, g, out, h, other, i)
			}
		}
	}
	for _, x := range []struct{ gravity, spirit int }{{-1, 0}, {121, 0}, {10, -1}, {10, 31}, {-1, -1}, {121, 31}, {lowest, 0}, {huge, 0}, {10, lowest}, {10, huge}, {10, 40}} {
		if n, e := wort.Original(losses, x.gravity, x.spirit); n != 0 || e != api.ErrRange {
			t.Errorf("Original of %d, %d: %d, %v", x.gravity, x.spirit, n, e)
		}
	}
	if n, e := wort.Original(list(0, 4), 10, 11); n != 0 || e != api.ErrRange {
		t.Errorf("Original: %d, %v", n, e)
	}
	gravities := ranges(11, 10, 120, 121, 121, 121, -1, 10, -1, -1, 121, 120, 0, 121, lowest, huge, huge, lowest, huge, huge, lowest, lowest, 10, huge)
	spirits := ranges(16, 15, 30, 31, 31, 31, -1, 5, -1, -1, 31, 30, 0, 31, lowest, huge, huge, lowest, huge, huge, lowest, lowest, 15, huge)
	for i, r := range gravities {
		l, e := wort.Made(losses, r, to(15, 16), ranges(0, 240))
		m, f := wort.Made(losses, to(10, 11), spirits[i], ranges(0, 240))
		if len(l)+len(m) != 0 || e != api.ErrRange || f != api.ErrRange {
			t.Errorf("Made of %v: %v, %v; of %v: %v, %v", r, l, e, spirits[i], m, f)
		}
	}
	for _, l := range [][]wort.Range{ranges(1, 0), ranges(10, 16, 20, 18), ranges(20, 18, 10, 16), ranges(huge, lowest), ranges(0, 99, 0, 99, 1, 0), ranges(120, 119)} {
		if l, e := wort.Made(losses, to(10, 11), to(15, 16), l); len(l) != 0 || e != api.ErrRange {
			t.Errorf("Made: %v, %v", l, e)
		}
	}
}

func TestP6_4MadeExamples(t *testing.T) {
	losses := list(0, 4, 9, 14)
	for _, x := range []struct {
		losses          []int
		gravity, spirit wort.Range
		brewings        []wort.Range
		want            []int
	}{
		{losses, to(10, 11), to(15, 16), ranges(10, 16, 18, 20), list(1)}, {losses, to(10, 11), to(15, 16), ranges(17, 17, 18, 18, 19, 19, 16, 19, 16, 16), list(0, 1, 3)}, {losses, to(10, 10), to(0, 30), ranges(24, 99, 25, 99, 0, 10), list(0, 2)}, {losses, to(10, 10), to(0, 30), ranges(0, 9, 10, 10, 24, 24, 25, 25), list(1, 2)},
		{losses, to(10, 10), to(0, 30), nil, nil}, {losses, to(10, 10), to(0, 30), ranges(), nil}, {losses, to(0, 120), to(0, 30), ranges(134, 134, 135, 999, 0, 0, 135, huge, 134, huge), list(0, 2, 4)}, {losses, to(0, 0), to(0, 0), ranges(0, huge, 0, 0, 1, huge, huge, huge), list(0, 1)},
		{list(0, 120), to(0, 0), to(5, 6), ranges(60, 60, 61, 71, 72, 72, 59, 59, 73, 73), list(0, 2)}, {list(0, 120), to(0, 10), to(5, 6), ranges(60, 60, 61, 71, 71, 71, 70, 71, 71, 72, 82, 82, 83, 83), list(0, 1, 3, 4, 5)}, {list(0, 120), to(120, 120), to(10, 10), ranges(240, 240, 239, 239, 241, 241), list(0)}, {losses, to(10, 10), to(15, 15), slices.Repeat(ranges(17, 17), 5), list(0, 1, 2, 3, 4)},
	} {
		if l, e := wort.Made(x.losses, x.gravity, x.spirit, x.brewings); !slices.Equal(l, x.want) || e != api.OK {
			t.Errorf("Made of %v, %v, %v, %v: %v, %v", x.losses, x.gravity, x.spirit, x.brewings, l, e)
		}
	}
}

// beers calls the function for gravities and spirits of each table, and with brewings that are often near.
func beers(do func(losses []int, gravity, spirit wort.Range, brewings []wort.Range)) {
	random := rand.New(rand.NewSource(5))
	part := func(most, wide int) wort.Range {
		n := between(random, 0, most)
		return to(n, min(most, n+random.Intn(wide)))
	}
	for _, losses := range tables() {
		for i := range 20 {
			gravity, spirit := part(api.MaxWortDegrees, 1+i%3*6), part(10*(len(losses)-1), 1+i%4*5)
			low, high := original(losses, gravity.Lo, spirit.Lo), original(losses, gravity.Hi, spirit.Hi)
			var l []wort.Range
			for range random.Intn(12) {
				n := max(0, low-3+random.Intn(high-low+7))
				l = append(l, to(n, n+random.Intn(4)))
			}
			do(losses, gravity, spirit, l)
		}
	}
}

func TestP6_4Made(t *testing.T) {
	can, cannot, gaps := 0, 0, 0
	beers(func(losses []int, gravity, spirit wort.Range, brewings []wort.Range) {
		want := made(losses, gravity, spirit, brewings)
		if l, e := wort.Made(losses, gravity, spirit, brewings); !slices.Equal(l, want) || e != api.OK {
			t.Fatalf("Made of %v, %v, %v, %v: %v, %v, not %v", losses, gravity, spirit, brewings, l, e, want)
		}
		can += len(want)
		cannot += len(brewings) - len(want)
		low, high := original(losses, gravity.Lo, spirit.Lo), original(losses, gravity.Hi, spirit.Hi)
		for i, r := range brewings {
			if !slices.Contains(want, i) && in(r.Lo, to(low, high)) && in(r.Hi, to(low, high)) {
				gaps++
			}
		}
	})
	if can < 1000 || cannot < 1000 || gaps < 50 {
		t.Errorf("only %d brewings can have made it, and %d cannot; %d of them between some that can", can, cannot, gaps)
	}
}
