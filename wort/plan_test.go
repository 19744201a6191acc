package wort_test

import (
	"math/rand"
	"slices"
	"testing"

	"saccharum/api"
	"saccharum/wort"
)

// isFewest checks that Fewest has so many steps, or none if the number is below 0, and that ProvePlan agrees.
func isFewest(t *testing.T, b wort.Brewhouse, gallons, gravity, want int) {
	l, e := wort.Fewest(b, gallons, gravity)
	if want < 0 {
		if len(l) != 0 || e != api.ErrSink {
			t.Fatalf("Fewest of %v, %d, %d: %v, %v", b, gallons, gravity, l, e)
		}
		return
	}
	end, is := isPlan(b, l)
	if e != api.OK || len(l) != want || !is || !has(end, gallons, gravity) {
		t.Fatalf("Fewest of %v, %d, %d: %v, %v, not %d steps", b, gallons, gravity, l, e, want)
	}
	if !wort.ProvePlan(b, l, gallons, gravity, want) || !wort.ProvePlan(b, l, gallons, gravity, huge) || wort.ProvePlan(b, l, gallons, gravity, want-1) || wort.ProvePlan(b, l, gallons, gravity, lowest) {
		t.Fatalf("ProvePlan of %v, %v, %d, %d", b, l, gallons, gravity)
	}
}

func TestP6_5FewestExamples(t *testing.T) {
	full, thin := exact(), exact()
	full.Vessels[1].Room = 4
	thin.Steps = steps(step(wort.Boil, 0, 0, 58, 60), step(wort.Move, 1, 0, 59, 60))
	empty := vessels(exactly(0, 120, 60), exactly(60, 120, 60), exactly(0, 0, 0), exactly(1, 0, 1))
	swap := vessels(exactly(5, 60, 5), exactly(5, 20, 5), exactly(0, 0, 3))
	for _, x := range []struct {
		b                      wort.Brewhouse
		gallons, gravity, want int
	}{
		{exact(), 12, 50, 1}, {exact(), 15, 50, 1}, {exact(), 8, 45, 2}, {exact(), 5, 30, 0}, {exact(), 10, 60, 0}, {exact(), 12, 13, 1}, {exact(), 3, 60, 1}, {exact(), 20, 30, 1}, {exact(), 20, 38, 2}, {exact(), 9, 45, 2}, {exact(), 7, 60, 1}, {exact(), 1, 30, 1}, {exact(), 1, 60, -1},
		{thin, 12, 50, 1}, {thin, 15, 50, 1}, {thin, 8, 45, 2}, {thin, 5, 30, 0}, {with(), 12, 50, 1}, {with(boil(1, 5)), 5, 30, 0},
		{house(vessels(exactly(4, 0, 9))), 7, 0, 1}, {house(vessels(exactly(4, 0, 9))), 9, 0, 1}, {house(vessels(exactly(0, 50, 3))), 3, 0, 1}, {house(vessels(exactly(0, 50, 60))), 60, 0, 1}, {house(vessels(exactly(1, 120, 60))), 60, 2, 1}, {house(vessels(exactly(60, 120, 60))), 60, 120, 0},
		{house(empty), 60, 120, 0}, {house(empty), 59, 120, 1}, {house(empty), 1, 120, 1}, {house(empty), 1, 0, 0}, {house(empty), 60, 0, 1}, {house(empty), 60, 118, 2}, {house(empty), 60, 2, 2}, {house(empty), 30, 60, 2},
		{house(swap), 5, 44, 2}, {house(swap), 5, 36, 2}, {house(swap), 3, 60, 1}, {house(swap), 2, 20, 1},
		{exact(), 60, 60, -1}, {exact(), 10, 61, -1}, {exact(), 21, 29, -1}, {exact(), 20, 120, -1}, {exact(), 6, 42, -1}, {exact(), 1, 45, 2}, {exact(), 1, 44, 2}, {exact(), 1, 59, -1}, {house(vessels(exactly(4, 0, 9))), 10, 0, -1}, {house(vessels(exactly(4, 0, 9))), 3, 0, -1}, {house(vessels(exactly(4, 0, 9))), 4, 1, -1}, {house(vessels(exactly(0, 50, 3))), 1, 50, -1}, {house(swap), 6, 44, -1},
		{full, 10, 60, -1}, {full, 12, 50, -1}, {full, 5, 30, -1}, {house(vessels(exactly(3, 0, 9), exactly(1, 0, 0))), 3, 0, -1}, {house(vessels(exactly(3, 0, 9), exactly(1, 0, 0))), 4, 0, -1},
	} {
		isFewest(t, x.b, x.gallons, x.gravity, x.want)
	}
}

func TestP6_5FewestErrors(t *testing.T) {
	for name, b := range map[string]wort.Brewhouse{
		"gallons of the first vessel": example(),
		"gallons of the last vessel":  house(vessels(exactly(10, 60, 20), vessel(to(5, 6), to(30, 30), 12))),
		"degrees of the first vessel": house(vessels(vessel(to(10, 10), to(60, 61), 20), exactly(5, 30, 12))),
		"degrees of the last vessel":  house(vessels(exactly(10, 60, 20), vessel(to(5, 5), to(29, 30), 12))),
		"degrees of no gallons":       house(vessels(exactly(10, 60, 20), vessel(to(0, 0), to(0, 1), 12))),
		"gallons without room":        house(vessels(exactly(10, 60, 20), vessel(to(1, 2), to(0, 0), 0))),
	} {
		for _, x := range []brewed{{12, 50}, {10, 60}, {5, 30}, {60, 120}} {
			if l, e := wort.Fewest(b, x.gallons, x.gravity); len(l) != 0 || e != api.ErrRange {
				t.Errorf("%s: Fewest of %d, %d: %v, %v", name, x.gallons, x.gravity, l, e)
			}
			if wort.ProvePlan(b, steps(water(0, 2)), x.gallons, x.gravity, 9) || wort.ProvePlan(b, nil, x.gallons, x.gravity, 9) {
				t.Errorf("%s: ProvePlan of %d, %d", name, x.gallons, x.gravity)
			}
		}
	}
	full := exact()
	full.Vessels[1].Room = 4
	empty := house(vessels(exactly(0, 0, 9), exactly(10, 60, 10)))
	for _, b := range []wort.Brewhouse{exact(), example(), full, empty} {
		for _, x := range []brewed{{0, 0}, {0, 60}, {61, 0}, {61, 60}, {10, 121}, {10, -1}, {-1, 0}, {-1, -1}, {0, 121}, {61, 121}, {lowest, 60}, {huge, 60}, {10, lowest}, {10, huge}, {lowest, huge}} {
			if l, e := wort.Fewest(b, x.gallons, x.gravity); len(l) != 0 || e != api.ErrRange {
				t.Errorf("Fewest of %v, %d, %d: %v, %v", b, x.gallons, x.gravity, l, e)
			}
		}
	}
}

// TestP6_5Fewest has all worts of small brewhouses.
func TestP6_5Fewest(t *testing.T) {
	random := rand.New(rand.NewSource(6))
	counts := map[int]int{}
	for _, b := range exactHouses() {
		worts := fewest(b)
		for gallons := 1; gallons <= api.MaxWortGallons; gallons++ {
			for gravity := range api.MaxWortDegrees + 1 {
				want, found := worts[brewed{gallons: gallons, gravity: gravity}]
				if !found {
					want = -1
				}
				if found || random.Intn(12) == 0 {
					isFewest(t, b, gallons, gravity, want)
					counts[want]++
				}
			}
		}
	}
	if counts[-1] < 5000 || counts[0] < 50 || counts[1] < 500 || counts[2] < 2000 {
		t.Errorf("only %v worts with so many steps", counts)
	}
}

// TestP6_5Widest has brewhouses with the most steps to try.
func TestP6_5Widest(t *testing.T) {
	half := house(slices.Repeat(vessels(exactly(30, 120, 60)), 4))
	for i, x := range list(120, 97, 53, 11) {
		half.Vessels[i].Degrees = to(x, x)
	}
	two := house(vessels(exactly(60, 120, 60), exactly(0, 0, 60), exactly(60, 7, 60), exactly(0, 120, 60)))
	random := rand.New(rand.NewSource(7))
	for _, b := range []wort.Brewhouse{half, two} {
		worts := fewest(b)
		for range 60 {
			x := brewed{gallons: 1 + random.Intn(60), gravity: random.Intn(121)}
			want, found := worts[x]
			if !found {
				want = -1
			}
			isFewest(t, b, x.gallons, x.gravity, want)
		}
	}
	isFewest(t, half, 60, 109, 1)
	isFewest(t, half, 60, 114, -1)
}

func TestP6_5ProvePlanExamples(t *testing.T) {
	full := exact()
	full.Vessels[1].Room = 4
	turns := slices.Repeat(steps(move(0, 1, 7), move(1, 0, 7)), 3)
	for _, x := range []struct {
		b                      wort.Brewhouse
		l                      []wort.Step
		gallons, gravity, most int
		want                   bool
	}{
		{exact(), steps(water(0, 2)), 12, 50, 1, true}, {exact(), steps(water(0, 2)), 5, 30, 1, true}, {exact(), steps(water(0, 2)), 10, 60, 1, false}, {exact(), steps(water(0, 2)), 12, 51, 1, false}, {exact(), steps(water(0, 2)), 12, 49, 1, false}, {exact(), steps(water(0, 2)), 11, 50, 1, false},
		{exact(), steps(water(0, 1), water(0, 1)), 12, 50, 2, true}, {exact(), steps(water(0, 1), water(0, 1)), 12, 50, 1, false}, {exact(), steps(water(0, 2)), 12, 50, 0, false}, {exact(), steps(water(0, 2)), 12, 50, -1, false}, {exact(), steps(water(0, 2)), 12, 50, lowest, false}, {exact(), steps(water(0, 2)), 12, 50, huge, true},
		{exact(), nil, 10, 60, 0, true}, {exact(), steps(), 10, 60, 0, true}, {exact(), nil, 5, 30, 0, true}, {exact(), nil, 10, 60, -1, false}, {exact(), nil, 10, 60, lowest, false}, {exact(), nil, 10, 59, 9, false}, {exact(), nil, 5, 60, 9, false}, {exact(), nil, 15, 50, 9, false},
		{exact(), steps(move(0, 1, 4), water(0, 2)), 8, 45, 2, true}, {exact(), steps(move(0, 1, 4), water(0, 2)), 9, 43, 2, true}, {exact(), steps(move(0, 1, 4), water(0, 2)), 6, 60, 2, false}, {exact(), steps(move(0, 1, 7), move(1, 0, 12)), 15, 50, 2, true}, {exact(), steps(move(1, 0, 5)), 15, 50, 1, true},
		{exact(), steps(water(0, 3)), 12, 50, 9, false}, {exact(), steps(water(0, 10)), 20, 30, 9, true}, {exact(), steps(water(0, 11)), 21, 29, 9, false}, {exact(), steps(water(0, 11)), 5, 30, 9, false}, {exact(), steps(water(0, 61)), 71, 8, 9, false}, {exact(), steps(water(0, huge)), 5, 30, 9, false},
		{exact(), steps(boil(0, 2)), 8, 75, 9, false}, {exact(), steps(boil(0, 2), water(0, 2)), 10, 60, 9, false}, {exact(), steps(boil(0, 2)), 5, 30, 9, false}, {exact(), steps(water(0, 0)), 10, 60, 9, false}, {exact(), steps(move(0, 1, 0)), 10, 60, 9, false}, {exact(), steps(water(0, 2), water(0, 0)), 12, 50, 9, false}, {exact(), steps(water(0, -2)), 8, 75, 9, false}, {exact(), steps(move(0, 1, -1)), 11, 57, 9, false}, {exact(), steps(move(0, 1, lowest)), 5, 30, 9, false},
		{exact(), steps(step(wort.Water, 0, 0, 2, 3)), 12, 50, 9, false}, {exact(), steps(step(wort.Water, 0, 0, 1, 2)), 12, 50, 9, false}, {exact(), steps(step(wort.Water, 0, 0, 2, 1)), 12, 50, 9, false}, {exact(), steps(step(wort.Water, 0, 0, 2, huge)), 12, 50, 9, false}, {exact(), steps(step(wort.Move, 1, 0, 4, 5)), 15, 50, 9, false},
		{exact(), steps(water(2, 2)), 10, 60, 9, false}, {exact(), steps(water(-1, 2)), 10, 60, 9, false}, {exact(), steps(water(huge, 2)), 10, 60, 9, false}, {exact(), steps(step(wort.Water, 0, 1, 2, 2)), 10, 60, 9, false}, {exact(), steps(step(wort.Water, 1, 0, 2, 2)), 12, 50, 9, false}, {exact(), steps(move(0, 0, 2)), 10, 60, 9, false}, {exact(), steps(move(0, 2, 2)), 8, 60, 9, false}, {exact(), steps(move(2, 0, 2)), 5, 30, 9, false}, {exact(), steps(move(0, -1, 2)), 8, 60, 9, false}, {exact(), steps(move(lowest, 0, 2)), 5, 30, 9, false},
		{exact(), steps(step(3, 0, 0, 2, 2)), 10, 60, 9, false}, {exact(), steps(step(3, 0, 1, 2, 2)), 10, 60, 9, false}, {exact(), steps(step(-1, 0, 0, 2, 2)), 10, 60, 9, false}, {exact(), steps(step(-1, 0, 1, 2, 2)), 10, 60, 9, false}, {exact(), steps(step(huge, 0, 1, 2, 2)), 10, 60, 9, false}, {exact(), steps(step(lowest, 0, 0, 2, 2)), 10, 60, 9, false},
		{exact(), steps(move(1, 0, 6)), 16, 50, 9, false}, {exact(), steps(move(1, 0, 6)), 10, 60, 9, false}, {exact(), steps(move(0, 1, 8)), 13, 49, 9, false}, {exact(), steps(move(0, 1, 8), move(1, 0, 8)), 10, 60, 9, false}, {exact(), steps(move(0, 1, 8)), 2, 60, 9, false}, {exact(), steps(move(1, 0, 6), water(1, 1)), 16, 50, 9, false}, {exact(), steps(water(1, 8), move(1, 0, 1)), 10, 60, 9, false},
		{exact(), turns, 10, 50, 6, true}, {exact(), turns, 5, 50, 6, true}, {exact(), turns, 5, 30, 6, false}, {exact(), turns, 3, 60, 6, false}, {exact(), turns[:5], 3, 50, 5, true}, {exact(), turns[:5], 3, 50, 4, false}, {exact(), slices.Repeat(steps(water(0, 2)), 5), 20, 30, 5, true}, {exact(), slices.Repeat(steps(water(0, 2)), 6), 5, 30, 6, false}, {exact(), slices.Repeat(steps(water(0, 2)), 50), 5, 30, 50, false},
		{exact(), steps(water(0, 2)), 61, 50, 9, false}, {exact(), steps(water(0, 2)), 12, -1, 9, false}, {exact(), steps(water(0, 2)), -1, 50, 9, false}, {exact(), steps(water(0, 2)), huge, lowest, 9, false}, {exact(), steps(move(1, 0, 5)), 0, 30, 9, false},
		{example(), steps(water(0, 2)), 12, 50, 9, false}, {example(), nil, 5, 30, 9, false}, {full, nil, 10, 60, 9, false}, {full, steps(move(1, 0, 1)), 4, 30, 9, false}, {with(boil(1, 60)), steps(water(0, 2)), 12, 50, 1, true}, {with(step(wort.Water, 0, 0, 0, 2)), steps(water(0, 2)), 12, 50, 1, true}, {wort.Brewhouse{}, nil, 10, 60, 9, false},
	} {
		if is := wort.ProvePlan(x.b, x.l, x.gallons, x.gravity, x.most); is != x.want {
			t.Errorf("ProvePlan of %v, %v, %d, %d, %d: %t", x.b, x.l, x.gallons, x.gravity, x.most, is)
		}
	}
}

// anyPlan is a plan of some steps, which now and then has a mistake.
func anyPlan(random *rand.Rand, b wort.Brewhouse) []wort.Step {
	var l []wort.Step
	all := allSteps(b)
	for range random.Intn(7) {
		for range 40 {
			s := all[random.Intn(len(all))]
			if random.Intn(3) > 0 {
				n := 1 + random.Intn(5)
				s.Gallons = to(n, n)
			}
			if _, is := isPlan(b, append(slices.Clone(l), s)); is {
				l = append(l, s)
				break
			}
		}
	}
	if len(l) > 0 && random.Intn(3) == 0 {
		s := &l[random.Intn(len(l))]
		by := 1 - 2*random.Intn(2)
		switch random.Intn(5) {
		case 0:
			s.Gallons = to(s.Gallons.Lo+by, s.Gallons.Lo+by)
		case 1:
			s.Gallons.Hi += by
		case 2:
			s.Kind += by
		case 3:
			s.From += by
		case 4:
			s.To += by
		}
	}
	return l
}

func TestP6_5ProvePlan(t *testing.T) {
	random := rand.New(rand.NewSource(8))
	plans, made, wrong := 0, 0, 0
	for _, b := range exactHouses() {
		for range 300 {
			l := anyPlan(random, b)
			end, is := isPlan(b, l)
			x, most := brewed{gallons: random.Intn(12), gravity: random.Intn(121)}, len(l)+random.Intn(4)-1
			if is {
				s := end[random.Intn(len(end))]
				x = brewed{gallons: max(1, s.Gallons), gravity: max(0, s.Gravity+max(0, random.Intn(6)-4))}
				plans++
			} else {
				wrong++
			}
			want := is && len(l) <= most && has(end, x.gallons, x.gravity)
			if want {
				made++
			}
			if got := wort.ProvePlan(b, l, x.gallons, x.gravity, most); got != want {
				t.Fatalf("ProvePlan of %v, %v, %d, %d, %d: %t", b, l, x.gallons, x.gravity, most, got)
			}
		}
	}
	if plans < 5000 || made < 2000 || wrong < 500 {
		t.Errorf("only %d plans, %d of which make the wort, and %d lists that are none", plans, made, wrong)
	}
}

// TestP6_5NoVessel asks for no gallons, which only a vessel that there is not has.
func TestP6_5NoVessel(t *testing.T) {
	for _, x := range []struct {
		b wort.Brewhouse
		l []wort.Step
	}{
		{exact(), nil}, {exact(), steps(move(1, 0, 4))}, {house(vessels(exactly(0, 120, 9))), steps(water(0, 1))}, {house(vessels(exactly(1, 0, 9))), nil},
	} {
		if wort.ProvePlan(x.b, x.l, 0, 0, 9) {
			t.Errorf("ProvePlan of %v, %v, 0, 0", x.b, x.l)
		}
	}
}
