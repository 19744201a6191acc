package wort_test

import (
	"math/rand"
	"reflect"
	"slices"
	"testing"

	"saccharum/api"
	"saccharum/wort"
)

// cut is the brewhouse with its first steps alone, and the truth of it.
func cut(b wort.Brewhouse, u wort.Truth, count int) (wort.Brewhouse, wort.Truth) {
	return house(b.Vessels, b.Steps[:count]...), truth(u.Gallons, u.Degrees, u.Moved[:count])
}

// stages are what the vessels have after 0, 1, .. steps of a truth, as Play has it.
func stages(t *testing.T, b wort.Brewhouse, u wort.Truth) (rows [][]wort.State) {
	for count := range len(b.Steps) + 1 {
		l, e := wort.Play(cut(b, u, count))
		if e != api.OK || len(l) != len(b.Vessels) {
			t.Fatalf("Play of %v, %v, %d steps: %v, %v", b, u, count, l, e)
		}
		rows = append(rows, l)
	}
	return rows
}

// eachStep calls the function for each step of some truths of each brewhouse, with what the vessels have before and after it.
func eachStep(t *testing.T, do func(s wort.Step, n int, before, after []wort.State)) {
	random := rand.New(rand.NewSource(9))
	eachHouse(func(b wort.Brewhouse, of []played) {
		for range min(30, len(of)) {
			u := of[random.Intn(len(of))].truth
			rows := stages(t, b, u)
			for i, s := range b.Steps {
				do(s, u.Moved[i], rows[i], rows[i+1])
			}
		}
	})
}

func TestP6_6InEachTruth(t *testing.T) {
	eachHouse(func(b wort.Brewhouse, of []played) {
		l, e := wort.Bounds(b)
		if (e == api.OK) != (len(of) > 0) {
			t.Fatalf("Bounds of %v: %v, %v", b, l, e)
		}
		reached := map[[3]int]bool{}
		for _, p := range of {
			end, e := wort.Play(b, p.truth)
			if e != api.OK {
				t.Fatalf("Play of %v, %v: %v", b, p.truth, e)
			}
			for i, s := range end {
				for j, n := range list(s.Gallons, s.Extract, s.Gravity) {
					r := []wort.Range{l[i].Gallons, l[i].Extract, l[i].Gravity}[j]
					if !in(n, r) {
						t.Fatalf("%v, %v: %v in the vessel %d, but the bounds are %v", b, p.truth, s, i, l[i])
					}
					reached[[3]int{i, j, 0}] = reached[[3]int{i, j, 0}] || n == r.Lo
					reached[[3]int{i, j, 1}] = reached[[3]int{i, j, 1}] || n == r.Hi
				}
			}
		}
		for k, is := range reached {
			if !is {
				t.Fatalf("Bounds of %v: %v, but no truth reaches the end %v", b, l, k)
			}
		}
	})
}

func TestP6_7NoneIsLost(t *testing.T) {
	lost, rounded := 0, 0
	eachHouse(func(b wort.Brewhouse, of []played) {
		for _, p := range of {
			gallons, extract := 0, 0
			for i, n := range p.truth.Gallons {
				gallons += n
				extract += n * p.truth.Degrees[i]
			}
			for i, s := range b.Steps {
				switch s.Kind {
				case wort.Water:
					gallons += p.truth.Moved[i]
				case wort.Boil:
					gallons -= p.truth.Moved[i]
					lost += p.truth.Moved[i]
				}
			}
			l, e := wort.Play(b, p.truth)
			for _, s := range l {
				gallons -= s.Gallons
				extract -= s.Extract
				if s.Gallons > 0 && s.Extract%s.Gallons > 0 {
					rounded++
				}
			}
			if gallons != 0 || extract != 0 || e != api.OK {
				t.Fatalf("Play of %v, %v: %v, %v; %d gallons and an extract of %d are missing", b, p.truth, l, e, gallons, extract)
			}
		}
	})
	if lost < 5000 || rounded < 5000 {
		t.Errorf("only %d gallons were boiled off, and %d gravities rounded", lost, rounded)
	}
}

func TestP6_8Readings(t *testing.T) {
	exactReading := func(p played, at int) wort.Reading {
		s := p.end()[at]
		return reading(at, s.Gallons, s.Gallons, s.Gravity, s.Gravity)
	}
	random := rand.New(rand.NewSource(10))
	eachHouse(func(b wort.Brewhouse, of []played) {
		for range min(10, len(of)) {
			p := of[random.Intn(len(of))]
			var l []wort.Reading
			for range random.Intn(api.MaxWortReadings + 1) {
				l = append(l, exactReading(p, random.Intn(len(b.Vessels))))
			}
			if out, e := wort.Leave(b, l); len(out) != 0 || e != api.OK {
				t.Fatalf("Leave of %v, %v: %v, %v, but the truth %v agrees", b, l, out, e, p.truth)
			}
		}
	})
	left := 0
	eachRead(func(b wort.Brewhouse, l []wort.Reading, of []played) {
		out, e := wort.Leave(b, l)
		if len(of) == 0 {
			return
		}
		if e != api.OK || !slices.IsSorted(out) || len(slices.Compact(slices.Clone(out))) != len(out) || !canBeLeftOut(of, l, out) {
			t.Fatalf("Leave of %v, %v: %v, but no truth agrees with the others", b, l, out)
		}
		for _, other := range subsets(len(l)) {
			if len(other) < len(out) && canBeLeftOut(of, l, other) {
				t.Fatalf("Leave of %v, %v: %v, but %v can be left out", b, l, out, other)
			}
		}
		var others []wort.Reading
		for i, r := range l {
			if !slices.Contains(out, i) {
				others = append(others, r)
			}
		}
		if again, e := wort.Leave(b, others); len(again) != 0 || e != api.OK {
			t.Fatalf("Leave of %v, %v: %v, %v, without those of %v", b, others, again, e, out)
		}
		left += len(out)
	})
	if left < 500 {
		t.Errorf("only %d readings were left out", left)
	}
}

func TestP6_9Mixing(t *testing.T) {
	lost, risen, moved := 0, 0, 0
	check := func(s wort.Step, n int, before, after []wort.State) {
		if s.Kind != wort.Move {
			return
		}
		from, into := before[s.From], before[s.To]
		least, greatest := min(from.Gravity, into.Gravity), max(from.Gravity, into.Gravity)
		rest, mixture := after[s.From], after[s.To]
		if !in(mixture.Gravity, to(least-1, greatest)) || rest.Gallons > 0 && !in(rest.Gravity, to(from.Gravity, from.Gravity+1)) {
			t.Fatalf("a Move of %d by %v: %v after %v", n, s, after, before)
		}
		if rest.Gallons == 0 && rest.Extract > 0 || mixture.Gallons != into.Gallons+n || rest.Gallons != from.Gallons-n {
			t.Fatalf("a Move of %d by %v: %v after %v", n, s, after, before)
		}
		moved++
		if n > 0 && mixture.Gravity < least {
			lost++
		}
		if rest.Gravity > from.Gravity {
			risen++
		}
	}
	eachStep(t, check)
	if moved < 2000 {
		t.Errorf("only %d Moves", moved)
	}
	// Small quantities, whose gravities are between two numbers, lose and gain the most by rounding.
	for x := range 115 {
		b := house(vessels(exactly(1+x%3, 5+x, 60), exactly(1+x%4, 5+x, 60), exactly(0, 9, 60)), water(0, 1), water(1, 1), move(0, 1, 1), move(1, 0, 2), move(1, 2, 1), move(2, 0, 1))
		u := truth(list(1+x%3, 1+x%4, 0), list(5+x, 5+x, 9), list(1, 1, 1, 2, 1, 1))
		if _, e := wort.Play(b, u); e != api.OK {
			continue
		}
		rows := stages(t, b, u)
		for i, s := range b.Steps {
			check(s, u.Moved[i], rows[i], rows[i+1])
		}
	}
	if lost < 5 || risen < 50 {
		t.Errorf("%d gravities fell by rounding, and %d rose", lost, risen)
	}
}

func TestP6_10Boiling(t *testing.T) {
	stronger, weaker := 0, 0
	eachStep(t, func(s wort.Step, n int, before, after []wort.State) {
		for i, x := range before {
			y := after[i]
			if s.Kind == wort.Boil && y.Gravity < x.Gravity || s.Kind == wort.Water && y.Gravity > x.Gravity || s.Kind != wort.Move && x.Extract != y.Extract {
				t.Fatalf("%v of %d: %v after %v", s, n, after, before)
			}
			if s.Kind == wort.Boil && y.Gravity > x.Gravity {
				stronger++
			}
			if s.Kind == wort.Water && y.Gravity < x.Gravity {
				weaker++
			}
		}
	})
	if stronger < 200 || weaker < 200 {
		t.Errorf("only %d gravities rose by boiling, and %d fell with water", stronger, weaker)
	}
}

func TestP6_11Beer(t *testing.T) {
	for _, losses := range tables() {
		at := func(gravity, spirit int) int {
			n, e := wort.Original(losses, gravity, spirit)
			if e != api.OK {
				t.Fatalf("Original of %v, %d, %d: %v", losses, gravity, spirit, e)
			}
			return n
		}
		most := 10 * (len(losses) - 1)
		for gravity := range api.MaxWortDegrees + 1 {
			if at(gravity, 0) != gravity {
				t.Fatalf("Original of %v, %d without spirit: %d", losses, gravity, at(gravity, 0))
			}
			for k, lost := range losses {
				if at(gravity, 10*k) != gravity+lost {
					t.Fatalf("Original of %v, %d, %d: %d", losses, gravity, 10*k, at(gravity, 10*k))
				}
			}
			for spirit := range most + 1 {
				n := at(gravity, spirit)
				if n < gravity || spirit < most && at(gravity, spirit+1) < n || gravity < api.MaxWortDegrees && at(gravity+1, spirit) < n {
					t.Fatalf("Original of %v, %d, %d: %d, but less with more", losses, gravity, spirit, n)
				}
			}
		}
	}
}

// longer is the range with a number more, or two, as far as it may be.
func longer(random *rand.Rand, r wort.Range, most int) wort.Range {
	if random.Intn(2) == 0 && r.Lo > 0 && r.Hi-r.Lo < api.MaxWortWide {
		r.Lo--
	}
	if r.Hi < most && r.Hi-r.Lo < api.MaxWortWide {
		r.Hi++
	}
	return r
}

// wider is the brewhouse with a wider range, as long as it does not have too many truths.
func wider(random *rand.Rand, b wort.Brewhouse) wort.Brewhouse {
	c := house(slices.Clone(b.Vessels), slices.Clone(b.Steps)...)
	i := random.Intn(2*len(c.Vessels) + len(c.Steps))
	switch v := len(c.Vessels); {
	case i < v:
		c.Vessels[i].Gallons = longer(random, c.Vessels[i].Gallons, api.MaxWortGallons)
	case i < 2*v:
		c.Vessels[i-v].Degrees = longer(random, c.Vessels[i-v].Degrees, api.MaxWortDegrees)
	default:
		c.Steps[i-2*v].Gallons = longer(random, c.Steps[i-2*v].Gallons, api.MaxWortGallons)
	}
	if sizes(c) > api.MaxWortTruths {
		return b
	}
	return c
}

// inside reports whether all bounds are within the others.
func inside(narrow, wide []wort.Bound) bool {
	is := func(r, q wort.Range) bool { return q.Lo <= r.Lo && r.Hi <= q.Hi }
	return slices.EqualFunc(narrow, wide, func(a, b wort.Bound) bool {
		return is(a.Gallons, b.Gallons) && is(a.Extract, b.Extract) && is(a.Gravity, b.Gravity)
	})
}

func TestP6_12Wider(t *testing.T) {
	random := rand.New(rand.NewSource(11))
	more, fewer := 0, 0
	eachRead(func(b wort.Brewhouse, l []wort.Reading, of []played) {
		c := wider(random, b)
		narrow, e := wort.Bounds(b)
		wide, f := wort.Bounds(c)
		out, g := wort.Leave(b, l)
		other, h := wort.Leave(c, l)
		if e == api.OK && (f != api.OK || !inside(narrow, wide)) || g == api.OK && (h != api.OK || len(other) > len(out)) {
			t.Fatalf("%v and %v: %v, %v; %v, %v; %v, %v; %v, %v", b, c, narrow, e, wide, f, out, g, other, h)
		}
		if e == api.OK && !slices.Equal(narrow, wide) {
			more++
		}
		if g == api.OK && len(other) < len(out) {
			fewer++
		}
	})
	if more < 300 || fewer < 20 {
		t.Errorf("only %d bounds were wider, and %d sets smaller", more, fewer)
	}
	beers(func(losses []int, gravity, spirit wort.Range, brewings []wort.Range) {
		l, e := wort.Made(losses, gravity, spirit, brewings)
		wide := slices.Clone(brewings)
		for i := range wide {
			wide[i] = to(max(0, wide[i].Lo-random.Intn(3)), wide[i].Hi+random.Intn(3))
		}
		m, f := wort.Made(losses, gravity, spirit, wide)
		lost := func(n int) bool { return !slices.Contains(m, n) }
		if e != api.OK || f != api.OK || slices.ContainsFunc(l, lost) {
			t.Fatalf("Made of %v, %v, %v, %v: %v, %v; of %v: %v, %v", losses, gravity, spirit, brewings, l, e, wide, m, f)
		}
	})
}

// TestP6_13Fewest tries all plans with fewer steps, by ProvePlan.
func TestP6_13Fewest(t *testing.T) {
	random := rand.New(rand.NewSource(12))
	for range 25 {
		b := exactHouse(random, 1+random.Intn(3), 4+random.Intn(4))
		all := allSteps(b)
		for _, v := range b.Vessels {
			if v.Gallons.Lo > 0 {
				isFewest(t, b, v.Gallons.Lo, v.Degrees.Lo, 0)
			}
		}
		for range 40 {
			x := brewed{gallons: 1 + random.Intn(8), gravity: random.Intn(121)}
			l, e := wort.Fewest(b, x.gallons, x.gravity)
			if e != api.OK {
				l = make([]wort.Step, api.MaxWortPlan+1)
			} else if !wort.ProvePlan(b, l, x.gallons, x.gravity, api.MaxWortPlan) {
				t.Fatalf("Fewest of %v, %d, %d: %v", b, x.gallons, x.gravity, l)
			}
			for _, first := range all {
				if _, is := isPlan(b, steps(first)); len(l) < 2 || !is {
					continue
				}
				if wort.ProvePlan(b, steps(first), x.gallons, x.gravity, 1) {
					t.Fatalf("Fewest of %v, %d, %d: %v, %v, but %v makes it", b, x.gallons, x.gravity, l, e, first)
				}
				for _, second := range all {
					if len(l) == 3 && second.Gallons.Lo < 9 && wort.ProvePlan(b, steps(first, second), x.gallons, x.gravity, 2) {
						t.Fatalf("Fewest of %v, %d, %d: %v, but %v and %v make it", b, x.gallons, x.gravity, e, first, second)
					}
				}
			}
		}
	}
}

func TestP6_14Apart(t *testing.T) {
	steps := 0
	eachStep(t, func(s wort.Step, n int, before, after []wort.State) {
		for i, x := range before {
			if i != s.From && i != s.To && after[i] != x {
				t.Fatalf("%v of %d: %v after %v", s, n, after, before)
			}
			if i != s.From && i != s.To {
				steps++
			}
		}
	})
	if steps < 3000 {
		t.Errorf("only %d vessels apart", steps)
	}
}

// TestAnyOrder lists the readings in another order: as many have to be left out.
func TestAnyOrder(t *testing.T) {
	random := rand.New(rand.NewSource(13))
	eachRead(func(b wort.Brewhouse, l []wort.Reading, of []played) {
		out, e := wort.Leave(b, l)
		random.Shuffle(len(l), func(i, j int) { l[i], l[j] = l[j], l[i] })
		if other, f := wort.Leave(b, l); len(other) != len(out) || f != e {
			t.Fatalf("Leave of %v, %v: %v, %v; in another order: %v, %v", b, l, other, f, out, e)
		}
	})
}

// results are those of the calls with a brewhouse and readings.
func results(b wort.Brewhouse, l []wort.Reading) []any {
	bounds, e := wort.Bounds(b)
	out, f := wort.Leave(b, l)
	plan, g := wort.Fewest(b, 8, 45)
	return []any{bounds, e, out, f, plan, g, wort.CheckBrewhouse(b)}
}

// TestAgain checks that nothing is kept: the calls in between change no results.
func TestAgain(t *testing.T) {
	var l []func() []any
	var before [][]any
	eachRead(func(b wort.Brewhouse, r []wort.Reading, of []played) {
		if len(l) < 1000 {
			l = append(l, func() []any { return results(b, r) })
			before = append(before, results(b, r))
		}
	})
	for i, f := range slices.Backward(l) {
		if again := f(); !reflect.DeepEqual(again, before[i]) {
			t.Fatalf("results again: %v, not %v", again, before[i])
		}
	}
}

// overwrite changes all elements, and those that could be after them.
func overwrite[T any](x T, l []T) {
	for i := range l {
		l[i] = x
	}
	_ = append(l, x)
}

// arguments are those of all calls.
type arguments struct {
	b, exact  wort.Brewhouse
	u         wort.Truth
	l         []wort.Reading
	losses    []int
	brewings  []wort.Range
	plan      []wort.Step
	gravities wort.Range
}

func newArguments() arguments {
	return arguments{
		b: example(), exact: exact(), u: truth(list(10, 5), list(60, 30), list(4, 1, 2)), l: readings(reading(1, 7, 7, 40, 50), reading(0, 9, 9, 0, 99)),
		losses: list(0, 4, 9, 14), brewings: ranges(10, 17, 10, 16, 18, 20), plan: steps(move(0, 1, 4), water(0, 2)), gravities: to(10, 11),
	}
}

// all are the results of all calls.
func (a arguments) all() []any {
	p, e := wort.Play(a.b, a.u)
	n, f := wort.Original(a.losses, 10, 15)
	m, g := wort.Made(a.losses, a.gravities, to(15, 16), a.brewings)
	return append(results(a.b, a.l), results(a.exact, a.l), p, e, n, f, m, g, wort.ProvePlan(a.exact, a.plan, 8, 45, 2))
}

// TestOwnMemory checks that arguments are not written to, and that results share no memory with them, nor with later results.
func TestOwnMemory(t *testing.T) {
	a := newArguments()
	before := a.all()
	p, _ := wort.Play(a.b, a.u)
	b, _ := wort.Bounds(a.b)
	out, _ := wort.Leave(a.b, a.l)
	m, _ := wort.Made(a.losses, a.gravities, to(15, 16), a.brewings)
	l, _ := wort.Fewest(a.exact, 8, 45)
	if len(p) == 0 || len(b) == 0 || len(out) == 0 || len(m) == 0 || len(l) == 0 {
		t.Fatalf("empty results: %v, %v, %v, %v, %v", p, b, out, m, l)
	}
	overwrite(state(-9, -9, -9), p)
	overwrite(wort.Bound{Gallons: to(-9, -9)}, b)
	overwrite(-9, out)
	overwrite(-9, m)
	overwrite(water(-9, -9), l)
	if after := a.all(); !reflect.DeepEqual(after, before) {
		t.Errorf("results again: %v, not %v", after, before)
	}
	if !reflect.DeepEqual(a, newArguments()) {
		t.Errorf("arguments were written to: %v", a)
	}
}

// anyHouse has numbers of chance, in lists that may be too long.
func anyHouse(random *rand.Rand, some func() int) wort.Brewhouse {
	r := func() wort.Range {
		if n := some(); random.Intn(2) == 0 {
			return to(n, n)
		}
		return to(some(), some())
	}
	var b wort.Brewhouse
	for range random.Intn(6) {
		b.Vessels = append(b.Vessels, vessel(r(), r(), some()))
	}
	for range random.Intn(8) {
		b.Steps = append(b.Steps, wort.Step{Kind: some(), From: some(), To: some(), Gallons: r()})
	}
	return b
}

// TestAnyArguments checks that no call panics, and that each result beside an error is zero, whatever the arguments are.
func TestAnyArguments(t *testing.T) {
	values := list(lowest, lowest+1, -2, -1, -1, 0, 0, 0, 0, 0, 1, 1, 1, 1, 2, 2, 3, 4, 5, 9, 10, 12, 20, 30, 60, 61, 120, 121, huge-1, huge)
	random := rand.New(rand.NewSource(14))
	some := func() int { return values[random.Intn(len(values))] }
	several := func() (l []int) {
		for range random.Intn(5) {
			l = append(l, some())
		}
		return l
	}
	for i := range 40000 {
		b, r := anyHouse(random, some), func() wort.Range { return to(some(), some()) }
		var l []wort.Reading
		for range random.Intn(6) {
			l = append(l, wort.Reading{Vessel: some(), Gallons: r(), Degrees: r()})
		}
		plan, brewings := b.Steps, []wort.Range{r(), to(some(), huge)}[:random.Intn(3)]
		switch i % 4 {
		case 0:
			b.Vessels = example().Vessels
		case 1:
			b = example()
		case 2:
			b = exact()
		}
		p, e := wort.Play(b, truth(several(), several(), several()))
		bounds, f := wort.Bounds(b)
		out, g := wort.Leave(b, l)
		n, h := wort.Original(several(), some(), some())
		m, j := wort.Made(append(list(0), several()...), r(), r(), brewings)
		made, k := wort.Fewest(b, some(), some())
		if e != api.OK && len(p) != 0 || f != api.OK && len(bounds) != 0 || g != api.OK && len(out) != 0 || h != api.OK && n != 0 || j != api.OK && len(m) != 0 || k != api.OK && len(made) != 0 {
			t.Fatalf("a result beside an error, of %v", b)
		}
		if c := wort.CheckBrewhouse(b); c != api.OK && (e != c || f != c || g != c || k != c || wort.ProvePlan(b, plan, some(), some(), huge)) {
			t.Fatalf("CheckBrewhouse of %v: %v, but %v, %v, %v, %v", b, c, e, f, g, k)
		}
		wort.ProvePlan(b, plan, some(), some(), some())
	}
}
