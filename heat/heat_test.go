package heat_test

import (
	"math"
	"math/rand"
	"reflect"
	"slices"
	"testing"

	"saccharum/api"
	"saccharum/heat"
)

const least, huge = math.MinInt, math.MaxInt

// changed is the cellar of the examples after a change.
func changed(change func(c *heat.Cellar)) heat.Cellar {
	c := example()
	change(&c)
	return c
}

// equal reports whether both have the same rows.
func equal[T comparable](a, b [][]T) bool {
	return slices.EqualFunc(a, b, func(x, y []T) bool { return slices.Equal(x, y) })
}

func TestP3_1CheckCellar(t *testing.T) {
	for _, x := range []struct {
		name   string
		change func(c *heat.Cellar)
		want   api.Errno
	}{
		{"the example", func(c *heat.Cellar) {}, api.OK},
		{"four vats", func(c *heat.Cellar) { c.Vats = append(c.Vats, c.Vats...) }, api.ErrLimit},
		{"four vats, and nothing else", func(c *heat.Cellar) { *c = heat.Cellar{Vats: make([]heat.Vat, 4)} }, api.ErrLimit},
		{"four thermometers", func(c *heat.Cellar) {
			c.Thermometers = []heat.Thermometer{exact(), exact(), exact(), exact()}
		}, api.ErrLimit},
		{"four thermometers, and nothing else", func(c *heat.Cellar) { *c = heat.Cellar{Thermometers: make([]heat.Thermometer, 4)} }, api.ErrLimit},
		{"five parts", func(c *heat.Cellar) { c.Thermometers[0] = scale(90, 0, 0, 0, 1, 0, 0, 2, 0, 0, 3, 0, 0, 4, 0, 0) }, api.ErrLimit},
		{"five parts of the last one, and nothing else", func(c *heat.Cellar) {
			*c = heat.Cellar{Thermometers: []heat.Thermometer{{}, {}, {Parts: make([]heat.Part, 5)}}}
		}, api.ErrLimit},
		{"nothing", func(c *heat.Cellar) { *c = heat.Cellar{} }, api.ErrArg},
		{"all of the most", func(c *heat.Cellar) {
			c.Hours = 8
			c.Vats = []heat.Vat{vat(0, 20, 0, 20), vat(180, 200, 80, 100), vat(200, 200, 100, 100)}
			c.Thermometers = []heat.Thermometer{scale(200, 0, -10, 10, 1, -10, -10, 199, 10, 10, 200, 0, 0), exact(), scale(0, 0, 0, 0)}
		}, api.OK},
		{"one vat, one hour", func(c *heat.Cellar) { c.Vats, c.Hours = c.Vats[:1], 1 }, api.OK},
		{"no vats", func(c *heat.Cellar) { c.Vats = nil }, api.ErrArg},
		{"empty vats", func(c *heat.Cellar) { c.Vats = []heat.Vat{} }, api.ErrArg},
		{"no thermometers", func(c *heat.Cellar) { c.Thermometers = nil }, api.OK},
		{"empty thermometers", func(c *heat.Cellar) { c.Thermometers = []heat.Thermometer{} }, api.OK},
		{"no hours", func(c *heat.Cellar) { c.Hours = 0 }, api.ErrArg},
		{"hours below 0", func(c *heat.Cellar) { c.Hours = -1 }, api.ErrArg},
		{"nine hours", func(c *heat.Cellar) { c.Hours = 9 }, api.ErrArg},
		{"huge hours", func(c *heat.Cellar) { c.Hours = huge }, api.ErrArg},
		{"a part without errors", func(c *heat.Cellar) { c.Thermometers[0].Parts[1].Error = to(0, 0) }, api.OK},
		{"no parts", func(c *heat.Cellar) { c.Thermometers[0].Parts = nil }, api.ErrArg},
		{"no parts of the last one", func(c *heat.Cellar) { c.Thermometers = append(c.Thermometers, scale(90)) }, api.ErrArg},
		{"a part from below 0", func(c *heat.Cellar) { c.Thermometers[0].Parts[0].From = -1 }, api.ErrArg},
		{"a part from above 0", func(c *heat.Cellar) { c.Thermometers[0].Parts[0].From = 69 }, api.OK},
		{"two parts from one degree", func(c *heat.Cellar) { c.Thermometers[0].Parts[0].From = 70 }, api.ErrArg},
		{"parts that fall", func(c *heat.Cellar) { c.Thermometers[0].Parts[0].From = 71 }, api.ErrArg},
		{"the last parts fall", func(c *heat.Cellar) { c.Thermometers[0] = scale(90, 0, 0, 0, 50, 0, 0, 49, 0, 0) }, api.ErrArg},
		{"a part from the top", func(c *heat.Cellar) { c.Thermometers[0].Top = 70 }, api.OK},
		{"a part from above the top", func(c *heat.Cellar) { c.Thermometers[0].Top = 69 }, api.ErrArg},
		{"the only part from above the top", func(c *heat.Cellar) { c.Thermometers[0] = scale(20, 21, 0, 0) }, api.ErrArg},
		{"top 200", func(c *heat.Cellar) { c.Thermometers[0].Top = 200 }, api.OK},
		{"top 201", func(c *heat.Cellar) { c.Thermometers[0].Top = 201 }, api.ErrArg},
		{"top 0", func(c *heat.Cellar) { c.Thermometers[0] = scale(0, 0, 0, 0) }, api.OK},
		{"top below 0", func(c *heat.Cellar) { c.Thermometers[0] = scale(-1, 0, 0, 0) }, api.ErrArg},
		{"top and part below 0", func(c *heat.Cellar) { c.Thermometers[0] = scale(-1, -1, 0, 0) }, api.ErrArg},
		{"huge top", func(c *heat.Cellar) { c.Thermometers[0].Top = huge }, api.ErrArg},
		{"a bad second thermometer", func(c *heat.Cellar) { c.Thermometers = append(c.Thermometers, scale(20, 0, 3, 2)) }, api.ErrArg},
	} {
		hasError(t, x.name, changed(x.change), x.want)
	}
	for _, c := range append(cellars(), wideCellars()...) {
		if e := heat.CheckCellar(c); e != api.OK {
			t.Errorf("CheckCellar of %v: %v", c, e)
		}
	}
}

// TestP3_1Ranges has the valid and the invalid ranges of a cellar.
func TestP3_1Ranges(t *testing.T) {
	room := func(c *heat.Cellar) *heat.Range { return &c.Room }
	start := func(c *heat.Cellar) *heat.Range { return &c.Vats[1].Start }
	rate := func(c *heat.Cellar) *heat.Range { return &c.Vats[1].Rate }
	wrong := func(c *heat.Cellar) *heat.Range { return &c.Thermometers[0].Parts[1].Error }
	for _, x := range []struct {
		name        string
		r           func(c *heat.Cellar) *heat.Range
		good, wrong []heat.Range
	}{
		{"room", room, []heat.Range{to(0, 0), to(0, 20), to(180, 200), to(200, 200), to(45, 65)}, []heat.Range{to(-1, -1), to(-1, 0), to(200, 201), to(201, 201), to(0, 21), to(179, 200), to(51, 50), to(0, 200)}},
		{"start", start, []heat.Range{to(0, 0), to(0, 20), to(180, 200), to(200, 200), to(45, 65)}, []heat.Range{to(-1, -1), to(-1, 0), to(200, 201), to(201, 201), to(0, 21), to(179, 200), to(51, 50), to(0, 200)}},
		{"rate", rate, []heat.Range{to(0, 0), to(0, 20), to(80, 100), to(100, 100), to(45, 65)}, []heat.Range{to(-1, -1), to(-1, 0), to(100, 101), to(101, 101), to(0, 21), to(79, 100), to(51, 50), to(0, 100)}},
		{"error", wrong, []heat.Range{to(-10, 10), to(-10, -10), to(10, 10), to(0, 0), to(-3, 9)}, []heat.Range{to(-11, -11), to(-11, 0), to(0, 11), to(11, 11), to(1, 0), to(-1, -2)}},
	} {
		x.wrong = append(x.wrong, to(least, huge), to(huge, least), to(least, least), to(huge, huge), to(5, huge), to(least, 5), to(5, least), to(huge, 5))
		for _, r := range x.good {
			hasError(t, x.name, changed(func(c *heat.Cellar) { *x.r(c) = r }), api.OK)
		}
		for _, r := range x.wrong {
			hasError(t, x.name, changed(func(c *heat.Cellar) { *x.r(c) = r }), api.ErrArg)
		}
	}
}

// hasError checks that each call with a cellar has its error, even if other arguments are invalid too.
func hasError(t *testing.T, name string, c heat.Cellar, want api.Errno) {
	if e := heat.CheckCellar(c); e != want {
		t.Errorf("%s: CheckCellar of %v: %v", name, c, e)
	}
	if want == api.OK {
		return
	}
	l := append(looks(9, 9, 9, 9), make([]heat.Look, api.MaxHeatLooks)...)
	r, e := heat.Mean(c, 9, 999)
	p, f := heat.Play(c, truth(-1))
	b, g := heat.Bounds(c, l)
	sure, may, h := heat.Cool(c, l, 70)
	u, i := heat.Show(c, l)
	out, j := heat.Leave(c, l)
	_, k := heat.Bounds(c, nil)
	if r != to(0, 0) || len(p)+len(b)+len(out) != 0 || sure != 0 || may != 0 || !isZero(u) {
		t.Errorf("%s: results beside an error, of %v", name, c)
	}
	for _, e := range []api.Errno{e, f, g, h, i, j, k} {
		if e != want {
			t.Errorf("%s: a call with %v: %v", name, c, e)
		}
	}
	if heat.ProveTruth(c, nil, truth(50, 80, 20, 40, 50)) || heat.ProveTruth(c, nil, truth(0)) {
		t.Errorf("%s: a proof about %v", name, c)
	}
}

// isZero reports whether a truth is what is returned together with an error.
func isZero(u heat.Truth) bool { return u.Room == 0 && len(u.Start)+len(u.Rate) == 0 }

func TestP3_1Mean(t *testing.T) {
	c := changed(func(c *heat.Cellar) {
		c.Thermometers = append(c.Thermometers, scale(200, 15, -10, 10, 16, -10, -9, 17, 9, 10, 100, 0, 0), scale(5, 5, 10, 10))
	})
	for _, x := range []struct {
		thermometer, seen int
		want              heat.Range
	}{
		{0, 75, to(73, 75)}, {0, 69, to(68, 70)}, {0, 70, to(68, 70)}, {0, 0, to(-1, 1)}, {0, 120, to(118, 120)},
		{1, 15, to(5, 25)}, {1, 16, to(25, 26)}, {1, 17, to(7, 8)}, {1, 99, to(89, 90)}, {1, 100, to(100, 100)}, {1, 200, to(200, 200)}, {2, 5, to(-5, -5)},
	} {
		if r, e := heat.Mean(c, x.thermometer, x.seen); r != x.want || e != api.OK {
			t.Errorf("Mean of %d, %d: %v, %v", x.thermometer, x.seen, r, e)
		}
	}
	beyond := changed(func(c *heat.Cellar) { c.Thermometers[0] = scale(200, 0, 10, 10, 200, -10, -10) })
	low, e := heat.Mean(beyond, 0, 0)
	high, f := heat.Mean(beyond, 0, 200)
	if low != to(-10, -10) || high != to(210, 210) || e != api.OK || f != api.OK {
		t.Errorf("Mean at the ends: %v, %v; %v, %v", low, e, high, f)
	}
	for _, c := range append(cellars(), wideCellars()...) {
		for i, k := range c.Thermometers {
			for seen := -2; seen <= 202; seen++ {
				var want heat.Range
				f := api.ErrRange
				if k.Parts[0].From <= seen && seen <= k.Top {
					wrong := errorOf(k, seen)
					want, f = to(seen-wrong.Hi, seen-wrong.Lo), api.OK
				}
				if r, e := heat.Mean(c, i, seen); r != want || e != f {
					t.Fatalf("Mean of %v, %d, %d: %v, %v", c, i, seen, r, e)
				}
			}
		}
	}
}

func TestP3_1NoMean(t *testing.T) {
	c := changed(func(c *heat.Cellar) { c.Thermometers = append(c.Thermometers, scale(60, 20, 0, 0)) })
	none := changed(func(c *heat.Cellar) { c.Thermometers = nil })
	for _, x := range []struct {
		c                 heat.Cellar
		thermometer, seen int
	}{
		{c, -1, 50}, {c, 2, 50}, {c, least, 50}, {c, huge, 50}, {c, 0, -1}, {c, 0, 121}, {c, 0, least}, {c, 0, huge},
		{c, 1, 19}, {c, 1, 61}, {c, 1, 0}, {c, 1, 120}, {none, 0, 50}, {none, -1, 50}, {none, 1, 50},
	} {
		if r, e := heat.Mean(x.c, x.thermometer, x.seen); r != to(0, 0) || e != api.ErrRange {
			t.Errorf("Mean of %v, %d, %d: %v, %v", x.c, x.thermometer, x.seen, r, e)
		}
	}
}

func TestP3_2Play(t *testing.T) {
	for _, x := range []struct {
		c    heat.Cellar
		t    heat.Truth
		want [][]int
	}{
		{example(), truth(50, 80, 20, 40, 50), [][]int{{80, 74, 69, 65}, {40, 45, 48, 49}}},
		{example(), truth(52, 90, 30, 40, 50), [][]int{{90, 78, 70, 64}, {40, 46, 49, 51}}},
		{joint(), truth(22, 40, 100, 0, 100), [][]int{{40, 22, 22}, {0, 22, 22}}},
		{heat.Cellar{Room: to(100, 100), Hours: 4, Vats: []heat.Vat{vat(101, 101, 1, 1), vat(99, 99, 1, 1), vat(98, 98, 40, 40)}}, truth(100, 101, 1, 99, 1, 98, 40), [][]int{{101, 100, 100, 100, 100}, {99, 100, 100, 100, 100}, {98, 99, 100, 100, 100}}},
		{heat.Cellar{Room: to(0, 0), Hours: 8, Vats: []heat.Vat{vat(200, 200, 99, 99), vat(200, 200, 1, 1)}}, truth(0, 200, 99, 200, 1), [][]int{{200, 2, 0, 0, 0, 0, 0, 0, 0}, {200, 198, 196, 194, 192, 190, 188, 186, 184}}},
	} {
		if l, e := heat.Play(x.c, x.t); !equal(l, x.want) || e != api.OK {
			t.Errorf("Play of %v: %v, %v", x.t, l, e)
		}
	}
	for _, c := range cellars() {
		for _, p := range allTruths(c) {
			if l, e := heat.Play(c, p.truth); !equal(l, p.warmths) || e != api.OK {
				t.Fatalf("Play of %v, %v: %v, %v", c, p.truth, l, e)
			}
		}
	}
	random := rand.New(rand.NewSource(3))
	for _, c := range wideCellars() {
		for range 200 {
			p := anyTruth(random, c)
			if l, e := heat.Play(c, p.truth); !equal(l, p.warmths) || e != api.OK {
				t.Fatalf("Play of %v, %v: %v, %v", c, p.truth, l, e)
			}
		}
	}
}

// noTruths are no truths of the cellar of the examples.
func noTruths() []heat.Truth {
	return []heat.Truth{
		truth(49, 80, 20, 40, 50), truth(53, 80, 20, 40, 50), truth(50, 79, 20, 40, 50), truth(50, 91, 20, 40, 50), truth(50, 80, 19, 40, 50),
		truth(50, 80, 31, 40, 50), truth(50, 80, 20, 39, 50), truth(50, 80, 20, 41, 50), truth(50, 80, 20, 40, 49), truth(50, 80, 20, 40, 51),
		truth(50), truth(50, 80, 20), truth(50, 80, 20, 40, 50, 40, 50), truth(50, 40, 50, 80, 20), {},
		{Room: 50, Start: list(80, 40), Rate: list(20)}, {Room: 50, Start: list(80), Rate: list(20, 50)}, {Room: 50, Start: list(80, 40)}, {Room: 50, Rate: list(20, 50)},
		{Room: 50, Start: list(80, 40, 40), Rate: list(20, 50)}, {Room: 50, Start: list(80, 40), Rate: list(20, 50, 50)},
		truth(least, 80, 20, 40, 50), truth(huge, 80, 20, 40, 50), truth(50, least, 20, 40, 50), truth(50, 80, huge, 40, 50),
	}
}

func TestP3_2NoTruth(t *testing.T) {
	for _, u := range noTruths() {
		if l, e := heat.Play(example(), u); len(l) != 0 || e != api.ErrRange {
			t.Errorf("Play of %v: %v, %v", u, l, e)
		}
	}
}

func TestP3_3Bounds(t *testing.T) {
	rows := func(l ...[]heat.Range) [][]heat.Range { return l }
	still := []heat.Range{to(40, 40), to(45, 46), to(48, 49), to(49, 51)}
	for _, x := range []struct {
		c    heat.Cellar
		l    []heat.Look
		want [][]heat.Range
		e    api.Errno
	}{
		{example(), nil, rows([]heat.Range{to(80, 90), to(71, 82), to(64, 76), to(59, 71)}, still), api.OK},
		{example(), []heat.Look{}, rows([]heat.Range{to(80, 90), to(71, 82), to(64, 76), to(59, 71)}, still), api.OK},
		{example(), looks(0, 1, 0, 75), rows([]heat.Range{to(80, 87), to(73, 75), to(66, 70), to(61, 66)}, still), api.OK},
		{example(), looks(0, 1, 0, 75, 0, 0, 0, 99), nil, api.ErrFalse},
		{joint(), looks(1, 1, 0, 21), rows([]heat.Range{to(40, 40), to(21, 21), to(21, 21)}, []heat.Range{to(0, 0), to(21, 21), to(21, 21)}), api.OK},
		{joint(), looks(1, 1, 0, 21, 0, 2, 0, 22), nil, api.ErrFalse},
		{joint(), looks(0, 0, 0, 41), nil, api.ErrFalse},
	} {
		if b, e := heat.Bounds(x.c, x.l); !equal(b, x.want) || e != x.e {
			t.Errorf("Bounds of %v: %v, %v", x.l, b, e)
		}
	}
	eachLooks(func(c heat.Cellar, l []heat.Look, of []played) {
		var want [][]heat.Range
		f := api.ErrFalse
		if len(of) > 0 {
			want, f = boundsIn(c, of), api.OK
		}
		if b, e := heat.Bounds(c, l); !equal(b, want) || e != f {
			t.Fatalf("Bounds of %v, %v: %v, %v, not %v", c, l, b, e, want)
		}
	})
}

// eachLooks calls the function for lists of looks into each cellar, with all truths of them.
func eachLooks(do func(c heat.Cellar, l []heat.Look, of []played)) {
	random := rand.New(rand.NewSource(4))
	for _, c := range cellars() {
		all := allTruths(c)
		for _, l := range lookLists(random, c) {
			do(c, l, truthsOf(c, all, l, nil))
		}
	}
}

// TestP3_3Joint checks that the lists have some that contradict each other through the room alone.
func TestP3_3Joint(t *testing.T) {
	wrong, narrower := 0, 0
	eachLooks(func(c heat.Cellar, l []heat.Look, of []played) {
		var alone [][]heat.Range
		for v := range c.Vats {
			other := func(k heat.Look) bool { return k.Vat != v }
			b, e := heat.Bounds(c, slices.DeleteFunc(slices.Clone(l), other))
			if e != api.OK {
				return
			}
			alone = append(alone, b[v])
		}
		b, e := heat.Bounds(c, l)
		if (e == api.OK) != (len(of) > 0) {
			t.Fatalf("Bounds of %v, %v: %v", c, l, e)
		}
		switch {
		case e != api.OK:
			wrong++
		case !equal(b, alone):
			narrower++
		}
	})
	if wrong < 5 || narrower < 50 {
		t.Errorf("the room matters only %d and %d times", wrong, narrower)
	}
}

// TestP3_3Looks has the invalid looks, for P3.3 to P3.6.
func TestP3_3Looks(t *testing.T) {
	second := changed(func(c *heat.Cellar) { c.Thermometers = append(c.Thermometers, scale(60, 20, 0, 0)) })
	none := changed(func(c *heat.Cellar) { c.Thermometers = nil })
	for _, x := range []struct {
		c    heat.Cellar
		l    []heat.Look
		want api.Errno
	}{
		{example(), make([]heat.Look, 7), api.ErrLimit}, {example(), make([]heat.Look, 100), api.ErrLimit},
		{example(), append(looks(9, 9, 9, 999), make([]heat.Look, 6)...), api.ErrLimit}, {none, make([]heat.Look, 7), api.ErrLimit},
		{example(), looks(0, 0, 0, 81, 0, 0, 0, 81, 0, 0, 0, 81, 0, 0, 0, 81, 0, 0, 0, 81, 0, 0, 0, 81, 0, 0, 0, 81), api.ErrLimit},
		{example(), looks(2, 0, 0, 80), api.ErrRange}, {example(), looks(-1, 0, 0, 80), api.ErrRange},
		{example(), looks(0, 4, 0, 80), api.ErrRange}, {example(), looks(0, -1, 0, 80), api.ErrRange},
		{example(), looks(0, 0, 1, 80), api.ErrRange}, {example(), looks(0, 0, -1, 80), api.ErrRange}, {none, looks(0, 0, 0, 80), api.ErrRange},
		{example(), looks(0, 0, 0, 121), api.ErrRange}, {example(), looks(0, 0, 0, -1), api.ErrRange},
		{second, looks(0, 0, 1, 19), api.ErrRange}, {second, looks(0, 0, 1, 61), api.ErrRange}, {second, looks(1, 0, 0, 40, 1, 0, 1, 19), api.ErrRange},
		{example(), looks(0, 0, 0, 99, 0, 1, 0, 75, 0, 4, 0, 75), api.ErrRange},
		{example(), looks(0, 0, 0, 80, 0, 0, 0, 80, 0, 0, 0, 80, 0, 0, 0, 80, 0, 0, 0, 80, 2, 0, 0, 80), api.ErrRange},
		{example(), looks(least, 0, 0, 80), api.ErrRange}, {example(), looks(huge, 0, 0, 80), api.ErrRange}, {example(), looks(0, huge, 0, 80), api.ErrRange},
		{example(), looks(0, least, 0, 80), api.ErrRange}, {example(), looks(0, 0, huge, 80), api.ErrRange}, {example(), looks(0, 0, least, 80), api.ErrRange},
		{example(), looks(0, 0, 0, least), api.ErrRange}, {example(), looks(0, 0, 0, huge), api.ErrRange},
		{second, looks(1, 0, 1, 40, 0, 0, 0, 80), api.OK}, {second, looks(1, 3, 1, 49, 0, 3, 0, 65), api.OK},
		{example(), looks(0, 0, 0, 81, 0, 0, 0, 81, 0, 0, 0, 81, 0, 0, 0, 81, 0, 0, 0, 81, 0, 0, 0, 81), api.OK},
	} {
		b, e := heat.Bounds(x.c, x.l)
		sure, may, f := heat.Cool(x.c, x.l, 200)
		u, g := heat.Show(x.c, x.l)
		out, h := heat.Leave(x.c, x.l)
		if e != x.want || f != x.want || g != x.want || h != x.want || heat.ProveTruth(x.c, x.l, truth(50, 80, 20, 40, 50)) != (x.want == api.OK) {
			t.Errorf("Bounds, Cool, Show, Leave of %v: %v, %v, %v, %v", x.l, e, f, g, h)
		}
		if x.want != api.OK && (len(b)+len(out) != 0 || sure != 0 || may != 0 || !isZero(u)) {
			t.Errorf("results beside an error, of %v: %v, %d, %d, %v, %v", x.l, b, sure, may, u, out)
		}
	}
}

// TestP3_3Wide has the widest cellars, for P3.3 to P3.6.
func TestP3_3Wide(t *testing.T) {
	random := rand.New(rand.NewSource(5))
	for _, c := range wideCellars() {
		for _, l := range lookLists(random, c)[:9] {
			var want [][]heat.Range
			f := api.ErrFalse
			rooms := fitting(c, l, nil)
			if len(rooms) > 0 {
				want, f = wideBounds(c, rooms), api.OK
			}
			if b, e := heat.Bounds(c, l); !equal(b, want) || e != f {
				t.Fatalf("Bounds of %v, %v: %v, %v, not %v", c, l, b, e, want)
			}
			limit := random.Intn(120)
			sure, may, e := heat.Cool(c, l, limit)
			if n, m := wideHours(c, rooms, limit); e != f || e == api.OK && (sure != n || may != m) {
				t.Fatalf("Cool of %v, %v, %d: %d, %d, %v, not %d, %d", c, l, limit, sure, may, e, n, m)
			}
			if u, e := heat.Show(c, l); e != f || (e == api.OK) != heat.ProveTruth(c, l, u) {
				t.Fatalf("Show of %v, %v: %v, %v", c, l, u, e)
			}
			if out, e := heat.Leave(c, l); e != api.OK || !slices.Equal(out, wideSmallest(c, l)) {
				t.Fatalf("Leave of %v, %v: %v, %v", c, l, out, e)
			}
		}
	}
}

// TestP3_3References checks that the reference for wide cellars is that for the other ones.
func TestP3_3References(t *testing.T) {
	random := rand.New(rand.NewSource(6))
	for _, c := range cellars()[:40] {
		all := allTruths(c)
		for _, l := range lookLists(random, c)[:6] {
			rooms, of := fitting(c, l, nil), truthsOf(c, all, l, nil)
			if (len(rooms) > 0) != (len(of) > 0) || !slices.Equal(wideSmallest(c, l), smallest(c, all, l)) {
				t.Fatalf("%v, %v: %d rooms, %d truths", c, l, len(rooms), len(of))
			}
			if len(of) == 0 {
				continue
			}
			sure, may := hoursIn(c, of, 70)
			if n, m := wideHours(c, rooms, 70); n != sure || m != may || !equal(wideBounds(c, rooms), boundsIn(c, of)) {
				t.Fatalf("%v, %v: %d, %d and %d, %d", c, l, n, m, sure, may)
			}
		}
	}
}

func TestP3_4Cool(t *testing.T) {
	rising := heat.Cellar{Room: to(60, 60), Hours: 3, Vats: []heat.Vat{vat(50, 50, 50, 50), vat(80, 80, 50, 50)}, Thermometers: []heat.Thermometer{exact()}}
	for _, x := range []struct {
		c                heat.Cellar
		l                []heat.Look
		limit, sure, may int
		e                api.Errno
	}{
		{example(), nil, 70, heat.Never, 2, api.OK}, {example(), looks(0, 1, 0, 75), 70, 2, 2, api.OK}, {example(), looks(0, 1, 0, 75), 69, 3, 2, api.OK},
		{example(), nil, 71, 3, 1, api.OK}, {example(), nil, 76, 2, 1, api.OK}, {example(), nil, 90, 0, 0, api.OK}, {example(), nil, 89, 1, 0, api.OK},
		{example(), nil, 80, 2, 0, api.OK}, {example(), nil, 79, 2, 1, api.OK}, {example(), nil, 59, heat.Never, 3, api.OK}, {example(), nil, 58, heat.Never, heat.Never, api.OK},
		{example(), nil, -1, heat.Never, heat.Never, api.OK}, {example(), nil, least, heat.Never, heat.Never, api.OK}, {example(), nil, huge, 0, 0, api.OK},
		{joint(), nil, 21, heat.Never, 1, api.OK}, {joint(), nil, 22, 1, 1, api.OK}, {joint(), looks(1, 2, 0, 21), 21, 1, 1, api.OK}, {joint(), looks(1, 2, 0, 21), 20, heat.Never, heat.Never, api.OK},
		{rising, nil, 54, heat.Never, heat.Never, api.OK}, {rising, nil, 61, heat.Never, heat.Never, api.OK}, {rising, nil, 62, 3, 3, api.OK}, {rising, nil, 69, 2, 2, api.OK},
		{apart(), looks(0, 2, 0, 60), 69, 2, 2, api.OK}, {apart(), looks(0, 2, 0, 60), 70, 2, 1, api.OK}, {apart(), nil, 69, 2, 1, api.OK},
		{example(), looks(0, 1, 0, 75, 0, 0, 0, 99), 70, 0, 0, api.ErrFalse}, {joint(), looks(1, 1, 0, 21, 0, 2, 0, 22), huge, 0, 0, api.ErrFalse},
	} {
		if sure, may, e := heat.Cool(x.c, x.l, x.limit); sure != x.sure || may != x.may || e != x.e {
			t.Errorf("Cool of %v, %d: %d, %d, %v", x.l, x.limit, sure, may, e)
		}
	}
	// A vat that is warmed is cool at first, and never again.
	alone := changed(func(c *heat.Cellar) { c.Vats = c.Vats[1:] })
	if sure, may, e := heat.Cool(alone, nil, 44); sure != 0 || may != 0 || e != api.OK {
		t.Errorf("Cool of a vat that is warmed: %d, %d, %v", sure, may, e)
	}
	seen := map[bool]int{}
	eachLooks(func(c heat.Cellar, l []heat.Look, of []played) {
		for _, limit := range limits(c, of) {
			var n, m int
			f := api.ErrFalse
			if len(of) > 0 {
				n, m = hoursIn(c, of, limit)
				f = api.OK
				seen[n == m]++
			}
			if sure, may, e := heat.Cool(c, l, limit); sure != n || may != m || e != f {
				t.Fatalf("Cool of %v, %v, %d: %d, %d, %v, not %d, %d", c, l, limit, sure, may, e, n, m)
			}
		}
	})
	if seen[true] < 1000 || seen[false] < 1000 {
		t.Errorf("both hours are the same %d times, and not %d times", seen[true], seen[false])
	}
}

// limits are the ends of the bounds, and others.
func limits(c heat.Cellar, of []played) []int {
	l := list(0, 55, 200)
	if len(of) == 0 {
		return l
	}
	for _, bounds := range boundsIn(c, of) {
		for _, r := range bounds {
			l = append(l, r.Lo, r.Hi-1, r.Hi)
		}
	}
	slices.Sort(l)
	return slices.Compact(l)
}

// TestP3_4Joint has limits below which each vat can be at an hour, but not both of them with one room.
func TestP3_4Joint(t *testing.T) {
	random := rand.New(rand.NewSource(9))
	count := 0
	for range 40 {
		c := apartCellar(random)
		all := allTruths(c)
		for seen := 50; seen <= 70; seen += 2 {
			l := looks(0, 2, 0, seen)
			of := truthsOf(c, all, l, nil)
			for limit := 60; limit <= 80 && len(of) > 0; limit++ {
				n, m := hoursIn(c, of, limit)
				if sure, may, e := heat.Cool(c, l, limit); sure != n || may != m || e != api.OK {
					t.Fatalf("Cool of %v, %v, %d: %d, %d, %v, not %d, %d", c, l, limit, sure, may, e, n, m)
				}
				warm := func(r []heat.Range) bool { return r[1].Lo > limit }
				if m == 2 && !slices.ContainsFunc(boundsIn(c, of), warm) {
					count++
				}
			}
		}
	}
	if count < 20 {
		t.Errorf("the room matters only %d times", count)
	}
}

func TestP3_5Show(t *testing.T) {
	for _, x := range []struct {
		c heat.Cellar
		l []heat.Look
		e api.Errno
	}{
		{example(), nil, api.OK}, {example(), looks(0, 1, 0, 75), api.OK}, {example(), looks(0, 1, 0, 75, 0, 0, 0, 99), api.ErrFalse},
		{joint(), looks(1, 1, 0, 22), api.OK}, {joint(), looks(1, 1, 0, 21, 0, 2, 0, 22), api.ErrFalse},
	} {
		if u, e := heat.Show(x.c, x.l); e != x.e || heat.ProveTruth(x.c, x.l, u) != (e == api.OK) || e != api.OK && !isZero(u) {
			t.Errorf("Show of %v: %v, %v", x.l, u, e)
		}
	}
	eachLooks(func(c heat.Cellar, l []heat.Look, of []played) {
		u, e := heat.Show(c, l)
		is := func(p played) bool { return reflect.DeepEqual(p.truth, u) }
		switch {
		case len(of) == 0 && e == api.ErrFalse && isZero(u):
		case len(of) > 0 && e == api.OK && slices.ContainsFunc(of, is):
		default:
			t.Fatalf("Show of %v, %v: %v, %v", c, l, u, e)
		}
	})
}

func TestP3_5ProveTruth(t *testing.T) {
	for _, x := range []struct {
		l    []heat.Look
		t    heat.Truth
		want bool
	}{
		{nil, truth(50, 80, 20, 40, 50), true}, {[]heat.Look{}, truth(52, 90, 30, 40, 50), true},
		{looks(0, 1, 0, 75), truth(50, 80, 20, 40, 50), true}, {looks(0, 1, 0, 74), truth(50, 80, 20, 40, 50), true}, {looks(0, 1, 0, 76), truth(50, 80, 20, 40, 50), true},
		{looks(0, 1, 0, 77), truth(50, 80, 20, 40, 50), false}, {looks(0, 1, 0, 73), truth(50, 80, 20, 40, 50), false},
		{looks(0, 2, 0, 68), truth(50, 80, 20, 40, 50), true}, {looks(0, 2, 0, 69), truth(50, 80, 20, 40, 50), true}, {looks(0, 2, 0, 70), truth(50, 80, 20, 40, 50), true},
		{looks(0, 2, 0, 71), truth(50, 80, 20, 40, 50), true}, {looks(0, 2, 0, 72), truth(50, 80, 20, 40, 50), false}, {looks(0, 2, 0, 67), truth(50, 80, 20, 40, 50), false},
		{looks(1, 3, 0, 48), truth(50, 80, 20, 40, 50), true}, {looks(1, 3, 0, 50), truth(50, 80, 20, 40, 50), true}, {looks(1, 3, 0, 47), truth(50, 80, 20, 40, 50), false},
		{looks(1, 3, 0, 51), truth(50, 80, 20, 40, 50), false}, {looks(0, 1, 0, 75, 1, 3, 0, 51), truth(50, 80, 20, 40, 50), false},
		{looks(1, 3, 0, 51, 0, 1, 0, 75), truth(50, 80, 20, 40, 50), false}, {looks(0, 0, 0, 80, 1, 0, 0, 40), truth(50, 80, 20, 40, 50), true},
	} {
		if heat.ProveTruth(example(), x.l, x.t) != x.want {
			t.Errorf("ProveTruth of %v, %v", x.l, x.t)
		}
	}
	for _, u := range noTruths() {
		if heat.ProveTruth(example(), nil, u) || heat.ProveTruth(example(), looks(0, 1, 0, 75), u) {
			t.Errorf("ProveTruth of %v", u)
		}
	}
	random := rand.New(rand.NewSource(7))
	eachLooks(func(c heat.Cellar, l []heat.Look, of []played) {
		for range 10 {
			p := anyTruth(random, c)
			if len(of) > 0 && random.Intn(2) == 0 {
				p = of[random.Intn(len(of))]
			}
			if heat.ProveTruth(c, l, p.truth) != areRight(c, l, nil, p) {
				t.Fatalf("ProveTruth of %v, %v, %v", c, l, p.truth)
			}
		}
	})
}

func TestP3_6Leave(t *testing.T) {
	six := changed(func(c *heat.Cellar) { c.Thermometers[0] = scale(200, 0, 0, 0) })
	for _, x := range []struct {
		c    heat.Cellar
		l    []heat.Look
		want []int
	}{
		{example(), nil, nil}, {example(), looks(0, 1, 0, 75), nil}, {example(), looks(0, 1, 0, 75, 0, 0, 0, 99), list(1)},
		{example(), looks(0, 0, 0, 99, 0, 1, 0, 75, 0, 2, 0, 99), list(0, 2)}, {example(), looks(0, 1, 0, 75, 0, 1, 0, 78), list(0)},
		{joint(), looks(1, 1, 0, 21, 0, 2, 0, 22), list(0)}, {joint(), looks(1, 1, 0, 21, 0, 2, 0, 22, 1, 2, 0, 22), list(0)},
		{joint(), looks(1, 1, 0, 21, 0, 2, 0, 22, 1, 2, 0, 21), list(1)}, {joint(), looks(0, 1, 0, 20, 1, 1, 0, 21, 0, 2, 0, 22), list(0, 1)},
		{joint(), looks(0, 1, 0, 20, 1, 1, 0, 21, 0, 1, 0, 20, 1, 1, 0, 21), list(0, 2)}, {joint(), looks(0, 1, 0, 20, 1, 1, 0, 21, 1, 1, 0, 20, 1, 1, 0, 22), list(1, 3)},
		{six, looks(0, 0, 0, 80, 0, 0, 0, 81, 0, 0, 0, 82, 0, 0, 0, 83, 0, 0, 0, 84, 0, 0, 0, 85), list(0, 1, 2, 3, 4)},
		{six, looks(0, 0, 0, 99, 0, 0, 0, 99, 1, 0, 0, 39, 1, 0, 0, 41, 0, 3, 0, 58, 0, 3, 0, 72), list(0, 1, 2, 3, 4, 5)},
		{six, looks(0, 0, 0, 85, 0, 0, 0, 80, 0, 0, 0, 80, 0, 0, 0, 85, 0, 0, 0, 80, 0, 0, 0, 85), list(0, 3, 5)},
		{six, looks(0, 0, 0, 85, 0, 0, 0, 80, 0, 0, 0, 80, 0, 0, 0, 85, 0, 0, 0, 80, 0, 0, 0, 84), list(0, 3, 5)},
	} {
		if out, e := heat.Leave(x.c, x.l); !slices.Equal(out, x.want) || e != api.OK {
			t.Errorf("Leave of %v: %v, %v", x.l, out, e)
		}
	}
	random := rand.New(rand.NewSource(8))
	sizes := map[int]int{}
	for _, c := range cellars() {
		all := allTruths(c)
		for _, l := range append(lookLists(random, c), lookLists(random, c)...) {
			want := smallest(c, all, l)
			sizes[len(want)]++
			if out, e := heat.Leave(c, l); !slices.Equal(out, want) || e != api.OK {
				t.Fatalf("Leave of %v, %v: %v, %v, not %v", c, l, out, e, want)
			}
		}
	}
	if sizes[0] < 100 || sizes[1] < 100 || sizes[2] < 50 || sizes[3] < 20 || sizes[4] < 5 || sizes[5] == 0 {
		t.Errorf("not each size was tried: %v", sizes)
	}
}
