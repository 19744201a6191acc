package heat_test

import (
	"math/rand"
	"reflect"
	"slices"
	"testing"

	"saccharum/api"
	"saccharum/heat"
)

// play is what the vats do in a truth of the cellar.
func play(t *testing.T, c heat.Cellar, u heat.Truth) [][]int {
	l, e := heat.Play(c, u)
	if e != api.OK || len(l) != len(c.Vats) {
		t.Fatalf("Play of %v, %v: %v, %v", c, u, l, e)
	}
	return l
}

// distance is how far a warmth is from the room.
func distance(n, room int) int { return max(n-room, room-n) }

func TestP3_8WithinBounds(t *testing.T) {
	eachLooks(func(c heat.Cellar, l []heat.Look, of []played) {
		b, e := heat.Bounds(c, l)
		if (e == api.OK) != (len(of) > 0) {
			t.Fatalf("Bounds of %v, %v: %v", c, l, e)
		}
		for _, p := range of {
			for v, row := range p.warmths {
				for hour, n := range row {
					if !in(n, b[v][hour]) {
						t.Fatalf("%v, %v: %d at %d in the vat %d, but the bounds are %v", c, l, n, hour, v, b[v])
					}
				}
			}
		}
	})
}

func TestP3_8NoVatCrosses(t *testing.T) {
	random := rand.New(rand.NewSource(10))
	above, below := 0, 0
	for _, c := range append(cellars(), wideCellars()...) {
		for range 60 {
			u := anyTruth(random, c).truth
			for v, row := range play(t, c, u) {
				if row[0] != u.Start[v] || len(row) != c.Hours+1 {
					t.Fatalf("Play of %v, %v: %v", c, u, row)
				}
				for hour := 1; hour < len(row); hour++ {
					last, next := row[hour-1], row[hour]
					if last >= u.Room && !in(next, to(u.Room, last)) || last <= u.Room && !in(next, to(last, u.Room)) {
						t.Fatalf("Play of %v, %v: %d after %d", c, u, next, last)
					}
				}
				if row[0] > u.Room {
					above++
				} else if row[0] < u.Room {
					below++
				}
			}
		}
	}
	if above < 1000 || below < 1000 {
		t.Errorf("only %d vats were above the room, and %d below it", above, below)
	}
}

// alone is a cellar with one vat that starts and cools in one way.
func alone(room, start, rate int) (heat.Cellar, heat.Truth) {
	return heat.Cellar{Room: to(room, room), Hours: api.MaxHeatHours, Vats: []heat.Vat{vat(start, start, rate, rate)}}, truth(room, start, rate)
}

// course are the warmths of a vat that is alone.
func course(t *testing.T, room, start, rate int) []int {
	c, u := alone(room, start, rate)
	return play(t, c, u)[0]
}

func TestP3_9Warmer(t *testing.T) {
	random := rand.New(rand.NewSource(11))
	some := func(high int) int { return between(random, 0, high) }
	for range 20000 {
		room, start, rate := some(200), some(200), some(100)
		if random.Intn(2) == 0 {
			start = min(200, max(0, room+random.Intn(21)-10))
		}
		l := course(t, room, start, rate)
		warmer := course(t, min(200, room+random.Intn(4)), start, rate)
		hotter := course(t, room, min(200, start+random.Intn(4)), rate)
		faster := course(t, room, start, min(100, rate+random.Intn(9)))
		for hour, n := range l {
			if warmer[hour] < n || hotter[hour] < n || distance(faster[hour], room) > distance(n, room) {
				t.Fatalf("room %d, start %d, rate %d: %v; in a warmer room %v, from a hotter start %v, with a greater rate %v", room, start, rate, l, warmer, hotter, faster)
			}
		}
	}
}

// inside reports whether all bounds are within the others.
func inside(narrow, wide [][]heat.Range) bool {
	return slices.EqualFunc(narrow, wide, func(a, b []heat.Range) bool {
		return slices.EqualFunc(a, b, func(r, q heat.Range) bool { return q.Lo <= r.Lo && r.Hi <= q.Hi })
	})
}

func TestP3_10RightInOneTruth(t *testing.T) {
	random := rand.New(rand.NewSource(12))
	for _, c := range append(cellars(), wideCellars()[:3]...) {
		for range 4 {
			p := anyTruth(random, c)
			var l []heat.Look
			for range 40 {
				if k := lookAt(random, c, p); len(l) < api.MaxHeatLooks && isRight(c, k, p.warmths[k.Vat][k.Hour]) {
					l = append(l, k)
				}
			}
			out, e := heat.Leave(c, l)
			if !heat.ProveTruth(c, l, p.truth) || len(out) > 0 || e != api.OK {
				t.Fatalf("%v, %v: no truth %v; Leave: %v, %v", c, l, p.truth, out, e)
			}
		}
	}
}

func TestP3_10OneMoreLook(t *testing.T) {
	random := rand.New(rand.NewSource(13))
	for _, c := range append(cellars(), wideCellars()[3:6]...) {
		for _, l := range lookLists(random, c)[1:9] {
			last, e := heat.Bounds(c, nil)
			if e != api.OK {
				t.Fatalf("Bounds of %v: %v", c, e)
			}
			fewest, possible := 0, true
			for i := range l {
				b, e := heat.Bounds(c, l[:i+1])
				out, f := heat.Leave(c, l[:i+1])
				if len(out) < fewest || len(out) > fewest+1 || f != api.OK || (e == api.OK) != (len(out) == 0) || e == api.OK && (!possible || !inside(b, last)) {
					t.Fatalf("%v, %v: %v, %v after %v; Leave: %v, %v", c, l[:i+1], b, e, last, out, f)
				}
				last, fewest, possible = b, len(out), e == api.OK
			}
		}
	}
}

// longer is the range with some numbers more, as far as it may be.
func longer(random *rand.Rand, r heat.Range, low, high int) heat.Range {
	for range random.Intn(4) {
		if r.Lo > low && r.Hi-r.Lo < api.MaxHeatWide {
			r.Lo--
		}
	}
	for range random.Intn(4) {
		if r.Hi < high && r.Hi-r.Lo < api.MaxHeatWide {
			r.Hi++
		}
	}
	return r
}

// wider is the cellar with wider ranges of a vat, or a wider error.
func wider(random *rand.Rand, c heat.Cellar) heat.Cellar {
	c.Vats, c.Thermometers = slices.Clone(c.Vats), slices.Clone(c.Thermometers)
	if random.Intn(2) == 0 {
		v := &c.Vats[random.Intn(len(c.Vats))]
		v.Start, v.Rate = longer(random, v.Start, 0, 200), longer(random, v.Rate, 0, 100)
		return c
	}
	k := &c.Thermometers[random.Intn(len(c.Thermometers))]
	k.Parts = slices.Clone(k.Parts)
	p := &k.Parts[random.Intn(len(k.Parts))]
	p.Error = longer(random, p.Error, -10, 10)
	return c
}

func TestP3_11Wider(t *testing.T) {
	random := rand.New(rand.NewSource(14))
	fewer, more := 0, 0
	for _, c := range cellars() {
		for _, l := range lookLists(random, c) {
			d := wider(random, c)
			b, e := heat.Bounds(c, l)
			q, f := heat.Bounds(d, l)
			out, g := heat.Leave(c, l)
			other, h := heat.Leave(d, l)
			if e == api.OK && (f != api.OK || !inside(b, q)) || len(other) > len(out) || g != api.OK || h != api.OK {
				t.Fatalf("%v and %v, %v: %v, %v; %v, %v; %v, %v", c, d, l, b, e, q, f, out, other)
			}
			if len(other) < len(out) {
				fewer++
			}
			if e == api.OK && !equal(b, q) {
				more++
			}
		}
	}
	if fewer < 20 || more < 200 {
		t.Errorf("only %d sets were smaller, and %d bounds wider", fewer, more)
	}
}

// hour is the number of an hour, with Never after all others.
func hour(n int) int {
	if n == heat.Never {
		return 99
	}
	return n
}

func TestP3_12Cool(t *testing.T) {
	eachLooks(func(c heat.Cellar, l []heat.Look, of []played) {
		if len(of) == 0 {
			return
		}
		b, e := heat.Bounds(c, l)
		if e != api.OK {
			t.Fatalf("Bounds of %v, %v: %v", c, l, e)
		}
		lastSure, lastMay := 99, 99
		for limit := -1; limit <= 203; limit += 4 {
			sure, may, e := heat.Cool(c, l, limit)
			first := 99
			for i := c.Hours; i >= 0; i-- {
				if !slices.ContainsFunc(b, func(r []heat.Range) bool { return r[i].Hi > limit }) {
					first = i
				}
			}
			if e != api.OK || hour(sure) != first || hour(may) > hour(sure) || hour(sure) > lastSure || hour(may) > lastMay {
				t.Fatalf("Cool of %v, %v, %d: %d, %d, %v", c, l, limit, sure, may, e)
			}
			lastSure, lastMay = hour(sure), hour(may)
		}
		if lastSure != 0 || lastMay != 0 {
			t.Fatalf("Cool of %v, %v: %d, %d", c, l, lastSure, lastMay)
		}
	})
}

// without are the looks but those of the list.
func without(l []heat.Look, out []int) (left []heat.Look) {
	for i, k := range l {
		if !slices.Contains(out, i) {
			left = append(left, k)
		}
	}
	return left
}

func TestP3_13LeftOut(t *testing.T) {
	random := rand.New(rand.NewSource(15))
	for _, c := range cellars() {
		for _, l := range lookLists(random, c) {
			out, e := heat.Leave(c, l)
			left := without(l, out)
			u, f := heat.Show(c, left)
			if e != api.OK || f != api.OK || len(left) != len(l)-len(out) || !heat.ProveTruth(c, left, u) {
				t.Fatalf("%v, %v: without %v %v, %v", c, l, out, u, f)
			}
			for _, other := range subsets(len(l)) {
				if slices.Equal(other, out) {
					break
				}
				if _, e := heat.Bounds(c, without(l, other)); e != api.ErrFalse {
					t.Fatalf("Leave of %v, %v: %v, but without %v: %v", c, l, out, other, e)
				}
			}
		}
	}
}

func TestP3_15Still(t *testing.T) {
	stays := func(room, start, rate int) {
		for _, n := range course(t, room, start, rate) {
			if n != start {
				t.Fatalf("room %d, start %d, rate %d: %d", room, start, rate, n)
			}
		}
	}
	for n := 0; n <= 200; n++ {
		for room := 0; room <= 200; room += 7 {
			stays(room, n, 0)
		}
		for rate := range 101 {
			stays(n, n, rate)
		}
	}
	c := heat.Cellar{Room: to(40, 60), Hours: 8, Vats: []heat.Vat{vat(70, 90, 0, 0), vat(30, 30, 0, 0)}}
	b, e := heat.Bounds(c, nil)
	for v, r := range []heat.Range{to(70, 90), to(30, 30)} {
		if e != api.OK || len(b) != 2 || !slices.Equal(b[v], slices.Repeat([]heat.Range{r}, 9)) {
			t.Errorf("Bounds of %v: %v, %v", c, b, e)
		}
	}
}

// TestAnyOrder lists the looks in another order: the ranges and the hours are the same, and as many have to be left out.
func TestAnyOrder(t *testing.T) {
	random := rand.New(rand.NewSource(16))
	for _, c := range cellars() {
		for _, l := range lookLists(random, c) {
			other := slices.Clone(l)
			random.Shuffle(len(other), func(i, j int) { other[i], other[j] = other[j], other[i] })
			b, e := heat.Bounds(c, l)
			q, f := heat.Bounds(c, other)
			sure, may, _ := heat.Cool(c, l, 70)
			n, m, _ := heat.Cool(c, other, 70)
			out, _ := heat.Leave(c, l)
			list, _ := heat.Leave(c, other)
			if !equal(b, q) || e != f || sure != n || may != m || len(out) != len(list) {
				t.Fatalf("%v, %v: %v, %v, %d, %d, %v; %v: %v, %v, %d, %d, %v", c, l, b, e, sure, may, out, other, q, f, n, m, list)
			}
		}
	}
}

// overwrite changes all elements, and those that could be after them.
func overwrite[T any](x T, rows ...[]T) {
	for _, row := range rows {
		for i := range row {
			row[i] = x
		}
		_ = append(row, x)
	}
}

// TestOwnMemory checks that arguments are not written to, and that results share no memory with them, with each other, nor with later results.
func TestOwnMemory(t *testing.T) {
	c := example()
	l := looks(0, 0, 0, 99, 0, 1, 0, 75, 0, 2, 0, 99, 1, 0, 0, 40)
	right := looks(0, 1, 0, 75)
	u := truth(50, 80, 20, 40, 50)
	m := portions(100, 80, 80, 50, 50, 53)
	results := func() []any {
		p, _ := heat.Play(c, u)
		b, _ := heat.Bounds(c, right)
		s, _ := heat.Show(c, right)
		out, _ := heat.Leave(c, l)
		return []any{p, b, s, out}
	}
	want := results()
	p, _ := heat.Play(c, u)
	b, _ := heat.Bounds(c, right)
	s, _ := heat.Show(c, right)
	out, _ := heat.Leave(c, l)
	for i := range p {
		before, bounds := slices.Clone(p[1-i]), slices.Clone(b[1-i])
		overwrite(-99, p[i])
		overwrite(to(-99, -99), b[i])
		if !slices.Equal(p[1-i], before) || !slices.Equal(b[1-i], bounds) {
			t.Errorf("the rows share memory: %v, %v", p, b)
		}
	}
	rates := slices.Clone(s.Rate)
	overwrite(-99, s.Start, out)
	if !slices.Equal(s.Rate, rates) {
		t.Errorf("the starts and the rates share memory: %v", s)
	}
	overwrite(-99, s.Rate)
	heat.Mix(m)
	heat.Mean(c, 0, 75)
	heat.Cool(c, right, 70)
	heat.ProveTruth(c, right, u)
	if again := results(); !reflect.DeepEqual(again, want) {
		t.Errorf("results again: %v, not %v", again, want)
	}
	if !reflect.DeepEqual(c, example()) || !slices.Equal(l, looks(0, 0, 0, 99, 0, 1, 0, 75, 0, 2, 0, 99, 1, 0, 0, 40)) || !slices.Equal(right, looks(0, 1, 0, 75)) ||
		!reflect.DeepEqual(u, truth(50, 80, 20, 40, 50)) || !slices.Equal(m, portions(100, 80, 80, 50, 50, 53)) {
		t.Errorf("arguments were written to: %v, %v, %v, %v, %v", c, l, right, u, m)
	}
}

// TestAnyArguments checks that no call panics, and that each result beside an error is zero, whatever the arguments are.
func TestAnyArguments(t *testing.T) {
	values := list(least, least+1, -11, -10, -1, 0, 1, 2, 3, 8, 9, 20, 50, 70, 80, 100, 120, 200, 201, huge-1, huge)
	random := rand.New(rand.NewSource(17))
	some := func() int { return values[random.Intn(len(values))] }
	several := func() (l []int) {
		for range random.Intn(4) {
			l = append(l, some())
		}
		return l
	}
	for i := range 20000 {
		c := example()
		if i%2 == 0 {
			c = heat.Cellar{Room: to(some(), some()), Hours: some(), Vats: []heat.Vat{vat(some(), some(), some(), some())}, Thermometers: []heat.Thermometer{scale(some(), some(), some(), some())}}
		}
		none := heat.CheckCellar(c) != api.OK
		l := looks(some(), some(), some(), some())
		u := heat.Truth{Room: some(), Start: several(), Rate: several()}
		r, e := heat.Mean(c, some(), some())
		p, f := heat.Play(c, u)
		b, g := heat.Bounds(c, l)
		sure, may, h := heat.Cool(c, l, some())
		s, j := heat.Show(c, l)
		out, k := heat.Leave(c, l)
		q, m := heat.Mix(portions(some(), some(), some(), some(), some(), some()))
		for _, x := range []struct {
			e    api.Errno
			zero bool
		}{{e, r == to(0, 0)}, {f, len(p) == 0}, {g, len(b) == 0}, {h, sure == 0 && may == 0}, {j, isZero(s)}, {k, len(out) == 0}} {
			if x.e != api.OK && !x.zero || none && x.e == api.OK {
				t.Fatalf("a result beside an error, of %v, %v, %v", c, l, u)
			}
		}
		if m != api.OK && q != to(0, 0) || heat.ProveTruth(c, l, u) && (none || f != api.OK || g != api.OK) {
			t.Fatalf("Mix: %v, %v; ProveTruth of %v, %v, %v", q, m, c, l, u)
		}
	}
}
