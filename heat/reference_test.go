package heat_test

import (
	"math/rand"
	"slices"

	"saccharum/api"
	"saccharum/heat"
)

// What this file computes follows the definitions of the chapter word by word, and tries all truths.

func list(l ...int) []int { return l }

func to(low, high int) heat.Range { return heat.Range{Lo: low, Hi: high} }

func in(n int, r heat.Range) bool { return r.Lo <= n && n <= r.Hi }

// vat reads four numbers as a start and a rate.
func vat(l ...int) heat.Vat { return heat.Vat{Start: to(l[0], l[1]), Rate: to(l[2], l[3])} }

// looks reads each four numbers as a vat, an hour, a thermometer, and what was seen.
func looks(l ...int) (out []heat.Look) {
	for i := 0; i < len(l); i += 4 {
		out = append(out, heat.Look{Vat: l[i], Hour: l[i+1], Thermometer: l[i+2], Seen: l[i+3]})
	}
	return out
}

// truth reads each two numbers as a start and a rate.
func truth(room int, l ...int) heat.Truth {
	t := heat.Truth{Room: room}
	for i := 0; i < len(l); i += 2 {
		t.Start, t.Rate = append(t.Start, l[i]), append(t.Rate, l[i+1])
	}
	return t
}

// scale reads each three numbers as a part: where it is from, and the ends of its error.
func scale(top int, l ...int) heat.Thermometer {
	t := heat.Thermometer{Top: top}
	for i := 0; i < len(l); i += 3 {
		t.Parts = append(t.Parts, heat.Part{From: l[i], Error: to(l[i+1], l[i+2])})
	}
	return t
}

// exact is a thermometer without errors.
func exact() heat.Thermometer { return scale(200, 0, 0, 0) }

// example is the cellar of the chapter's examples.
func example() heat.Cellar {
	return heat.Cellar{Room: to(50, 52), Hours: 3, Vats: []heat.Vat{vat(80, 90, 20, 30), vat(40, 40, 50, 50)}, Thermometers: []heat.Thermometer{scale(120, 0, -1, 1, 70, 0, 2)}}
}

// joint is a cellar whose vats both have the warmth of the room, 20 to 22, after an hour.
func joint() heat.Cellar {
	return heat.Cellar{Room: to(20, 22), Hours: 2, Vats: []heat.Vat{vat(40, 40, 100, 100), vat(0, 0, 100, 100)}, Thermometers: []heat.Thermometer{exact()}}
}

// between is a random number from low to high, often one of both.
func between(random *rand.Rand, low, high int) int {
	switch random.Intn(8) {
	case 0:
		return low
	case 1:
		return high
	}
	return low + random.Intn(high-low+1)
}

// within is a range from low to high whose ends differ by at most so much.
func within(random *rand.Rand, low, high, wide int) heat.Range {
	n := between(random, low, high)
	return to(n, min(high, n+random.Intn(wide+1)))
}

func randomThermometer(random *rand.Rand) heat.Thermometer {
	wide := 1 + random.Intn(4)
	if random.Intn(6) == 0 {
		wide = 20
	}
	t := heat.Thermometer{Top: between(random, 90, 200)}
	from := random.Intn(20) * random.Intn(2)
	for range 1 + random.Intn(api.MaxHeatParts) {
		if from > t.Top {
			break
		}
		low := random.Intn(7) - 3
		if wide == 20 {
			low = -10
		}
		t.Parts = append(t.Parts, heat.Part{From: from, Error: to(low, min(10, low+random.Intn(wide+1)))})
		from += 1 + random.Intn(50)
	}
	return t
}

// randomCellar has up to so many vats, whose ranges are at most so wide.
func randomCellar(random *rand.Rand, vats, roomWide, wide int) heat.Cellar {
	c := heat.Cellar{Room: within(random, 0, 200, roomWide), Hours: between(random, 1, api.MaxHeatHours)}
	if random.Intn(3) > 0 {
		c.Room = within(random, 40, 90, roomWide)
	}
	for range 1 + random.Intn(vats) {
		v := heat.Vat{Start: within(random, 0, 200, wide), Rate: within(random, 0, 100, wide)}
		switch random.Intn(4) {
		case 0:
			v.Start = within(random, max(0, c.Room.Lo-8), min(200, c.Room.Hi+8), wide)
		case 1:
			v.Rate = within(random, 10, 50, wide)
		}
		c.Vats = append(c.Vats, v)
	}
	for range 1 + random.Intn(api.MaxHeatThermometers) {
		c.Thermometers = append(c.Thermometers, randomThermometer(random))
	}
	return c
}

// apart is a cellar in which the vat 0, if it has 60 degrees at the hour 2, was colder at the hour 1 in a warmer room; the vat 1 was not.
func apart() heat.Cellar {
	return heat.Cellar{Room: to(50, 57), Hours: 2, Vats: []heat.Vat{vat(100, 100, 55, 75), vat(80, 80, 39, 39)}, Thermometers: []heat.Thermometer{exact()}}
}

// apartCellar is one like it.
func apartCellar(random *rand.Rand) heat.Cellar {
	c := apart()
	low, fast, slow := 47+random.Intn(10), 50+random.Intn(20), 30+random.Intn(20)
	c.Room, c.Hours = to(low, low+4+random.Intn(5)), 2+random.Intn(2)
	c.Vats[0].Rate, c.Vats[1].Rate = to(fast, fast+10+random.Intn(11)), to(slow, slow)
	return c
}

// cellars have so few truths that all of them can be tried; always the same ones.
func cellars() []heat.Cellar {
	l := []heat.Cellar{
		example(), joint(), apart(),
		{Room: to(0, 0), Hours: 1, Vats: []heat.Vat{vat(0, 0, 0, 0)}, Thermometers: []heat.Thermometer{scale(0, 0, -10, 10)}},
		{Room: to(200, 200), Hours: 8, Vats: []heat.Vat{vat(200, 200, 0, 0)}, Thermometers: []heat.Thermometer{scale(200, 200, -10, 10)}},
		{Room: to(0, 0), Hours: 8, Vats: []heat.Vat{vat(180, 200, 0, 20)}, Thermometers: []heat.Thermometer{exact()}},
		{Room: to(180, 200), Hours: 8, Vats: []heat.Vat{vat(0, 20, 33, 33)}, Thermometers: []heat.Thermometer{exact()}},
		{Room: to(60, 62), Hours: 8, Vats: []heat.Vat{vat(55, 56, 1, 2), vat(66, 67, 3, 4), vat(60, 62, 99, 100)}, Thermometers: []heat.Thermometer{exact(), scale(100, 10, -1, 1), scale(70, 0, 1, 1, 30, 0, 0, 60, -2, -1, 65, -1, 1)}},
		{Room: to(90, 92), Hours: 4, Vats: []heat.Vat{vat(40, 42, 30, 31), vat(120, 121, 40, 42)}, Thermometers: []heat.Thermometer{scale(200, 0, -1, 1)}},
	}
	random := rand.New(rand.NewSource(1))
	for range 30 {
		l = append(l, randomCellar(random, 3, 2, 2), randomCellar(random, 1, 3, 9), randomCellar(random, 2, 4, 3), apartCellar(random))
	}
	return l
}

// wideCellars have more truths than can be tried one by one; always the same ones.
func wideCellars() []heat.Cellar {
	thermometers := []heat.Thermometer{exact(), scale(200, 0, -1, 1, 60, 0, 2)}
	l := []heat.Cellar{
		{Room: to(60, 80), Hours: 8, Vats: []heat.Vat{vat(80, 100, 10, 30), vat(40, 60, 5, 25), vat(60, 80, 80, 100)}, Thermometers: thermometers},
		{Room: to(0, 20), Hours: 8, Vats: []heat.Vat{vat(180, 200, 0, 20), vat(0, 20, 0, 20), vat(180, 200, 80, 100)}, Thermometers: thermometers},
		{Room: to(50, 70), Hours: 5, Vats: []heat.Vat{vat(90, 110, 20, 40), vat(90, 110, 20, 40), vat(90, 110, 20, 40)}, Thermometers: thermometers},
	}
	random := rand.New(rand.NewSource(2))
	for range 5 {
		l = append(l, randomCellar(random, 3, api.MaxHeatWide, api.MaxHeatWide))
	}
	return l
}

// warmths are those of a vat at each hour.
func warmths(hours, room, start, rate int) []int {
	l := list(start)
	for hour := 1; hour <= hours; hour++ {
		n := (l[hour-1] - room) * (100 - rate)
		if n < 0 {
			l = append(l, room-(-n)/100)
		} else {
			l = append(l, room+n/100)
		}
	}
	return l
}

// played is a truth with the warmths of each vat at each hour.
type played struct {
	truth   heat.Truth
	warmths [][]int
}

// allTruths are all truths of the cellar.
func allTruths(c heat.Cellar) []played {
	var l []played
	for room := c.Room.Lo; room <= c.Room.Hi; room++ {
		inRoom := []played{{truth: heat.Truth{Room: room}}}
		for _, v := range c.Vats {
			var more []played
			for _, p := range inRoom {
				for start := v.Start.Lo; start <= v.Start.Hi; start++ {
					for rate := v.Rate.Lo; rate <= v.Rate.Hi; rate++ {
						t := heat.Truth{Room: room, Start: append(slices.Clone(p.truth.Start), start), Rate: append(slices.Clone(p.truth.Rate), rate)}
						more = append(more, played{t, append(slices.Clone(p.warmths), warmths(c.Hours, room, start, rate))})
					}
				}
			}
			inRoom = more
		}
		l = append(l, inRoom...)
	}
	return l
}

// errorOf is the error of the part in which what was seen is.
func errorOf(t heat.Thermometer, seen int) heat.Range {
	for i, p := range t.Parts {
		last := t.Top
		if i+1 < len(t.Parts) {
			last = t.Parts[i+1].From - 1
		}
		if p.From <= seen && seen <= last {
			return p.Error
		}
	}
	panic("it is not on the scale")
}

// isRight reports whether a look is right if its vat is so warm at its hour.
func isRight(c heat.Cellar, k heat.Look, warmth int) bool {
	return in(k.Seen-warmth, errorOf(c.Thermometers[k.Thermometer], k.Seen))
}

// areRight reports whether all looks, but those left out, are right in the truth.
func areRight(c heat.Cellar, l []heat.Look, out []int, p played) bool {
	for i, k := range l {
		if !slices.Contains(out, i) && !isRight(c, k, p.warmths[k.Vat][k.Hour]) {
			return false
		}
	}
	return true
}

// truthsOf are the truths in which all looks, but those left out, are right.
func truthsOf(c heat.Cellar, all []played, l []heat.Look, out []int) (of []played) {
	for _, p := range all {
		if areRight(c, l, out, p) {
			of = append(of, p)
		}
	}
	return of
}

// boundsIn are the bounds of each vat at each hour in some truths.
func boundsIn(c heat.Cellar, of []played) (bounds [][]heat.Range) {
	for v := range c.Vats {
		var l []heat.Range
		for hour := range c.Hours + 1 {
			r := to(1<<30, -1<<30)
			for _, p := range of {
				r = to(min(r.Lo, p.warmths[v][hour]), max(r.Hi, p.warmths[v][hour]))
			}
			l = append(l, r)
		}
		bounds = append(bounds, l)
	}
	return bounds
}

// hoursIn are the sure hour and the possible hour in some truths.
func hoursIn(c heat.Cellar, of []played, limit int) (sure, may int) {
	sure, may = heat.Never, heat.Never
	for hour := c.Hours; hour >= 0; hour-- {
		count := 0
		for _, p := range of {
			warm := func(l []int) bool { return l[hour] > limit }
			if !slices.ContainsFunc(p.warmths, warm) {
				count++
			}
		}
		if count == len(of) {
			sure = hour
		}
		if count > 0 {
			may = hour
		}
	}
	return sure, may
}

// subsets are all increasing lists of numbers below count, the shorter ones first, then the lexicographically smaller ones.
func subsets(count int) (l [][]int) {
	for bits := range 1 << count {
		var s []int
		for i := range count {
			if bits>>i&1 == 1 {
				s = append(s, i)
			}
		}
		l = append(l, s)
	}
	slices.SortFunc(l, func(a, b []int) int {
		if len(a) != len(b) {
			return len(a) - len(b)
		}
		return slices.Compare(a, b)
	})
	return l
}

// smallest is the smallest set.
func smallest(c heat.Cellar, all []played, l []heat.Look) []int {
	for _, out := range subsets(len(l)) {
		if slices.ContainsFunc(all, func(p played) bool { return areRight(c, l, out, p) }) {
			return out
		}
	}
	panic("not even all looks can be left out")
}

// seenOn is what a thermometer may show at a warmth; it is on its scale, but may be wrong by more than the error.
func seenOn(random *rand.Rand, t heat.Thermometer, warmth int) int {
	var right []int
	for seen := t.Parts[0].From; seen <= t.Top; seen++ {
		if in(seen-warmth, errorOf(t, seen)) {
			right = append(right, seen)
		}
	}
	if len(right) == 0 {
		return min(t.Top, max(t.Parts[0].From, warmth))
	}
	return right[random.Intn(len(right))]
}

// moved is a look that shows a little more or less.
func moved(random *rand.Rand, c heat.Cellar, k heat.Look) heat.Look {
	t := c.Thermometers[k.Thermometer]
	k.Seen = min(t.Top, max(t.Parts[0].From, k.Seen+random.Intn(15)-7))
	return k
}

// lookAt is a look of the warmths, at some vat and hour.
func lookAt(random *rand.Rand, c heat.Cellar, p played) heat.Look {
	k := heat.Look{Vat: random.Intn(len(c.Vats)), Hour: random.Intn(c.Hours + 1), Thermometer: random.Intn(len(c.Thermometers))}
	k.Seen = seenOn(random, c.Thermometers[k.Thermometer], p.warmths[k.Vat][k.Hour])
	return k
}

// anyTruth is a random truth of the cellar.
func anyTruth(random *rand.Rand, c heat.Cellar) played {
	some := func(r heat.Range) int { return r.Lo + random.Intn(r.Hi-r.Lo+1) }
	p := played{truth: heat.Truth{Room: some(c.Room)}}
	for _, v := range c.Vats {
		start, rate := some(v.Start), some(v.Rate)
		p.truth.Start, p.truth.Rate = append(p.truth.Start, start), append(p.truth.Rate, rate)
		p.warmths = append(p.warmths, warmths(c.Hours, p.truth.Room, start, rate))
	}
	return p
}

// lookLists are lists of looks that are right in one truth, of looks of several truths, and of looks with mistakes.
func lookLists(random *rand.Rand, c heat.Cellar) [][]heat.Look {
	lists := [][]heat.Look{nil}
	for i := range 12 {
		p := anyTruth(random, c)
		var l []heat.Look
		for range 1 + random.Intn(api.MaxHeatLooks) {
			if i%4 == 1 {
				p = anyTruth(random, c)
			}
			k := lookAt(random, c, p)
			if i%4 == 2 && random.Intn(3) == 0 || i%4 == 3 && random.Intn(3) > 0 {
				k = moved(random, c, k)
			}
			l = append(l, k)
		}
		lists = append(lists, l)
	}
	return lists
}

// fitting are, for each room, the warmths of each vat with which all looks into it, but those left out, are right; without the rooms in which some vat has none.
// In a room each vat may have any of them, whatever the other ones have.
func fitting(c heat.Cellar, l []heat.Look, out []int) (rooms [][][][]int) {
	for room := c.Room.Lo; room <= c.Room.Hi; room++ {
		var vats [][][]int
		for v, x := range c.Vats {
			var fit [][]int
			for start := x.Start.Lo; start <= x.Start.Hi; start++ {
				for rate := x.Rate.Lo; rate <= x.Rate.Hi; rate++ {
					w := warmths(c.Hours, room, start, rate)
					wrong := func(i int) bool {
						return l[i].Vat == v && !slices.Contains(out, i) && !isRight(c, l[i], w[l[i].Hour])
					}
					if !slices.ContainsFunc(indexes(len(l)), wrong) {
						fit = append(fit, w)
					}
				}
			}
			if len(fit) > 0 {
				vats = append(vats, fit)
			}
		}
		if len(vats) == len(c.Vats) {
			rooms = append(rooms, vats)
		}
	}
	return rooms
}

// indexes are the numbers below count.
func indexes(count int) (l []int) {
	for i := range count {
		l = append(l, i)
	}
	return l
}

// wideBounds are the bounds of each vat at each hour in the rooms.
func wideBounds(c heat.Cellar, rooms [][][][]int) (bounds [][]heat.Range) {
	for v := range c.Vats {
		var of []played
		for _, vats := range rooms {
			for _, w := range vats[v] {
				of = append(of, played{warmths: [][]int{w}})
			}
		}
		alone := c
		alone.Vats = c.Vats[v : v+1]
		bounds = append(bounds, boundsIn(alone, of)...)
	}
	return bounds
}

// wideHours are the sure hour and the possible hour in the rooms.
func wideHours(c heat.Cellar, rooms [][][][]int, limit int) (sure, may int) {
	sure, may = heat.Never, heat.Never
	for hour := c.Hours; hour >= 0; hour-- {
		all, some := true, false
		for _, vats := range rooms {
			possible := true
			for _, courses := range vats {
				cool := func(w []int) bool { return w[hour] <= limit }
				warm := func(w []int) bool { return w[hour] > limit }
				all = all && !slices.ContainsFunc(courses, warm)
				possible = possible && slices.ContainsFunc(courses, cool)
			}
			some = some || possible
		}
		if all {
			sure = hour
		}
		if some {
			may = hour
		}
	}
	return sure, may
}

// wideSmallest is the smallest set.
func wideSmallest(c heat.Cellar, l []heat.Look) []int {
	for _, out := range subsets(len(l)) {
		if len(fitting(c, l, out)) > 0 {
			return out
		}
	}
	panic("not even all looks can be left out")
}
