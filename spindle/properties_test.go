package spindle_test

import (
	"math/rand"
	"slices"
	"testing"

	"saccharum/api"
	"saccharum/spindle"
)

// eachLoad calls the function for each load of each spindle.
func eachLoad(do func(s spindle.Spindle, load int)) {
	for _, s := range spindles() {
		for load := range len(s.Weights) + 1 {
			do(s, load)
		}
	}
}

func in(n int, r spindle.Range) bool { return r.Lo <= n && n <= r.Hi }

func TestP1_8ThereAndBack(t *testing.T) {
	eachLoad(func(s spindle.Spindle, load int) {
		means := map[int]spindle.Range{}
		for d := range s.Divisions + 1 {
			r, e := spindle.Mean(s, load, d)
			if e != api.OK {
				continue
			}
			means[d] = r
			for density := r.Lo; density <= r.Hi; density++ {
				if see, e := spindle.See(s, load, density); e != api.OK || !in(d, see) {
					t.Fatalf("%v, load %d: %d is in Mean of %d, but See has %v, %v", s, load, density, d, see, e)
				}
			}
		}
		for density := 1; density <= api.MaxSpindleDensity; density++ {
			see, e := spindle.See(s, load, density)
			for d := see.Lo; e == api.OK && d <= see.Hi; d++ {
				if !in(density, means[d]) {
					t.Fatalf("%v, load %d: See of %d has %d, whose Mean is %v", s, load, density, d, means[d])
				}
			}
		}
	})
}

func TestP1_9Denser(t *testing.T) {
	eachLoad(func(s spindle.Spindle, load int) {
		last, rose := to(s.Divisions, s.Divisions), false
		for density := 1; density <= api.MaxSpindleDensity; density++ {
			rest, _ := spindle.Floats(s, load, density)
			if rose && rest != spindle.Rises {
				t.Fatalf("%v, load %d: it does not rise in %d", s, load, density)
			}
			rose = rest == spindle.Rises
			if see, e := spindle.See(s, load, density); e == api.OK {
				if see.Lo > last.Lo || see.Hi > last.Hi {
					t.Fatalf("%v, load %d, density %d: %v after %v", s, load, density, see, last)
				}
				last = see
			}
		}
	})
}

func TestP1_9Heavier(t *testing.T) {
	eachLoad(func(s spindle.Spindle, load int) {
		for other := range len(s.Weights) + 1 {
			if mass(s, other) < mass(s, load) {
				continue
			}
			for density := 1; density <= api.MaxSpindleDensity; density += 3 {
				light, e := spindle.See(s, load, density)
				heavy, f := spindle.See(s, other, density)
				if e == api.OK && f == api.OK && (heavy.Lo < light.Lo || heavy.Hi < light.Hi) {
					t.Fatalf("%v, density %d: load %d shows %v, %d shows %v", s, density, load, light, other, heavy)
				}
			}
		}
	})
}

func TestP1_10SomeDivision(t *testing.T) {
	counts := map[int]int{}
	eachLoad(func(s spindle.Spindle, load int) {
		for density := 1; density <= api.MaxSpindleDensity; density++ {
			rest, _ := spindle.Floats(s, load, density)
			see, e := spindle.See(s, load, density)
			if (rest == 0) != (e == api.OK) {
				t.Fatalf("%v, load %d, density %d: %d, %v", s, load, density, rest, e)
			}
			if e != api.OK {
				continue
			}
			n := see.Hi - see.Lo + 1
			counts[n]++
			if n < 1 || n > 3 || len(reads(s, load, density)) != n || see.Lo < 0 || see.Hi > s.Divisions {
				t.Fatalf("%v, load %d, density %d: %v", s, load, density, see)
			}
		}
	})
	if counts[1] == 0 || counts[2] == 0 || counts[3] == 0 {
		t.Errorf("not each number of divisions was seen: %v", counts)
	}
}

func TestP1_11AllThatIsRead(t *testing.T) {
	random := rand.New(rand.NewSource(5))
	for _, s := range spindles() {
		for range 10 {
			density := 1 + random.Intn(api.MaxSpindleDensity)
			last := to(1, api.MaxSpindleDensity)
			var l []spindle.Reading
			for range api.MaxSpindleReadings {
				load := random.Intn(len(s.Weights) + 1)
				l = append(l, spindle.Reading{Load: load, Seen: seenIn(s, load, density, random)})
				r, e := spindle.Narrow(s, l)
				if e != api.OK || !in(density, r) || r.Lo < last.Lo || r.Hi > last.Hi {
					t.Fatalf("Narrow of %v, %v, after %v: %v, %v", s, l, last, r, e)
				}
				last = r
				if out, e := spindle.Leave(s, l); len(out) != 0 || e != api.OK {
					t.Fatalf("Leave of %v, %v: %v, %v", s, l, out, e)
				}
			}
		}
	}
}

func TestP1_12LeftOut(t *testing.T) {
	random := rand.New(rand.NewSource(6))
	sizes := map[int]int{}
	for _, s := range spindles() {
		for _, l := range readingLists(s, random) {
			out, e := spindle.Leave(s, l)
			sizes[len(out)]++
			if e != api.OK || len(fitting(s, l, out)) == 0 {
				t.Fatalf("Leave of %v, %v: %v, %v", s, l, out, e)
			}
			for _, other := range subsets(len(l)) {
				if slices.Equal(other, out) {
					break
				}
				if len(fitting(s, l, other)) > 0 {
					t.Fatalf("Leave of %v, %v: %v, but %v can be left out", s, l, out, other)
				}
			}
		}
	}
	if sizes[0] == 0 || sizes[1] == 0 || sizes[2] == 0 || sizes[3] == 0 {
		t.Errorf("not each size was tried: %v", sizes)
	}
}

// TestAnyOrder lists the readings backwards: the range is the same, and as many have to be left out.
func TestAnyOrder(t *testing.T) {
	random := rand.New(rand.NewSource(7))
	for _, s := range spindles() {
		for _, l := range readingLists(s, random) {
			back := slices.Clone(l)
			slices.Reverse(back)
			r, e := spindle.Narrow(s, l)
			q, f := spindle.Narrow(s, back)
			out, _ := spindle.Leave(s, l)
			other, _ := spindle.Leave(s, back)
			if r != q || e != f || len(out) != len(other) {
				t.Fatalf("%v, %v: %v, %v, %v; backwards %v, %v, %v", s, l, r, e, out, q, f, other)
			}
		}
	}
}

func TestP1_13Fewest(t *testing.T) {
	several := 0
	for _, s := range spindles() {
		for _, r := range coverable(s) {
			l, e := spindle.Cover(s, r)
			if e != api.OK {
				if covers(s, r, subsets(len(s.Weights) + 1)[1<<(len(s.Weights)+1)-1]) {
					t.Fatalf("Cover of %v, %v: %v", s, r, e)
				}
				continue
			}
			if !covers(s, r, l) || !spindle.ProveCover(s, r, l, len(l)) {
				t.Fatalf("Cover of %v, %v: %v does not cover it", s, r, l)
			}
			if len(l) > 1 {
				several++
			}
			for _, other := range subsets(len(s.Weights) + 1) {
				if len(other) < len(l) && covers(s, r, other) {
					t.Fatalf("Cover of %v, %v: %v, but %v covers it", s, r, l, other)
				}
			}
			wider := to(max(1, r.Lo-20), min(api.MaxSpindleDensity, r.Hi+20))
			if more, e := spindle.Cover(s, wider); e == api.OK && len(more) < len(l) {
				t.Fatalf("Cover of %v: %v of %v, but %v of %v", s, l, r, more, wider)
			}
		}
	}
	if several == 0 {
		t.Error("no range needs several loads")
	}
}

// coverable are ranges between the densities in which the spindle floats with some loads, and the others.
func coverable(s spindle.Spindle) []spindle.Range {
	l := ranges()
	for load := range len(s.Weights) + 1 {
		for other := range len(s.Weights) + 1 {
			var floats []int
			for density := 1; density <= api.MaxSpindleDensity; density++ {
				if rests(s, load, density) == 0 || rests(s, other, density) == 0 {
					floats = append(floats, density)
				}
			}
			if len(floats) > 0 {
				l = append(l, span(floats))
			}
		}
	}
	return l
}

func TestP1_14Verdicts(t *testing.T) {
	for _, s := range spindles() {
		for _, r := range ranges() {
			l, _ := spindle.Verdicts(s, r)
			for load, v := range l {
				if alone := spindle.ProveCover(s, r, row(load), 1); alone != (v == spindle.Always) {
					t.Fatalf("%v, %v: load %d has %d, and covers it alone: %v", s, r, load, v, alone)
				}
				for density := r.Lo; v == spindle.Never && density <= r.Hi; density++ {
					if n, _ := spindle.Floats(s, load, density); n == 0 {
						t.Fatalf("%v, %v: load %d floats in %d", s, r, load, density)
					}
				}
			}
		}
	}
}

func TestP1_15Best(t *testing.T) {
	for _, s := range spindles() {
		for _, r := range ranges() {
			best, left, e := spindle.Best(s, r)
			if e != api.OK {
				t.Fatalf("Best of %v, %v: %v", s, r, e)
			}
			for load := range len(s.Weights) + 1 {
				most := 0
				for _, seen := range sights(s) {
					m, e := spindle.Mean(s, load, seen)
					if e == api.OK {
						most = max(most, min(m.Hi, r.Hi)-max(m.Lo, r.Lo)+1)
					}
				}
				if load == best && most != left || load < best && most <= left || most < left {
					t.Fatalf("Best of %v, %v: %d, %d, but load %d leaves %d", s, r, best, left, load, most)
				}
			}
		}
	}
}

// scaled is the spindle with all its masses and volumes multiplied.
func scaled(s spindle.Spindle, by int) spindle.Spindle {
	s.Mass, s.Volume, s.Step, s.Width = by*s.Mass, by*s.Volume, by*s.Step, by*s.Width
	s.Weights = slices.Clone(s.Weights)
	for i := range s.Weights {
		s.Weights[i] *= by
	}
	return s
}

func TestP1_16Scale(t *testing.T) {
	random := rand.New(rand.NewSource(8))
	pairs := 0
	for _, s := range spindles() {
		for by := 2; by <= 5; by++ {
			if big := scaled(s, by); spindle.CheckSpindle(big) == api.OK {
				pairs++
				sameReadings(t, s, big, random)
				sameRanges(t, s, big)
			}
		}
	}
	if pairs < 10 {
		t.Errorf("only %d spindles were scaled", pairs)
	}
}

func sameReadings(t *testing.T, s, big spindle.Spindle, random *rand.Rand) {
	for load := range len(s.Weights) + 1 {
		for density := 1; density <= api.MaxSpindleDensity; density++ {
			n, _ := spindle.Floats(s, load, density)
			m, _ := spindle.Floats(big, load, density)
			r, e := spindle.See(s, load, density)
			q, f := spindle.See(big, load, density)
			if n != m || r != q || e != f {
				t.Fatalf("%v and %v, load %d, density %d: %d, %v; %d, %v", s, big, load, density, n, r, m, q)
			}
		}
		for _, seen := range sights(s) {
			r, e := spindle.Mean(s, load, seen)
			q, f := spindle.Mean(big, load, seen)
			if r != q || e != f {
				t.Fatalf("%v and %v, load %d, seen %d: %v, %v", s, big, load, seen, r, q)
			}
		}
	}
	for _, l := range readingLists(s, random) {
		r, e := spindle.Narrow(s, l)
		q, f := spindle.Narrow(big, l)
		out, _ := spindle.Leave(s, l)
		other, _ := spindle.Leave(big, l)
		if r != q || e != f || !slices.Equal(out, other) {
			t.Fatalf("%v and %v, %v: %v, %v; %v, %v", s, big, l, r, out, q, other)
		}
	}
}

func sameRanges(t *testing.T, s, big spindle.Spindle) {
	for _, r := range ranges() {
		v, _ := spindle.Verdicts(s, r)
		w, _ := spindle.Verdicts(big, r)
		l, e := spindle.Cover(s, r)
		k, f := spindle.Cover(big, r)
		b, n, _ := spindle.Best(s, r)
		c, m, _ := spindle.Best(big, r)
		if !slices.Equal(v, w) || !slices.Equal(l, k) || e != f || b != c || n != m {
			t.Fatalf("%v and %v, %v: %v, %v, %d, %d; %v, %v, %d, %d", s, big, r, v, l, b, n, w, k, c, m)
		}
	}
}
