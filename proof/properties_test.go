package proof_test

import (
	"math/rand"
	"slices"
	"testing"

	"saccharum/api"
	"saccharum/proof"
	"saccharum/table"
)

// duties are the bounds of the duty on all casks of a store that is valid.
func duties(t *testing.T, s proof.Store) proof.Range {
	r, e := proof.Duties(s)
	if e != api.OK {
		t.Fatalf("Duties of %v: %v", s, e)
	}
	return r
}

// blended are the bounds of the strength of a blend that there is.
func blended(t *testing.T, s proof.Store, casks []int, water int) proof.Range {
	r, e := proof.Blend(s, casks, water)
	if e != api.OK {
		t.Fatalf("Blend of %v, %v, %d: %v", s, casks, water, e)
	}
	return r
}

// allStores are all of both kinds.
func allStores() []proof.Store { return append(stores(), wideStores()...) }

// TestP4_7InEachTruth tries all truths of most stores; of the wide ones some, with those that have all casks at one end of their strengths.
func TestP4_7InEachTruth(t *testing.T) {
	random := rand.New(rand.NewSource(10))
	for _, s := range allStores() {
		l := someTruths(random, s)
		paid := duties(t, s)
		var owed []int
		for _, truth := range l {
			n, e := proof.Duty(s, truth)
			if e != api.OK || !in(n, paid) {
				t.Fatalf("%v: Duty of %v: %d, %v, but Duties are %v", s, truth, n, e, paid)
			}
			owed = append(owed, n)
		}
		if slices.Min(owed) != paid.Lo || slices.Max(owed) != paid.Hi {
			t.Fatalf("%v: an end of the Duties %v is not reached", s, paid)
		}
		for _, casks := range blends(s) {
			water := list(0, random.Intn(100))[random.Intn(2)]
			if r := blended(t, s, casks, water); blend(s, l, casks, water) != r {
				t.Fatalf("Blend of %v, %v, %d: %v, but the truths have %v", s, casks, water, r, blend(s, l, casks, water))
			}
		}
	}
}

func TestP4_8BetweenItsCasks(t *testing.T) {
	for _, s := range allStores() {
		r, e := proof.Strengths(s)
		if e != api.OK {
			t.Fatalf("Strengths of %v: %v", s, e)
		}
		for _, casks := range blends(s) {
			low, high := huge, lowest
			for _, i := range casks {
				low, high = min(low, r[i].Lo), max(high, r[i].Hi)
			}
			b := blended(t, s, casks, 0)
			if !within(b, to(low, high)) || len(casks) == 1 && b != r[casks[0]] {
				t.Fatalf("Blend of %v, %v: %v, but the casks have %v", s, casks, b, r)
			}
		}
	}
}

// TestP4_8InEachTruth has stores with one truth, so that the strength of each cask is known.
func TestP4_8InEachTruth(t *testing.T) {
	random := rand.New(rand.NewSource(11))
	for range 300 {
		s, truth := exact(random)
		for _, casks := range blends(s) {
			var of []int
			for _, i := range casks {
				of = append(of, truth[i])
			}
			if r := blended(t, s, casks, 0); r.Lo < slices.Min(of) || r.Hi > slices.Max(of) {
				t.Fatalf("Blend of %v, %v: %v of %v", s, casks, r, truth)
			}
		}
	}
}

func TestP4_9Water(t *testing.T) {
	random := rand.New(rand.NewSource(12))
	some, sinks := 0, 0
	for _, s := range allStores() {
		for _, casks := range blends(s) {
			for _, n := range lines(random, 5, 1, api.MaxTableValue) {
				water, e := proof.Water(s, casks, n)
				if e == api.ErrSink {
					sinks++
					if water != 0 || blended(t, s, casks, 99).Hi <= n {
						t.Fatalf("Water of %v, %v, %d: %d, %v", s, casks, n, water, e)
					}
					continue
				}
				if e != api.OK || water < 0 || water > 99 || blended(t, s, casks, water).Hi > n {
					t.Fatalf("Water of %v, %v, %d: %d, %v", s, casks, n, water, e)
				}
				if water > 0 {
					some++
					if blended(t, s, casks, water-1).Hi <= n {
						t.Fatalf("Water of %v, %v, %d: %d, but less is enough", s, casks, n, water)
					}
				}
			}
		}
	}
	if some < 500 || sinks < 500 {
		t.Errorf("only %d blends need water, and %d too much", some, sinks)
	}
}

// TestP4_9EachStrength tries all strengths, those that need too much water first.
func TestP4_9EachStrength(t *testing.T) {
	for _, s := range stores()[:30] {
		for _, casks := range blends(s) {
			last := 100
			for n := 1; n <= api.MaxTableValue; n++ {
				water, e := proof.Water(s, casks, n)
				if e == api.ErrSink {
					water = 100
				}
				if water > last || e != api.OK && e != api.ErrSink {
					t.Fatalf("Water of %v, %v, %d: %d, %v after %d", s, casks, n, water, e, last)
				}
				last = water
			}
			if last != 0 {
				t.Fatalf("Water of %v, %v for the greatest strength: %d", s, casks, last)
			}
		}
	}
}

// exact is a store with one truth, whose table has the strength of each cask, and this truth.
func exact(random *rand.Rand) (s proof.Store, truth []int) {
	wide := list(3, 100, api.MaxTableValue)[random.Intn(3)]
	low := random.Intn(api.MaxTableValue - wide + 1)
	s.Table = table.Table{Warmths: list(11, 19), Marks: list(5, 6, 60), Values: [][]int{nil, nil}}
	s.Rate = random.Intn(api.MaxProofRate + 1)
	for i := range api.MaxProofCasks {
		warmth, mark := s.Table.Warmths[i/3], s.Table.Marks[i%3]
		truth = append(truth, between(random, low, low+wide))
		s.Table.Values[i/3] = append(s.Table.Values[i/3], truth[i])
		s.Casks = append(s.Casks, cask(between(random, 1, list(3, 99)[random.Intn(2)]), to(warmth, warmth), to(mark, mark)))
	}
	return s, truth
}

func TestP4_10Proof(t *testing.T) {
	random := rand.New(rand.NewSource(13))
	more, fewer := 0, 0
	for range 300 {
		s, truth := exact(random)
		n, e := proof.Tenths(s, truth)
		if e != api.OK {
			t.Fatalf("Tenths of %v, %v: %v", s, truth, e)
		}
		for _, casks := range blends(s) {
			for _, water := range list(0, random.Intn(100)) {
				gallons, together := water, 0
				for _, i := range casks {
					gallons += s.Casks[i].Gallons
					together += n[i]
				}
				r := blended(t, s, casks, water)
				of := tenths(gallons, r.Lo)
				if r.Lo != r.Hi || of > together+len(casks)-1 || of < together-(gallons+99)/100 {
					t.Fatalf("Blend of %v, %v, %d: %v, so that there are %d tenths, but its casks have %d", s, casks, water, r, of, together)
				}
				if of == together+len(casks)-1 && len(casks) > 1 {
					more++
				}
				if of < together {
					fewer++
				}
			}
		}
	}
	if more < 100 || fewer < 100 {
		t.Errorf("only %d blends have the most that they can have, and %d less than their casks", more, fewer)
	}
}

func TestP4_11Fewest(t *testing.T) {
	random := rand.New(rand.NewSource(14))
	found, none := 0, 0
	for _, s := range allStores() {
		for range 20 {
			low := between(random, 0, api.MaxTableValue)
			if lists := blends(s); len(lists) > 0 && random.Intn(2) == 0 {
				low = blended(t, s, lists[random.Intn(len(lists))], 0).Lo - random.Intn(3)
			}
			r := to(low, low+random.Intn(list(4, 40, 400)[random.Intn(3)]))
			casks, e := proof.Fewest(s, r)
			if e == api.OK {
				found++
			} else if none++; e != api.ErrNone {
				t.Fatalf("Fewest of %v, %v: %v, %v", s, r, casks, e)
			}
			if proof.ProveBlend(s, casks, 0, r) != (e == api.OK) || e == api.OK && !within(blended(t, s, casks, 0), r) {
				t.Fatalf("Fewest of %v, %v: %v, %v, which is not surely in it", s, r, casks, e)
			}
			for _, other := range blends(s) {
				if slices.Equal(other, casks) {
					break
				}
				if proof.ProveBlend(s, other, 0, r) {
					t.Fatalf("Fewest of %v, %v: %v, %v, but %v is surely in it", s, r, casks, e, other)
				}
			}
		}
	}
	if found < 500 || none < 500 {
		t.Errorf("only %d ranges have a blend, and %d have none", found, none)
	}
}

func TestP4_12Declarations(t *testing.T) {
	random := rand.New(rand.NewSource(15))
	for _, s := range allStores() {
		least, most := slices.Repeat(list(huge), len(s.Casks)), slices.Repeat(list(lowest), len(s.Casks))
		for _, truth := range someTruths(random, s) {
			n, e := proof.Tenths(s, truth)
			if e != api.OK {
				t.Fatalf("Tenths of %v, %v: %v", s, truth, e)
			}
			var l []proof.Declaration
			for i := range n {
				l = append(l, says(i, n[i])...)
				least[i], most[i] = min(least[i], n[i]), max(most[i], n[i])
			}
			if wrong, e := proof.False(s, l); len(wrong) > 0 || e != api.OK {
				t.Fatalf("False of %v, %v: %v, %v, but it is so in %v", s, l, wrong, e, truth)
			}
		}
		for i := range s.Casks {
			l := says(i, least[i], i, least[i]-1, i, most[i], i, most[i]+1, i, most[i]+1+random.Intn(999), i, least[i]-1-random.Intn(999), i, huge, i, lowest)
			if wrong, e := proof.False(s, l); !slices.Equal(wrong, list(1, 3, 4, 5, 6, 7)) || e != api.OK {
				t.Fatalf("False of %v, %v: %v, %v", s, l, wrong, e)
			}
		}
	}
}

// longer is the range with some numbers more, as far as there are points.
func longer(random *rand.Rand, r proof.Range, lines []int) proof.Range {
	return to(max(lines[0], r.Lo-random.Intn(4)), min(lines[len(lines)-1], r.Hi+random.Intn(4)))
}

// wider is the store with wider ranges of a cask, which is also returned.
func wider(random *rand.Rand, s proof.Store) (proof.Store, int) {
	s = copied(s)
	i := random.Intn(len(s.Casks))
	c := &s.Casks[i]
	if random.Intn(2) == 0 {
		c.Warmth = longer(random, c.Warmth, s.Table.Warmths)
	}
	if random.Intn(2) == 0 {
		c.Mark = longer(random, c.Mark, s.Table.Marks)
	}
	return s, i
}

// needed is the water for the strength, or more than there may be if it is too much.
func needed(t *testing.T, s proof.Store, casks []int, strength int) int {
	n, e := proof.Water(s, casks, strength)
	if e == api.ErrSink {
		return 100
	}
	if e != api.OK {
		t.Fatalf("Water of %v, %v, %d: %v", s, casks, strength, e)
	}
	return n
}

func TestP4_13Wider(t *testing.T) {
	random := rand.New(rand.NewSource(16))
	more, water, fewer := 0, 0, 0
	for _, s := range allStores() {
		for range 4 {
			if len(s.Casks) == 0 {
				continue
			}
			other, i := wider(random, s)
			r, _ := proof.Strengths(s)
			q, e := proof.Strengths(other)
			if e != api.OK || !within(r[i], q[i]) || !within(duties(t, s), duties(t, other)) {
				t.Fatalf("%v and %v: %v, %v and %v", s, other, r, q, e)
			}
			for _, casks := range blends(s) {
				add, n := random.Intn(100), between(random, 1, min(2000, r[i].Hi+1))
				a, b := blended(t, s, casks, add), blended(t, other, casks, add)
				w, v := needed(t, s, casks, n), needed(t, other, casks, n)
				if !within(a, b) || w > v {
					t.Fatalf("%v and %v, %v: %v and %v; %d and %d for %d", s, other, casks, a, b, w, v, n)
				}
				more += min(1, a.Lo-b.Lo+b.Hi-a.Hi)
				water += min(1, v-w)
			}
			fewer += fewerFalse(t, s, other, i, q[i])
		}
	}
	if more < 1000 || water < 400 || fewer < 100 {
		t.Errorf("only %d bounds are wider, %d blends need more water, and %d declarations are no longer false", more, water, fewer)
	}
}

// fewerFalse checks that no declaration of a cask becomes false in the other store, and returns how many do not stay so.
func fewerFalse(t *testing.T, s, other proof.Store, i int, r proof.Range) int {
	var l []proof.Declaration
	for n := tenths(s.Casks[i].Gallons, r.Lo) - 2; n <= tenths(s.Casks[i].Gallons, r.Hi)+2; n++ {
		l = append(l, says(i, n)...)
	}
	wrong, e := proof.False(s, l)
	left, f := proof.False(other, l)
	for _, n := range left {
		if !slices.Contains(wrong, n) {
			t.Fatalf("False of %v and %v: %v is false only in the wider one", s, other, l[n])
		}
	}
	if e != api.OK || f != api.OK {
		t.Fatalf("False of %v and %v: %v, %v", s, other, e, f)
	}
	return len(wrong) - len(left)
}

func TestP4_14OneByOne(t *testing.T) {
	for _, s := range allStores() {
		var sum proof.Range
		for _, c := range s.Casks {
			alone := s
			alone.Casks = []proof.Cask{c}
			r := duties(t, alone)
			sum = to(sum.Lo+r.Lo, sum.Hi+r.Hi)
		}
		if r := duties(t, s); r != sum {
			t.Fatalf("Duties of %v: %v, but those of each cask are %v together", s, r, sum)
		}
	}
}

func TestP4_14WithoutCasks(t *testing.T) {
	for _, s := range allStores() {
		for _, none := range [][]proof.Cask{nil, {}} {
			s.Casks = none
			n, e := proof.Duty(s, nil)
			if r := duties(t, s); r != to(0, 0) || n != 0 || e != api.OK {
				t.Fatalf("Duties of %v: %v; Duty: %d, %v", s, r, n, e)
			}
		}
	}
}
