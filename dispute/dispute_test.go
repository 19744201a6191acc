package dispute_test

import (
	"math/rand"
	"reflect"
	"slices"
	"testing"

	"saccharum/api"
	"saccharum/dispute"
)

func TestP11_1MeanExamples(t *testing.T) {
	over := func(low, high, first, last int) dispute.Fact {
		return dispute.Fact{Warmth: to(low, high), Mark: to(first, last)}
	}
	for _, x := range []struct {
		f    dispute.Fact
		want dispute.Range
	}{
		{read(0, 0, 12, 5, 6), to(115, 119)}, {read(1, 0, 14, 2, 3), to(98, 102)}, {read(2, 1, 10, 4, 4), to(116, 116)}, {read(0, 0, 12, 5, 5), to(115, 115)}, {over(12, 14, 0, 5), to(90, 115)}, {over(10, 20, 0, 20), to(80, 200)}, {over(20, 20, 0, 0), to(80, 80)}, {over(17, 17, 20, 20), to(181, 181)}, {over(12, 12, 10, 10), to(136, 136)},
	} {
		// A fact means the same, whatever its party and its sample are, and beside a fact like it.
		x.f.Party, x.f.Sample = 1, 1
		if r, e := dispute.Mean(example(x.f, x.f), 3); r != x.want || e != api.OK {
			t.Errorf("Mean of %v: %v, %v", x.f, r, e)
		}
		if r, e := dispute.Mean(example(x.f, x.f), 4); r != x.want || e != api.OK {
			t.Errorf("Mean of %v again: %v, %v", x.f, r, e)
		}
	}
	// What a fact means needs no truth.
	if r, e := dispute.Mean(torn(read(0, 0, 1, 5, 7)), 0); r != to(104, 106) || e != api.OK {
		t.Errorf("Mean of a dispute whose links contradict each other: %v, %v", r, e)
	}
}

func TestP11_1Mean(t *testing.T) {
	wide := 0
	for _, x := range allReadings() {
		for i, want := range meanings(x.d) {
			if r, e := dispute.Mean(x.d, i); r != want || e != api.OK {
				t.Fatalf("Mean of %v, %d: %v, %v, not %v", x.d, i, r, e, want)
			}
			if want.Lo < want.Hi {
				wide++
			}
		}
	}
	if wide < 1000 {
		t.Errorf("only %d facts with several strengths", wide)
	}
}

func TestP11_2BoundsExamples(t *testing.T) {
	for _, x := range []struct {
		d    dispute.Dispute
		want []dispute.Range
	}{
		{agreed(), ranges(116, 119, 116, 116)}, {plain(1, 1, nil), ranges(0, 2000)}, {plain(3, 1, nil), ranges(0, 2000, 0, 2000, 0, 2000)}, {plain(1, 1, nil, read(0, 0, 0, 5, 9)), ranges(105, 109)}, {plain(1, 1, nil, read(0, 0, 0, 5, 9), read(0, 0, 1, 9, 20)), ranges(108, 109)}, {plain(1, 2, nil, read(0, 0, 0, 5, 9), read(1, 0, 0, 9, 20)), ranges(109, 109)},
		// A link has an effect in both directions, and on samples that nobody read.
		{plain(2, 1, links(link(0, 1, 5, 8))), ranges(0, 1995, 5, 2000)}, {plain(2, 1, links(link(0, 1, 5, 8)), read(0, 0, 0, 5, 9)), ranges(105, 109, 110, 117)}, {plain(2, 1, links(link(0, 1, 5, 8)), read(0, 1, 0, 5, 9)), ranges(97, 104, 105, 109)}, {plain(2, 1, links(link(1, 0, 5, 8)), read(0, 1, 0, 5, 9)), ranges(110, 117, 105, 109)}, {plain(2, 1, links(link(0, 1, 0, 0)), read(0, 0, 0, 5, 9), read(0, 1, 0, 9, 20)), ranges(109, 109, 109, 109)}, {plain(2, 1, links(link(0, 1, -2000, 2000)), read(0, 0, 0, 5, 9)), ranges(105, 109, 0, 2000)},
		{plain(2, 1, links(link(0, 1, 3, 9), link(1, 0, -4, 2)), read(0, 0, 0, 7, 7)), ranges(107, 107, 110, 111)}, {plain(3, 1, links(link(0, 1, 5, 8), link(2, 1, -4, -2)), read(0, 0, 0, 10, 12)), ranges(110, 112, 115, 120, 117, 124)},
		// One link follows from two other ones, in part, and narrows what they leave.
		{plain(3, 1, links(link(0, 1, 5, 8), link(1, 2, 1, 1), link(0, 2, 8, 9)), read(0, 0, 0, 10, 12)), ranges(110, 112, 117, 120, 118, 121)}, {plain(3, 1, links(link(1, 2, 1, 3), link(0, 1, 2, 4), link(2, 0, -4, -3)), read(0, 2, 0, 20, 21)), ranges(116, 118, 118, 120, 120, 121)}, {plain(3, 1, links(link(1, 0, 1, 2), link(2, 1, 1, 2)), read(0, 2, 0, 20, 20), read(0, 0, 0, 24, 60)), ranges(124, 124, 122, 122, 120, 120)},
		// No strength is below 0, or above 2000.
		{plain(2, 1, links(link(0, 1, -2000, -2000))), ranges(2000, 2000, 0, 0)}, {plain(2, 1, links(link(0, 1, 1990, 2000))), ranges(0, 10, 1990, 2000)}, {plain(3, 1, links(link(0, 1, 900, 1000), link(1, 2, 900, 1000))), ranges(0, 200, 900, 1100, 1800, 2000)}, {plain(2, 1, links(link(0, 1, -300, -99)), read(0, 0, 0, 0, 0)), ranges(100, 100, 0, 1)}, {plain(2, 1, links(link(1, 0, -2000, -1890)), read(0, 0, 0, 0, 60)), ranges(100, 110, 1990, 2000)},
	} {
		hasBounds(t, x.d, x.want)
	}
}

// hasBounds checks the bounds of a dispute; nil are those of one without truths.
func hasBounds(t *testing.T, d dispute.Dispute, want []dispute.Range) {
	f := api.OK
	if want == nil {
		f = api.ErrFalse
	}
	if b, e := dispute.Bounds(d); !slices.Equal(b, want) || e != f {
		t.Fatalf("Bounds of %v: %v, %v, not %v", d, b, e, want)
	}
}

func TestP11_2Bounds(t *testing.T) {
	count := map[bool]int{}
	for _, x := range allReadings() {
		hasBounds(t, x.d, x.all())
		count[x.all() == nil]++
	}
	if min(count[true], count[false]) < 400 {
		t.Errorf("not all were tried: %v", count)
	}
}

// TestP11_2References checks that both ways of reading a dispute are the same, and that links leave no other truths.
func TestP11_2References(t *testing.T) {
	for i, d := range narrowDisputes() {
		narrow, wide := readNarrow(d), readWide(d)
		if !reflect.DeepEqual(narrow, wide) {
			t.Fatalf("%v has two readings: %v, %v", d, narrow.bounds, wide.bounds)
		}
		if d.Samples != 2 || i%20 > 0 {
			continue
		}
		found, tried := 0, 0
		eachTruth(d, func(truth []int) {
			if isLinked(d, truth) {
				found++
			}
			tried++
		})
		for n := range api.MaxDisputeStrength + 1 {
			for m := range api.MaxDisputeStrength + 1 {
				if isLinked(d, list(n, m)) {
					found--
				} else {
					tried++
				}
			}
		}
		if found != 0 || tried != (api.MaxDisputeStrength+1)*(api.MaxDisputeStrength+1) {
			t.Fatalf("the truths by the links of %v: %d missing, %d tried", d, -found, tried)
		}
	}
}

// isTruth reports whether the list is a truth of the dispute.
func isTruth(d dispute.Dispute, truth []int) bool {
	if len(truth) != d.Samples {
		return false
	}
	for _, n := range truth {
		if !in(n, strengths()) {
			return false
		}
	}
	return isLinked(d, truth) && right(d, meanings(d), truth) == 1<<len(d.Facts)-1
}

func TestP11_3Show(t *testing.T) {
	count := 0
	for _, x := range allReadings() {
		for sample := range x.d.Samples {
			for _, high := range []bool{false, true} {
				l, e := dispute.Show(x.d, sample, high)
				if x.all() == nil {
					if len(l) != 0 || e != api.ErrFalse {
						t.Fatalf("Show of %v, %d: %v, %v", x.d, sample, l, e)
					}
					continue
				}
				want := x.all()[sample].Lo
				if high {
					want = x.all()[sample].Hi
				}
				if e != api.OK || !isTruth(x.d, l) || l[sample] != want || !dispute.ProveTruth(x.d, l) {
					t.Fatalf("Show of %v, %d, %t: %v, %v, not with %d", x.d, sample, high, l, e, want)
				}
				count++
			}
		}
	}
	if count < 3000 {
		t.Errorf("only %d truths", count)
	}
}

func TestP11_3ProveTruthExamples(t *testing.T) {
	linked := plain(2, 1, links(link(0, 1, 5, 8)))
	for _, x := range []struct {
		d     dispute.Dispute
		truth []int
		want  bool
	}{
		{agreed(), list(116, 116), true}, {agreed(), list(119, 116), true}, {agreed(), list(117, 116), true}, {agreed(), list(115, 116), false}, {agreed(), list(120, 116), false}, {agreed(), list(119, 115), false}, {agreed(), list(117, 117), false}, {example(), list(117, 116), false}, {example(), list(102, 116), false},
		{agreed(), nil, false}, {agreed(), list(), false}, {agreed(), list(117), false}, {agreed(), list(117, 116, 0), false}, {agreed(), list(117, 116, 117), false}, {agreed(), list(lowest, huge), false}, {agreed(), list(huge, lowest), false},
		{linked, list(0, 5), true}, {linked, list(0, 8), true}, {linked, list(0, 4), false}, {linked, list(0, 9), false}, {linked, list(1992, 2000), true}, {linked, list(1995, 2000), true}, {linked, list(5, 0), false}, {linked, list(-5, 0), false}, {linked, list(1995, 2001), false}, {linked, list(huge, lowest+4), false}, {linked, list(-3, 3), false},
		{plain(1, 1, nil), list(0), true}, {plain(1, 1, nil), list(2000), true}, {plain(1, 1, nil), list(-1), false}, {plain(1, 1, nil), list(2001), false}, {plain(1, 1, nil), nil, false}, {plain(3, 1, nil), list(0, 2000, 7), true}, {plain(3, 1, nil), list(0, 2000), false}, {plain(3, 1, nil), list(0, 2000, 2001), false}, {plain(3, 1, nil), list(0, 7, 7, 7), false},
		{torn(), list(0, 1), false}, {torn(), list(0, 0), false}, {plain(0, 1, nil), nil, false}, {plain(4, 1, nil), list(0, 0, 0, 0), false}, {plain(1, 5, nil), list(0), false}, {dispute.Dispute{Samples: 1, Parties: 1}, list(0), false},
	} {
		if dispute.ProveTruth(x.d, x.truth) != x.want {
			t.Errorf("ProveTruth of %v, %v: not %t", x.d, x.truth, x.want)
		}
	}
}

func TestP11_3ProveTruth(t *testing.T) {
	random := rand.New(rand.NewSource(4))
	count := map[bool]int{}
	for _, x := range allReadings() {
		truth := make([]int, x.d.Samples)
		for range 30 {
			for i := range truth {
				truth[i] = random.Intn(2001)
				if x.all() != nil {
					r := x.all()[i]
					truth[i] = r.Lo - 1 + random.Intn(r.Hi-r.Lo+3)
				}
			}
			want := isTruth(x.d, truth)
			if dispute.ProveTruth(x.d, truth) != want {
				t.Fatalf("ProveTruth of %v, %v: not %t", x.d, truth, want)
			}
			count[want]++
		}
	}
	if min(count[true], count[false]) < 3000 {
		t.Errorf("not all were tried: %v", count)
	}
}

// verdict is what is to be returned of a dispute; first is -1 if no fact is wrong.
type verdict struct {
	d                             dispute.Dispute
	first                         int
	leave, believe, must, may, by []int
}

// one is a dispute about one sample.
func one(parties int, l ...dispute.Fact) dispute.Dispute { return plain(1, parties, nil, l...) }

// by is what a party reads of the sample 0, at the warmth 0.
func by(party, low, high int) dispute.Fact { return read(party, 0, 0, low, high) }

func TestP11_4Examples(t *testing.T) {
	chain := links(link(0, 1, 1, 2), link(1, 2, 1, 2))
	for _, x := range []verdict{
		{example(), 1, list(1), list(1), list(1), list(1), list(0, 100, 0)}, {agreed(), -1, nil, nil, nil, nil, list(34, 33, 33)}, {one(4), -1, nil, nil, nil, nil, list(25, 25, 25, 25)}, {one(1, by(0, 5, 9), by(0, 9, 9)), -1, nil, nil, nil, nil, list(100)},
		// Of several sets the one that is smaller at the first index counts.
		{one(2, by(0, 5, 5), by(1, 6, 6)), 1, list(0), list(0), nil, list(0, 1), list(50, 50)}, {one(2, by(1, 5, 5), by(0, 6, 6)), 1, list(0), list(0), nil, list(0, 1), list(50, 50)}, {one(3, by(1, 5, 5), by(2, 6, 6)), 1, list(0), list(1), nil, list(1, 2), list(34, 33, 33)}, {one(3, by(0, 5, 6), by(1, 6, 7), by(2, 8, 9)), 2, list(2), list(2), list(2), list(2), list(0, 0, 100)}, {one(3, by(0, 5, 7), by(1, 7, 9), by(2, 5, 5), by(2, 9, 9)), 2, list(0, 2), list(2), list(2), list(2), list(0, 0, 100)},
		// Officers and referees agree, and a trader does not.
		{one(3, by(0, 5, 5), by(1, 6, 6), by(2, 6, 7)), 1, list(0), list(0), list(0), list(0), list(100, 0, 0)}, {one(3, by(0, 5, 6), by(1, 9, 9), by(2, 6, 7)), 1, list(1), list(1), list(1), list(1), list(0, 100, 0)},
		// A party that contradicts itself is wrong; one set of facts is smaller, and another one of parties.
		{one(2, by(0, 5, 5), by(0, 6, 6), by(1, 5, 6)), 1, list(0), list(0), list(0), list(0), list(100, 0)}, {one(1, by(0, 5, 5), by(0, 6, 6)), 1, list(0), list(0), list(0), list(0), list(100)}, {one(3, by(0, 5, 5), by(0, 5, 6), by(0, 4, 6), by(1, 7, 7), by(2, 7, 8)), 3, list(3, 4), list(0), list(0), list(0), list(100, 0, 0)}, {one(3, by(0, 5, 5), by(0, 5, 6), by(1, 7, 7), by(2, 8, 8)), 2, list(2, 3), list(0, 1), nil, list(0, 1, 2), list(34, 33, 33)},
		{one(4, by(3, 5, 5), by(2, 7, 7), by(1, 9, 9)), 1, list(0, 1), list(1, 2), nil, list(1, 2, 3), list(25, 25, 25, 25)}, {one(4, by(3, 5, 5), by(3, 6, 6), by(1, 7, 7), by(0, 9, 9)), 1, list(0, 1, 2), list(0, 3), list(3), list(0, 1, 3), list(0, 0, 0, 100)}, {one(4, by(0, 0, 0), by(1, 2, 2), by(1, 3, 3), by(3, 5, 5), by(3, 6, 6)), 1, list(0, 1, 2, 3), list(1, 3), list(1, 3), list(1, 3), list(0, 50, 0, 50)},
		{one(4, by(0, 5, 5), by(0, 6, 6), by(1, 7, 7), by(1, 8, 8), by(3, 1, 1), by(3, 2, 2)), 1, list(0, 1, 2, 3, 4), list(0, 1, 3), list(0, 1, 3), list(0, 1, 3), list(34, 33, 0, 33)},
		// Facts about other samples contradict by links, also over a sample that nobody read.
		{plain(3, 2, chain, read(0, 0, 0, 5, 5), read(1, 2, 0, 9, 9)), -1, nil, nil, nil, nil, list(50, 50)}, {plain(3, 2, chain, read(0, 0, 0, 5, 5), read(1, 2, 0, 10, 11)), 1, list(0), list(0), nil, list(0, 1), list(50, 50)}, {plain(3, 2, chain, read(0, 0, 0, 5, 5), read(1, 2, 0, 0, 6)), 1, list(0), list(0), nil, list(0, 1), list(50, 50)}, {plain(2, 4, links(link(0, 1, 0, 0)), read(3, 0, 0, 5, 5), read(3, 1, 0, 6, 6)), 1, list(0), list(3), list(3), list(3), list(0, 0, 0, 100)}, {plain(3, 3, chain, read(0, 0, 0, 5, 5), read(1, 1, 0, 9, 9), read(2, 2, 0, 7, 9)), 1, list(1), list(1), list(1), list(1), list(0, 100, 0)}, {plain(2, 1, nil, read(0, 0, 0, 5, 5), read(0, 1, 0, 50, 50)), -1, nil, nil, nil, nil, list(100)},
		// A fact can be wrong by itself: no strength is above 2000.
		{plain(2, 2, links(link(0, 1, 1900, 2000)), read(1, 0, 0, 5, 5)), 0, list(0), list(1), list(1), list(1), list(0, 100)}, {plain(2, 2, links(link(0, 1, 1900, 2000)), read(1, 0, 0, 0, 5), read(0, 1, 0, 60, 60)), 1, list(1), list(0), list(0), list(0), list(100, 0)},
	} {
		hasVerdict(t, x)
	}
}

// hasVerdict checks all calls that tell what, and who, is wrong.
func hasVerdict(t *testing.T, x verdict) {
	n, e := dispute.First(x.d)
	if x.first >= 0 && (n != x.first || e != api.OK) || x.first < 0 && (n != 0 || e != api.ErrNone) {
		t.Fatalf("First of %v: %d, %v, not %d", x.d, n, e, x.first)
	}
	if l, e := dispute.Leave(x.d); !slices.Equal(l, x.leave) || e != api.OK {
		t.Fatalf("Leave of %v: %v, %v, not %v", x.d, l, e, x.leave)
	}
	if l, e := dispute.Believe(x.d); !slices.Equal(l, x.believe) || e != api.OK {
		t.Fatalf("Believe of %v: %v, %v, not %v", x.d, l, e, x.believe)
	}
	if must, may, e := dispute.Blame(x.d); !slices.Equal(must, x.must) || !slices.Equal(may, x.may) || e != api.OK {
		t.Fatalf("Blame of %v: %v, %v, %v, not %v, %v", x.d, must, may, e, x.must, x.may)
	}
	if l, e := dispute.Costs(x.d, 100); !slices.Equal(l, x.by) || e != api.OK {
		t.Fatalf("Costs of %v: %v, %v, not %v", x.d, l, e, x.by)
	}
}

func TestP11_4Leave(t *testing.T) {
	sizes, other := map[int]int{}, 0
	for _, x := range linkedReadings() {
		must, may := x.blame()
		hasVerdict(t, verdict{x.d, x.first(), x.leave(), x.believe()[0], must, may, x.costs(100)})
		sizes[len(x.leave())]++
		if x.first() >= 0 && !slices.Contains(x.leave(), x.first()) {
			other++
		}
	}
	if min(sizes[0], sizes[1], sizes[2], sizes[3], other) < 50 {
		t.Errorf("not all were tried: %v, and %d first wrong facts that are not left out", sizes, other)
	}
}

func TestP11_5Blame(t *testing.T) {
	sizes := map[[3]int]int{}
	for _, x := range linkedReadings() {
		l, e := dispute.Believe(x.d)
		must, may, f := dispute.Blame(x.d)
		m, n := x.blame()
		if !slices.Equal(l, x.believe()[0]) || e != api.OK || !slices.Equal(must, m) || !slices.Equal(may, n) || f != api.OK {
			t.Fatalf("Believe, Blame of %v: %v, %v; %v, %v, %v; not %v, %v, %v", x.d, l, e, must, may, f, x.believe(), m, n)
		}
		sizes[[3]int{len(l), len(must), len(may)}]++
	}
	// Some lists of two parties have one of them in common, and others none.
	for _, size := range [][3]int{{0, 0, 0}, {1, 1, 1}, {1, 0, 2}, {2, 2, 2}, {2, 1, 3}} {
		if sizes[size] < 20 {
			t.Errorf("not all were tried: %v", sizes)
		}
	}
}

func TestP11_6ChargeExamples(t *testing.T) {
	strong := one(1, by(0, 0, 60))
	strong.Table = straight(33, 20)
	for _, x := range []struct {
		d               dispute.Dispute
		sample, gallons int
		want            dispute.Range
	}{
		{example(), 0, 1000, to(116, 119)}, {example(), 1, 1000, to(116, 116)}, {example(), 0, 0, to(0, 0)}, {example(), 0, 8, to(0, 0)}, {example(), 0, 9, to(1, 1)}, {example(), 0, 17, to(1, 2)}, {example(), 0, 100000, to(11600, 11900)}, {example(), 0, 99999, to(11599, 11899)}, {agreed(), 0, 1000, to(116, 119)},
		{plain(1, 1, nil), 0, 100000, to(0, 200000)}, {plain(1, 1, nil), 0, 1, to(0, 2)}, {strong, 0, 100000, to(2000, 200000)}, {strong, 0, 999, to(19, 1998)},
		// What counts are all facts but those of the smallest set of facts, not those of the smallest set of parties.
		{one(3, by(0, 5, 5), by(0, 5, 6), by(0, 4, 6), by(1, 7, 7), by(2, 7, 8)), 0, 1000, to(105, 105)}, {one(2, by(0, 5, 5), by(1, 6, 6)), 0, 1000, to(106, 106)}, {one(2, by(0, 5, 5), by(0, 7, 9), by(1, 6, 7)), 0, 1000, to(107, 107)}, {plain(2, 1, links(link(0, 1, 1, 3)), by(0, 5, 5), by(0, 9, 9)), 1, 1000, to(110, 112)},
	} {
		if r, e := dispute.Charge(x.d, x.sample, x.gallons); r != x.want || e != api.OK {
			t.Errorf("Charge of %v, %d, %d: %v, %v", x.d, x.sample, x.gallons, r, e)
		}
	}
}

func TestP11_6Charge(t *testing.T) {
	random := rand.New(rand.NewSource(5))
	wrong, wide := 0, 0
	for _, x := range linkedReadings() {
		for sample := range x.d.Samples {
			for _, gallons := range list(random.Intn(20), random.Intn(2000), random.Intn(100001), 100000) {
				want := x.charge(sample, gallons)
				if r, e := dispute.Charge(x.d, sample, gallons); r != want || e != api.OK {
					t.Fatalf("Charge of %v, %d, %d: %v, %v, not %v", x.d, sample, gallons, r, e, want)
				}
				if len(x.leave()) > 0 {
					wrong++
				}
				if want.Lo < want.Hi {
					wide++
				}
			}
		}
	}
	if wrong < 2000 || wide < 2000 {
		t.Errorf("only %d charges of disputes with a wrong fact, and %d that are not known", wrong, wide)
	}
}

func TestP11_7CostsExamples(t *testing.T) {
	two := one(4, by(0, 0, 0), by(1, 2, 2), by(1, 3, 3), by(3, 5, 5), by(3, 6, 6))
	three := one(4, by(0, 5, 5), by(0, 6, 6), by(1, 7, 7), by(1, 8, 8), by(3, 1, 1), by(3, 2, 2))
	for _, x := range []struct {
		d     dispute.Dispute
		pence int
		want  []int
	}{
		{example(), 100, list(0, 100, 0)}, {example(), 0, list(0, 0, 0)}, {example(), 1000000, list(0, 1000000, 0)}, {agreed(), 100, list(34, 33, 33)}, {agreed(), 0, list(0, 0, 0)}, {agreed(), 1, list(1, 0, 0)}, {agreed(), 2, list(1, 1, 0)}, {agreed(), 3, list(1, 1, 1)}, {agreed(), 1000000, list(333334, 333333, 333333)}, {one(4), 999999, list(250000, 250000, 250000, 249999)}, {one(4), 7, list(2, 2, 2, 1)}, {one(1), 1000000, list(1000000)},
		{two, 1, list(0, 1, 0, 0)}, {two, 5, list(0, 3, 0, 2)}, {two, 6, list(0, 3, 0, 3)}, {three, 5, list(2, 2, 0, 1)}, {three, 4, list(2, 1, 0, 1)},
		// Those who only may be wrong bear nothing of their own.
		{one(3, by(1, 5, 5), by(2, 6, 6)), 5, list(2, 2, 1)}, {one(4, by(3, 5, 5), by(3, 6, 6), by(1, 7, 7), by(0, 9, 9)), 5, list(0, 0, 0, 5)},
	} {
		if l, e := dispute.Costs(x.d, x.pence); !slices.Equal(l, x.want) || e != api.OK {
			t.Errorf("Costs of %v, %d: %v, %v, not %v", x.d, x.pence, l, e, x.want)
		}
	}
}

func TestP11_7Costs(t *testing.T) {
	random := rand.New(rand.NewSource(6))
	count := map[int]int{}
	for _, x := range linkedReadings() {
		must, _ := x.blame()
		for _, pence := range list(random.Intn(9), random.Intn(1000), random.Intn(20000)) {
			if l, e := dispute.Costs(x.d, pence); !slices.Equal(l, x.costs(pence)) || e != api.OK {
				t.Fatalf("Costs of %v, %d: %v, %v, not %v", x.d, pence, l, e, x.costs(pence))
			}
		}
		count[len(must)]++
	}
	if min(count[0], count[1], count[2]) < 30 {
		t.Errorf("not all were tried: %v", count)
	}
}
