package dispute_test

import (
	"math/rand"
	"reflect"
	"slices"
	"testing"

	"saccharum/api"
	"saccharum/dispute"
)

// leaveOf is the smallest set of facts.
func leaveOf(t *testing.T, d dispute.Dispute) []int {
	l, e := dispute.Leave(d)
	if e != api.OK {
		t.Fatalf("Leave of %v: %v", d, e)
	}
	return l
}

// believeOf is the smallest set of parties.
func believeOf(t *testing.T, d dispute.Dispute) []int {
	l, e := dispute.Believe(d)
	if e != api.OK {
		t.Fatalf("Believe of %v: %v", d, e)
	}
	return l
}

// blameOf are the parties that must be wrong, and those that may be.
func blameOf(t *testing.T, d dispute.Dispute) (must, may []int) {
	must, may, e := dispute.Blame(d)
	if e != api.OK {
		t.Fatalf("Blame of %v: %v", d, e)
	}
	return must, may
}

// chargeOf are the bounds of the charge.
func chargeOf(t *testing.T, d dispute.Dispute, sample, gallons int) dispute.Range {
	r, e := dispute.Charge(d, sample, gallons)
	if e != api.OK {
		t.Fatalf("Charge of %v, %d, %d: %v", d, sample, gallons, e)
	}
	return r
}

// costsOf are the costs of all parties.
func costsOf(t *testing.T, d dispute.Dispute, pence int) []int {
	l, e := dispute.Costs(d, pence)
	if e != api.OK {
		t.Fatalf("Costs of %v, %d: %v", d, pence, e)
	}
	return l
}

// hasTruth reports whether there is a truth of the dispute.
func hasTruth(t *testing.T, d dispute.Dispute) bool {
	_, e := dispute.Bounds(d)
	if e != api.OK && e != api.ErrFalse {
		t.Fatalf("Bounds of %v: %v", d, e)
	}
	return e == api.OK
}

func TestP11_8InEachTruth(t *testing.T) {
	count, ends := 0, 0
	for i, d := range narrowDisputes() {
		if i%3 > 0 {
			continue
		}
		bounds, e := dispute.Bounds(d)
		meanings := meanings(d)
		var reached []dispute.Range
		eachTruth(d, func(truth []int) {
			if right(d, meanings, truth) != 1<<len(d.Facts)-1 {
				return
			}
			if count%7 == 0 && !dispute.ProveTruth(d, truth) {
				t.Fatalf("ProveTruth of %v, %v", d, truth)
			}
			if reached == nil {
				reached = slices.Repeat([]dispute.Range{none()}, d.Samples)
			}
			for sample, n := range truth {
				if e != api.OK || !in(n, bounds[sample]) {
					t.Fatalf("Bounds of %v: %v, %v, but a truth is %v", d, bounds, e, truth)
				}
				reached[sample] = wider(reached[sample], n)
			}
			count++
		})
		if !slices.Equal(reached, bounds) {
			t.Fatalf("Bounds of %v: %v, but truths reach %v", d, bounds, reached)
		}
		ends += len(reached)
	}
	if count < 20000 || ends < 300 {
		t.Errorf("only %d truths, and %d bounds", count, ends)
	}
}

// readRightly is the dispute with those of its facts alone that are right in the truth.
func readRightly(d dispute.Dispute, truth []int) dispute.Dispute {
	x := d
	x.Facts = nil
	for i, r := range meanings(d) {
		if in(truth[d.Facts[i].Sample], r) {
			x.Facts = append(x.Facts, d.Facts[i])
		}
	}
	return x
}

func TestP11_9ReadRightly(t *testing.T) {
	several := 0
	for _, x := range linkedReadings() {
		for sample := range x.d.Samples {
			truth, e := dispute.Show(without(x.d, x.leave()), sample, sample%2 == 0)
			d := readRightly(x.d, truth)
			if e != api.OK || !dispute.ProveTruth(d, truth) {
				t.Fatalf("ProveTruth of %v, %v: %v", d, truth, e)
			}
			n, f := dispute.First(d)
			must, may := blameOf(t, d)
			if n != 0 || f != api.ErrNone || len(leaveOf(t, d))+len(believeOf(t, d))+len(must)+len(may) > 0 {
				t.Fatalf("First, Leave, Believe, Blame of %v: %d, %v, %v, %v, %v, %v", d, n, f, leaveOf(t, d), believeOf(t, d), must, may)
			}
			if costs := costsOf(t, d, 100*d.Parties); !slices.Equal(costs, slices.Repeat(list(100), d.Parties)) {
				t.Fatalf("Costs of %v: %v", d, costs)
			}
			if len(d.Facts) > 1 {
				several++
			}
		}
	}
	if several < 1500 {
		t.Errorf("only %d disputes with several facts", several)
	}
}

// isInside reports whether a range is part of another one.
func isInside(r, other dispute.Range) bool { return other.Lo <= r.Lo && r.Hi <= other.Hi }

// areInside checks that no bounds of the one dispute are wider than those of the other one, and tells how many are narrower.
func areInside(t *testing.T, d, other dispute.Dispute) (narrower int) {
	b, e := dispute.Bounds(d)
	c, f := dispute.Bounds(other)
	if e == api.OK && f != api.OK {
		t.Fatalf("Bounds of %v: %v; of %v: %v, %v", d, b, other, c, f)
	}
	for i, r := range b {
		if !isInside(r, c[i]) {
			t.Fatalf("Bounds of %v: %v; of %v: %v", d, b, other, c)
		}
		if r != c[i] {
			narrower++
		}
	}
	return narrower
}

func TestP11_10MoreFacts(t *testing.T) {
	random := rand.New(rand.NewSource(7))
	narrower, facts, parties := 0, 0, 0
	for _, x := range linkedReadings() {
		if len(x.d.Facts) == api.MaxDisputeFacts {
			continue
		}
		more := copied(x.d)
		truth, _ := dispute.Show(without(x.d, x.leave()), 0, random.Intn(2) == 0)
		f := randomFact(random, x.d, truth, 4)
		more.Facts = slices.Insert(more.Facts, random.Intn(len(more.Facts)+1), f)
		narrower += areInside(t, more, x.d)
		l, m := len(leaveOf(t, x.d)), len(leaveOf(t, more))
		p, q := len(believeOf(t, x.d)), len(believeOf(t, more))
		if m < l || q < p {
			t.Fatalf("%d facts and %d parties of %v are left out, but with one more fact, %v, %d and %d", l, p, x.d, more, m, q)
		}
		facts += m - l
		parties += q - p
	}
	if narrower < 100 || facts < 100 || parties < 50 {
		t.Errorf("only %d bounds were narrower, and %d facts and %d parties more left out", narrower, facts, parties)
	}
}

// widened is the range with more at its ends, within others.
func widened(random *rand.Rand, r, ends dispute.Range, by int) dispute.Range {
	return to(max(ends.Lo, r.Lo-random.Intn(by)), min(ends.Hi, r.Hi+random.Intn(by)))
}

func TestP11_11Wider(t *testing.T) {
	random := rand.New(rand.NewSource(8))
	narrower, fewer, untorn := 0, 0, 0
	for _, x := range allReadings() {
		for i := range len(x.d.Facts) + len(x.d.Links) {
			other := copied(x.d)
			if i < len(x.d.Facts) {
				f, lines := &other.Facts[i], x.d.Table
				f.Warmth = widened(random, f.Warmth, to(lines.Warmths[0], slices.Max(lines.Warmths)), 3)
				f.Mark = widened(random, f.Mark, to(lines.Marks[0], slices.Max(lines.Marks)), 3)
			} else {
				r := &other.Links[i-len(x.d.Facts)].Differs
				*r = widened(random, *r, to(-api.MaxDisputeStrength, api.MaxDisputeStrength), 9)
			}
			narrower += areInside(t, x.d, other)
			m, e := dispute.Leave(other)
			if x.isTorn() {
				if e == api.OK {
					untorn++
				}
				continue
			}
			l := leaveOf(t, x.d)
			if e != api.OK || len(m) > len(l) {
				t.Fatalf("Leave of %v: %v; wider, of %v: %v, %v", x.d, l, other, m, e)
			}
			fewer += len(l) - len(m)
		}
	}
	if narrower < 1000 || fewer < 100 || untorn < 10 {
		t.Errorf("only %d bounds were wider, %d facts fewer left out, and %d links not torn", narrower, fewer, untorn)
	}
}

func TestP11_12First(t *testing.T) {
	count := map[int]int{}
	for _, x := range linkedReadings() {
		n, e := dispute.First(x.d)
		if (e == api.OK) == hasTruth(t, x.d) {
			t.Fatalf("First of %v: %d, %v", x.d, n, e)
		}
		if e != api.OK {
			continue
		}
		before, with := x.d, x.d
		before.Facts, with.Facts = x.d.Facts[:n], x.d.Facts[:n+1]
		if !hasTruth(t, before) || hasTruth(t, with) {
			t.Fatalf("First of %v: %d", x.d, n)
		}
		count[n]++
	}
	if min(count[0], count[1], count[2], count[3]) < 20 {
		t.Errorf("not all were tried: %v", count)
	}
}

func TestP11_13LeftOut(t *testing.T) {
	tried := 0
	for _, x := range linkedReadings() {
		facts, parties := leaveOf(t, x.d), believeOf(t, x.d)
		if !hasTruth(t, without(x.d, facts)) || !hasTruth(t, without(x.d, factsOf(x.d, parties))) {
			t.Fatalf("Leave, Believe of %v: %v, %v", x.d, facts, parties)
		}
		for _, out := range subsets(len(x.d.Facts)) {
			if slices.Equal(out, facts) {
				break
			}
			if hasTruth(t, without(x.d, out)) {
				t.Fatalf("Leave of %v: %v, but %v can be left out", x.d, facts, out)
			}
			tried++
		}
		for _, out := range subsets(x.d.Parties) {
			if slices.Equal(out, parties) {
				break
			}
			if hasTruth(t, without(x.d, factsOf(x.d, out))) {
				t.Fatalf("Believe of %v: %v, but %v can be left out", x.d, parties, out)
			}
			tried++
		}
	}
	if tried < 5000 {
		t.Errorf("only %d lists", tried)
	}
}

// isAmong reports whether the list has all numbers of the other one.
func isAmong(l, other []int) bool {
	for _, n := range l {
		if !slices.Contains(other, n) {
			return false
		}
	}
	return true
}

func TestP11_14Blame(t *testing.T) {
	only, more := 0, 0
	for _, x := range linkedReadings() {
		must, may := blameOf(t, x.d)
		parties, out := believeOf(t, x.d), leaveOf(t, x.d)
		if !isAmong(must, parties) || !isAmong(parties, may) || !slices.IsSorted(must) || !slices.IsSorted(may) {
			t.Fatalf("Blame, Believe of %v: %v, %v; %v", x.d, must, may, parties)
		}
		many := len(factsOf(x.d, parties))
		if many < len(out) {
			t.Fatalf("Believe, Leave of %v: %v, %v", x.d, parties, out)
		}
		if len(may) > len(parties) && len(parties) > len(must) {
			only++
		}
		if many > len(out) {
			more++
		}
	}
	if only < 50 || more < 100 {
		t.Errorf("only %d disputes in which some only may be wrong, and %d parties with more facts", only, more)
	}
}

func TestP11_15Charge(t *testing.T) {
	random := rand.New(rand.NewSource(9))
	more := 0
	for _, x := range linkedReadings() {
		for sample := range x.d.Samples {
			before, last := to(0, 0), 0
			for _, gallons := range list(0, 1, 2, random.Intn(500), 501, 502+random.Intn(500), 1100, 99999, 100000) {
				r := chargeOf(t, x.d, sample, gallons)
				if gallons >= last && (r.Lo < before.Lo || r.Hi < before.Hi) || r.Lo < 0 || r.Lo > r.Hi || r.Hi > 2*gallons {
					t.Fatalf("Charge of %v, %d: %v on %d gallons, %v on %d", x.d, sample, before, last, r, gallons)
				}
				if r != before {
					more++
				}
				before, last = r, gallons
			}
		}
	}
	if more < 5000 {
		t.Errorf("only %d charges that are more", more)
	}
}

func TestP11_16Costs(t *testing.T) {
	random := rand.New(rand.NewSource(10))
	unequal := 0
	for _, x := range linkedReadings() {
		pence := random.Intn(api.MaxDisputePence + 1)
		costs := costsOf(t, x.d, pence)
		must, _ := blameOf(t, x.d)
		sum, least, most := 0, huge, lowest
		for party, n := range costs {
			sum += n
			if len(must) == 0 || slices.Contains(must, party) {
				least, most = min(least, n), max(most, n)
			} else if n != 0 {
				t.Fatalf("Costs of %v, %d: %v, but only %v must be wrong", x.d, pence, costs, must)
			}
		}
		if sum != pence || most-least > 1 || len(costs) != x.d.Parties {
			t.Fatalf("Costs of %v, %d: %v", x.d, pence, costs)
		}
		unequal += most - least
	}
	if unequal < 200 {
		t.Errorf("only %d costs that are not the same", unequal)
	}
}

// results are those of all calls with a dispute.
func results(d dispute.Dispute) []any {
	b, e := dispute.Bounds(d)
	n, f := dispute.First(d)
	l, g := dispute.Leave(d)
	p, h := dispute.Believe(d)
	must, may, i := dispute.Blame(d)
	c, j := dispute.Costs(d, 101)
	all := []any{dispute.CheckDispute(d), b, e, n, f, l, g, p, h, must, may, i, c, j}
	for sample := range 3 {
		low, e := dispute.Show(d, sample, false)
		high, f := dispute.Show(d, sample, true)
		r, g := dispute.Charge(d, sample, 12345)
		all = append(all, low, e, high, f, r, g, dispute.ProveTruth(d, low), dispute.ProveTruth(d, high))
	}
	for i := range d.Facts {
		r, e := dispute.Mean(d, i)
		all = append(all, r, e)
	}
	return all
}

func TestP11_17TurnedLinks(t *testing.T) {
	random := rand.New(rand.NewSource(11))
	count := 0
	for _, x := range allReadings() {
		other := copied(x.d)
		for i, y := range x.d.Links {
			if len(x.d.Links) == 1 || random.Intn(2) == 0 {
				other.Links[i] = turned(y)
				count++
			}
		}
		if !reflect.DeepEqual(results(x.d), results(other)) {
			t.Fatalf("results of %v: %v; of %v: %v", x.d, results(x.d), other, results(other))
		}
		if truth, e := dispute.Show(x.d, 0, true); e == api.OK && !dispute.ProveTruth(other, truth) {
			t.Fatalf("%v is a truth of %v, but not of %v", truth, x.d, other)
		}
	}
	if count < 1000 {
		t.Errorf("only %d turned links", count)
	}
}

// TestAnyOrder has facts and links in other orders: only the indexes of facts are others.
func TestAnyOrder(t *testing.T) {
	random := rand.New(rand.NewSource(12))
	for _, x := range allReadings() {
		other := copied(x.d)
		random.Shuffle(len(other.Links), func(i, j int) { other.Links[i], other.Links[j] = other.Links[j], other.Links[i] })
		b, e := dispute.Bounds(x.d)
		if !reflect.DeepEqual(results(x.d), results(other)) {
			t.Fatalf("results of %v: %v; of %v: %v", x.d, results(x.d), other, results(other))
		}
		random.Shuffle(len(other.Facts), func(i, j int) { other.Facts[i], other.Facts[j] = other.Facts[j], other.Facts[i] })
		if c, f := dispute.Bounds(other); !slices.Equal(b, c) || e != f {
			t.Fatalf("Bounds of %v: %v, %v; of %v: %v, %v", x.d, b, e, other, c, f)
		}
		if x.isTorn() {
			continue
		}
		must, may := blameOf(t, x.d)
		m, n := blameOf(t, other)
		if len(leaveOf(t, x.d)) != len(leaveOf(t, other)) || !slices.Equal(believeOf(t, x.d), believeOf(t, other)) || !slices.Equal(must, m) || !slices.Equal(may, n) {
			t.Fatalf("Leave, Believe, Blame of %v, and of %v", x.d, other)
		}
	}
}

// TestAgain checks that nothing is kept: the calls in between change no results.
func TestAgain(t *testing.T) {
	var before [][]any
	for _, x := range allReadings() {
		before = append(before, results(x.d))
	}
	for i, x := range slices.Backward(allReadings()) {
		if again := results(x.d); !reflect.DeepEqual(again, before[i]) {
			t.Fatalf("results of %v again: %v, not %v", x.d, again, before[i])
		}
	}
}

// TestEmpty checks that nil and a list without elements are the same.
func TestEmpty(t *testing.T) {
	x, y := plain(2, 3, nil), plain(2, 3, links(), facts()...)
	if !reflect.DeepEqual(results(x), results(y)) {
		t.Errorf("results: %v, %v", results(x), results(y))
	}
	for _, truth := range [][]int{nil, {}} {
		if dispute.ProveTruth(x, truth) || dispute.ProveTruth(y, truth) {
			t.Errorf("ProveTruth of %v", truth)
		}
	}
}

// overwrite changes all elements, and those that could be after them.
func overwrite[T any](x T, l []T) {
	for i := range l {
		l[i] = x
	}
	_ = append(l, x, x, x)
}

// TestOwnMemory checks that arguments are not written to, and that results share no memory with them, nor with each other.
func TestOwnMemory(t *testing.T) {
	wrong := func() dispute.Dispute { return one(4, by(3, 5, 5), by(3, 6, 6), by(1, 7, 7), by(0, 9, 9)) }
	d, x, truth := agreed(), wrong(), list(117, 116)
	all := func() []any { return append(append(results(d), results(x)...), dispute.ProveTruth(d, truth)) }
	before := all()
	b, _ := dispute.Bounds(d)
	s, _ := dispute.Show(d, 0, true)
	c, _ := dispute.Costs(d, 7)
	l, p := leaveOf(t, x), believeOf(t, x)
	must, may := blameOf(t, x)
	if len(b) == 0 || len(s) == 0 || len(c) == 0 || len(l) == 0 || len(p) == 0 || !slices.Equal(must, list(3)) || !slices.Equal(may, list(0, 1, 3)) {
		t.Fatalf("results: %v, %v, %v, %v, %v, %v, %v", b, s, c, l, p, must, may)
	}
	overwrite(to(-7, -7), b)
	overwrite(-7, must)
	if !slices.Equal(may, list(0, 1, 3)) {
		t.Errorf("both results of Blame share memory: %v", may)
	}
	for _, l := range [][]int{s, c, l, p, may} {
		overwrite(-7, l)
	}
	if after := all(); !reflect.DeepEqual(after, before) {
		t.Errorf("results again: %v, not %v", after, before)
	}
	if !reflect.DeepEqual(d, agreed()) || !reflect.DeepEqual(x, wrong()) || !slices.Equal(truth, list(117, 116)) {
		t.Errorf("arguments were written to: %v, %v, %v", d, x, truth)
	}
	// What is behind the end of an argument is not written to either.
	spareFacts, spareLinks := slices.Repeat(facts(by(0, 9, 9)), 6), slices.Repeat(links(link(0, 1, 3, 4)), 4)
	results(plain(2, 1, spareLinks[:1:4], spareFacts[:2:6]...))
	if !slices.Equal(spareFacts, slices.Repeat(facts(by(0, 9, 9)), 6)) || !slices.Equal(spareLinks, slices.Repeat(links(link(0, 1, 3, 4)), 4)) {
		t.Errorf("what is behind the lists was written to: %v, %v", spareFacts, spareLinks)
	}
}

// anyDispute has numbers of chance, in lists that may be too long.
func anyDispute(random *rand.Rand, some func() int) dispute.Dispute {
	d := dispute.Dispute{Table: grid(), Samples: some(), Parties: some()}
	for range random.Intn(6) {
		d.Links = append(d.Links, link(some(), some(), some(), some()))
	}
	for range random.Intn(8) {
		d.Facts = append(d.Facts, dispute.Fact{Party: some(), Sample: some(), Warmth: to(some(), some()), Mark: to(some(), some())})
	}
	switch random.Intn(20) {
	case 0:
		d.Table.Values[random.Intn(3)][random.Intn(3)] = some()
	case 1:
		d.Table.Marks[random.Intn(3)] = some()
	case 2:
		d.Table.Warmths = d.Table.Warmths[:random.Intn(3)]
	}
	return d
}

// someAreGood puts good numbers, and lists, in place of some that are not.
func someAreGood(random *rand.Rand, d dispute.Dispute, some func() int) dispute.Dispute {
	switch random.Intn(5) {
	case 0:
		d.Samples, d.Parties, d.Links, d.Facts = 1+random.Intn(3), 1+random.Intn(4), nil, nil
	case 1:
		d.Samples, d.Parties, d.Facts = 3, 4, example().Facts
	case 2:
		d.Samples, d.Parties, d.Links = 3, 4, links(link(random.Intn(2), 2, some(), some()), link(1, 0, -2000, 2000))
		d.Facts = nil
	case 3:
		d = changed(func(x *dispute.Dispute) { x.Facts[random.Intn(3)].Mark = to(some(), some()) })
	}
	return d
}

// TestAnyArguments checks that no call panics, and that each result beside an error is zero, whatever the arguments are.
func TestAnyArguments(t *testing.T) {
	values := list(lowest, lowest+1, -2001, -2000, -2, -1, 0, 0, 0, 0, 1, 1, 1, 1, 2, 2, 3, 4, 5, 10, 14, 20, 60, 1000, 2000, 2001, 100000, 1000001, huge-1, huge)
	random := rand.New(rand.NewSource(13))
	some := func() int { return values[random.Intn(len(values))] }
	errors := map[api.Errno]int{}
	for range 20000 {
		d := someAreGood(random, anyDispute(random, some), some)
		m, e0 := dispute.Mean(d, some())
		b, e1 := dispute.Bounds(d)
		s, e2 := dispute.Show(d, some(), random.Intn(2) == 0)
		n, e3 := dispute.First(d)
		l, e4 := dispute.Leave(d)
		p, e5 := dispute.Believe(d)
		must, may, e6 := dispute.Blame(d)
		r, e7 := dispute.Charge(d, some(), some())
		c, e8 := dispute.Costs(d, some())
		want := dispute.CheckDispute(d)
		for i, x := range []struct {
			e      api.Errno
			isZero bool
		}{{e0, m == to(0, 0)}, {e1, len(b) == 0}, {e2, len(s) == 0}, {e3, n == 0}, {e4, len(l) == 0}, {e5, len(p) == 0}, {e6, len(must)+len(may) == 0}, {e7, r == to(0, 0)}, {e8, len(c) == 0}} {
			if x.e != api.OK && !x.isZero || want != api.OK && x.e != want {
				t.Fatalf("call %d with %v: %v, beside a result, or instead of %v", i, d, x.e, want)
			}
		}
		if dispute.ProveTruth(d, list(some(), some(), some())) && want != api.OK {
			t.Fatalf("ProveTruth of %v", d)
		}
		errors[want]++
	}
	if min(errors[api.OK], errors[api.ErrArg], errors[api.ErrLimit]) < 1000 {
		t.Errorf("not all were tried: %v", errors)
	}
}
