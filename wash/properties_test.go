package wash_test

import (
	"math/rand"
	"reflect"
	"slices"
	"testing"

	"saccharum/api"
	"saccharum/wash"
)

// isInside reports whether a range is part of another one.
func isInside(r, other wash.Range) bool { return other.Lo <= r.Lo && r.Hi <= other.Hi }

// listOf are the bounds as a list.
func (b six) listOf() []wash.Range {
	return []wash.Range{b.wash, b.low, b.spirits, b.charge, b.missing, b.unexplained}
}

// exactly is the period in which everything is known as a truth has it.
func exactly(p wash.Period, u wash.Truth) wash.Period {
	one := func(n int) wash.Range { return to(n, n) }
	x := wash.Period{Losses: p.Losses}
	for i, b := range u.Backs {
		x.Backs = append(x.Backs, wash.Back{Gallons: one(b.Gallons), Before: p.Backs[i].Before, After: one(b.After), Spirit: one(b.Spirit)})
	}
	for _, q := range u.Low {
		x.Low = append(x.Low, wash.Liquor{Gallons: one(q.Gallons), Strength: one(q.Strength)})
	}
	for _, q := range u.Spirits {
		x.Spirits = append(x.Spirits, wash.Liquor{Gallons: one(q.Gallons), Strength: one(q.Strength)})
	}
	return x
}

// eachTruth calls the function for some truths of the periods that have few.
func eachTruth(do func(p wash.Period, u wash.Truth)) {
	random := rand.New(rand.NewSource(4))
	eachSmall(func(p wash.Period, l []played) {
		for range min(10, len(l)) {
			do(p, l[random.Intn(len(l))].truth)
		}
	})
}

func TestP7_7InEachTruth(t *testing.T) {
	ends := 0
	eachSmall(func(p wash.Period, l []played) {
		if len(l) == 0 {
			return
		}
		bounds := answersOf(t, p).six.listOf()
		reached := make([]wash.Range, len(bounds))
		for i := range reached {
			reached[i] = to(huge, lowest)
		}
		for _, x := range l {
			a, e := wash.Play(p, x.truth)
			for i, n := range list(a.Wash, a.Low, a.Spirits, charge(a), missing(a), unexplained(a)) {
				if e != api.OK || !in(n, bounds[i]) {
					t.Fatalf("%v, %v: %v, %v, but the bounds %d are %v", p, x.truth, a, e, i, bounds[i])
				}
				reached[i] = to(min(reached[i].Lo, n), max(reached[i].Hi, n))
			}
		}
		if !slices.Equal(reached, bounds) {
			t.Fatalf("bounds of %v: %v, but truths reach %v", p, bounds, reached)
		}
		ends++
	})
	if ends < 300 {
		t.Errorf("only %d periods with truths", ends)
	}
	eachTruth(func(p wash.Period, u wash.Truth) {
		x := exactly(p, u)
		sum := 0
		for entry := range entries(p) {
			one, e := wash.Yields(x, entry)
			all, f := wash.Yields(p, entry)
			if e != api.OK || f != api.OK || len(one) != 1 || !slices.Contains(all, one[0]) {
				t.Fatalf("Yields of %v, %d: %v, %v; with the truth %v: %v, %v", p, entry, all, f, u, one, e)
			}
			sum += one[0]
		}
		if a, e := wash.Play(p, u); e != api.OK || sum != a.Wash+a.Low+a.Spirits {
			t.Fatalf("Play of %v, %v: %v, %v, but all yields are %d", p, u, a, e, sum)
		}
	})
}

func TestP7_8TheGreatest(t *testing.T) {
	charged := map[string]int{}
	eachTruth(func(p wash.Period, u wash.Truth) {
		x := exactly(p, u)
		a, e := wash.Play(x, u)
		b := answersOf(t, x)
		if e != api.OK || b.e != api.OK || b.wash != to(a.Wash, a.Wash) || b.low != to(a.Low, a.Low) || b.spirits != to(a.Spirits, a.Spirits) {
			t.Fatalf("Play, Bounds of %v: %v, %v; %v", x, a, e, b)
		}
		n := b.charge.Lo
		if b.charge.Hi != n || n < max(a.Wash, a.Low, a.Spirits) || !slices.Contains(list(a.Wash, a.Low, a.Spirits), n) {
			t.Fatalf("Charge of %v, with the accounts %v: %v", x, a, b.charge)
		}
		if wash.ProveTruth(x, u, true) != (b.honest == wash.Always) || b.honest == wash.Open || b.honest == wash.Always && (n != a.Wash || b.unexplained != to(0, 0)) {
			t.Fatalf("%v, with the accounts %v: %v", x, a, b)
		}
		switch n {
		case a.Wash:
			charged["wash"]++
		case a.Low:
			charged["low"]++
		default:
			charged["spirits"]++
		}
	})
	if charged["wash"] < 500 || charged["low"] < 100 || charged["spirits"] < 100 {
		t.Errorf("so often charged: %v", charged)
	}
	eachPeriod(func(p wash.Period, l []wash.Account) {
		b := answersOf(t, p)
		if b.charge != to(max(b.wash.Lo, b.low.Lo, b.spirits.Lo), max(b.wash.Hi, b.low.Hi, b.spirits.Hi)) {
			t.Fatalf("Charge of %v: %v", p, b)
		}
		if b.honest == wash.Always && (b.charge != b.wash || b.unexplained != to(0, 0)) {
			t.Fatalf("%v: %v", p, b)
		}
	})
}

// longer is the range with numbers more, as far as it may be.
func longer(random *rand.Rand, r *wash.Range, most int) {
	if random.Intn(2) == 0 && r.Lo > 0 && r.Hi-r.Lo < api.MaxWashWide {
		r.Lo--
	}
	if more := random.Intn(3); r.Hi+more <= most && r.Hi+more-r.Lo <= api.MaxWashWide {
		r.Hi += more
	}
}

// copied is the period in memory of its own.
func copied(p wash.Period) wash.Period {
	return wash.Period{Losses: slices.Clone(p.Losses), Backs: slices.Clone(p.Backs), Low: slices.Clone(p.Low), Spirits: slices.Clone(p.Spirits)}
}

// wider is the period with a wider range of the entry.
func wider(random *rand.Rand, p wash.Period, entry int) wash.Period {
	x := copied(p)
	if entry < len(x.Backs) {
		b := &x.Backs[entry]
		switch random.Intn(4) {
		case 0:
			longer(random, &b.Gallons, api.MaxWashGallons)
		case 1:
			longer(random, &b.Before, api.MaxWortDegrees)
		case 2:
			longer(random, &b.After, api.MaxWortDegrees)
		default:
			longer(random, &b.Spirit, 10*(len(p.Losses)-1))
		}
		return x
	}
	entry -= len(x.Backs)
	l := x.Low
	if entry >= len(l) {
		l, entry = x.Spirits, entry-len(l)
	}
	if random.Intn(2) == 0 {
		longer(random, &l[entry].Gallons, api.MaxWashLiquor)
	} else {
		longer(random, &l[entry].Strength, api.MaxWashStrength)
	}
	return x
}

func TestP7_9Wider(t *testing.T) {
	random := rand.New(rand.NewSource(5))
	more, yields, fewer := 0, 0, 0
	for _, p := range slices.Concat(smallPeriods(), widePeriods(), tight()) {
		for entry := range entries(p) {
			x := wider(random, p, entry)
			a, b := answersOf(t, p), answersOf(t, x)
			for i, r := range a.six.listOf() {
				if a.e == api.OK && (b.e != api.OK || !isInside(r, b.six.listOf()[i])) {
					t.Fatalf("%v, and wider %v: %v, %v", p, x, a, b)
				}
			}
			if a != b {
				more++
			}
			l, e := wash.Yields(p, entry)
			m, f := wash.Yields(x, entry)
			lost := func(n int) bool { return !slices.Contains(m, n) }
			if e == api.OK && f != api.OK || slices.ContainsFunc(l, lost) {
				t.Fatalf("Yields of %v, %d: %v, %v; of %v: %v, %v", p, entry, l, e, x, m, f)
			}
			if len(m) > len(l) {
				yields++
			}
			out, g := wash.Leave(p)
			other, h := wash.Leave(x)
			if g != api.OK || h != api.OK || len(other) > len(out) {
				t.Fatalf("Leave of %v: %v, %v; of %v: %v, %v", p, out, g, x, other, h)
			}
			if len(other) < len(out) {
				fewer++
			}
		}
	}
	if more < 1000 || yields < 1000 || fewer < 50 {
		t.Errorf("only %d bounds were wider, %d entries had more yields, and %d sets were smaller", more, yields, fewer)
	}
}

func TestP7_10OneMoreEntry(t *testing.T) {
	random := rand.New(rand.NewSource(6))
	grown, less := 0, 0
	eachPeriod(func(p wash.Period, l []wash.Account) {
		if len(p.Spirits) == api.MaxWashSpirits {
			return
		}
		x := copied(p)
		x.Spirits = append(x.Spirits, randomLiquor(random, random.Intn(20), api.MaxWashWide))
		random.Shuffle(len(x.Spirits), func(i, j int) { x.Spirits[i], x.Spirits[j] = x.Spirits[j], x.Spirits[i] })
		a, b := answersOf(t, p), answersOf(t, x)
		if a.e != b.e || b.wash != a.wash || b.low != a.low || b.spirits.Lo < a.spirits.Lo || b.spirits.Hi < a.spirits.Hi || b.charge.Lo < a.charge.Lo || b.charge.Hi < a.charge.Hi {
			t.Fatalf("%v: %v; with one more liquor of Spirits, %v: %v", p, a, x.Spirits, b)
		}
		if b.missing.Lo > a.missing.Lo || b.missing.Hi > a.missing.Hi || b.unexplained.Lo < a.unexplained.Lo || b.unexplained.Hi < a.unexplained.Hi {
			t.Fatalf("%v: %v; with one more liquor of Spirits, %v: %v", p, a, x.Spirits, b)
		}
		if b.spirits != a.spirits {
			grown++
		}
		if b.missing != a.missing {
			less++
		}
	})
	if grown < 200 || less < 100 {
		t.Errorf("only %d accounts grew, and %d times less was missing", grown, less)
	}
}

func TestP7_11LeftOut(t *testing.T) {
	left, none := 0, 0
	for _, p := range slices.Concat(smallPeriods(), widePeriods(), tight()) {
		out, e := wash.Leave(p)
		if e != api.OK || !slices.IsSorted(out) || len(slices.Compact(slices.Clone(out))) != len(out) || !canBeLeftOut(p, out) {
			t.Fatalf("Leave of %v: %v, %v", p, out, e)
		}
		for _, other := range subsets(entries(p)) {
			if len(other) < len(out) && canBeLeftOut(p, other) {
				t.Fatalf("Leave of %v: %v, but %v can be left out", p, out, other)
			}
		}
		left += len(out)
		_, f := wash.Show(p)
		if (f == api.OK) != (len(out) == 0) {
			t.Fatalf("Leave of %v: %v, but Show: %v", p, out, f)
		}
		if len(out) == 0 {
			none++
		}
	}
	if left < 800 || none < 300 {
		t.Errorf("only %d entries were left out, and of %d periods none", left, none)
	}
}

// TestP7_11MadeUp puts liquors of known yields for the low wines and the spirits that are left out: with some of them the accounts are honest.
func TestP7_11MadeUp(t *testing.T) {
	made := 0
	for _, p := range slices.Concat(smallPeriods(), widePeriods(), tight()) {
		out, e := wash.Leave(p)
		if e != api.OK || len(out) != 1 || out[0] < len(p.Backs) {
			continue
		}
		x, i := copied(p), out[0]-len(p.Backs)
		l := x.Low
		if i >= len(l) {
			l, i = x.Spirits, i-len(l)
		}
		found := false
		for n := range 301 {
			l[i] = of(n, n)
			u, e := wash.Show(x)
			found = found || e == api.OK && wash.ProveTruth(x, u, true)
			l[i] = liquor(n, n, 200, 200)
			u, e = wash.Show(x)
			found = found || e == api.OK && wash.ProveTruth(x, u, true)
		}
		if !found {
			t.Fatalf("Leave of %v: %v, but nothing makes up for it", p, out)
		}
		made++
	}
	if made < 90 {
		t.Errorf("only %d entries were made up for", made)
	}
}

func TestP7_12NoLoss(t *testing.T) {
	random := rand.New(rand.NewSource(7))
	count := 0
	for after := range api.MaxWortDegrees + 1 {
		for _, before := range []wash.Range{around(random, after, 120, 8), to(max(0, after-1), min(120, after+1)), to(after, after), to(max(0, after-3), max(0, after-1)), to(min(120, after+1), min(120, after+3))} {
			gallons := between(random, 0, api.MaxWashGallons)
			p := wash.Period{Losses: randomLosses(random), Backs: backs(back(gallons, gallons, before.Lo, before.Hi, after, after, 0, 0))}
			want, f := list(0), api.OK
			if !in(after, before) {
				want, f = nil, api.ErrFalse
				count++
			}
			a, e := wash.Play(p, truth(washes(gallons, after, 0), nil, nil))
			l, g := wash.Yields(p, 0)
			if a != account(0, 0, 0) || e != f || !slices.Equal(l, want) || g != f {
				t.Fatalf("Play, Yields of %v: %v, %v; %v, %v", p, a, e, l, g)
			}
			if b := answersOf(t, p); b.wash != to(0, 0) || b.e != f {
				t.Fatalf("Bounds of %v: %v", p, b)
			}
		}
	}
	if count < 200 {
		t.Errorf("only %d backs without a truth", count)
	}
}

// shuffled is the period with its entries of each kind in another order.
func shuffled(random *rand.Rand, p wash.Period) wash.Period {
	x := copied(p)
	random.Shuffle(len(x.Backs), func(i, j int) { x.Backs[i], x.Backs[j] = x.Backs[j], x.Backs[i] })
	random.Shuffle(len(x.Low), func(i, j int) { x.Low[i], x.Low[j] = x.Low[j], x.Low[i] })
	random.Shuffle(len(x.Spirits), func(i, j int) { x.Spirits[i], x.Spirits[j] = x.Spirits[j], x.Spirits[i] })
	return x
}

func TestP7_13Order(t *testing.T) {
	random := rand.New(rand.NewSource(8))
	other := 0
	for _, p := range slices.Concat(smallPeriods(), widePeriods(), tight()) {
		x := shuffled(random, p)
		if a, b := answersOf(t, p), answersOf(t, x); a != b {
			t.Fatalf("%v: %v; in another order, %v: %v", p, a, x, b)
		}
		if !reflect.DeepEqual(p, x) {
			other++
		}
	}
	if other < 600 {
		t.Errorf("only %d periods in another order", other)
	}
}

// TestAnyOrder has the sizes of the smallest sets in another order.
func TestAnyOrder(t *testing.T) {
	random := rand.New(rand.NewSource(9))
	for _, p := range slices.Concat(smallPeriods(), widePeriods(), tight()) {
		x := shuffled(random, p)
		l, e := wash.Leave(p)
		m, f := wash.Leave(x)
		if len(l) != len(m) || e != f {
			t.Fatalf("Leave of %v: %v, %v; in another order, %v: %v, %v", p, l, e, x, m, f)
		}
	}
}

func TestP7_14Honest(t *testing.T) {
	always, never := 0, 0
	for _, p := range slices.Concat(smallPeriods(), widePeriods(), tight()) {
		a := answersOf(t, p)
		if a.honest == wash.Always && a.unexplained != to(0, 0) || a.unexplained.Lo > 0 && a.honest != wash.Never {
			t.Fatalf("%v: %v", p, a)
		}
		if a.honest == wash.Always {
			always++
		}
		if a.unexplained.Lo > 0 {
			never++
		}
	}
	eachSmall(func(p wash.Period, l []played) {
		if v, _ := wash.Honest(p); v != wash.Always {
			return
		}
		for _, x := range l {
			if a, e := wash.Play(p, x.truth); e != api.OK || a.Spirits > a.Wash || !wash.ProveTruth(p, x.truth, true) {
				t.Fatalf("Play of %v, %v: %v, %v", p, x.truth, a, e)
			}
		}
	})
	if always < 100 || never < 100 {
		t.Errorf("only %d periods are always honest, and %d have unexplained spirits in each truth", always, never)
	}
}

// results are those of the calls with a period alone, and of all its entries.
func results(p wash.Period) []any {
	w, n, s, e := wash.Bounds(p)
	c, f := wash.Charge(p)
	m, g := wash.Missing(p)
	u, h := wash.Unexplained(p)
	v, i := wash.Honest(p)
	x, j := wash.Show(p)
	out, k := wash.Leave(p)
	all := []any{wash.CheckPeriod(p), w, n, s, e, c, f, m, g, u, h, v, i, x, j, out, k}
	for entry := range entries(p) {
		l, e := wash.Yields(p, entry)
		all = append(all, l, e)
	}
	return all
}

// TestAgain checks that nothing is kept: the calls in between change no results.
func TestAgain(t *testing.T) {
	var before [][]any
	periods := slices.Concat(smallPeriods(), widePeriods(), tight())
	for _, p := range periods {
		before = append(before, results(p))
	}
	for i, p := range slices.Backward(periods) {
		if again := results(p); !reflect.DeepEqual(again, before[i]) {
			t.Fatalf("results of %v again: %v, not %v", p, again, before[i])
		}
	}
}

// overwrite changes all elements, and those that could be after them.
func overwrite[T any](x T, l []T) {
	for i := range l {
		l[i] = x
	}
	_ = append(l, x)
}

// TestOwnMemory checks that arguments are not written to, and that results share no memory with them, nor with later results.
func TestOwnMemory(t *testing.T) {
	strong := func() wash.Period {
		return changed(func(p *wash.Period) { p.Spirits[0].Strength = to(130, 130) })
	}
	p, q, u := example(), strong(), shown()
	all := func() []any {
		a, e := wash.Play(p, u)
		return append(append(results(p), results(q)...), a, e, wash.ProveTruth(p, u, true), wash.ProveTruth(p, u, false))
	}
	before := all()
	l, _ := wash.Yields(p, 3)
	x, _ := wash.Show(p)
	out, _ := wash.Leave(q)
	if len(l) == 0 || len(x.Backs) == 0 || len(x.Low) == 0 || len(x.Spirits) == 0 || len(out) == 0 {
		t.Fatalf("results: %v, %v, %v", l, x, out)
	}
	overwrite(-7, l)
	overwrite(-7, out)
	overwrite(wash.Wash{Gallons: -7}, x.Backs)
	overwrite(wash.Proof{Gallons: -7}, x.Low)
	if x.Spirits[0].Gallons == -7 {
		t.Errorf("Low and Spirits of %v share memory", x)
	}
	overwrite(wash.Proof{Gallons: -7}, x.Spirits)
	if after := all(); !reflect.DeepEqual(after, before) {
		t.Errorf("results again: %v, not %v", after, before)
	}
	if !reflect.DeepEqual(p, example()) || !reflect.DeepEqual(q, strong()) || !reflect.DeepEqual(u, shown()) {
		t.Errorf("arguments were written to: %v, %v, %v", p, q, u)
	}
}

// anyPeriod has numbers of chance, in lists that may be too long.
func anyPeriod(random *rand.Rand, some func() int) wash.Period {
	r := func() wash.Range {
		if n := some(); random.Intn(2) == 0 {
			return to(n, n)
		}
		return to(some(), some())
	}
	p := wash.Period{Losses: list(0, 1, 2, 3, 5, 9)}
	if random.Intn(4) == 0 {
		p.Losses = list(0, some(), some(), some())[:random.Intn(5)]
	}
	for range random.Intn(5) {
		p.Backs = append(p.Backs, wash.Back{Gallons: r(), Before: r(), After: r(), Spirit: r()})
	}
	for range random.Intn(5) {
		p.Low = append(p.Low, wash.Liquor{Gallons: r(), Strength: r()})
	}
	for range random.Intn(5) {
		p.Spirits = append(p.Spirits, wash.Liquor{Gallons: r(), Strength: r()})
	}
	return p
}

// TestAnyArguments checks that no call panics, and that each result beside an error is zero, whatever the arguments are.
func TestAnyArguments(t *testing.T) {
	values := list(lowest, lowest+1, -2, -1, 0, 0, 0, 0, 0, 1, 1, 1, 1, 2, 2, 3, 4, 5, 9, 10, 12, 20, 30, 49, 50, 100, 120, 121, 200, 300, 1000, 1001, huge-1, huge)
	random := rand.New(rand.NewSource(10))
	some := func() int { return values[random.Intn(len(values))] }
	numbers := func(count int) (l []int) {
		for range count * random.Intn(5) {
			l = append(l, some())
		}
		return l
	}
	for i := range 20000 {
		p := anyPeriod(random, some)
		switch i % 4 {
		case 0:
			p.Backs = example().Backs
		case 1:
			p = example()
		case 2:
			p.Low, p.Spirits = example().Low, example().Spirits
		}
		u := truth(washes(numbers(3)...), proofs(numbers(2)...), proofs(numbers(2)...))
		a, e := wash.Play(p, u)
		l, f := wash.Yields(p, some())
		x, g := wash.Show(p)
		out, h := wash.Leave(p)
		b := answersOf(t, p)
		if e != api.OK && a != account(0, 0, 0) || f != api.OK && len(l) != 0 || g != api.OK && len(x.Backs)+len(x.Low)+len(x.Spirits) != 0 || h != api.OK && len(out) != 0 || b.e != api.OK && b != (answers{e: b.e}) {
			t.Fatalf("a result beside an error, of %v", p)
		}
		if c := wash.CheckPeriod(p); c != h || c != api.OK && (e != c || f != c || g != c || b.e != c) {
			t.Fatalf("CheckPeriod of %v: %v, but %v, %v, %v, %v, %v", p, c, e, f, g, h, b.e)
		}
		if wash.ProveTruth(p, u, false) != (e == api.OK) || wash.ProveTruth(p, u, true) && e != api.OK {
			t.Fatalf("ProveTruth of %v, %v, but %v", p, u, e)
		}
	}
}
