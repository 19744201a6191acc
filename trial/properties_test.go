package trial_test

import (
	"math/rand"
	"reflect"
	"slices"
	"testing"

	"saccharum/api"
	"saccharum/spindle"
	"saccharum/trial"
)

// fact is a part, or a liquid, with a number that it has.
type fact struct{ index, n int }

// TestP9_8InEachTruth checks that each truth is as the program says, and that there is one for each end and each element.
func TestP9_8InEachTruth(t *testing.T) {
	count := 0
	for _, x := range smallTrials() {
		f, e := answersOf(t, x)
		if e != api.OK {
			continue
		}
		errorsSeen, densitiesSeen := map[fact]bool{}, map[fact]bool{}
		eachTruth(x, nil, func(errors, densities [3]int) {
			for part := range x.Parts {
				n, line := errors[part], f.lines[part]
				errorsSeen[fact{part, n}] = true
				if !f.errors[part][n+3] || max(n-line.Error, line.Error-n) > line.Width {
					t.Fatalf("%v: the errors can be %v, but the facts are %v", x, errors, f)
				}
			}
			for liquid := range x.Liquids {
				densitiesSeen[fact{liquid, densities[liquid]}] = true
				if !in(densities[liquid], f.densities[liquid]) {
					t.Fatalf("%v: the densities can be %v, but the facts are %v", x, densities, f)
				}
			}
			count++
		})
		for part := range x.Parts {
			for n, is := range f.errors[part] {
				if is != errorsSeen[fact{part, n - 3}] {
					t.Fatalf("%v: facts %v, but truths have %v", x, f, errorsSeen)
				}
			}
		}
		for liquid := range x.Liquids {
			r := f.densities[liquid]
			if !densitiesSeen[fact{liquid, r.Lo}] || !densitiesSeen[fact{liquid, r.Hi}] {
				t.Fatalf("%v: facts %v, but truths have %v", x, f, densitiesSeen)
			}
		}
	}
	if count < 10000 {
		t.Errorf("only %d truths", count)
	}
}

// TestP9_8Corrected checks that what can be shown in a density, corrected, means it.
func TestP9_8Corrected(t *testing.T) {
	random := rand.New(rand.NewSource(40))
	count := 0
	for _, x := range allTrials() {
		known := wideTruths(x, nil).errors
		for range min(30, 10*len(known)) {
			errors := known[random.Intn(len(known))]
			load := someLoad(random, x.Spindle)
			density := someDensity(random, x.Spindle, load)
			l, _ := trial.Shown(x, errors[:len(x.Parts)], load, density)
			for _, seen := range l {
				if seen == trial.None {
					continue
				}
				if r, e := trial.Correct(x, load, seen); e != api.OK || !in(density, r) {
					t.Fatalf("%v: %d can be shown with %d in %d by %v, but means %v, %v", x, seen, load, density, errors, r, e)
				}
				count++
			}
		}
	}
	if count < 3000 {
		t.Errorf("only %d divisions", count)
	}
}

func TestP9_9ByWhatWasShown(t *testing.T) {
	random := rand.New(rand.NewSource(41))
	most, tested := wideBounds(), 0
	most.any = 0
	for range 400 {
		x, errors, densities := shownTrial(random, most)
		u := truth(errors[:len(x.Parts)], densities[:len(x.Liquids)]...)
		if !trial.ProveTruth(x, u) {
			t.Fatalf("%v: all tests are what can be shown in %v, but it is no truth", x, u)
		}
		if out, e := trial.Leave(x); len(out) != 0 || e != api.OK {
			t.Fatalf("Leave of %v: %v, %v", x, out, e)
		}
		f, e := answersOf(t, x)
		if e != api.OK {
			t.Fatalf("%v: %v", x, e)
		}
		for part := range x.Parts {
			if !f.errors[part][errors[part]+3] {
				t.Fatalf("%v: %v, but the errors are %v", x, f, errors)
			}
		}
		tested += len(x.Tests)
	}
	if tested < 1000 {
		t.Errorf("only %d tests", tested)
	}
}

// isLess reports whether all errors of some facts are possible by other ones, and all densities within their bounds.
func isLess(x trial.Trial, f, other facts) bool {
	for part := range x.Parts {
		for n, is := range f.errors[part] {
			if is && !other.errors[part][n] {
				return false
			}
		}
	}
	for liquid := range x.Liquids {
		if !in(f.densities[liquid].Lo, other.densities[liquid]) || !in(f.densities[liquid].Hi, other.densities[liquid]) {
			return false
		}
	}
	return true
}

// leaveOf is the smallest set, by the program.
func leaveOf(t *testing.T, x trial.Trial) []int {
	out, e := trial.Leave(x)
	if e != api.OK {
		t.Fatalf("Leave of %v: %v, %v", x, out, e)
	}
	return out
}

func TestP9_10MoreTests(t *testing.T) {
	random := rand.New(rand.NewSource(42))
	less, same, left, decided := 0, 0, 0, 0
	for _, x := range slices.Concat(allTrials(), contested()) {
		if len(x.Tests) == api.MaxTrialTests {
			continue
		}
		errors, densities := randomTruth(random, x)
		y := copied(x)
		y.Tests = slices.Insert(y.Tests, random.Intn(len(y.Tests)+1), randomTest(random, x, errors, densities))
		f, e := answersOf(t, x)
		g, e2 := answersOf(t, y)
		if e2 == api.OK && (e != api.OK || !isLess(x, g, f)) {
			t.Fatalf("%v: %v; with one more test, %v: %v", x, f, y, g)
		}
		for tolerance, verdict := range f.verdicts {
			if e2 == api.OK && verdict != trial.Again && g.verdicts[tolerance] != verdict {
				t.Fatalf("%v: %v; with one more test, %v: %v", x, f, y, g)
			}
			if e2 == api.OK && verdict == trial.Again && g.verdicts[tolerance] != verdict {
				decided++
			}
		}
		if len(leaveOf(t, y)) < len(leaveOf(t, x)) {
			t.Fatalf("Leave of %v: %v; with one more test, %v: %v", x, leaveOf(t, x), y, leaveOf(t, y))
		}
		switch {
		case e == api.OK && e2 != api.OK:
			left++
		case e2 == api.OK && f == g:
			same++
		case e2 == api.OK:
			less++
		}
	}
	if min(less, same, left, decided) < 30 {
		t.Errorf("not all were tried: %d, %d, %d, %d", less, same, left, decided)
	}
}

func TestP9_11Tolerance(t *testing.T) {
	changes := map[[2]int]int{}
	for _, x := range slices.Concat(allTrials(), undecided()) {
		f, e := answersOf(t, x)
		if e != api.OK {
			continue
		}
		for tolerance, verdict := range f.verdicts[1:] {
			before := f.verdicts[tolerance]
			if before == trial.Certified && verdict != before || verdict == trial.Refused && before != verdict {
				t.Fatalf("Judge of %v: %d with %d, but %d with %d", x, before, tolerance, verdict, tolerance+1)
			}
			changes[[2]int{before, verdict}]++
		}
		// No error is more than Worst.
		if verdict, e := trial.Judge(x, x.Worst); verdict != trial.Certified || e != api.OK {
			t.Fatalf("Judge of %v with its Worst: %d, %v", x, verdict, e)
		}
	}
	for _, x := range [][2]int{{trial.Refused, trial.Refused}, {trial.Refused, trial.Again}, {trial.Refused, trial.Certified}, {trial.Again, trial.Again}, {trial.Again, trial.Certified}, {trial.Certified, trial.Certified}} {
		if changes[x] < 20 {
			t.Errorf("not all were tried: %v", changes)
		}
	}
}

func TestP9_12Wider(t *testing.T) {
	random := rand.New(rand.NewSource(43))
	more, same, fewer := 0, 0, 0
	for _, x := range slices.Concat(allTrials(), contested()) {
		f, e := answersOf(t, x)
		for liquid, r := range x.Liquids {
			y := copied(x)
			y.Liquids[liquid] = to(max(1, r.Lo-random.Intn(20)), min(r.Hi+random.Intn(20), api.MaxSpindleDensity))
			if trial.CheckTrial(y) != api.OK {
				continue
			}
			g, e2 := answersOf(t, y)
			if e == api.OK && (e2 != api.OK || !isLess(x, f, g)) {
				t.Fatalf("%v: %v; wider, %v: %v", x, f, y, g)
			}
			out, other := leaveOf(t, x), leaveOf(t, y)
			if len(other) > len(out) {
				t.Fatalf("Leave of %v: %v; wider, %v: %v", x, out, y, other)
			}
			switch {
			case len(other) < len(out):
				fewer++
			case e == api.OK && f.errors == g.errors:
				same++
			case e == api.OK:
				more++
			}
		}
	}
	if min(more, same) < 50 || fewer < 20 {
		t.Errorf("not all were tried: %d, %d, %d", more, same, fewer)
	}
}

func TestP9_13NoErrors(t *testing.T) {
	random := rand.New(rand.NewSource(44))
	certified, floats, none := 0, 0, 0
	for _, x := range allTrials() {
		x = copied(x)
		x.Worst = 0
		errors := make([]int, len(x.Parts))
		for range 40 {
			load := random.Intn(len(x.Spindle.Weights) + 1)
			density := someDensity(random, x.Spindle, load)
			l, e := trial.Shown(x, errors, load, density)
			want := list(trial.None)
			if see, f := spindle.See(x.Spindle, load, density); f == api.OK {
				want = nil
				for d := see.Lo; d <= see.Hi; d++ {
					want = append(want, d)
				}
				floats++
			} else {
				none++
			}
			if !slices.Equal(l, want) || e != api.OK {
				t.Fatalf("Shown of %v, %d, %d: %v, %v, not %v", x, load, density, l, e, want)
			}
		}
		f, e := answersOf(t, x)
		if e != api.OK {
			continue
		}
		for _, verdict := range f.verdicts {
			if verdict != trial.Certified {
				t.Fatalf("%v: %v", x, f)
			}
		}
		if f.lines != [3]trial.Line{} {
			t.Fatalf("%v: %v", x, f)
		}
		certified++
	}
	if min(certified, floats, none) < 80 {
		t.Errorf("not all were tried: %d, %d, %d", certified, floats, none)
	}
}

// tried adds tests of the offers to the trial, each in a liquid of its own, with what was seen.
func tried(x trial.Trial, l []trial.Offer, seen []int) trial.Trial {
	x = copied(x)
	for i, o := range l {
		x.Tests = append(x.Tests, test(len(x.Liquids), o.Load, seen[i]))
		x.Liquids = append(x.Liquids, to(o.Density, o.Density))
	}
	return x
}

// eachSeen calls the function for all lists of so many that can be seen: divisions, or None.
func eachSeen(x trial.Trial, count int, do func(seen []int)) {
	if count == 0 {
		do(nil)
		return
	}
	eachSeen(x, count-1, func(seen []int) {
		for d := trial.None; d <= x.Spindle.Divisions; d++ {
			do(append(slices.Clone(seen), d))
		}
	})
}

// chosen are the offers with these indexes.
func chosen(l []trial.Offer, indexes []int) (some []trial.Offer) {
	for _, i := range indexes {
		some = append(some, l[i])
	}
	return some
}

// TestP9_14Decided tries the fewest offers, with all that can be seen.
func TestP9_14Decided(t *testing.T) {
	random := rand.New(rand.NewSource(45))
	verdicts, sizes := map[int]int{}, map[int]int{}
	for _, x := range undecided() {
		for range 4 {
			l := randomOffers(random, x.Spindle)
			tolerance := random.Intn(x.Worst + 1)
			fewest, e := trial.Fewest(x, tolerance, l)
			before, _ := trial.Judge(x, tolerance)
			if e != api.OK || before != trial.Again || len(fewest) > 2 || len(fewest) == 2 && sizes[2] > 25 {
				continue
			}
			sizes[len(fewest)]++
			eachSeen(x, len(fewest), func(seen []int) {
				y := tried(x, chosen(l, fewest), seen)
				verdict, e := trial.Judge(y, tolerance)
				if e == api.ErrFalse {
					return
				}
				if e != api.OK || verdict != trial.Certified && verdict != trial.Refused {
					t.Fatalf("Judge of %v, %d: %d, %v", y, tolerance, verdict, e)
				}
				verdicts[verdict]++
			})
		}
	}
	if min(verdicts[trial.Certified], verdicts[trial.Refused]) < 200 || min(sizes[1], sizes[2]) < 10 {
		t.Errorf("not all were tried: %v, %v", verdicts, sizes)
	}
}

// TestP9_14NoShorterList checks that no shorter list of offers decides, nor one of the same length that comes before it.
func TestP9_14NoShorterList(t *testing.T) {
	random := rand.New(rand.NewSource(46))
	count := 0
	for _, x := range undecided() {
		for range 4 {
			l := randomOffers(random, x.Spindle)
			fewest, e := trial.Fewest(x, 0, l)
			if e != api.OK {
				continue
			}
			for _, other := range subsets(len(l)) {
				if slices.Equal(other, fewest) {
					break
				}
				if _, e := trial.Fewest(x, 0, chosen(l, other)); e != api.ErrFail {
					t.Fatalf("Fewest of %v, %v: %v, but of %v: %v", x, l, fewest, other, e)
				}
				count++
			}
			if all, e := trial.Fewest(x, 0, chosen(l, fewest)); len(all) != len(fewest) || e != api.OK {
				t.Fatalf("Fewest of %v, %v: %v, but of these alone: %v, %v", x, l, fewest, all, e)
			}
		}
	}
	if count < 300 {
		t.Errorf("only %d lists", count)
	}
}

// without is the trial without some of its tests.
func without(x trial.Trial, out []int) trial.Trial {
	y := copied(x)
	y.Tests = nil
	for i, k := range x.Tests {
		if !slices.Contains(out, i) {
			y.Tests = append(y.Tests, k)
		}
	}
	return y
}

func TestP9_15LeftOut(t *testing.T) {
	sizes := map[int]int{}
	for _, x := range slices.Concat(allTrials(), contested()) {
		out := leaveOf(t, x)
		for i, n := range out {
			if i > 0 && out[i-1] >= n || n < 0 || n >= len(x.Tests) {
				t.Fatalf("Leave of %v: %v", x, out)
			}
		}
		if _, e := trial.Show(without(x, out)); e != api.OK {
			t.Fatalf("Leave of %v: %v, but without these: %v", x, out, e)
		}
		for _, other := range subsets(len(x.Tests)) {
			if len(other) >= len(out) {
				break
			}
			if _, e := trial.Show(without(x, other)); e != api.ErrFalse {
				t.Fatalf("Leave of %v: %v, but without %v: %v", x, out, other, e)
			}
		}
		sizes[len(out)]++
	}
	if min(sizes[0], sizes[1], sizes[2]) < 40 || sizes[3] < 5 {
		t.Errorf("not all were tried: %v", sizes)
	}
}

// TestAnyOrder has the tests in another order: the facts are the same, and so is how many tests have to be left out.
func TestAnyOrder(t *testing.T) {
	random := rand.New(rand.NewSource(47))
	other := 0
	for _, x := range slices.Concat(allTrials(), contested()) {
		y := copied(x)
		random.Shuffle(len(y.Tests), func(i, j int) { y.Tests[i], y.Tests[j] = y.Tests[j], y.Tests[i] })
		f, e := answersOf(t, x)
		g, e2 := answersOf(t, y)
		if f != g || e != e2 || len(leaveOf(t, x)) != len(leaveOf(t, y)) {
			t.Fatalf("%v: %v, %v; in another order, %v: %v, %v", x, f, leaveOf(t, x), y, g, leaveOf(t, y))
		}
		for d := range x.Spindle.Divisions + 1 {
			r, e := trial.Correct(x, 0, d)
			if s, e2 := trial.Correct(y, 0, d); r != s || e != e2 {
				t.Fatalf("Correct of %v, 0, %d: %v; in another order: %v", x, d, r, s)
			}
		}
		if !slices.Equal(x.Tests, y.Tests) {
			other++
		}
	}
	if other < 300 {
		t.Errorf("only %d trials in another order", other)
	}
}

// results are those of all calls with a trial.
func results(x trial.Trial) []any {
	errors, e := trial.Errors(x)
	densities, f := trial.Densities(x)
	lines, g := trial.Certificate(x)
	u, h := trial.Show(x)
	out, i := trial.Leave(x)
	all := []any{trial.CheckTrial(x), errors, e, densities, f, lines, g, u, h, out, i, trial.ProveTruth(x, u)}
	l := offers(offer(0, 950), offer(0, 1000), offer(0, 1050))
	for n := range 4 {
		verdict, e := trial.Judge(x, n)
		fewest, f := trial.Fewest(x, n, l)
		r, g := trial.Correct(x, 0, n)
		shown, h := trial.Shown(x, make([]int, len(x.Parts)), 0, 950+50*n)
		all = append(all, verdict, e, fewest, f, r, g, shown, h)
	}
	return all
}

// TestAgain checks that nothing is kept: the calls in between change no results.
func TestAgain(t *testing.T) {
	trials := append(allTrials(), example(), example(test(0, 0, 8)))
	var before [][]any
	for _, x := range trials {
		before = append(before, results(x))
	}
	for i, x := range slices.Backward(trials) {
		if again := results(x); !reflect.DeepEqual(again, before[i]) {
			t.Fatalf("results of %v again: %v, not %v", x, again, before[i])
		}
	}
}

// TestEmpty checks that nil and a list without elements are the same.
func TestEmpty(t *testing.T) {
	a := single(1000, 1020)
	a.Spindle.Weights, a.Tests = nil, nil
	b := copied(a)
	b.Spindle.Weights, b.Tests = []int{}, []trial.Test{}
	if !reflect.DeepEqual(results(a), results(b)) {
		t.Errorf("results: %v, %v", results(a), results(b))
	}
	for _, l := range [][]trial.Offer{nil, {}} {
		if out, e := trial.Fewest(a, 1, l); len(out) != 0 || e != api.OK {
			t.Errorf("Fewest of no offers: %v, %v", out, e)
		}
		if out, e := trial.Fewest(a, 0, l); len(out) != 0 || e != api.ErrFail {
			t.Errorf("Fewest of no offers: %v, %v", out, e)
		}
	}
}

// overwrite changes all elements, and those that could be after them.
func overwrite[T any](x T, l []T) {
	for i := range l {
		l[i] = x
	}
	_ = append(l, x)
}

// TestOwnMemory checks that arguments are not written to, and that results share no memory with them, nor with each other.
func TestOwnMemory(t *testing.T) {
	x, wrong, u := example(), example(test(0, 0, 8), test(1, 0, 10)), truth(list(0, 1), 1000, 920)
	errors, l := list(0, 1), offers(offer(0, 1000), offer(0, 1100))
	all := func() []any {
		fewest, e := trial.Fewest(x, 1, l)
		shown, f := trial.Shown(x, errors, 0, 1000)
		return append(append(results(x), results(wrong)...), fewest, e, shown, f, trial.ProveTruth(x, u))
	}
	before := all()
	parts, _ := trial.Errors(x)
	if len(parts) != 2 {
		t.Fatalf("Errors: %v", parts)
	}
	overwrite(-7, parts[0])
	if !slices.Equal(parts[1], list(1)) {
		t.Errorf("rows share memory: %v", parts)
	}
	overwrite(nil, parts)
	densities, _ := trial.Densities(x)
	overwrite(to(7, 7), densities)
	lines, _ := trial.Certificate(x)
	overwrite(trial.Line{Error: 7, Width: 7}, lines)
	fewest, _ := trial.Fewest(x, 1, l)
	shown, _ := trial.Shown(x, errors, 0, 1000)
	out, _ := trial.Leave(wrong)
	v, _ := trial.Show(x)
	overwrite(-7, v.Errors)
	if len(v.Densities) != 2 || v.Densities[0] != 1000 {
		t.Errorf("the errors and the densities share memory: %v", v)
	}
	for _, l := range [][]int{fewest, shown, out, v.Densities} {
		if len(l) == 0 {
			t.Errorf("no elements: %v, %v, %v, %v", fewest, shown, out, v)
		}
		overwrite(-7, l)
	}
	if after := all(); !reflect.DeepEqual(after, before) {
		t.Errorf("results again: %v, not %v", after, before)
	}
	same := reflect.DeepEqual(x, example()) && reflect.DeepEqual(wrong, example(test(0, 0, 8), test(1, 0, 10))) && reflect.DeepEqual(u, truth(list(0, 1), 1000, 920))
	if !same || !slices.Equal(errors, list(0, 1)) || !slices.Equal(l, offers(offer(0, 1000), offer(0, 1100))) {
		t.Errorf("arguments were written to: %v, %v, %v, %v, %v", x, wrong, u, errors, l)
	}
}

// anyTrial has numbers of chance, in lists that may be too long.
func anyTrial(random *rand.Rand, some func() int) trial.Trial {
	x := trial.Trial{Spindle: brass(), Worst: some()}
	if random.Intn(8) == 0 {
		x.Spindle = spindle.Spindle{Mass: some(), Volume: some(), Step: some(), Divisions: some(), Width: some(), Weights: list(some(), some())}
	}
	for range random.Intn(5) {
		x.Parts = append(x.Parts, some())
	}
	for range random.Intn(5) {
		x.Liquids = append(x.Liquids, to(some(), some()))
	}
	for range random.Intn(8) {
		x.Tests = append(x.Tests, test(some(), some(), some()))
	}
	return x
}

// TestAnyArguments checks that no call panics, and that each result beside an error is zero, whatever the arguments are.
func TestAnyArguments(t *testing.T) {
	values := list(lowest, lowest+1, -2, -1, 0, 0, 0, 0, 1, 1, 1, 2, 2, 3, 5, 6, 9, 10, 11, 900, 920, 1000, 1020, 1040, 2000, huge-1, huge)
	random := rand.New(rand.NewSource(48))
	some := func() int { return values[random.Intn(len(values))] }
	errors := map[api.Errno]int{}
	for i := range 20000 {
		x := anyTrial(random, some)
		switch i % 4 {
		case 0:
			x = copied(example(test(random.Intn(2), random.Intn(3), some())))
			x.Worst = random.Intn(4)
		case 1:
			x = changed(func(y *trial.Trial) { y.Liquids[1], y.Tests = to(some(), some()), x.Tests })
		case 2:
			x = changed(func(y *trial.Trial) { y.Parts, y.Worst, y.Tests[0].Seen = x.Parts, x.Worst, some() })
		}
		u := truth(list(some(), some(), some())[:random.Intn(4)], list(some(), some(), some())[:random.Intn(4)]...)
		l := offers(offer(some(), some()), offer(some(), some()), offer(some(), some()), offer(0, 1000), offer(0, 1100))[random.Intn(5):]
		shown, e := trial.Shown(x, u.Errors, some(), some())
		r, f := trial.Correct(x, some(), some())
		fewest, g := trial.Fewest(x, some(), l)
		verdict, h := trial.Judge(x, some())
		v, j := trial.Show(x)
		out, k := trial.Leave(x)
		if e != api.OK && len(shown) != 0 || f != api.OK && r != to(0, 0) || g != api.OK && len(fewest) != 0 || h != api.OK && verdict != 0 || j != api.OK && len(v.Errors)+len(v.Densities) != 0 || k != api.OK && len(out) != 0 {
			t.Fatalf("a result beside an error, of %v", x)
		}
		c := trial.CheckTrial(x)
		errors[c]++
		if c != k || c != api.OK && (e != c || f != c || g != c || h != c || j != c || trial.ProveTruth(x, u)) {
			t.Fatalf("CheckTrial of %v: %v, but %v, %v, %v, %v, %v, %v", x, c, e, f, g, h, j, k)
		}
	}
	if min(errors[api.OK], errors[api.ErrArg], errors[api.ErrLimit]) < 500 {
		t.Errorf("not all were tried: %v", errors)
	}
}
