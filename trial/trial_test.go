package trial_test

import (
	"math/rand"
	"slices"
	"testing"

	"saccharum/api"
	"saccharum/trial"
)

func TestP9_1ShownExamples(t *testing.T) {
	broad := example()
	broad.Spindle.Width = 20
	for _, x := range []struct {
		t             trial.Trial
		errors        []int
		load, density int
		want          []int
	}{
		{example(), list(0, 1), 0, 1000, list(5, 6)}, {example(), list(-2, 1), 0, 1100, list(-1)}, {example(), list(0, 0), 0, 1000, list(5)}, {example(), list(1, 0), 0, 1000, list(-1)}, {example(), list(1, 1), 0, 1000, list(6)}, {example(), list(2, 1), 0, 1000, list(6)}, {example(), list(-1, 1), 0, 1000, list(4, 6)}, {example(), list(-2, 2), 0, 1000, list(3, 7)},
		// Beside the stem nothing is shown, whatever is read.
		{example(), list(0, 2), 0, 900, list(-1)}, {example(), list(0, 1), 0, 920, list(10)}, {example(), list(0, -2), 0, 900, list(8)}, {example(), list(-1, 0), 0, 1125, list(-1)}, {example(), list(2, 0), 0, 1125, list(2)},
		// It does not float.
		{example(), list(0, 0), 0, 899, list(-1)}, {example(), list(1, -1), 0, 899, list(-1)}, {example(), list(0, 0), 0, 1126, list(-1)}, {example(), list(-1, -1), 0, 1126, list(-1)}, {example(), list(1, 1), 0, 2000, list(-1)}, {example(), list(2, -2), 0, 1, list(-1)}, {example(), list(0, 0), 1, 999, list(-1)}, {example(), list(0, 0), 1, 1000, list(10)}, {example(), list(0, 0), 2, 1375, list(0)},
		// Three divisions can be read, of which each is shown in one part, or in two, or not at all.
		{broad, list(0, 0), 0, 1000, list(4, 5, 6)}, {broad, list(0, 1), 0, 1000, list(4, 5, 6, 7)}, {broad, list(1, 0), 0, 1000, list(5, 6)}, {broad, list(2, -1), 0, 1000, list(-1)}, {broad, list(2, 0), 0, 1000, list(6)}, {broad, list(-2, 2), 0, 1000, list(2, 3, 4, 6, 7, 8)},
	} {
		if l, e := trial.Shown(x.t, x.errors, x.load, x.density); !slices.Equal(l, x.want) || e != api.OK {
			t.Errorf("Shown by %v, %d, %d: %v, %v", x.errors, x.load, x.density, l, e)
		}
	}
}

// TestP9_1Shown compares what can be shown with the definition, with all loads, and most densities near to where it floats.
func TestP9_1Shown(t *testing.T) {
	random := rand.New(rand.NewSource(30))
	sizes, none := map[int]int{}, 0
	for _, x := range append(allTrials(), example()) {
		for range 150 {
			errors, _ := randomTruth(random, x)
			load := random.Intn(len(x.Spindle.Weights) + 1)
			density := someDensity(random, x.Spindle, load)
			if random.Intn(20) == 0 {
				density = 1 + random.Intn(api.MaxSpindleDensity)
			}
			want := shownBy(x, errors, load, density)
			if l, e := trial.Shown(x, errors[:len(x.Parts)], load, density); !slices.Equal(l, want) || e != api.OK {
				t.Fatalf("Shown of %v by %v, %d, %d: %v, %v, not %v", x, errors, load, density, l, e, want)
			}
			sizes[len(want)]++
			if want[0] == trial.None {
				none++
			}
		}
	}
	if min(sizes[1], sizes[2], sizes[3], none) < 500 || sizes[4] < 100 || sizes[5] == 0 {
		t.Errorf("not all were tried: %v, %d", sizes, none)
	}
}

// apart is a trial whose part has the error -1 or 1, but not 0: only then what is read at one end of the stem is shown beside it.
func apart() trial.Trial {
	x := single(1098, 1125, test(0, 0, trial.None))
	x.Spindle.Step, x.Spindle.Width, x.Spindle.Divisions = 10, 5, 2
	return x
}

// told is what the calls tell about a trial: the verdicts for the tolerances 0 to 2.
type told struct {
	t         trial.Trial
	errors    [][]int
	densities []trial.Range
	lines     []trial.Line
	verdicts  [3]int
}

// tales are trials that have truths, and what the calls tell about them.
func tales() []told {
	const certified, refused, again = trial.Certified, trial.Refused, trial.Again
	known, ranges := []trial.Range{to(1000, 1000), to(915, 925)}, func(l ...trial.Range) []trial.Range { return l }
	lines := func(l ...int) (out []trial.Line) {
		for i := 0; i < len(l); i += 2 {
			out = append(out, trial.Line{Error: l[i], Width: l[i+1]})
		}
		return out
	}
	bare := single(990, 1011)
	bare.Worst = 3
	exact := single(1000, 1000, test(0, 0, 5))
	exact.Worst = 0
	both := changed(func(x *trial.Trial) {
		x.Spindle.Width, x.Liquids[1], x.Tests = 15, to(900, 928), tests(test(1, 0, 10), test(1, 0, 9))
	})
	return []told{
		{example(), rows(list(-2, -1, 0, 1, 2), list(1)), known, lines(0, 2, 1, 0), [3]int{refused, again, certified}},
		{example(test(0, 0, 5)), rows(list(0), list(1)), known, lines(0, 0, 1, 0), [3]int{refused, certified, certified}},
		{example(test(0, 0, 3)), rows(list(-2), list(1)), known, lines(-2, 0, 1, 0), [3]int{refused, refused, certified}},
		{bare, rows(list(-3, -2, -1, 0, 1, 2, 3)), ranges(to(990, 1011)), lines(0, 3), [3]int{again, again, again}},
		{single(1000, 1000), rows(list(-1, 0, 1)), ranges(to(1000, 1000)), lines(0, 1), [3]int{again, certified, certified}},
		{exact, rows(list(0)), ranges(to(1000, 1000)), lines(0, 0), [3]int{certified, certified, certified}},
		// The errors of a part tell the density of a liquid, and it tells them.
		{single(1000, 1020, test(0, 0, 5)), rows(list(0, 1)), ranges(to(1000, 1020)), lines(0, 1), [3]int{again, certified, certified}},
		{single(1000, 1020, test(0, 0, 4)), rows(list(-1, 0)), ranges(to(1000, 1020)), lines(-1, 1), [3]int{again, certified, certified}},
		{single(1000, 1020, test(0, 0, 6)), rows(list(1)), ranges(to(1000, 1011)), lines(1, 0), [3]int{refused, certified, certified}},
		{single(1000, 1020, test(0, 0, 3)), rows(list(-1)), ranges(to(1012, 1020)), lines(-1, 0), [3]int{refused, certified, certified}},
		// None is seen where it does not float, or where what it reads is shown beside the stem.
		{single(899, 900, test(0, 0, -1)), rows(list(-1, 0, 1)), ranges(to(899, 900)), lines(0, 1), [3]int{again, certified, certified}},
		{single(900, 900, test(0, 0, -1)), rows(list(1)), ranges(to(900, 900)), lines(1, 0), [3]int{refused, certified, certified}},
		{single(1120, 1130, test(0, 0, -1)), rows(list(-1, 0, 1)), ranges(to(1120, 1130)), lines(0, 1), [3]int{again, certified, certified}},
		{single(1110, 1124, test(0, 0, -1)), rows(list(-1)), ranges(to(1112, 1124)), lines(-1, 0), [3]int{refused, certified, certified}},
		{apart(), rows(list(-1, 1)), ranges(to(1098, 1125)), lines(0, 1), [3]int{refused, certified, certified}},
		// Two divisions of one part are seen in one liquid: 10 and 9 can be read in 905..913, 9 and 8 in 924..932.
		{both, rows(list(-2, -1, 0, 1, 2), list(0, 1)), ranges(to(1000, 1000), to(905, 928)), lines(0, 2, 0, 1), [3]int{again, again, certified}},
	}
}

func TestP9_2ErrorsExamples(t *testing.T) {
	for _, x := range tales() {
		if l, e := trial.Errors(x.t); !slices.EqualFunc(l, x.errors, slices.Equal[[]int]) || e != api.OK {
			t.Errorf("Errors of %v: %v, %v", x.t, l, e)
		}
	}
}

func TestP9_2DensitiesExamples(t *testing.T) {
	for _, x := range tales() {
		if l, e := trial.Densities(x.t); !slices.Equal(l, x.densities) || e != api.OK {
			t.Errorf("Densities of %v: %v, %v", x.t, l, e)
		}
	}
}

func TestP9_3JudgeExamples(t *testing.T) {
	for _, x := range tales() {
		for tolerance, want := range x.verdicts {
			if verdict, e := trial.Judge(x.t, tolerance); verdict != want || e != api.OK {
				t.Errorf("Judge of %v, %d: %d, %v", x.t, tolerance, verdict, e)
			}
		}
	}
}

func TestP9_3CertificateExamples(t *testing.T) {
	for _, x := range tales() {
		if l, e := trial.Certificate(x.t); !slices.Equal(l, x.lines) || e != api.OK {
			t.Errorf("Certificate of %v: %v, %v", x.t, l, e)
		}
	}
}

// contradictions are trials without truths, and what has to be left out of them.
func contradictions() map[*trial.Trial][]int {
	exact := single(1000, 1000, test(0, 0, 6))
	exact.Worst = 0
	l := map[*trial.Trial][]int{}
	for _, x := range []struct {
		t     trial.Trial
		leave []int
	}{
		{example(test(0, 0, 8)), list(2)}, {example(test(0, 0, 8), test(0, 0, 3)), list(2)}, {example(test(0, 0, 8), test(0, 0, 2)), list(2, 3)}, {example(test(0, 0, 8), test(0, 0, 7)), list(2, 3)}, {example(test(0, 0, 7)), list(2)}, {example(test(1, 0, 9)), list(2)}, {example(test(1, 0, 9), test(0, 0, 7)), list(2, 3)}, {example(test(0, 0, 7), test(1, 0, 8), test(0, 0, 7), test(1, 0, 9)), list(0, 1, 3, 5)}, {example(test(1, 0, 9), test(1, 0, 9), test(0, 0, 5), test(0, 0, 3)), list(0, 1, 4)},
		{single(1000, 1020, test(0, 0, 5), test(0, 0, 4)), list(0)}, {single(1000, 1000, test(0, 0, 7)), list(0)}, {single(1000, 1000, test(0, 0, -1)), list(0)}, {single(899, 899, test(0, 0, 10)), list(0)}, {exact, list(0)},
		{single(1000, 1000, test(0, 0, 7), test(0, 0, 3), test(0, 0, -1), test(0, 0, 0), test(0, 0, 10), test(0, 0, 8)), list(0, 1, 2, 3, 4, 5)},
		{single(1000, 1000, test(0, 0, 4), test(0, 0, 5), test(0, 0, 6), test(0, 0, 6), test(0, 0, 5), test(0, 0, 4)), list(0, 1, 4, 5)},
	} {
		l[&x.t] = x.leave
	}
	return l
}

// TestP9_3Contradictions has trials without truths, for P9.2 to P9.6.
func TestP9_3Contradictions(t *testing.T) {
	for x := range contradictions() {
		if f, e := answersOf(t, *x); f != (facts{}) || e != api.ErrFalse {
			t.Errorf("%v: %v, %v", x, f, e)
		}
		r, e := trial.Correct(*x, 0, 5)
		l, f := trial.Fewest(*x, 1, offers(offer(0, 1000)))
		m, g := trial.Fewest(*x, 9, nil)
		if r != to(0, 0) || len(l)+len(m) != 0 || e != api.ErrFalse || f != api.ErrFalse || g != api.ErrFalse {
			t.Errorf("%v: %v, %v; %v, %v; %v, %v", x, r, e, l, f, m, g)
		}
	}
}

// TestP9_2Small compares all calls that ask what there is, for P9.2, P9.3 and P9.6, with all truths of small trials.
func TestP9_2Small(t *testing.T) {
	verdicts, without := map[int]int{}, 0
	for _, x := range smallTrials() {
		want := factsFrom(x, truthsOf(x))
		if f, e := answersOf(t, x); f != want || (e == api.OK) != want.is || e != api.OK && e != api.ErrFalse {
			t.Fatalf("%v: %v, %v, not %v", x, f, e, want)
		}
		for _, verdict := range want.verdicts {
			verdicts[verdict]++
		}
		if !want.is {
			without++
		}
	}
	if min(verdicts[trial.Certified], verdicts[trial.Refused], verdicts[trial.Again], without) < 50 {
		t.Errorf("not all were tried: %v, %d", verdicts, without)
	}
}

// TestP9_2Wide compares them with all densities of each liquid of wide trials.
func TestP9_2Wide(t *testing.T) {
	narrowed, verdicts, without := 0, map[int]int{}, 0
	for _, x := range wideTrials() {
		want := factsFrom(x, wideTruths(x, nil))
		if f, e := answersOf(t, x); f != want || (e == api.OK) != want.is {
			t.Fatalf("%v: %v, %v, not %v", x, f, e, want)
		}
		for _, verdict := range want.verdicts {
			verdicts[verdict]++
		}
		for liquid, r := range x.Liquids {
			if want.is && want.densities[liquid] != r {
				narrowed++
			}
		}
		if !want.is {
			without++
		}
	}
	if min(verdicts[trial.Certified], verdicts[trial.Refused], verdicts[trial.Again], without, narrowed) < 20 {
		t.Errorf("not all were tried: %v, %d, %d", verdicts, without, narrowed)
	}
}

// TestP9_2References checks that the reference for wide trials is that for small ones.
func TestP9_2References(t *testing.T) {
	for _, x := range smallTrials() {
		if a, b := factsFrom(x, truthsOf(x)), factsFrom(x, wideTruths(x, nil)); a != b {
			t.Fatalf("%v: %v, but %v", x, a, b)
		}
	}
}

func TestP9_4CorrectExamples(t *testing.T) {
	heavy, exact := single(1000, 1000), single(1000, 1000)
	heavy.Spindle.Mass, heavy.Spindle.Volume = 5000, 100
	exact.Worst = 0
	twice := changed(func(x *trial.Trial) { x.Liquids[0] = to(1, 41); x.Tests = x.Tests[1:] })
	for _, x := range []struct {
		t              trial.Trial
		load, division int
		want           trial.Range
		e              api.Errno
	}{
		{example(), 0, 7, to(968, 989), api.OK}, {example(), 0, 3, to(990, 1111), api.OK}, {example(), 0, 0, to(1059, 1125), api.OK}, {example(), 0, 6, to(990, 1011), api.OK}, {example(), 0, 5, to(948, 1058), api.OK}, {example(), 0, 10, to(910, 927), api.OK}, {twice, 0, 7, to(968, 989), api.OK},
		{single(1000, 1000), 0, 0, to(1085, 1125), api.OK}, {single(1000, 1000), 0, 10, to(900, 927), api.OK}, {single(1000, 1000), 0, 5, to(968, 1034), api.OK}, {exact, 0, 5, to(990, 1011), api.OK}, {exact, 0, 10, to(900, 909), api.OK}, {exact, 0, 0, to(1112, 1125), api.OK}, {exact, 1, 10, to(1000, 1010), api.OK}, {exact, 2, 0, to(1359, 1375), api.OK},
		// What is read before it is corrected is no division of the stem.
		{single(900, 900, test(0, 0, -1)), 0, 0, to(0, 0), api.ErrNone}, {single(900, 900, test(0, 0, -1)), 0, 1, to(1112, 1125), api.OK}, {single(900, 900, test(0, 0, -1)), 0, 10, to(910, 927), api.OK},
		{single(1124, 1125, test(0, 0, -1)), 0, 10, to(0, 0), api.ErrNone}, {single(1124, 1125, test(0, 0, -1)), 0, 9, to(900, 909), api.OK},
		// Between the densities 1098..1104 and 1119..1125 it means none.
		{apart(), 0, 1, to(1098, 1125), api.OK}, {apart(), 0, 0, to(1105, 1118), api.OK}, {apart(), 0, 2, to(1105, 1118), api.OK},
		// It floats in no density.
		{heavy, 0, 5, to(0, 0), api.ErrNone}, {heavy, 2, 0, to(0, 0), api.ErrNone},
	} {
		if r, e := trial.Correct(x.t, x.load, x.division); r != x.want || e != x.e {
			t.Errorf("Correct of %v, %d, %d: %v, %v", x.t, x.load, x.division, r, e)
		}
	}
}

// TestP9_4Correct compares it with all densities.
func TestP9_4Correct(t *testing.T) {
	count, none := 0, 0
	for i, x := range allTrials() {
		u := wideTruths(x, nil)
		if len(u.errors) == 0 || i%2 == 0 {
			continue
		}
		for load := range len(x.Spindle.Weights) + 1 {
			for d, want := range u.corrected(x, load) {
				f := api.OK
				if want == to(0, 0) {
					f = api.ErrNone
					none++
				}
				if r, e := trial.Correct(x, load, d); r != want || e != f {
					t.Fatalf("Correct of %v, %d, %d: %v, %v, not %v", x, load, d, r, e, want)
				}
				count++
			}
		}
	}
	if count < 3000 || none < 50 {
		t.Errorf("only %d divisions, %d of them in no density", count, none)
	}
}

func TestP9_5FewestExamples(t *testing.T) {
	plain := func(x trial.Trial) trial.Trial {
		x.Tests = nil
		return x
	}
	thin := single(1000, 1000)
	thin.Spindle.Width = 20
	for _, x := range []struct {
		t         trial.Trial
		tolerance int
		l         []trial.Offer
		want      []int
		e         api.Errno
	}{
		{example(), 1, offers(offer(0, 1000), offer(0, 1100)), list(1), api.OK}, {example(), 1, offers(offer(0, 1000)), nil, api.ErrFail}, {example(), 1, nil, nil, api.ErrFail}, {example(), 1, offers(offer(0, 1100), offer(0, 1100)), list(0), api.OK}, {example(), 1, offers(offer(0, 1000), offer(0, 1000), offer(0, 1000), offer(0, 1100)), list(3), api.OK},
		// It need not be tried again.
		{example(), 2, nil, nil, api.OK}, {example(), 2, offers(offer(0, 1100)), nil, api.OK}, {example(), 0, offers(offer(0, 1000)), nil, api.OK}, {example(), 0, nil, nil, api.OK},
		{single(1000, 1000), 0, offers(offer(0, 1000)), list(0), api.OK}, {single(1000, 1000), 0, offers(offer(0, 899), offer(0, 1126), offer(0, 1125)), list(2), api.OK}, {single(1000, 1000), 0, offers(offer(0, 899), offer(0, 1126)), nil, api.ErrFail}, {single(1000, 1000), 0, offers(offer(0, 1125)), list(0), api.OK}, {single(1000, 1000), 1, offers(offer(0, 900)), nil, api.OK},
		// Each offer tells of one part alone.
		{plain(example()), 1, offers(offer(0, 940), offer(0, 1080)), list(0, 1), api.OK}, {plain(example()), 1, offers(offer(0, 1080), offer(0, 940), offer(1, 1200), offer(0, 940)), list(0, 1), api.OK}, {plain(example()), 1, offers(offer(0, 1080), offer(0, 1081), offer(0, 1082)), nil, api.ErrFail}, {plain(single(1000, 1000)), 0, offers(offer(0, 1010), offer(0, 940)), list(0), api.OK},
		// What several divisions can be read for does not tell them apart, but None is told from each.
		{thin, 0, offers(offer(0, 1000)), nil, api.ErrFail}, {thin, 0, offers(offer(0, 900)), nil, api.ErrFail},
	} {
		if l, e := trial.Fewest(x.t, x.tolerance, x.l); !slices.Equal(l, x.want) || e != x.e {
			t.Errorf("Fewest of %v, %v, %d: %v, %v", x.t, x.l, x.tolerance, l, e)
		}
	}
}

// TestP9_5Fewest compares it with all lists of offers, and all two errors.
func TestP9_5Fewest(t *testing.T) {
	random := rand.New(rand.NewSource(31))
	sizes, fails := map[int]int{}, 0
	for _, x := range slices.Concat(allTrials(), undecided()) {
		u := wideTruths(x, nil)
		if len(u.errors) == 0 || len(u.errors) > 150 {
			continue
		}
		for range 10 {
			l := randomOffers(random, x.Spindle)
			tolerance := random.Intn(x.Worst + 1)
			want, found := u.fewest(x, tolerance, l)
			f := api.OK
			if !found {
				f = api.ErrFail
				fails++
			} else if u.verdict(x, tolerance) == trial.Again {
				sizes[len(want)]++
			}
			if out, e := trial.Fewest(x, tolerance, l); !slices.Equal(out, want) || e != f {
				t.Fatalf("Fewest of %v, %d, %v: %v, %v, not %v", x, tolerance, l, out, e, want)
			}
		}
	}
	if sizes[0] > 0 || min(sizes[1], sizes[2], fails) < 50 || sizes[3] < 5 {
		t.Errorf("not all were tried: %v, %d", sizes, fails)
	}
}

// undecided are trials with small errors, few tests, and few divisions that are read together, so that many of them have to be tried again, and offers decide.
func undecided() []trial.Trial {
	most := wideBounds()
	most.tests, most.worst, most.liquids, most.any = 2, 2, 1, 0
	l := randomTrials(32, 400, most)
	for i := range l {
		if i%3 > 0 {
			l[i].Spindle.Width = (l[i].Spindle.Step + 1) / 2
		}
	}
	return l
}

func TestP9_6Show(t *testing.T) {
	shown := 0
	for _, x := range append(allTrials(), example()) {
		u, e := trial.Show(x)
		is := false
		for _, errors := range wideTruths(x, nil).errors {
			is = is || slices.Equal(errors[:len(x.Parts)], u.Errors)
		}
		if is != (e == api.OK) {
			t.Fatalf("Show of %v: %v, %v", x, u, e)
		}
		for _, y := range x.Tests {
			if is && !isRight(x, y, u) {
				t.Fatalf("Show of %v: %v, but %v is not right", x, u, y)
			}
		}
		for liquid, density := range u.Densities {
			if !in(density, x.Liquids[liquid]) {
				t.Fatalf("Show of %v: %v", x, u)
			}
		}
		if is {
			shown++
		}
	}
	if shown < 250 {
		t.Errorf("only %d truths", shown)
	}
}

// isRight reports whether a test is right in a truth with errors and densities of the trial.
func isRight(x trial.Trial, y trial.Test, u trial.Truth) bool {
	var errors [3]int
	copy(errors[:], u.Errors)
	return slices.Contains(shownBy(x, errors, y.Load, u.Densities[y.Liquid]), y.Seen)
}

// TestP9_6Prove compares ProveTruth with the definition, in truths and in others.
func TestP9_6Prove(t *testing.T) {
	random := rand.New(rand.NewSource(33))
	proved := map[bool]int{}
	for _, x := range allTrials() {
		known := wideTruths(x, nil).errors
		for i := range 60 {
			errors, densities := randomTruth(random, x)
			if i%2 == 0 && len(known) > 0 {
				errors = known[random.Intn(len(known))]
			}
			u := truth(errors[:len(x.Parts)], densities[:len(x.Liquids)]...)
			want := !slices.ContainsFunc(x.Tests, func(y trial.Test) bool { return !isRight(x, y, u) })
			if trial.ProveTruth(x, u) != want {
				t.Fatalf("ProveTruth of %v, %v: not %v", x, u, want)
			}
			proved[want]++
		}
	}
	if min(proved[true], proved[false]) < 2000 {
		t.Errorf("not both were tried: %v", proved)
	}
}

func TestP9_7LeaveExamples(t *testing.T) {
	for _, x := range tales() {
		if out, e := trial.Leave(x.t); len(out) != 0 || e != api.OK {
			t.Errorf("Leave of %v: %v, %v", x.t, out, e)
		}
	}
	for x, want := range contradictions() {
		if out, e := trial.Leave(*x); !slices.Equal(out, want) || e != api.OK {
			t.Errorf("Leave of %v: %v, %v", x, out, e)
		}
	}
}

// leaveIs checks the smallest sets of the trials, by what can be left out of them.
func leaveIs(t *testing.T, l []trial.Trial, can func(x trial.Trial, out []int) bool) (sizes map[int]int) {
	sizes = map[int]int{}
	for _, x := range l {
		want := smallest(x, can)
		if out, e := trial.Leave(x); !slices.Equal(out, want) || e != api.OK {
			t.Fatalf("Leave of %v: %v, %v, not %v", x, out, e, want)
		}
		sizes[len(want)]++
	}
	return sizes
}

// contested are trials in many of which several tests cannot be right.
func contested() []trial.Trial {
	return randomTrials(34, 120, bounds{parts: 3, worst: 2, liquids: 3, wide: 2, tests: 6, any: 2})
}

func TestP9_7Small(t *testing.T) {
	sizes := leaveIs(t, slices.Concat(smallTrials(), contested()), hasTruth)
	if min(sizes[0], sizes[1], sizes[2]) < 40 || sizes[3] < 5 {
		t.Errorf("not all were tried: %v", sizes)
	}
}

func TestP9_7Wide(t *testing.T) {
	sizes := leaveIs(t, wideTrials(), hasWideTruth)
	if min(sizes[0], sizes[1]) < 30 || sizes[2] < 3 {
		t.Errorf("not all were tried: %v", sizes)
	}
}

// TestP9_7References checks that the reference for wide trials is that for small ones.
func TestP9_7References(t *testing.T) {
	for _, x := range slices.Concat(smallTrials(), contested()) {
		if a, b := smallest(x, hasTruth), smallest(x, hasWideTruth); !slices.Equal(a, b) {
			t.Fatalf("%v: %v, but %v", x, a, b)
		}
	}
}
