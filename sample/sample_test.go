package sample_test

import (
	"math/rand"
	"reflect"
	"slices"
	"testing"

	"saccharum/api"
	"saccharum/sample"
)

func rows(l ...[]int) [][]int { return l }

func seals(l ...[]bool) [][]bool { return l }

// wholes reads each letter as a seal: w if it is whole, otherwise broken.
func wholes(letters string) (l []bool) {
	for _, r := range letters {
		l = append(l, r == 'w')
	}
	return l
}

func TestP8_1PlayExamples(t *testing.T) {
	none := list(0, 0, 0, 0, 0)
	back := single(2, stamps(false, true), passes(pass(0, 0, 1, 0, 2), pass(0, 1, 0, 0, 2)))
	for _, x := range []struct {
		s     sample.Sample
		t     sample.Truth
		held  [][]int
		seals [][]bool
	}{
		{example(), shown(), rows(list(0, 1, 1, 2, 2), list(0, 0, 1, 1, 1)), seals(wholes("wwwwb"), wholes("wwwww"))},
		{example(), truth(list(2, 3, 2), list(0, 0, 0, 1, 2), none), rows(list(0, 0, 1, 2, 2), list(0, 0, 1, 1, 1)), seals(wholes("wwwbw"), wholes("wwwww"))},
		{example(), truth(list(2, 3, 2), list(0, 0, 0, 3, 3), none), rows(list(0, 0, 1, 2, 2), list(0, 0, 1, 1, 1)), seals(wholes("wwwww"), wholes("wwwww"))},
		{example(broken(0, 4)), shown(), rows(list(0, 1, 1, 2, 2), list(0, 0, 1, 1, 1)), seals(wholes("wwwwb"), wholes("wwwww"))},
		{single(0, stamps(false), nil), truth(nil, list(0)), rows(list(0)), seals(wholes("w"))},
		{single(0, stamps(false), nil), truth([]int{}, list(1)), rows(list(0)), seals(wholes("b"))},
		{single(0, stamps(true), nil), truth(nil, list(3)), rows(list(0)), seals(wholes("w"))},
		{single(9, stamps(true), nil), truth(nil, list(0, 1, 0, 2, 3, 1, 2, 1, 0, 0)), rows(list(0, 0, 0, 0, 0, 0, 0, 0, 0, 0)), seals(wholes("wbbwwbwbbb"))},
		{sample.Sample{Bottles: 3, People: 2, First: 1, Stamps: stamps(true, false), Passes: passes(pass(2, 1, 0, 0, 0))}, truth(list(0), list(0), list(1), list(3)), rows(list(1), list(1), list(0)), seals(wholes("w"), wholes("b"), wholes("w"))},
		// Who gets a bottle has it in the same hour, and passes of one hour happen in the order of their numbers.
		{back, truth(list(0, 0), list(0, 0, 0)), rows(list(0, 0, 0)), seals(wholes("www"))}, {back, truth(list(1, 1), list(0, 1, 0)), rows(list(0, 0, 0)), seals(wholes("wbb"))}, {back, truth(list(0, 2), list(1, 2, 0)), rows(list(1, 1, 0)), seals(wholes("bww"))}, {back, truth(list(1, 2), list(0, 3, 0)), rows(list(0, 1, 0)), seals(wholes("www"))}, {back, truth(list(1, 2), list(1, 2, 1)), rows(list(0, 1, 0)), seals(wholes("bwb"))},
		{single(2, stamps(false, false, false), passes(pass(0, 1, 2, 0, 2), pass(0, 0, 1, 0, 1))), truth(list(2, 1), list(0, 0, 0)), rows(list(0, 1, 2)), seals(wholes("www"))},
	} {
		held, whole, e := sample.Play(x.s, x.t)
		if !reflect.DeepEqual(held, x.held) || !reflect.DeepEqual(whole, x.seals) || e != api.OK || !sample.ProveTruth(x.s, x.t) {
			t.Errorf("Play of %v, %v: %v, %v, %v", x.s, x.t, held, whole, e)
		}
	}
}

// TestP8_1NoTruths has passes and acts that are not possible, and seals that are not as they were seen.
func TestP8_1NoTruths(t *testing.T) {
	none := list(0, 0, 0, 0, 0)
	back := single(2, stamps(false, true), passes(pass(0, 0, 1, 0, 2), pass(0, 1, 0, 0, 2)))
	later := single(2, stamps(false, false, false), passes(pass(0, 1, 2, 0, 2), pass(0, 0, 1, 0, 1)))
	for _, x := range []struct {
		s sample.Sample
		t sample.Truth
	}{
		{back, truth(list(1, 0), list(0, 0, 0))}, {back, truth(list(2, 1), list(0, 0, 0))}, {later, truth(list(1, 1), list(0, 0, 0))}, {later, truth(list(0, 1), list(0, 0, 0))}, {single(0, stamps(true, true), passes(pass(0, 1, 0, 0, 0))), truth(list(0), list(0))}, {single(1, stamps(true, true), passes(pass(0, 0, 1, 0, 0), pass(0, 0, 1, 1, 1))), truth(list(0, 1), list(0, 0))},
		// Break a broken seal, seal a whole one, or without a stamp, or again a broken one, or without a stamp.
		{single(1, stamps(true), nil), truth(nil, list(1, 1))}, {single(1, stamps(true), nil), truth(nil, list(2, 0))}, {single(1, stamps(true), nil), truth(nil, list(0, 2))}, {single(1, stamps(false), nil), truth(nil, list(1, 2))}, {single(1, stamps(true), nil), truth(nil, list(1, 3))}, {single(1, stamps(false), nil), truth(nil, list(0, 3))}, {single(1, stamps(false), nil), truth(nil, list(3, 0))},
		// The stamp must be theirs who have the bottle after the passes of the hour.
		{back, truth(list(1, 2), list(3, 0, 0))}, {back, truth(list(1, 2), list(0, 0, 3))}, {back, truth(list(1, 1), list(0, 3, 0))}, {back, truth(list(0, 1), list(1, 2, 0))}, {back, truth(list(2, 2), list(1, 2, 0))}, {back, truth(list(1, 2), list(1, 0, 2))},
		{example(), truth(list(1, 3, 2), list(1, 0, 0, 0, 0), none)}, {example(), truth(list(1, 3, 2), list(0, 0, 1, 0, 0), none)}, {example(), truth(list(1, 3, 2), none, list(0, 0, 0, 0, 1))}, {example(broken(0, 4)), truth(list(1, 3, 2), none, none)}, {example(broken(1, 3)), truth(list(1, 3, 2), none, none)}, {example(broken(0, 2)), truth(list(1, 3, 2), none, none)}, {example(), truth(list(1, 3, 2), list(0, 0, 1, 2, 0), none)},
	} {
		if held, whole, e := sample.Play(x.s, x.t); len(held)+len(whole) != 0 || e != api.ErrFalse || sample.ProveTruth(x.s, x.t) {
			t.Errorf("Play of %v, %v: %v, %v, %v", x.s, x.t, held, whole, e)
		}
	}
}

// isPlayed checks that the program has what there is in the truth.
func isPlayed(t *testing.T, s sample.Sample, p played) {
	u := p.truthOf(s)
	held, whole, e := sample.Play(s, u)
	if e != api.OK || len(held) != s.Bottles || len(whole) != s.Bottles {
		t.Fatalf("Play of %v, %v: %v, %v, %v", s, u, held, whole, e)
	}
	for b := range s.Bottles {
		if !slices.Equal(held[b], p.held[b][:s.Last+1]) || !slices.Equal(whole[b], p.whole[b][:s.Last+1]) {
			t.Fatalf("Play of %v, %v: %v, %v, not %v, %v", s, u, held, whole, p.held, p.whole)
		}
	}
	if !sample.ProveTruth(s, u) {
		t.Fatalf("ProveTruth of %v, %v", s, u)
	}
}

// TestP8_1Play has all truths of small samples, or many of those that have more.
func TestP8_1Play(t *testing.T) {
	count := 0
	for _, s := range slices.Concat(smallSamples(), wrongSamples()) {
		tried := 0
		eachTruth(s, func(p played) {
			tried++
			if tried <= 500 || tried%7 == 0 {
				isPlayed(t, s, p)
				count++
			}
		})
	}
	if count < 20000 {
		t.Errorf("only %d truths", count)
	}
}

// TestP8_1AnyActs has lists of hours and acts of which most are no truths.
func TestP8_1AnyActs(t *testing.T) {
	random := rand.New(rand.NewSource(20))
	is := map[bool]int{}
	for _, s := range slices.Concat(smallSamples(), wideSamples(), wrongSamples()) {
		if s.Bottles > 1 {
			continue
		}
		for range 40 {
			var u sample.Truth
			for _, p := range s.Passes {
				u.Hours = append(u.Hours, p.Hour.Lo+random.Intn(p.Hour.Hi-p.Hour.Lo+1))
			}
			var acts []int
			for range s.Last + 1 {
				acts = append(acts, max(0, random.Intn(8)-4))
			}
			u.Acts = rows(acts)
			one := s
			one.Passes = slices.Clone(s.Passes)
			for i, h := range u.Hours {
				one.Passes[i].Hour = to(h, h)
			}
			want := false
			eachTruth(one, func(p played) { want = want || slices.Equal(p.acts[0][:s.Last+1], acts) })
			f := api.ErrFalse
			if want {
				f = api.OK
			}
			held, whole, e := sample.Play(s, u)
			if e != f || e != api.OK && len(held)+len(whole) != 0 || sample.ProveTruth(s, u) != want {
				t.Fatalf("Play of %v, %v: %v, %v, %v", s, u, held, whole, e)
			}
			is[want]++
		}
	}
	if is[true] < 500 || is[false] < 500 {
		t.Errorf("not both were tried: %v", is)
	}
}

// three has one bottle, which goes from 0 to 1 to 2; only 1 has a stamp.
func three(l ...sample.Sight) sample.Sample {
	return single(5, stamps(false, true, false), passes(pass(0, 0, 1, 1, 2), pass(0, 1, 2, 3, 4)), l...)
}

func TestP8_2HoldersExamples(t *testing.T) {
	around := single(2, stamps(false, false, false), passes(pass(0, 0, 1, 0, 1), pass(0, 1, 2, 0, 2)))
	for _, x := range []struct {
		s    sample.Sample
		b    int
		want [][]int
	}{
		{example(), 0, rows(list(0), list(0, 1), list(1), list(2), list(2))}, {example(), 1, rows(list(0), list(0), list(1), list(1), list(1))},
		{single(1, stamps(true), nil), 0, rows(list(0), list(0))}, {three(), 0, rows(list(0), list(0, 1), list(1), list(1, 2), list(2), list(2))},
		// A bottle that is passed on in the same hour is not with who had it in between.
		{around, 0, rows(list(0, 1, 2), list(1, 2), list(2))},
		// Sights tell when the stamp must have been there.
		{three(broken(0, 1), whole(0, 2)), 0, rows(list(0), list(0, 1), list(1), list(1, 2), list(2), list(2))}, {three(broken(0, 2), whole(0, 3)), 0, rows(list(0), list(0, 1), list(1), list(1), list(2), list(2))}, {three(broken(0, 0), whole(0, 1)), 0, rows(list(0), list(1), list(1), list(1, 2), list(2), list(2))},
		// A pass that cannot be before another one narrows it.
		{single(3, stamps(false, false, false), passes(pass(0, 1, 2, 0, 3), pass(0, 0, 1, 2, 2))), 0, rows(list(0), list(0), list(1), list(2))}, {sample.Sample{Bottles: 1, People: 2, Last: 1, First: 1, Stamps: stamps(true, true)}, 0, rows(list(1), list(1))},
	} {
		for h, want := range x.want {
			if l, e := sample.Holders(x.s, x.b, h); !slices.Equal(l, want) || e != api.OK {
				t.Errorf("Holders of %v, %d, %d: %v, %v", x.s, x.b, h, l, e)
			}
		}
	}
}

// told is what the calls tell about a sample that has a truth.
type told struct {
	s                sample.Sample
	openers          [][]int
	verdicts, fewest []int
	alike            int
}

// tales are samples, and what the calls tell about them.
func tales() []told {
	const always, never, perhaps = sample.Always, sample.Never, sample.Perhaps
	one := func(s sample.Sample, openers []int, verdict, fewest, alike int) told {
		return told{s, rows(openers), list(verdict), list(fewest), alike}
	}
	still := func(stamp bool, l ...sample.Sight) sample.Sample { return single(3, stamps(stamp), nil, l...) }
	bottles := func(count int, l ...sample.Sight) sample.Sample {
		return sample.Sample{Bottles: count, People: 1, Last: 2, Stamps: stamps(false), Sights: l}
	}
	return []told{
		{example(), rows(list(2), nil), list(perhaps, never), list(0, 0), perhaps}, {example(broken(0, 3)), rows(list(2), nil), list(always, never), list(2, 0), never}, {example(broken(0, 4)), rows(list(2), nil), list(always, never), list(1, 0), never}, {example(whole(0, 4)), rows(list(2), nil), list(perhaps, never), list(0, 0), perhaps},
		one(still(false), list(0), perhaps, 0, perhaps), one(still(false, whole(0, 3)), nil, never, 0, always), one(still(false, whole(0, 2)), list(0), perhaps, 0, perhaps), one(still(false, broken(0, 3)), list(0), always, 1, never), one(still(false, broken(0, 1)), list(0), always, 3, never), one(still(false, broken(0, 0)), list(0), always, 4, never),
		one(still(true, whole(0, 3)), list(0), perhaps, 0, perhaps), one(still(true, broken(0, 0)), list(0), always, 2, never), one(still(true, broken(0, 0), whole(0, 1)), list(0), always, 2, never), one(still(true, broken(0, 0), broken(0, 1)), list(0), always, 3, never), one(still(true, broken(0, 0), broken(0, 2)), list(0), always, 4, never), one(still(true, broken(0, 0), broken(0, 3)), list(0), always, 3, never), one(still(true, broken(0, 0), whole(0, 1), broken(0, 2), whole(0, 3)), list(0), always, 4, never),
		one(single(0, stamps(false), nil), list(0), perhaps, 0, perhaps), one(single(0, stamps(true), nil, whole(0, 0)), list(0), perhaps, 0, perhaps), one(single(0, stamps(false), nil, broken(0, 0)), list(0), always, 1, never), one(single(0, stamps(false), nil, whole(0, 0)), nil, never, 0, always),
		one(three(broken(0, 0)), list(0, 1, 2), always, 2, never), one(three(whole(0, 1), whole(0, 3)), list(0, 1, 2), perhaps, 0, perhaps), one(three(whole(0, 5)), list(0, 1), perhaps, 0, perhaps), one(three(broken(0, 1), whole(0, 5)), list(0, 1), always, 2, never), one(three(whole(0, 2), broken(0, 5)), list(0, 1, 2), always, 1, never), one(three(whole(0, 0), broken(0, 1)), list(0, 1, 2), always, 2, never), one(three(whole(0, 0), broken(0, 2), broken(0, 3)), list(0, 1, 2), always, 4, never), one(three(whole(0, 2), whole(0, 4), whole(0, 5)), list(0, 1), perhaps, 0, perhaps),
		{bottles(3, whole(0, 2), whole(1, 2), whole(2, 2)), rows(nil, nil, nil), list(never, never, never), list(0, 0, 0), always}, {bottles(3, whole(0, 2), whole(2, 2)), rows(nil, list(0), nil), list(never, perhaps, never), list(0, 0, 0), perhaps}, {bottles(3, whole(0, 2), broken(2, 1)), rows(nil, list(0), list(0)), list(never, perhaps, always), list(0, 0, 2), never}, {bottles(2, broken(0, 2), broken(1, 0)), rows(list(0), list(0)), list(always, always), list(1, 3), never}, {bottles(2, whole(0, 2), broken(1, 0)), rows(nil, list(0)), list(never, always), list(0, 3), never}, {bottles(2), rows(list(0), list(0)), list(perhaps, perhaps), list(0, 0), perhaps},
	}
}

func TestP8_2OpenersExamples(t *testing.T) {
	for _, x := range tales() {
		for b, want := range x.openers {
			if l, e := sample.Openers(x.s, b); !slices.Equal(l, want) || e != api.OK {
				t.Errorf("Openers of %v, %d: %v, %v", x.s, b, l, e)
			}
		}
	}
}

func TestP8_3VerdictsExamples(t *testing.T) {
	for _, x := range tales() {
		if l, e := sample.Verdicts(x.s); !slices.Equal(l, x.verdicts) || e != api.OK {
			t.Errorf("Verdicts of %v: %v, %v", x.s, l, e)
		}
		if n, e := sample.Alike(x.s); n != x.alike || e != api.OK {
			t.Errorf("Alike of %v: %d, %v", x.s, n, e)
		}
	}
}

func TestP8_4LeastExamples(t *testing.T) {
	for _, x := range tales() {
		if l, e := sample.Least(x.s); !slices.Equal(l, x.fewest) || e != api.OK {
			t.Errorf("Least of %v: %v, %v", x.s, l, e)
		}
	}
}

// TestP8_3Contradictions has samples that contradict themselves, for P8.2 to P8.4.
func TestP8_3Contradictions(t *testing.T) {
	for _, s := range []sample.Sample{
		example(broken(0, 2)), example(broken(1, 4)), example(broken(1, 0)), three(broken(0, 4), whole(0, 5)), three(broken(0, 3), whole(0, 4)), three(whole(0, 1), broken(0, 1)), single(0, stamps(true), nil, whole(0, 0), broken(0, 0)),
		single(3, stamps(true, true), passes(pass(0, 1, 0, 0, 3))), single(3, stamps(true, true), passes(pass(0, 0, 1, 2, 3), pass(0, 1, 0, 0, 1))), single(3, stamps(true, true), passes(pass(0, 0, 1, 0, 3), pass(0, 0, 1, 0, 3))), changed(func(s *sample.Sample) { s.First = 1 }), changed(func(s *sample.Sample) { s.Passes[2].From = 2 }),
	} {
		if f, e := answersOf(t, s); e != api.ErrFail {
			t.Errorf("facts of %v: %v, %v", s, f, e)
		}
		for b := range s.Bottles {
			l, e := sample.Holders(s, b, s.Last)
			m, f := sample.Openers(s, b)
			if len(l)+len(m) != 0 || e != api.ErrFail || f != api.ErrFail {
				t.Errorf("Holders, Openers of %v: %v, %v; %v, %v", s, l, e, m, f)
			}
		}
	}
}

// agrees checks that the program has the facts of the sample.
func agrees(t *testing.T, s sample.Sample, want facts) {
	f := api.ErrFail
	if want.is {
		f = api.OK
	}
	got, e := answersOf(t, s)
	if got != want || e != f {
		t.Fatalf("%v: %v, %v, not %v", s, got, e, want)
	}
}

// TestP8_2Small compares all calls that ask what there is, for P8.2 to P8.4, with all truths of small samples.
func TestP8_2Small(t *testing.T) {
	verdicts, alike, contradicting := map[int]int{}, map[int]int{}, 0
	for _, s := range slices.Concat(smallSamples(), wrongSamples()) {
		want := factsOf(s)
		agrees(t, s, want)
		if !want.is {
			contradicting++
		}
		alike[want.alike]++
		for b := range s.Bottles {
			verdicts[want.verdicts[b]]++
		}
	}
	if contradicting < 100 || min(verdicts[sample.Always], verdicts[sample.Never], verdicts[sample.Perhaps]) < 50 || min(alike[sample.Always], alike[sample.Never], alike[sample.Perhaps]) < 30 {
		t.Errorf("not all were tried: %v, %v, %d", verdicts, alike, contradicting)
	}
}

// TestP8_2Wide compares them with all lists of seals on all courses of wide samples.
func TestP8_2Wide(t *testing.T) {
	several, most := 0, 0
	for _, s := range wideSamples() {
		want := wideFacts(s)
		agrees(t, s, want)
		for b := range s.Bottles {
			most = max(most, want.fewest[b])
			for h := range s.Last + 1 {
				count := 0
				for _, is := range want.held[b][h] {
					if is {
						count++
					}
				}
				if count > 1 {
					several++
				}
			}
		}
	}
	if several < 200 || most < 6 {
		t.Errorf("only %d hours with several holders, and %d open hours", several, most)
	}
}

// TestP8_2References checks that the reference for wide samples is that for small ones.
func TestP8_2References(t *testing.T) {
	for _, s := range slices.Concat(smallSamples(), wrongSamples()) {
		if a, b := factsOf(s), wideFacts(s); a != b {
			t.Fatalf("%v: %v, but %v", s, a, b)
		}
	}
}

func TestP8_5Examples(t *testing.T) {
	late, lost := three(), three()
	late.Passes[1].Hour = to(0, 0)
	lost.Passes[0].From, lost.Passes[0].To = 1, 0
	turned := single(3, stamps(false, false, false), passes(pass(0, 1, 2, 0, 3), pass(0, 0, 1, 2, 2)))
	for _, x := range []struct {
		s     sample.Sample
		first int
		e     api.Errno
		leave []int
	}{
		{example(), 0, api.ErrNone, nil}, {example(broken(0, 2)), 5, api.OK, list(3)}, {example(broken(0, 2), broken(1, 4)), 5, api.OK, list(3, 4)}, {example(broken(0, 2), whole(0, 2)), 5, api.OK, list(5)}, {example(broken(1, 0)), 5, api.OK, list(4)}, {example(whole(0, 0), broken(1, 4), broken(0, 0)), 6, api.OK, list(4, 7)},
		{single(0, stamps(false), nil), 0, api.ErrNone, nil}, {single(2, stamps(false), nil, broken(0, 0), whole(0, 1), whole(0, 2)), 1, api.OK, list(0)}, {single(2, stamps(false), nil, broken(0, 0), broken(0, 1), whole(0, 2)), 2, api.OK, list(2)}, {single(2, stamps(true), nil, broken(0, 0), broken(0, 1), whole(0, 2)), 0, api.ErrNone, nil}, {single(0, stamps(true), nil, whole(0, 0), whole(0, 0), whole(0, 0), broken(0, 0), broken(0, 0), broken(0, 0)), 3, api.OK, list(0, 1, 2)},
		// Without the pass, nobody had the stamp too late.
		{three(broken(0, 4), whole(0, 5)), 3, api.OK, list(1)}, {three(broken(0, 0), whole(0, 0)), 3, api.OK, list(2)}, {lost, 0, api.OK, list(0, 1)}, {late, 1, api.OK, list(1)},
		{single(1, stamps(true, true), passes(pass(0, 0, 1, 0, 0), pass(0, 0, 1, 1, 1))), 1, api.OK, list(0)}, {single(1, stamps(true, true), passes(pass(0, 0, 1, 1, 1), pass(0, 1, 0, 0, 1))), 0, api.ErrNone, nil}, {single(1, stamps(true, true), passes(pass(0, 0, 1, 1, 1), pass(0, 1, 0, 0, 0))), 1, api.OK, list(1)},
		// A pass that alone is not possible can be so with a later one: the sample with both has a truth.
		{turned, 0, api.OK, nil}, {single(0, stamps(false, false), slices.Repeat(passes(pass(0, 1, 0, 0, 0)), 6)), 0, api.OK, list(0, 1, 2, 3, 4, 5)},
		{single(0, stamps(false, false), slices.Repeat(passes(pass(0, 1, 0, 0, 0)), 6), whole(0, 0), broken(0, 0), whole(0, 0), broken(0, 0), whole(0, 0), broken(0, 0)), 0, api.OK, list(0, 1, 2, 3, 4, 5, 6, 8, 10)},
	} {
		if n, e := sample.First(x.s); n != x.first || e != x.e {
			t.Errorf("First of %v: %d, %v", x.s, n, e)
		}
		if out, e := sample.Leave(x.s); !slices.Equal(out, x.leave) || e != api.OK {
			t.Errorf("Leave of %v: %v, %v", x.s, out, e)
		}
	}
}

// TestP8_5Small compares First and Leave with all truths of small samples.
func TestP8_5Small(t *testing.T) {
	firsts, sizes := map[int]int{}, map[int]int{}
	for _, s := range slices.Concat(smallSamples(), wrongSamples()) {
		can := func(kept func(entry int) bool) bool { return hasTruth(only(s, kept)) }
		if entries(s) > 8 {
			can = newLeaver(s).canLeave
		}
		n, e := first(s, can)
		if m, f := sample.First(s); m != n || f != e {
			t.Fatalf("First of %v: %d, %v, not %d, %v", s, m, f, n, e)
		}
		want := smallest(s, can)
		if out, f := sample.Leave(s); !slices.Equal(out, want) || f != api.OK {
			t.Fatalf("Leave of %v: %v, %v, not %v", s, out, f, want)
		}
		firsts[n]++
		sizes[len(want)]++
	}
	if min(firsts[0], firsts[1], firsts[2], firsts[3], firsts[4], firsts[5], firsts[6]) < 5 || min(sizes[0], sizes[1], sizes[2], sizes[3], sizes[4]) < 20 {
		t.Errorf("not all were tried: %v, %v", firsts, sizes)
	}
}

// TestP8_5Wide compares First and Leave with the courses of wide samples.
func TestP8_5Wide(t *testing.T) {
	sizes := map[int]int{}
	for _, s := range wideSamples() {
		can := newLeaver(s).canLeave
		n, e := first(s, can)
		if m, f := sample.First(s); m != n || f != e {
			t.Fatalf("First of %v: %d, %v, not %d, %v", s, m, f, n, e)
		}
		want := smallest(s, can)
		if out, f := sample.Leave(s); !slices.Equal(out, want) || f != api.OK {
			t.Fatalf("Leave of %v: %v, %v, not %v", s, out, f, want)
		}
		sizes[len(want)]++
	}
	if min(sizes[0], sizes[1], sizes[2], sizes[3]) < 10 {
		t.Errorf("not all were tried: %v", sizes)
	}
}

// TestP8_5References checks that the reference for wide samples is that for small ones.
func TestP8_5References(t *testing.T) {
	for _, s := range slices.Concat(smallSamples(), wrongSamples()) {
		l := newLeaver(s)
		for _, out := range subsets(entries(s)) {
			if entries(s) < 7 && l.canLeave(without(out)) != hasTruth(only(s, without(out))) {
				t.Fatalf("%v without %v: %v", s, out, l.canLeave(without(out)))
			}
		}
	}
}
