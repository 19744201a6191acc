package sample_test

import (
	"math/rand"
	"reflect"
	"slices"
	"testing"

	"saccharum/api"
	"saccharum/sample"
)

// allSamples are all that are made up.
func allSamples() []sample.Sample {
	return slices.Concat(smallSamples(), wideSamples(), wrongSamples())
}

// copied is the sample in memory of its own.
func copied(s sample.Sample) sample.Sample {
	s.Stamps, s.Passes, s.Sights = slices.Clone(s.Stamps), slices.Clone(s.Passes), slices.Clone(s.Sights)
	return s
}

// eachHour calls the function for each bottle and hour of the sample.
func eachHour(s sample.Sample, do func(b, h int)) {
	for b := range s.Bottles {
		for h := range s.Last + 1 {
			do(b, h)
		}
	}
}

// TestP8_6InEachTruth checks that each truth is as the program says, and that there is one for each end and each element.
func TestP8_6InEachTruth(t *testing.T) {
	count := 0
	for _, s := range smallSamples() {
		f, e := answersOf(t, s)
		if e != api.OK {
			continue
		}
		reached := facts{is: true, fewest: [3]int{huge, huge, huge}}
		tried := 0
		eachTruth(s, func(p played) {
			if tried++; tried > 2000 {
				return
			}
			held, whole, e := sample.Play(s, p.truthOf(s))
			if e != api.OK {
				t.Fatalf("Play of %v, %v: %v", s, p, e)
			}
			open := [3]int{}
			eachHour(s, func(b, h int) {
				isOpen := h > 0 && !whole[b][h-1] || p.acts[b][h] == sample.Break || p.acts[b][h] == sample.Again
				reached.held[b][h][held[b][h]] = true
				if isOpen {
					reached.opened[b][held[b][h]] = true
					open[b]++
				}
				if !f.held[b][h][held[b][h]] || isOpen && !f.opened[b][held[b][h]] {
					t.Fatalf("%v, %v: %v has the bottle %d in the hour %d, but the facts are %v", s, p, held, b, h, f)
				}
			})
			for b := range s.Bottles {
				reached.fewest[b] = min(reached.fewest[b], open[b])
				if open[b] < f.fewest[b] {
					t.Fatalf("%v, %v: %d open hours, but the facts are %v", s, p, open[b], f)
				}
			}
		})
		if tried > 2000 {
			continue
		}
		for b := range s.Bottles {
			if reached.held[b] != f.held[b] || reached.opened[b] != f.opened[b] || reached.fewest[b] != f.fewest[b] {
				t.Fatalf("%v: facts %v, but truths reach %v", s, f, reached)
			}
		}
		count++
	}
	if count < 300 {
		t.Errorf("only %d samples with truths", count)
	}
}

func TestP8_7Openers(t *testing.T) {
	openers, not := 0, 0
	for _, s := range allSamples() {
		f, e := answersOf(t, s)
		if e != api.OK {
			continue
		}
		for b := range s.Bottles {
			var ever [4]bool
			for h := range s.Last + 1 {
				seen := slices.ContainsFunc(s.Sights, func(k sample.Sight) bool { return k.Bottle == b && k.Hour >= h })
				for person, can := range f.held[b][h] {
					ever[person] = ever[person] || can
					if can && !seen && !f.opened[b][person] {
						t.Fatalf("%v: %d has the bottle %d in the hour %d, with no later sight, but cannot have opened it", s, person, b, h)
					}
				}
			}
			for person, can := range f.opened[b] {
				if can && !ever[person] {
					t.Fatalf("%v: %d never has the bottle %d, but can have opened it", s, person, b)
				}
				if can {
					openers++
				} else if ever[person] {
					not++
				}
			}
		}
	}
	if openers < 500 || not < 100 {
		t.Errorf("only %d openers, and %d who are none", openers, not)
	}
}

func TestP8_8NoStamp(t *testing.T) {
	never := 0
	for _, s := range allSamples() {
		x := copied(s)
		x.Stamps = make([]bool, s.People)
		for b := range s.Bottles {
			x.Sights = slices.DeleteFunc(slices.Clone(s.Sights), func(k sample.Sight) bool { return k.Bottle == b && !k.Whole })
			x.Sights = append(x.Sights[:min(len(x.Sights), api.MaxSampleSights-1)], whole(b, s.Last))
			f, e := answersOf(t, x)
			if e != api.OK {
				continue
			}
			if f.verdicts[b] != sample.Never || f.opened[b] != [4]bool{} || f.fewest[b] != 0 {
				t.Fatalf("%v: nobody has a stamp, and the bottle %d is whole, but the facts are %v", x, b, f)
			}
			never++
			// It can have been opened with a stamp for whoever has it at first, and was if it is broken.
			x.Stamps[x.First] = true
			if g, _ := answersOf(t, x); g.held[b][0][x.First] && !g.opened[b][x.First] {
				t.Fatalf("%v: %v", x, g)
			}
			x.Stamps[x.First] = false
			x.Sights[len(x.Sights)-1].Whole = false
			if g, e := answersOf(t, x); e == api.OK && g.verdicts[b] != sample.Always {
				t.Fatalf("%v: %v", x, g)
			}
		}
	}
	if never < 500 {
		t.Errorf("only %d bottles were never opened", never)
	}
}

func TestP8_9Verdicts(t *testing.T) {
	alike := map[int]int{}
	for _, s := range allSamples() {
		f, e := answersOf(t, s)
		if e != api.OK {
			continue
		}
		always, never := false, true
		for b := range s.Bottles {
			if (f.verdicts[b] == sample.Always) != (f.fewest[b] > 0) || (f.verdicts[b] == sample.Never) != (f.opened[b] == [4]bool{}) || !in(f.verdicts[b], to(1, 3)) {
				t.Fatalf("%v: %v", s, f)
			}
			always = always || f.verdicts[b] == sample.Always
			never = never && f.verdicts[b] == sample.Never
		}
		if (f.alike == sample.Always) != never || (f.alike == sample.Never) != always || !in(f.alike, to(1, 3)) {
			t.Fatalf("%v: %v", s, f)
		}
		alike[f.alike]++
	}
	if min(alike[sample.Always], alike[sample.Never], alike[sample.Perhaps]) < 40 {
		t.Errorf("not all were tried: %v", alike)
	}
}

// isLess reports whether all who can have the bottles, and can have opened them, are so in other facts too.
func isLess(f, other facts) bool {
	isPart := func(a, b [4]bool) bool {
		for person := range a {
			if a[person] && !b[person] {
				return false
			}
		}
		return true
	}
	for b := range f.held {
		for h := range f.held[b] {
			if !isPart(f.held[b][h], other.held[b][h]) {
				return false
			}
		}
		if !isPart(f.opened[b], other.opened[b]) {
			return false
		}
	}
	return true
}

// leaveOf is the smallest set, by the program.
func leaveOf(t *testing.T, s sample.Sample) []int {
	out, e := sample.Leave(s)
	if e != api.OK {
		t.Fatalf("Leave of %v: %v, %v", s, out, e)
	}
	return out
}

func TestP8_10OneMoreSight(t *testing.T) {
	random := rand.New(rand.NewSource(21))
	less, same, left := 0, 0, 0
	for _, s := range allSamples() {
		if len(s.Sights) == api.MaxSampleSights {
			continue
		}
		x := copied(s)
		x.Sights = slices.Insert(x.Sights, random.Intn(len(x.Sights)+1), randomSight(random, s))
		f, e := answersOf(t, s)
		g, e2 := answersOf(t, x)
		if e2 == api.OK && (e != api.OK || !isLess(g, f)) {
			t.Fatalf("%v: %v; with one more sight, %v: %v", s, f, x, g)
		}
		for b := range s.Bottles {
			if e2 == api.OK && g.fewest[b] < f.fewest[b] {
				t.Fatalf("%v: %v; with one more sight, %v: %v", s, f, x, g)
			}
		}
		if len(leaveOf(t, x)) < len(leaveOf(t, s)) {
			t.Fatalf("Leave of %v: %v; with one more sight, %v: %v", s, leaveOf(t, s), x, leaveOf(t, x))
		}
		switch {
		case e == api.OK && e2 != api.OK:
			left++
		case e2 == api.OK && f == g:
			same++
		case e2 == api.OK:
			less++
		}
	}
	if min(less, same, left) < 50 {
		t.Errorf("not all were tried: %d, %d, %d", less, same, left)
	}
}

func TestP8_11Wider(t *testing.T) {
	random := rand.New(rand.NewSource(22))
	more, same, fewer := 0, 0, 0
	for _, s := range allSamples() {
		f, e := answersOf(t, s)
		out := leaveOf(t, s)
		for i := range len(s.Passes) + s.People {
			x := copied(s)
			if i < len(x.Passes) {
				r := &x.Passes[i].Hour
				*r = to(max(0, r.Lo-random.Intn(3)), min(s.Last, r.Hi+random.Intn(3)))
			} else {
				x.Stamps[i-len(x.Passes)] = true
			}
			if sample.CheckSample(x) != api.OK || reflect.DeepEqual(x, s) {
				continue
			}
			g, e2 := answersOf(t, x)
			if e == api.OK && (e2 != api.OK || !isLess(f, g)) {
				t.Fatalf("%v: %v; wider, or with a stamp more, %v: %v", s, f, x, g)
			}
			other := leaveOf(t, x)
			if len(other) > len(out) {
				t.Fatalf("Leave of %v: %v; wider, or with a stamp more, %v: %v", s, out, x, other)
			}
			switch {
			case len(other) < len(out):
				fewer++
			case e == api.OK && f == g:
				same++
			case e == api.OK:
				more++
			}
		}
	}
	if min(more, same, fewer) < 50 {
		t.Errorf("not all were tried: %d, %d, %d", more, same, fewer)
	}
}

// upTo reports of each entry whether it is one of the first ones.
func upTo(count int) func(entry int) bool {
	return func(entry int) bool { return entry < count }
}

func TestP8_12TheFirstOne(t *testing.T) {
	some, none, later := 0, 0, 0
	for _, s := range allSamples() {
		n, e := sample.First(s)
		_, f := sample.Least(s)
		if e == api.ErrNone {
			none++
			if n != 0 || f != api.OK {
				t.Fatalf("First of %v: %d, %v, but %v", s, n, e, f)
			}
			continue
		}
		_, before := sample.Least(only(s, upTo(n)))
		_, with := sample.Least(only(s, upTo(n+1)))
		if e != api.OK || !in(n, to(0, entries(s)-1)) || before != api.OK || with != api.ErrFail {
			t.Fatalf("First of %v: %d, %v, but %v and %v", s, n, e, before, with)
		}
		some++
		if f == api.OK {
			later++
		}
	}
	if some < 300 || none < 300 || later < 5 {
		t.Errorf("only %d contradict, %d do not, and %d no more with later entries", some, none, later)
	}
}

func TestP8_13LeftOut(t *testing.T) {
	sizes := map[int]int{}
	for i, s := range allSamples() {
		out := leaveOf(t, s)
		for j, n := range out {
			if j > 0 && out[j-1] >= n || !in(n, to(0, entries(s)-1)) {
				t.Fatalf("Leave of %v: %v", s, out)
			}
		}
		if _, e := sample.Least(only(s, without(out))); e != api.OK {
			t.Fatalf("Leave of %v: %v, but without these: %v", s, out, e)
		}
		sizes[len(out)]++
		if i%3 > 0 {
			continue
		}
		for _, other := range subsets(entries(s)) {
			if len(other) >= len(out) {
				break
			}
			if _, e := sample.Least(only(s, without(other))); e != api.ErrFail {
				t.Fatalf("Leave of %v: %v, but without %v: %v", s, out, other, e)
			}
		}
	}
	if min(sizes[0], sizes[1], sizes[2], sizes[3]) < 50 {
		t.Errorf("not all were tried: %v", sizes)
	}
}

// alone is the sample with the entries of one bottle alone.
func alone(s sample.Sample, b int) sample.Sample {
	return only(s, func(entry int) bool {
		if entry < len(s.Passes) {
			return s.Passes[entry].Bottle == b
		}
		return s.Sights[entry-len(s.Passes)].Bottle == b
	})
}

func TestP8_14BottleByBottle(t *testing.T) {
	bottles, left := 0, 0
	for _, s := range allSamples() {
		if s.Bottles == 1 {
			continue
		}
		f, e := answersOf(t, s)
		var out []int
		for b := range s.Bottles {
			x := alone(s, b)
			g, e2 := answersOf(t, x)
			if e == api.OK && (e2 != api.OK || g.held[b] != f.held[b] || g.opened[b] != f.opened[b] || g.verdicts[b] != f.verdicts[b] || g.fewest[b] != f.fewest[b]) {
				t.Fatalf("%v: %v; of the bottle %d alone: %v", s, f, b, g)
			}
			if e == api.OK {
				bottles++
			}
			// What is left out of a bottle does not depend on the others either.
			for _, n := range leaveOf(t, x) {
				out = append(out, numberOf(s, b, n))
			}
		}
		slices.Sort(out)
		if l := leaveOf(t, s); !slices.Equal(l, out) {
			t.Fatalf("Leave of %v: %v, but bottle by bottle: %v", s, l, out)
		}
		left += len(out)
	}
	if bottles < 400 || left < 300 {
		t.Errorf("only %d bottles, and %d entries that were left out", bottles, left)
	}
}

// numberOf is the number that an entry of one bottle alone has among all entries.
func numberOf(s sample.Sample, b, n int) int {
	for entry := range entries(s) {
		before := entries(only(s, upTo(entry)))
		x := alone(only(s, upTo(entry+1)), b)
		if before == entry && entries(x) == n+1 {
			return entry
		}
	}
	panic("there is no such entry")
}

// TestAnyOrder has the sights in another order: the facts are the same, and so is how many entries have to be left out.
func TestAnyOrder(t *testing.T) {
	random := rand.New(rand.NewSource(23))
	other := 0
	for _, s := range allSamples() {
		x := copied(s)
		random.Shuffle(len(x.Sights), func(i, j int) { x.Sights[i], x.Sights[j] = x.Sights[j], x.Sights[i] })
		f, e := answersOf(t, s)
		g, e2 := answersOf(t, x)
		if f != g || e != e2 || len(leaveOf(t, s)) != len(leaveOf(t, x)) {
			t.Fatalf("%v: %v, %v; in another order, %v: %v, %v", s, f, leaveOf(t, s), x, g, leaveOf(t, x))
		}
		if !reflect.DeepEqual(s, x) {
			other++
		}
	}
	if other < 300 {
		t.Errorf("only %d samples in another order", other)
	}
}

// results are those of all calls with a sample, and without a truth.
func results(s sample.Sample) []any {
	v, e := sample.Verdicts(s)
	a, f := sample.Alike(s)
	l, g := sample.Least(s)
	n, h := sample.First(s)
	out, i := sample.Leave(s)
	all := []any{sample.CheckSample(s), v, e, a, f, l, g, n, h, out, i}
	eachHour(s, func(b, h int) {
		o, e := sample.Openers(s, b)
		l, f := sample.Holders(s, b, h)
		all = append(all, o, e, l, f)
	})
	return all
}

// TestAgain checks that nothing is kept: the calls in between change no results.
func TestAgain(t *testing.T) {
	var before [][]any
	samples := slices.Concat(smallSamples(), wideSamples()[:100], wrongSamples())
	for _, s := range samples {
		before = append(before, results(s))
	}
	for i, s := range slices.Backward(samples) {
		if again := results(s); !reflect.DeepEqual(again, before[i]) {
			t.Fatalf("results of %v again: %v, not %v", s, again, before[i])
		}
	}
}

// TestEmpty checks that nil and a list without elements are the same.
func TestEmpty(t *testing.T) {
	a := single(1, stamps(true), nil)
	b := single(1, stamps(true), passes(), sights()...)
	b.Sights = sights()
	if !reflect.DeepEqual(results(a), results(b)) {
		t.Errorf("results: %v, %v", results(a), results(b))
	}
	for _, s := range []sample.Sample{a, b} {
		if !sample.ProveTruth(s, truth(nil, list(0, 1))) || !sample.ProveTruth(s, truth(list(), list(0, 1))) {
			t.Errorf("ProveTruth of %v", s)
		}
	}
}

// overwrite changes all elements, and those that could be after them.
func overwrite[T any](x T, l []T) {
	for i := range l {
		l[i] = x
	}
	_ = append(l, x)
}

// TestOwnMemory checks that arguments are not written to, and that results share no memory with them, nor with each other.
func TestOwnMemory(t *testing.T) {
	s, u := example(broken(0, 4)), shown()
	wrong := example(broken(0, 2))
	all := func() []any {
		held, whole, e := sample.Play(s, u)
		return append(append(results(s), results(wrong)...), held, whole, e, sample.ProveTruth(s, u))
	}
	before := all()
	held, seals, _ := sample.Play(s, u)
	if len(held) != 2 || len(seals) != 2 {
		t.Fatalf("Play of %v, %v: %v, %v", s, u, held, seals)
	}
	overwrite(-7, held[0])
	overwrite(false, seals[0])
	if !slices.Equal(held[1], list(0, 0, 1, 1, 1)) || !slices.Equal(seals[1], wholes("wwwww")) {
		t.Errorf("rows share memory: %v, %v", held, seals)
	}
	overwrite(nil, held)
	overwrite(nil, seals)
	l, _ := sample.Holders(s, 0, 1)
	o, _ := sample.Openers(s, 0)
	v, _ := sample.Verdicts(s)
	f, _ := sample.Least(s)
	out, _ := sample.Leave(wrong)
	for _, l := range [][]int{l, o, v, f, out} {
		if len(l) == 0 {
			t.Errorf("no elements: %v, %v, %v, %v, %v", l, o, v, f, out)
		}
		overwrite(-7, l)
	}
	if after := all(); !reflect.DeepEqual(after, before) {
		t.Errorf("results again: %v, not %v", after, before)
	}
	if !reflect.DeepEqual(s, example(broken(0, 4))) || !reflect.DeepEqual(u, shown()) || !reflect.DeepEqual(wrong, example(broken(0, 2))) {
		t.Errorf("arguments were written to: %v, %v, %v", s, u, wrong)
	}
}

// anySample has numbers of chance, in lists that may be too long.
func anySample(random *rand.Rand, some func() int) sample.Sample {
	s := sample.Sample{Bottles: some(), People: some(), Last: some(), First: some()}
	for range random.Intn(6) {
		s.Stamps = append(s.Stamps, random.Intn(2) == 0)
	}
	for range random.Intn(8) {
		s.Passes = append(s.Passes, pass(some(), some(), some(), some(), some()))
	}
	for range random.Intn(8) {
		s.Sights = append(s.Sights, sample.Sight{Bottle: some(), Hour: some(), Whole: random.Intn(2) == 0})
	}
	return s
}

// TestAnyArguments checks that no call panics, and that each result beside an error is zero, whatever the arguments are.
func TestAnyArguments(t *testing.T) {
	values := list(lowest, lowest+1, -2, -1, 0, 0, 0, 0, 0, 0, 1, 1, 1, 1, 1, 2, 2, 2, 2, 3, 3, 3, 4, 5, 9, 10, huge-1, huge)
	random := rand.New(rand.NewSource(24))
	some := func() int { return values[random.Intn(len(values))] }
	errors := map[api.Errno]int{}
	for i := range 20000 {
		s := anySample(random, some)
		switch i % 4 {
		case 0:
			s = copied(example())
			s.Passes[random.Intn(3)].Hour = to(some(), some())
		case 1:
			s = changed(func(x *sample.Sample) { x.Bottles, x.First, x.Sights = some(), some(), s.Sights })
		case 2:
			s.Bottles, s.People, s.Last, s.First, s.Stamps = 3, 4, 9, random.Intn(4), make([]bool, 4)
		}
		u := sample.Truth{}
		for range random.Intn(4) {
			u.Hours = append(u.Hours, some())
			u.Acts = append(u.Acts, list(some(), some(), some(), some(), some())[:random.Intn(6)])
		}
		held, whole, e := sample.Play(s, u)
		l, f := sample.Holders(s, some(), some())
		o, g := sample.Openers(s, some())
		n, h := sample.First(s)
		out, j := sample.Leave(s)
		if e != api.OK && len(held)+len(whole) != 0 || f != api.OK && len(l) != 0 || g != api.OK && len(o) != 0 || h != api.OK && n != 0 || j != api.OK && len(out) != 0 || sample.ProveTruth(s, u) != (e == api.OK) {
			t.Fatalf("a result beside an error, of %v", s)
		}
		v, k := sample.Verdicts(s)
		c := sample.CheckSample(s)
		errors[c]++
		if c != j || c != api.OK && (e != c || f != c || g != c || h != c || k != c || len(v) != 0) {
			t.Fatalf("CheckSample of %v: %v, but %v, %v, %v, %v, %v, %v", s, c, e, f, g, h, j, k)
		}
	}
	if min(errors[api.OK], errors[api.ErrArg], errors[api.ErrLimit]) < 500 {
		t.Errorf("not all were tried: %v", errors)
	}
}
