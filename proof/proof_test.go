package proof_test

import (
	"math/rand"
	"reflect"
	"slices"
	"testing"

	"saccharum/api"
	"saccharum/proof"
	"saccharum/table"
)

// changed is the store of the examples after a change.
func changed(change func(s *proof.Store)) proof.Store {
	s := example()
	change(&s)
	return s
}

func TestP4_1CheckStore(t *testing.T) {
	bad := table.Table{Warmths: list(1, 2), Marks: list(1, 2), Values: [][]int{{1, 2}, {1, 2001}}}
	for _, x := range []struct {
		name   string
		change func(s *proof.Store)
		want   api.Errno
	}{
		{"the example", func(s *proof.Store) {}, api.OK},
		{"all of the most", func(s *proof.Store) { *s = full() }, api.OK},
		{"nothing", func(s *proof.Store) { *s = proof.Store{} }, api.ErrArg},
		{"six marks", func(s *proof.Store) { s.Table.Marks = make([]int, 6) }, api.ErrLimit},
		{"six warmths, and a bad rate", func(s *proof.Store) { s.Table.Warmths, s.Rate = make([]int, 6), -1 }, api.ErrLimit},
		{"six rows, and a bad cask", func(s *proof.Store) { s.Table.Values, s.Casks[0].Gallons = make([][]int, 6), 0 }, api.ErrLimit},
		{"no marks", func(s *proof.Store) { s.Table.Marks = nil }, api.ErrArg},
		{"no warmths", func(s *proof.Store) { s.Table.Warmths = nil }, api.ErrArg},
		{"a bad value", func(s *proof.Store) { s.Table.Values[2][2] = 2001 }, api.ErrArg},
		{"a value below 0", func(s *proof.Store) { s.Table.Values[0][0] = -1 }, api.ErrArg},
		{"a bad value, and no casks", func(s *proof.Store) { s.Table, s.Casks = bad, nil }, api.ErrArg},
		{"a bad table, and seven casks", func(s *proof.Store) { s.Table, s.Casks = bad, make([]proof.Cask, 7) }, api.ErrArg},
		{"no table, and seven casks", func(s *proof.Store) { *s = proof.Store{Casks: make([]proof.Cask, 7)} }, api.ErrArg},
		{"six casks", func(s *proof.Store) { s.Casks = append(s.Casks, s.Casks...) }, api.OK},
		{"seven casks", func(s *proof.Store) { s.Casks = append(append(s.Casks, s.Casks...), s.Casks[0]) }, api.ErrLimit},
		{"seven bad casks, and a bad rate", func(s *proof.Store) { s.Casks, s.Rate = make([]proof.Cask, 7), -1 }, api.ErrLimit},
		{"no casks", func(s *proof.Store) { s.Casks = nil }, api.OK},
		{"empty casks", func(s *proof.Store) { s.Casks = []proof.Cask{} }, api.OK},
		{"rate 0", func(s *proof.Store) { s.Rate = 0 }, api.OK},
		{"rate 200", func(s *proof.Store) { s.Rate = 200 }, api.OK},
		{"rate 201", func(s *proof.Store) { s.Rate = 201 }, api.ErrArg},
		{"rate below 0", func(s *proof.Store) { s.Rate = -1 }, api.ErrArg},
		{"rate 201, and no casks", func(s *proof.Store) { s.Rate, s.Casks = 201, nil }, api.ErrArg},
		{"huge rate", func(s *proof.Store) { s.Rate = huge }, api.ErrArg},
		{"lowest rate", func(s *proof.Store) { s.Rate = lowest }, api.ErrArg},
		{"1 gallon", func(s *proof.Store) { s.Casks[0].Gallons = 1 }, api.OK},
		{"99 gallons", func(s *proof.Store) { s.Casks[2].Gallons = 99 }, api.OK},
		{"no gallons", func(s *proof.Store) { s.Casks[0].Gallons = 0 }, api.ErrArg},
		{"no gallons in the last one", func(s *proof.Store) { s.Casks[2].Gallons = 0 }, api.ErrArg},
		{"100 gallons", func(s *proof.Store) { s.Casks[1].Gallons = 100 }, api.ErrArg},
		{"gallons below 0", func(s *proof.Store) { s.Casks[1].Gallons = -1 }, api.ErrArg},
		{"huge gallons", func(s *proof.Store) { s.Casks[1].Gallons = huge }, api.ErrArg},
		{"lowest gallons", func(s *proof.Store) { s.Casks[1].Gallons = lowest }, api.ErrArg},
		{"a cask of nothing", func(s *proof.Store) { s.Casks[1] = proof.Cask{} }, api.ErrArg},
	} {
		hasError(t, x.name, changed(x.change), x.want)
	}
	for _, s := range append(stores(), wideStores()...) {
		if e := proof.CheckStore(s); e != api.OK {
			t.Errorf("CheckStore of %v: %v", s, e)
		}
	}
}

// TestP4_1Ranges has the valid and the invalid ranges of a cask: the warmths are 10 to 20, the marks 30 to 50.
func TestP4_1Ranges(t *testing.T) {
	marks := func(s *proof.Store) { s.Table.Marks = list(30, 40, 50) }
	for _, x := range []struct {
		name         string
		change       func(s *proof.Store, r proof.Range)
		first, other int
	}{
		{"warmth", func(s *proof.Store, r proof.Range) { s.Casks[1].Warmth = r }, 10, 20},
		{"mark", func(s *proof.Store, r proof.Range) { s.Casks[1].Mark = r }, 30, 50},
		{"warmth of the last one", func(s *proof.Store, r proof.Range) { s.Casks[2].Warmth = r }, 10, 20},
		{"mark of the first one", func(s *proof.Store, r proof.Range) { s.Casks[0].Mark = r }, 30, 50},
	} {
		low, high := x.first, x.other
		good := []proof.Range{to(low, low), to(high, high), to(low, high), to(low+1, high-1), to(low+5, low+5)}
		wrong := []proof.Range{to(low-1, low-1), to(low-1, low), to(low-1, high), to(high+1, high+1), to(high, high+1), to(low, high+1), to(high, low), to(low+6, low+5), to(low-1, high+1)}
		wrong = append(wrong, to(lowest, huge), to(huge, lowest), to(lowest, lowest), to(huge, huge), to(low, huge), to(lowest, high), to(low, lowest), to(huge, high), to(0, 0))
		change := func(r proof.Range) proof.Store {
			return changed(func(s *proof.Store) {
				marks(s)
				for i := range s.Casks {
					s.Casks[i].Mark = to(30, 31)
				}
				x.change(s, r)
			})
		}
		for _, r := range good {
			hasError(t, x.name, change(r), api.OK)
		}
		for _, r := range wrong {
			hasError(t, x.name, change(r), api.ErrArg)
		}
	}
}

// hasError checks that each call with a store has its error, even if other arguments are invalid too.
func hasError(t *testing.T, name string, s proof.Store, want api.Errno) {
	if e := proof.CheckStore(s); e != want {
		t.Errorf("%s: CheckStore of %v: %v", name, s, e)
	}
	r, e := proof.Strengths(s)
	if want == api.OK {
		if e != api.OK || len(r) != len(s.Casks) {
			t.Errorf("%s: Strengths of %v: %v, %v", name, s, r, e)
		}
		return
	}
	n, f := proof.Tenths(s, list(-1))
	d, g := proof.Duty(s, list(-1))
	b, h := proof.Duties(s)
	q, i := proof.Blend(s, list(3, 0), -1)
	w, j := proof.Water(s, list(9), 0)
	l, k := proof.Fewest(s, to(1, 0))
	out, m := proof.False(s, says(9, 9))
	_, o := proof.Blend(s, list(0), 0)
	_, p := proof.Fewest(s, to(0, 2000))
	_, u := proof.False(s, nil)
	if len(r)+len(n)+len(l)+len(out) != 0 || d != 0 || w != 0 || b != to(0, 0) || q != to(0, 0) {
		t.Errorf("%s: results beside an error, of %v", name, s)
	}
	for _, e := range []api.Errno{e, f, g, h, i, j, k, m, o, p, u} {
		if e != want {
			t.Errorf("%s: a call with %v: %v", name, s, e)
		}
	}
	if proof.ProveBlend(s, list(0), 0, to(lowest, huge)) || proof.ProveBlend(s, nil, 0, to(0, 0)) {
		t.Errorf("%s: a proof about %v", name, s)
	}
}

func TestP4_1Strengths(t *testing.T) {
	valley := even(1, cask(9, to(0, 40), to(0, 60)), cask(9, to(0, 40), to(1, 58)))
	valley.Table = table.Table{Warmths: list(0, 20, 40), Marks: list(0, 30, 60), Values: [][]int{{500, 500, 500}, {500, 100, 500}, {500, 900, 500}}}
	for _, x := range []struct {
		s    proof.Store
		want []proof.Range
	}{
		{example(), ranges(1260, 1260, 810, 847, 1530, 1530)}, {even(7), nil}, {even(7, cask(5, to(0, 40), to(2, 59))), ranges(2, 59)},
		{valley, ranges(100, 900, 100, 900)}, {steep(2000, 1, cask(1, to(3, 4), to(0, 2)), cask(1, to(3, 4), to(1, 1)), cask(1, to(3, 4), to(2, 2))), ranges(0, 2000, 2000, 2000, 0, 0)},
	} {
		if l, e := proof.Strengths(x.s); !slices.Equal(l, x.want) || e != api.OK {
			t.Errorf("Strengths of %v: %v, %v", x.s, l, e)
		}
	}
	for _, s := range append(stores(), wideStores()...) {
		if l, e := proof.Strengths(s); !slices.Equal(l, strengthRanges(s)) || e != api.OK {
			t.Fatalf("Strengths of %v: %v, %v, not %v", s, l, e, strengthRanges(s))
		}
	}
}

func TestP4_2Examples(t *testing.T) {
	one := func(gallons, rate int) proof.Store { return even(rate, cask(gallons, to(0, 0), to(0, 60))) }
	for _, x := range []struct {
		s      proof.Store
		truth  []int
		tenths []int
		duty   int
	}{
		{example(), list(1260, 820, 1530), list(630, 246, 306), 14184}, {example(), list(1260, 810, 1530), list(630, 243, 306), 14148}, {example(), list(1260, 847, 1530), list(630, 254, 306), 14280},
		{even(7), nil, nil, 0}, {even(7), list(), nil, 0}, {one(99, 200), list(0), list(0), 0}, {one(1, 200), list(60), list(0), 0}, {one(99, 0), list(60), list(59), 0},
		{one(50, 1), list(1), list(0), 0}, {one(50, 1), list(2), list(1), 1}, {one(50, 10), list(3), list(1), 1}, {one(50, 11), list(3), list(1), 2}, {one(50, 10), list(20), list(10), 10},
		{one(33, 1), list(3), list(0), 0}, {one(33, 1), list(4), list(1), 1}, {one(20, 3), list(50), list(10), 3}, {one(22, 3), list(50), list(11), 4}, {one(40, 3), list(50), list(20), 6}, {one(38, 3), list(50), list(19), 6},
		{even(3, cask(2, to(0, 0), to(50, 50)), cask(2, to(0, 0), to(50, 50)), cask(2, to(0, 0), to(50, 50))), list(50, 50, 50), list(1, 1, 1), 3},
		{even(200, cask(1, to(0, 0), to(60, 60)), cask(1, to(0, 0), to(60, 60))), list(60, 60), list(0, 0), 0},
		{steep(1000, 10, cask(99, to(3, 3), to(1, 1))), list(1000), list(990), 990}, {steep(2000, 1, cask(1, to(3, 3), to(0, 1))), list(777), list(7), 1},
		{full(), list(0, 1, 1999, 2000, 1000, 2), list(0, 0, 1979, 1980, 990, 1), 20 * (1979 + 1980 + 990 + 1)},
	} {
		n, e := proof.Tenths(x.s, x.truth)
		d, f := proof.Duty(x.s, x.truth)
		if !slices.Equal(n, x.tenths) || e != api.OK || d != x.duty || f != api.OK {
			t.Errorf("Tenths and Duty of %v, %v: %v, %v; %d, %v", x.s, x.truth, n, e, d, f)
		}
	}
}

func TestP4_2NoTruth(t *testing.T) {
	for _, x := range []struct {
		s     proof.Store
		truth []int
	}{
		{example(), nil}, {example(), list(1260, 820)}, {example(), list(1260, 820, 1530, 1530)}, {example(), list(1260, 820, 1530, 0)}, {example(), list(1260, 820, 1530, 0, 0, 0)}, {example(), list(1260, 820, 1530, 0, 0, 0, 0)}, {example(), make([]int, 99)},
		{example(), list(1259, 820, 1530)}, {example(), list(1261, 820, 1530)}, {example(), list(1260, 809, 1530)}, {example(), list(1260, 848, 1530)}, {example(), list(1260, 820, 1529)}, {example(), list(1260, 820, 1531)},
		{example(), list(1530, 820, 1260)}, {example(), list(lowest, 820, 1530)}, {example(), list(huge, 820, 1530)}, {example(), list(1260, 820, lowest)}, {example(), list(1260, 820, huge)}, {example(), list(1260, huge, 1530)},
		{even(7), list(0)}, {even(7), list(0, 0, 0, 0, 0, 0)}, {even(7, cask(1, to(0, 0), to(0, 0))), nil}, {even(7, cask(1, to(0, 0), to(0, 0))), list(-1)}, {even(7, cask(1, to(0, 0), to(0, 60))), list(61)},
		{full(), list(0, 0, 0, 0, 0)}, {full(), list(0, 0, 0, 0, 0, 0, 0)}, {full(), list(0, 0, 0, 0, 0, 2001)}, {full(), list(0, 0, 0, 0, 0, -1)},
	} {
		n, e := proof.Tenths(x.s, x.truth)
		d, f := proof.Duty(x.s, x.truth)
		if len(n) != 0 || d != 0 || e != api.ErrRange || f != api.ErrRange {
			t.Errorf("Tenths and Duty of %v, %v: %v, %v; %d, %v", x.s, x.truth, n, e, d, f)
		}
	}
}

func TestP4_2EachTruth(t *testing.T) {
	random := rand.New(rand.NewSource(3))
	for _, s := range append(stores(), wideStores()...) {
		for _, truth := range someTruths(random, s) {
			n, e := proof.Tenths(s, truth)
			d, f := proof.Duty(s, truth)
			if !slices.Equal(n, allTenths(s, truth)) || d != duty(s, truth) || e != api.OK || f != api.OK {
				t.Fatalf("Tenths and Duty of %v, %v: %v, %v; %d, %v", s, truth, n, e, d, f)
			}
		}
		for i, r := range strengthRanges(s) {
			for _, wrong := range list(r.Lo-1, r.Hi+1) {
				truth := slices.Clone(someTruths(random, s)[0])
				truth[i] = wrong
				if d, e := proof.Duty(s, truth); d != 0 || e != api.ErrRange {
					t.Fatalf("Duty of %v, %v: %d, %v", s, truth, d, e)
				}
			}
		}
	}
}

func TestP4_2Duties(t *testing.T) {
	for _, x := range []struct {
		s    proof.Store
		want proof.Range
	}{
		{example(), to(14148, 14280)}, {even(7), to(0, 0)}, {even(7, cask(99, to(0, 1), to(50, 51))), to(35, 35)}, {even(7, cask(99, to(0, 1), to(0, 60))), to(0, 42)},
		{full(), to(0, 6*1980*20)}, {even(0, cask(99, to(0, 1), to(0, 60))), to(0, 0)}, {steep(2000, 1, cask(1, to(3, 3), to(0, 2))), to(0, 2)},
	} {
		if r, e := proof.Duties(x.s); r != x.want || e != api.OK {
			t.Errorf("Duties of %v: %v, %v", x.s, r, e)
		}
	}
	wide := 0
	for _, s := range stores() {
		want := bounds(truths(s), func(truth []int) int { return duty(s, truth) })
		if r, e := proof.Duties(s); r != want || e != api.OK {
			t.Fatalf("Duties of %v: %v, %v, not %v", s, r, e, want)
		}
		if want.Lo < want.Hi {
			wide++
		}
	}
	if wide < 60 {
		t.Errorf("only %d stores have more than one duty", wide)
	}
}

// pair has two casks of few strengths.
func pair() proof.Store {
	return even(7, cask(10, to(0, 0), to(20, 22)), cask(5, to(0, 0), to(40, 41)))
}

// six has six casks of one gallon, and of the strengths 10, 20, 30, 40, 50 and 60.
func six() proof.Store {
	s := even(7)
	for n := 10; n <= 60; n += 10 {
		s.Casks = append(s.Casks, cask(1, to(0, 0), to(n, n)))
	}
	return s
}

func TestP4_3Examples(t *testing.T) {
	for _, x := range []struct {
		s     proof.Store
		casks []int
		water int
		want  proof.Range
	}{
		{example(), list(0, 1), 0, to(1091, 1105)}, {example(), list(0, 1), 20, to(873, 884)}, {example(), list(1), 0, to(810, 847)}, {example(), list(0, 1, 2), 0, to(1179, 1190)}, {example(), list(0, 2), 0, to(1337, 1337)}, {example(), list(1, 2), 99, to(368, 375)},
		{pair(), list(0, 1), 0, to(26, 28)}, {pair(), list(0, 1), 1, to(25, 26)}, {pair(), list(0, 1), 5, to(20, 21)}, {pair(), list(1), 99, to(1, 1)}, {pair(), list(0), 99, to(1, 2)},
		{six(), list(0, 1, 2, 3, 4, 5), 0, to(35, 35)}, {six(), list(0, 1, 2, 3, 4, 5), 99, to(2, 2)}, {six(), list(0), 9, to(1, 1)}, {six(), list(0), 10, to(0, 0)}, {six(), list(5), 0, to(60, 60)}, {six(), list(3, 5), 1, to(33, 33)},
		{full(), list(0, 1, 2, 3, 4, 5), 0, to(0, 2000)}, {full(), list(0, 1, 2, 3, 4, 5), 99, to(0, 1714)}, {full(), list(2), 99, to(0, 1000)}, {full(), list(2), 98, to(0, 1005)},
	} {
		r, e := proof.Blend(x.s, x.casks, x.water)
		if r != x.want || e != api.OK {
			t.Errorf("Blend of %v, %v, %d: %v, %v", x.s, x.casks, x.water, r, e)
		}
		for _, y := range []struct {
			r    proof.Range
			want bool
		}{
			{x.want, true}, {to(x.want.Lo-1, x.want.Hi), true}, {to(x.want.Lo, x.want.Hi+1), true}, {to(lowest, huge), true}, {to(x.want.Lo+1, x.want.Hi), false}, {to(x.want.Lo, x.want.Hi-1), false}, {to(x.want.Lo+1, x.want.Hi-1), false},
			{to(x.want.Hi, x.want.Lo-1), false}, {to(x.want.Hi+1, huge), false}, {to(lowest, x.want.Lo-1), false}, {to(huge, lowest), false}, {to(x.want.Hi+1, x.want.Lo-1), false}, {to(x.want.Lo+1, huge), false}, {to(lowest, x.want.Hi-1), false},
		} {
			if proof.ProveBlend(x.s, x.casks, x.water, y.r) != y.want {
				t.Errorf("ProveBlend of %v, %v, %d, %v", x.s, x.casks, x.water, y.r)
			}
		}
	}
}

// wrongLists are no lists of casks of a blend of three casks.
func wrongLists() [][]int {
	return [][]int{
		nil, list(), list(3), list(-1), list(0, 3), list(-1, 0), list(-1, 1, 2), list(0, 1, 3), list(0, 1, 2, 3), list(1, 0), list(0, 2, 1), list(0, 0), list(1, 1), list(0, 1, 1), list(0, 0, 1), list(2, 1, 0),
		list(huge), list(lowest), list(0, huge), list(lowest, 0), list(0, 1, 2, 0), list(0, 1, 2, 2, 2, 2, 2), make([]int, 99),
	}
}

func TestP4_3NoBlend(t *testing.T) {
	all := to(lowest, huge)
	noBlend := func(s proof.Store, casks []int, water int) {
		if r, e := proof.Blend(s, casks, water); r != to(0, 0) || e != api.ErrRange || proof.ProveBlend(s, casks, water, all) {
			t.Errorf("Blend of %v, %v, %d: %v, %v", s, casks, water, r, e)
		}
	}
	for _, casks := range wrongLists() {
		for _, water := range list(0, 1, 99, -1, 100) {
			noBlend(example(), casks, water)
		}
	}
	for _, water := range list(-1, 100, 101, lowest, huge, -30, -50) {
		noBlend(example(), list(0), water)
		noBlend(example(), list(0, 1, 2), water)
	}
	noBlend(even(7), nil, 0)
	noBlend(even(7), list(0), 0)
	noBlend(full(), list(0, 1, 2, 3, 4, 5, 6), 0)
	noBlend(full(), list(0, 1, 2, 3, 4, 5, 5), 0)
}

func TestP4_3EachTruth(t *testing.T) {
	wide := 0
	for _, s := range stores() {
		l := truths(s)
		for _, casks := range blends(s) {
			for _, water := range list(0, 1, 17, 99) {
				want := blend(s, l, casks, water)
				r, e := proof.Blend(s, casks, water)
				if r != want || e != api.OK || !proof.ProveBlend(s, casks, water, want) || proof.ProveBlend(s, casks, water, to(want.Lo+1, want.Hi)) || proof.ProveBlend(s, casks, water, to(want.Lo, want.Hi-1)) {
					t.Fatalf("Blend of %v, %v, %d: %v, %v, not %v", s, casks, water, r, e, want)
				}
				if r.Lo < r.Hi {
					wide++
				}
			}
		}
	}
	if wide < 500 {
		t.Errorf("only %d blends can have several strengths", wide)
	}
}

func TestP4_4Examples(t *testing.T) {
	for _, x := range []struct {
		s        proof.Store
		casks    []int
		strength int
		want     int
		e        api.Errno
	}{
		{example(), list(0), 1000, 13, api.OK}, {example(), list(0, 1), 1000, 9, api.OK}, {example(), list(1), 1000, 0, api.OK}, {example(), list(1), 847, 0, api.OK}, {example(), list(1), 846, 1, api.OK}, {example(), list(0), 1260, 0, api.OK}, {example(), list(0), 1259, 1, api.OK},
		{example(), list(2), 257, 99, api.OK}, {example(), list(2), 256, 0, api.ErrSink}, {example(), list(2), 1, 0, api.ErrSink}, {example(), list(0, 1, 2), 2000, 0, api.OK}, {example(), list(0, 1, 2), 1, 0, api.ErrSink},
		{pair(), list(0, 1), 28, 0, api.OK}, {pair(), list(0, 1), 27, 1, api.OK}, {pair(), list(0, 1), 3, 92, api.OK}, {pair(), list(0, 1), 2, 0, api.ErrSink},
		{six(), list(0), 1, 5, api.OK}, {six(), list(4), 1, 25, api.OK}, {six(), list(0), 9, 1, api.OK}, {six(), list(0, 1, 2, 3, 4, 5), 1, 0, api.ErrSink}, {six(), list(0, 1, 2, 3, 4, 5), 2, 65, api.OK}, {six(), list(0, 1, 2, 3, 4), 1, 71, api.OK},
		{full(), list(0), 2000, 0, api.OK}, {full(), list(0), 1999, 1, api.OK}, {full(), list(0), 1000, 99, api.OK}, {full(), list(0), 999, 0, api.ErrSink}, {full(), list(0, 1, 2, 3, 4, 5), 1714, 99, api.OK}, {full(), list(0, 1, 2, 3, 4, 5), 1713, 0, api.ErrSink},
		{steep(0, 1, cask(99, to(3, 4), to(0, 2))), list(0), 1, 0, api.OK},
	} {
		if n, e := proof.Water(x.s, x.casks, x.strength); n != x.want || e != x.e {
			t.Errorf("Water of %v, %v, %d: %d, %v", x.s, x.casks, x.strength, n, e)
		}
	}
}

func TestP4_4Range(t *testing.T) {
	noWater := func(s proof.Store, casks []int, strength int) {
		if n, e := proof.Water(s, casks, strength); n != 0 || e != api.ErrRange {
			t.Errorf("Water of %v, %v, %d: %d, %v", s, casks, strength, n, e)
		}
	}
	for _, casks := range wrongLists() {
		for _, strength := range list(1, 500, 2000, 0, 2001) {
			noWater(example(), casks, strength)
		}
	}
	for _, strength := range list(0, -1, 2001, 2002, lowest, huge) {
		for _, casks := range blends(example()) {
			noWater(example(), casks, strength)
		}
		noWater(steep(0, 1, cask(1, to(3, 3), to(0, 0))), list(0), strength)
	}
	noWater(even(7), nil, 1)
	noWater(full(), list(0, 1, 2, 3, 4, 5, 6), 1)
}

// strongest is a truth with which the sum of the gallons of each cask of a blend, times its strength, is the greatest: with any water no truth has a stronger blend.
func strongest(s proof.Store, l [][]int, casks []int) []int {
	sum := func(truth []int) (n int) {
		for _, i := range casks {
			n += s.Casks[i].Gallons * truth[i]
		}
		return n
	}
	return slices.MaxFunc(l, func(a, b []int) int { return sum(a) - sum(b) })
}

func TestP4_4EachTruth(t *testing.T) {
	random := rand.New(rand.NewSource(4))
	some, many := 0, 0
	for _, s := range stores() {
		l := truths(s)
		for _, casks := range blends(s) {
			truth := strongest(s, l, casks)
			for range 4 {
				n := between(random, 1, min(2000, strength(s, casks, 0, truth)+5))
				want, f := 0, api.OK
				for want <= 99 && strength(s, casks, want, truth) > n {
					want++
				}
				if want > 99 {
					want, f = 0, api.ErrSink
					many++
				} else if want > 0 {
					some++
				}
				if w, e := proof.Water(s, casks, n); w != want || e != f {
					t.Fatalf("Water of %v, %v, %d: %d, %v, not %d, %v", s, casks, n, w, e, want, f)
				}
			}
		}
	}
	if some < 500 || many < 500 {
		t.Errorf("only %d blends need water, and %d too much", some, many)
	}
}

func TestP4_5Examples(t *testing.T) {
	same := even(7, cask(9, to(0, 0), to(20, 20)), cask(9, to(0, 0), to(20, 20)), cask(9, to(0, 0), to(40, 40)), cask(9, to(0, 0), to(40, 40)))
	for _, x := range []struct {
		s    proof.Store
		r    proof.Range
		want []int
		e    api.Errno
	}{
		{example(), to(1000, 1200), list(0, 1), api.OK}, {example(), to(1300, 1400), list(0, 2), api.OK}, {example(), to(0, 2000), list(0), api.OK}, {example(), to(800, 850), list(1), api.OK}, {example(), to(810, 847), list(1), api.OK}, {example(), to(1085, 1121), list(0, 1), api.OK},
		{example(), to(1092, 1120), list(1, 2), api.OK}, {example(), to(1178, 1190), list(0, 1, 2), api.OK}, {example(), to(1179, 1190), list(0, 1, 2), api.OK}, {example(), to(1530, 1530), list(2), api.OK}, {example(), to(lowest, huge), list(0), api.OK}, {example(), to(1261, huge), list(2), api.OK}, {example(), to(lowest, 1000), list(1), api.OK},
		{example(), to(811, 847), nil, api.ErrNone}, {example(), to(810, 846), nil, api.ErrNone}, {example(), to(1180, 1190), nil, api.ErrNone}, {example(), to(1179, 1189), nil, api.ErrNone}, {example(), to(1531, 2000), nil, api.ErrNone}, {example(), to(0, 500), nil, api.ErrNone}, {example(), to(huge, huge), nil, api.ErrNone}, {example(), to(lowest, -1), nil, api.ErrNone}, {example(), to(lowest, lowest), nil, api.ErrNone},
		{same, to(20, 20), list(0), api.OK}, {same, to(40, 40), list(2), api.OK}, {same, to(30, 30), list(0, 2), api.OK}, {same, to(21, 29), list(0, 1, 2), api.OK}, {same, to(31, 39), list(0, 2, 3), api.OK}, {same, to(41, 41), nil, api.ErrNone},
		{six(), to(35, 35), list(0, 5), api.OK}, {six(), to(36, 36), list(0, 3, 5), api.OK}, {six(), to(37, 37), list(0, 2, 4, 5), api.OK}, {six(), to(55, 55), list(4, 5), api.OK}, {six(), to(33, 33), list(0, 2, 5), api.OK}, {six(), to(32, 32), list(0, 1, 3, 5), api.OK}, {six(), to(34, 34), list(0, 1, 2, 4, 5), api.OK}, {six(), to(60, 60), list(5), api.OK}, {six(), to(51, 54), nil, api.ErrNone}, {six(), to(31, 31), nil, api.ErrNone},
		{even(7), to(0, 99), nil, api.ErrNone}, {even(7), to(lowest, huge), nil, api.ErrNone}, {even(7, cask(99, to(0, 1), to(0, 60))), to(0, 60), list(0), api.OK},
		{example(), to(1200, 1199), nil, api.ErrRange}, {example(), to(huge, lowest), nil, api.ErrRange}, {example(), to(1, 0), nil, api.ErrRange}, {even(7), to(1, 0), nil, api.ErrRange}, {example(), to(0, -1), nil, api.ErrRange},
	} {
		if l, e := proof.Fewest(x.s, x.r); !slices.Equal(l, x.want) || e != x.e {
			t.Errorf("Fewest of %v, %v: %v, %v", x.s, x.r, l, e)
		}
	}
}

// fewest are the fewest casks for the range; it tries all lists, by the bounds of the blends.
func fewest(r proof.Range, lists [][]int, blends []proof.Range) []int {
	for i, casks := range lists {
		if within(blends[i], r) {
			return casks
		}
	}
	return nil
}

func TestP4_5EachRange(t *testing.T) {
	random := rand.New(rand.NewSource(5))
	sizes := map[int]int{}
	for _, s := range stores() {
		l, lists := truths(s), blends(s)
		var of []proof.Range
		for _, casks := range lists {
			of = append(of, blend(s, l, casks, 0))
		}
		for _, r := range of {
			for _, q := range []proof.Range{r, to(r.Lo, r.Hi+random.Intn(30)), to(r.Lo-random.Intn(30), r.Hi), to(r.Lo+1, r.Hi+random.Intn(200)), to(r.Lo-random.Intn(200), r.Hi-1), to(r.Lo-random.Intn(9), huge), to(lowest, r.Hi)} {
				if q.Lo > q.Hi {
					continue
				}
				want := fewest(q, lists, of)
				f := api.OK
				if want == nil {
					f = api.ErrNone
				}
				sizes[len(want)]++
				if casks, e := proof.Fewest(s, q); !slices.Equal(casks, want) || e != f {
					t.Fatalf("Fewest of %v, %v: %v, %v, not %v", s, q, casks, e, want)
				}
			}
		}
	}
	for size := range 7 {
		if sizes[size] < 4 {
			t.Errorf("only %d ranges need %d casks", sizes[size], size)
		}
	}
}

func TestP4_6Examples(t *testing.T) {
	none := steep(777, 1, cask(99, to(3, 4), to(0, 1)))
	for _, x := range []struct {
		s    proof.Store
		l    []proof.Declaration
		want []int
		e    api.Errno
	}{
		{example(), says(1, 254, 1, 255, 0, 630, 1, 242), list(1, 3), api.OK}, {example(), nil, nil, api.OK}, {example(), says(), nil, api.OK}, {even(7), nil, nil, api.OK},
		{example(), says(1, 243, 1, 250, 2, 305, 2, 306, 2, 307), list(2, 4), api.OK}, {example(), says(0, 631, 0, 629, 0, 630), list(0, 1), api.OK}, {example(), says(1, 255, 1, 255, 1, 254, 1, 255), list(0, 1, 3), api.OK},
		{even(7, cask(33, to(0, 0), to(3, 4))), says(0, 0, 0, 1, 0, 2, 0, -1), list(2, 3), api.OK}, {even(7, cask(1, to(0, 0), to(0, 60))), says(0, 0, 0, 1, 0, -1), list(1, 2), api.OK}, {example(), says(0, 0, 1, 0, 2, 0), list(0, 1, 2), api.OK},
		{example(), says(0, huge, 1, lowest, 2, huge, 2, 306, 0, lowest), list(0, 1, 2, 4), api.OK}, {none, says(0, 0, 0, 1, 0, 400, 0, 768, 0, 769, 0, 770), list(5), api.OK}, {full(), says(5, 1980, 5, 1981, 5, 0, 5, -1, 0, 1234), list(1, 3), api.OK},
		{example(), says(3, 0), nil, api.ErrRange}, {example(), says(0, 1, -1, 0), nil, api.ErrRange}, {example(), says(-1, 0), nil, api.ErrRange}, {example(), says(0, 630, 3, 630), nil, api.ErrRange}, {example(), says(0, 1, 1, 250, 6, 0), nil, api.ErrRange}, {example(), says(huge, 0), nil, api.ErrRange}, {example(), says(0, 630, lowest, 0, 0, 630), nil, api.ErrRange},
		{even(7), says(0, 0), nil, api.ErrRange}, {full(), says(6, 0), nil, api.ErrRange},
	} {
		if l, e := proof.False(x.s, x.l); !slices.Equal(l, x.want) || e != x.e {
			t.Errorf("False of %v, %v: %v, %v", x.s, x.l, l, e)
		}
	}
}

// TestP4_6EachTruth declares more than all that casks can have, in any order.
func TestP4_6EachTruth(t *testing.T) {
	random := rand.New(rand.NewSource(6))
	for _, s := range append(stores(), wideStores()...) {
		can := map[proof.Declaration]bool{}
		var l []proof.Declaration
		for i, r := range strengthRanges(s) {
			for n := r.Lo; n <= r.Hi; n++ {
				can[proof.Declaration{Cask: i, Tenths: tenths(s.Casks[i].Gallons, n)}] = true
			}
			for n := tenths(s.Casks[i].Gallons, r.Lo) - 3; n <= tenths(s.Casks[i].Gallons, r.Hi)+3; n++ {
				l = append(l, says(i, n)...)
			}
		}
		random.Shuffle(len(l), func(i, j int) { l[i], l[j] = l[j], l[i] })
		var want []int
		for i, d := range l {
			if !can[d] {
				want = append(want, i)
			}
		}
		if wrong, e := proof.False(s, l); !slices.Equal(wrong, want) || e != api.OK {
			t.Fatalf("False of %v, %v: %v, %v, not %v", s, l, wrong, e, want)
		}
	}
}

// overwrite changes all elements, and those that could be after them.
func overwrite[T any](x T, l []T) {
	for i := range l {
		l[i] = x
	}
	_ = append(l, x)
}

// TestOwnMemory checks that arguments are not written to, and that results share no memory with them, nor with later results.
func TestOwnMemory(t *testing.T) {
	s, truth, casks, said := example(), list(1260, 820, 1530), list(0, 1), says(1, 255, 0, 630)
	falls, no := list(1, 0), list(1530, 1260, 820)
	results := func() []any {
		r, e := proof.Strengths(s)
		n, f := proof.Tenths(s, truth)
		d, g := proof.Duty(s, truth)
		b, h := proof.Duties(s)
		q, i := proof.Blend(s, casks, 9)
		w, j := proof.Water(s, casks, 1000)
		l, k := proof.Fewest(s, to(1000, 1200))
		out, m := proof.False(s, said)
		all := []any{slices.Clone(r), e, slices.Clone(n), f, d, g, b, h, q, i, w, j, slices.Clone(l), k, slices.Clone(out), m, proof.ProveBlend(s, casks, 9, to(0, 2000))}
		overwrite(to(-99, -99), r)
		for _, numbers := range [][]int{n, l, out} {
			overwrite(-99, numbers)
		}
		return all
	}
	want := results()
	proof.Water(full(), list(0), 1)
	proof.Fewest(six(), to(36, 36))
	proof.Blend(s, falls, 9)
	proof.Water(s, falls, 1000)
	proof.ProveBlend(s, falls, 9, to(0, 2000))
	proof.Tenths(s, no)
	proof.Duty(s, no)
	if again := results(); !reflect.DeepEqual(again, want) {
		t.Errorf("results again: %v, not %v", again, want)
	}
	if !reflect.DeepEqual(s, example()) || !slices.Equal(truth, list(1260, 820, 1530)) || !slices.Equal(casks, list(0, 1)) || !slices.Equal(said, says(1, 255, 0, 630)) || !slices.Equal(falls, list(1, 0)) || !slices.Equal(no, list(1530, 1260, 820)) {
		t.Errorf("arguments were written to: %v, %v, %v, %v, %v, %v", s, truth, casks, said, falls, no)
	}
}

// TestAnyArguments checks that no call panics, and that each result beside an error is zero, whatever the arguments are.
func TestAnyArguments(t *testing.T) {
	values := list(lowest, lowest+1, -2, -1, 0, 1, 2, 5, 10, 14, 20, 40, 60, 99, 100, 120, 200, 201, 810, 1260, 1530, 2000, 2001, huge-1, huge)
	random := rand.New(rand.NewSource(7))
	some := func() int { return values[random.Intn(len(values))] }
	several := func() (l []int) {
		for range random.Intn(5) {
			l = append(l, some())
		}
		return l
	}
	for i := range 20000 {
		s := example()
		if i%3 > 0 {
			s.Rate = some()
			s.Casks[random.Intn(3)] = cask(some(), to(some(), some()), to(some(), some()))
		}
		if i%3 > 1 {
			s.Table = table.Table{Warmths: several(), Marks: several(), Values: [][]int{several(), several()}}
		}
		none := proof.CheckStore(s) != api.OK
		truth, casks, r := several(), several(), to(some(), some())
		strengths, e := proof.Strengths(s)
		n, f := proof.Tenths(s, truth)
		d, g := proof.Duty(s, truth)
		b, h := proof.Duties(s)
		q, k := proof.Blend(s, casks, some())
		w, m := proof.Water(s, casks, some())
		l, o := proof.Fewest(s, r)
		out, p := proof.False(s, says(some(), some(), random.Intn(3), some()))
		for _, x := range []struct {
			e    api.Errno
			zero bool
		}{{e, len(strengths) == 0}, {f, len(n) == 0}, {g, d == 0}, {h, b == to(0, 0)}, {k, q == to(0, 0)}, {m, w == 0}, {o, len(l) == 0}, {p, len(out) == 0}} {
			if x.e != api.OK && !x.zero || none && x.e == api.OK {
				t.Fatalf("a result beside an error, of %v, %v, %v, %v", s, truth, casks, r)
			}
		}
		if proof.ProveBlend(s, casks, some(), r) && none {
			t.Fatalf("a proof about %v, %v, %v", s, casks, r)
		}
	}
}
