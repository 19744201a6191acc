package spindle_test

import (
	"math"
	"math/rand"
	"reflect"
	"slices"
	"testing"

	"saccharum/api"
	"saccharum/spindle"
)

func readings(l ...int) (out []spindle.Reading) {
	for i := 0; i < len(l); i += 2 {
		out = append(out, spindle.Reading{Load: l[i], Seen: l[i+1]})
	}
	return out
}

// changed is the spindle of the examples after a change.
func changed(change func(s *spindle.Spindle)) spindle.Spindle {
	s := brass()
	change(&s)
	return s
}

func TestP1_1CheckSpindle(t *testing.T) {
	const huge = math.MaxInt
	for _, x := range []struct {
		name   string
		change func(s *spindle.Spindle)
		want   api.Errno
	}{
		{"the example", func(s *spindle.Spindle) {}, api.OK},
		{"no weights", func(s *spindle.Spindle) { s.Weights = row() }, api.OK},
		{"nil weights", func(s *spindle.Spindle) { s.Weights = nil }, api.OK},
		{"all weights", func(s *spindle.Spindle) { s.Weights = row(1, 1000, 2, 2, 3, 500) }, api.OK},
		{"too many weights", func(s *spindle.Spindle) { s.Weights = row(1, 1, 1, 1, 1, 1, 1) }, api.ErrLimit},
		{"too many weights, and bad ones", func(s *spindle.Spindle) { s.Weights, s.Mass = make([]int, 7), 0 }, api.ErrLimit},
		{"first weight 0", func(s *spindle.Spindle) { s.Weights[0] = 0 }, api.ErrArg},
		{"last weight too heavy", func(s *spindle.Spindle) { s.Weights[1] = 1001 }, api.ErrArg},
		{"weight below 0", func(s *spindle.Spindle) { s.Weights[1] = math.MinInt }, api.ErrArg},
		{"mass 0", func(s *spindle.Spindle) { s.Mass = 0 }, api.ErrArg},
		{"mass 1", func(s *spindle.Spindle) { s.Mass = 1 }, api.OK},
		{"mass 5000", func(s *spindle.Spindle) { s.Mass = 5000 }, api.OK},
		{"mass 5001", func(s *spindle.Spindle) { s.Mass = 5001 }, api.ErrArg},
		{"volume 0", func(s *spindle.Spindle) { s.Volume = 0 }, api.ErrArg},
		{"volume 1", func(s *spindle.Spindle) { s.Volume = 1 }, api.OK},
		{"volume 5000", func(s *spindle.Spindle) { s.Volume = 5000 }, api.OK},
		{"volume 5001", func(s *spindle.Spindle) { s.Volume = 5001 }, api.ErrArg},
		{"step 0", func(s *spindle.Spindle) { s.Step, s.Width = 0, 0 }, api.ErrArg},
		{"step 1", func(s *spindle.Spindle) { s.Step, s.Width = 1, 1 }, api.OK},
		{"step 100", func(s *spindle.Spindle) { s.Step, s.Width = 100, 50 }, api.OK},
		{"step 101", func(s *spindle.Spindle) { s.Step, s.Width = 101, 101 }, api.ErrArg},
		{"step and width huge", func(s *spindle.Spindle) { s.Step, s.Width = huge, huge }, api.ErrArg},
		{"divisions 0", func(s *spindle.Spindle) { s.Divisions = 0 }, api.ErrArg},
		{"divisions 1", func(s *spindle.Spindle) { s.Divisions = 1 }, api.OK},
		{"divisions 20", func(s *spindle.Spindle) { s.Divisions = 20 }, api.OK},
		{"divisions 21", func(s *spindle.Spindle) { s.Divisions = 21 }, api.ErrArg},
		{"width 0", func(s *spindle.Spindle) { s.Width = 0 }, api.ErrArg},
		{"width below half a step", func(s *spindle.Spindle) { s.Width = 9 }, api.ErrArg},
		{"width below half an odd step", func(s *spindle.Spindle) { s.Step, s.Width = 21, 10 }, api.ErrArg},
		{"width above half an odd step", func(s *spindle.Spindle) { s.Step, s.Width = 21, 11 }, api.OK},
		{"width of a step", func(s *spindle.Spindle) { s.Width = 20 }, api.OK},
		{"width above a step", func(s *spindle.Spindle) { s.Width = 21 }, api.ErrArg},
	} {
		if e := spindle.CheckSpindle(changed(x.change)); e != x.want {
			t.Errorf("%s: %v", x.name, e)
		}
	}
	for _, s := range spindles() {
		if e := spindle.CheckSpindle(s); e != api.OK {
			t.Errorf("CheckSpindle of %v: %v", s, e)
		}
	}
}

func TestP1_1Floats(t *testing.T) {
	for _, x := range []struct{ load, density, want int }{
		{0, 899, spindle.Sinks}, {0, 900, 0}, {0, 1000, 0}, {0, 1125, 0}, {0, 1126, spindle.Rises},
		{1, 999, spindle.Sinks}, {1, 1000, 0}, {1, 1250, 0}, {1, 1251, spindle.Rises},
		{2, 1, spindle.Sinks}, {2, 1099, spindle.Sinks}, {2, 1100, 0}, {2, 1375, 0}, {2, 1376, spindle.Rises}, {2, 2000, spindle.Rises},
	} {
		if n, e := spindle.Floats(brass(), x.load, x.density); n != x.want || e != api.OK {
			t.Errorf("Floats, load %d, density %d: %d, %v", x.load, x.density, n, e)
		}
	}
	for _, s := range spindles() {
		for load := range len(s.Weights) + 1 {
			for density := 1; density <= api.MaxSpindleDensity; density++ {
				if n, e := spindle.Floats(s, load, density); n != rests(s, load, density) || e != api.OK {
					t.Fatalf("Floats of %v, load %d, density %d: %d, %v", s, load, density, n, e)
				}
			}
		}
	}
}

// TestP1_1Places has the invalid loads and densities, for P1.1 and P1.2.
func TestP1_1Places(t *testing.T) {
	for _, x := range []struct {
		s             spindle.Spindle
		load, density int
		want          api.Errno
	}{
		{brass(), -1, 1000, api.ErrRange}, {brass(), 3, 1000, api.ErrRange}, {brass(), 0, 0, api.ErrRange}, {brass(), 0, 2001, api.ErrRange},
		{brass(), math.MaxInt, 1000, api.ErrRange}, {brass(), math.MinInt, math.MinInt, api.ErrRange}, {brass(), 0, math.MaxInt, api.ErrRange},
		{spindle.Spindle{}, -1, 0, api.ErrArg}, {spindle.Spindle{Weights: make([]int, 7)}, -1, 0, api.ErrLimit},
	} {
		n, e := spindle.Floats(x.s, x.load, x.density)
		r, f := spindle.See(x.s, x.load, x.density)
		if n != 0 || e != x.want || r != to(0, 0) || f != x.want {
			t.Errorf("Floats, See of %v, load %d, density %d: %d, %v; %v, %v", x.s, x.load, x.density, n, e, r, f)
		}
	}
}

func TestP1_2See(t *testing.T) {
	for _, x := range []struct {
		load, density int
		want          spindle.Range
		e             api.Errno
	}{
		{0, 1000, to(5, 5), api.OK}, {0, 1050, to(3, 3), api.OK}, {0, 1125, to(0, 0), api.OK}, {0, 900, to(10, 10), api.OK},
		{0, 899, to(0, 0), api.ErrSink}, {0, 1126, to(0, 0), api.ErrSink}, {2, 1000, to(0, 0), api.ErrSink},
	} {
		if r, e := spindle.See(brass(), x.load, x.density); r != x.want || e != x.e {
			t.Errorf("See, load %d, density %d: %v, %v", x.load, x.density, r, e)
		}
	}
	for _, s := range spindles() {
		for load := range len(s.Weights) + 1 {
			for density := 1; density <= api.MaxSpindleDensity; density++ {
				want := api.OK
				if rests(s, load, density) != 0 {
					want = api.ErrSink
				}
				if r, e := spindle.See(s, load, density); r != span(reads(s, load, density)) || e != want {
					t.Fatalf("See of %v, load %d, density %d: %v, %v", s, load, density, r, e)
				}
			}
		}
	}
}

func TestP1_3Mean(t *testing.T) {
	for _, x := range []struct {
		load, seen int
		want       spindle.Range
		e          api.Errno
	}{
		{0, 5, to(990, 1011), api.OK}, {0, 4, to(1012, 1034), api.OK}, {0, 10, to(900, 909), api.OK}, {0, 0, to(1112, 1125), api.OK},
		{0, spindle.Sinks, to(1, 899), api.OK}, {0, spindle.Rises, to(1126, 2000), api.OK}, {1, 10, to(1000, 1010), api.OK},
		{0, 11, to(0, 0), api.ErrRange}, {0, -3, to(0, 0), api.ErrRange}, {3, 5, to(0, 0), api.ErrRange}, {-1, 5, to(0, 0), api.ErrRange},
		{math.MinInt, 5, to(0, 0), api.ErrRange}, {0, math.MaxInt, to(0, 0), api.ErrRange},
	} {
		if r, e := spindle.Mean(brass(), x.load, x.seen); r != x.want || e != x.e {
			t.Errorf("Mean, load %d, seen %d: %v, %v", x.load, x.seen, r, e)
		}
	}
	if r, e := spindle.Mean(spindle.Spindle{}, -1, -9); r != to(0, 0) || e != api.ErrArg {
		t.Errorf("Mean of no spindle: %v, %v", r, e)
	}
	none := 0
	for _, s := range spindles() {
		for load := range len(s.Weights) + 1 {
			for _, seen := range sights(s) {
				l := fitting(s, []spindle.Reading{{Load: load, Seen: seen}}, nil)
				want := api.OK
				if len(l) == 0 {
					want = api.ErrNone
					none++
				}
				r, e := spindle.Mean(s, load, seen)
				if r != span(l) || e != want || e == api.OK && len(l) != r.Hi-r.Lo+1 {
					t.Fatalf("Mean of %v, load %d, seen %d: %v, %v", s, load, seen, r, e)
				}
			}
		}
	}
	if none == 0 {
		t.Error("there is no spindle with a division that fits no density")
	}
}

func TestP1_4Narrow(t *testing.T) {
	for _, x := range []struct {
		l     []spindle.Reading
		want  spindle.Range
		e     api.Errno
		leave []int
	}{
		{nil, to(1, 2000), api.OK, nil},
		{[]spindle.Reading{}, to(1, 2000), api.OK, nil},
		{readings(0, 5, 1, 10), to(1000, 1010), api.OK, nil},
		{readings(0, 5, 0, 5, 0, 5, 0, 5, 0, 5, 0, 5), to(990, 1011), api.OK, nil},
		{readings(0, 5, 1, 10, 0, 3), to(0, 0), api.ErrFalse, row(2)},
		{readings(0, 5, 0, 4), to(0, 0), api.ErrFalse, row(0)},
		{readings(0, spindle.Sinks, 1, spindle.Rises, 2, 0), to(0, 0), api.ErrFalse, row(0)},
		{readings(0, 5, 0, 4, 0, 4, 0, 5, 0, 3, 0, 0), to(0, 0), api.ErrFalse, row(0, 3, 4, 5)},
	} {
		r, e := spindle.Narrow(brass(), x.l)
		l, f := spindle.Leave(brass(), x.l)
		if r != x.want || e != x.e || !slices.Equal(l, x.leave) || f != api.OK {
			t.Errorf("Narrow, Leave of %v: %v, %v; %v, %v", x.l, r, e, l, f)
		}
	}
	random := rand.New(rand.NewSource(3))
	for _, s := range spindles() {
		for _, l := range readingLists(s, random) {
			fit := fitting(s, l, nil)
			want := api.OK
			if len(fit) == 0 {
				want = api.ErrFalse
			}
			if r, e := spindle.Narrow(s, l); r != span(fit) || e != want {
				t.Fatalf("Narrow of %v, %v: %v, %v", s, l, r, e)
			}
		}
	}
}

// TestP1_4Readings has the invalid readings of Narrow and Leave.
func TestP1_4Readings(t *testing.T) {
	for _, x := range []struct {
		s    spindle.Spindle
		l    []spindle.Reading
		want api.Errno
	}{
		{brass(), make([]spindle.Reading, 7), api.ErrLimit},
		{brass(), readings(9, 9, 9, 9, 9, 9, 9, 9, 9, 9, 9, 9, 9, 9), api.ErrLimit},
		{brass(), readings(0, 5, 3, 5), api.ErrRange},
		{brass(), readings(-1, 5), api.ErrRange},
		{brass(), readings(0, 5, 0, 4, 0, 11), api.ErrRange},
		{brass(), readings(0, -3), api.ErrRange},
		{brass(), readings(0, math.MinInt, math.MaxInt, 0), api.ErrRange},
		{spindle.Spindle{}, make([]spindle.Reading, 7), api.ErrArg},
		{spindle.Spindle{Weights: make([]int, 7)}, readings(9, 9), api.ErrLimit},
	} {
		r, e := spindle.Narrow(x.s, x.l)
		l, f := spindle.Leave(x.s, x.l)
		if r != to(0, 0) || e != x.want || len(l) != 0 || f != x.want {
			t.Errorf("Narrow, Leave of %v, %v: %v, %v; %v, %v", x.s, x.l, r, e, l, f)
		}
	}
}

func TestP1_5Verdicts(t *testing.T) {
	const always, never, open = spindle.Always, spindle.Never, spindle.Open
	for _, x := range []struct {
		r    spindle.Range
		want []int
	}{
		{to(1000, 1100), row(always, always, open)}, {to(990, 1011), row(always, open, never)}, {to(900, 1125), row(always, open, open)},
		{to(899, 1125), row(open, open, open)}, {to(900, 1126), row(open, open, open)}, {to(1, 899), row(never, never, never)},
		{to(1376, 2000), row(never, never, never)}, {to(1100, 1100), row(always, always, always)}, {to(1, 2000), row(open, open, open)},
	} {
		if l, e := spindle.Verdicts(brass(), x.r); !slices.Equal(l, x.want) || e != api.OK {
			t.Errorf("Verdicts of %v: %v, %v", x.r, l, e)
		}
	}
	for _, s := range spindles() {
		for _, r := range ranges() {
			var want []int
			for load := range len(s.Weights) + 1 {
				want = append(want, verdict(s, load, r))
			}
			if l, e := spindle.Verdicts(s, r); !slices.Equal(l, want) || e != api.OK {
				t.Fatalf("Verdicts of %v, %v: %v, %v", s, r, l, e)
			}
		}
	}
}

// verdict is what the chapter says of a load.
func verdict(s spindle.Spindle, load int, r spindle.Range) int {
	floats := 0
	for density := r.Lo; density <= r.Hi; density++ {
		if rests(s, load, density) == 0 {
			floats++
		}
	}
	switch floats {
	case r.Hi - r.Lo + 1:
		return spindle.Always
	case 0:
		return spindle.Never
	}
	return spindle.Open
}

// TestP1_5Ranges has the invalid ranges, for P1.5 to P1.7.
func TestP1_5Ranges(t *testing.T) {
	for _, x := range []struct {
		s    spindle.Spindle
		r    spindle.Range
		want api.Errno
	}{
		{brass(), to(0, 0), api.ErrRange}, {brass(), to(0, 1000), api.ErrRange}, {brass(), to(1000, 2001), api.ErrRange},
		{brass(), to(1001, 1000), api.ErrRange}, {brass(), to(math.MinInt, math.MaxInt), api.ErrRange}, {brass(), to(math.MaxInt, math.MinInt), api.ErrRange},
		{spindle.Spindle{}, to(0, 0), api.ErrArg}, {spindle.Spindle{Weights: make([]int, 7)}, to(0, 0), api.ErrLimit},
	} {
		v, e := spindle.Verdicts(x.s, x.r)
		c, f := spindle.Cover(x.s, x.r)
		b, n, g := spindle.Best(x.s, x.r)
		if len(v) != 0 || len(c) != 0 || b != 0 || n != 0 || e != x.want || f != x.want || g != x.want {
			t.Errorf("Verdicts, Cover, Best of %v, %v: %v, %v; %v, %v; %d, %d, %v", x.s, x.r, v, e, c, f, b, n, g)
		}
		if spindle.ProveCover(x.s, x.r, row(0), 1) || spindle.ProveCover(x.s, x.r, nil, 9) {
			t.Errorf("ProveCover of %v, %v", x.s, x.r)
		}
	}
}

func TestP1_6Cover(t *testing.T) {
	for _, x := range []struct {
		r    spindle.Range
		want []int
		e    api.Errno
	}{
		{to(950, 1300), row(0, 2), api.OK}, {to(850, 900), nil, api.ErrSink}, {to(900, 1125), row(0), api.OK}, {to(900, 1375), row(0, 2), api.OK},
		{to(900, 1376), nil, api.ErrSink}, {to(1126, 1250), row(1), api.OK}, {to(1000, 1126), row(1), api.OK}, {to(1, 2000), nil, api.ErrSink},
	} {
		if l, e := spindle.Cover(brass(), x.r); !slices.Equal(l, x.want) || e != x.e {
			t.Errorf("Cover of %v: %v, %v", x.r, l, e)
		}
	}
	for _, s := range spindles() {
		for _, r := range ranges() {
			var want []int
			f := api.ErrSink
			for _, l := range subsets(len(s.Weights) + 1) {
				if covers(s, r, l) {
					want, f = l, api.OK
					break
				}
			}
			if l, e := spindle.Cover(s, r); !slices.Equal(l, want) || e != f {
				t.Fatalf("Cover of %v, %v: %v, %v", s, r, l, e)
			}
		}
	}
}

func TestP1_6ProveCover(t *testing.T) {
	for _, x := range []struct {
		loads []int
		many  int
		want  bool
	}{
		{row(0, 2), 2, true}, {row(0, 2), math.MaxInt, true}, {row(0, 1, 2), 3, true}, {row(0, 2), 1, false}, {row(0, 1, 2), 2, false},
		{row(0, 1), 9, false}, {row(2, 0), 9, false}, {row(0, 0, 2), 9, false}, {row(0, 2, 2), 9, false}, {row(0, 2, 3), 9, false},
		{row(-1, 0, 2), 9, false}, {nil, 9, false}, {row(), 0, false}, {row(0, 2), math.MinInt, false}, {row(0, 2, math.MaxInt), 9, false},
	} {
		if spindle.ProveCover(brass(), to(950, 1300), x.loads, x.many) != x.want {
			t.Errorf("ProveCover of %v, %d", x.loads, x.many)
		}
	}
	for _, s := range spindles()[:12] {
		for _, r := range ranges() {
			for _, l := range subsets(len(s.Weights) + 1) {
				want := covers(s, r, l)
				if spindle.ProveCover(s, r, l, len(l)) != want || spindle.ProveCover(s, r, l, len(l)-1) {
					t.Fatalf("ProveCover of %v, %v, %v", s, r, l)
				}
			}
		}
	}
}

func TestP1_7Best(t *testing.T) {
	for _, x := range []struct {
		r          spindle.Range
		load, left int
	}{{to(990, 1011), 1, 11}, {to(1000, 1100), 1, 23}, {to(1, 1), 0, 1}, {to(1, 899), 0, 899}, {to(850, 900), 0, 50}, {to(1126, 1250), 2, 27}} {
		if b, n, e := spindle.Best(brass(), x.r); b != x.load || n != x.left || e != api.OK {
			t.Errorf("Best of %v: %d, %d, %v", x.r, b, n, e)
		}
	}
	for _, s := range spindles() {
		for _, r := range ranges() {
			load, left := 0, leaves(s, r, 0)
			for other := range s.Weights {
				if n := leaves(s, r, other+1); n < left {
					load, left = other+1, n
				}
			}
			if b, n, e := spindle.Best(s, r); b != load || n != left || e != api.OK {
				t.Fatalf("Best of %v, %v: %d, %d, %v", s, r, b, n, e)
			}
		}
	}
}

// TestOwnMemory checks that arguments are not written to, and that results share no memory with them, nor with later results.
func TestOwnMemory(t *testing.T) {
	s := brass()
	l := readings(0, 5, 1, 10, 0, 3)
	loads := row(0, 2)
	r := to(950, 1300)
	calls := []func() []int{
		func() []int { out, _ := spindle.Leave(s, l); return out },
		func() []int { out, _ := spindle.Verdicts(s, r); return out },
		func() []int { out, _ := spindle.Cover(s, r); return out },
	}
	for i, call := range calls {
		first := call()
		want := slices.Clone(first)
		for j := range first {
			first[j] = -99
		}
		if again := call(); !slices.Equal(again, want) {
			t.Errorf("call %d again: %v, not %v", i, again, want)
		}
	}
	spindle.Narrow(s, l)
	spindle.Best(s, r)
	spindle.ProveCover(s, r, loads, 2)
	if !reflect.DeepEqual(s, brass()) || !slices.Equal(l, readings(0, 5, 1, 10, 0, 3)) || !slices.Equal(loads, row(0, 2)) {
		t.Errorf("arguments were written to: %v, %v, %v", s, l, loads)
	}
}

// TestAnyArguments checks that no call panics, and that each result beside an error is zero, whatever the arguments are.
func TestAnyArguments(t *testing.T) {
	values := row(math.MinInt, math.MinInt+1, -3, -2, -1, 0, 1, 2, 7, 2000, 2001, math.MaxInt-1, math.MaxInt)
	random := rand.New(rand.NewSource(4))
	some := func() int { return values[random.Intn(len(values))] }
	for i := range 20000 {
		s := brass()
		if i%2 == 0 {
			s = spindle.Spindle{Mass: some(), Volume: some(), Step: some(), Divisions: some(), Width: some(), Weights: row(some(), some())}
		}
		r := to(some(), some())
		l := readings(some(), some(), some(), some())
		none := spindle.CheckSpindle(s) != api.OK
		n, e := spindle.Floats(s, some(), some())
		see, f := spindle.See(s, some(), some())
		mean, g := spindle.Mean(s, some(), some())
		narrow, h := spindle.Narrow(s, l)
		leave, j := spindle.Leave(s, l)
		verdicts, k := spindle.Verdicts(s, r)
		cover, m := spindle.Cover(s, r)
		b, left, o := spindle.Best(s, r)
		for _, x := range []struct {
			e    api.Errno
			zero bool
		}{{e, n == 0}, {f, see == to(0, 0)}, {g, mean == to(0, 0)}, {h, narrow == to(0, 0)}, {j, len(leave) == 0}, {k, len(verdicts) == 0}, {m, len(cover) == 0}, {o, b == 0 && left == 0}} {
			if x.e != api.OK && !x.zero || none && x.e == api.OK {
				t.Fatalf("a result beside an error, of %v, %v, %v", s, r, l)
			}
		}
		if spindle.ProveCover(s, r, row(some(), some()), some()) && (none || k != api.OK) {
			t.Fatalf("ProveCover of %v, %v", s, r)
		}
	}
}
