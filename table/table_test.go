package table_test

import (
	"math"
	"math/rand"
	"reflect"
	"slices"
	"testing"

	"saccharum/api"
	"saccharum/table"
)

// changed is the table of the examples after a change.
func changed(change func(t *table.Table)) table.Table {
	t := three(131)
	change(&t)
	return t
}

func TestP2_1CheckTable(t *testing.T) {
	const huge = math.MaxInt
	for _, x := range []struct {
		name   string
		change func(t *table.Table)
		want   api.Errno
	}{
		{"the example", func(t *table.Table) {}, api.OK},
		{"six warmths", func(t *table.Table) { t.Warmths = list(1, 2, 3, 4, 5, 6) }, api.ErrLimit},
		{"six marks", func(t *table.Table) { t.Marks = list(1, 2, 3, 4, 5, 6) }, api.ErrLimit},
		{"six rows", func(t *table.Table) { t.Values = make([][]int, 6) }, api.ErrLimit},
		{"six marks, and bad warmths", func(t *table.Table) { t.Warmths, t.Marks = nil, make([]int, 6) }, api.ErrLimit},
		{"six rows, and no lines", func(t *table.Table) { t.Warmths, t.Marks, t.Values = nil, nil, make([][]int, 6) }, api.ErrLimit},
		{"a row of six values", func(t *table.Table) { t.Values[1] = list(1, 2, 3, 4, 5, 6) }, api.ErrArg},
		{"nothing", func(t *table.Table) { *t = table.Table{} }, api.ErrArg},
		{"no warmths", func(t *table.Table) { t.Warmths = nil }, api.ErrArg},
		{"no marks", func(t *table.Table) { t.Marks = list() }, api.ErrArg},
		{"no values", func(t *table.Table) { t.Values = nil }, api.ErrArg},
		{"one warmth", func(t *table.Table) { t.Warmths, t.Values = t.Warmths[:1], t.Values[:1] }, api.ErrArg},
		{"one mark", func(t *table.Table) { t.Marks, t.Values = list(3), [][]int{{1}, {1}, {1}} }, api.ErrArg},
		{"two warmths", func(t *table.Table) { t.Warmths, t.Values = t.Warmths[:2], t.Values[:2] }, api.OK},
		{"two marks", func(t *table.Table) { t.Marks, t.Values = list(3, 4), [][]int{{1, 1}, {1, 1}, {1, 1}} }, api.OK},
		{"five of all", func(t *table.Table) {
			t.Warmths, t.Marks = list(0, 1, 2, 3, 40), list(0, 1, 2, 3, 60)
			t.Values = [][]int{make([]int, 5), make([]int, 5), make([]int, 5), make([]int, 5), make([]int, 5)}
		}, api.OK},
		{"a row too few", func(t *table.Table) { t.Values = t.Values[:2] }, api.ErrArg},
		{"a row too many", func(t *table.Table) { t.Values = append(t.Values, list(1, 2, 3)) }, api.ErrArg},
		{"a value too few in the first row", func(t *table.Table) { t.Values[0] = t.Values[0][:2] }, api.ErrArg},
		{"a value too many in the last row", func(t *table.Table) { t.Values[2] = append(t.Values[2], 9) }, api.ErrArg},
		{"a row of none", func(t *table.Table) { t.Values[1] = nil }, api.ErrArg},
		{"the same warmth twice", func(t *table.Table) { t.Warmths[1] = 10 }, api.ErrArg},
		{"the last warmth twice", func(t *table.Table) { t.Warmths[2] = 14 }, api.ErrArg},
		{"warmths that fall", func(t *table.Table) { t.Warmths = list(20, 14, 10) }, api.ErrArg},
		{"the same mark twice", func(t *table.Table) { t.Marks[1] = 20 }, api.ErrArg},
		{"marks that fall", func(t *table.Table) { t.Marks[0] = 11 }, api.ErrArg},
		{"warmth 0", func(t *table.Table) { t.Warmths[0] = 0 }, api.OK},
		{"warmth below 0", func(t *table.Table) { t.Warmths[0] = -1 }, api.ErrArg},
		{"warmth 40", func(t *table.Table) { t.Warmths[2] = 40 }, api.OK},
		{"warmth 41", func(t *table.Table) { t.Warmths[2] = 41 }, api.ErrArg},
		{"mark below 0", func(t *table.Table) { t.Marks[0] = -1 }, api.ErrArg},
		{"mark 60", func(t *table.Table) { t.Marks[2] = 60 }, api.OK},
		{"mark 61", func(t *table.Table) { t.Marks[2] = 61 }, api.ErrArg},
		{"value 0", func(t *table.Table) { t.Values[0][0] = 0 }, api.OK},
		{"value below 0", func(t *table.Table) { t.Values[0][0] = -1 }, api.ErrArg},
		{"value 2000", func(t *table.Table) { t.Values[2][2] = 2000 }, api.OK},
		{"value 2001", func(t *table.Table) { t.Values[2][2] = 2001 }, api.ErrArg},
		{"huge warmth", func(t *table.Table) { t.Warmths[2] = huge }, api.ErrArg},
		{"huge mark below 0", func(t *table.Table) { t.Marks[0] = math.MinInt }, api.ErrArg},
		{"huge value", func(t *table.Table) { t.Values[1][1] = huge }, api.ErrArg},
	} {
		v := changed(x.change)
		if e := table.CheckTable(v); e != x.want {
			t.Errorf("%s: %v", x.name, e)
		}
		if x.want != api.OK {
			hasNoResult(t, v, x.want)
		}
	}
	for _, v := range tables() {
		if e := table.CheckTable(v); e != api.OK {
			t.Errorf("CheckTable of %v: %v", v, e)
		}
	}
}

// hasNoResult checks that each call with a table that is not valid has its error, even if other arguments are invalid too.
func hasNoResult(t *testing.T, v table.Table, want api.Errno) {
	n, e := table.At(v, -9, 99)
	r, f := table.Bounds(v, to(1, 0), to(-9, 99))
	l, g := table.Meanings(v, to(-9, 99), to(1, 0))
	m, h := table.Misprints(v)
	c, i := table.Chains(v)
	rows, columns, j := table.Thin(v, -1)
	if n != 0 || r != to(0, 0) || len(l)+len(m)+len(c)+len(rows)+len(columns) != 0 {
		t.Errorf("results beside an error, of %v", v)
	}
	for _, e := range []api.Errno{e, f, g, h, i, j} {
		if e != want {
			t.Errorf("a call with %v: %v", v, e)
		}
	}
	if table.ProveMisprints(v, nil, 9) || table.ProveChains(v, nil, 9) {
		t.Errorf("a proof about %v", v)
	}
}

func TestP2_1At(t *testing.T) {
	for _, x := range []struct{ warmth, mark, want int }{
		{12, 5, 115}, {10, 10, 140}, {17, 20, 181}, {12, 10, 136}, {10, 0, 100}, {20, 20, 170}, {20, 0, 80}, {10, 20, 200}, {14, 10, 131},
	} {
		if n, e := table.At(three(131), x.warmth, x.mark); n != x.want || e != api.OK {
			t.Errorf("At %d, %d: %d, %v", x.warmth, x.mark, n, e)
		}
	}
	for _, v := range tables() {
		warmths, marks := whole(v)
		for warmth := warmths.Lo; warmth <= warmths.Hi; warmth++ {
			for mark := marks.Lo; mark <= marks.Hi; mark++ {
				n, e := table.At(v, warmth, mark)
				for _, want := range strengths(v, warmth, mark) {
					if n != want || e != api.OK {
						t.Fatalf("At of %v, %d, %d: %d, %v, not %d", v, warmth, mark, n, e, want)
					}
				}
			}
		}
	}
}

func TestP2_1Rounding(t *testing.T) {
	for _, x := range []struct {
		t                  table.Table
		warmth, mark, want int
	}{
		{two(0, 1, 0, 1), 4, 8, 0}, {two(0, 1, 0, 1), 4, 9, 1}, {two(0, 0, 0, 1), 4, 10, 1}, {two(0, 0, 1, 0), 4, 7, 1}, {two(0, 0, 0, 3), 4, 8, 1},
		{two(0, 0, 0, 2), 4, 8, 0}, {two(2000, 0, 1999, 0), 4, 7, 2000}, {two(2000, 0, 0, 2000), 4, 9, 1000},
	} {
		if n, e := table.At(x.t, x.warmth, x.mark); n != x.want || e != api.OK {
			t.Errorf("At of %v, %d, %d: %d, %v", x.t, x.warmth, x.mark, n, e)
		}
	}
}

func TestP2_1NoPoint(t *testing.T) {
	for _, x := range [][2]int{
		{9, 5}, {21, 5}, {10, -1}, {10, 21}, {-1, -1}, {math.MinInt, 5}, {math.MaxInt, 5}, {10, math.MinInt}, {10, math.MaxInt},
	} {
		if n, e := table.At(three(131), x[0], x[1]); n != 0 || e != api.ErrRange {
			t.Errorf("At %v: %d, %v", x, n, e)
		}
	}
}

func TestP2_2Bounds(t *testing.T) {
	for _, x := range []struct {
		t            table.Table
		warmth, mark table.Range
		want         table.Range
	}{
		{three(131), to(12, 14), to(0, 5), to(90, 115)}, {three(131), to(10, 20), to(0, 20), to(80, 200)}, {three(131), to(12, 12), to(5, 5), to(115, 115)},
		{two(6, 0, 0, 6), to(4, 4), to(7, 10), to(3, 3)}, {three(1000), to(10, 20), to(0, 20), to(80, 1000)}, {three(0), to(10, 20), to(0, 20), to(0, 200)},
	} {
		if r, e := table.Bounds(x.t, x.warmth, x.mark); r != x.want || e != api.OK {
			t.Errorf("Bounds of %v, %v, %v: %v, %v", x.t, x.warmth, x.mark, r, e)
		}
	}
	random := rand.New(rand.NewSource(2))
	for _, v := range tables() {
		for _, x := range ranges(random, v) {
			want := to(math.MaxInt, math.MinInt)
			for warmth := x[0].Lo; warmth <= x[0].Hi; warmth++ {
				for mark := x[1].Lo; mark <= x[1].Hi; mark++ {
					n := at(v, warmth, mark)
					want = to(min(want.Lo, n), max(want.Hi, n))
				}
			}
			if r, e := table.Bounds(v, x[0], x[1]); r != want || e != api.OK {
				t.Fatalf("Bounds of %v, %v: %v, %v, not %v", v, x, r, e, want)
			}
		}
	}
}

// wrongRanges are no ranges of points, neither of warmths from 10 to 20 nor of marks from 0 to 20.
func wrongRanges() []table.Range {
	return []table.Range{
		to(12, 11), to(-2, -1), to(21, 22), to(10, 21), to(-1, 20), to(20, 10),
		to(math.MinInt, math.MaxInt), to(math.MaxInt, math.MinInt), to(10, math.MaxInt), to(math.MinInt, 20),
	}
}

func TestP2_2Ranges(t *testing.T) {
	for _, wrong := range wrongRanges() {
		for _, x := range [][2]table.Range{{wrong, to(0, 20)}, {to(10, 20), wrong}, {wrong, wrong}} {
			if r, e := table.Bounds(three(131), x[0], x[1]); r != to(0, 0) || e != api.ErrRange {
				t.Errorf("Bounds for %v: %v, %v", x, r, e)
			}
		}
	}
	for _, x := range [][2]table.Range{{to(9, 20), to(0, 20)}, {to(9, 9), to(0, 20)}} {
		if r, e := table.Bounds(three(131), x[0], x[1]); r != to(0, 0) || e != api.ErrRange {
			t.Errorf("Bounds for %v: %v, %v", x, r, e)
		}
	}
}

// meanings are the marks that can mean the strengths.
func meanings(v table.Table, warmth, strength table.Range) (l []int) {
	_, marks := whole(v)
	for mark := marks.Lo; mark <= marks.Hi; mark++ {
		for a := warmth.Lo; a <= warmth.Hi; a++ {
			if in(at(v, a, mark), strength) {
				l = append(l, mark)
				break
			}
		}
	}
	return l
}

func TestP2_3Meanings(t *testing.T) {
	for _, x := range []struct {
		warmth, strength table.Range
		want             []int
		e                api.Errno
	}{
		{to(10, 12), to(135, 136), list(9, 10), api.OK}, {to(10, 10), to(100, 108), list(0, 1, 2), api.OK}, {to(10, 20), to(80, 80), list(0), api.OK},
		{to(20, 20), to(170, math.MaxInt), list(20), api.OK}, {to(14, 14), to(math.MinInt, 94), list(0, 1), api.OK},
		{to(10, 12), to(201, 300), nil, api.ErrNone}, {to(10, 20), to(-5, 79), nil, api.ErrNone}, {to(10, 10), to(101, 101), nil, api.ErrNone},
		{to(10, 12), to(math.MinInt, math.MinInt), nil, api.ErrNone}, {to(10, 12), to(math.MaxInt, math.MaxInt), nil, api.ErrNone},
	} {
		if l, e := table.Meanings(three(131), x.warmth, x.strength); !slices.Equal(l, x.want) || e != x.e {
			t.Errorf("Meanings of %v for %v: %v, %v", x.strength, x.warmth, l, e)
		}
	}
	random := rand.New(rand.NewSource(3))
	apart, none := 0, 0
	for _, v := range tables() {
		for _, x := range ranges(random, v) {
			low := at(v, x[0].Lo, x[1].Lo) + random.Intn(5) - 2
			strength := to(low, low+random.Intn(9))
			want := meanings(v, x[0], strength)
			f := api.OK
			if len(want) == 0 {
				f = api.ErrNone
				none++
			}
			if l, e := table.Meanings(v, x[0], strength); !slices.Equal(l, want) || e != f {
				t.Fatalf("Meanings of %v, %v, %v: %v, %v, not %v", v, x[0], strength, l, e, want)
			}
			if len(want) > 0 && want[len(want)-1]-want[0] >= len(want) {
				apart++
			}
		}
	}
	if apart == 0 || none == 0 {
		t.Errorf("%d meanings with marks between them, %d strengths without a meaning", apart, none)
	}
}

func TestP2_3Ranges(t *testing.T) {
	for _, wrong := range append(wrongRanges(), to(9, 20), to(9, 9)) {
		if l, e := table.Meanings(three(131), wrong, to(0, 2000)); len(l) != 0 || e != api.ErrRange {
			t.Errorf("Meanings for %v: %v, %v", wrong, l, e)
		}
		if l, e := table.Meanings(three(131), wrong, to(9999, 9999)); len(l) != 0 || e != api.ErrRange {
			t.Errorf("Meanings for %v of no strength: %v, %v", wrong, l, e)
		}
	}
	for _, wrong := range []table.Range{to(136, 135), to(9999, 9998), to(math.MaxInt, math.MinInt)} {
		if l, e := table.Meanings(three(131), to(10, 12), wrong); len(l) != 0 || e != api.ErrRange {
			t.Errorf("Meanings of %v: %v, %v", wrong, l, e)
		}
	}
}

func TestP2_4Misprints(t *testing.T) {
	worst := table.Table{Warmths: list(1, 2, 3), Marks: list(1, 2), Values: [][]int{{5, 4}, {7, 6}, {9, 8}}}
	for _, x := range []struct {
		t    table.Table
		want []table.Spot
	}{
		{three(131), nil}, {three(210), spots(1, 1)}, {three(150), spots(0, 1)}, {three(89), spots(1, 1)}, {three(140), nil}, {three(120), nil}, {three(119), spots(1, 1)},
		{worst, spots(0, 0, 0, 1, 1, 1, 2, 0)}, {two(1, 1, 1, 1), nil}, {two(2, 1, 2, 2), spots(0, 1)}, {two(1, 2, 3, 4), spots(0, 0, 0, 1)}, {two(0, 0, 0, 2000), spots(0, 1)},
	} {
		if l, e := table.Misprints(x.t); !slices.Equal(l, x.want) || e != api.OK {
			t.Errorf("Misprints of %v: %v, %v", x.t, l, e)
		}
	}
	sizes := map[int]int{}
	for _, v := range smallTables() {
		want, _ := smallest(v, 12)
		if l, e := table.Misprints(v); !slices.Equal(l, want) || e != api.OK {
			t.Fatalf("Misprints of %v: %v, %v, not %v", v, l, e, want)
		}
		sizes[len(want)]++
	}
	for size := range 8 {
		if sizes[size] == 0 {
			t.Errorf("no table has %d misprints", size)
		}
	}
}

// smallTables have at most 12 spots, so that all sets of them can be tried; always the same ones.
func smallTables() (l []table.Table) {
	for _, v := range tables() {
		if len(allSpots(v)) <= 12 {
			l = append(l, v)
		}
	}
	random := rand.New(rand.NewSource(4))
	for i := range 90 {
		rows := 2 + i%3
		columns := 2 + random.Intn(min(12/rows, api.MaxTableLines)-1)
		top := 1 + random.Intn(20)
		l = append(l, filled(random, rows, columns, func(int, int) int { return random.Intn(top) }))
	}
	return l
}

func TestP2_4ProveMisprints(t *testing.T) {
	for _, x := range []struct {
		t    table.Table
		l    []table.Spot
		many int
		want bool
	}{
		{three(131), nil, 0, true}, {three(131), spots(), math.MaxInt, true}, {three(131), nil, -1, false}, {three(131), nil, math.MinInt, false},
		{three(131), spots(0, 0, 2, 2), 2, true}, {three(131), spots(0, 0, 2, 2), 1, false}, {three(131), spots(0, 1, 1, 0), 2, true},
		{three(131), spots(2, 2, 0, 0), 9, false}, {three(131), spots(0, 1, 0, 0), 9, false}, {three(131), spots(1, 0, 0, 1), 9, false}, {three(131), spots(0, 0, 0, 0), 9, false},
		{three(131), spots(3, 0), 9, false}, {three(131), spots(0, 3), 9, false}, {three(131), spots(-1, 0), 9, false}, {three(131), spots(0, -1), 9, false},
		{three(131), spots(math.MinInt, math.MaxInt), 9, false}, {three(131), spots(0, math.MaxInt), 9, false},
		{three(210), spots(1, 1), 1, true}, {three(210), spots(1, 1), 0, false}, {three(210), spots(0, 1), 9, false}, {three(210), nil, 9, false},
		{three(210), spots(0, 1, 0, 2, 1, 2), 3, true}, {three(210), spots(1, 1, 2, 1), 2, true}, {three(210), spots(1, 1, 3, 3), 9, false},
		{table.Table{}, nil, 9, false},
	} {
		if table.ProveMisprints(x.t, x.l, x.many) != x.want {
			t.Errorf("ProveMisprints of %v, %v, %d", x.t, x.l, x.many)
		}
	}
	for _, v := range smallTables()[:60] {
		for size := range len(allSpots(v)) + 1 {
			subsets(allSpots(v), size, func(l []table.Spot) bool {
				if table.ProveMisprints(v, l, size) != together(v, l) || table.ProveMisprints(v, l, size-1) {
					t.Errorf("ProveMisprints of %v, %v", v, l)
				}
				return !t.Failed()
			})
		}
	}
}

// TestP2_4Replaced tries all values that the spots can be replaced by: those of the table, and no other ones, tell more.
func TestP2_4Replaced(t *testing.T) {
	for values := range 3 * 3 * 3 * 3 {
		v := two(values%3, values/3%3, values/9%3, values/27)
		for size := range 5 {
			subsets(allSpots(v), size, func(l []table.Spot) bool {
				if table.ProveMisprints(v, l, 4) != replaceable(v, l) {
					t.Errorf("ProveMisprints of %v, %v", v, l)
				}
				return true
			})
		}
	}
}

// replaceable tries the values 0 to 2 for the spots.
func replaceable(v table.Table, l []table.Spot) bool {
	if len(l) == 0 {
		return proper(v)
	}
	for n := range 3 {
		other := copied(v)
		other.Values[l[0].Row][l[0].Column] = n
		if replaceable(other, l[1:]) {
			return true
		}
	}
	return false
}

func TestP2_5Chains(t *testing.T) {
	if c, e := table.Chains(three(210)); len(c) != 8 || e != api.OK {
		t.Errorf("Chains of the example: %v, %v", c, e)
	}
	long := 0
	for _, v := range append(tables(), smallTables()...) {
		l, e := table.Misprints(v)
		c, f := table.Chains(v)
		if e != api.OK || f != api.OK || len(c) != len(allSpots(v))-len(l) || !areChains(v, c) {
			t.Fatalf("Chains of %v: %v, %v; misprints %v, %v", v, c, f, l, e)
		}
		for _, chain := range c {
			if len(chain) > 2 {
				long++
			}
		}
	}
	if long == 0 {
		t.Error("no chain is longer than two")
	}
}

func chains(l ...[]table.Spot) [][]table.Spot { return l }

func TestP2_5ProveChains(t *testing.T) {
	v := two(2, 1, 2, 2)
	singles := chains(spots(0, 0), spots(0, 1), spots(1, 0), spots(1, 1))
	for _, x := range []struct {
		t    table.Table
		l    [][]table.Spot
		many int
		want bool
	}{
		{v, chains(spots(0, 0, 0, 1), spots(1, 0), spots(1, 1)), 3, true}, {v, chains(spots(1, 0), spots(1, 1, 0, 1), spots(0, 0)), 3, true},
		{v, chains(spots(1, 0, 0, 1), spots(1, 1), spots(0, 0)), math.MaxInt, true}, {v, chains(spots(1, 0, 0, 1), spots(1, 1), spots(0, 0)), 2, false},
		{v, singles, 4, true}, {v, singles, 3, false}, {v, singles, -1, false}, {v, singles, math.MinInt, false}, {v, singles[1:], 9, false}, {v, nil, 9, false},
		{v, append(chains(nil), singles...), 9, false}, {v, append(singles, spots()), 9, false}, {v, append(singles, spots(0, 0)), 9, false},
		{v, chains(spots(0, 1, 0, 0), spots(1, 0), spots(1, 1)), 9, false}, {v, chains(spots(1, 0, 0, 0), spots(0, 1), spots(1, 1)), 9, false},
		{v, chains(spots(0, 0, 1, 1), spots(0, 1), spots(1, 0)), 9, false}, {v, chains(spots(0, 0, 0, 0), spots(0, 1), spots(1, 0), spots(1, 1)), 9, false},
		{v, chains(spots(0, 0), spots(0, 1), spots(1, 0), spots(1, 0)), 9, false}, {v, chains(spots(0, 0), spots(0, 1), spots(1, 0), spots(1, 2)), 9, false},
		{v, append(singles, spots(2, 0)), 9, false}, {v, append(singles, spots(0, -1)), 9, false}, {v, append(singles, spots(math.MaxInt, math.MinInt)), 9, false},
		{v, chains(spots(0, 0, -1, 9), spots(0, 1), spots(1, 0), spots(1, 1)), 9, false}, {v, chains(spots(0, 0, 0, 1), spots(1, 0, 0, 1), spots(1, 1)), 9, false},
		{table.Table{}, nil, 9, false},
	} {
		if table.ProveChains(x.t, x.l, x.many) != x.want {
			t.Errorf("ProveChains of %v, %v, %d", x.t, x.l, x.many)
		}
	}
}

// TestP2_5Other changes chains that were returned, so that they are others, or none any more.
func TestP2_5Other(t *testing.T) {
	random := rand.New(rand.NewSource(5))
	good, bad := 0, 0
	for _, v := range tables() {
		for range 40 {
			c, _ := table.Chains(v)
			for range 1 + random.Intn(2) {
				c = muddled(random, v, c)
			}
			want := areChains(v, c)
			if table.ProveChains(v, c, len(c)) != want || table.ProveChains(v, c, len(c)-1) {
				t.Fatalf("ProveChains of %v, %v", v, c)
			}
			if want {
				good++
			} else {
				bad++
			}
		}
	}
	if good < 100 || bad < 100 {
		t.Errorf("%d lists are chains, %d are none", good, bad)
	}
}

// muddled changes the chains in one way.
func muddled(random *rand.Rand, v table.Table, c [][]table.Spot) [][]table.Spot {
	i, j := random.Intn(len(c)), random.Intn(len(c))
	switch random.Intn(6) {
	case 0:
		slices.Reverse(c[i])
	case 1:
		c[i], c[j] = c[j], c[i]
	case 2:
		c = append(c, slices.Clone(c[i][len(c[i])/2:]))
		c[i] = c[i][:len(c[i])/2]
	case 3:
		c[i] = append(c[i], c[j]...)
		c = slices.Delete(c, j, j+1)
	case 4:
		c[i] = append(c[i], allSpots(v)[random.Intn(len(allSpots(v)))])
	case 5:
		c[i] = c[i][min(1, len(c[i])):]
	}
	return slices.DeleteFunc(c, func(l []table.Spot) bool { return len(l) == 0 && random.Intn(4) > 0 })
}

func TestP2_6Thin(t *testing.T) {
	flat := table.Table{Warmths: list(0, 2, 4), Marks: list(0, 5, 10, 15), Values: [][]int{{50, 60, 70, 80}, {40, 50, 60, 70}, {30, 40, 50, 60}}}
	high := copied(flat)
	high.Values[2][3] = 65
	for _, x := range []struct {
		t             table.Table
		most          int
		rows, columns []int
	}{
		{three(131), 0, list(0, 1, 2), list(0, 1, 2)}, {three(131), 1, list(0, 1, 2), list(0, 1, 2)}, {three(131), 4, list(0, 2), list(0, 1, 2)},
		{three(131), 20, list(0, 2), list(0, 2)}, {three(131), math.MaxInt, list(0, 2), list(0, 2)}, {flat, 0, list(0, 2), list(0, 3)},
		{high, 0, list(0, 1, 2), list(0, 2, 3)}, {two(1, 2000, 3, 0), 0, list(0, 1), list(0, 1)},
	} {
		r, c, e := table.Thin(x.t, x.most)
		if !slices.Equal(r, x.rows) || !slices.Equal(c, x.columns) || e != api.OK {
			t.Errorf("Thin of %v to %d: %v, %v, %v", x.t, x.most, r, c, e)
		}
	}
	for _, most := range list(-1, math.MinInt) {
		if r, c, e := table.Thin(flat, most); len(r)+len(c) != 0 || e != api.ErrRange {
			t.Errorf("Thin to %d: %v, %v, %v", most, r, c, e)
		}
	}
}

func TestP2_6Smallest(t *testing.T) {
	between, ties := 0, 0
	for _, v := range tables() {
		l := parts(v)
		var numbers []int
		for _, p := range l {
			numbers = append(numbers, p.off, max(0, p.off-1), p.off+1)
		}
		slices.Sort(numbers)
		for _, most := range slices.Compact(numbers) {
			want := thinnest(l, most)
			r, c, e := table.Thin(v, most)
			if !slices.Equal(r, want.rows) || !slices.Equal(c, want.columns) || e != api.OK {
				t.Fatalf("Thin of %v to %d: %v, %v, %v, not %v", v, most, r, c, e, want)
			}
			if n := len(r) * len(c); n > 4 && n < len(allSpots(v)) {
				between++
			}
			for _, p := range l {
				if p.off <= most && len(p.rows)*len(p.columns) == len(r)*len(c) && smaller(want, p) {
					ties++
				}
			}
		}
	}
	if between < 100 || ties < 100 {
		t.Errorf("%d parts are neither all nor the corners, %d others have as many values", between, ties)
	}
}

// TestOwnMemory checks that arguments are not written to, and that results share no memory with them, nor with later results.
func TestOwnMemory(t *testing.T) {
	v := three(210)
	l := spots(1, 1)
	c, _ := table.Chains(v)
	rows, columns, _ := table.Thin(v, 4)
	m, _ := table.Meanings(v, to(10, 12), to(100, 200))
	out, _ := table.Misprints(v)
	want := []any{copiedChains(c), slices.Clone(rows), slices.Clone(columns), slices.Clone(m), slices.Clone(out)}
	for _, numbers := range [][]int{rows, columns, m} {
		for i := range numbers {
			numbers[i] = -99
		}
	}
	for _, chain := range c {
		chain[0] = table.Spot{Row: -99}
		_ = append(chain, chain[0])
	}
	out[0] = table.Spot{Row: -99}
	again, _ := table.Chains(v)
	rows, columns, _ = table.Thin(v, 4)
	m, _ = table.Meanings(v, to(10, 12), to(100, 200))
	out, _ = table.Misprints(v)
	if got := []any{again, rows, columns, m, out}; !reflect.DeepEqual(got, want) {
		t.Errorf("results again: %v, not %v", got, want)
	}
	table.At(v, 12, 5)
	table.Bounds(v, to(10, 12), to(0, 5))
	table.ProveMisprints(v, l, 1)
	before := copiedChains(again)
	table.ProveChains(v, again, 8)
	if !reflect.DeepEqual(v, three(210)) || !slices.Equal(l, spots(1, 1)) || !reflect.DeepEqual(again, before) {
		t.Errorf("arguments were written to: %v, %v, %v", v, l, again)
	}
}

func copiedChains(c [][]table.Spot) (out [][]table.Spot) {
	for _, chain := range c {
		out = append(out, slices.Clone(chain))
	}
	return out
}

// TestAnyArguments checks that no call panics, and that each result beside an error is zero, whatever the arguments are.
func TestAnyArguments(t *testing.T) {
	values := list(math.MinInt, math.MinInt+1, -2, -1, 0, 1, 2, 7, 10, 12, 20, 40, 60, 2000, 2001, math.MaxInt-1, math.MaxInt)
	random := rand.New(rand.NewSource(6))
	some := func() int { return values[random.Intn(len(values))] }
	several := func() (l []int) {
		for range random.Intn(4) {
			l = append(l, some())
		}
		return l
	}
	for i := range 20000 {
		v := three(131)
		if i%2 == 0 {
			v = table.Table{Warmths: several(), Marks: several(), Values: [][]int{several(), several()}}
		}
		warmth, mark := to(some(), some()), to(some(), some())
		none := table.CheckTable(v) != api.OK
		n, e := table.At(v, some(), some())
		r, f := table.Bounds(v, warmth, mark)
		m, g := table.Meanings(v, warmth, mark)
		out, h := table.Misprints(v)
		c, j := table.Chains(v)
		rows, columns, k := table.Thin(v, some())
		for _, x := range []struct {
			e    api.Errno
			zero bool
		}{{e, n == 0}, {f, r == to(0, 0)}, {g, len(m) == 0}, {h, len(out) == 0}, {j, len(c) == 0}, {k, len(rows)+len(columns) == 0}} {
			if x.e != api.OK && !x.zero || none && x.e == api.OK {
				t.Fatalf("a result beside an error, of %v, %v, %v", v, warmth, mark)
			}
		}
		l := spots(some(), some(), some(), some())
		if table.ProveMisprints(v, l, some()) && (none || !together(v, l)) || table.ProveChains(v, chains(l, l), some()) {
			t.Fatalf("a proof about %v, %v", v, l)
		}
	}
}
