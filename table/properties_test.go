package table_test

import (
	"math/rand"
	"slices"
	"testing"

	"saccharum/api"
	"saccharum/table"
)

// eachPoint calls the function for each point of both ranges.
func eachPoint(warmths, marks table.Range, do func(warmth, mark int)) {
	for warmth := warmths.Lo; warmth <= warmths.Hi; warmth++ {
		for mark := marks.Lo; mark <= marks.Hi; mark++ {
			do(warmth, mark)
		}
	}
}

// bounds are the bounds of the strength for two ranges that are valid.
func bounds(t *testing.T, v table.Table, warmth, mark table.Range) table.Range {
	r, e := table.Bounds(v, warmth, mark)
	if e != api.OK {
		t.Fatalf("Bounds of %v, %v, %v: %v", v, warmth, mark, e)
	}
	return r
}

func TestP2_7InEachPoint(t *testing.T) {
	random := rand.New(rand.NewSource(7))
	for _, v := range tables() {
		for _, x := range ranges(random, v) {
			r := bounds(t, v, x[0], x[1])
			low, high := false, false
			eachPoint(x[0], x[1], func(warmth, mark int) {
				n := at(v, warmth, mark)
				low, high = low || n == r.Lo, high || n == r.Hi
				if l, e := table.Meanings(v, x[0], r); !in(n, r) || e != api.OK || !slices.Contains(l, mark) {
					t.Fatalf("%v, %v: %d at %d, %d; bounds %v, which %v can mean, %v", v, x, n, warmth, mark, r, l, e)
				}
			})
			if !low || !high {
				t.Fatalf("%v, %v: an end of %v is not reached", v, x, r)
			}
		}
	}
}

func TestP2_7ItsOwnStrength(t *testing.T) {
	for _, v := range tables()[:40] {
		warmths, marks := whole(v)
		eachPoint(warmths, marks, func(warmth, mark int) {
			n := at(v, warmth, mark)
			if l, e := table.Meanings(v, to(warmth, warmth), to(n, n)); e != api.OK || !slices.Contains(l, mark) {
				t.Fatalf("%v: %d at %d, %d, which %v can mean, %v", v, n, warmth, mark, l, e)
			}
		})
	}
}

func TestP2_8OnTheGrid(t *testing.T) {
	for _, v := range tables() {
		for _, p := range allSpots(v) {
			if n := at(v, v.Warmths[p.Row], v.Marks[p.Column]); n != value(v, p) {
				t.Fatalf("%v: %d at %v", v, n, p)
			}
		}
		for r := range len(v.Warmths) - 1 {
			for c := range len(v.Marks) - 1 {
				around := list(v.Values[r][c], v.Values[r][c+1], v.Values[r+1][c], v.Values[r+1][c+1])
				eachPoint(to(v.Warmths[r], v.Warmths[r+1]), to(v.Marks[c], v.Marks[c+1]), func(warmth, mark int) {
					if n := at(v, warmth, mark); n < slices.Min(around) || n > slices.Max(around) {
						t.Fatalf("%v: %d at %d, %d, within %v", v, n, warmth, mark, around)
					}
				})
			}
		}
	}
}

func TestP2_9Proper(t *testing.T) {
	random := rand.New(rand.NewSource(8))
	count := 0
	for _, v := range tables() {
		if !proper(v) {
			continue
		}
		count++
		warmths, marks := whole(v)
		eachPoint(warmths, marks, func(warmth, mark int) {
			n := at(v, warmth, mark)
			if mark < marks.Hi && at(v, warmth, mark+1) < n || warmth < warmths.Hi && at(v, warmth+1, mark) > n {
				t.Fatalf("%v: beside %d, %d", v, warmth, mark)
			}
		})
		for _, x := range ranges(random, v) {
			want := to(at(v, x[0].Hi, x[1].Lo), at(v, x[0].Lo, x[1].Hi))
			if r := bounds(t, v, x[0], x[1]); r != want {
				t.Fatalf("Bounds of %v, %v: %v, not %v", v, x, r, want)
			}
		}
	}
	if count < 16 {
		t.Errorf("only %d tables are proper", count)
	}
}

// TestP2_10NoFewer tries all shorter sets, and those before, of the tables in which few enough have to be tried.
func TestP2_10NoFewer(t *testing.T) {
	sizes := map[int]int{}
	for _, v := range append(tables(), smallTables()...) {
		l, e := table.Misprints(v)
		c, f := table.Chains(v)
		if e != api.OK || f != api.OK || len(l)+len(c) != len(allSpots(v)) {
			t.Fatalf("%v: %v, %v and %v, %v", v, l, e, c, f)
		}
		if !together(v, l) || !areChains(v, c) || !table.ProveMisprints(v, l, len(l)) || !table.ProveChains(v, c, len(c)) {
			t.Fatalf("%v: %v, %v", v, l, c)
		}
		if len(l) > 3 && len(allSpots(v)) > 12 {
			continue
		}
		sizes[len(l)]++
		for size := range len(l) + 1 {
			subsets(allSpots(v), size, func(other []table.Spot) bool {
				if slices.Equal(other, l) {
					return false
				}
				if together(v, other) || table.ProveMisprints(v, other, size) {
					t.Fatalf("Misprints of %v: %v, but %v can be, too", v, l, other)
				}
				return true
			})
		}
	}
	for size := range 8 {
		if sizes[size] == 0 {
			t.Errorf("no table has %d misprints", size)
		}
	}
}

func TestP2_11OneValue(t *testing.T) {
	random := rand.New(rand.NewSource(9))
	changes := map[int]int{}
	for _, v := range tables() {
		l, _ := table.Misprints(v)
		for range 20 {
			other := spoilt(random, v, 1)
			m, e := table.Misprints(other)
			if n := len(m) - len(l); e != api.OK || n < -1 || n > 1 {
				t.Fatalf("Misprints of %v: %v; of %v: %v, %v", v, l, other, m, e)
			}
			changes[len(m)-len(l)]++
		}
	}
	if changes[-1] == 0 || changes[0] == 0 || changes[1] == 0 {
		t.Errorf("not each change was seen: %v", changes)
	}
}

// mapped is the table with other values.
func mapped(v table.Table, change func(int) int) table.Table {
	v = copied(v)
	for _, row := range v.Values {
		for i := range row {
			row[i] = change(row[i])
		}
	}
	return v
}

func TestP2_12TheSameMore(t *testing.T) {
	random := rand.New(rand.NewSource(10))
	more := 0
	for _, v := range tables() {
		most := 0
		for _, row := range v.Values {
			most = max(most, slices.Max(row))
		}
		n := api.MaxTableValue - most
		if n == 0 {
			continue
		}
		more++
		for _, by := range list(n, 1+random.Intn(n)) {
			sameMore(t, v, mapped(v, func(x int) int { return x + by }), by, random)
		}
	}
	if more < 20 {
		t.Errorf("only %d tables have more", more)
	}
}

// sameMore compares a table with one that has more, by this number.
func sameMore(t *testing.T, v, big table.Table, by int, random *rand.Rand) {
	warmths, marks := whole(v)
	eachPoint(warmths, marks, func(warmth, mark int) {
		if n, m := at(v, warmth, mark), at(big, warmth, mark); n+by != m {
			t.Fatalf("%v and %v, %d, %d: %d, %d", v, big, warmth, mark, n, m)
		}
	})
	out, _ := table.Misprints(v)
	other, _ := table.Misprints(big)
	if !slices.Equal(out, other) {
		t.Fatalf("Misprints of %v and %v: %v, %v", v, big, out, other)
	}
	for _, x := range ranges(random, v) {
		low := at(v, x[0].Hi, x[1].Hi) - random.Intn(3)
		l, e := table.Meanings(v, x[0], to(low, low+3))
		k, f := table.Meanings(big, x[0], to(low+by, low+by+3))
		if !slices.Equal(l, k) || e != f {
			t.Fatalf("Meanings of %v and %v, %v: %v, %v; %v, %v", v, big, x[0], l, e, k, f)
		}
	}
	for _, most := range list(0, 1, 9, 90) {
		r, c, _ := table.Thin(v, most)
		p, q, _ := table.Thin(big, most)
		if !slices.Equal(r, p) || !slices.Equal(c, q) {
			t.Fatalf("Thin of %v and %v to %d: %v, %v; %v, %v", v, big, most, r, c, p, q)
		}
	}
}

// turned is the table with each warmth and each mark replaced, and rows and columns in the other order.
func turned(v table.Table) table.Table {
	v = copied(v)
	for i := range v.Warmths {
		v.Warmths[i] = api.MaxTableWarmth - v.Warmths[i]
	}
	for i := range v.Marks {
		v.Marks[i] = api.MaxTableMark - v.Marks[i]
	}
	slices.Reverse(v.Warmths)
	slices.Reverse(v.Marks)
	slices.Reverse(v.Values)
	for _, row := range v.Values {
		slices.Reverse(row)
	}
	return v
}

func TestP2_13TheOtherWay(t *testing.T) {
	for _, v := range tables() {
		other := turned(v)
		warmths, marks := whole(v)
		eachPoint(warmths, marks, func(warmth, mark int) {
			if n, m := at(v, warmth, mark), at(other, api.MaxTableWarmth-warmth, api.MaxTableMark-mark); n != m {
				t.Fatalf("%v and %v, %d, %d: %d, %d", v, other, warmth, mark, n, m)
			}
		})
		l, e := table.Misprints(v)
		m, f := table.Misprints(mapped(other, func(x int) int { return api.MaxTableValue - x }))
		if len(l) != len(m) || e != api.OK || f != api.OK {
			t.Fatalf("Misprints of %v: %v, %v; the other way %v, %v", v, l, e, m, f)
		}
	}
}

func TestP2_14Wider(t *testing.T) {
	random := rand.New(rand.NewSource(11))
	for _, v := range tables() {
		for _, x := range ranges(random, v) {
			a, b := inner(random, x[0]), inner(random, x[1])
			r, wide := bounds(t, v, a, b), bounds(t, v, x[0], x[1])
			if wide.Lo > r.Lo || wide.Hi < r.Hi {
				t.Fatalf("Bounds of %v: %v for %v, %v, but %v for %v", v, r, a, b, wide, x)
			}
			l, _ := table.Meanings(v, a, r)
			for _, y := range [][2]table.Range{{x[0], r}, {a, wide}, {x[0], wide}, {a, to(r.Lo-1, r.Hi+9)}} {
				m, e := table.Meanings(v, y[0], y[1])
				if e != api.OK || slices.ContainsFunc(l, func(mark int) bool { return !slices.Contains(m, mark) }) {
					t.Fatalf("Meanings of %v: %v for %v, %v, but %v, %v, for %v", v, l, a, r, m, e, y)
				}
			}
		}
	}
}

func TestP2_15Thin(t *testing.T) {
	for _, v := range tables() {
		last := len(allSpots(v))
		for most := range 120 {
			r, c, e := table.Thin(v, most)
			if e != api.OK || len(r)*len(c) > last {
				t.Fatalf("Thin of %v to %d: %v, %v, %v", v, most, r, c, e)
			}
			if most < 3 || len(r)*len(c) < last {
				if n := off(v, r, c); n > most {
					t.Fatalf("Thin of %v to %d: %v, %v differ by %d", v, most, r, c, n)
				}
			}
			last = len(r) * len(c)
		}
	}
}
