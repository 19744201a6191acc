package table_test

import (
	"math/big"
	"math/rand"
	"slices"

	"saccharum/api"
	"saccharum/table"
)

// What this file computes follows the definitions of the chapter word by word, and tries all that there is to try.

func list(l ...int) []int { return l }

func to(low, high int) table.Range { return table.Range{Lo: low, Hi: high} }

func in(n int, r table.Range) bool { return r.Lo <= n && n <= r.Hi }

// spots reads numbers as rows and columns.
func spots(l ...int) (out []table.Spot) {
	for i := 0; i < len(l); i += 2 {
		out = append(out, table.Spot{Row: l[i], Column: l[i+1]})
	}
	return out
}

// three is the table of the chapter's examples, with another value in the middle.
func three(middle int) table.Table {
	return table.Table{Warmths: list(10, 14, 20), Marks: list(0, 10, 20), Values: [][]int{{100, 140, 200}, {90, middle, 192}, {80, 120, 170}}}
}

// two has two lines on each side.
func two(a, b, c, d int) table.Table {
	return table.Table{Warmths: list(3, 5), Marks: list(7, 10), Values: [][]int{{a, b}, {c, d}}}
}

// lines are as many rising numbers, from low to high.
func lines(random *rand.Rand, count, low, high int) []int {
	l := random.Perm(high - low + 1)[:count]
	slices.Sort(l)
	for i := range l {
		l[i] += low
	}
	return l
}

// filled is a table of so many rows and columns with values of the function.
func filled(random *rand.Rand, rows, columns int, value func(row, column int) int) table.Table {
	low, left := random.Intn(25), random.Intn(45)
	t := table.Table{Warmths: lines(random, rows, low, low+15), Marks: lines(random, columns, left, left+15)}
	for r := range rows {
		var l []int
		for c := range columns {
			l = append(l, value(r, c))
		}
		t.Values = append(t.Values, l)
	}
	return t
}

// properTable is proper: the values are sums of steps that are not below 0.
func properTable(random *rand.Rand, rows, columns int) table.Table {
	across, down := make([]int, columns), make([]int, rows)
	for i := range across {
		across[i] = random.Intn(200)
	}
	for i := range down {
		down[i] = random.Intn(200)
	}
	return filled(random, rows, columns, func(r, c int) int {
		n := 0
		for _, x := range across[:c+1] {
			n += x
		}
		for _, x := range down[r:] {
			n += x
		}
		return n
	})
}

// spoilt is the table with some other values.
func spoilt(random *rand.Rand, t table.Table, count int) table.Table {
	t = copied(t)
	for range count {
		row := t.Values[random.Intn(len(t.Values))]
		row[random.Intn(len(row))] = random.Intn(api.MaxTableValue + 1)
	}
	return t
}

func copied(t table.Table) table.Table {
	c := table.Table{Warmths: slices.Clone(t.Warmths), Marks: slices.Clone(t.Marks)}
	for _, row := range t.Values {
		c.Values = append(c.Values, slices.Clone(row))
	}
	return c
}

// tables are those of the examples, those at the limits, and others of each size; always the same ones.
func tables() []table.Table {
	random := rand.New(rand.NewSource(1))
	l := []table.Table{
		three(131), three(210), three(150), three(89), two(1, 1, 1, 1), two(2000, 0, 1999, 0), two(1, 2, 3, 4), two(0, 0, 0, 1),
		{Warmths: list(0, 40), Marks: list(0, 60), Values: [][]int{{0, 2000}, {1999, 1}}},
		{Warmths: list(0, 1, 2, 3, 4), Marks: list(56, 57, 58, 59, 60), Values: [][]int{{4, 5, 6, 7, 8}, {3, 4, 5, 6, 7}, {2, 3, 4, 5, 6}, {1, 2, 3, 4, 5}, {0, 1, 2, 3, 4}}},
		{Warmths: list(1, 2, 3), Marks: list(1, 2), Values: [][]int{{5, 4}, {7, 6}, {9, 8}}},
	}
	for rows := 2; rows <= api.MaxTableLines; rows++ {
		for columns := 2; columns <= api.MaxTableLines; columns++ {
			t := properTable(random, rows, columns)
			slope := 1 + random.Intn(9)
			flat := filled(random, rows, columns, func(int, int) int { return 0 })
			for r, a := range flat.Warmths {
				for c, b := range flat.Marks {
					flat.Values[r][c] = slope*(b-a) + 1000 + random.Intn(slope)
				}
			}
			few := filled(random, rows, columns, func(int, int) int { return random.Intn(4) })
			l = append(l, t, spoilt(random, t, 1), spoilt(random, t, 3), flat, few)
		}
	}
	return l
}

// ranges of the table are its whole ranges, and some in them.
func ranges(random *rand.Rand, t table.Table) (l [][2]table.Range) {
	warmths, marks := whole(t)
	l = append(l, [2]table.Range{warmths, marks})
	for range 5 {
		l = append(l, [2]table.Range{inner(random, warmths), inner(random, marks)})
	}
	return l
}

// whole are the ranges of the warmths and the marks of all points.
func whole(t table.Table) (warmths, marks table.Range) {
	return to(t.Warmths[0], t.Warmths[len(t.Warmths)-1]), to(t.Marks[0], t.Marks[len(t.Marks)-1])
}

// inner is a range within another one.
func inner(random *rand.Rand, r table.Range) table.Range {
	low := r.Lo + random.Intn(r.Hi-r.Lo+1)
	return to(low, low+random.Intn(r.Hi-low+1))
}

// at is the strength at a point, of which the test of P2.1 shows that it is as defined.
func at(t table.Table, warmth, mark int) int {
	n, e := table.At(t, warmth, mark)
	if e != api.OK {
		panic(e)
	}
	return n
}

// strengths are the strengths at the point by all neighbouring lines.
func strengths(t table.Table, warmth, mark int) (l []int) {
	for r := range len(t.Warmths) - 1 {
		for c := range len(t.Marks) - 1 {
			if in(warmth, to(t.Warmths[r], t.Warmths[r+1])) && in(mark, to(t.Marks[c], t.Marks[c+1])) {
				l = append(l, strength(t, r, c, warmth, mark))
			}
		}
	}
	return l
}

// strength is the strength at the point by the lines r and r+1, c and c+1.
func strength(t table.Table, r, c, warmth, mark int) int {
	w, m := int64(warmth-t.Warmths[r]), int64(mark-t.Marks[c])
	wide, long := int64(t.Warmths[r+1]-t.Warmths[r]), int64(t.Marks[c+1]-t.Marks[c])
	n := int64(t.Values[r][c])*(wide-w)*(long-m) + int64(t.Values[r+1][c])*w*(long-m) +
		int64(t.Values[r][c+1])*(wide-w)*m + int64(t.Values[r+1][c+1])*w*m
	half := new(big.Rat).Add(big.NewRat(n, wide*long), big.NewRat(1, 2))
	return int(new(big.Int).Div(half.Num(), half.Denom()).Int64())
}

// allSpots lists the spots of a table in their order.
func allSpots(t table.Table) (l []table.Spot) {
	for r := range t.Warmths {
		for c := range t.Marks {
			l = append(l, table.Spot{Row: r, Column: c})
		}
	}
	return l
}

func below(p, q table.Spot) bool { return p != q && p.Row >= q.Row && p.Column <= q.Column }

func value(t table.Table, p table.Spot) int { return t.Values[p.Row][p.Column] }

func proper(t table.Table) bool {
	for _, p := range allSpots(t) {
		for _, q := range allSpots(t) {
			if below(p, q) && value(t, p) > value(t, q) {
				return false
			}
		}
	}
	return true
}

// together reports whether the spots can be misprints together: with the smallest values that they can have, the table is proper.
func together(t table.Table, l []table.Spot) bool {
	other := copied(t)
	for _, p := range l {
		other.Values[p.Row][p.Column] = 0
		for _, q := range allSpots(t) {
			if !slices.Contains(l, q) && below(q, p) {
				other.Values[p.Row][p.Column] = max(other.Values[p.Row][p.Column], value(t, q))
			}
		}
	}
	return proper(other)
}

// subsets calls the function for the lists of so many elements, in lexicographic order, until it returns false.
func subsets(l []table.Spot, size int, do func([]table.Spot) bool) {
	var add func(chosen []table.Spot, from int) bool
	add = func(chosen []table.Spot, from int) bool {
		if len(chosen) == size {
			return do(chosen)
		}
		for i := from; i < len(l); i++ {
			if !add(append(slices.Clone(chosen), l[i]), i+1) {
				return false
			}
		}
		return true
	}
	add(nil, 0)
}

// smallest is the smallest set of misprints with at most so many spots; it tries all sets.
func smallest(t table.Table, most int) (set []table.Spot, found bool) {
	for size := 0; size <= most && !found; size++ {
		subsets(allSpots(t), size, func(l []table.Spot) bool {
			if together(t, l) {
				set, found = l, true
			}
			return !found
		})
	}
	return set, found
}

// areChains reports whether the lists are chains of the table.
func areChains(t table.Table, l [][]table.Spot) bool {
	left := allSpots(t)
	for _, chain := range l {
		for i, p := range chain {
			at := slices.Index(left, p)
			if at < 0 || i > 0 && !(below(chain[i-1], p) && value(t, chain[i-1]) > value(t, p)) {
				return false
			}
			left = slices.Delete(left, at, at+1)
		}
		if len(chain) == 0 {
			return false
		}
	}
	return len(left) == 0
}

// part is a part of a table, and by how much it changes a strength at most.
type part struct {
	rows, columns []int
	off           int
}

// parts lists all parts of the table.
func parts(t table.Table) (l []part) {
	for _, rows := range keeps(len(t.Warmths)) {
		for _, columns := range keeps(len(t.Marks)) {
			l = append(l, part{rows, columns, off(t, rows, columns)})
		}
	}
	return l
}

// keeps lists all rising lists of numbers below count with the first and the last one.
func keeps(count int) (l [][]int) {
	for bits := range 1 << count {
		var keep []int
		for i := range count {
			if bits>>i&1 == 1 {
				keep = append(keep, i)
			}
		}
		if slices.Contains(keep, 0) && slices.Contains(keep, count-1) {
			l = append(l, keep)
		}
	}
	return l
}

// off is by how much the strengths by the part and by the table differ at most.
func off(t table.Table, rows, columns []int) (most int) {
	var p table.Table
	for _, r := range rows {
		p.Warmths = append(p.Warmths, t.Warmths[r])
		var l []int
		for _, c := range columns {
			l = append(l, t.Values[r][c])
		}
		p.Values = append(p.Values, l)
	}
	for _, c := range columns {
		p.Marks = append(p.Marks, t.Marks[c])
	}
	warmths, marks := whole(t)
	for warmth := warmths.Lo; warmth <= warmths.Hi; warmth++ {
		for mark := marks.Lo; mark <= marks.Hi; mark++ {
			n := at(p, warmth, mark) - at(t, warmth, mark)
			most = max(most, n, -n)
		}
	}
	return most
}

// thinnest is the smallest of the parts that are within the number.
func thinnest(l []part, most int) part {
	best := -1
	for i, p := range l {
		if p.off <= most && (best < 0 || smaller(p, l[best])) {
			best = i
		}
	}
	return l[best]
}

// smaller reports whether the part p is preferred to q.
func smaller(p, q part) bool {
	if n, m := len(p.rows)*len(p.columns), len(q.rows)*len(q.columns); n != m {
		return n < m
	}
	if len(p.rows) != len(q.rows) {
		return len(p.rows) < len(q.rows)
	}
	if n := slices.Compare(p.rows, q.rows); n != 0 {
		return n < 0
	}
	return slices.Compare(p.columns, q.columns) < 0
}
