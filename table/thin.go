package table

import (
	"cmp"
	"slices"

	"saccharum/api"
)

// kept tells for each line of a side whether a part has it.
type kept [api.MaxTableLines]bool

// whole keeps all of so many lines.
func whole(count int) kept {
	var k kept
	for i := range count {
		k[i] = true
	}
	return k
}

// numbers returns the numbers of the lines that are kept.
func (k kept) numbers() []int {
	var l []int
	for i, has := range k {
		if has {
			l = append(l, i)
		}
	}
	return l
}

// choices returns all that a part can keep of so many lines, fewer lines first, then the lexicographically first ones.
func choices(count int) []kept {
	var l []kept
	for bits := range 1 << (count - 2) {
		k := kept{0: true}
		k[count-1] = true
		for i := 1; i < count-1; i++ {
			k[i] = bits>>(i-1)&1 == 1
		}
		l = append(l, k)
	}
	slices.SortFunc(l, func(a, b kept) int {
		m, n := a.numbers(), b.numbers()
		return cmp.Or(cmp.Compare(len(m), len(n)), slices.Compare(m, n))
	})
	return l
}

// pick returns the elements with these numbers.
func pick[T any](l []T, numbers []int) []T {
	var picked []T
	for _, i := range numbers {
		picked = append(picked, l[i])
	}
	return picked
}

// part returns the table with these rows and columns alone.
func (w atWork) part(rows, columns kept) atWork {
	r, c := rows.numbers(), columns.numbers()
	p := Table{Warmths: pick(w.Warmths, r), Marks: pick(w.Marks, c)}
	for _, row := range pick(w.Values, r) {
		p.Values = append(p.Values, pick(row, c))
	}
	return atWork{p}
}

// within reports whether the part with these rows and columns changes no strength by more than the number.
func (w atWork) within(rows, columns kept, most int) bool {
	if rows == whole(len(w.Warmths)) && columns == whole(len(w.Marks)) {
		return true
	}
	p := w.part(rows, columns)
	for a, b := range points(w.warmths(), w.marks()) {
		n, m := w.strength(a, b), p.strength(a, b)
		if greatest(n, m)-least(n, m) > most {
			return false
		}
	}
	return true
}

// smallestPart returns the rows and the columns of the smallest part that is within the number.
// The whole table is within each number, so that the search finds one.
func (w atWork) smallestPart(most int) (rows, columns []int) {
	count := len(w.Warmths) * len(w.Marks)
search:
	for values := range count + 1 {
		for _, r := range choices(len(w.Warmths)) {
			for _, c := range choices(len(w.Marks)) {
				rows, columns = r.numbers(), c.numbers()
				if len(rows)*len(columns) == values && w.within(r, c, most) {
					break search
				}
			}
		}
	}
	return rows, columns
}
