package table

import (
	"slices"
)

// spots returns all spots of the table, in their order.
func (w atWork) spots() []Spot {
	var l []Spot
	for row := range len(w.Warmths) {
		for column := range len(w.Marks) {
			l = append(l, Spot{Row: row, Column: column})
		}
	}
	return l
}

// before reports whether p comes before q in the order of spots.
func before(p, q Spot) bool {
	return p.Row < q.Row || p.Row == q.Row && p.Column < q.Column
}

// below reports whether p is below q.
func below(p, q Spot) bool {
	return p != q && p.Row >= q.Row && p.Column <= q.Column
}

// value returns the value of a spot.
func (w atWork) value(p Spot) int { return w.Values[p.Row][p.Column] }

// links reports whether q can come after p in a chain: p is below it, and has the greater value.
func (w atWork) links(p, q Spot) bool {
	return below(p, q) && w.value(p) > w.value(q)
}

// explains reports whether the spots of the list can be misprints together.
// They can if no two others contradict each other: each of the list may then have the greatest value of the others below it, or 0.
func (w atWork) explains(list []Spot) bool {
	listed := func(p Spot) bool { return slices.Contains(list, p) }
	left := slices.DeleteFunc(w.spots(), listed)
	agrees := func(p Spot) bool {
		return all(left, func(q Spot) bool { return !w.links(p, q) })
	}
	return all(left, agrees)
}

// partners has, for as many of the spots as can be, the one that comes before it in a chain, which comes before no other one.
// By Dilworth's theorem there are as many as the fewest of these spots that can be misprints together.
func (w atWork) partners(spots []Spot) map[Spot]Spot {
	partner := map[Spot]Spot{}
	var tried map[Spot]bool
	var join func(p Spot) bool
	join = func(p Spot) bool {
		for _, q := range spots {
			if tried[q] || !w.links(p, q) {
				continue
			}
			tried[q] = true
			other, taken := partner[q]
			if !taken || join(other) {
				partner[q] = p
				return true
			}
		}
		return false
	}
	for _, p := range spots {
		tried = map[Spot]bool{}
		join(p)
	}
	return partner
}

// misprints returns the smallest set of misprints.
// Spots are tried in their order: one without which those that are left need fewer misprints is the next of the first smallest set.
func (w atWork) misprints() []Spot {
	var set []Spot
	left := w.spots()
	fewest := len(w.partners(left))
	for _, p := range w.spots() {
		others := slices.DeleteFunc(slices.Clone(left), func(q Spot) bool { return q == p })
		if n := len(w.partners(others)); n < fewest {
			set, left, fewest = append(set, p), others, n
		}
	}
	return set
}

// chains returns as few chains as can be: each begins with a spot that comes after no other one.
func (w atWork) chains() [][]Spot {
	partner := w.partners(w.spots())
	after := map[Spot]Spot{}
	for q, p := range partner {
		after[p] = q
	}
	var list [][]Spot
	for _, p := range w.spots() {
		if _, joined := partner[p]; joined {
			continue
		}
		chain := []Spot{p}
		for q, more := after[p]; more; q, more = after[q] {
			chain = append(chain, q)
		}
		list = append(list, chain)
	}
	return list
}

// isChain reports whether a list has spots of the table, each of which can come after the one before it.
func (w atWork) isChain(list []Spot) bool {
	return len(list) > 0 && all(list, w.hasSpot) && follow(list, w.links)
}

// inJustOne reports whether each spot of the table is in just one of the chains, once.
func (w atWork) inJustOne(chains [][]Spot) bool {
	count := map[Spot]int{}
	for _, chain := range chains {
		for _, p := range chain {
			count[p]++
		}
	}
	return all(w.spots(), func(p Spot) bool { return count[p] == 1 })
}
