package table

import (
	"iter"
	"slices"
)

// empty reports whether a range has no numbers.
func (r Range) empty() bool { return r.Lo > r.Hi }

// holds reports whether a number is in the range.
func (r Range) holds(n int) bool { return r.Lo <= n && n <= r.Hi }

// isPartOf reports whether a range has numbers, and all of them are in the other one.
func (r Range) isPartOf(other Range) bool {
	return !r.empty() && other.holds(r.Lo) && other.holds(r.Hi)
}

// span returns the range from the first to the last line.
func span(lines []int) Range { return Range{Lo: lines[0], Hi: lines[len(lines)-1]} }

// warmths returns the warmths of all points.
func (w atWork) warmths() Range { return span(w.Warmths) }

// marks returns the marks of all points.
func (w atWork) marks() Range { return span(w.Marks) }

// points yields the warmth and the mark of each point of both ranges.
func points(warmth, mark Range) iter.Seq2[int, int] {
	return func(yield func(warmth, mark int) bool) {
		for a := warmth.Lo; a <= warmth.Hi; a++ {
			for b := mark.Lo; b <= mark.Hi; b++ {
				if !yield(a, b) {
					return
				}
			}
		}
	}
}

// lineBefore returns the number of a line after which the number n comes, or at which it is, and which is not the last one.
func lineBefore(lines []int, n int) int {
	i := 0
	for i+2 < len(lines) && lines[i+1] <= n {
		i++
	}
	return i
}

// strength returns the strength at a point.
func (w atWork) strength(warmth, mark int) int {
	r, c := lineBefore(w.Warmths, warmth), lineBefore(w.Marks, mark)
	down, wide := warmth-w.Warmths[r], w.Warmths[r+1]-w.Warmths[r]
	right, long := mark-w.Marks[c], w.Marks[c+1]-w.Marks[c]
	n := w.Values[r][c]*(wide-down)*(long-right) +
		w.Values[r+1][c]*down*(long-right) +
		w.Values[r][c+1]*(wide-down)*right +
		w.Values[r+1][c+1]*down*right
	return rounded(n, wide*long)
}

// rounded returns n divided by d, a half rounded up; neither is below 0.
func rounded(n, d int) int { return (2*n + d) / (2 * d) }

// strengths returns the strengths at all points of both ranges.
func (w atWork) strengths(warmth, mark Range) []int {
	var l []int
	for a, b := range points(warmth, mark) {
		l = append(l, w.strength(a, b))
	}
	return l
}

// bounds returns the minimum and the maximum of the strengths at all points of both ranges, which are not empty.
func (w atWork) bounds(warmth, mark Range) Range {
	l := w.strengths(warmth, mark)
	return Range{Lo: least(l[0], l...), Hi: greatest(l[0], l...)}
}

// meanings returns the marks that can mean the strengths for the warmths.
func (w atWork) meanings(warmth, strength Range) []int {
	var marks []int
	for mark := w.marks().Lo; mark <= w.marks().Hi; mark++ {
		if slices.ContainsFunc(w.strengths(warmth, Range{Lo: mark, Hi: mark}), strength.holds) {
			marks = append(marks, mark)
		}
	}
	return marks
}

// least returns the minimum.
func least(first int, others ...int) int {
	for _, n := range others {
		first = min(first, n)
	}
	return first
}

// greatest returns the maximum.
func greatest(first int, others ...int) int {
	for _, n := range others {
		first = max(first, n)
	}
	return first
}
