package trial_test

import (
	"math"
	"slices"
	"testing"

	"saccharum/api"
	"saccharum/spindle"
	"saccharum/trial"
)

// What this file computes follows the definitions of the chapter word by word, truth by truth, without the package spindle.

const lowest, huge = math.MinInt, math.MaxInt

func list(l ...int) []int { return l }

func rows(l ...[]int) [][]int { return l }

func to(low, high int) trial.Range { return trial.Range{Lo: low, Hi: high} }

func in(n int, r trial.Range) bool { return r.Lo <= n && n <= r.Hi }

func test(liquid, load, seen int) trial.Test {
	return trial.Test{Liquid: liquid, Load: load, Seen: seen}
}

func tests(l ...trial.Test) []trial.Test { return l }

func offer(load, density int) trial.Offer { return trial.Offer{Load: load, Density: density} }

func offers(l ...trial.Offer) []trial.Offer { return l }

func truth(errors []int, densities ...int) trial.Truth {
	return trial.Truth{Errors: errors, Densities: densities}
}

// brass is the spindle of the examples of chapter 1.
func brass() spindle.Spindle {
	return spindle.Spindle{Mass: 900, Volume: 800, Step: 20, Divisions: 10, Width: 10, Weights: list(100, 200)}
}

// example is the trial of the chapter's examples, with further tests.
func example(more ...trial.Test) trial.Trial {
	return trial.Trial{
		Spindle: brass(),
		Parts:   list(0, 6), Worst: 2,
		Liquids: []trial.Range{to(1000, 1000), to(915, 925)},
		Tests:   append(tests(test(0, 0, 6), test(1, 0, 10)), more...),
	}
}

// changed is the trial of the examples after a change.
func changed(change func(t *trial.Trial)) trial.Trial {
	t := example()
	change(&t)
	return t
}

// single has one part, errors of at most 1, and one liquid.
func single(low, high int, l ...trial.Test) trial.Trial {
	return trial.Trial{Spindle: brass(), Parts: list(0), Worst: 1, Liquids: []trial.Range{to(low, high)}, Tests: l}
}

// mass is the mass of a load.
func mass(s spindle.Spindle, load int) int {
	if load == 0 {
		return s.Mass
	}
	return s.Mass + s.Weights[load-1]
}

// reads lists the divisions that can be read: both sides are multiplied by the density, so that nothing is rounded.
func reads(s spindle.Spindle, load, density int) (l []int) {
	depth := 1000 * mass(s, load)
	if depth < density*s.Volume || depth > density*(s.Volume+s.Divisions*s.Step) {
		return nil
	}
	for d := 0; d <= s.Divisions; d++ {
		off := depth - density*(s.Volume+d*s.Step)
		if max(off, -off) <= density*s.Width {
			l = append(l, d)
		}
	}
	return l
}

// partOf is the part in which a division is.
func partOf(x trial.Trial, division int) (part int) {
	for i, first := range x.Parts {
		if first <= division {
			part = i
		}
	}
	return part
}

// shownBy is what can be shown.
func shownBy(x trial.Trial, errors [3]int, load, density int) (l []int) {
	read := reads(x.Spindle, load, density)
	for d := 0; d <= x.Spindle.Divisions; d++ {
		if slices.Contains(read, d-errors[partOf(x, d)]) {
			l = append(l, d)
		}
	}
	if len(l) == 0 {
		l = list(trial.None)
	}
	return l
}

// allErrors are the errors that the parts can have.
func allErrors(x trial.Trial) (all [][3]int) {
	all = make([][3]int, 1)
	for part := range x.Parts {
		var more [][3]int
		for _, errors := range all {
			for n := -x.Worst; n <= x.Worst; n++ {
				errors[part] = n
				more = append(more, errors)
			}
		}
		all = more
	}
	return all
}

// allDensities are the densities that the liquids can have.
func allDensities(x trial.Trial) (all [][3]int) {
	all = make([][3]int, 1)
	for liquid, r := range x.Liquids {
		var more [][3]int
		for _, densities := range all {
			for n := r.Lo; n <= r.Hi; n++ {
				densities[liquid] = n
				more = append(more, densities)
			}
		}
		all = more
	}
	return all
}

// shownOnce keeps what can be shown, by the test, the density, and the error of each part.
type shownOnce map[[5]int]bool

// isRight reports whether a test is right.
func (k shownOnce) isRight(x trial.Trial, test int, errors [3]int, density int) bool {
	key := [5]int{test, density, errors[0], errors[1], errors[2]}
	is, known := k[key]
	if !known {
		y := x.Tests[test]
		is = slices.Contains(shownBy(x, errors, y.Load, density), y.Seen)
		k[key] = is
	}
	return is
}

// eachTruth calls the function for all errors with all densities in which all tests are right, but for those that are left out.
func eachTruth(x trial.Trial, out []int, do func(errors, densities [3]int)) {
	known := shownOnce{}
	for _, errors := range allErrors(x) {
		for _, densities := range allDensities(x) {
			is := true
			for i, y := range x.Tests {
				is = is && (slices.Contains(out, i) || known.isRight(x, i, errors, densities[y.Liquid]))
			}
			if is {
				do(errors, densities)
			}
		}
	}
}

// truths are the errors that have truths, and the bounds of each density in all of them.
type truths struct {
	errors    [][3]int
	densities [3]trial.Range
}

// add adds a truth.
func (u *truths) add(x trial.Trial, errors, densities [3]int) {
	for liquid := range x.Liquids {
		r, n := u.densities[liquid], densities[liquid]
		if len(u.errors) == 0 {
			r = to(n, n)
		}
		u.densities[liquid] = to(min(r.Lo, n), max(r.Hi, n))
	}
	if count := len(u.errors); count == 0 || u.errors[count-1] != errors {
		u.errors = append(u.errors, errors)
	}
}

// truthsOf has all truths, tried one by one.
func truthsOf(x trial.Trial) (u truths) {
	eachTruth(x, nil, func(errors, densities [3]int) { u.add(x, errors, densities) })
	return u
}

// wideTruths are the same, but with the densities of each liquid by themselves: its tests are of no other liquid.
func wideTruths(x trial.Trial, out []int) (u truths) {
	known := shownOnce{}
	for _, errors := range allErrors(x) {
		var low, high [3]int
		for liquid, r := range x.Liquids {
			for n := r.Lo; n <= r.Hi; n++ {
				is := true
				for i, y := range x.Tests {
					is = is && (y.Liquid != liquid || slices.Contains(out, i) || known.isRight(x, i, errors, n))
				}
				if is && low[liquid] == 0 {
					low[liquid] = n
				}
				if is {
					high[liquid] = n
				}
			}
		}
		if !slices.Contains(low[:len(x.Liquids)], 0) {
			u.add(x, errors, low)
			u.add(x, errors, high)
		}
	}
	return u
}

// isGood reports whether no error is less than minus the tolerance, or more than it.
func isGood(x trial.Trial, errors [3]int, tolerance int) bool {
	for part := range x.Parts {
		if errors[part] < -tolerance || errors[part] > tolerance {
			return false
		}
	}
	return true
}

// verdict is what becomes of the instrument.
func (u truths) verdict(x trial.Trial, tolerance int) int {
	good := 0
	for _, errors := range u.errors {
		if isGood(x, errors, tolerance) {
			good++
		}
	}
	switch good {
	case len(u.errors):
		return trial.Certified
	case 0:
		return trial.Refused
	}
	return trial.Again
}

// mostTolerance is the greatest tolerance that is tried: no error is more than this.
const mostTolerance = 4

// facts are all that is to be known of a trial: whether there is a truth; by the error and 3, whether a part can have it; and the rest.
type facts struct {
	is        bool
	errors    [3][7]bool
	densities [3]trial.Range
	lines     [3]trial.Line
	verdicts  [mostTolerance + 1]int
}

// factsFrom has the facts by the truths.
func factsFrom(x trial.Trial, u truths) (f facts) {
	f.is = len(u.errors) > 0
	if !f.is {
		return f
	}
	f.densities = u.densities
	for part := range x.Parts {
		low, high := huge, lowest
		for _, errors := range u.errors {
			f.errors[part][errors[part]+3] = true
			low, high = min(low, errors[part]), max(high, errors[part])
		}
		middle := int(math.Floor(float64(low+high) / 2))
		f.lines[part] = trial.Line{Error: middle, Width: high - middle}
	}
	for tolerance := range f.verdicts {
		f.verdicts[tolerance] = u.verdict(x, tolerance)
	}
	return f
}

// answersOf has the facts by the program, with their error, which is that of each call.
func answersOf(t *testing.T, x trial.Trial) (f facts, e api.Errno) {
	parts, e := trial.Errors(x)
	densities, g := trial.Densities(x)
	lines, h := trial.Certificate(x)
	u, i := trial.Show(x)
	if g != e || h != e || i != e || trial.ProveTruth(x, u) != (e == api.OK) {
		t.Fatalf("%v: %v, %v, %v, %v; Show %v", x, e, g, h, i, u)
	}
	count, liquids := 0, 0
	if e == api.OK {
		count, liquids, f.is = len(x.Parts), len(x.Liquids), true
	}
	if len(parts) != count || len(lines) != count || len(u.Errors) != count || len(densities) != liquids || len(u.Densities) != liquids {
		t.Fatalf("%v: %v, %v, %v, %v, %v", x, parts, lines, densities, u, e)
	}
	for part, l := range parts {
		for i, n := range l {
			if i > 0 && l[i-1] >= n || !in(n, to(-x.Worst, x.Worst)) {
				t.Fatalf("Errors of %v: %v", x, parts)
			}
			f.errors[part][n+3] = true
		}
	}
	copy(f.densities[:], densities)
	copy(f.lines[:], lines)
	for tolerance := range f.verdicts {
		verdict, j := trial.Judge(x, tolerance)
		if j != e {
			t.Fatalf("Judge of %v, %d: %d, %v, but %v", x, tolerance, verdict, j, e)
		}
		f.verdicts[tolerance] = verdict
	}
	return f, e
}

// subsets lists all increasing lists of numbers below count, shorter ones first, then lexicographically.
func subsets(count int) (l [][]int) {
	for bits := range 1 << count {
		var set []int
		for i := range count {
			if bits>>i&1 == 1 {
				set = append(set, i)
			}
		}
		l = append(l, set)
	}
	slices.SortFunc(l, func(a, b []int) int {
		if len(a) != len(b) {
			return len(a) - len(b)
		}
		return slices.Compare(a, b)
	})
	return l
}

// hasTruth reports whether there is a truth in which all tests but these are right.
func hasTruth(x trial.Trial, out []int) (is bool) {
	eachTruth(x, out, func(errors, densities [3]int) { is = true })
	return is
}

// hasWideTruth is the same, with the densities of each liquid by themselves.
func hasWideTruth(x trial.Trial, out []int) bool { return len(wideTruths(x, out).errors) > 0 }

// smallest is the smallest set of tests, by what can be left out.
func smallest(x trial.Trial, can func(x trial.Trial, out []int) bool) []int {
	for _, out := range subsets(len(x.Tests)) {
		if can(x, out) {
			return out
		}
	}
	panic("all tests can be left out")
}

// isSame reports whether the same can be shown with the offer by both errors.
func isSame(x trial.Trial, a, b [3]int, o trial.Offer) bool {
	l, m := shownBy(x, a, o.Load, o.Density), shownBy(x, b, o.Load, o.Density)
	return slices.ContainsFunc(l, func(seen int) bool { return slices.Contains(m, seen) })
}

// sameWith lists for all two errors, of which one is good, and the other one is not, with which of the offers the same can be shown by both.
func (u truths) sameWith(x trial.Trial, tolerance int, l []trial.Offer) (same [][4]bool) {
	for _, a := range u.errors {
		for _, b := range u.errors {
			if !isGood(x, a, tolerance) || isGood(x, b, tolerance) {
				continue
			}
			var is [4]bool
			for i, o := range l {
				is[i] = isSame(x, a, b, o)
			}
			same = append(same, is)
		}
	}
	return same
}

// decide reports whether some offers decide.
func decide(same [][4]bool, offers []int) bool {
	for _, is := range same {
		differs := slices.ContainsFunc(offers, func(i int) bool { return !is[i] })
		if !differs {
			return false
		}
	}
	return true
}

// fewest are the fewest offers, and whether there are any.
func (u truths) fewest(x trial.Trial, tolerance int, l []trial.Offer) ([]int, bool) {
	same := u.sameWith(x, tolerance, l)
	for _, list := range subsets(len(l)) {
		if decide(same, list) {
			return list, true
		}
	}
	return nil, false
}

// corrected has for each division the bounds of the densities in which it can be shown with the load by some of the errors; 0..0 if there are none.
func (u truths) corrected(x trial.Trial, load int) (l []trial.Range) {
	l = make([]trial.Range, x.Spindle.Divisions+1)
	var can [3][7]bool
	for _, errors := range u.errors {
		for part := range x.Parts {
			can[part][errors[part]+3] = true
		}
	}
	for density := 1; density <= api.MaxSpindleDensity; density++ {
		read := reads(x.Spindle, load, density)
		for d := range l {
			for n, is := range can[partOf(x, d)] {
				if !is || !slices.Contains(read, d-(n-3)) {
					continue
				}
				if l[d].Lo == 0 {
					l[d].Lo = density
				}
				l[d].Hi = density
			}
		}
	}
	return l
}
