package book_test

import (
	"fmt"
	"regexp"
	"slices"
	"strconv"
	"strings"

	"saccharum/api"
	"saccharum/book"
	"saccharum/duty"
	"saccharum/proof"
	"saccharum/table"
	"saccharum/wort"
)

// What this file computes follows the chapter word by word, with numbers of its own instead of the checks of the layers below.

// firstLines are the lines of the chapter's examples, with further ones.
func firstLines(more ...string) []string {
	return append(lines("row 20; value 1 1 1450; price 120; cask 40 20 20 30 30; cask 30 10 12 60 60; vessel 10 11 60 60 20; vessel 5 5 30 30 12; move 0 1 4 4; water 0 2 2; rates 0 2; rates 6 3; interest 100; bond 300; purse 50; levy 0 0; brew 1 1; pay 2 40; charge 7 5 6; draw 8 4"), more...)
}

// lines reads lines, between which there is a semicolon and a blank.
func lines(text string) []string {
	if text == "" {
		return nil
	}
	return strings.Split(text, "; ")
}

// start is the state before any line.
func start() book.State {
	return book.State{
		Store:   proof.Store{Table: table.Table{Warmths: []int{0, 40}, Marks: []int{0, 60}, Values: [][]int{{300, 1500}, {100, 1300}}}},
		Account: duty.Account{Last: 11},
	}
}

// text tells a state; nil and a list without elements are told alike.
func text(s book.State) string { return fmt.Sprintf("%+v", s) }

// copied is the state in memory of its own.
func copied(s book.State) book.State {
	t := &s.Store.Table
	t.Warmths, t.Marks, t.Values = slices.Clone(t.Warmths), slices.Clone(t.Marks), slices.Clone(t.Values)
	for i, row := range t.Values {
		t.Values[i] = slices.Clone(row)
	}
	s.Store.Casks, s.House.Vessels, s.House.Steps = slices.Clone(s.Store.Casks), slices.Clone(s.House.Vessels), slices.Clone(s.House.Steps)
	s.Account.Rates, s.Account.Entries, s.Sources = slices.Clone(s.Account.Rates), slices.Clone(s.Account.Entries), slices.Clone(s.Sources)
	return s
}

// strength is that at a point of the table.
func strength(t table.Table, warmth, mark int) int {
	r, c := 0, 0
	for warmth > t.Warmths[r+1] {
		r++
	}
	for mark > t.Marks[c+1] {
		c++
	}
	w, W := warmth-t.Warmths[r], t.Warmths[r+1]-t.Warmths[r]
	m, M := mark-t.Marks[c], t.Marks[c+1]-t.Marks[c]
	n := t.Values[r][c]*(W-w)*(M-m) + t.Values[r+1][c]*w*(M-m) + t.Values[r][c+1]*(W-w)*m + t.Values[r+1][c+1]*w*m
	quotient, rest := n/(W*M), n%(W*M)
	if 2*rest >= W*M {
		quotient++
	}
	return quotient
}

// strengths are the smallest and the greatest one of a cask.
func strengths(s proof.Store, c proof.Cask) proof.Range {
	var l []int
	for warmth := c.Warmth.Lo; warmth <= c.Warmth.Hi; warmth++ {
		for mark := c.Mark.Lo; mark <= c.Mark.Hi; mark++ {
			l = append(l, strength(s.Table, warmth, mark))
		}
	}
	return proof.Range{Lo: slices.Min(l), Hi: slices.Max(l)}
}

// unitsOf are those of an entry that is levied.
func unitsOf(s book.State, of book.Source) duty.Range {
	if of.Kind == book.OfVessel {
		l, _ := wort.Bounds(s.House)
		return duty.Range{Lo: l[of.Number].Gallons.Lo, Hi: l[of.Number].Gallons.Hi}
	}
	c := s.Store.Casks[of.Number]
	r := strengths(s.Store, c)
	return duty.Range{Lo: c.Gallons * r.Lo / 100 / 10, Hi: c.Gallons * r.Hi / 100 / 10}
}

// errorOf is that of a state whose parts are valid one by one; the units of its levied entries are found out.
func errorOf(s *book.State) api.Errno {
	if len(s.House.Vessels) > 0 {
		size := 1
		for _, v := range s.House.Vessels {
			size *= (v.Gallons.Hi - v.Gallons.Lo + 1) * (v.Degrees.Hi - v.Degrees.Lo + 1)
		}
		for _, x := range s.House.Steps {
			size *= x.Gallons.Hi - x.Gallons.Lo + 1
		}
		if size > 2000 {
			return api.ErrLimit
		}
		if _, e := wort.Leave(s.House, nil); e == api.ErrFail {
			return api.ErrFail
		}
	}
	size, sinks := 1, false
	for i := range s.Account.Entries {
		x := &s.Account.Entries[i]
		if s.Sources[i].Kind != 0 {
			x.Units = unitsOf(*s, s.Sources[i])
			sinks = sinks || x.Units.Hi > 50
		}
		size *= x.Units.Hi - x.Units.Lo + 1
	}
	if sinks {
		return api.ErrSink
	}
	if size > 1000 {
		return api.ErrLimit
	}
	if l, _ := duty.Leave(s.Account); len(l) > 0 {
		return api.ErrFail
	}
	return api.OK
}

// letters are how many numbers follow each word.
var letters = map[string]int{"row": 1, "column": 1, "value": 3, "price": 1, "cask": 5, "read": 5, "gone": 1, "vessel": 5, "move": 4, "water": 3, "boil": 3, "undo": 0, "rates": 2, "interest": 1, "bond": 1, "purse": 1, "charge": 3, "levy": 2, "brew": 2, "pay": 2, "draw": 2, "owe": 2, "strike": 1}

// numbers are those of a line that has the form of its word.
func numbers(line string) (word string, n []int, isForm bool) {
	form := regexp.MustCompile(`\A([a-z]+)((?: (?:0|[1-9][0-9]{0,3}))*)\z`)
	parts := form.FindStringSubmatch(line)
	if parts == nil {
		return "", nil, false
	}
	for _, part := range strings.Fields(parts[2]) {
		m, _ := strconv.Atoi(part)
		n = append(n, m)
	}
	count, known := letters[parts[1]]
	return parts[1], n, known && count == len(n)
}

// executed is the state after a line, and its error.
func executed(before book.State, line string) (book.State, api.Errno) {
	word, n, isForm := numbers(line)
	if !isForm {
		return before, api.ErrForm
	}
	s := copied(before)
	var e api.Errno
	switch word {
	case "row", "column", "value", "price", "cask", "read", "gone":
		e = inStore(&s, word, n)
	case "vessel", "move", "water", "boil", "undo":
		e = inHouse(&s, word, n)
	default:
		e = inAccount(&s, word, n)
	}
	if e == api.OK {
		e = errorOf(&s)
	}
	if e != api.OK {
		return before, e
	}
	return s, api.OK
}

// firstOf is the error of the first condition that applies.
func firstOf(l ...any) api.Errno {
	for i := 0; i < len(l); i += 2 {
		if l[i+1].(bool) {
			return l[i].(api.Errno)
		}
	}
	return api.OK
}

// inserted is the list with the number in its place.
func inserted(l []int, n int) ([]int, int) {
	at := 0
	for at < len(l) && l[at] < n {
		at++
	}
	return slices.Insert(slices.Clone(l), at, n), at
}

// isCask reports whether a cask can be in a table from 0 to 40 and from 0 to 60.
func isCask(c proof.Cask) bool {
	w, m := c.Warmth, c.Mark
	return 1 <= c.Gallons && c.Gallons <= 99 && w.Lo <= w.Hi && w.Hi <= 40 && m.Lo <= m.Hi && m.Hi <= 60
}

// inStore does what the lines of the store do.
func inStore(s *book.State, word string, n []int) (e api.Errno) {
	t, casks := &s.Store.Table, s.Store.Casks
	was := copied(*s).Store.Table
	switch word {
	case "row":
		if e = firstOf(api.ErrRange, n[0] > 40, api.ErrTwice, slices.Contains(t.Warmths, n[0]), api.ErrLimit, len(t.Warmths) == 5); e == api.OK {
			var at int
			t.Warmths, at = inserted(t.Warmths, n[0])
			t.Values = slices.Insert(t.Values, at, nil)
			for _, mark := range t.Marks {
				t.Values[at] = append(t.Values[at], strength(was, n[0], mark))
			}
		}
	case "column":
		if e = firstOf(api.ErrRange, n[0] > 60, api.ErrTwice, slices.Contains(t.Marks, n[0]), api.ErrLimit, len(t.Marks) == 5); e == api.OK {
			var at int
			t.Marks, at = inserted(t.Marks, n[0])
			for i, warmth := range t.Warmths {
				t.Values[i] = slices.Insert(t.Values[i], at, strength(was, warmth, n[0]))
			}
		}
	case "value":
		if e = firstOf(api.ErrNone, n[0] >= len(t.Warmths) || n[1] >= len(t.Marks), api.ErrRange, n[2] > 2000); e == api.OK {
			t.Values[n[0]][n[1]] = n[2]
		}
	case "price":
		if e = firstOf(api.ErrRange, n[0] > 200); e == api.OK {
			s.Store.Rate = n[0]
		}
	case "cask":
		c := proof.Cask{Gallons: n[0], Warmth: proof.Range{Lo: n[1], Hi: n[2]}, Mark: proof.Range{Lo: n[3], Hi: n[4]}}
		s.Store.Casks = append(casks, c)
		e = firstOf(api.ErrRange, !isCask(c), api.ErrLimit, len(casks) == 6)
	case "read":
		if n[0] >= len(casks) {
			return api.ErrNone
		}
		casks[n[0]].Warmth, casks[n[0]].Mark = proof.Range{Lo: n[1], Hi: n[2]}, proof.Range{Lo: n[3], Hi: n[4]}
		e = firstOf(api.ErrRange, !isCask(casks[n[0]]))
	case "gone":
		if e = firstOf(api.ErrNone, n[0] >= len(casks), api.ErrState, slices.Contains(s.Sources, book.Source{Kind: 1, Number: n[0]})); e == api.OK {
			s.Store.Casks = slices.Delete(casks, n[0], n[0]+1)
			for i, x := range s.Sources {
				if x.Kind == 1 && x.Number > n[0] {
					s.Sources[i] = book.Source{Kind: 1, Number: x.Number - 1}
				}
			}
		}
	}
	return e
}

// isKnown reports whether a range is one of so many at most, and narrow enough.
func isKnown(r wort.Range, most int) bool { return r.Lo <= r.Hi && r.Hi <= most && r.Hi-r.Lo <= 2 }

// inHouse does what the lines of the brewhouse do.
func inHouse(s *book.State, word string, n []int) api.Errno {
	h := &s.House
	if word == "undo" {
		if len(h.Steps) == 0 {
			return api.ErrNone
		}
		h.Steps = h.Steps[:len(h.Steps)-1]
		return api.OK
	}
	if word == "vessel" {
		v := wort.Vessel{Gallons: wort.Range{Lo: n[0], Hi: n[1]}, Degrees: wort.Range{Lo: n[2], Hi: n[3]}, Room: n[4]}
		h.Vessels = append(h.Vessels, v)
		return firstOf(api.ErrRange, !isKnown(v.Gallons, 60) || !isKnown(v.Degrees, 120) || v.Room > 60, api.ErrLimit, len(h.Vessels) == 5)
	}
	x := wort.Step{Kind: slices.Index([]string{"move", "water", "boil"}, word), From: n[0], To: n[0]}
	if word == "move" {
		x.To = n[1]
	}
	l := n[len(n)-2:]
	x.Gallons = wort.Range{Lo: l[0], Hi: l[1]}
	h.Steps = append(h.Steps, x)
	return firstOf(api.ErrNone, max(x.From, x.To) >= len(h.Vessels), api.ErrRange, word == "move" && x.From == x.To || !isKnown(x.Gallons, 60), api.ErrLimit, len(h.Steps) == 7)
}

// inAccount does what the lines of the account do.
func inAccount(s *book.State, word string, n []int) api.Errno {
	a := &s.Account
	day, last := n[0], n[len(n)-1]
	var x duty.Entry
	var of book.Source
	bad, none := day > 11, false
	switch word {
	case "rates":
		l := a.Rates
		a.Rates = append(l, duty.Rate{Day: day, Pence: last})
		return firstOf(api.ErrRange, bad || last > 100, api.ErrState, len(l) > 0 && l[len(l)-1].Day >= day, api.ErrLimit, len(l) == 4)
	case "interest":
		a.Interest = last
		return firstOf(api.ErrRange, last > 200)
	case "bond":
		a.Bond = last
		return api.OK
	case "purse":
		a.Purse = last
		return api.OK
	case "strike":
		if last >= len(a.Entries) {
			return api.ErrNone
		}
		a.Entries, s.Sources = slices.Delete(a.Entries, last, last+1), slices.Delete(s.Sources, last, last+1)
		return api.OK
	case "charge":
		x = duty.Entry{Kind: 0, Day: day, Units: duty.Range{Lo: n[1], Hi: last}}
		bad = bad || n[1] > last || last > 50
	case "pay":
		x = duty.Entry{Kind: 1, Day: day, Pence: last}
		bad = bad || last == 0
	case "draw":
		x = duty.Entry{Kind: 2, Day: day, Units: duty.Range{Lo: last, Hi: last}}
		bad = bad || last == 0 || last > 50
	case "owe":
		x = duty.Entry{Kind: 3, Day: day, Pence: last}
	case "levy":
		x, of, none = duty.Entry{Day: day}, book.Source{Kind: 1, Number: last}, last >= len(s.Store.Casks)
	case "brew":
		x, of, none = duty.Entry{Day: day}, book.Source{Kind: 2, Number: last}, last >= len(s.House.Vessels)
	}
	a.Entries, s.Sources = append(a.Entries, x), append(s.Sources, of)
	return firstOf(api.ErrRange, bad, api.ErrNone, none, api.ErrLimit, len(a.Entries) == 9)
}

// playedLines is the state after all lines, and their errors.
func playedLines(l []string) (s book.State, errors []api.Errno) {
	s = start()
	for _, line := range l {
		var e api.Errno
		s, e = executed(s, line)
		errors = append(errors, e)
	}
	return s, errors
}

// acceptedOf are the lines that are accepted.
func acceptedOf(l []string) (out []string) {
	_, errors := playedLines(l)
	for i, line := range l {
		if errors[i] == api.OK {
			out = append(out, line)
		}
	}
	return out
}

// fileOf is the file of the lines.
func fileOf(l []string) string {
	var b strings.Builder
	for i, line := range l {
		b.WriteString(recordOf(i, line))
	}
	return b.String()
}

// recordOf is the record of a line with an index.
func recordOf(i int, line string) string {
	check := 37 * (i + 1)
	for k := range len(line) {
		check += (k + 2) * int(line[k])
	}
	return fmt.Sprintf("%04d:%02d:%s\n", check%9941, len(line), line)
}
