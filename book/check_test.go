package book_test

import (
	"slices"
	"strings"
	"testing"

	"saccharum/api"
	"saccharum/book"
)

const (
	huge   = 1<<63 - 1
	lowest = -1 << 63
)

// lastOf executes a line after others, all of which are to be accepted, and checks that a refused line changes nothing.
func lastOf(t *testing.T, before []string, line string, want api.Errno) {
	was, errors, _ := book.Play(before)
	if slices.ContainsFunc(errors, func(e api.Errno) bool { return e != api.OK }) {
		t.Errorf("Play of %q: %v", before, errors)
	}
	s, l, e := book.Play(append(slices.Clone(before), line))
	if e != api.OK || len(l) != len(before)+1 || l[len(before)] != want {
		t.Errorf("Play of %q after %q: %v, %v, not %v", line, before, l, e, want)
	}
	if want != api.OK && text(s) != text(was) {
		t.Errorf("Play of %q, which is refused, after %q: %v, not %v", line, before, s, was)
	}
}

// TestP12_1Refused has for each word the conditions of the chapter, several of which may apply, and the ends of what is accepted.
func TestP12_1Refused(t *testing.T) {
	full := strings.Join(slices.Repeat(lines("cask 1 0 0 0 0"), 6), "; ")
	vessels := strings.Join(slices.Repeat(lines("vessel 1 1 1 1 60"), 4), "; ")
	steps := "vessel 1 1 1 1 60; vessel 1 1 1 1 60; " + strings.Join(slices.Repeat(lines("water 0 1 1"), 6), "; ")
	entries := "cask 1 0 0 0 0; vessel 1 1 1 1 60; " + strings.Join(slices.Repeat(lines("charge 0 9 9"), 8), "; ")
	rates := "rates 1 1; rates 3 1; rates 5 1; rates 7 1"
	for _, x := range []struct {
		before string
		of     map[api.Errno]string
	}{
		{"row 20", map[api.Errno]string{api.OK: "row 1; row 39; row 19; row 21", api.ErrRange: "row 41; row 9999", api.ErrTwice: "row 0; row 20; row 40"}},
		{"row 10; row 20; row 30", map[api.Errno]string{api.ErrRange: "row 41", api.ErrTwice: "row 0; row 10; row 20; row 30; row 40", api.ErrLimit: "row 1; row 25; row 39"}},
		{"column 30", map[api.Errno]string{api.OK: "column 1; column 59; column 29; column 31; column 41", api.ErrRange: "column 61; column 9999", api.ErrTwice: "column 0; column 30; column 60"}},
		{"column 10; column 20; column 30", map[api.Errno]string{api.ErrRange: "column 61", api.ErrTwice: "column 0; column 10; column 20; column 30; column 60", api.ErrLimit: "column 1; column 40; column 59"}},
		{"row 20", map[api.Errno]string{api.OK: "value 0 0 0; value 2 1 2000; row 30; column 30", api.ErrNone: "value 3 0 0; value 0 2 0; value 3 2 0; value 3 0 2001; value 0 2 2001; value 9999 9999 9999", api.ErrRange: "value 0 0 2001; value 2 1 9999"}},
		{"column 20", map[api.Errno]string{api.OK: "value 1 2 7", api.ErrNone: "value 2 0 0; value 0 3 0", api.ErrRange: "value 1 2 2001"}},
		{"", map[api.Errno]string{api.OK: "price 0; price 200", api.ErrRange: "price 201; price 9999"}},
		{"", map[api.Errno]string{api.OK: "cask 1 0 0 0 0; cask 99 40 40 60 60; cask 99 0 40 0 60", api.ErrRange: "cask 0 0 0 0 0; cask 100 0 0 0 0; cask 1 1 0 0 0; cask 1 0 0 1 0; cask 1 0 41 0 0; cask 1 41 41 0 0; cask 1 0 0 0 61; cask 1 0 0 61 61; cask 9999 0 0 0 0"}},
		{full, map[api.Errno]string{api.ErrRange: "cask 0 0 0 0 0; cask 1 0 0 1 0", api.ErrLimit: "cask 1 0 0 0 0; cask 99 0 40 0 60", api.OK: "read 5 0 0 0 0; gone 5", api.ErrNone: "read 6 0 0 0 0; gone 6"}},
		{"cask 1 0 0 0 0; cask 2 0 0 0 0", map[api.Errno]string{api.OK: "read 1 0 40 0 60; read 0 40 40 60 60", api.ErrNone: "read 2 0 0 0 0; read 2 1 0 0 0; read 2 0 41 0 0; read 9999 0 0 0 0", api.ErrRange: "read 0 1 0 0 0; read 1 0 0 1 0; read 0 0 41 0 0; read 1 0 0 0 61"}},
		{"cask 1 0 0 0 0; cask 2 0 0 0 0; levy 3 1; vessel 1 1 1 1 1; brew 3 0", map[api.Errno]string{api.OK: "gone 0", api.ErrNone: "gone 2; gone 9999", api.ErrState: "gone 1"}},
		{"", map[api.Errno]string{api.OK: "vessel 0 0 0 0 0; vessel 58 60 118 120 60; vessel 60 60 120 120 60; vessel 0 0 0 2 0", api.ErrRange: "vessel 1 0 0 0 60; vessel 0 0 1 0 60; vessel 0 3 0 0 60; vessel 0 0 0 3 60; vessel 61 61 0 0 60; vessel 60 61 0 0 60; vessel 0 0 121 121 60; vessel 0 0 119 121 60; vessel 0 0 0 0 61; vessel 0 0 0 0 9999"}},
		{vessels, map[api.Errno]string{api.ErrRange: "vessel 1 0 0 0 60; vessel 61 61 0 0 60", api.ErrLimit: "vessel 0 0 0 0 0; vessel 2 2 0 0 1; vessel 0 2 0 2 60", api.OK: "move 3 2 1 1; water 3 0 2; boil 2 0 0; brew 0 3", api.ErrNone: "move 4 3 1 1; move 3 4 1 1; water 4 0 0; boil 4 0 0; brew 0 4"}},
		{"vessel 9 9 1 1 60; vessel 9 9 1 1 60", map[api.Errno]string{api.OK: "move 0 1 0 0; move 1 0 7 9; water 0 51 51; boil 1 0 2", api.ErrNone: "move 0 2 1 1; move 2 0 1 1; move 2 2 1 1; move 0 2 1 0; move 2 1 61 61; water 2 1 1; water 2 1 0; boil 2 1 1; boil 2 61 61; water 9999 0 0", api.ErrRange: "move 0 0 1 1; move 1 1 1 1; move 0 1 1 0; move 0 1 0 3; move 0 1 61 61; move 0 1 60 61; water 0 1 0; water 0 0 3; water 1 61 61; boil 1 2 1; boil 1 1 4; boil 0 60 61"}},
		{steps, map[api.Errno]string{api.ErrNone: "move 2 0 1 1; water 2 1 1; boil 2 1 1", api.ErrRange: "move 0 0 1 1; water 0 1 0; boil 0 61 61", api.ErrLimit: "move 0 1 1 1; move 0 1 60 60; water 0 0 0; boil 0 1 1", api.OK: "undo"}},
		{"", map[api.Errno]string{api.ErrNone: "undo; move 0 0 1 1; water 0 0 0; boil 0 0 0; strike 0; gone 0; read 0 0 0 0 0; levy 0 0; brew 0 0; levy 11 9999; brew 11 9999; value 2 0 0"}},
		{"vessel 1 1 1 1 1", map[api.Errno]string{api.ErrNone: "undo; move 0 1 1 1; move 1 0 1 1", api.ErrRange: "move 0 0 1 1"}},
		{"rates 3 4", map[api.Errno]string{api.OK: "rates 4 0; rates 11 100; rates 4 4", api.ErrRange: "rates 12 4; rates 4 101; rates 3 101; rates 2 101; rates 9999 9999", api.ErrState: "rates 3 4; rates 0 0; rates 2 100"}},
		{"", map[api.Errno]string{api.OK: "rates 0 0; rates 11 100", api.ErrRange: "rates 12 0; rates 0 101"}},
		{rates, map[api.Errno]string{api.ErrLimit: "rates 8 1; rates 11 0", api.ErrState: "rates 7 1; rates 4 1; rates 0 0", api.ErrRange: "rates 12 0; rates 3 101"}},
		{"", map[api.Errno]string{api.OK: "interest 0; interest 200; bond 0; bond 9999; purse 0; purse 9999", api.ErrRange: "interest 201; interest 9999"}},
		{"", map[api.Errno]string{api.OK: "charge 0 0 0; charge 11 50 50; charge 3 0 50; pay 0 1; pay 11 9999; owe 11 0", api.ErrRange: "charge 12 0 0; charge 0 1 0; charge 0 0 51; charge 0 51 51; charge 0 9999 9999; pay 12 1; pay 0 0; draw 12 1; draw 0 0; draw 0 51; owe 12 0; levy 12 0; brew 12 0"}},
		{"charge 0 9 9; cask 1 0 0 0 0; vessel 1 1 1 1 1", map[api.Errno]string{api.OK: "draw 0 1; draw 11 9; levy 0 0; levy 11 0; brew 0 0; brew 11 0", api.ErrNone: "levy 0 1; brew 0 1", api.ErrRange: "levy 12 0; brew 12 0; levy 12 1; brew 12 1; levy 9999 9999"}},
		{entries, map[api.Errno]string{api.ErrRange: "charge 12 0 0; charge 0 1 0; pay 0 0; draw 0 51; owe 12 0; levy 12 0; brew 12 0; levy 12 1; brew 12 1", api.ErrNone: "levy 0 1; brew 0 1; strike 8; strike 9999", api.ErrLimit: "charge 0 0 0; charge 0 0 50; pay 0 1; draw 0 1; draw 0 50; owe 0 0; owe 0 9; levy 0 0; brew 0 0", api.OK: "strike 0; strike 7; gone 0"}},
	} {
		for want, all := range x.of {
			for _, line := range lines(all) {
				lastOf(t, lines(x.before), line, want)
			}
		}
	}
}

// TestP12_1Form has lines that have the form of no word, also where something else would be refused.
func TestP12_1Form(t *testing.T) {
	for _, line := range []string{
		"", " ", "  ", "\n", "\x00", "nothing", "price", "price ", " price 1", "price 1 ", "price  1", "price 1  ", "price\t1", "price 1\n", "price 1 2", "price -1", "price -0", "price +1", "price 01", "price 00", "price 0000", "price 10000", "price 99999", "price 12345678901234567890", "price 9223372036854775807", "price 0x1", "price 1_0", "price 1.0", "price 1e1", "price x", "price 1x", "price x1", "price \xff", "price \u0661", "price \u00a01", "price;1", "Price 1", "PRICE 1", "prices 1", "pric 1", "\xffprice 1", "1", "1 price", "1 1",
		"row", "row 20 20", "row 020", "column", "column 1 1", "column -1", "value 0 0", "value 0 0 0 0", "value 0 0 02001", "cask 1 0 0 0", "cask 1 0 0 0 0 0", "cask 1 0 0 0 ", "cask 0 0 0 0 00", "read 0 0 0 0", "read 9 0 0 0 0 0", "gone", "gone 9 9", "vessel 0 0 0 0", "vessel 0 0 0 0 0 0", "move 0 1 1", "move 0 1 1 1 1", "move 0 0 1 01", "water 0 1", "water 0 0 1 1", "boil 0 1", "boil 0 0 1 1", "undo 0", "undo ", " undo", "undone", "undo\n", "rates 0", "rates 0 1 1", "interest", "interest 1 1", "interest 0201", "bond", "bond 1 1", "bond 10000", "purse", "purse 1 1", "purse 99999", "charge 0 1", "charge 0 1 1 1", "levy 0", "levy 0 0 0", "brew 0", "brew 0 0 0", "pay 0", "pay 0 1 1", "pay 0 -1", "draw 0", "draw 0 1 1", "owe 0", "owe 0 1 1", "owe 0 -1", "strike", "strike 0 0", "strike -1",
	} {
		lastOf(t, nil, line, api.ErrForm)
		lastOf(t, firstLines(), line, api.ErrForm)
		lastOf(t, firstLines("read 0 0 0 0 0"), line, api.ErrForm)
	}
}

// TestP12_1Stands has lines after which a state would not stand, also by several conditions.
func TestP12_1Stands(t *testing.T) {
	const wide = "vessel 0 2 0 2 60; vessel 0 2 0 2 60; vessel 0 2 0 2 60; water 0 0 1"
	const sinks = "cask 99 0 0 0 0; levy 0 0; charge 0 0 50; charge 0 0 18"
	for _, x := range []struct {
		before string
		of     map[api.Errno]string
	}{
		// 1458 numbers of the brewhouse are not too many, 2916 are.
		{wide, map[api.Errno]string{api.ErrLimit: "water 0 0 1; move 0 1 0 2; vessel 0 1 0 0 60; vessel 0 0 5 6 60; move 0 1 59 60", api.OK: "water 0 1 1; water 0 60 60; vessel 0 0 0 0 60", api.ErrFail: "boil 0 9 9; vessel 1 1 0 0 0"}},
		{"vessel 0 2 0 2 60; vessel 0 2 0 2 60; vessel 0 2 0 1 60; vessel 1 1 0 1 60; water 0 0 1", map[api.Errno]string{api.OK: "move 3 2 0 0", api.ErrLimit: "move 3 2 0 2; water 0 59 60"}},
		{"vessel 5 5 1 1 9", map[api.Errno]string{api.ErrFail: "boil 0 5 5; boil 0 6 6; water 0 5 5; vessel 5 5 1 1 4", api.OK: "boil 0 4 6; water 0 4 5; vessel 4 5 1 1 4; vessel 60 60 1 1 60"}},
		// The brewhouse comes before the units, and these before the account.
		{"vessel 50 50 0 0 60; brew 0 0", map[api.Errno]string{api.ErrSink: "water 0 1 1; water 0 0 1; water 0 10 10", api.ErrFail: "water 0 11 11; boil 0 51 51", api.OK: "water 0 0 0; boil 0 1 1; vessel 60 60 0 0 60"}},
		{"vessel 49 49 0 0 60; brew 0 0", map[api.Errno]string{api.OK: "water 0 0 1; boil 0 49 49", api.ErrSink: "water 0 0 2"}},
		{"vessel 51 51 0 0 60; vessel 49 51 0 0 60", map[api.Errno]string{api.ErrSink: "brew 0 0; brew 0 1; brew 11 0", api.OK: "boil 0 1 1; vessel 60 60 0 0 60"}},
		{"vessel 40 42 0 2 60; vessel 40 42 0 2 60; vessel 40 42 0 2 60; brew 0 1; draw 0 40", map[api.Errno]string{api.ErrLimit: "move 0 1 9 11", api.ErrSink: "move 0 1 9 9; move 0 1 20 20", api.ErrFail: "move 0 1 21 21; boil 1 3 3; owe 0 1", api.OK: "move 0 1 8 8; boil 1 2 2"}},
		{"cask 99 0 0 0 0; levy 0 0", map[api.Errno]string{api.OK: "read 0 0 0 10 10; value 0 0 515; value 0 1 2000", api.ErrSink: "read 0 0 0 10 11; read 0 0 0 11 11; read 0 0 0 0 60; value 0 0 516; value 0 0 2000"}},
		{"cask 50 0 0 0 60; cask 9 0 0 0 60", map[api.Errno]string{api.ErrSink: "levy 0 0; levy 11 0", api.OK: "levy 0 1"}},
		{sinks, map[api.Errno]string{api.ErrLimit: "read 0 0 40 0 0; charge 0 0 1; charge 0 49 50", api.ErrSink: "read 0 0 0 11 11; read 0 0 40 11 11; value 0 0 2000", api.OK: "charge 0 9 9; read 0 0 1 0 0; read 0 5 5 5 5"}},
		// 969 lists of units are not too many, 1938 are; 1000 are not, 1020 are.
		{"charge 0 0 18; charge 0 0 50", map[api.Errno]string{api.OK: "charge 0 7 7; pay 0 1; draw 0 50", api.ErrLimit: "charge 0 7 8; charge 11 0 50", api.ErrFail: "owe 0 1"}},
		{"charge 0 0 9; charge 0 0 9; vessel 1 1 0 0 60; brew 0 0", map[api.Errno]string{api.OK: "charge 0 0 9; water 0 0 2", api.ErrLimit: "charge 0 0 10"}},
		{"charge 0 0 16; charge 0 0 19; vessel 1 1 0 0 60; brew 0 0", map[api.Errno]string{api.OK: "water 0 0 1; charge 0 0 1", api.ErrLimit: "water 0 0 2; charge 0 0 2"}},
		// Drawbacks and statements have to be true in some truth.
		{"rates 0 5; charge 0 3 5; draw 1 4", map[api.Errno]string{api.ErrFail: "draw 1 2; strike 0; owe 0 14; owe 0 10; owe 1 10", api.OK: "owe 0 20; owe 0 25; owe 1 5; draw 2 1; strike 1", api.ErrState: "rates 0 4"}},
		{"rates 0 5; cask 10 0 0 0 10; levy 0 0; owe 0 20", map[api.Errno]string{api.OK: "read 0 0 0 5 5; value 0 0 490; interest 200; strike 1; charge 0 1 1; rates 1 6", api.ErrFail: "read 0 0 0 0 0; read 0 0 0 10 10; value 0 0 500; strike 0; value 0 1 0"}},
		{"interest 100; rates 0 10; charge 0 9 9; owe 1 91", map[api.Errno]string{api.ErrFail: "interest 200; interest 0; strike 0; pay 0 1", api.OK: "interest 50; pay 2 1; rates 1 5; bond 0; purse 9999"}},
		{"charge 0 9 9; owe 1 0", map[api.Errno]string{api.ErrFail: "rates 0 1", api.OK: "rates 1 1; interest 9; rates 2 5"}},
		{"vessel 9 9 0 0 60; brew 0 0; draw 0 9", map[api.Errno]string{api.ErrFail: "boil 0 1 1; strike 0", api.OK: "boil 0 0 1; water 0 1 1"}},
		{"vessel 9 9 0 0 60; brew 0 0; draw 0 9; water 0 1 1; draw 1 1", map[api.Errno]string{api.ErrFail: "undo; strike 0", api.OK: "strike 2; strike 1"}},
	} {
		for want, all := range x.of {
			for _, line := range lines(all) {
				lastOf(t, lines(x.before), line, want)
			}
		}
	}
}

// TestP12_1Limits has lines that are no session, with all calls that have lines.
func TestP12_1Limits(t *testing.T) {
	long := strings.Repeat("1", 61)
	for _, x := range []struct {
		l    []string
		want api.Errno
	}{
		{nil, api.OK}, {[]string{}, api.OK}, {make([]string, 40), api.OK}, {[]string{strings.Repeat("1", 60)}, api.OK}, {slices.Repeat([]string{strings.Repeat("\xff", 60)}, 40), api.OK}, {slices.Repeat(lines("bond 9999"), 40), api.OK},
		{make([]string, 41), api.ErrLimit}, {make([]string, 1000), api.ErrLimit}, {[]string{long}, api.ErrLimit}, {firstLines(long), api.ErrLimit}, {slices.Insert(firstLines(), 0, long), api.ErrLimit}, {append(slices.Repeat([]string{"bond 1"}, 39), long), api.ErrLimit}, {slices.Repeat([]string{long}, 41), api.ErrLimit}, {[]string{strings.Repeat(" ", 10000)}, api.ErrLimit}, {[]string{"bond " + strings.Repeat("0", 55) + "1"}, api.ErrLimit}, {[]string{strings.Repeat("\u00e4", 31)}, api.ErrLimit},
	} {
		s, errors, a := book.Play(x.l)
		c, b := book.Casks(x.l)
		_, d := book.Owed(x.l, 0)
		r, f := book.Report(x.l)
		w, g := book.Write(x.l)
		m, h := book.Resume(nil, x.l)
		for i, e := range []api.Errno{a, b, d, f, g, h} {
			if e != x.want {
				t.Errorf("call %d of %.99q: %v, not %v", i, x.l, e, x.want)
			}
		}
		if x.want == api.OK {
			if len(errors) != len(x.l) || len(r) == 0 || text(s) == text(book.State{}) {
				t.Errorf("calls of %q: %v, %v, %q", x.l, s, errors, r)
			}
			continue
		}
		v, i := book.Vessels(x.l)
		if text(s) != text(book.State{}) || len(errors)+len(c)+len(r)+len(w)+len(m)+len(v) != 0 || i != api.ErrLimit {
			t.Errorf("calls of %.99q: %v, %v, %v, %q, %q, %q, %v, %v", x.l, s, errors, c, r, w, m, v, i)
		}
		// Too many lines, or one that is too long, comes before all else.
		for _, day := range []int{-1, 12, huge, lowest} {
			if n, e := book.Owed(x.l, day); e != api.ErrLimit || n.Lo != 0 || n.Hi != 0 {
				t.Errorf("Owed of %.99q, %d: %v, %v", x.l, day, n, e)
			}
		}
		if m, e := book.Resume([]byte(fileOf(firstLines())), x.l); len(m) != 0 || e != api.ErrLimit {
			t.Errorf("Resume with %.99q: %q, %v", x.l, m, e)
		}
	}
}
