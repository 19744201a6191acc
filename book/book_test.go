package book_test

import (
	"fmt"
	"math/rand"
	"slices"
	"strings"
	"testing"

	"saccharum/api"
	"saccharum/book"
	"saccharum/duty"
	"saccharum/proof"
	"saccharum/table"
	"saccharum/wort"
)

func cask(gallons, w, v, m, n int) proof.Cask {
	return proof.Cask{Gallons: gallons, Warmth: proof.Range{Lo: w, Hi: v}, Mark: proof.Range{Lo: m, Hi: n}}
}

func gallons(low, high int) wort.Range { return wort.Range{Lo: low, Hi: high} }

func units(low, high int) duty.Range { return duty.Range{Lo: low, Hi: high} }

// example is the state after the first lines.
func example() book.State {
	return book.State{
		Store: proof.Store{
			Table: table.Table{Warmths: []int{0, 20, 40}, Marks: []int{0, 60}, Values: [][]int{{300, 1500}, {200, 1450}, {100, 1300}}},
			Rate:  120,
			Casks: []proof.Cask{cask(40, 20, 20, 30, 30), cask(30, 10, 12, 60, 60)},
		},
		House: wort.Brewhouse{
			Vessels: []wort.Vessel{{Gallons: gallons(10, 11), Degrees: gallons(60, 60), Room: 20}, {Gallons: gallons(5, 5), Degrees: gallons(30, 30), Room: 12}},
			Steps:   []wort.Step{{Kind: wort.Move, From: 0, To: 1, Gallons: gallons(4, 4)}, {Kind: wort.Water, Gallons: gallons(2, 2)}},
		},
		Account: duty.Account{
			Last: 11, Interest: 100, Bond: 300, Purse: 50,
			Rates: []duty.Rate{{Day: 0, Pence: 2}, {Day: 6, Pence: 3}},
			Entries: []duty.Entry{
				{Kind: duty.Charge, Day: 0, Units: units(33, 33)},
				{Kind: duty.Charge, Day: 1, Units: units(9, 9)},
				{Kind: duty.Payment, Day: 2, Pence: 40},
				{Kind: duty.Charge, Day: 7, Units: units(5, 6)},
				{Kind: duty.Drawback, Day: 8, Units: units(4, 4)},
			},
		},
		Sources: []book.Source{{Kind: book.OfCask}, {Kind: book.OfVessel, Number: 1}, {}, {}, {}},
	}
}

// stateOf is the state after lines, all of which are to be accepted.
func stateOf(t *testing.T, l []string) book.State {
	s, errors, e := book.Play(l)
	if e != api.OK || len(errors) != len(l) || slices.ContainsFunc(errors, func(e api.Errno) bool { return e != api.OK }) {
		t.Fatalf("Play of %q: %v, %v", l, errors, e)
	}
	return s
}

func TestP12_1Examples(t *testing.T) {
	if book.OfCask != 1 || book.OfVessel != 2 {
		t.Errorf("the kinds of sources: %d, %d", book.OfCask, book.OfVessel)
	}
	if s := stateOf(t, nil); text(s) != text(start()) {
		t.Errorf("Play of nothing: %v", s)
	}
	if s := stateOf(t, firstLines()); text(s) != text(example()) {
		t.Errorf("Play of the first lines: %v", s)
	}
	for line, want := range map[string]api.Errno{
		"read 0 20 20 60 60": api.ErrSink, "gone 0": api.ErrState, "gone 1": api.OK, "boil 1 9 9": api.ErrFail, "owe 5 50": api.ErrFail, "owe 5 49": api.OK,
		"row 20": api.ErrTwice, "row 41": api.ErrRange, "rates 6 4": api.ErrState, "value 3 0 0": api.ErrNone, "move 0 0 1 1": api.ErrRange, "price": api.ErrForm, "levy 12 0": api.ErrRange, "levy 0 2": api.ErrNone,
	} {
		lastOf(t, firstLines(), line, want)
	}
	// A line is refused alone: those after it are executed.
	s, errors, e := book.Play(lines("price 7; price 201; bond 5; nothing; gone 0; purse 6"))
	want := []api.Errno{api.OK, api.ErrRange, api.OK, api.ErrForm, api.ErrNone, api.OK}
	if s.Store.Rate != 7 || s.Account.Bond != 5 || s.Account.Purse != 6 || !slices.Equal(errors, want) || e != api.OK {
		t.Errorf("Play of lines, some of which are refused: %v, %v, %v", s, errors, e)
	}
}

// TestP12_1Words has what an accepted line of each word changes in the state after the first lines.
func TestP12_1Words(t *testing.T) {
	entered := func(x duty.Entry, kind, number int) func(s *book.State) {
		return func(s *book.State) {
			s.Account.Entries, s.Sources = append(s.Account.Entries, x), append(s.Sources, book.Source{Kind: kind, Number: number})
		}
	}
	struck := func(n int) func(s *book.State) {
		return func(s *book.State) {
			s.Account.Entries, s.Sources = slices.Delete(s.Account.Entries, n, n+1), slices.Delete(s.Sources, n, n+1)
		}
	}
	stepped := func(x wort.Step, units duty.Range) func(s *book.State) {
		return func(s *book.State) {
			s.House.Steps, s.Account.Entries[1].Units = append(s.House.Steps, x), units
		}
	}
	for line, change := range map[string]func(s *book.State){
		"row 10": func(s *book.State) {
			s.Store.Table.Warmths, s.Store.Table.Values = []int{0, 10, 20, 40}, [][]int{{300, 1500}, {250, 1475}, {200, 1450}, {100, 1300}}
		},
		"row 37": func(s *book.State) {
			s.Store.Table.Warmths, s.Store.Table.Values = []int{0, 20, 37, 40}, [][]int{{300, 1500}, {200, 1450}, {115, 1323}, {100, 1300}}
		},
		"column 25": func(s *book.State) {
			s.Store.Table.Marks, s.Store.Table.Values = []int{0, 25, 60}, [][]int{{300, 800, 1500}, {200, 721, 1450}, {100, 600, 1300}}
		},
		"value 2 0 99":   func(s *book.State) { s.Store.Table.Values[2][0] = 99 },
		"value 0 1 2000": func(s *book.State) { s.Store.Table.Values[0][1] = 2000 },
		"value 1 1 1455": func(s *book.State) { s.Store.Table.Values[1][1] = 1455 },
		"value 1 1 1500": func(s *book.State) {
			s.Store.Table.Values[1][1], s.Account.Entries[0].Units = 1500, units(34, 34)
		},
		"price 0":        func(s *book.State) { s.Store.Rate = 0 },
		"cask 7 1 2 3 4": func(s *book.State) { s.Store.Casks = append(s.Store.Casks, cask(7, 1, 2, 3, 4)) },
		"read 1 1 2 3 4": func(s *book.State) { s.Store.Casks[1] = cask(30, 1, 2, 3, 4) },
		"read 0 10 30 44 45": func(s *book.State) {
			s.Store.Casks[0], s.Account.Entries[0].Units = cask(40, 10, 30, 44, 45), units(41, 46)
		},
		"gone 1": func(s *book.State) { s.Store.Casks = s.Store.Casks[:1] },
		"vessel 1 2 3 4 5": func(s *book.State) {
			s.House.Vessels = append(s.House.Vessels, wort.Vessel{Gallons: gallons(1, 2), Degrees: gallons(3, 4), Room: 5})
		},
		"move 1 0 2 3": stepped(wort.Step{Kind: 0, From: 1, To: 0, Gallons: gallons(2, 3)}, units(6, 7)),
		"water 1 1 2":  stepped(wort.Step{Kind: 1, From: 1, To: 1, Gallons: gallons(1, 2)}, units(10, 11)),
		"boil 0 3 5":   stepped(wort.Step{Kind: 2, From: 0, To: 0, Gallons: gallons(3, 5)}, units(9, 9)),
		"boil 1 8 8":   stepped(wort.Step{Kind: 2, From: 1, To: 1, Gallons: gallons(8, 8)}, units(1, 1)),
		"undo":         func(s *book.State) { s.House.Steps = s.House.Steps[:1] },
		"rates 7 99":   func(s *book.State) { s.Account.Rates = append(s.Account.Rates, duty.Rate{Day: 7, Pence: 99}) },
		"interest 3":   func(s *book.State) { s.Account.Interest = 3 },
		"bond 4":       func(s *book.State) { s.Account.Bond = 4 },
		"purse 9998":   func(s *book.State) { s.Account.Purse = 9998 },
		"charge 3 7 9": entered(duty.Entry{Kind: duty.Charge, Day: 3, Units: units(7, 9)}, 0, 0),
		"levy 11 1":    entered(duty.Entry{Kind: duty.Charge, Day: 11, Units: units(44, 44)}, book.OfCask, 1),
		"levy 4 0":     entered(duty.Entry{Kind: duty.Charge, Day: 4, Units: units(33, 33)}, book.OfCask, 0),
		"brew 5 0":     entered(duty.Entry{Kind: duty.Charge, Day: 5, Units: units(8, 9)}, book.OfVessel, 0),
		"pay 6 12":     entered(duty.Entry{Kind: duty.Payment, Day: 6, Pence: 12}, 0, 0),
		"draw 9 13":    entered(duty.Entry{Kind: duty.Drawback, Day: 9, Units: units(13, 13)}, 0, 0),
		"owe 5 49":     entered(duty.Entry{Kind: duty.Statement, Day: 5, Pence: 49}, 0, 0),
		"strike 0":     struck(0),
		"strike 2":     struck(2),
		"strike 4":     struck(4),
	} {
		want := example()
		change(&want)
		if s := stateOf(t, firstLines(line)); text(s) != text(want) {
			t.Errorf("Play with %q: %v, not %v", line, s, want)
		}
	}
}

// TestP12_1Numbers has casks, entries and their sources that get other numbers.
func TestP12_1Numbers(t *testing.T) {
	const casks = "cask 10 0 0 0 0; cask 20 0 0 0 0; cask 30 0 0 0 0; cask 40 0 0 0 0; vessel 7 7 0 0 9; vessel 8 8 0 0 9; vessel 9 9 0 0 9"
	for _, x := range []struct {
		lines   string
		gallons []int
		sources []book.Source
		units   []int
	}{
		{casks + "; levy 0 3; brew 0 2; levy 0 1; charge 0 5 5; levy 0 3; gone 2", []int{10, 20, 40}, []book.Source{{1, 2}, {2, 2}, {1, 1}, {}, {1, 2}}, []int{12, 9, 6, 5, 12}},
		{casks + "; levy 0 3; brew 0 2; brew 0 1; gone 0; gone 0; gone 0", []int{40}, []book.Source{{1, 0}, {2, 2}, {2, 1}}, []int{12, 9, 8}},
		{casks + "; levy 0 2; brew 0 0; levy 0 1; gone 0; read 1 0 0 30 30; strike 1; gone 2", []int{20, 30}, []book.Source{{1, 1}, {1, 0}}, []int{27, 6}},
		{casks + "; levy 0 3; strike 0; gone 3; levy 0 0; gone 2; gone 1", []int{10}, []book.Source{{1, 0}}, []int{3}},
		{casks + "; levy 0 0; levy 0 1; levy 0 2; strike 1; gone 1; cask 50 0 0 0 0; levy 0 3", []int{10, 30, 40, 50}, []book.Source{{1, 0}, {1, 1}, {1, 3}}, []int{3, 9, 15}},
		{casks + "; brew 0 2; gone 3; gone 1; water 2 0 0; brew 0 1; strike 0; cask 9 0 0 0 0", []int{10, 30, 9}, []book.Source{{2, 1}}, []int{8}},
	} {
		s := stateOf(t, lines(x.lines))
		var gallons, units []int
		for _, c := range s.Store.Casks {
			gallons = append(gallons, c.Gallons)
		}
		for _, y := range s.Account.Entries {
			units = append(units, y.Units.Lo)
		}
		if !slices.Equal(gallons, x.gallons) || !slices.Equal(s.Sources, x.sources) || !slices.Equal(units, x.units) {
			t.Errorf("Play of %q: %v, %v, %v", x.lines, gallons, s.Sources, units)
		}
	}
}

// TestP12_1Play compares states and errors with those of the reference.
func TestP12_1Play(t *testing.T) {
	met := map[string]map[api.Errno]int{}
	for _, l := range sessions() {
		want, refused := playedLines(l)
		s, errors, e := book.Play(l)
		if text(s) != text(want) || !slices.Equal(errors, refused) || e != api.OK {
			t.Fatalf("Play of %q: %v, %v, %v, not %v, %v", l, s, errors, e, want, refused)
		}
		for i, line := range l {
			word, _, _ := strings.Cut(line, " ")
			if met[word] == nil {
				met[word] = map[api.Errno]int{}
			}
			met[word][errors[i]]++
		}
	}
	for word := range letters {
		if met[word][api.OK] < 20 || met[word][api.ErrForm] < 5 {
			t.Errorf("lines of %q: %v", word, met[word])
		}
	}
	all := map[api.Errno]int{}
	for _, x := range met {
		for e, count := range x {
			all[e] += count
		}
	}
	for e, least := range map[api.Errno]int{api.ErrRange: 400, api.ErrLimit: 400, api.ErrForm: 500, api.ErrTwice: 30, api.ErrNone: 500, api.ErrState: 50, api.ErrFail: 300, api.ErrSink: 50} {
		if all[e] < least {
			t.Errorf("only %d lines had the error %v", all[e], e)
		}
	}
}

// TestP12_1AnyLines has lines of any bytes, which no call may panic with.
func TestP12_1AnyLines(t *testing.T) {
	random := rand.New(rand.NewSource(1))
	for range 300 {
		l := anyLines(random)
		want, refused := playedLines(l)
		s, errors, e := book.Play(l)
		if text(s) != text(want) || !slices.Equal(errors, refused) || e != api.OK {
			t.Fatalf("Play of %q: %v, %v, %v, not %v, %v", l, s, errors, e, want, refused)
		}
	}
}

// TestP12_1Memory has results that are written to: neither arguments nor other results may change.
func TestP12_1Memory(t *testing.T) {
	l := firstLines("column 30", "row 30")
	same := slices.Clone(l)
	s, errors, _ := book.Play(l)
	before, again := text(s), copied(s)
	for i := range s.Store.Table.Values {
		x := copied(s)
		row := s.Store.Table.Values[i]
		s.Store.Table.Values[i] = append(row, 1, 2, 3)[:len(row)]
		if text(s) != text(x) {
			t.Errorf("a value after the row %d is that of another row: %v, not %v", i, s, x)
		}
	}
	_, _, _ = append(s.Store.Table.Warmths, 1, 2), append(s.Store.Table.Marks, 3, 4), append(s.Account.Entries, duty.Entry{Day: 3})
	_, _, _ = append(s.Store.Casks, proof.Cask{}), append(s.House.Steps, wort.Step{}), append(s.Sources, book.Source{Kind: 9})
	if text(s) != before || text(s) != text(again) {
		t.Errorf("lists of a state share memory: %v, not %v", s, again)
	}
	clear(s.Store.Table.Warmths)
	clear(s.Account.Entries)
	clear(errors)
	if s, _, _ := book.Play(l); text(s) != before || !slices.Equal(l, same) {
		t.Errorf("Play of %q: %v, not %s", l, s, before)
	}
	b, _ := book.Write(l)
	old := slices.Clone(b)
	read, _ := book.Recover(b)
	resumed, _ := book.Resume(b, lines("bond 7"))
	if !slices.Equal(b, old) || string(resumed) != fileOf(append(slices.Clone(l), "bond 7")) {
		t.Errorf("Recover or Resume of %q wrote to it: %q; %q", old, b, resumed)
	}
	clear(resumed)
	clear(b)
	if !slices.Equal(read, l) {
		t.Errorf("lines change with the bytes from which they were read: %q", read)
	}
}

func TestP12_2Examples(t *testing.T) {
	c, e := book.Casks(firstLines())
	if !slices.Equal(c, []proof.Range{{Lo: 825, Hi: 825}, {Lo: 1470, Hi: 1475}}) || e != api.OK {
		t.Errorf("Casks: %v, %v", c, e)
	}
	v, e := book.Vessels(firstLines())
	want := []wort.Bound{{Gallons: gallons(8, 9), Extract: gallons(360, 420), Gravity: gallons(45, 47)}, {Gallons: gallons(9, 9), Extract: gallons(390, 390), Gravity: gallons(43, 43)}}
	if !slices.Equal(v, want) || e != api.OK {
		t.Errorf("Vessels: %v, %v", v, e)
	}
	for _, l := range []string{"", "bond 1", "nothing", "vessel 1 1 1 1 0", "vessel 61 61 0 0 60; cask 1 0 0 0 0; water 0 1 1"} {
		if v, e := book.Vessels(lines(l)); len(v) != 0 || e != api.ErrNone {
			t.Errorf("Vessels of %q: %v, %v", l, v, e)
		}
	}
	for _, x := range []struct {
		lines string
		want  []proof.Range
	}{{"", nil}, {"price 3", nil}, {"cask 0 0 0 0 0", nil}, {"cask 1 0 0 0 0; gone 0", nil}, {"cask 1 0 40 0 60; cask 1 0 0 1 1; cask 0 0 0 0 0", []proof.Range{{Lo: 100, Hi: 1500}, {Lo: 320, Hi: 320}}}, {"cask 1 20 20 0 60; row 20; value 1 0 5; value 1 1 4", []proof.Range{{Lo: 4, Hi: 5}}}} {
		if c, e := book.Casks(lines(x.lines)); !slices.Equal(c, x.want) || e != api.OK {
			t.Errorf("Casks of %q: %v, %v", x.lines, c, e)
		}
	}
}

func TestP12_2CasksAndVessels(t *testing.T) {
	casks, vessels := 0, 0
	for _, l := range sessions() {
		s, _ := playedLines(l)
		var want []proof.Range
		for _, c := range s.Store.Casks {
			want = append(want, strengths(s.Store, c))
		}
		casks += len(want)
		if c, e := book.Casks(l); !slices.Equal(c, want) || e != api.OK {
			t.Fatalf("Casks of %q: %v, %v, not %v", l, c, e, want)
		}
		bounds, f := wort.Bounds(s.House)
		if len(s.House.Vessels) == 0 {
			f = api.ErrNone
		}
		vessels += len(bounds)
		if v, e := book.Vessels(l); !slices.Equal(v, bounds) || e != f {
			t.Fatalf("Vessels of %q: %v, %v, not %v, %v", l, v, e, bounds, f)
		}
	}
	if casks < 500 || vessels < 500 {
		t.Errorf("only %d casks, and %d vessels", casks, vessels)
	}
}

func TestP12_3Examples(t *testing.T) {
	for _, x := range []struct {
		lines []string
		day   int
		want  duty.Range
		e     api.Errno
	}{
		{firstLines(), 0, units(66, 66), api.OK}, {firstLines(), 1, units(85, 85), api.OK}, {firstLines(), 2, units(46, 46), api.OK}, {firstLines(), 7, units(66, 69), api.OK}, {firstLines(), 11, units(58, 61), api.OK}, {firstLines("read 0 20 20 45 45"), 0, units(90, 90), api.OK},
		{nil, 0, units(0, 0), api.OK}, {nil, 11, units(0, 0), api.OK}, {lines("pay 3 7; pay 3 8"), 2, units(0, 0), api.OK}, {lines("pay 3 7; pay 3 8"), 3, units(-15, -15), api.OK}, {lines("rates 4 9; charge 4 0 3; cask 7 0 0 0 60; levy 6 0"), 5, units(0, 27), api.OK}, {lines("rates 4 9; charge 4 0 3; cask 7 0 0 0 60; levy 6 0"), 11, units(18, 117), api.OK},
		{firstLines(), 12, units(0, 0), api.ErrRange}, {firstLines(), -1, units(0, 0), api.ErrRange}, {nil, huge, units(0, 0), api.ErrRange}, {nil, lowest, units(0, 0), api.ErrRange}, {make([]string, 40), 12, units(0, 0), api.ErrRange}, {make([]string, 41), 12, units(0, 0), api.ErrLimit}, {make([]string, 41), 3, units(0, 0), api.ErrLimit},
	} {
		if r, e := book.Owed(x.lines, x.day); r != x.want || e != x.e {
			t.Errorf("Owed of %q on the day %d: %v, %v", x.lines, x.day, r, e)
		}
	}
}

func TestP12_3Owed(t *testing.T) {
	several := 0
	for i, x := range states() {
		bounds, f := duty.Bounds(x.s.Account)
		if f != api.OK {
			t.Fatalf("the account after %q has no truth", x.lines)
		}
		for day, want := range bounds {
			if want.Lo < want.Hi {
				several++
			}
			if day%3 != i%3 && day < 11 {
				continue
			}
			if r, e := book.Owed(x.lines, day); r != want || e != api.OK {
				t.Fatalf("Owed of %q on the day %d: %v, %v, not %v", x.lines, day, r, e, want)
			}
		}
	}
	if several < 200 {
		t.Errorf("only %d debts are not known exactly", several)
	}
}

func TestP12_4Examples(t *testing.T) {
	const firstReport = "debt 58..61\nbond 1\ncask 825..825\ncask 1470..1475\nvessel 8..9 45..47\nvessel 9..9 43..43\n"
	for _, x := range []struct {
		lines []string
		want  string
	}{
		{firstLines(), firstReport}, {firstLines("nothing", "gone 0"), firstReport}, {firstLines("bond 84"), strings.Replace(firstReport, "bond 1", "bond 2", 1)}, {firstLines("bond 85"), firstReport},
		{nil, "debt 0..0\nbond 1\n"}, {lines("rates 0 1; charge 0 1 3; bond 2; pay 5 9"), "debt -8..-6\nbond 3\n"}, {lines("cask 1 0 0 0 0"), "debt 0..0\nbond 1\ncask 300..300\n"}, {lines("vessel 0 2 0 120 60; vessel 0 2 118 120 60"), "debt 0..0\nbond 1\nvessel 0..2 0..120\n"},
		{lines("rates 11 100; charge 11 50 50"), "debt 5000..5000\nbond 2\n"}, {lines("rates 11 100; charge 11 0 50"), "debt 0..5000\nbond 3\n"}, {lines("rates 0 1; charge 0 9 9; pay 11 9"), "debt 0..0\nbond 2\n"},
	} {
		if r, e := book.Report(x.lines); r != x.want || e != api.OK {
			t.Errorf("Report of %q: %q, %v", x.lines, r, e)
		}
	}
}

func TestP12_4Report(t *testing.T) {
	kinds := map[int]int{}
	for _, x := range states() {
		debts, _ := duty.Bounds(x.s.Account)
		kept, _ := duty.Kept(x.s.Account)
		want := fmt.Sprintf("debt %d..%d\nbond %d\n", debts[11].Lo, debts[11].Hi, kept)
		kinds[kept]++
		for _, c := range x.s.Store.Casks {
			r := strengths(x.s.Store, c)
			want += fmt.Sprintf("cask %d..%d\n", r.Lo, r.Hi)
		}
		vessels, _ := wort.Bounds(x.s.House)
		for _, v := range vessels {
			want += fmt.Sprintf("vessel %d..%d %d..%d\n", v.Gallons.Lo, v.Gallons.Hi, v.Gravity.Lo, v.Gravity.Hi)
		}
		if r, e := book.Report(x.lines); r != want || e != api.OK {
			t.Fatalf("Report of %q: %q, %v, not %q", x.lines, r, e, want)
		}
	}
	if kinds[duty.Always] < 50 || kinds[duty.Never] < 50 || kinds[duty.Perhaps] < 5 {
		t.Errorf("how often the bond is kept: %v", kinds)
	}
}
