package book_test

import (
	"math/rand"
	"slices"
	"testing"

	"saccharum/api"
	"saccharum/book"
	"saccharum/duty"
	"saccharum/proof"
	"saccharum/wort"
)

// withLast plays accepted lines and one more; the state is that after all of them, which differs only if the last one is accepted.
func withLast(t *testing.T, l []string, line string) (book.State, api.Errno) {
	s, errors, e := book.Play(append(slices.Clone(l), line))
	if e != api.OK || len(errors) != len(l)+1 || slices.ContainsFunc(errors[:len(l)], func(e api.Errno) bool { return e != api.OK }) {
		t.Fatalf("Play of %q and %q: %v, %v", l, line, errors, e)
	}
	return s, errors[len(l)]
}

// openStates are those of the short sessions after which at least so many lines have room.
func openStates(room int) (out []played) {
	for _, x := range states() {
		if len(x.lines)+room <= api.MaxBookSession {
			out = append(out, x)
		}
	}
	return out
}

func TestP12_7Again(t *testing.T) {
	refused := 0
	for _, l := range sessions() {
		s, errors, _ := book.Play(l)
		var accepted []string
		for i, line := range l {
			if errors[i] == api.OK {
				accepted = append(accepted, line)
			}
		}
		refused += len(l) - len(accepted)
		if again := stateOf(t, accepted); text(again) != text(s) {
			t.Fatalf("Play of %q: %v; of the accepted lines alone: %v", l, s, again)
		}
	}
	if refused < 2000 {
		t.Errorf("only %d lines were refused", refused)
	}
}

func TestP12_7RefusedChangesNothing(t *testing.T) {
	random := rand.New(rand.NewSource(7))
	refused := 0
	for _, x := range openStates(1) {
		for range 8 {
			line := randomLine(random, x.s, []func(*rand.Rand, book.State) string{storeLine, houseLine, accountLine})
			s, e := withLast(t, x.lines, line)
			if e == api.OK {
				continue
			}
			refused++
			if text(s) != text(x.s) {
				t.Fatalf("Play of %q and %q, which is refused: %v, not %v", x.lines, line, s, x.s)
			}
		}
	}
	if refused < 500 {
		t.Errorf("only %d lines were refused", refused)
	}
}

func TestP12_8ItStands(t *testing.T) {
	levied := 0
	for _, l := range sessions() {
		s, _, _ := book.Play(l)
		stands := proof.CheckStore(s.Store) == api.OK && duty.CheckAccount(s.Account) == api.OK && len(s.Sources) == len(s.Account.Entries)
		if len(s.House.Vessels) > 0 {
			_, e := wort.Bounds(s.House)
			stands = stands && e == api.OK
		} else {
			stands = stands && len(s.House.Steps) == 0
		}
		if _, e := duty.Bounds(s.Account); e != api.OK || !stands {
			t.Fatalf("Play of %q does not stand: %v", l, s)
		}
		for i, of := range s.Sources {
			count := []int{0, len(s.Store.Casks), len(s.House.Vessels)}[of.Kind]
			isLevied := s.Account.Entries[i].Kind == duty.Charge && of.Number < count && s.Account.Entries[i].Units.Hi <= api.MaxDutyUnits
			if of != (book.Source{}) && !isLevied {
				t.Fatalf("Play of %q: the entry %d of %v", l, i, s)
			}
			if of != (book.Source{}) {
				levied++
			}
		}
	}
	if levied < 200 {
		t.Errorf("only %d entries are levied", levied)
	}
}

// same reports whether two lists have the same elements.
func same[T comparable](l, m []T) bool { return slices.Equal(l, m) }

// leviedOn are the units of the entries that are levied on a cask, and of the others.
func leviedOn(s book.State, cask int) (on, others []duty.Range) {
	for i, x := range s.Account.Entries {
		if s.Sources[i] == (book.Source{Kind: book.OfCask, Number: cask}) {
			on = append(on, x.Units)
		} else {
			others = append(others, x.Units)
		}
	}
	return on, others
}

func TestP12_9WhatDependsOnIt(t *testing.T) {
	random := rand.New(rand.NewSource(9))
	changes := map[string]int{}
	for _, x := range openStates(1) {
		casks, _ := book.Casks(x.lines)
		vessels, e := book.Vessels(x.lines)
		for _, part := range []func(*rand.Rand, book.State) string{storeLine, storeLine, houseLine, accountLine} {
			line := part(random, x.s)
			after := append(slices.Clone(x.lines), line)
			s, refused := withLast(t, x.lines, line)
			if refused != api.OK {
				continue
			}
			word, n, _ := numbers(line)
			c, _ := book.Casks(after)
			v, f := book.Vessels(after)
			ofStore := slices.Contains(lines("row; column; value; price; cask; read; gone"), word)
			ofHouse := slices.Contains(lines("vessel; move; water; boil; undo"), word)
			if !ofHouse && (!same(v, vessels) || e != f) || !ofStore && !same(c, casks) {
				t.Fatalf("%q after %q: %v, %v, not %v, %v", line, x.lines, c, v, casks, vessels)
			}
			if !same(c, casks) {
				changes["casks"]++
			}
			if !same(v, vessels) {
				changes["vessels"]++
			}
			if word != "read" {
				continue
			}
			onBefore, othersBefore := leviedOn(x.s, n[0])
			on, others := leviedOn(s, n[0])
			if !same(others, othersBefore) {
				t.Fatalf("%q after %q changes other entries: %v, not %v", line, x.lines, s, x.s)
			}
			if !same(on, onBefore) {
				changes["levied"]++
			}
			changes["others"] += len(others)
		}
	}
	if changes["casks"] < 100 || changes["vessels"] < 100 || changes["levied"] < 10 || changes["others"] < 30 {
		t.Errorf("only so many changes: %v", changes)
	}
}

// TestP12_10Levied asks for the units of each levied entry by what Casks and Vessels return, also after the entry was written.
func TestP12_10Levied(t *testing.T) {
	changed := 0
	for _, l := range sessions() {
		s, _, _ := book.Play(l)
		casks, _ := book.Casks(l)
		vessels, _ := book.Vessels(l)
		for i, of := range s.Sources {
			want := s.Account.Entries[i].Units
			switch of.Kind {
			case book.OfCask:
				n, r := s.Store.Casks[of.Number].Gallons, casks[of.Number]
				want = units(n*r.Lo/1000, n*r.Hi/1000)
			case book.OfVessel:
				want = duty.Range(vessels[of.Number].Gallons)
			}
			if s.Account.Entries[i].Units != want {
				t.Fatalf("Play of %q: the entry %d of %v has not the units %v", l, i, s, want)
			}
		}
	}
	for _, x := range states() {
		s := start()
		for i, line := range x.lines {
			before := s
			s, _, _ = book.Play(x.lines[:i+1])
			word, _, _ := numbers(line)
			for j, of := range s.Sources {
				isOld := of != (book.Source{}) && word != "strike" && j < len(before.Sources)
				if isOld && s.Account.Entries[j].Units != before.Account.Entries[j].Units {
					changed++
				}
			}
		}
	}
	if changed < 100 {
		t.Errorf("only %d entries got other units after they were written", changed)
	}
}

// undoing are lines that add a cask, a step or an entry, and the words of those that remove it.
func undoing(random *rand.Rand, s book.State) map[string]string {
	add := map[string]string{
		lineOf("cask", 1+random.Intn(99), 3, 3+random.Intn(30), 5, 5+random.Intn(50)): lineOf("gone", len(s.Store.Casks)),
	}
	for line, n := range map[string]int{lineOf("charge", random.Intn(12), 5, 7): 0, lineOf("pay", random.Intn(12), 1+random.Intn(100)): 0, lineOf("draw", random.Intn(12), 1+random.Intn(3)): 0, lineOf("owe", random.Intn(12), 0): 0, lineOf("levy", random.Intn(12), 0): 0, lineOf("brew", random.Intn(12), 0): 0} {
		add[line] = lineOf("strike", n+len(s.Account.Entries))
	}
	for _, line := range []string{lineOf("move", 0, 1, 1, 2), lineOf("move", 1, 0, 0, 0), lineOf("water", 0, 1, 1), lineOf("boil", 0, random.Intn(2), 1)} {
		add[line] = "undo"
	}
	return add
}

func TestP12_11Undone(t *testing.T) {
	random := rand.New(rand.NewSource(11))
	undone := map[string]int{}
	for i, x := range openStates(2) {
		if i%2 == 0 {
			continue
		}
		for line, back := range undoing(random, x.s) {
			s, e := withLast(t, x.lines, line)
			if e != api.OK {
				continue
			}
			after, f := withLast(t, append(slices.Clone(x.lines), line), back)
			if f != api.OK || text(after) != text(x.s) || text(s) == text(x.s) {
				t.Fatalf("%q and %q after %q: %v, then %v, %v, not %v", line, back, x.lines, s, after, f, x.s)
			}
			word, _, _ := numbers(line)
			undone[word]++
		}
	}
	for _, word := range lines("cask; move; water; boil; charge; pay; draw; owe; levy; brew") {
		if undone[word] < 20 {
			t.Errorf("only %d lines of %q were undone", undone[word], word)
		}
	}
}

func TestP12_12Corrected(t *testing.T) {
	count := 0
	for _, x := range openStates(1) {
		l := []string{lineOf("bond", x.s.Account.Bond)}
		for i, c := range x.s.Store.Casks {
			l = append(l, lineOf("read", i, c.Warmth.Lo, c.Warmth.Hi, c.Mark.Lo, c.Mark.Hi))
		}
		for i, row := range x.s.Store.Table.Values {
			for j, value := range row {
				l = append(l, lineOf("value", i, j, value))
			}
		}
		for _, line := range l {
			if s, e := withLast(t, x.lines, line); e != api.OK || text(s) != text(x.s) {
				t.Fatalf("%q after %q: %v, %v, not %v", line, x.lines, s, e, x.s)
			}
			count++
		}
	}
	if count < 1000 {
		t.Errorf("only %d corrections", count)
	}
}

func TestP12_13AWiderReading(t *testing.T) {
	random := rand.New(rand.NewSource(13))
	accepted, wider := 0, 0
	for _, x := range openStates(1) {
		was, _ := duty.Bounds(x.s.Account)
		for i, c := range x.s.Store.Casks {
			if on, _ := leviedOn(x.s, i); len(on) == 0 {
				continue
			}
			for range 3 {
				w, m := c.Warmth, c.Mark
				line := lineOf("read", i, between(random, max(0, w.Lo-3), w.Lo), between(random, w.Hi, min(40, w.Hi+3)), between(random, max(0, m.Lo-3), m.Lo), between(random, m.Hi, min(60, m.Hi+3)))
				s, e := withLast(t, x.lines, line)
				if e != api.OK {
					continue
				}
				accepted++
				is, _ := duty.Bounds(s.Account)
				day := random.Intn(api.MaxDutyLast + 1)
				if r, e := book.Owed(append(slices.Clone(x.lines), line), day); r != is[day] || e != api.OK {
					t.Fatalf("Owed of %q after %q on the day %d: %v, %v, not %v", line, x.lines, day, r, e, is[day])
				}
				for day, r := range is {
					if r.Lo > was[day].Lo || r.Hi < was[day].Hi {
						t.Fatalf("the debt of the day %d, with %q after %q: %v, not %v", day, line, x.lines, r, was[day])
					}
					if r != was[day] {
						wider++
					}
				}
			}
		}
	}
	if accepted < 100 || wider < 200 {
		t.Errorf("only %d readings were accepted, and %d debts were less known", accepted, wider)
	}
}

// TestP12_14TheFile has the files of sessions, and each of their beginnings.
func TestP12_14TheFile(t *testing.T) {
	for i, l := range sessions() {
		b, e := book.Write(l)
		if got, n := book.Recover(b); !slices.Equal(got, l) || n != len(b) || e != api.OK {
			t.Fatalf("Recover of the file of %q: %q, %d, %v", l, got, n, e)
		}
		if i%8 != 0 {
			continue
		}
		whole, end := 0, 0
		for n := range len(b) + 1 {
			if whole < len(l) && n == end+9+len(l[whole]) {
				whole, end = whole+1, n
			}
			if got, m := book.Recover(b[:n]); !slices.Equal(got, l[:whole]) || m != end {
				t.Fatalf("Recover of the first %d bytes of %q: %q, %d", n, b, got, m)
			}
		}
	}
}

// TestP12_14OtherPlaces has records of the same lines at each other place than their own.
func TestP12_14OtherPlaces(t *testing.T) {
	for _, line := range []string{"", "a", "undo", "vessel 10 11 60 60 20", string(make([]byte, 60)), "\xff\xff\xff\xff\xff\xff\xff\xff"} {
		l := slices.Repeat([]string{line}, api.MaxBookSession)
		for place := range l {
			before := fileOf(l[:place])
			for index := range api.MaxBookSession + 1 {
				want, end := place, len(before)
				b := before + recordOf(index, line)
				if index == place {
					want, end = place+1, len(b)
				}
				if got, n := book.Recover([]byte(b)); len(got) != want || n != end {
					t.Fatalf("Recover of the record %d of %q at the place %d: %q, %d", index, line, place, got, n)
				}
			}
		}
	}
}

func TestP12_15AsIfNothingHadBeen(t *testing.T) {
	random := rand.New(rand.NewSource(15))
	for _, l := range sessions() {
		accepted := acceptedOf(l)
		file := fileOf(accepted)
		for _, empty := range [][]byte{nil, {}} {
			if b, e := book.Resume(empty, l); string(b) != file || e != api.OK {
				t.Fatalf("Resume of no bytes, %q: %q, %v, not %q", l, b, e, file)
			}
		}
		for _, n := range []int{0, len(file), random.Intn(len(file) + 1), random.Intn(len(file) + 1)} {
			left, _ := book.Recover([]byte(file[:n]))
			if b, e := book.Resume([]byte(file[:n]), accepted[len(left):]); string(b) != file || e != api.OK {
				t.Fatalf("Resume of the first %d bytes of %q: %q, %v", n, file, b, e)
			}
		}
	}
	l := firstLines()
	file := fileOf(l)
	for n := range len(file) + 1 {
		left, _ := book.Recover([]byte(file[:n]))
		if b, e := book.Resume([]byte(file[:n]), l[len(left):]); string(b) != file || e != api.OK {
			t.Fatalf("Resume of the first %d bytes of %q: %q, %v", n, file, b, e)
		}
	}
}
