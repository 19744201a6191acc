package duty_test

import (
	"math/rand"
	"reflect"
	"slices"
	"testing"

	"saccharum/api"
	"saccharum/duty"
)

// eachTruth calls the function for some truths of the accounts.
func eachTruth(accounts []duty.Account, do func(a duty.Account, truth []int)) {
	random := rand.New(rand.NewSource(10))
	for _, a := range accounts {
		truths := truthsOf(a)
		for range min(4, len(truths)) {
			do(a, truths[random.Intn(len(truths))])
		}
	}
}

// playOf are the debts in a truth.
func playOf(t *testing.T, a duty.Account, truth []int) []int {
	l, e := duty.Play(a, truth)
	if e != api.OK {
		t.Fatalf("Play of %v, %v: %v", a, truth, e)
	}
	return l
}

// leaveOf is the smallest set.
func leaveOf(t *testing.T, a duty.Account) []int {
	l, e := duty.Leave(a)
	if e != api.OK {
		t.Fatalf("Leave of %v: %v", a, e)
	}
	return l
}

// unstated is the account without its statements.
func unstated(a duty.Account) duty.Account {
	x := copied(a)
	isStatement := func(x duty.Entry) bool { return x.Kind == duty.Statement }
	x.Entries = slices.DeleteFunc(x.Entries, isStatement)
	return x
}

// unstatedAccounts are those that do not contradict themselves without statements.
func unstatedAccounts() (l []duty.Account) {
	for _, a := range allAccounts() {
		x := unstated(a)
		if _, e := duty.Bounds(x); e == api.OK {
			l = append(l, x)
		}
	}
	return l
}

func TestP10_5InEachTruth(t *testing.T) {
	ends := 0
	for _, a := range allAccounts() {
		bounds, e := duty.Bounds(a)
		var played [][]int
		for _, units := range unitLists(a) {
			l, f := duty.Play(a, units)
			if f != api.OK {
				continue
			}
			played = append(played, l)
			for day, debt := range l {
				if e != api.OK || !in(debt, bounds[day]) {
					t.Fatalf("Play of %v, %v: %v; Bounds: %v, %v", a, units, l, bounds, e)
				}
			}
		}
		if e == api.OK && !slices.Equal(boundsIn(played), bounds) {
			t.Fatalf("Bounds of %v: %v, but truths reach %v", a, bounds, boundsIn(played))
		}
		for _, r := range bounds {
			if r.Lo < r.Hi {
				ends++
			}
		}
	}
	if ends < 1000 {
		t.Errorf("only %d bounds have several debts", ends)
	}
}

// otherEntry is another entry of the same day, with units of it.
func otherEntry(random *rand.Rand, day int) (duty.Entry, int) {
	n := random.Intn(api.MaxDutyUnits + 1)
	switch random.Intn(3) {
	case 0:
		return charge(day, n, n), n
	case 1:
		return pay(day, n+1), 0
	}
	return back(day, 1), 1
}

func TestP10_6BackToADay(t *testing.T) {
	random := rand.New(rand.NewSource(11))
	same, others := 0, 0
	eachTruth(allAccounts(), func(a duty.Account, truth []int) {
		was := playOf(t, a, truth)
		for i, x := range a.Entries {
			other, units := copied(a), slices.Clone(truth)
			if random.Intn(2) == 0 {
				other.Entries[i], units[i] = otherEntry(random, x.Day)
			} else {
				other.Entries, units = slices.Delete(other.Entries, i, i+1), slices.Delete(units, i, i+1)
			}
			is, e := duty.Play(other, units)
			if e == api.ErrFalse {
				continue
			}
			if e != api.OK || !slices.Equal(is[:x.Day], was[:x.Day]) {
				t.Fatalf("Play of %v, %v: %v; of %v, %v: %v, %v", a, truth, was, other, units, is, e)
			}
			same += x.Day
			if !slices.Equal(is, was) {
				others++
			}
		}
	})
	if same < 5000 || others < 2000 {
		t.Errorf("only %d debts were the same, and %d lists were not", same, others)
	}
}

// added is what was charged, less what was paid and drawn back.
func added(a duty.Account, truth []int) int {
	sum := 0
	for i, x := range a.Entries {
		switch x.Kind {
		case duty.Charge:
			sum += truth[i] * rateOn(a, x.Day)
		case duty.Payment:
			sum -= x.Pence
		case duty.Drawback:
			sum -= truth[i] * rateOn(a, x.Day)
		}
	}
	return sum
}

// isNowhereBelow reports whether no number of a list is less than that of the other list.
func isNowhereBelow(l, other []int) bool {
	for i, n := range l {
		if n < other[i] {
			return false
		}
	}
	return true
}

func TestP10_7Interest(t *testing.T) {
	random := rand.New(rand.NewSource(12))
	more := 0
	eachTruth(unstatedAccounts(), func(a duty.Account, truth []int) {
		without, least, most := copied(a), copied(a), copied(a)
		without.Interest, least.Interest = 0, random.Intn(a.Interest+1)
		most.Interest = api.MaxDutyInterest - random.Intn(api.MaxDutyInterest+1-a.Interest)
		none, less, some, much := playOf(t, without, truth), playOf(t, least, truth), playOf(t, a, truth), playOf(t, most, truth)
		if !isNowhereBelow(less, none) || !isNowhereBelow(some, less) || !isNowhereBelow(much, some) {
			t.Fatalf("Play of %v, %v: %v; without interest %v; of %v: %v; of %v: %v", a, truth, some, none, least.Interest, less, most.Interest, much)
		}
		if sum := added(a, truth); none[a.Last] != sum || some[a.Last] < sum {
			t.Fatalf("Play of %v, %v: %v; without interest %v, but %d was added", a, truth, some, none, sum)
		}
		if !slices.Equal(none, some) {
			more++
		}
	})
	if more < 1000 {
		t.Errorf("only %d lists were greater with interest", more)
	}
}

// isMoved reports whether the entry can change its place with another one of its day and kind.
func isMoved(x duty.Entry) bool { return x.Kind == duty.Charge || x.Kind == duty.Payment }

// TestP10_7Order has two charges or payments, that follow each other on a day, in the other order.
func TestP10_7Order(t *testing.T) {
	count := 0
	for _, a := range allAccounts() {
		truths := truthsOf(a)
		for i, x := range a.Entries {
			ofDay := func(x, y duty.Entry) bool { return x.Day == y.Day }
			j := i + 1
			for j < len(a.Entries) && !ofDay(x, a.Entries[j]) {
				j++
			}
			if j == len(a.Entries) || !isMoved(x) || !isMoved(a.Entries[j]) || x == a.Entries[j] {
				continue
			}
			other := copied(a)
			other.Entries[i], other.Entries[j] = a.Entries[j], x
			b, e := duty.Bounds(a)
			c, f := duty.Bounds(other)
			l, g := duty.Pays(a)
			m, h := duty.Pays(other)
			if !slices.Equal(b, c) || e != f || !slices.Equal(l, m) || g != h || len(leaveOf(t, a)) != len(leaveOf(t, other)) {
				t.Fatalf("Bounds, Pays of %v: %v, %v; of %v: %v, %v", a, b, l, other, c, m)
			}
			for _, units := range truths[:min(5, len(truths))] {
				moved := slices.Clone(units)
				moved[i], moved[j] = units[j], units[i]
				if !slices.Equal(playOf(t, a, units), playOf(t, other, moved)) {
					t.Fatalf("Play of %v, %v: %v; of %v: %v", a, units, playOf(t, a, units), other, playOf(t, other, moved))
				}
			}
			count++
		}
	}
	if count < 400 {
		t.Errorf("only %d entries in another order", count)
	}
}

func TestP10_8OneMorePayment(t *testing.T) {
	random := rand.New(rand.NewSource(13))
	less, room := 0, 0
	eachTruth(unstatedAccounts(), func(a duty.Account, truth []int) {
		if len(a.Entries) == api.MaxDutyEntries {
			return
		}
		i := random.Intn(len(a.Entries) + 1)
		x := copied(a)
		x.Entries = slices.Insert(x.Entries, i, pay(random.Intn(a.Last+1), 1+random.Intn(300)))
		was, is := playOf(t, a, truth), playOf(t, x, slices.Insert(slices.Clone(truth), i, 0))
		if !isNowhereBelow(was, is) {
			t.Fatalf("Play of %v, %v: %v; with one more payment, %v: %v", a, truth, was, x, is)
		}
		b, e := duty.Bounds(a)
		c, f := duty.Bounds(x)
		for day, r := range b {
			if e != api.OK || f != api.OK || c[day].Lo > r.Lo || c[day].Hi > r.Hi {
				t.Fatalf("Bounds of %v: %v, %v; with one more payment, %v: %v, %v", a, b, e, x, c, f)
			}
			if c[day] != r {
				less++
			}
		}
		room++
	})
	if room < 1000 || less < 3000 {
		t.Errorf("only %d payments, and %d bounds that are less", room, less)
	}
}

func TestP10_8OneMoreDay(t *testing.T) {
	random := rand.New(rand.NewSource(14))
	count := 0
	for i, a := range allAccounts() {
		days, e := duty.Pays(a)
		if e != api.OK {
			continue
		}
		for day := range a.Last + 1 {
			more := append(slices.Clone(days), day)
			slices.Sort(more)
			more = slices.Compact(more)
			if !duty.ProvePays(a, more, len(more)) {
				t.Fatalf("Pays of %v: %v, but with one more day, %v", a, days, more)
			}
			// Any plan may have more.
			plan := slices.DeleteFunc(more, func(int) bool { return i%2 == 0 && random.Intn(6) == 0 })
			if !duty.ProvePays(a, plan, len(plan)) {
				continue
			}
			x := copied(a)
			x.Bond = a.Bond + random.Intn(api.MaxDutyPence+1-a.Bond)
			y := copied(a)
			y.Purse = a.Purse + random.Intn(api.MaxDutyPence+1-a.Purse)
			if !duty.ProvePays(x, plan, len(plan)) || !duty.ProvePays(y, plan, len(plan)) {
				t.Fatalf("%v keeps the bond of %v, but not with the bond %d, or the purse %d", plan, a, x.Bond, y.Purse)
			}
			l, f := duty.Pays(x)
			m, g := duty.Pays(y)
			if f != api.OK || g != api.OK || len(l) > len(days) || len(m) > len(days) {
				t.Fatalf("Pays of %v: %v; with the bond %d: %v, %v; with the purse %d: %v, %v", a, days, x.Bond, l, f, y.Purse, m, g)
			}
			count++
		}
	}
	if count < 2000 {
		t.Errorf("only %d plans", count)
	}
}

func TestP10_9NoFewer(t *testing.T) {
	tried, always, sunk := 0, 0, 0
	for _, a := range slices.Concat(smallAccounts(), busyAccounts(), swappedAccounts()) {
		days, e := duty.Pays(a)
		if k, _ := duty.Kept(a); k == duty.Always {
			if len(days) > 0 || e != api.OK {
				t.Fatalf("Pays of %v, whose bond is always kept: %v, %v", a, days, e)
			}
			always++
		}
		if e == api.ErrFail || a.Last > 6 {
			continue
		}
		if e == api.ErrSink {
			sunk++
		} else if !duty.ProvePays(a, days, len(days)) {
			t.Fatalf("Pays of %v: %v", a, days)
		}
		for _, plan := range plansOf(a) {
			if e == api.OK && slices.Equal(plan, days) {
				break
			}
			if duty.ProvePays(a, plan, huge) {
				t.Fatalf("Pays of %v: %v, %v, but %v keeps the bond", a, days, e, plan)
			}
			tried++
		}
	}
	if tried < 3000 || always < 200 || sunk < 50 {
		t.Errorf("only %d plans, %d bonds that are always kept, and %d that no plan keeps", tried, always, sunk)
	}
}

// stated is the account with one more statement, before the entry of the number, and the truth with it.
func stated(a duty.Account, truth []int, i, day, pence int) (duty.Account, []int) {
	x := copied(a)
	x.Entries = slices.Insert(x.Entries, i, state(day, pence))
	return x, slices.Insert(slices.Clone(truth), i, 0)
}

func TestP10_10Statements(t *testing.T) {
	random := rand.New(rand.NewSource(15))
	count, beyond := 0, 0
	eachTruth(allAccounts(), func(a duty.Account, truth []int) {
		day, i := random.Intn(a.Last+1), random.Intn(len(a.Entries)+1)
		debt := debtAfter(a, truth, day, i)
		if len(a.Entries) == api.MaxDutyEntries || debt < -api.MaxDutyPence || debt > api.MaxDutyPence {
			return
		}
		x, units := stated(a, truth, i, day, debt)
		was, is := playOf(t, a, truth), playOf(t, x, units)
		if !slices.Equal(was, is) || len(leaveOf(t, x)) > 0 {
			t.Fatalf("Play of %v, %v: %v; with a statement, %v: %v; or some are left out", a, truth, was, x, is)
		}
		b, e := duty.Bounds(a)
		further := random.Intn(2) * random.Intn(99)
		for _, pence := range list(b[day].Lo-1-further, b[day].Hi+1+further) {
			if !in(pence, to(-api.MaxDutyPence, api.MaxDutyPence)) {
				continue
			}
			// The debt of a day is what it is after all entries.
			y, units := stated(a, truth, len(a.Entries), day, pence)
			_, f := duty.Bounds(y)
			l, g := duty.Play(y, units)
			if e != api.OK || f != api.ErrFail || len(l) != 0 || g != api.ErrFalse || len(leaveOf(t, y)) != 1 {
				t.Fatalf("Bounds of %v: %v, %v; with a statement of %d on the day %d: %v, %v", a, b, e, pence, day, f, g)
			}
			beyond++
		}
		count++
	})
	if count < 1000 || beyond < 3000 {
		t.Errorf("only %d statements, and %d beyond the bounds", count, beyond)
	}
}

func TestP10_11LeftOut(t *testing.T) {
	sizes := map[int]int{}
	for i, a := range allAccounts() {
		out := leaveOf(t, a)
		_, e := duty.Bounds(a)
		if _, f := duty.Bounds(without(a, out)); f != api.OK || (e == api.OK) != (len(out) == 0) || !slices.IsSorted(out) {
			t.Fatalf("Leave of %v: %v, but without these: %v", a, out, f)
		}
		sizes[len(out)]++
		if i%2 > 0 {
			continue
		}
		for _, other := range subsets(len(a.Entries)) {
			if len(other) >= len(out) {
				break
			}
			if _, f := duty.Bounds(without(a, other)); f != api.ErrFail {
				t.Fatalf("Leave of %v: %v, but without %v: %v", a, out, other, f)
			}
		}
	}
	if min(sizes[0], sizes[1], sizes[2], sizes[3]) < 20 {
		t.Errorf("not all were tried: %v", sizes)
	}
}

// isInside reports whether a range is part of another one.
func isInside(r, other duty.Range) bool { return other.Lo <= r.Lo && r.Hi <= other.Hi }

func TestP10_12Wider(t *testing.T) {
	random := rand.New(rand.NewSource(16))
	wider, fewer := 0, 0
	for _, a := range allAccounts() {
		for i, x := range a.Entries {
			if x.Kind != duty.Charge {
				continue
			}
			other := copied(a)
			units := &other.Entries[i].Units
			units.Lo = max(0, units.Lo-random.Intn(4))
			units.Hi = min(api.MaxDutyUnits, units.Hi+random.Intn(4))
			if duty.CheckAccount(other) != api.OK {
				continue
			}
			b, e := duty.Bounds(a)
			c, f := duty.Bounds(other)
			for day, r := range b {
				if f != api.OK || !isInside(r, c[day]) {
					t.Fatalf("Bounds of %v: %v, %v; wider, of %v: %v, %v", a, b, e, other, c, f)
				}
				if r != c[day] {
					wider++
				}
			}
			l, m := leaveOf(t, a), leaveOf(t, other)
			if len(m) > len(l) {
				t.Fatalf("Leave of %v: %v; wider, of %v: %v", a, l, other, m)
			}
			if len(m) < len(l) {
				fewer++
			}
		}
	}
	if wider < 3000 || fewer < 20 {
		t.Errorf("only %d bounds were wider, and %d sets smaller", wider, fewer)
	}
}

// scaled is the account without interest, with all pence so many times.
func scaled(a duty.Account, by int) duty.Account {
	x := copied(a)
	x.Interest = 0
	x.Bond *= by
	x.Purse *= by
	for i := range x.Rates {
		x.Rates[i].Pence *= by
	}
	for i := range x.Entries {
		x.Entries[i].Pence *= by
	}
	return x
}

func TestP10_13Scale(t *testing.T) {
	count, planned := 0, 0
	for _, a := range allAccounts() {
		for by := range 6 {
			x, y := scaled(a, 1), scaled(a, by)
			if by == 0 || duty.CheckAccount(y) != api.OK {
				continue
			}
			b, e := duty.Bounds(x)
			c, f := duty.Bounds(y)
			if e != f {
				t.Fatalf("Bounds of %v: %v; of %v: %v", x, e, y, f)
			}
			for day, r := range b {
				if c[day] != to(r.Lo*by, r.Hi*by) {
					t.Fatalf("Bounds of %v: %v; of %v: %v", x, b, y, c)
				}
			}
			k, _ := duty.Kept(x)
			n, _ := duty.Kept(y)
			l, e := duty.Pays(x)
			m, f := duty.Pays(y)
			if k != n || !slices.Equal(l, m) || e != f || !slices.Equal(leaveOf(t, x), leaveOf(t, y)) {
				t.Fatalf("Kept, Pays of %v: %d, %v, %v; of %v: %d, %v, %v", x, k, l, e, y, n, m, f)
			}
			if by > 1 {
				count++
				planned += len(l)
			}
		}
	}
	if count < 1000 || planned < 400 {
		t.Errorf("only %d accounts, with %d payments", count, planned)
	}
}

// results are those of all calls with an account alone.
func results(a duty.Account) []any {
	b, e := duty.Bounds(a)
	k, f := duty.Kept(a)
	l, g := duty.Pays(a)
	out, h := duty.Leave(a)
	return []any{duty.CheckAccount(a), b, e, k, f, l, g, out, h, duty.ProvePays(a, l, len(l)), duty.ProvePays(a, nil, 0)}
}

// TestAgain checks that nothing is kept: the calls in between change no results.
func TestAgain(t *testing.T) {
	var before [][]any
	accounts := allAccounts()
	for _, a := range accounts {
		before = append(before, results(a))
	}
	for i, a := range slices.Backward(accounts) {
		if again := results(a); !reflect.DeepEqual(again, before[i]) {
			t.Fatalf("results of %v again: %v, not %v", a, again, before[i])
		}
	}
}

// TestEmpty checks that nil and a list without elements are the same.
func TestEmpty(t *testing.T) {
	a := duty.Account{Last: 1, Bond: 3, Purse: 2}
	b := duty.Account{Last: 1, Bond: 3, Purse: 2, Rates: rates(), Entries: entries()}
	if !reflect.DeepEqual(results(a), results(b)) {
		t.Errorf("results: %v, %v", results(a), results(b))
	}
	for _, x := range []duty.Account{a, b} {
		for _, l := range [][]int{nil, {}} {
			if m, e := duty.Play(x, l); !slices.Equal(m, list(0, 0)) || e != api.OK || !duty.ProvePays(x, l, 0) {
				t.Errorf("Play of %v, %v: %v, %v", x, l, m, e)
			}
		}
	}
}

// overwrite changes all elements, and those that could be after them.
func overwrite[T any](x T, l []T) {
	for i := range l {
		l[i] = x
	}
	_ = append(l, x)
}

// TestOwnMemory checks that arguments are not written to, and that results share no memory with them, nor with later results.
func TestOwnMemory(t *testing.T) {
	a, wrong, truth, plan := example(), example(state(0, 830)), list(40, 0, 10, 20), list(1, 3)
	all := func() []any {
		l, e := duty.Play(a, truth)
		return append(append(results(a), results(wrong)...), l, e, duty.ProvePays(a, plan, 2))
	}
	before := all()
	l, _ := duty.Play(a, truth)
	b, _ := duty.Bounds(a)
	days, _ := duty.Pays(a)
	out, _ := duty.Leave(wrong)
	if len(l) == 0 || len(b) == 0 || len(days) == 0 || len(out) == 0 {
		t.Fatalf("results: %v, %v, %v, %v", l, b, days, out)
	}
	overwrite(-7, l)
	overwrite(to(-7, -7), b)
	overwrite(-7, days)
	overwrite(-7, out)
	if after := all(); !reflect.DeepEqual(after, before) {
		t.Errorf("results again: %v, not %v", after, before)
	}
	if !reflect.DeepEqual(a, example()) || !reflect.DeepEqual(wrong, example(state(0, 830))) || !slices.Equal(truth, list(40, 0, 10, 20)) || !slices.Equal(plan, list(1, 3)) {
		t.Errorf("arguments were written to: %v, %v, %v, %v", a, wrong, truth, plan)
	}
	// What is behind the end of an argument is not written to either.
	spare := slices.Repeat(entries(pay(0, 9)), 8)
	short := plain(0, 0, 0, spare[:3]...)
	short.Entries = spare[:3:8]
	results(short)
	duty.Play(short, list(0, 0, 0))
	if !slices.Equal(spare, slices.Repeat(entries(pay(0, 9)), 8)) {
		t.Errorf("what is behind the entries was written to: %v", spare)
	}
}

// anyAccount has numbers of chance, in lists that may be too long.
func anyAccount(random *rand.Rand, some func() int) duty.Account {
	a := duty.Account{Last: some(), Interest: some(), Bond: some(), Purse: some()}
	for range random.Intn(6) {
		a.Rates = append(a.Rates, rate(some(), some()))
	}
	for range random.Intn(10) {
		a.Entries = append(a.Entries, duty.Entry{Kind: some(), Day: some(), Units: to(some(), some()), Pence: some()})
	}
	return a
}

// TestAnyArguments checks that no call panics, and that each result beside an error is zero, whatever the arguments are.
func TestAnyArguments(t *testing.T) {
	values := list(lowest, lowest+1, -2, -1, 0, 0, 0, 0, 0, 0, 1, 1, 1, 1, 2, 2, 3, 3, 4, 11, 12, 50, 51, 100, 200, 100000, 100001, huge-1, huge)
	random := rand.New(rand.NewSource(17))
	some := func() int { return values[random.Intn(len(values))] }
	errors := map[api.Errno]int{}
	for i := range 20000 {
		a := anyAccount(random, some)
		switch i % 4 {
		case 0:
			x := a
			a = example()
			a.Entries = append(a.Entries[:4], x.Entries...)
		case 1:
			a = changed(func(x *duty.Account) { x.Last, x.Bond, x.Entries[i%3].Units = a.Last, a.Bond, to(some(), some()) })
		case 2:
			a.Last, a.Interest, a.Bond, a.Purse, a.Rates = 11, 200, 100000, 1, nil
		}
		var numbers []int
		for range random.Intn(9) {
			numbers = append(numbers, some())
		}
		l, e := duty.Play(a, numbers)
		b, f := duty.Bounds(a)
		k, g := duty.Kept(a)
		p, h := duty.Pays(a)
		out, j := duty.Leave(a)
		c := duty.CheckAccount(a)
		if e != api.OK && len(l) != 0 || f != api.OK && len(b) != 0 || g != api.OK && k != 0 || h != api.OK && len(p) != 0 || j != api.OK && len(out) != 0 || f != g || j != c {
			t.Fatalf("a result beside an error, of %v", a)
		}
		if c != api.OK && (e != c || f != c || h != c || duty.ProvePays(a, numbers, some())) {
			t.Fatalf("CheckAccount of %v: %v, but %v, %v, %v", a, c, e, f, h)
		}
		duty.ProvePays(a, numbers, some())
		errors[c]++
	}
	if min(errors[api.OK], errors[api.ErrArg], errors[api.ErrLimit]) < 500 {
		t.Errorf("not all were tried: %v", errors)
	}
}
