package book_test

import (
	"maps"
	"math/rand"
	"slices"
	"strconv"
	"strings"
	"sync"

	"saccharum/api"
	"saccharum/book"
	"saccharum/duty"
)

// What this file makes up is always the same, since each source of chance starts with a number of its own.

// between is a random number from low to high.
func between(random *rand.Rand, low, high int) int { return low + random.Intn(max(high, low)-low+1) }

// wide is a random range from low to high, which has so many numbers more than one at most.
func wide(random *rand.Rand, low, high, most int) (int, int) {
	n := between(random, low, high)
	return n, min(high, n+random.Intn(most+1))
}

// lineOf is a line of a word with numbers.
func lineOf(word string, n ...int) string {
	for _, m := range n {
		word += " " + strconv.Itoa(m)
	}
	return word
}

// storeLine is one of the store that makes sense, in most states.
func storeLine(random *rand.Rand, s book.State) string {
	casks := len(s.Store.Casks)
	w, v := wide(random, 0, 40, random.Intn(12))
	m, n := wide(random, 0, 60, random.Intn(9))
	kind := random.Intn(9)
	if casks == 0 && random.Intn(2) == 0 {
		kind = 4
	}
	switch kind {
	case 0:
		return lineOf("row", random.Intn(41))
	case 1:
		return lineOf("column", random.Intn(61))
	case 2:
		return lineOf("value", random.Intn(len(s.Store.Table.Warmths)), random.Intn(len(s.Store.Table.Marks)), random.Intn(2001))
	case 3:
		return lineOf("price", random.Intn(201))
	case 4, 5:
		return lineOf("cask", 1+random.Intn(1+random.Intn(99)), w, v, m, n)
	case 6, 7:
		return lineOf("read", random.Intn(casks+1), w, v, m, n)
	}
	return lineOf("gone", random.Intn(casks+1))
}

// houseLine is one of the brewhouse that makes sense, in most states.
func houseLine(random *rand.Rand, s book.State) string {
	vessels := len(s.House.Vessels)
	one := func() int { return random.Intn(max(vessels, 1)) }
	a, b := wide(random, 0, 40, random.Intn(3))
	kind := random.Intn(7)
	if vessels == 0 && random.Intn(2) == 0 {
		kind = 0
	}
	switch kind {
	case 0, 1:
		c, d := wide(random, 0, 120, random.Intn(3))
		return lineOf("vessel", a, b, c, d, between(random, max(0, b-1), 60))
	case 2, 3:
		from, n, m := one(), random.Intn(8), random.Intn(3)
		return lineOf("move", from, (from+1+random.Intn(max(vessels-1, 1)))%max(vessels, 1), n, n+m)
	case 4:
		n := random.Intn(9)
		return lineOf("water", one(), n, n+random.Intn(2))
	case 5:
		n := random.Intn(5)
		return lineOf("boil", one(), n, n+random.Intn(2))
	}
	return "undo"
}

// accountLine is one of the account that makes sense, in most states.
func accountLine(random *rand.Rand, s book.State) string {
	day, count := random.Intn(12), len(s.Account.Entries)
	switch random.Intn(14) {
	case 0, 1:
		first := 0
		if l := s.Account.Rates; len(l) > 0 && random.Intn(8) > 0 {
			first = l[len(l)-1].Day + 1
		}
		return lineOf("rates", between(random, first, min(11, first+random.Intn(5))), random.Intn(101))
	case 2:
		return lineOf("interest", random.Intn(201))
	case 3:
		debts, _ := duty.Bounds(s.Account)
		return lineOf("bond", max(0, between(random, debts[day].Lo-1, debts[day].Hi+1)))
	case 4:
		return lineOf("purse", random.Intn(10000))
	case 5:
		n, m := wide(random, 0, 50, random.Intn(5))
		return lineOf("charge", day, n, m)
	case 6, 7, 8:
		return lineOf("levy", day, random.Intn(max(1, len(s.Store.Casks)+random.Intn(2))))
	case 9, 10:
		return lineOf("brew", day, random.Intn(max(1, len(s.House.Vessels)+random.Intn(2))))
	case 11:
		return lineOf("pay", day, 1+random.Intn(1+random.Intn(3000)))
	case 12:
		if random.Intn(2) == 0 {
			return lineOf("draw", day, 1+random.Intn(12))
		}
		debts, _ := duty.Bounds(s.Account)
		return lineOf("owe", day, max(0, between(random, debts[day].Lo, debts[day].Hi)))
	}
	return lineOf("strike", random.Intn(count+1))
}

// spoiled is a line in which something is other than it was.
func spoiled(random *rand.Rand, line string) string {
	parts := strings.Split(line, " ")
	i := random.Intn(len(parts))
	switch random.Intn(5) {
	case 0:
		parts[i] = []string{"", "0", "00", "-1", "+1", "9999", "10000", "x", "undo", "41", "61", "121", "201", "2001"}[random.Intn(14)]
	case 1:
		parts = append(parts, "0")
	case 2:
		parts = parts[:i]
	default:
		if n, e := strconv.Atoi(parts[i]); e == nil {
			parts[i] = strconv.Itoa([]int{n + 1, n + 3, 2*n + 1, 12, 51, 61, 100}[random.Intn(7)])
		}
	}
	return strings.Join(parts, " ")
}

// randomLine is a line that makes sense in the state, or nearly.
func randomLine(random *rand.Rand, s book.State, parts []func(*rand.Rand, book.State) string) string {
	line := parts[random.Intn(len(parts))](random, s)
	if random.Intn(6) == 0 {
		line = spoiled(random, line)
	}
	return line
}

// prelude are lines after which most words make sense.
func prelude(random *rand.Rand) (l []string) {
	n := random.Intn(40)
	l = append(l, lineOf("rates", random.Intn(3), 1+random.Intn(20)))
	l = append(l, lineOf("cask", 10+random.Intn(60), n/2, n, n, n+random.Intn(4)))
	l = append(l, lineOf("vessel", n, n+random.Intn(3), n, n+random.Intn(3), n+15))
	return append(l, lineOf("charge", random.Intn(4), 40-n, 40-n+random.Intn(10)))
}

// randomSession has so many lines, of the parts of a book.
func randomSession(random *rand.Rand, count int, parts ...func(*rand.Rand, book.State) string) (l []string) {
	if random.Intn(2) == 0 {
		l = prelude(random)
	}
	s, _ := playedLines(l)
	for len(l) < count {
		line := randomLine(random, s, parts)
		s, _ = executed(s, line)
		l = append(l, line)
	}
	return l
}

// sessions are many, most of them about all of a book, and some about one part.
var sessions = sync.OnceValue(func() (l [][]string) {
	random := rand.New(rand.NewSource(12))
	all := []func(*rand.Rand, book.State) string{storeLine, houseLine, accountLine}
	for i := range 240 {
		l = append(l, randomSession(random, 40-random.Intn(1+i%20), all...))
	}
	for _, part := range all {
		for range 30 {
			l = append(l, randomSession(random, 40, part))
		}
	}
	for range 60 {
		l = append(l, randomSession(random, 40, storeLine, accountLine))
		l = append(l, randomSession(random, 40, houseLine, accountLine))
	}
	return append(l, nil, firstLines(), lines("undo; undo"), lines("vessel 0 2 0 2 60; vessel 0 2 0 2 60; brew 3 1; levy 3 0"))
})

// shortSessions are beginnings of the sessions.
func shortSessions() (l [][]string) {
	for i, session := range sessions() {
		l = append(l, session[:min(len(session), 6+i%33)])
	}
	return l
}

// states are those after the short sessions, with their lines that are accepted.
var states = sync.OnceValue(func() (l []played) {
	for _, session := range shortSessions() {
		s, _ := playedLines(session)
		l = append(l, played{lines: acceptedOf(session), s: s})
	}
	return l
})

// played has lines, all of which are accepted, and the state after them.
type played struct {
	lines []string
	s     book.State
}

// randomBytes are so many at most, often of those that a file has.
func randomBytes(random *rand.Rand, most int) []byte {
	b := make([]byte, random.Intn(most+1))
	for i := range b {
		if random.Intn(2) == 0 {
			b[i] = "0123456789: \n"[random.Intn(13)]
		} else {
			b[i] = byte(random.Intn(256))
		}
	}
	return b
}

// anyLines are lines of any bytes, some of which are a word's.
func anyLines(random *rand.Rand) (l []string) {
	for range random.Intn(api.MaxBookSession + 1) {
		line := string(randomBytes(random, api.MaxBookLine))
		if random.Intn(4) == 0 {
			line = slices.Sorted(maps.Keys(letters))[random.Intn(len(letters))] + " " + line
		}
		l = append(l, line[:min(len(line), api.MaxBookLine)])
	}
	return l
}
