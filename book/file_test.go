package book_test

import (
	"bytes"
	"math/rand"
	"slices"
	"strings"
	"testing"

	"saccharum/api"
	"saccharum/book"
)

func TestP12_5Examples(t *testing.T) {
	for _, x := range []struct {
		lines []string
		want  string
	}{
		{nil, ""}, {[]string{}, ""}, {lines("a"), "0231:01:a\n"}, {[]string{""}, "0037:00:\n"}, {[]string{"", "", ""}, "0037:00:\n0074:00:\n0111:00:\n"}, {[]string{"", "a", "ab"}, "0037:00:\n0268:01:a\n0599:02:ab\n"},
		{lines("undo; undo"), "1556:04:undo\n1593:04:undo\n"}, {[]string{"\n"}, "0057:01:\n\n"}, {[]string{":\n0037:00:\n"}, recordOf(0, ":\n0037:00:\n")}, {[]string{strings.Repeat("z", 60)}, "1974:60:" + strings.Repeat("z", 60) + "\n"}, {[]string{"0037:00:", "\x00\xff"}, recordOf(0, "0037:00:") + recordOf(1, "\x00\xff")},
		{slices.Repeat([]string{"nothing"}, 40), fileOf(slices.Repeat([]string{"nothing"}, 40))}, {firstLines(), fileOf(firstLines())},
	} {
		b, e := book.Write(x.lines)
		if string(b) != x.want || e != api.OK {
			t.Errorf("Write of %q: %q, %v", x.lines, b, e)
		}
		if l, n := book.Recover(b); !slices.Equal(l, x.lines) || n != len(b) {
			t.Errorf("Recover of %q: %q, %d", b, l, n)
		}
	}
}

// TestP12_5Spoiled has bytes that are no whole records from some place on.
func TestP12_5Spoiled(t *testing.T) {
	const one = "0231:01:a\n"
	long, longest := strings.Repeat("b", 61), strings.Repeat("b", 60)
	for _, x := range []struct {
		b    string
		want []string
		n    int
	}{
		{"", nil, 0}, {"\n", nil, 0}, {"0", nil, 0}, {"0231:01", nil, 0}, {"0231:01:", nil, 0}, {"0231:01:a", nil, 0}, {one, lines("a"), 10}, {one + one, lines("a"), 10}, {one + "0268:01:a\n", lines("a; a"), 20}, {one + "0268:01:a", lines("a"), 10}, {one + "0268:01:a\nmore", lines("a; a"), 20}, {one + "0268:01:a\r\n", lines("a"), 10},
		// Each byte of a record counts.
		{"1231:01:a\n", nil, 0}, {"0331:01:a\n", nil, 0}, {"0241:01:a\n", nil, 0}, {"0232:01:a\n", nil, 0}, {"0231;01:a\n", nil, 0}, {"0231:11:a\n", nil, 0}, {"0231:02:a\n", nil, 0}, {"0231:00:a\n", nil, 0}, {"0231:01;a\n", nil, 0}, {"0231:01:b\n", nil, 0}, {"0231:01:a ", nil, 0}, {"0231:01:a\x00", nil, 0}, {" 231:01:a\n", nil, 0}, {"0231: 1:a\n", nil, 0}, {"0231:1:a\n", nil, 0}, {"231:01:a\n", nil, 0}, {"00231:01:a\n", nil, 0}, {"0231:001:a\n", nil, 0}, {"0231:0x:a\n", nil, 0}, {"0231:-1:a\n", nil, 0}, {"0231:+1:a\n", nil, 0}, {"0231::1:a\n", nil, 0}, {"0231:/;:a\n", nil, 0}, {"0231:\xff\xff:a\n", nil, 0}, {"0231:\x00\x00:a\n", nil, 0}, {"0231:01:aa\n", nil, 0}, {"0231:01:\n", nil, 0}, {"\n" + one, nil, 0}, {" " + one, nil, 0},
		// A check is below 9941, and of the record's own index.
		{"0268:01:a\n", nil, 0}, {"0194:01:a\n", nil, 0}, {"0000:00:\n", nil, 0}, {"9978:00:\n", nil, 0}, {"0037:00:\n", []string{""}, 9}, {"0037:00:\n0037:00:\n", []string{""}, 9},
		{recordOf(0, longest), []string{longest}, 69}, {recordOf(0, long), nil, 0}, {recordOf(0, "x") + recordOf(1, long) + recordOf(2, "x"), lines("x"), 10}, {recordOf(0, "x") + recordOf(2, "x"), lines("x"), 10}, {recordOf(0, "x") + "!" + recordOf(1, "x"), lines("x"), 10}, {recordOf(0, strings.Repeat("b", 99)), nil, 0},
	} {
		if l, n := book.Recover([]byte(x.b)); !slices.Equal(l, x.want) || n != x.n {
			t.Errorf("Recover of %q: %q, %d", x.b, l, n)
		}
	}
	for _, line := range []string{"", "bond 5", longest} {
		full := slices.Repeat([]string{line}, 40)
		whole := fileOf(full)
		for _, more := range []string{"", recordOf(40, line), recordOf(0, line), recordOf(40, "") + recordOf(41, ""), "x"} {
			if l, n := book.Recover([]byte(whole + more)); !slices.Equal(l, full) || n != len(whole) {
				t.Errorf("Recover of a full file of %q: %q, %d", line, l, n)
			}
		}
	}
}

// readable reads records by another way than the program: each size that a line can have is tried.
func readable(b []byte) (l []string, bytesRead int) {
	for len(l) < api.MaxBookSession {
		found := false
		for size := range api.MaxBookLine + 1 {
			end := bytesRead + 8 + size
			if end >= len(b) {
				break
			}
			line := string(b[bytesRead+8 : end])
			if bytes.HasPrefix(b[bytesRead:], []byte(recordOf(len(l), line))) {
				l, bytesRead, found = append(l, line), end+1, true
				break
			}
		}
		if !found {
			break
		}
	}
	return l, bytesRead
}

// TestP12_5Recover has files of any lines, in which some bytes are others.
func TestP12_5Recover(t *testing.T) {
	random := rand.New(rand.NewSource(5))
	shorter := 0
	for range 3000 {
		l := anyLines(random)
		b, e := book.Write(l)
		if string(b) != fileOf(l) || e != api.OK {
			t.Fatalf("Write of %q: %q, %v", l, b, e)
		}
		for range random.Intn(3) {
			if len(b) > 0 {
				at := random.Intn(len(b))
				b = slices.Concat(b[:at], randomBytes(random, 2), b[min(len(b), at+random.Intn(3)):])
			}
		}
		want, n := readable(b)
		if len(want) < len(l) {
			shorter++
		}
		if got, m := book.Recover(b); !slices.Equal(got, want) || m != n {
			t.Fatalf("Recover of %q: %q, %d, not %q, %d", b, got, m, want, n)
		}
	}
	for range 3000 {
		b := randomBytes(random, 300)
		want, n := readable(b)
		if got, m := book.Recover(b); !slices.Equal(got, want) || m != n {
			t.Fatalf("Recover of %q: %q, %d, not %q, %d", b, got, m, want, n)
		}
	}
	if shorter < 1000 {
		t.Errorf("only %d files were spoiled", shorter)
	}
}

func TestP12_6Examples(t *testing.T) {
	bonds := func(count int) []string { return slices.Repeat(lines("bond 5"), count) }
	for _, x := range []struct {
		b    string
		more []string
		want []string
		e    api.Errno
	}{
		{"", nil, nil, api.OK}, {"nothing", nil, nil, api.OK}, {"", lines("a; bond 5; price 201; price 7"), lines("bond 5; price 7"), api.OK}, {"0231:01:a\nrest", lines("bond 5; b"), lines("a; bond 5"), api.OK},
		// The lines of the file count for the others, also after lines of it that are refused.
		{fileOf(lines("vessel 5 5 1 1 9")), lines("boil 0 6 6; brew 0 0; boil 0 4 4"), lines("vessel 5 5 1 1 9; brew 0 0; boil 0 4 4"), api.OK}, {fileOf(lines("boil 0 1 1; cask 1 0 0 0 0; cask 0 0 0 0 0; rates 3 4")), lines("levy 0 1; rates 2 9; levy 0 0; gone 0; rates 4 9"), lines("boil 0 1 1; cask 1 0 0 0 0; cask 0 0 0 0 0; rates 3 4; levy 0 0; rates 4 9"), api.OK},
		{fileOf(lines("row 20; row 20")), lines("row 20; row 30; row 20"), lines("row 20; row 20; row 30"), api.OK}, {fileOf(lines("undo; undo")) + fileOf(lines("undo")), lines("undo; bond 1"), lines("undo; undo; bond 1"), api.OK}, {fileOf(lines("vessel 1 1 1 1 9; water 0 1 1"))[:30], lines("water 0 2 2"), lines("vessel 1 1 1 1 9; water 0 2 2"), api.OK},
		// 40 lines are not too many, and only those that are accepted count.
		{fileOf(bonds(40)), nil, bonds(40), api.OK}, {fileOf(bonds(40)), lines("nothing; price 201"), bonds(40), api.OK}, {fileOf(bonds(40)), slices.Repeat([]string{"x"}, 40), bonds(40), api.OK}, {fileOf(bonds(39)), lines("nothing; bond 6; x"), append(bonds(39), "bond 6"), api.OK}, {fileOf(bonds(1)), append(bonds(39), "x"), bonds(40), api.OK}, {"", bonds(40), bonds(40), api.OK}, {fileOf(slices.Repeat([]string{"x"}, 20)), bonds(20), slices.Concat(slices.Repeat([]string{"x"}, 20), bonds(20)), api.OK},
		{fileOf(bonds(40)), lines("bond 6"), nil, api.ErrLimit}, {fileOf(bonds(40)), lines("nothing; bond 6"), nil, api.ErrLimit}, {fileOf(bonds(39)), lines("bond 6; bond 7"), nil, api.ErrLimit}, {fileOf(bonds(1)), bonds(40), nil, api.ErrLimit}, {fileOf(slices.Repeat([]string{"x"}, 20)), bonds(21), nil, api.ErrLimit}, {fileOf(bonds(40)), bonds(40), nil, api.ErrLimit}, {fileOf(bonds(41)), lines("bond 6"), nil, api.ErrLimit},
		// What no session has is refused, also if it would not be accepted.
		{"", slices.Repeat([]string{"x"}, 41), nil, api.ErrLimit}, {"", []string{strings.Repeat("x", 61)}, nil, api.ErrLimit}, {fileOf(bonds(1)), slices.Insert(bonds(2), 1, strings.Repeat("x", 61)), nil, api.ErrLimit}, {"", []string{strings.Repeat("x", 60)}, nil, api.OK},
	} {
		if b, e := book.Resume([]byte(x.b), x.more); string(b) != fileOf(x.want) || e != x.e {
			t.Errorf("Resume of %q, %q: %q, %v", x.b, x.more, b, e)
		}
	}
}

// TestP12_6Resume has the beginnings of sessions as files, and the other lines.
func TestP12_6Resume(t *testing.T) {
	random := rand.New(rand.NewSource(6))
	long := 0
	for i, l := range sessions() {
		at := random.Intn(len(l) + 1)
		more := l[at:]
		if i%3 == 0 && len(l) > 0 {
			more = slices.Concat(more, l[:random.Intn(min(len(l), api.MaxBookSession-len(more)+1))])
		}
		_, errors := playedLines(slices.Concat(l[:at], more))
		want := slices.Clone(l[:at])
		for i, line := range more {
			if errors[at+i] == api.OK {
				want = append(want, line)
			}
		}
		e := api.OK
		if len(want) > api.MaxBookSession {
			want, e = nil, api.ErrLimit
			long++
		}
		b := fileOf(l[:at]) + string(randomBytes(random, 20))
		if b, f := book.Resume([]byte(b), more); string(b) != fileOf(want) || f != e {
			t.Fatalf("Resume of %q, %q: %q, %v, not %q, %v", l[:at], more, b, f, fileOf(want), e)
		}
	}
	if long < 5 {
		t.Errorf("only %d files would be too long", long)
	}
}
