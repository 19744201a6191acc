package dispute_test

import (
	"slices"
	"testing"

	"saccharum/api"
	"saccharum/dispute"
	"saccharum/table"
)

func TestP11_1CheckDispute(t *testing.T) {
	for _, x := range []struct {
		of   map[string]dispute.Dispute
		want api.Errno
	}{{longTables(), api.ErrLimit}, {badTables(), api.ErrArg}, {tooLong(), api.ErrLimit}, {badDisputes(), api.ErrArg}, {goodDisputes(), api.OK}} {
		for name, d := range x.of {
			hasError(t, name, d, x.want)
		}
	}
	for _, x := range allReadings() {
		hasError(t, "one of many", x.d, api.OK)
	}
}

// bad is a dispute that has too much of all but of the table, which is changed.
func bad(change func(x *table.Table)) dispute.Dispute {
	d := dispute.Dispute{Table: grid(), Samples: 4, Parties: -1, Links: make([]dispute.Link, 5), Facts: make([]dispute.Fact, 7)}
	change(&d.Table)
	return d
}

// longTables have too many lines; this comes before all other errors.
func longTables() map[string]dispute.Dispute {
	six := func(d *dispute.Dispute) { d.Table.Marks = list(0, 1, 2, 3, 4, 5) }
	return map[string]dispute.Dispute{
		"six marks":                  changed(six),
		"six warmths":                changed(func(d *dispute.Dispute) { d.Table.Warmths = make([]int, 6) }),
		"six rows":                   changed(func(d *dispute.Dispute) { d.Table.Values = make([][]int, 6) }),
		"six marks, and no samples":  changed(func(d *dispute.Dispute) { six(d); d.Samples = 0 }),
		"six marks, and bad links":   changed(func(d *dispute.Dispute) { six(d); d.Links[0].A = 9 }),
		"six marks, and a bad table": changed(func(d *dispute.Dispute) { six(d); d.Table.Warmths = nil }),
		"six marks, and all else":    bad(func(x *table.Table) { x.Marks = make([]int, 6) }),
	}
}

// badTables are not valid; this comes before the limits of the dispute.
func badTables() map[string]dispute.Dispute {
	return map[string]dispute.Dispute{
		"nothing":                         {},
		"nothing but a table's lines":     {Table: table.Table{Warmths: list(0, 1), Marks: list(0, 1)}, Samples: 1, Parties: 1},
		"a table with one warmth":         changed(func(d *dispute.Dispute) { d.Table.Warmths, d.Table.Values = list(10), [][]int{{1, 2, 3}} }),
		"a value that is too great":       changed(func(d *dispute.Dispute) { d.Table.Values[1][1] = 2001 }),
		"marks that fall":                 changed(func(d *dispute.Dispute) { d.Table.Marks = list(20, 10, 0) }),
		"a bad table, and four samples":   changed(func(d *dispute.Dispute) { d.Table.Values[0][0], d.Samples = -1, 4 }),
		"a bad table, and five parties":   changed(func(d *dispute.Dispute) { d.Table.Values[0][0], d.Parties = -1, 5 }),
		"a bad table, and five links":     changed(func(d *dispute.Dispute) { d.Table.Values[0][0], d.Links = -1, make([]dispute.Link, 5) }),
		"a bad table, and seven facts":    changed(func(d *dispute.Dispute) { d.Table.Values[0][0], d.Facts = -1, make([]dispute.Fact, 7) }),
		"a bad table, with all else":      bad(func(x *table.Table) { x.Values[2] = nil }),
		"a table of warmths beyond 40":    changed(func(d *dispute.Dispute) { d.Table.Warmths = list(10, 14, 41) }),
		"a table of marks, but no values": changed(func(d *dispute.Dispute) { d.Table.Values = nil }),
	}
}

// tooLong are disputes that have too many samples, parties, links or facts.
func tooLong() map[string]dispute.Dispute {
	worst := read(lowest, huge, huge, huge, lowest)
	return map[string]dispute.Dispute{
		"four samples":                   changed(func(d *dispute.Dispute) { d.Samples = 4 }),
		"five parties":                   changed(func(d *dispute.Dispute) { d.Parties = 5 }),
		"huge numbers":                   changed(func(d *dispute.Dispute) { d.Samples, d.Parties = huge, huge }),
		"five links":                     changed(func(d *dispute.Dispute) { d.Links = slices.Repeat(d.Links, 5) }),
		"seven facts":                    changed(func(d *dispute.Dispute) { d.Facts = slices.Repeat(d.Facts[:1], 7) }),
		"a hundred links":                changed(func(d *dispute.Dispute) { d.Links = slices.Repeat(links(link(0, 0, 1, 0)), 100) }),
		"a hundred facts":                changed(func(d *dispute.Dispute) { d.Facts = slices.Repeat(facts(worst), 100) }),
		"four samples, and no parties":   changed(func(d *dispute.Dispute) { d.Samples, d.Parties = 4, 0 }),
		"five parties, and no samples":   changed(func(d *dispute.Dispute) { d.Samples, d.Parties = 0, 5 }),
		"four samples, and a bad link":   changed(func(d *dispute.Dispute) { d.Samples, d.Links[0].B = 4, 4 }),
		"five parties, and a bad fact":   changed(func(d *dispute.Dispute) { d.Parties, d.Facts[0] = 5, worst }),
		"five links, and a bad fact":     changed(func(d *dispute.Dispute) { d.Links, d.Facts[0] = slices.Repeat(d.Links, 5), worst }),
		"seven facts, and a bad link":    changed(func(d *dispute.Dispute) { d.Facts, d.Links[0].A = slices.Repeat(d.Facts[:1], 7), -1 }),
		"seven facts, and -1 of samples": changed(func(d *dispute.Dispute) { d.Facts, d.Samples = slices.Repeat(d.Facts[:1], 7), -1 }),
	}
}

// badDisputes are not valid otherwise.
func badDisputes() map[string]dispute.Dispute {
	return map[string]dispute.Dispute{
		"no samples":                    plain(0, 1, nil),
		"no parties":                    plain(1, 0, nil),
		"-1 of samples":                 plain(-1, 1, nil),
		"-1 of parties":                 plain(1, -1, nil),
		"a sample less than a link's":   plain(1, 1, links(link(0, 1, 0, 0))),
		"a sample less than a fact's":   plain(1, 1, nil, read(0, 1, 0, 5, 5)),
		"a party less than a fact's":    plain(1, 1, nil, read(1, 0, 0, 5, 5)),
		"a link of a sample and itself": plain(3, 1, links(link(2, 2, 0, 0))),
		"a last link without numbers":   plain(2, 1, links(link(0, 1, 0, 0), link(1, 0, 0, 0), link(0, 1, 0, 0), link(0, 1, 1, 0))),
		"a last fact without warmths":   plain(1, 1, nil, read(0, 0, 0, 5, 5), dispute.Fact{Warmth: to(1, 0), Mark: to(5, 5)}),
		"a last fact without marks":     plain(1, 1, nil, read(0, 0, 0, 5, 5), read(0, 0, 0, 5, 5), read(0, 0, 0, 5, 5), read(0, 0, 0, 5, 5), read(0, 0, 0, 5, 5), read(0, 0, 0, 6, 5)),
		"marks as warmths":              changed(func(d *dispute.Dispute) { d.Facts[0].Warmth, d.Facts[0].Mark = d.Facts[0].Mark, d.Facts[0].Warmth }),
		"a range wider than the table":  changed(func(d *dispute.Dispute) { d.Facts[0].Mark = to(-1, 21) }),
		"a link wider than all":         changed(func(d *dispute.Dispute) { d.Links[0].Differs = to(-2001, 2001) }),
	}
}

// goodDisputes are valid.
func goodDisputes() map[string]dispute.Dispute {
	return map[string]dispute.Dispute{
		"the example":                example(),
		"one sample, and one party":  plain(1, 1, nil),
		"empty lists":                plain(1, 1, links(), facts()...),
		"as many of all as there is": plain(3, 4, links(link(0, 1, -2000, 2000), link(1, 2, 0, 0), link(2, 0, 0, 0), link(0, 1, 1, 1)), slices.Repeat(facts(read(3, 2, 1, 0, 60)), 6)...),
		"links that contradict":      torn(read(1, 1, 0, 5, 5)),
		"the whole table":            changed(func(d *dispute.Dispute) { d.Facts[0].Warmth, d.Facts[0].Mark = to(10, 20), to(0, 20) }),
		"links of all differences":   plain(2, 1, links(link(1, 0, -2000, -2000), link(1, 0, 2000, 2000), link(0, 1, -2000, 2000))),
	}
}

// TestP11_1Numbers has the least and the greatest of each number.
func TestP11_1Numbers(t *testing.T) {
	for _, x := range []struct {
		name      string
		low, high int
		of        func(d *dispute.Dispute) *int
	}{
		{"the sample A of a link", 0, 0, func(d *dispute.Dispute) *int { return &d.Links[0].A }}, {"the sample B of a link", 1, 1, func(d *dispute.Dispute) *int { return &d.Links[0].B }}, {"the other sample of three", 0, 1, func(d *dispute.Dispute) *int { d.Samples = 3; d.Links[0].A = 2; return &d.Links[0].B }},
		{"the Lo of a link", -2000, 0, func(d *dispute.Dispute) *int { return &d.Links[0].Differs.Lo }}, {"the Hi of a link", -3, 2000, func(d *dispute.Dispute) *int { return &d.Links[0].Differs.Hi }},
		{"the party of a fact", 0, 2, func(d *dispute.Dispute) *int { return &d.Facts[1].Party }}, {"the sample of a fact", 0, 1, func(d *dispute.Dispute) *int { return &d.Facts[2].Sample }},
		{"the Lo of warmths", 10, 12, func(d *dispute.Dispute) *int { return &d.Facts[0].Warmth.Lo }}, {"the Hi of warmths", 12, 20, func(d *dispute.Dispute) *int { return &d.Facts[0].Warmth.Hi }}, {"the Lo of marks", 0, 6, func(d *dispute.Dispute) *int { return &d.Facts[0].Mark.Lo }}, {"the Hi of marks", 5, 20, func(d *dispute.Dispute) *int { return &d.Facts[0].Mark.Hi }},
		{"the Lo of the last warmths", 10, 10, func(d *dispute.Dispute) *int { return &d.Facts[2].Warmth.Lo }}, {"the Hi of the last marks", 4, 20, func(d *dispute.Dispute) *int { return &d.Facts[2].Mark.Hi }},
	} {
		for _, n := range list(lowest, lowest+1, -2001, -2000, -1999, -4, -3, -2, -1, 0, 1, 2, 3, 4, 5, 6, 7, 9, 10, 11, 12, 13, 19, 20, 21, 40, 60, 1999, 2000, 2001, huge-1, huge) {
			want := api.ErrArg
			if in(n, to(x.low, x.high)) {
				want = api.OK
			}
			d := example()
			*x.of(&d) = n
			hasError(t, x.name, d, want)
		}
	}
	for n, want := range map[int]api.Errno{lowest: api.ErrArg, -1: api.ErrArg, 0: api.ErrArg, 1: api.OK, 2: api.OK, 3: api.OK, 4: api.ErrLimit, 5: api.ErrLimit, huge: api.ErrLimit} {
		hasError(t, "the samples", plain(n, 4, nil), want)
		if n == 4 {
			want = api.OK
		}
		hasError(t, "the parties", plain(3, n, nil), want)
	}
}

// hasError checks that each call has the error of its dispute, even if other arguments are invalid too.
func hasError(t *testing.T, name string, d dispute.Dispute, want api.Errno) {
	if e := dispute.CheckDispute(d); e != want {
		t.Errorf("%s: CheckDispute of %v: %v", name, d, e)
	}
	if want == api.OK {
		if _, e := dispute.Mean(d, -1); e != api.ErrRange {
			t.Errorf("%s: Mean of %v, -1: %v", name, d, e)
		}
		return
	}
	for _, n := range list(0, -1, huge) {
		r, e := dispute.Mean(d, n)
		b, f := dispute.Bounds(d)
		s, g := dispute.Show(d, n, n == 0)
		i, h := dispute.First(d)
		l, j := dispute.Leave(d)
		p, k := dispute.Believe(d)
		must, may, m := dispute.Blame(d)
		c, o := dispute.Charge(d, n, n)
		x, q := dispute.Costs(d, n)
		for number, e := range []api.Errno{e, f, g, h, j, k, m, o, q} {
			if e != want {
				t.Errorf("%s: call %d with %v: %v", name, number, d, e)
			}
		}
		if r != to(0, 0) || c != to(0, 0) || len(b)+len(s)+i+len(l)+len(p)+len(must)+len(may)+len(x) != 0 {
			t.Errorf("%s: results beside an error, of %v", name, d)
		}
	}
	for _, truth := range [][]int{nil, list(116), list(116, 116), list(116, 116, 116), make([]int, 4)} {
		if dispute.ProveTruth(d, truth) {
			t.Errorf("%s: ProveTruth of %v, %v", name, d, truth)
		}
	}
}

// TestP11_1WrongFacts has numbers of facts that there are not.
func TestP11_1WrongFacts(t *testing.T) {
	for _, x := range []struct {
		d dispute.Dispute
		l []int
	}{{example(), list(-1, 3, 6, lowest, huge)}, {plain(3, 4, nil), list(0, -1, 1)}, {torn(), list(0, -1)}, {torn(read(0, 0, 0, 5, 5)), list(1)}} {
		for _, n := range x.l {
			if r, e := dispute.Mean(x.d, n); r != to(0, 0) || e != api.ErrRange {
				t.Errorf("Mean of %v, %d: %v, %v", x.d, n, r, e)
			}
		}
	}
}

// TestP11_3WrongSamples has numbers of samples that there are not; this comes before what contradicts.
func TestP11_3WrongSamples(t *testing.T) {
	for _, d := range []dispute.Dispute{example(), agreed(), torn(), plain(1, 1, nil), plain(3, 1, nil)} {
		for _, n := range list(lowest, -1, d.Samples, 3, huge) {
			for _, high := range []bool{false, true} {
				if l, e := dispute.Show(d, n, high); len(l) != 0 || e != api.ErrRange {
					t.Errorf("Show of %v, %d: %v, %v", d, n, l, e)
				}
			}
		}
	}
}

// TestP11_6WrongNumbers has samples that there are not, and gallons beyond the limit; both come before links that contradict each other.
func TestP11_6WrongNumbers(t *testing.T) {
	for _, d := range []dispute.Dispute{example(), agreed(), torn(), plain(1, 1, nil), plain(3, 1, nil)} {
		for _, x := range []struct{ sample, gallons int }{{-1, 1}, {d.Samples, 1}, {lowest, 0}, {huge, 0}, {0, -1}, {0, 100001}, {0, lowest}, {0, huge}, {d.Samples, 100001}} {
			if r, e := dispute.Charge(d, x.sample, x.gallons); r != to(0, 0) || e != api.ErrRange {
				t.Errorf("Charge of %v, %d, %d: %v, %v", d, x.sample, x.gallons, r, e)
			}
		}
	}
}

// TestP11_7WrongNumbers has pence beyond the limit; this comes before links that contradict each other.
func TestP11_7WrongNumbers(t *testing.T) {
	for _, d := range []dispute.Dispute{example(), agreed(), torn(), plain(1, 1, nil)} {
		for _, pence := range list(-1, 1000001, lowest, huge) {
			if l, e := dispute.Costs(d, pence); len(l) != 0 || e != api.ErrRange {
				t.Errorf("Costs of %v, %d: %v, %v", d, pence, l, e)
			}
		}
	}
}

// TestP11_2Contradictions has disputes without truths: of the links alone, or with facts.
func TestP11_2Contradictions(t *testing.T) {
	for _, x := range []struct {
		d     dispute.Dispute
		links api.Errno
	}{
		{example(), api.OK}, {torn(), api.ErrFail}, {torn(read(0, 0, 0, 5, 5)), api.ErrFail}, {plain(2, 1, links(link(0, 1, 5, 8), link(0, 1, 9, 9))), api.ErrFail}, {plain(2, 1, links(link(0, 1, 5, 8), link(1, 0, 5, 8))), api.ErrFail},
		{plain(3, 1, links(link(0, 1, 5, 8), link(1, 2, 1, 1), link(0, 2, 0, 5))), api.ErrFail}, {plain(3, 1, links(link(0, 1, 1, 9), link(1, 2, 1, 9), link(2, 0, 0, 9))), api.ErrFail},
		// Links contradict each other, too, if no strengths from 0 to 2000 are so far apart.
		{plain(3, 1, links(link(0, 1, 1000, 1000), link(1, 2, 1001, 1001))), api.ErrFail}, {plain(3, 1, links(link(0, 1, 1000, 1000), link(1, 2, 1000, 1000)), read(0, 0, 0, 5, 5)), api.OK}, {plain(3, 1, links(link(1, 0, 700, 2000), link(2, 1, 1301, 2000))), api.ErrFail},
	} {
		b, e := dispute.Bounds(x.d)
		l, f := dispute.Show(x.d, 0, true)
		if len(b) != 0 || e != api.ErrFalse || len(l) != 0 || f != api.ErrFalse {
			t.Errorf("Bounds, Show of %v: %v, %v; %v, %v", x.d, b, e, l, f)
		}
		hasLinkError(t, x.d, x.links)
	}
}

// hasLinkError checks that each call that needs links that do not contradict each other has the error, and First if it is one.
func hasLinkError(t *testing.T, d dispute.Dispute, want api.Errno) {
	n, e := dispute.First(d)
	l, f := dispute.Leave(d)
	p, g := dispute.Believe(d)
	must, may, h := dispute.Blame(d)
	r, i := dispute.Charge(d, 0, 1000)
	c, j := dispute.Costs(d, 100)
	if f != want || g != want || h != want || i != want || j != want || want != api.OK && e != want {
		t.Errorf("First, Leave, Believe, Blame, Charge, Costs of %v: %v, %v, %v, %v, %v, %v", d, e, f, g, h, i, j)
	}
	if want != api.OK && (n+len(l)+len(p)+len(must)+len(may)+len(c) != 0 || r != to(0, 0)) {
		t.Errorf("results beside an error, of %v", d)
	}
	if d.Samples == 2 && dispute.ProveTruth(d, list(105, 106)) {
		t.Errorf("ProveTruth of %v", d)
	}
}
