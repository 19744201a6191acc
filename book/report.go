package book

import (
	"strconv"
	"strings"

	"saccharum/duty"
	"saccharum/proof"
	"saccharum/wort"
)

// span is a range of any package.
type span struct{ Lo, Hi int }

// text returns the range as it is written.
func (r span) text() string { return strconv.Itoa(r.Lo) + ".." + strconv.Itoa(r.Hi) }

// report returns the lines of a report about a state that stands.
func (s State) report() string {
	var lines strings.Builder
	add := func(parts ...string) {
		lines.WriteString(strings.Join(parts, " "))
		lines.WriteByte('\n')
	}
	debts, _ := duty.Bounds(s.Account)
	add("debt", span(debts[s.Account.Last]).text())
	kept, _ := duty.Kept(s.Account)
	add("bond", strconv.Itoa(kept))
	strengths, _ := proof.Strengths(s.Store)
	for _, r := range strengths {
		add("cask", span(r).text())
	}
	// Without vessels there are no bounds, but an error.
	vessels, _ := wort.Bounds(s.House)
	for _, v := range vessels {
		add("vessel", span(v.Gallons).text(), span(v.Gravity).text())
	}
	return lines.String()
}
