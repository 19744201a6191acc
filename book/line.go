package book

import (
	"slices"
	"strconv"
	"strings"

	"saccharum/api"
	"saccharum/duty"
	"saccharum/proof"
	"saccharum/table"
)

// draft is a state that is being changed by a line; it shares no memory with the state before.
type draft struct{ State }

// refusal is what a line panics with that is refused.
type refusal api.Errno

// refuse refuses the line with the error if one of the conditions applies.
func refuse(e api.Errno, conditions ...bool) {
	if slices.Contains(conditions, true) {
		panic(refusal(e))
	}
}

// errorOf returns the error of a line from what was recovered after it.
func errorOf(recovered any) api.Errno {
	switch x := recovered.(type) {
	case nil:
		return api.OK
	case refusal:
		return api.Errno(x)
	}
	// Nothing else panics; if it did, the state could not be trusted, and no call may panic.
	return api.ErrFail
}

// first returns the state before any line.
func first() State {
	return State{
		Store: proof.Store{Table: table.Table{
			Warmths: []int{0, api.MaxTableWarmth},
			Marks:   []int{0, api.MaxTableMark},
			Values:  [][]int{{300, 1500}, {100, 1300}},
		}},
		Account: duty.Account{Last: api.MaxDutyLast},
	}
}

// copied returns the state in memory of its own.
func (s State) copied() State {
	t := s.Store.Table
	s.Store.Table = table.Table{Warmths: slices.Clone(t.Warmths), Marks: slices.Clone(t.Marks)}
	for _, row := range t.Values {
		s.Store.Table.Values = append(s.Store.Table.Values, slices.Clone(row))
	}
	s.Store.Casks = slices.Clone(s.Store.Casks)
	s.House.Vessels = slices.Clone(s.House.Vessels)
	s.House.Steps = slices.Clone(s.House.Steps)
	s.Account.Rates = slices.Clone(s.Account.Rates)
	s.Account.Entries = slices.Clone(s.Account.Entries)
	s.Sources = slices.Clone(s.Sources)
	return s
}

// after returns the state after a line; if the line is refused, this is the same state, with the error.
func (s State) after(line string) (next State, e api.Errno) {
	d := draft{State: s.copied()}
	next = s
	defer func() { e = errorOf(recover()) }()
	d.execute(line)
	return d.State, api.OK
}

// execute changes the draft by a line, or refuses the line.
func (d *draft) execute(line string) {
	w, numbers := parsed(line)
	w.does(d, numbers)
	d.stand()
}

// parsed returns the word of which the line has the form, with the numbers that follow it, or refuses the line.
func parsed(line string) (w word, numbers []int) {
	parts := strings.Split(line, " ")
	w, known := words()[parts[0]]
	parts = parts[1:]
	refuse(api.ErrForm, !known, len(parts) != w.numbers, !all(parts, isNumber))
	for _, part := range parts {
		n, _ := strconv.Atoi(part)
		numbers = append(numbers, n)
	}
	return w, numbers
}
