package dispute

import (
	"saccharum/api"
)

// tooLong reports whether the dispute has more samples, parties, links or facts than it may.
func (d Dispute) tooLong() bool {
	return d.Samples > api.MaxDisputeSamples || d.Parties > api.MaxDisputeParties ||
		len(d.Links) > api.MaxDisputeLinks || len(d.Facts) > api.MaxDisputeFacts
}

// sound reports whether a dispute with a valid table, that is not too long, is valid.
func (d Dispute) sound() bool {
	soundLink, soundFact := d.soundLink, d.soundFact
	return d.Samples >= 1 && d.Parties >= 1 && all(d.Links, soundLink) && all(d.Facts, soundFact)
}

// soundLink reports whether a link is valid beside the samples of the dispute.
func (d Dispute) soundLink(x Link) bool {
	differences := Range{Lo: -api.MaxDisputeStrength, Hi: api.MaxDisputeStrength}
	return d.hasSample(x.A) && d.hasSample(x.B) && x.A != x.B && x.Differs.isPartOf(differences)
}

// soundFact reports whether a fact is valid beside the parties, the samples and the valid table of the dispute.
func (d Dispute) soundFact(x Fact) bool {
	return d.hasParty(x.Party) && d.hasSample(x.Sample) &&
		x.Warmth.isPartOf(span(d.Table.Warmths)) && x.Mark.isPartOf(span(d.Table.Marks))
}

// hasSample reports whether the dispute has a sample of this number.
func (d Dispute) hasSample(n int) bool { return 0 <= n && n < d.Samples }

// hasParty reports whether the dispute has a party of this number.
func (d Dispute) hasParty(n int) bool { return 0 <= n && n < d.Parties }

// hasFact reports whether the dispute has a fact of this number.
func (d Dispute) hasFact(n int) bool { return 0 <= n && n < len(d.Facts) }

// span returns the range from the first to the last line of a table.
func span(lines []int) Range { return Range{Lo: lines[0], Hi: lines[len(lines)-1]} }

// holds reports whether a number is in the range.
func (r Range) holds(n int) bool { return r.Lo <= n && n <= r.Hi }

// isPartOf reports whether a range has numbers, and all of them are in the other one.
func (r Range) isPartOf(other Range) bool {
	return r.Lo <= r.Hi && other.holds(r.Lo) && other.holds(r.Hi)
}

// all reports whether each element is as it should be.
func all[T any](l []T, is func(T) bool) bool {
	for _, x := range l {
		if !is(x) {
			return false
		}
	}
	return true
}
