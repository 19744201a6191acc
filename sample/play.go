package sample

import (
	"slices"

	"saccharum/api"
)

// course has who has a bottle at the end of each hour; after the last one it has zeros.
type course [api.MaxSampleHour + 1]int

// inHand is a bottle in somebody's hand: whether its seal is whole, and whether they have a stamp.
type inHand struct{ whole, stamp bool }

// act is what can be done to a bottle: whether the seal is whole after it, and whether it is possible; and whether the bottle is open in the hour even if the seal was whole.
type act struct {
	does  func(b inHand) (whole, possible bool)
	opens bool
}

// acts returns all acts by their numbers.
func acts() [Again + 1]act {
	return [...]act{
		Keep:  {does: inHand.keep},
		Break: {does: inHand.breakSeal, opens: true},
		Seal:  {does: inHand.seal},
		Again: {does: inHand.sealAgain, opens: true},
	}
}

// keep is what the act Keep does.
func (b inHand) keep() (whole, possible bool) { return b.whole, true }

// breakSeal is what the act Break does.
func (b inHand) breakSeal() (whole, possible bool) { return false, b.whole }

// seal is what the act Seal does.
func (b inHand) seal() (whole, possible bool) { return true, !b.whole && b.stamp }

// sealAgain is what the act Again does.
func (b inHand) sealAgain() (whole, possible bool) { return true, b.whole && b.stamp }

// course returns who has the bottle in each hour, if the passes happen in these hours, and whether those of this bottle are possible.
func (s Sample) course(bottle int, hours []int) (c course, possible bool) {
	holder := s.First
	for hour := range s.Last + 1 {
		for i, p := range s.Passes {
			if p.Bottle != bottle || hours[i] != hour {
				continue
			}
			if p.From != holder {
				return course{}, false
			}
			holder = p.To
		}
		c[hour] = holder
	}
	return c, true
}

// play returns who has each bottle in each hour, and whether its seal is whole, and whether the truth, which has the right numbers, is one of the sample.
func (s Sample) play(t Truth) (holders [][]int, whole [][]bool, right bool) {
	for bottle := range s.Bottles {
		c, possible := s.course(bottle, t.Hours)
		if !possible {
			return nil, nil, false
		}
		seals, possible := s.seals(c, t.Acts[bottle])
		if !possible {
			return nil, nil, false
		}
		holders = append(holders, slices.Clone(c[:s.Last+1]))
		whole = append(whole, seals)
	}
	isRight := func(k Sight) bool { return whole[k.Bottle][k.Hour] == k.Whole }
	return holders, whole, all(s.Sights, isRight)
}

// seals returns whether the seal of a bottle is whole at the end of each hour, and whether all acts are possible.
func (s Sample) seals(c course, l []int) (whole []bool, possible bool) {
	known := acts()
	now := true
	for hour, a := range l {
		now, possible = known[a].does(inHand{whole: now, stamp: s.Stamps[c[hour]]})
		if !possible {
			return nil, false
		}
		whole = append(whole, now)
	}
	return whole, true
}
