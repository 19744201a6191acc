package book

import (
	"saccharum/api"
	"saccharum/wort"
)

// vessel adds a vessel to the brewhouse.
func (d *draft) vessel(n []int) {
	v := wort.Vessel{Gallons: wort.Range{Lo: n[0], Hi: n[1]}, Degrees: wort.Range{Lo: n[2], Hi: n[3]}, Room: n[4]}
	alone := wort.Brewhouse{Vessels: []wort.Vessel{v}}
	refuse(api.ErrRange, wort.CheckBrewhouse(alone) != api.OK)
	refuse(api.ErrLimit, len(d.House.Vessels) >= api.MaxWortVessels)
	d.House.Vessels = append(d.House.Vessels, v)
}

// move adds a Move.
func (d *draft) move(n []int) {
	d.addStep(wort.Move, n[0], n[1], n[2:])
}

// water adds a Water.
func (d *draft) water(n []int) {
	d.addStep(wort.Water, n[0], n[0], n[1:])
}

// boil adds a Boil.
func (d *draft) boil(n []int) {
	d.addStep(wort.Boil, n[0], n[0], n[1:])
}

// addStep adds a step, with the ends of its gallons.
func (d *draft) addStep(kind, from, to int, n []int) {
	vessels := d.House.Vessels
	refuse(api.ErrNone, !hasNumber(vessels, from), !hasNumber(vessels, to))
	s := wort.Step{Kind: kind, From: from, To: to, Gallons: wort.Range{Lo: n[0], Hi: n[1]}}
	// Empty vessels have ranges of one number: whether there are too many numbers is asked of the whole state later.
	alone := wort.Brewhouse{Vessels: make([]wort.Vessel, len(vessels)), Steps: []wort.Step{s}}
	refuse(api.ErrRange, wort.CheckBrewhouse(alone) != api.OK)
	refuse(api.ErrLimit, len(d.House.Steps) >= api.MaxWortSteps)
	d.House.Steps = append(d.House.Steps, s)
}

// undo removes the last step.
func (d *draft) undo([]int) {
	refuse(api.ErrNone, len(d.House.Steps) == 0)
	d.House.Steps = without(d.House.Steps, len(d.House.Steps)-1)
}
