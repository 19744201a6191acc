package book

import (
	"saccharum/api"
	"saccharum/duty"
	"saccharum/proof"
	"saccharum/wort"
)

// tenths is how many tenths of proof gallons are a gallon, which is a unit.
const tenths = 10

// stand gives all levied entries their units, and refuses the line if the state does not stand then.
func (d *draft) stand() {
	vessels := d.brewed()
	for i, s := range d.Sources {
		units := &d.Account.Entries[i].Units
		switch s.Kind {
		case OfCask:
			*units = d.unitsOfCask(s.Number)
		case OfVessel:
			*units = duty.Range(vessels[s.Number].Gallons)
		}
		// Entries that are not levied were refused if they had more units.
		refuse(api.ErrSink, units.Hi > api.MaxDutyUnits)
	}
	refuse(api.ErrLimit, duty.CheckAccount(d.Account) != api.OK)
	_, e := duty.Bounds(d.Account)
	refuse(api.ErrFail, e != api.OK)
}

// brewed returns the bounds of what all vessels have, or refuses the line if the brewhouse does not stand.
func (d *draft) brewed() []wort.Bound {
	if len(d.House.Vessels) == 0 {
		return nil
	}
	refuse(api.ErrLimit, wort.CheckBrewhouse(d.House) != api.OK)
	bounds, e := wort.Bounds(d.House)
	refuse(api.ErrFail, e != api.OK)
	return bounds
}

// unitsOfCask returns the units of an entry that is levied on the cask.
func (s State) unitsOfCask(number int) duty.Range {
	alone := proof.Store{Table: s.Store.Table, Casks: s.Store.Casks[number : number+1]}
	strengths, _ := proof.Strengths(alone)
	least, _ := proof.Tenths(alone, []int{strengths[0].Lo})
	most, _ := proof.Tenths(alone, []int{strengths[0].Hi})
	return duty.Range{Lo: least[0] / tenths, Hi: most[0] / tenths}
}
