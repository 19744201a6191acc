package heat

// end is one end of the warmth of a mixture, by the degree that each portion then has.
type end struct{ degree func(Portion) int }

func (p Portion) coldest() int { return p.Heat.Lo }

func (p Portion) warmest() int { return p.Heat.Hi }

// warmth returns the warmth of the mixture, at this end.
func (d end) warmth(l []Portion) int {
	heat, quantity := 0, 0
	for _, p := range l {
		heat += p.Quantity * d.degree(p)
		quantity += p.Quantity
	}
	return heat / quantity
}

// mixed returns the bounds of the warmth of a valid mixture: it is coldest if all portions are, since a warmer one never makes it colder.
func mixed(l []Portion) Range {
	low, high := end{degree: Portion.coldest}, end{degree: Portion.warmest}
	return Range{Lo: low.warmth(l), Hi: high.warmth(l)}
}
