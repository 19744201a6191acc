package wort

// bounds returns the bounds of what each vessel has in some of what all of them can have.
func (w atWork) bounds(ends map[contents]bool) []Bound {
	var l []Bound
	for vessel := range w.Vessels {
		can := map[content]bool{}
		for h := range ends {
			can[h[vessel]] = true
		}
		l = append(l, boundOf(can))
	}
	return l
}

// boundOf returns the bounds of what a vessel can have; there is something.
func boundOf(can map[content]bool) Bound {
	var gallons, extract, gravity []int
	for c := range can {
		gallons = append(gallons, c.gallons)
		extract = append(extract, c.extract)
		gravity = append(gravity, c.gravity())
	}
	return Bound{Gallons: span(gallons), Extract: span(extract), Gravity: span(gravity)}
}

// span returns the range from the least to the greatest number of a list that has some.
func span(l []int) Range {
	return Range{Lo: least(l[0], l[1:]...), Hi: greatest(l[0], l[1:]...)}
}

// least returns the minimum.
func least(first int, others ...int) int {
	for _, n := range others {
		first = min(first, n)
	}
	return first
}

// greatest returns the maximum.
func greatest(first int, others ...int) int {
	for _, n := range others {
		first = max(first, n)
	}
	return first
}
