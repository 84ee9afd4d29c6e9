package chart

import "nore/api"

// quarter has the vectors of the points from north up to, but without, east.
var quarter = [8]api.Point{
	{X: 0, Y: 1000}, {X: 195, Y: 981}, {X: 383, Y: 924}, {X: 556, Y: 831},
	{X: 707, Y: 707}, {X: 831, Y: 556}, {X: 924, Y: 383}, {X: 981, Y: 195},
}

// Colour returns the colour of a mark on a day.
func Colour(c api.CtChart, day, mark int) (int, api.Errno) {
	if e := checkDay(c, day, mark); e != api.OK {
		return 0, e
	}
	return colour(c.Marks[mark], day), api.OK
}

// Seen returns the point of the compass in which a mark is seen from a place.
func Seen(c api.CtChart, day, mark int, from api.Point) (int, api.Errno) {
	if e := checkStands(c, day, mark); e != api.OK {
		return 0, e
	}
	if !within(-api.MaxFar, api.MaxFar, from.X, from.Y) {
		return 0, api.ErrRange
	}
	at := c.Marks[mark].At
	if at == from {
		return 0, api.ErrZero
	}
	return pointOf(vectorTo(from, at)), api.OK
}

// Points returns all points of the compass in which a mark is seen from a box.
func Points(c api.CtChart, day, mark int, from api.CtBox) ([]int, api.Errno) {
	if e := checkStands(c, day, mark); e != api.OK {
		return nil, e
	}
	if e := checkBox(from, api.MaxFar); e != api.OK {
		return nil, e
	}
	at := c.Marks[mark].At
	var seen [api.CtCompass]bool
	for place := range places(from) {
		if place != at {
			seen[pointOf(vectorTo(place, at))] = true
		}
	}
	var points []int
	for p, is := range seen {
		if is {
			points = append(points, p)
		}
	}
	return points, api.OK
}

// checkDay returns the error of a chart, of a day, and of the index of a mark.
func checkDay(c api.CtChart, day, mark int) api.Errno {
	if e := checkChart(c); e != api.OK {
		return e
	}
	if !within(0, api.MaxDay, day) {
		return api.ErrRange
	}
	if !within(0, len(c.Marks)-1, mark) {
		return api.ErrNone
	}
	return api.OK
}

// checkStands returns the error of checkDay, and ErrDown if the mark does not stand.
func checkStands(c api.CtChart, day, mark int) api.Errno {
	if e := checkDay(c, day, mark); e != api.OK {
		return e
	}
	if colour(c.Marks[mark], day) == api.CtGone {
		return api.ErrDown
	}
	return api.OK
}

// colour returns the colour of a mark on a day.
func colour(m api.CtMark, day int) int {
	last := api.CtGone
	for _, p := range m.Paints {
		if p.Day <= day {
			last = p.Colour
		}
	}
	return last
}

// vector returns the vector of a point of the compass: that of the point in the first quarter, turned clockwise.
func vector(p int) api.Point {
	v := quarter[p%len(quarter)]
	for range p / len(quarter) {
		v = api.Point{X: v.Y, Y: -v.X}
	}
	return v
}

// pointOf returns the point in which a place is seen that a vector, other than 0, leads to.
func pointOf(v api.Point) int {
	for p := range api.CtCompass {
		next := vector((p + 1) % api.CtCompass)
		if leftOf(vector(p), v) <= 0 && leftOf(next, v) > 0 {
			return p
		}
	}
	return 0
}
