package swing

import (
	"iter"

	"nore/api"
	"nore/chart"
)

// view is a mooring that is looked at, and the points of the compass in which vectors lead, as far as they were asked for.
type view struct {
	api.SgMooring
	points map[api.Point]int
}

// examine returns the view of a mooring, or the first error: its own, and then those of each list of looks.
func examine(m api.SgMooring, lists ...[]api.SgLook) (*view, api.Errno) {
	for _, l := range lists {
		if _, e := CheckLooks(m, l); e != api.OK {
			return nil, e
		}
	}
	return &view{SgMooring: m, points: map[api.Point]int{}}, api.OK
}

// lies reports whether she can lie at a place at a look, if the anchor is at another one.
func (v *view) lies(x api.SgLook, anchor, at api.Point) bool {
	vector := api.Point{X: at.X - anchor.X, Y: at.Y - anchor.Y}
	return inBox(x.At, at) && v.inRing(vector) && v.inPoints(x, vector)
}

// inRing reports whether she can lie as far from the anchor as a vector is long.
func (v *view) inRing(vector api.Point) bool {
	return within(v.Ring.Lo*v.Ring.Lo, v.Ring.Hi*v.Ring.Hi, square(vector))
}

// inPoints reports whether she can lie at a look where a vector leads from the anchor, by the points of the look.
func (v *view) inPoints(x api.SgLook, vector api.Point) bool {
	if vector == (api.Point{}) {
		return true
	}
	further := (v.pointOf(vector) - x.Point + api.CtCompass) % api.CtCompass
	return further < x.Points
}

// pointOf returns the point of the compass in which a vector leads that is not 0 and no longer than a ring can be.
func (v *view) pointOf(vector api.Point) int {
	point, known := v.points[vector]
	if !known {
		ship := api.CtMark{Name: "ship", At: vector, Paints: []api.CtPaint{{Day: 0, Colour: api.CtWhite}}}
		point, _ = chart.Seen(api.CtChart{Marks: []api.CtMark{ship}}, 0, 0, api.Point{}) // a mark that stands, and is not here
		v.points[vector] = point
	}
	return point
}

// sets returns, of each look, the places of the anchor that agree with it.
func (v *view) sets(l []api.SgLook) []set {
	var sets []set
	for _, x := range l {
		sets = append(sets, v.agreeing(x))
	}
	return sets
}

// agreeing returns the places of the anchor that agree with a look.
func (v *view) agreeing(x api.SgLook) set {
	var agree set
	for n, anchor := range places(v.Anchor) {
		for _, at := range places(x.At) {
			if v.lies(x, anchor, at) {
				agree.add(n)
				break
			}
		}
	}
	return agree
}

// liesFrom reports whether she can lie at a place at a look from some place of the anchor that a set has.
func (v *view) liesFrom(anchors set, x api.SgLook, at api.Point) bool {
	for n, anchor := range places(v.Anchor) {
		if anchors.has(n) && v.lies(x, anchor, at) {
			return true
		}
	}
	return false
}

// inBox reports whether a place is one of a box.
func inBox(b api.CtBox, at api.Point) bool {
	return within(b.X.Lo, b.X.Hi, at.X) && within(b.Y.Lo, b.Y.Hi, at.Y)
}

// square returns the square of the length of a vector.
func square(v api.Point) int { return v.X*v.X + v.Y*v.Y }

// places yields all places of a box, and how many of them come before each: the lower X first, of the same X the lower Y.
func places(b api.CtBox) iter.Seq2[int, api.Point] {
	return func(yield func(n int, at api.Point) bool) {
		n := 0
		for x := b.X.Lo; x <= b.X.Hi; x++ {
			for y := b.Y.Lo; y <= b.Y.Hi; y++ {
				if !yield(n, api.Point{X: x, Y: y}) {
					return
				}
				n++
			}
		}
	}
}
