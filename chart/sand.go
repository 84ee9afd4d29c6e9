package chart

import (
	"iter"
	"sort"

	"nore/api"
)

// On returns the sands that a place is surely on, and perhaps.
func On(c api.CtChart, at api.Point) (sure, some []int, e api.Errno) {
	if e := checkPlace(c, at); e != api.OK {
		return nil, nil, e
	}
	for i, s := range c.Sands {
		n := view{s, at}.movesOnto()
		if n == size(s.Moves.X)*size(s.Moves.Y) {
			sure = append(sure, i)
		}
		if n > 0 {
			some = append(some, i)
		}
	}
	return sure, some, api.OK
}

// Clear returns the first sand that can be in a circle, and its move.
func Clear(c api.CtChart, at api.Point, radius int) (sand int, move api.Point, e api.Errno) {
	if e := checkPlace(c, at); e != api.OK {
		return 0, api.Point{}, e
	}
	if !within(0, api.MaxCtRadius, radius) {
		return 0, api.Point{}, api.ErrRange
	}
	sand, move, found := firstInCircle(c.Sands, at, radius)
	if !found {
		return 0, api.Point{}, api.ErrNone
	}
	return sand, move, api.OK
}

// Radius returns the greatest radius with which the circle around a place is clear.
func Radius(c api.CtChart, at api.Point) (int, api.Errno) {
	if e := checkPlace(c, at); e != api.OK {
		return 0, e
	}
	nextIsNotClear := func(radius int) bool {
		_, _, found := firstInCircle(c.Sands, at, radius+1)
		return found
	}
	return sort.Search(api.MaxCtRadius, nextIsNotClear), api.OK
}

// checkPlace returns the error of a chart, and of a place that sands are looked at from.
func checkPlace(c api.CtChart, at api.Point) api.Errno {
	if e := checkChart(c); e != api.OK {
		return e
	}
	if !within(-api.MaxCtSand, api.MaxCtSand, at.X, at.Y) {
		return api.ErrRange
	}
	return api.OK
}

// firstInCircle returns the first sand that can be in a circle, its first move that brings it there, and whether there is one.
func firstInCircle(l []api.CtSand, at api.Point, radius int) (sand int, move api.Point, found bool) {
	if radius == 0 {
		return 0, api.Point{}, false // no point is nearer to the place than 0
	}
	for i, s := range l {
		if move, found = (view{s, at}).firstMove(radius); found {
			return i, move, true
		}
	}
	return 0, api.Point{}, false
}

// view is a sand that is looked at from a place.
type view struct {
	api.CtSand
	from api.Point
}

// movesOnto returns how many vectors of Moves bring the sand onto the place.
func (s view) movesOnto() int {
	n := 0
	for i := range size(s.Moves.X) {
		rows := s.rowsOnto(s.Moves.X.Lo + i)
		n += rows.count()
	}
	return n
}

// rowsOnto returns the Y of the vectors of Moves with this X that bring the sand onto the place.
func (s view) rowsOnto(x int) ends[int] {
	rows := ends[int]{s.Moves.Y.Lo, s.Moves.Y.Hi}
	for corner, along := range sides(s.Corners) {
		moved := api.Point{X: corner.X + x, Y: corner.Y}
		// By each further row that the sand moves, the place is to the left of the side by along.X less.
		rows.cut(along.X, leftOf(along, vectorTo(moved, s.from)))
	}
	return rows
}

// firstMove returns the first vector of Moves that brings the sand into the circle around the place with a radius above 0, and whether there is one.
func (s view) firstMove(radius int) (api.Point, bool) {
moves:
	for move := range places(s.Moves) {
		at := vectorTo(move, s.from)
		if s.sideIsNear(at, radius) {
			return move, true
		}
		for corner, along := range sides(s.Corners) {
			if leftOf(along, vectorTo(corner, at)) < 0 {
				continue moves
			}
		}
		return move, true
	}
	return api.Point{}, false
}

// sideIsNear reports whether a point of a side is nearer to a place than the radius, the sand being where it was charted.
func (s view) sideIsNear(at api.Point, radius int) bool {
	for corner, along := range sides(s.Corners) {
		if isNear(along, vectorTo(corner, at), radius) {
			return true
		}
	}
	return false
}

// isNear reports whether a point of a side is nearer than the radius to the place to which the vector v leads from the side's corner.
func isNear(along, v api.Point, radius int) bool {
	switch forward := ahead(along, v); {
	case forward <= 0:
		return square(v) < radius*radius
	case forward >= square(along):
		return square(vectorTo(along, v)) < radius*radius
	}
	left := leftOf(along, v)
	return left*left < radius*radius*square(along)
}

// sides yields each side: a corner, and the vector to the next one.
func sides(corners []api.Point) iter.Seq2[api.Point, api.Point] {
	return func(yield func(corner, along api.Point) bool) {
		for i, corner := range corners {
			next := corners[(i+1)%len(corners)]
			if !yield(corner, vectorTo(corner, next)) {
				return
			}
		}
	}
}

// bulges reports whether of each side all corners but its own two are to the left.
func bulges(corners []api.Point) bool {
	for corner, along := range sides(corners) {
		left := 0
		for _, other := range corners {
			if leftOf(along, vectorTo(corner, other)) > 0 {
				left++
			}
		}
		if left != len(corners)-2 {
			return false
		}
	}
	return true
}
