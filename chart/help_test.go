package chart_test

import (
	"math"
	"math/big"
	"math/rand/v2"
	"slices"
	"testing"

	"nore/api"
	"nore/chart"
)

// far are ints far beyond all limits; cut down to 32 bits, some of them are small.
var far = []int{math.MinInt, math.MinInt + 1, -1 << 40, -1<<32 + 5, -1 << 32, math.MinInt32, math.MaxInt32, 1 << 32, 1<<32 + 5, 1 << 40, math.MaxInt - 1, math.MaxInt}

func point(x, y int) api.Point { return api.Point{X: x, Y: y} }

// points are places: X and Y of each.
func points(n ...int) (l []api.Point) {
	for i := 0; i+1 < len(n); i += 2 {
		l = append(l, point(n[i], n[i+1]))
	}
	return l
}

// box is a box: the ends of X and of Y.
func box(a, b, c, d int) api.CtBox {
	return api.CtBox{X: api.Span{Lo: a, Hi: b}, Y: api.Span{Lo: c, Hi: d}}
}

// paints are paints: a day and a colour of each.
func paints(n ...int) (l []api.CtPaint) {
	for i := 0; i+1 < len(n); i += 2 {
		l = append(l, api.CtPaint{Day: n[i], Colour: n[i+1]})
	}
	return l
}

func mark(name string, at api.Point, l ...int) api.CtMark {
	return api.CtMark{Name: name, At: at, Paints: paints(l...)}
}

func sand(name string, moves api.CtBox, corners ...int) api.CtSand {
	return api.CtSand{Name: name, Corners: points(corners...), Moves: moves}
}

// example is C of the chapter's examples.
func example() api.CtChart {
	return api.CtChart{
		Marks: []api.CtMark{
			mark("church", point(3000, 4000), 0, api.CtWhite, 50, api.CtRed),
			mark("mill", point(-2000, 0), 10, api.CtBlack, 90, api.CtGone),
		},
		Sands: []api.CtSand{
			sand("knoll", box(0, 10, -5, 5), 100, 0, 200, 0, 200, 100, 100, 100),
			sand("spit", box(0, 0, 0, 0), -300, -300, -100, -400, -200, -200),
		},
	}
}

// sandsOnly is a chart of sands.
func sandsOnly(l ...api.CtSand) api.CtChart { return api.CtChart{Sands: l} }

// oneMark is a chart of a mark that always stands.
func oneMark(at api.Point) api.CtChart {
	return api.CtChart{Marks: []api.CtMark{mark("church", at, 0, api.CtWhite)}}
}

func clone(c api.CtChart) api.CtChart {
	c.Marks = slices.Clone(c.Marks)
	for i := range c.Marks {
		c.Marks[i].Paints = slices.Clone(c.Marks[i].Paints)
	}
	c.Sands = slices.Clone(c.Sands)
	for i := range c.Sands {
		c.Sands[i].Corners = slices.Clone(c.Sands[i].Corners)
	}
	return c
}

// same reports whether two charts are equal.
func same(a, b api.CtChart) bool {
	return slices.EqualFunc(a.Marks, b.Marks, func(x, y api.CtMark) bool {
		return x.Name == y.Name && x.At == y.At && slices.Equal(x.Paints, y.Paints)
	}) && slices.EqualFunc(a.Sands, b.Sands, func(x, y api.CtSand) bool {
		return x.Name == y.Name && x.Moves == y.Moves && slices.Equal(x.Corners, y.Corners)
	})
}

// changed is a chart whose places, corners and moves went through two functions.
func changed(c api.CtChart, place func(api.Point) api.Point, moves func(api.CtBox) api.CtBox) api.CtChart {
	c = clone(c)
	for i := range c.Marks {
		c.Marks[i].At = place(c.Marks[i].At)
	}
	for i := range c.Sands {
		c.Sands[i].Moves = moves(c.Sands[i].Moves)
		for k, p := range c.Sands[i].Corners {
			c.Sands[i].Corners[k] = place(p)
		}
	}
	return c
}

func moved(c api.CtChart, by api.Point) api.CtChart {
	return changed(c, func(p api.Point) api.Point { return plus(p, by) }, func(b api.CtBox) api.CtBox { return b })
}

func plus(a, b api.Point) api.Point { return point(a.X+b.X, a.Y+b.Y) }

func minus(a, b api.Point) api.Point { return point(a.X-b.X, a.Y-b.Y) }

// cross is above 0 if b is to the left of a.
func cross(a, b api.Point) int { return a.X*b.Y - a.Y*b.X }

// eachOf is a list of all whole places of a box, in the order of vectors.
func eachOf(b api.CtBox) (l []api.Point) {
	for x := b.X.Lo; x <= b.X.Hi; x++ {
		for y := b.Y.Lo; y <= b.Y.Hi; y++ {
			l = append(l, point(x, y))
		}
	}
	return l
}

// dice are random numbers, the same ones in each run.
type dice struct{ *rand.Rand }

func newDice(seed uint64) dice { return dice{rand.New(rand.NewPCG(seed, 7))} }

// from is a number from lo to hi.
func (d dice) from(lo, hi int) int { return lo + d.IntN(hi-lo+1) }

func (d dice) place(far int) api.Point { return point(d.from(-far, far), d.from(-far, far)) }

// corners are those of a random sand with at most 8 of them, all at most wide from the place.
func (d dice) corners(at api.Point, wide int) []api.Point {
	for {
		var l []api.Point
		for range d.from(3, 9) {
			l = append(l, plus(at, d.place(wide)))
		}
		if h := hull(l); len(h) >= 3 && len(h) <= api.MaxCtCorners {
			n := d.IntN(len(h))
			return append(slices.Clone(h[n:]), h[:n]...)
		}
	}
}

// hull are the corners around places, against the clock.
func hull(l []api.Point) []api.Point {
	slices.SortFunc(l, func(a, b api.Point) int {
		if a.X != b.X {
			return a.X - b.X
		}
		return a.Y - b.Y
	})
	l = slices.Compact(l)
	half := func(l []api.Point) (h []api.Point) {
		for _, p := range l {
			for len(h) > 1 && cross(minus(h[len(h)-1], h[len(h)-2]), minus(p, h[len(h)-2])) <= 0 {
				h = h[:len(h)-1]
			}
			h = append(h, p)
		}
		return h[:len(h)-1]
	}
	if len(l) < 3 {
		return nil
	}
	lower := half(l)
	slices.Reverse(l)
	return append(lower, half(l)...)
}

// moves is a random box of moves, each span at most wide.
func (d dice) moves(far, wide int) api.CtBox {
	span := func() api.Span {
		n := d.from(0, wide)
		lo := d.from(-far, far-n)
		return api.Span{Lo: lo, Hi: lo + n}
	}
	x := span()
	y := span()
	return api.CtBox{X: x, Y: y}
}

// sands is a chart of some random sands near 0, 0, with corners up to wide from each other.
func (d dice) sands(n, wide, move int) (c api.CtChart) {
	for i := range n {
		s := api.CtSand{Name: "sand-" + string(rune('a'+i)), Moves: d.moves(2*move, move)}
		s.Corners = d.corners(d.place(2*wide), wide)
		c.Sands = append(c.Sands, s)
	}
	return c
}

// marks adds some random marks, at most far from 0, 0.
func (d dice) marks(c api.CtChart, n, far int) api.CtChart {
	for i := range n {
		m := api.CtMark{Name: "mark-" + string(rune('a'+i)), At: d.place(far)}
		day := d.from(0, 100)
		for range d.from(1, api.MaxCtPaints) {
			m.Paints = append(m.Paints, api.CtPaint{Day: day, Colour: d.from(0, 4)})
			day += d.from(1, 100)
		}
		c.Marks = append(c.Marks, m)
	}
	return c
}

// isOn reports whether a place is on a sand that is moved by a vector, as the chapter defines it.
func isOn(s api.CtSand, move, at api.Point) bool {
	for i, a := range s.Corners {
		b := s.Corners[(i+1)%len(s.Corners)]
		if cross(minus(b, a), minus(at, plus(a, move))) < 0 {
			return false
		}
	}
	return true
}

// distance is the square of the distance of a place and a sand that is moved by a vector, without any rounding.
func distance(s api.CtSand, move, at api.Point) *big.Rat {
	least := new(big.Rat)
	if isOn(s, move, at) {
		return least
	}
	for i := range s.Corners {
		a := minus(plus(s.Corners[i], move), at)
		b := minus(plus(s.Corners[(i+1)%len(s.Corners)], move), at)
		d := minus(b, a)
		// The nearest point is a part t of the way from a to b.
		t := big.NewRat(int64(-a.X*d.X-a.Y*d.Y), int64(d.X*d.X+d.Y*d.Y))
		if t.Sign() < 0 {
			t.SetInt64(0)
		} else if t.Cmp(big.NewRat(1, 1)) > 0 {
			t.SetInt64(1)
		}
		x := t.Num().Int64()*int64(d.X) + t.Denom().Int64()*int64(a.X)
		y := t.Num().Int64()*int64(d.Y) + t.Denom().Int64()*int64(a.Y)
		n := new(big.Int).Mul(big.NewInt(x), big.NewInt(x))
		n.Add(n, new(big.Int).Mul(big.NewInt(y), big.NewInt(y)))
		q := new(big.Rat).SetFrac(n, new(big.Int).Mul(t.Denom(), t.Denom()))
		if i == 0 || q.Cmp(least) < 0 {
			least = q
		}
	}
	return least
}

// mustOn returns what On returns, which has to be without an error.
func mustOn(t *testing.T, c api.CtChart, at api.Point) (sure, some []int) {
	t.Helper()
	sure, some, e := chart.On(c, at)
	if e != api.OK {
		t.Fatalf("On of %v at %v = error %d", c, at, e)
	}
	return sure, some
}

// mustRadius returns what Radius returns, which has to be without an error.
func mustRadius(t *testing.T, c api.CtChart, at api.Point) int {
	t.Helper()
	n, e := chart.Radius(c, at)
	if e != api.OK {
		t.Fatalf("Radius of %v at %v = error %d", c, at, e)
	}
	return n
}

// hasAll reports whether a list has all numbers of another one.
func hasAll(l, part []int) bool {
	for _, n := range part {
		if !slices.Contains(l, n) {
			return false
		}
	}
	return true
}
