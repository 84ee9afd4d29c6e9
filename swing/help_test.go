package swing_test

import (
	"math"
	"math/rand/v2"
	"slices"

	"nore/api"
	"nore/chart"
)

// far are ints far beyond all limits; cut down to 32 bits, some of them are small.
var far = []int{math.MinInt, math.MinInt + 1, -1 << 40, -1<<32 - 1, -1 << 32, -1<<32 + 1, math.MinInt32, math.MaxInt32, 1 << 32, 1<<32 + 1, 1<<32 + 8, 1 << 40, math.MaxInt - 1, math.MaxInt}

func span(lo, hi int) api.Span { return api.Span{Lo: lo, Hi: hi} }

func point(x, y int) api.Point { return api.Point{X: x, Y: y} }

// box is a box: the Lo and the Hi of X, and of Y.
func box(a, b, c, d int) api.CtBox { return api.CtBox{X: span(a, b), Y: span(c, d)} }

// just is the box of a single place.
func just(x, y int) api.CtBox { return box(x, x, y, y) }

// points are places: X and Y of each.
func points(n ...int) (l []api.Point) {
	for i := 0; i+1 < len(n); i += 2 {
		l = append(l, point(n[i], n[i+1]))
	}
	return l
}

func look(minute, first, many int, at api.CtBox) api.SgLook {
	return api.SgLook{Minute: minute, Point: first, Points: many, At: at}
}

// looks are looks, the first one of the minute 0, and each other one a minute behind the one before it.
func looks(l ...api.SgLook) []api.SgLook {
	l = slices.Clone(l)
	for i := range l {
		l[i].Minute = i
	}
	return l
}

func sand(name string, moves api.CtBox, corners ...int) api.CtSand {
	return api.CtSand{Name: name, Corners: points(corners...), Moves: moves}
}

// example is M of the chapter's examples.
func example() api.SgMooring {
	return api.SgMooring{
		Chart:  api.CtChart{Sands: []api.CtSand{sand("knoll", box(0, 0, -5, 5), 100, 0, 120, 0, 120, 20, 100, 20)}},
		Anchor: box(0, 4, 0, 0),
		Ring:   span(95, 100),
		Near:   150,
	}
}

// changed is the example with a change.
func changed(change func(m *api.SgMooring)) api.SgMooring {
	m := example()
	change(&m)
	return m
}

// A, B and W of the chapter's examples.
var (
	lookA = look(0, 8, 1, box(100, 101, 0, 0))
	lookB = look(60, 24, 1, box(-98, -97, 0, 0))
	lookW = look(120, 8, 1, box(104, 105, 0, 0))
)

// plain is a mooring without a chart, with an anchor in a box, and a ring.
func plain(anchor api.CtBox, lo, hi int) api.SgMooring {
	return api.SgMooring{Anchor: anchor, Ring: span(lo, hi), Near: 20000}
}

// around is a look of all points of the compass.
func around(at api.CtBox) api.SgLook { return look(0, 0, 32, at) }

func clone(m api.SgMooring) api.SgMooring {
	m.Chart.Marks = slices.Clone(m.Chart.Marks)
	for i := range m.Chart.Marks {
		m.Chart.Marks[i].Paints = slices.Clone(m.Chart.Marks[i].Paints)
	}
	m.Chart.Sands = slices.Clone(m.Chart.Sands)
	for i := range m.Chart.Sands {
		m.Chart.Sands[i].Corners = slices.Clone(m.Chart.Sands[i].Corners)
	}
	return m
}

// same reports whether two moorings are equal.
func same(a, b api.SgMooring) bool {
	marks := slices.EqualFunc(a.Chart.Marks, b.Chart.Marks, func(s, t api.CtMark) bool {
		return s.Name == t.Name && s.At == t.At && slices.Equal(s.Paints, t.Paints)
	})
	sands := slices.EqualFunc(a.Chart.Sands, b.Chart.Sands, func(s, t api.CtSand) bool {
		return s.Name == t.Name && s.Moves == t.Moves && slices.Equal(s.Corners, t.Corners)
	})
	return marks && sands && a.Anchor == b.Anchor && a.Ring == b.Ring && a.Near == b.Near
}

// What follows holds the chapter's definitions, as they stand there, against the package.

// compass has the vectors of the points of the compass, and that of the first one again.
var compass = func() (c [33]api.Point) {
	for p := range c {
		c[p], _ = chart.Vector(p % 32)
	}
	return c
}()

// left is above 0 if v is to the left of along.
func left(along, v api.Point) int { return along.X*v.Y - along.Y*v.X }

// pointOf is the point of the compass in which a vector, other than 0, leads.
func pointOf(v api.Point) int {
	for p := range 32 {
		if left(compass[p], v) <= 0 && left(compass[p+1], v) > 0 {
			return p
		}
	}
	panic("no point")
}

func placesOf(b api.CtBox) (l []api.Point) {
	for x := b.X.Lo; x <= b.X.Hi; x++ {
		for y := b.Y.Lo; y <= b.Y.Hi; y++ {
			l = append(l, point(x, y))
		}
	}
	return l
}

func within(lo, n, hi int) bool { return lo <= n && n <= hi }

// lies reports whether she can lie at a place at a look, from a place of the anchor.
func lies(m api.SgMooring, x api.SgLook, anchor, at api.Point) bool {
	v := point(at.X-anchor.X, at.Y-anchor.Y)
	if far := v.X*v.X + v.Y*v.Y; far < m.Ring.Lo*m.Ring.Lo || far > m.Ring.Hi*m.Ring.Hi {
		return false
	}
	if !within(x.At.X.Lo, at.X, x.At.X.Hi) || !within(x.At.Y.Lo, at.Y, x.At.Y.Hi) {
		return false
	}
	if v == point(0, 0) {
		return true
	}
	p := pointOf(v)
	for i := range x.Points {
		if (x.Point+i)%32 == p {
			return true
		}
	}
	return false
}

// agrees reports whether a place of the anchor agrees with all looks.
func agrees(m api.SgMooring, anchor api.Point, l []api.SgLook) bool {
	for _, x := range l {
		if !slices.ContainsFunc(placesOf(x.At), func(at api.Point) bool { return lies(m, x, anchor, at) }) {
			return false
		}
	}
	return true
}

// anchors are the places of the anchor that agree with all looks.
func anchors(m api.SgMooring, l []api.SgLook) (r []api.Point) {
	for _, anchor := range placesOf(m.Anchor) {
		if agrees(m, anchor, l) {
			r = append(r, anchor)
		}
	}
	return r
}

// dragged is the first look by which she has dragged, and whether there is one.
func dragged(m api.SgMooring, l []api.SgLook) (int, api.Errno) {
	for i := range l {
		if len(anchors(m, l[:i+1])) == 0 {
			return i, api.OK
		}
	}
	return 0, api.ErrNone
}

// drags are the looks by which she has dragged, each since the one before.
func drags(m api.SgMooring, l []api.SgLook) (r []int, e api.Errno) {
	for _, x := range l {
		if len(anchors(m, looks(x))) == 0 {
			return nil, api.ErrDown
		}
	}
	last := 0
	for i := range l {
		if len(anchors(m, l[last:i+1])) == 0 {
			r, last = append(r, i), i
		}
	}
	return r, api.OK
}

// places are those at which she can lie at a further look.
func places(m api.SgMooring, l []api.SgLook, x api.SgLook) (r []api.Point, e api.Errno) {
	from := anchors(m, l)
	if len(from) == 0 {
		return nil, api.ErrDown
	}
	for _, at := range placesOf(x.At) {
		if slices.ContainsFunc(from, func(anchor api.Point) bool { return lies(m, x, anchor, at) }) {
			r = append(r, at)
		}
	}
	return r, api.OK
}

// onMoved reports whether a place is on a sand, moved by a vector.
func onMoved(s api.CtSand, move, at api.Point) bool {
	for i, a := range s.Corners {
		b := s.Corners[(i+1)%len(s.Corners)]
		if left(point(b.X-a.X, b.Y-a.Y), point(at.X-a.X-move.X, at.Y-a.Y-move.Y)) < 0 {
			return false
		}
	}
	return true
}

// perhaps is the first sand that a place is perhaps on, or -1.
func perhaps(m api.SgMooring, at api.Point) int {
	return slices.IndexFunc(m.Chart.Sands, func(s api.CtSand) bool {
		return slices.ContainsFunc(placesOf(s.Moves), func(move api.Point) bool { return onMoved(s, move, at) })
	})
}

// danger is the first place that is not clear, and the first sand that it perhaps is on.
func danger(m api.SgMooring, l []api.SgLook, x api.SgLook) (at api.Point, sand int, e api.Errno) {
	r, e := places(m, l, x)
	if e != api.OK {
		return point(0, 0), 0, e
	}
	for _, at := range r {
		sand := perhaps(m, at)
		if sand >= 0 || at.X*at.X+at.Y*at.Y > m.Near*m.Near {
			return at, sand, api.OK
		}
	}
	return point(0, 0), 0, api.ErrNone
}

// picked are the indices, of so many, whose bits are set.
func picked(set uint, n int) (l []int) {
	for i := range n {
		if set>>i&1 == 1 {
			l = append(l, i)
		}
	}
	return l
}

// without are the looks whose indices are not in a list.
func without(l []api.SgLook, list []int) (r []api.SgLook) {
	for i, x := range l {
		if !slices.Contains(list, i) {
			r = append(r, x)
		}
	}
	return r
}

// before reports whether a list is shorter than another one, or as long and, number by number, first.
func before(a, b []int) bool {
	if len(a) != len(b) {
		return len(a) < len(b)
	}
	return slices.Compare(a, b) < 0
}

// wrong goes through all lists of looks.
func wrong(m api.SgMooring, l []api.SgLook) (best []int) {
	found := false
	for set := range uint(1) << len(l) {
		list := picked(set, len(l))
		if (!found || before(list, best)) && len(anchors(m, without(l, list))) > 0 {
			best, found = list, true
		}
	}
	return best
}

// dice are random numbers, the same ones in each run.
type dice struct{ *rand.Rand }

func newDice(seed uint64) dice { return dice{rand.New(rand.NewPCG(seed, 4))} }

// from is a number from lo to hi.
func (d dice) from(lo, hi int) int { return lo + d.IntN(hi-lo+1) }

// around is a span at most so wide, with a number in it.
func (d dice) around(n, wide int) api.Span {
	w := d.from(0, wide)
	lo := n - d.from(0, w)
	return span(lo, lo+w)
}

// boxAround is a box at most so wide, with a place in it.
func (d dice) boxAround(p api.Point, wide int) api.CtBox {
	return api.CtBox{X: d.around(p.X, wide), Y: d.around(p.Y, wide)}
}

// mooring is a random mooring near a place, with the box of the anchor at most so wide, and a ring at most so large.
func (d dice) mooring(near api.Point, wide, large int) api.SgMooring {
	m := plain(d.boxAround(near, wide), 0, 0)
	m.Ring.Hi = d.from(1, large)
	m.Ring.Lo = d.from(max(0, m.Ring.Hi-d.from(0, large)), m.Ring.Hi)
	for i := range d.IntN(5) {
		m.Chart.Sands = append(m.Chart.Sands, d.sand(string(rune('a'+i)), near, large+3))
	}
	m.Near = d.from(0, 2*large)
	return m
}

// sand is a random sand near a place.
func (d dice) sand(name string, near api.Point, size int) api.CtSand {
	x, y := near.X+d.from(-size, size), near.Y+d.from(-size, size)
	w, h, slant := d.from(1, size), d.from(1, size), d.from(-2, 2)
	s := sand(name, api.CtBox{X: d.around(0, 3), Y: d.around(0, 3)}, x, y, x+w, y, x+w+slant, y+h, x+slant, y+h)
	if k := d.IntN(5); k < 4 {
		s.Corners = slices.Delete(s.Corners, k, k+1) // a triangle
	}
	return s
}

// swing is a random place at which she can lie, as far as the ring goes, if the anchor is at another one.
func (d dice) swing(m api.SgMooring, anchor api.Point) api.Point {
	for {
		x, y := d.from(-m.Ring.Hi, m.Ring.Hi), d.from(-m.Ring.Hi, m.Ring.Hi)
		if d.IntN(8) == 0 {
			x, y = 0, m.Ring.Hi // so that there is one in each ring
		}
		if within(m.Ring.Lo*m.Ring.Lo, x*x+y*y, m.Ring.Hi*m.Ring.Hi) {
			return point(anchor.X+x, anchor.Y+y)
		}
	}
}

// trueLook is a look at which she lies at a place, if the anchor is at another one.
func (d dice) trueLook(minute int, anchor, at api.Point, wide int) api.SgLook {
	p := 0
	if v := point(at.X-anchor.X, at.Y-anchor.Y); v != point(0, 0) {
		p = pointOf(v)
	}
	many := d.from(1, []int{1, 3, 20, 32}[d.IntN(4)])
	return look(minute, (p+32-d.from(0, many-1))%32, many, d.boxAround(at, wide))
}

// truth is where the anchor is, and where she lies at so many looks, and these.
func (d dice) truth(m api.SgMooring, n, wide int) (anchor api.Point, at []api.Point, l []api.SgLook) {
	all := placesOf(m.Anchor)
	anchor = all[d.IntN(len(all))]
	for i := range n {
		at = append(at, d.swing(m, anchor))
		l = append(l, d.trueLook(10*i+d.from(0, 9), anchor, at[i], wide))
	}
	return anchor, at, l
}

// someLooks are so many looks, each of another place of the anchor; so many per cent are of a place near the box of the anchor.
func (d dice) someLooks(m api.SgMooring, n, wide, untrue int) (l []api.SgLook) {
	all := placesOf(m.Anchor)
	for i := range n {
		anchor := all[d.IntN(len(all))]
		if d.IntN(100) < untrue {
			anchor.X, anchor.Y = anchor.X+d.from(-9, 9), anchor.Y+d.from(-9, 9)
		}
		l = append(l, d.trueLook(10*i+d.from(0, 9), anchor, d.swing(m, anchor), wide))
	}
	return l
}
