package swing_test

import (
	"fmt"
	"slices"
	"testing"

	"nore/api"
	"nore/swing"
)

// expectLies tells if Lies does not return this.
func expectLies(t *testing.T, what string, m api.SgMooring, x api.SgLook, anchor, at api.Point, want bool, e api.Errno) {
	t.Helper()
	if is, g := swing.Lies(m, x, anchor, at); is != want || g != e {
		t.Errorf("%s: Lies at %v from %v, at %v, = %v, %d; it should be %v, %d", what, at, anchor, x, is, g, want, e)
	}
}

// expectAnchors tells if Anchors does not return these places.
func expectAnchors(t *testing.T, what string, m api.SgMooring, l []api.SgLook, want []api.Point) {
	t.Helper()
	if r, e := swing.Anchors(m, l); !slices.Equal(r, want) || e != api.OK {
		t.Errorf("%s: Anchors of %v with %v = %v, %d; it should be %v", what, m, l, r, e, want)
	}
}

// P4.3: the example.
func TestLiesExample(t *testing.T) {
	m := example()
	expectLies(t, "A", m, lookA, point(3, 0), point(100, 0), true, api.OK)
	expectLies(t, "A, out of the box", m, lookA, point(3, 0), point(98, 0), false, api.OK)
	expectLies(t, "B", m, lookB, point(3, 0), point(-97, 0), true, api.OK)
	expectLies(t, "B, out of the ring", m, lookB, point(4, 0), point(-97, 0), false, api.OK)
	expectLies(t, "W", m, lookW, point(4, 0), point(104, 0), true, api.OK)
	expectLies(t, "W, out of the ring", m, lookW, point(3, 0), point(104, 0), false, api.OK)
	expectLies(t, "from a place out of the box of the anchor", m, lookW, point(5, 0), point(105, 0), true, api.OK)
	expectLies(t, "to the east, not to the west", m, lookA, point(200, 0), point(101, 0), false, api.OK)
}

// P4.3: the ring has both of its ends, by squares.
func TestLiesRing(t *testing.T) {
	anchor := point(1000, -2000)
	for x := range 12 {
		for y := range 12 {
			for _, sign := range points(1, 1, 1, -1, -1, 1, -1, -1) {
				at := point(anchor.X+sign.X*x, anchor.Y+sign.Y*y)
				s := around(just(at.X, at.Y))
				n := x*x + y*y
				for lo := range 11 {
					hi := min(lo+y%3, 10)
					is := lo*lo <= n && n <= hi*hi
					expectLies(t, fmt.Sprint("ring ", lo, " to ", hi), plain(just(0, 0), lo, hi), s, anchor, at, is, api.OK)
				}
			}
		}
	}
	m := plain(just(0, 0), 200, 200)
	expectLies(t, "the largest ring", m, around(just(120, 160)), point(0, 0), point(120, 160), true, api.OK)
	expectLies(t, "the largest ring, nearer", m, around(just(120, 159)), point(0, 0), point(120, 159), false, api.OK)
	expectLies(t, "the largest ring, farther", m, around(just(121, 160)), point(0, 0), point(121, 160), false, api.OK)
	expectLies(t, "as far as can be", m, around(box(8984, 9000, 8984, 9000)), point(-9000, -9000), point(9000, 9000), false, api.OK)
}

// P4.3: just the place of the anchor is in each point of the compass.
func TestLiesAtAnchor(t *testing.T) {
	for p := range 32 {
		x := look(3, p, 1, just(-40, 7))
		expectLies(t, "at the anchor", plain(just(0, 0), 0, 5), x, point(-40, 7), point(-40, 7), true, api.OK)
		expectLies(t, "at the anchor, in a ring of nothing", plain(just(0, 0), 0, 0), x, point(-40, 7), point(-40, 7), true, api.OK)
		expectLies(t, "at the anchor, which the ring is without", plain(just(0, 0), 1, 5), x, point(-40, 7), point(-40, 7), false, api.OK)
		expectLies(t, "at the anchor, out of the box", plain(just(0, 0), 0, 5), look(3, p, 1, just(-40, 6)), point(-40, 7), point(-40, 7), false, api.OK)
	}
}

// P4.3: all edges of the box of the look.
func TestLiesBox(t *testing.T) {
	m, x := plain(just(0, 0), 0, 200), around(box(10, 26, -30, -14))
	for _, f := range []struct {
		at api.Point
		is bool
	}{
		{point(10, -30), true}, {point(26, -30), true}, {point(10, -14), true}, {point(26, -14), true},
		{point(9, -20), false}, {point(27, -20), false}, {point(15, -31), false}, {point(15, -13), false},
		{point(-20, 15), false}, {point(15, -20), true},
	} {
		expectLies(t, "the box", m, x, point(5, 5), f.at, f.is, api.OK)
	}
}

// P4.3: each point, and so many, clockwise, round and round.
func TestLiesPoints(t *testing.T) {
	m := plain(just(0, 0), 0, 200)
	anchor := point(-300, 500)
	for x := -18; x <= 18; x += 3 {
		for y := -18; y <= 18; y += 3 {
			if x == 0 && y == 0 {
				continue
			}
			at := point(anchor.X+x, anchor.Y+y)
			p := pointOf(point(x, y))
			for first := range 32 {
				for _, many := range []int{1, 2, 8, 15, 16, 17, 24, 31, 32} {
					is := (p-first+32)%32 < many
					expectLies(t, "points", m, look(0, first, many, just(at.X, at.Y)), anchor, at, is, api.OK)
				}
			}
		}
	}
}

// P4.3: a place just along the vector of a point is in this point, not in the one before it.
func TestLiesAlong(t *testing.T) {
	m := plain(just(0, 0), 0, 200)
	for i, v := range points(0, 50, 50, 50, 50, 0, 50, -50, 0, -50, -50, -50, -50, 0, -50, 50) {
		x := look(0, 4*i, 1, just(v.X, v.Y))
		expectLies(t, "along", m, x, point(0, 0), v, true, api.OK)
		x.Point = (4*i + 31) % 32
		expectLies(t, "along, before", m, x, point(0, 0), v, false, api.OK)
		x.Points = 2
		expectLies(t, "along, the last one of two", m, x, point(0, 0), v, true, api.OK)
		x.Point, x.Points = (4*i+1)%32, 31
		expectLies(t, "along, the only one without", m, x, point(0, 0), v, false, api.OK)
	}
}

// P4.3, R5: places that are too far, behind the errors of the look.
func TestLiesErrors(t *testing.T) {
	m := example()
	for _, n := range append([]int{-9001, 9001}, far...) {
		for k := range 4 {
			p := [4]int{}
			p[k] = n
			anchor, at := point(p[0], p[1]), point(p[2], p[3])
			expectLies(t, "too far", m, lookA, anchor, at, false, api.ErrRange)
			expectLies(t, "too far, and no box", m, look(0, 0, 1, box(1, 0, 0, 0)), anchor, at, false, api.ErrArg)
		}
	}
	for _, n := range []int{-9000, 9000} {
		for k := range 4 {
			p := [4]int{}
			p[k] = n
			expectLies(t, "as far as can be", m, lookA, point(p[0], p[1]), point(p[2], p[3]), false, api.OK)
		}
	}
	x := look(100000, 0, 1, just(-9000, 9000))
	expectLies(t, "in the corner", m, x, point(-9000, 8905), point(-9000, 9000), true, api.OK)
}

// P4.3: moorings and places at random, held against the definition.
func TestLiesAtRandom(t *testing.T) {
	d := newDice(1)
	yes := 0
	for range 20000 {
		m := d.mooring(point(d.from(-8000, 8000), d.from(-8000, 8000)), 16, d.from(1, 200))
		anchor := point(m.Anchor.X.Lo+d.from(-5, 20), m.Anchor.Y.Lo+d.from(-5, 20))
		at := d.swing(m, anchor)
		x := d.trueLook(5, anchor, at, 16)
		if d.IntN(2) == 0 {
			at = point(at.X+d.from(-2, 2), at.Y+d.from(-2, 2))
		}
		if d.IntN(3) == 0 {
			x.Point = d.from(0, 31)
		}
		is := lies(m, x, anchor, at)
		if is {
			yes++
		}
		expectLies(t, "random", m, x, anchor, at, is, api.OK)
	}
	if yes < 4000 || yes > 16000 {
		t.Errorf("of 20000 places she can lie at %d", yes)
	}
}

// P4.3: the example.
func TestAnchorsExample(t *testing.T) {
	m := example()
	expectAnchors(t, "no looks", m, nil, points(0, 0, 1, 0, 2, 0, 3, 0, 4, 0))
	expectAnchors(t, "A", m, []api.SgLook{lookA}, points(0, 0, 1, 0, 2, 0, 3, 0, 4, 0))
	expectAnchors(t, "A, B", m, []api.SgLook{lookA, lookB}, points(0, 0, 1, 0, 2, 0, 3, 0))
	expectAnchors(t, "W", m, []api.SgLook{lookW}, points(4, 0))
	expectAnchors(t, "A, B, W", m, []api.SgLook{lookA, lookB, lookW}, nil)
}

// P4.3: the lower X first, of the same X the lower Y; each place of the widest box is one.
func TestAnchorsOrder(t *testing.T) {
	m := plain(box(-1, 1, 5, 6), 0, 9)
	expectAnchors(t, "order", m, nil, points(-1, 5, -1, 6, 0, 5, 0, 6, 1, 5, 1, 6))
	m.Anchor = box(-8, 8, -9000, -8984)
	all := placesOf(m.Anchor)
	expectAnchors(t, "the widest box", m, nil, all)
	m.Ring = span(0, 0)
	for i, p := range all {
		expectAnchors(t, "one place", m, looks(look(0, 5, 1, just(p.X, p.Y))), []api.Point{p})
		if at, e := swing.Places(m, nil, look(0, 5, 1, just(p.X, p.Y))); !slices.Equal(at, []api.Point{p}) || e != api.OK {
			t.Errorf("Places of one place = %v, %d; it should be %v", at, e, p)
		}
		if i%20 == 0 {
			expectAnchors(t, "all but some", m, looks(look(0, 5, 1, box(-8, 7, -8999, -8984))), placesOf(box(-8, 7, -8999, -8984)))
		}
	}
	expectAnchors(t, "two boxes", m, looks(around(box(-8, 2, -9000, -8990)), around(box(1, 8, -8992, -8984))), placesOf(box(1, 2, -8992, -8990)))
	expectAnchors(t, "two boxes without a common place", m, looks(around(box(-8, 0, -9000, -8990)), around(box(1, 8, -9000, -8990))), nil)
}

// P4.3: the places at which she lies at two looks need not be the same.
func TestAnchorsOtherPlaces(t *testing.T) {
	m := plain(box(0, 9, 0, 0), 10, 10)
	expectAnchors(t, "to the east, and to the west", m, looks(look(0, 8, 1, box(12, 18, 0, 0)), look(0, 24, 1, box(-8, -3, 0, 0))), points(2, 0, 3, 0, 4, 0, 5, 0, 6, 0, 7, 0))
	expectAnchors(t, "the same look twice", m, looks(look(0, 8, 1, box(12, 13, 0, 0)), look(0, 8, 1, box(12, 13, 0, 0))), points(2, 0, 3, 0))
	expectAnchors(t, "no place is in the ring", plain(box(0, 9, 0, 0), 3, 4), looks(around(box(20, 22, 0, 0))), nil)
}

// P4.3: moorings and looks at random, held against the definition.
func TestAnchorsAtRandom(t *testing.T) {
	d := newDice(2)
	for i := range 1500 {
		m := d.mooring(point(d.from(-90, 90), d.from(-90, 90)), 8, d.from(1, 40))
		l := d.someLooks(m, i%9, []int{1, 4, 8, 16}[i%4], 5)
		expectAnchors(t, fmt.Sprint("random ", i), m, l, anchors(m, l))
	}
}
