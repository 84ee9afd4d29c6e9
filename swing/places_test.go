package swing_test

import (
	"fmt"
	"slices"
	"testing"

	"nore/api"
	"nore/swing"
)

// expectPlaces tells if Places does not return this.
func expectPlaces(t *testing.T, what string, m api.SgMooring, l []api.SgLook, x api.SgLook, want []api.Point, e api.Errno) {
	t.Helper()
	if r, g := swing.Places(m, l, x); !slices.Equal(r, want) || g != e {
		t.Errorf("%s: Places of %v with %v at %v = %v, %d; it should be %v, %d", what, m, l, x, r, g, want, e)
	}
}

// expectDanger tells if Danger does not return this.
func expectDanger(t *testing.T, what string, m api.SgMooring, l []api.SgLook, x api.SgLook, want api.Point, sand int, e api.Errno) {
	t.Helper()
	if at, s, g := swing.Danger(m, l, x); at != want || s != sand || g != e {
		t.Errorf("%s: Danger of %v with %v at %v = %v, %d, %d; it should be %v, %d, %d", what, m, l, x, at, s, g, want, sand, e)
	}
}

// P4.5: the example.
func TestPlacesExample(t *testing.T) {
	m := example()
	expectPlaces(t, "W after A and B", m, []api.SgLook{lookA, lookB}, lookW, nil, api.OK)
	expectDanger(t, "W after A and B", m, []api.SgLook{lookA, lookB}, lookW, point(0, 0), 0, api.ErrNone)
	expectPlaces(t, "A, with no looks", m, nil, lookA, points(100, 0, 101, 0), api.OK)
	expectDanger(t, "A, with no looks", m, nil, lookA, point(100, 0), 0, api.OK)
	expectPlaces(t, "B", m, nil, lookB, points(-98, 0, -97, 0), api.OK)
	expectDanger(t, "B", m, nil, lookB, point(0, 0), 0, api.ErrNone)
	expectPlaces(t, "after A, B, W", m, []api.SgLook{lookA, lookB, lookW}, lookA, nil, api.ErrDown)
	expectDanger(t, "after A, B, W", m, []api.SgLook{lookA, lookB, lookW}, lookA, point(0, 0), 0, api.ErrDown)
}

// P4.5: the lower X first, of the same X the lower Y; each place once, from however many places of the anchor she can lie there.
func TestPlacesOrder(t *testing.T) {
	m := plain(box(-1, 1, 5, 6), 0, 9)
	expectPlaces(t, "order", m, nil, around(box(2, 3, 4, 6)), points(2, 4, 2, 5, 2, 6, 3, 4, 3, 5, 3, 6), api.OK)
	m = plain(box(-8, 8, 0, 16), 0, 200)
	expectPlaces(t, "the widest box", m, nil, around(box(30, 46, -16, 0)), placesOf(box(30, 46, -16, 0)), api.OK)
	m = plain(just(0, 0), 5, 5)
	expectPlaces(t, "a ring", m, nil, around(box(-8, 8, -8, 8)), points(-5, 0, -4, -3, -4, 3, -3, -4, -3, 4, 0, -5, 0, 5, 3, -4, 3, 4, 4, -3, 4, 3, 5, 0), api.OK)
	expectPlaces(t, "a part of a ring", m, nil, look(0, 8, 9, box(-8, 8, -8, 8)), points(0, -5, 3, -4, 4, -3, 5, 0), api.OK)
	expectPlaces(t, "a single box", m, nil, around(box(4, 8, 0, 8)), points(4, 3, 5, 0), api.OK)
}

// P4.5: only places of the anchor that agree with all looks count, and only those of its box.
func TestPlacesAfterLooks(t *testing.T) {
	m := line()
	expectPlaces(t, "no looks", m, nil, around(box(-3, 12, 0, 0)), placesOf(box(0, 9, 0, 0)), api.OK)
	expectPlaces(t, "one look", m, from(3, 15), around(box(-3, 5, 0, 0)), placesOf(box(3, 5, 0, 0)), api.OK)
	expectPlaces(t, "two looks", m, from(3, 15, 1, 4), around(box(-3, 12, 0, 0)), placesOf(box(3, 4, 0, 0)), api.OK)
	expectPlaces(t, "nowhere", m, from(3, 15, 1, 4), around(box(5, 12, 0, 0)), nil, api.OK)
	expectPlaces(t, "none agrees", m, from(3, 15, 1, 2), around(box(5, 12, 0, 0)), nil, api.ErrDown)
	expectPlaces(t, "none of a single look agrees", m, from(10, 15), around(box(5, 12, 0, 0)), nil, api.ErrDown)
}

// P4.5: a place is clear as far as Near, by squares, and the charted place is what counts.
func TestDangerNear(t *testing.T) {
	m := plain(box(1000, 1004, 2000, 2002), 0, 200)
	x := around(just(1003, 2001))
	n := 0
	for n*n < 1003*1003+2001*2001 {
		n++
	}
	for near, want := range map[int]api.Errno{n: api.ErrNone, n + 1: api.ErrNone, 20000: api.ErrNone, n - 1: api.OK, 0: api.OK, 300: api.OK} {
		m.Near = near
		at, sand := point(1003, 2001), -1
		if want != api.OK {
			at, sand = point(0, 0), 0
		}
		expectDanger(t, fmt.Sprint("Near ", near), m, nil, x, at, sand, want)
	}
	m = plain(just(0, 0), 0, 200)
	m.Near = 5
	for _, f := range []struct {
		at   api.Point
		near bool
	}{{point(3, 4), true}, {point(-3, 4), true}, {point(4, -3), true}, {point(-5, 0), true}, {point(0, 5), true}, {point(4, 4), false}, {point(-6, 0), false}, {point(0, -6), false}, {point(5, -1), false}, {point(0, 0), true}} {
		if f.near {
			expectDanger(t, "a circle of 5", m, nil, around(just(f.at.X, f.at.Y)), point(0, 0), 0, api.ErrNone)
		} else {
			expectDanger(t, "a circle of 5", m, nil, around(just(f.at.X, f.at.Y)), f.at, -1, api.OK)
		}
	}
	m.Near = 0
	expectDanger(t, "just the charted place", m, nil, around(just(0, 0)), point(0, 0), 0, api.ErrNone)
	expectDanger(t, "beside it", m, nil, around(box(0, 1, 0, 0)), point(1, 0), -1, api.OK)
	m = plain(box(-9000, -8984, 8984, 9000), 0, 200)
	expectDanger(t, "as far as can be", m, nil, around(just(-9000, 9000)), point(0, 0), 0, api.ErrNone)
}

// P4.5: sands that a place is perhaps on; the first place, and the first sand, are meant; a sand counts more than Near.
func TestDangerSands(t *testing.T) {
	m := plain(just(0, 0), 0, 200)
	m.Chart.Sands = []api.CtSand{
		sand("spit", box(0, 0, 0, 0), 40, 40, 60, 40, 60, 60, 40, 60),
		sand("knoll", box(0, 3, -5, 5), 20, 0, 30, 0, 30, 10, 20, 10),
		sand("bar", box(0, 0, 0, 0), 30, 0, 50, 0, 50, 10, 30, 10),
	}
	for i, f := range []struct {
		at   api.CtBox
		want api.Point
		sand int
		e    api.Errno
	}{
		{box(0, 16, 0, 0), point(0, 0), 0, api.ErrNone},
		{box(10, 26, 0, 0), point(20, 0), 1, api.OK},
		{box(34, 40, 0, 0), point(34, 0), 2, api.OK},
		{just(33, 0), point(33, 0), 1, api.OK},
		{just(33, 15), point(33, 15), 1, api.OK},
		{just(33, 16), point(0, 0), 0, api.ErrNone},
		{just(20, -5), point(20, -5), 1, api.OK},
		{just(20, -6), point(0, 0), 0, api.ErrNone},
		{just(19, 0), point(0, 0), 0, api.ErrNone},
		{box(44, 60, 0, 16), point(44, 0), 2, api.OK},
		{box(44, 60, 11, 27), point(0, 0), 0, api.ErrNone},
		{box(39, 50, 30, 46), point(40, 40), 0, api.OK},
		{box(45, 61, 59, 65), point(45, 59), 0, api.OK},
		{box(61, 66, 59, 65), point(0, 0), 0, api.ErrNone},
	} {
		expectDanger(t, fmt.Sprint("sands ", i), m, nil, around(f.at), f.want, f.sand, f.e)
	}
	m.Near = 35
	expectDanger(t, "too far, though on no sand", m, nil, around(box(32, 34, 18, 18)), point(32, 18), -1, api.OK)
	expectDanger(t, "too far, and on a sand", m, nil, around(box(45, 46, 45, 46)), point(45, 45), 0, api.OK)
	expectDanger(t, "on a sand, then too far", m, nil, around(box(30, 36, -5, -5)), point(30, -5), 1, api.OK)
	expectDanger(t, "too far, then on a sand", m, nil, around(box(-36, -30, -30, -29)), point(-36, -30), -1, api.OK)
	m.Chart.Sands[1], m.Chart.Sands[2] = m.Chart.Sands[2], m.Chart.Sands[1]
	expectDanger(t, "the sands the other way round", m, nil, around(just(33, 0)), point(33, 0), 1, api.OK)
	expectDanger(t, "a place at which she cannot lie is none", m, nil, look(0, 9, 31, box(20, 30, 0, 0)), point(0, 0), 0, api.ErrNone)
}

// P4.5: moorings and looks at random, held against the definitions.
func TestPlacesAtRandom(t *testing.T) {
	d := newDice(5)
	var kinds [3]int
	for i := range 1500 {
		m := d.mooring(point(d.from(-30, 30), d.from(-30, 30)), 8, d.from(1, 40))
		l := d.someLooks(m, i%4, []int{1, 4, 8, 16}[i%4], 5)
		x := d.someLooks(m, 1, []int{1, 8, 16}[i%3], 20)[0]
		what := fmt.Sprint("random ", i)
		r, e := places(m, l, x)
		expectPlaces(t, what, m, l, x, r, e)
		at, sand, e := danger(m, l, x)
		expectDanger(t, what, m, l, x, at, sand, e)
		switch {
		case e != api.OK:
			kinds[0]++
		case sand < 0:
			kinds[1]++
		default:
			kinds[2]++
		}
	}
	if slices.Min(kinds[:]) < 80 {
		t.Errorf("no danger, too far, and on a sand: %v", kinds)
	}
}
