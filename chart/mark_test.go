package chart_test

import (
	"slices"
	"testing"

	"nore/api"
	"nore/chart"
)

// P1.5: the colour of a mark, from the day of each paint on.
func TestColour(t *testing.T) {
	c := api.CtChart{Marks: []api.CtMark{
		mark("a", point(0, 0), 0, 1, 50, 2),
		mark("b", point(0, 0), 10, 3, 11, 4, 20, 0, 30, 1),
		mark("c", point(0, 0), 40000, 4),
		mark("d", point(0, 0), 0, 0),
		mark("e", point(0, 0), 1, 0, 2, 2),
	}}
	for i, x := range []struct{ day, mark, want int }{
		{0, 0, 1}, {1, 0, 1}, {49, 0, 1}, {50, 0, 2}, {51, 0, 2}, {40000, 0, 2},
		{0, 1, 0}, {9, 1, 0}, {10, 1, 3}, {11, 1, 4}, {12, 1, 4}, {19, 1, 4}, {20, 1, 0}, {29, 1, 0}, {30, 1, 1}, {40000, 1, 1},
		{0, 2, 0}, {39999, 2, 0}, {40000, 2, 4},
		{0, 3, 0}, {40000, 3, 0},
		{0, 4, 0}, {1, 4, 0}, {2, 4, 2},
	} {
		if n, e := chart.Colour(c, x.day, x.mark); n != x.want || e != api.OK {
			t.Errorf("%d: Colour on %d = %d, %d; it should be %d", i, x.day, n, e, x.want)
		}
		stands := api.OK
		if x.want == api.CtGone {
			stands = api.ErrDown
		}
		if p, e := chart.Seen(c, x.day, x.mark, point(5, 0)); e != stands || e == api.OK && p != 24 || e != api.OK && p != 0 {
			t.Errorf("%d: Seen on %d = %d, %d", i, x.day, p, e)
		}
		if l, e := chart.Points(c, x.day, x.mark, box(5, 5, 0, 0)); e != stands || e == api.OK && !slices.Equal(l, []int{24}) || e != api.OK && len(l) != 0 {
			t.Errorf("%d: Points on %d = %v, %d", i, x.day, l, e)
		}
	}
}

// expectError tells if Colour, Seen and Points do not all return an error, and nothing else.
func expectError(t *testing.T, c api.CtChart, day, mark int, from api.Point, e api.Errno) {
	t.Helper()
	if n, f := chart.Colour(c, day, mark); n != 0 || f != e {
		t.Errorf("Colour of %d on %d = %d, %d; it should be the error %d", mark, day, n, f, e)
	}
	if n, f := chart.Seen(c, day, mark, from); n != 0 || f != e {
		t.Errorf("Seen of %d on %d = %d, %d; it should be the error %d", mark, day, n, f, e)
	}
	if l, f := chart.Points(c, day, mark, box(from.X, from.X-1, from.Y, from.Y)); len(l) != 0 || f != e {
		t.Errorf("Points of %d on %d = %v, %d; it should be the error %d", mark, day, l, f, e)
	}
}

// P1.5, P1.6, R5: days and marks that are none; the day comes first, both come before the place.
func TestDaysAndMarks(t *testing.T) {
	c := example()
	for _, from := range []api.Point{point(0, 0), point(-2000, 0), point(30001, 0), point(0, -1<<40)} {
		for _, day := range append([]int{-1, 40001}, far...) {
			for _, m := range append([]int{-1, 0, 1, 2, 32}, far...) {
				expectError(t, c, day, m, from, api.ErrRange)
			}
		}
		for _, m := range append([]int{-1, 2, 3, 32}, far...) {
			for _, day := range []int{0, 20, 40000} {
				expectError(t, c, day, m, from, api.ErrNone)
				expectError(t, api.CtChart{}, day, m, from, api.ErrNone)
			}
		}
	}
	expectError(t, api.CtChart{}, 0, 0, point(0, 0), api.ErrNone)
	expectError(t, sandsOnly(example().Sands...), 0, 0, point(0, 0), api.ErrNone)
}

// P1.5: the examples, and what comes first.
func TestSeen(t *testing.T) {
	for i, c := range []struct {
		day, mark int
		from      api.Point
		want      int
		e         api.Errno
	}{
		{0, 0, point(0, 0), 3, api.OK},
		{10, 1, point(0, 0), 24, api.OK},
		{90, 1, point(0, 0), 0, api.ErrDown},
		{9, 1, point(0, 0), 0, api.ErrDown},
		{9, 1, point(-2000, 0), 0, api.ErrDown},
		{90, 1, point(30001, 0), 0, api.ErrDown},
		{10, 1, point(-2000, 0), 0, api.ErrZero},
		{10, 1, point(-2000, 1), 16, api.OK},
		{10, 1, point(-1999, 0), 24, api.OK},
		{10, 1, point(0, -30000), 31, api.OK},
		{10, 1, point(30000, 0), 24, api.OK},
		{10, 1, point(-30000, 0), 8, api.OK},
	} {
		if n, e := chart.Seen(example(), c.day, c.mark, c.from); n != c.want || e != c.e {
			t.Errorf("%d: Seen = %d, %d; it should be %d, %d", i, n, e, c.want, c.e)
		}
	}
	for _, n := range append([]int{-30001, 30001}, far...) {
		for _, from := range []api.Point{point(n, 0), point(0, n), point(n, n)} {
			if p, e := chart.Seen(example(), 20, 1, from); p != 0 || e != api.ErrRange {
				t.Errorf("Seen from %v = %d, %d", from, p, e)
			}
		}
	}
}

// The document's first example.
func TestSeenFromBoth(t *testing.T) {
	c := oneMark(point(1000, 0))
	for from, want := range map[api.Point]int{point(0, 0): 8, point(-500, 500): 9} {
		if p, e := chart.Seen(c, 0, 0, from); p != want || e != api.OK {
			t.Errorf("Seen from %v = %d, %d", from, p, e)
		}
	}
}

// P1.5: a vector that is just that of a point is seen in this point, one a bit to the left of it in the point before.
func TestSeenBetweenPoints(t *testing.T) {
	for p, v := range compass {
		before := (p + 31) % 32
		for _, far := range []int{1, 2, 7, 30} {
			at := point(far*v.X, far*v.Y)
			// A step that turns the vector to the left, and one that turns it to the right.
			left, right := at, at
			for _, step := range points(1, 0, -1, 0, 0, 1, 0, -1) {
				if cross(v, step) > 0 {
					left = plus(at, step)
				}
				if cross(v, step) < 0 {
					right = plus(at, step)
				}
			}
			for _, from := range []api.Point{point(0, 0), point(77, -123), point(-900, 900)} {
				expectSeen(t, plus(at, from), from, p)
				expectSeen(t, plus(left, from), from, before)
				expectSeen(t, plus(right, from), from, p)
			}
		}
	}
}

// P1.5: the vectors, not too short, that are nearest to that of a point, on both sides of it.
func TestSeenNearestToPoints(t *testing.T) {
	for p, v := range compass[:8] {
		left, right := point(-1, 1000), point(1000, -1)
		for _, w := range eachOf(box(-1, 1000, -1, 1000)) {
			n := cross(v, w)
			switch {
			case v.X*w.X+v.Y*w.Y < 200*1000:
			case n > 0 && n < cross(v, left):
				left = w
			case n < 0 && n > cross(v, right):
				right = w
			}
		}
		for q := p; q < 32; q += 8 {
			expectSeen(t, left, point(0, 0), (q+31)%32)
			expectSeen(t, right, point(0, 0), q)
			left, right = turn(left), turn(right)
		}
	}
}

// expectSeen tells if a mark is not seen in a point from a place. Places beyond the limits are left out.
func expectSeen(t *testing.T, at, from api.Point, want int) {
	t.Helper()
	if max(at.X, at.Y, -at.X, -at.Y) > api.MaxFar {
		return
	}
	if p, e := chart.Seen(oneMark(at), 0, 0, from); p != want || e != api.OK {
		t.Errorf("Seen of %v from %v = %d, %d; it should be %d", at, from, p, e, want)
	}
}

// P1.5: all places near a mark, and random ones far from it, by the definition.
func TestSeenOfAll(t *testing.T) {
	seen := func(v api.Point) (l []int) {
		for p, a := range compass {
			if cross(a, v) <= 0 && cross(compass[(p+1)%32], v) > 0 {
				l = append(l, p)
			}
		}
		return l
	}
	at := point(3, -4)
	for _, from := range eachOf(box(at.X-12, at.X+12, at.Y-12, at.Y+12)) {
		if from != at {
			expectSeen(t, at, from, seen(minus(at, from))[0])
		}
	}
	d := newDice(5)
	for range 3000 {
		at, from := d.place(30000), d.place(30000)
		l := seen(minus(at, from))
		if len(l) != 1 {
			t.Fatalf("a place is seen in the points %v", l)
		}
		expectSeen(t, at, from, l[0])
	}
	for _, at := range points(30000, 30000, -30000, 30000, 30000, -30000, -30000, -30000) {
		for _, from := range points(30000, 29999, -30000, -29999, 29999, -30000, 0, 1) {
			expectSeen(t, at, from, seen(minus(at, from))[0])
		}
	}
}

// P1.6: the examples, boxes with the mark within, and errors with the one that comes first.
func TestPoints(t *testing.T) {
	all := []int{0, 1, 2, 3, 4, 5, 6, 7, 8, 9, 10, 11, 12, 13, 14, 15, 16, 17, 18, 19, 20, 21, 22, 23, 24, 25, 26, 27, 28, 29, 30, 31}
	for i, c := range []struct {
		day  int
		from api.CtBox
		want []int
		e    api.Errno
	}{
		{20, box(-2010, -1990, 0, 0), []int{8, 24}, api.OK},
		{20, box(-2000, -2000, -7, 7), []int{0, 16}, api.OK},
		{20, box(-2000, -2000, 0, 0), nil, api.OK},
		{20, box(-2001, -1999, -1, 1), []int{0, 4, 8, 12, 16, 20, 24, 28}, api.OK},
		{20, box(-2020, -1980, -20, 20), all, api.OK},
		{20, box(-1999, -1999, 0, 20), []int{16, 17, 18, 20, 24}, api.OK},
		{20, box(-1999, -1999, -1, 1), []int{20, 24, 28}, api.OK},
		{20, box(-2010, -2010, -1, 1), []int{7, 8}, api.OK},
		{20, box(0, 0, 0, 1), []int{23, 24}, api.OK},
		{20, box(0, 40, -40, 0), []int{24}, api.OK},
		{20, box(29960, 30000, -30000, -29960), []int{27}, api.OK},
		{20, box(-30000, -29960, 29960, 30000), []int{12}, api.OK},
		{20, box(0, 41, 0, 0), nil, api.ErrArg},
		{20, box(0, 0, 0, 41), nil, api.ErrArg},
		{20, box(1, 0, 0, 0), nil, api.ErrArg},
		{20, box(0, 0, 1, 0), nil, api.ErrArg},
		{20, box(30000, -30000, 0, 0), nil, api.ErrArg},
		{20, box(-30000, 30000, 0, 0), nil, api.ErrArg},
		{20, box(2, 1, 0, 30001), nil, api.ErrRange},
		{20, box(-30001, 0, 2, 1), nil, api.ErrRange},
		{20, box(-30001, -30000, 0, 0), nil, api.ErrRange},
		{20, box(30000, 30001, 0, 0), nil, api.ErrRange},
		{20, box(0, 0, -30001, -30000), nil, api.ErrRange},
		{20, box(0, 0, 30000, 30001), nil, api.ErrRange},
		{20, box(30001, 0, 0, 0), nil, api.ErrRange},
		{20, box(0, 0, 0, -30001), nil, api.ErrRange},
		{90, box(2, 1, 0, 0), nil, api.ErrDown},
		{9, box(-30001, 0, 0, 0), nil, api.ErrDown},
		{9, box(-2000, -2000, 0, 0), nil, api.ErrDown},
	} {
		if l, e := chart.Points(example(), c.day, 1, c.from); !slices.Equal(l, c.want) || e != c.e {
			t.Errorf("%d: Points = %v, %d; it should be %v, %d", i, l, e, c.want, c.e)
		}
	}
	for _, n := range far {
		for _, b := range []api.CtBox{box(n, 0, 0, 0), box(0, n, 0, 0), box(0, 0, n, 0), box(0, 0, 0, n), box(n, n, n, n)} {
			if l, e := chart.Points(example(), 20, 1, b); len(l) != 0 || e != api.ErrRange {
				t.Errorf("Points of %v = %v, %d", b, l, e)
			}
		}
	}
}

// P1.6: boxes near a mark, by Seen of each place.
func TestPointsOfAll(t *testing.T) {
	d := newDice(6)
	for i := range 300 {
		at := d.place(30000)
		if i < 200 {
			at = d.place(12)
		}
		b := d.moves(20, 12)
		var has [32]bool
		for _, from := range eachOf(b) {
			if p, e := chart.Seen(oneMark(at), 0, 0, from); e == api.OK {
				has[p] = true
			}
		}
		var want []int
		for p, is := range has {
			if is {
				want = append(want, p)
			}
		}
		if l, e := chart.Points(oneMark(at), 0, 0, b); !slices.Equal(l, want) || e != api.OK {
			t.Fatalf("Points of %v from %v = %v, %d; it should be %v", at, b, l, e, want)
		}
	}
}
