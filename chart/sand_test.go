package chart_test

import (
	"math/big"
	"slices"
	"testing"

	"nore/api"
	"nore/chart"
)

// P1.3: the examples, and places on the sides and the corners.
func TestOn(t *testing.T) {
	still := sandsOnly(sand("a", box(0, 0, 0, 0), 0, 0, 4, 0, 4, 4, 0, 4), sand("b", box(0, 0, 0, 0), 4, 4, 8, 0, 8, 8))
	wide := sandsOnly(sand("a", box(-20, 20, -20, 20), -5, -5, 5, -5, 5, 5, -5, 5), sand("b", box(-20, 20, -20, 20), -30, -30, 30, -30, 30, 30, -30, 30))
	// No whole vector brings a place in some columns of the one, and in some rows of the other, onto a sand so thin.
	thin := sandsOnly(sand("a", box(0, 0, -10, 10), 0, 0, 7, 1, 7, 2), sand("b", box(-10, 10, 0, 0), 0, 0, 2, 7, 1, 7))
	for i, c := range []struct {
		c          api.CtChart
		at         api.Point
		sure, some []int
	}{
		{example(), point(150, 50), []int{0}, []int{0}},
		{example(), point(205, 50), nil, []int{0}},
		{example(), point(215, 50), nil, nil},
		{example(), point(210, 50), nil, []int{0}},
		{example(), point(211, 50), nil, nil},
		{example(), point(200, 50), []int{0}, []int{0}},
		{example(), point(201, 50), nil, []int{0}},
		{example(), point(110, 50), []int{0}, []int{0}},
		{example(), point(109, 50), nil, []int{0}},
		{example(), point(100, 50), nil, []int{0}},
		{example(), point(99, 50), nil, nil},
		{example(), point(150, 5), []int{0}, []int{0}},
		{example(), point(150, 4), nil, []int{0}},
		{example(), point(150, -5), nil, []int{0}},
		{example(), point(150, -6), nil, nil},
		{example(), point(150, 95), []int{0}, []int{0}},
		{example(), point(150, 96), nil, []int{0}},
		{example(), point(150, 105), nil, []int{0}},
		{example(), point(150, 106), nil, nil},
		{example(), point(210, 105), nil, []int{0}},
		{example(), point(110, 5), []int{0}, []int{0}},
		{example(), point(-300, -300), []int{1}, []int{1}},
		{example(), point(-301, -300), nil, nil},
		{example(), point(-200, -350), []int{1}, []int{1}},
		{example(), point(-200, -351), nil, nil},
		{api.CtChart{}, point(0, 0), nil, nil},
		{still, point(4, 4), []int{0, 1}, []int{0, 1}},
		{still, point(4, 3), []int{0}, []int{0}},
		{still, point(5, 4), []int{1}, []int{1}},
		{still, point(8, 0), []int{1}, []int{1}},
		{still, point(7, 0), nil, nil},
		{wide, point(0, 0), []int{1}, []int{0, 1}},
		{wide, point(25, 25), nil, []int{0, 1}},
		{wide, point(26, 25), nil, []int{1}},
		{wide, point(10, -10), []int{1}, []int{0, 1}},
		{wide, point(10, -11), nil, []int{0, 1}},
		{thin, point(0, 0), nil, []int{0, 1}},
		{thin, point(1, 0), nil, []int{1}},
		{thin, point(1, 1), nil, nil},
		{thin, point(2, 1), nil, nil},
		{thin, point(3, 5), nil, []int{1}},
		{thin, point(4, 2), nil, []int{0}},
		{thin, point(4, 5), nil, []int{0, 1}},
		{thin, point(5, -9), nil, []int{0}},
		{thin, point(5, -10), nil, nil},
		{thin, point(7, 12), nil, []int{0}},
		{thin, point(7, 13), nil, nil},
		{thin, point(7, -9), nil, []int{0}},
		{thin, point(7, -10), nil, nil},
		{thin, point(-9, 4), nil, []int{1}},
		{thin, point(-10, 4), nil, nil},
	} {
		sure, some := mustOn(t, c.c, c.at)
		if !slices.Equal(sure, c.sure) || !slices.Equal(some, c.some) {
			t.Errorf("%d: On at %v = %v, %v; it should be %v, %v", i, c.at, sure, some, c.sure, c.some)
		}
	}
}

// P1.3, R5: places at both ends of what is charted, and beyond; the same of P1.4.
func TestPlacesBeyond(t *testing.T) {
	c := sandsOnly(sand("a", box(0, 40, -40, 0), -10000, -10000, 10000, -10000, 10000, 10000, -10000, 10000))
	for _, n := range append([]int{-10001, -10000, -9960, 9960, 10000, 10001}, far...) {
		for _, at := range []api.Point{point(n, 0), point(0, n)} {
			e := api.ErrRange
			if n >= -10000 && n <= 10000 {
				e = api.OK
			}
			sure, some, f := chart.On(c, at)
			if f != e || e != api.OK && len(sure)+len(some) > 0 || e == api.OK && len(some) != 1 {
				t.Errorf("On at %v = %v, %v, %d", at, sure, some, f)
			}
			if r, f := chart.Radius(c, at); r != 0 || f != e {
				t.Errorf("Radius at %v = %d, %d", at, r, f)
			}
			s, move, f := chart.Clear(c, at, 0)
			if e == api.OK {
				e = api.ErrNone
			}
			if s != 0 || move != point(0, 0) || f != e {
				t.Errorf("Clear at %v = %d, %v, %d", at, s, move, f)
			}
		}
	}
	for at, want := range map[api.Point]bool{point(-9960, 0): true, point(-9961, 0): false, point(0, 9960): true, point(0, 9961): false, point(10000, -10000): true} {
		if sure, some := mustOn(t, c, at); (len(sure) == 1) != want || len(some) != 1 {
			t.Errorf("On at %v = %v, %v", at, sure, some)
		}
	}
}

// P1.3: random sands, by the definition.
func TestOnOfAll(t *testing.T) {
	d := newDice(3)
	for range 400 {
		wide := d.from(2, 12)
		c := d.sands(d.from(1, 4), wide, d.from(0, 6))
		for range 12 {
			at := d.place(3 * wide)
			var sure, some []int
			for i, s := range c.Sands {
				l := eachOf(s.Moves)
				on := 0
				for _, v := range l {
					if isOn(s, v, at) {
						on++
					}
				}
				if on == len(l) {
					sure = append(sure, i)
				}
				if on > 0 {
					some = append(some, i)
				}
			}
			if x, y := mustOn(t, c, at); !slices.Equal(x, sure) || !slices.Equal(y, some) {
				t.Fatalf("On of %v at %v = %v, %v; it should be %v, %v", c, at, x, y, sure, some)
			}
		}
	}
}

// P1.4: the examples, and circles that just touch a sand.
func TestClear(t *testing.T) {
	square := sand("square", box(0, 0, 0, 0), 10, -10, 30, -10, 30, 10, 10, 10)
	slope := sand("slope", box(0, 0, 0, 0), 0, 5, -20, 20, -20, -10) // a side from 0, 5 with the vector -20, 15 and one with -20, -15
	tilted := sand("tilted", box(-2, 2, -2, 2), 8, 6, 7, 9, 4, 8)
	for i, c := range []struct {
		c      api.CtChart
		at     api.Point
		radius int
		sand   int
		move   api.Point
		e      api.Errno
	}{
		{example(), point(0, 0), 100, 0, point(0, 0), api.ErrNone},
		{example(), point(0, 0), 101, 0, point(0, -5), api.OK},
		{example(), point(0, 0), 300, 0, point(0, -5), api.OK},
		{example(), point(0, 0), 5000, 0, point(0, -5), api.OK},
		{example(), point(0, 0), 0, 0, point(0, 0), api.ErrNone},
		{example(), point(0, 0), -1, 0, point(0, 0), api.ErrRange},
		{example(), point(0, 0), 5001, 0, point(0, 0), api.ErrRange},
		{example(), point(-200, -260), 0, 0, point(0, 0), api.ErrNone},
		{example(), point(-200, -260), 1, 1, point(0, 0), api.OK},
		{example(), point(-200, -260), 312, 1, point(0, 0), api.OK},
		{example(), point(-200, -260), 5000, 0, point(0, -5), api.OK},
		{example(), point(215, 50), 5, 0, point(0, 0), api.ErrNone},
		{example(), point(215, 50), 6, 0, point(10, -5), api.OK},
		{example(), point(215, 50), 7, 0, point(9, -5), api.OK},
		{example(), point(150, 108), 3, 0, point(0, 0), api.ErrNone},
		{example(), point(150, 108), 4, 0, point(0, 5), api.OK},
		{example(), point(150, 108), 6, 0, point(0, 3), api.OK},
		{example(), point(213, 109), 5, 0, point(0, 0), api.ErrNone},
		{example(), point(213, 109), 6, 0, point(9, 5), api.OK},
		{api.CtChart{}, point(0, 0), 5000, 0, point(0, 0), api.ErrNone},
		// A side, a corner and the inside of a sand that does not wander.
		{sandsOnly(square), point(0, 0), 10, 0, point(0, 0), api.ErrNone},
		{sandsOnly(square), point(0, 0), 11, 0, point(0, 0), api.OK},
		{sandsOnly(square), point(7, 14), 5, 0, point(0, 0), api.ErrNone},
		{sandsOnly(square), point(7, 14), 6, 0, point(0, 0), api.OK},
		{sandsOnly(square), point(33, -14), 5, 0, point(0, 0), api.ErrNone},
		{sandsOnly(square), point(33, -14), 6, 0, point(0, 0), api.OK},
		{sandsOnly(square), point(20, 0), 0, 0, point(0, 0), api.ErrNone},
		{sandsOnly(square), point(20, 0), 1, 0, point(0, 0), api.OK},
		{sandsOnly(square), point(10, 5), 1, 0, point(0, 0), api.OK},
		{sandsOnly(square), point(10, 10), 1, 0, point(0, 0), api.OK},
		{sandsOnly(square), point(10, 10), 0, 0, point(0, 0), api.ErrNone},
		{sandsOnly(square), point(9, 0), 1, 0, point(0, 0), api.ErrNone},
		{sandsOnly(square), point(9, 0), 2, 0, point(0, 0), api.OK},
		{sandsOnly(square), point(10, 30), 20, 0, point(0, 0), api.ErrNone},
		{sandsOnly(square), point(10, 30), 21, 0, point(0, 0), api.OK},
		// The vector 3, 4 is upright on the side of slope: the circle touches within the side.
		{sandsOnly(slope), point(-5, 15), 5, 0, point(0, 0), api.ErrNone},
		{sandsOnly(slope), point(-5, 15), 6, 0, point(0, 0), api.OK},
		{sandsOnly(slope), point(12, 5), 12, 0, point(0, 0), api.ErrNone},
		{sandsOnly(slope), point(12, 5), 13, 0, point(0, 0), api.OK},
		// Both ends of a side are just at 5, the middle of it is a bit nearer.
		{sandsOnly(sand("a", box(0, 0, 0, 0), -3, -4, -4, -3, -10, -10)), point(0, 0), 5, 0, point(0, 0), api.OK},
		{sandsOnly(sand("a", box(0, 0, 0, 0), -3, -4, -4, -3, -10, -10)), point(0, 0), 4, 0, point(0, 0), api.ErrNone},
		// Of several vectors the one with the least X, of several the one with the least Y.
		{sandsOnly(tilted), point(0, 0), 6, 0, point(0, 0), api.ErrNone},
		{sandsOnly(tilted), point(0, 0), 7, 0, point(-2, -2), api.OK},
		// The first sand that is in it, not the nearest one, nor the one with the first vector.
		{sandsOnly(sand("a", box(5, 9, 5, 9), 100, 100, 110, 100, 100, 110), sand("b", box(-9, -5, -9, -5), 0, 0, 10, 0, 0, 10)), point(0, 0), 150, 0, point(5, 5), api.OK},
		{sandsOnly(sand("a", box(5, 9, 5, 9), 100, 100, 110, 100, 100, 110), sand("b", box(-9, -5, -9, -5), 0, 0, 10, 0, 0, 10)), point(0, 0), 140, 1, point(-9, -9), api.OK},
	} {
		s, move, e := chart.Clear(c.c, c.at, c.radius)
		if s != c.sand || move != c.move || e != c.e {
			t.Errorf("%d: Clear = %d, %v, %d; it should be %d, %v, %d", i, s, move, e, c.sand, c.move, c.e)
		}
	}
}

// P1.4, R5: radii far beyond; the place comes before the radius, the error of both is the same.
func TestClearBeyond(t *testing.T) {
	for _, n := range append([]int{-1, 5001}, far...) {
		for _, at := range []api.Point{point(150, 50), point(0, 0), point(10001, 0)} {
			if s, move, e := chart.Clear(example(), at, n); s != 0 || move != point(0, 0) || e != api.ErrRange {
				t.Errorf("Clear at %v with %d = %d, %v, %d", at, n, s, move, e)
			}
		}
	}
}

// P1.4: the greatest radius.
func TestRadius(t *testing.T) {
	corner := sand("corner", box(0, 0, 0, 0), -10000, -10000, -9990, -10000, -9990, -9990)
	for i, c := range []struct {
		c    api.CtChart
		at   api.Point
		want int
	}{
		{example(), point(0, 0), 100},
		{example(), point(-200, -260), 0},
		{example(), point(150, 50), 0},
		{example(), point(210, 50), 0},
		{example(), point(211, 50), 1},
		{example(), point(100, -5), 0},
		{example(), point(100, -6), 1},
		{example(), point(213, 109), 5},
		{example(), point(213, 108), 4},
		{example(), point(211, 106), 1},
		{example(), point(0, -100), 137},
		{api.CtChart{}, point(0, 0), 5000},
		{oneMark(point(0, 0)), point(0, 0), 5000},
		{sandsOnly(corner), point(10000, 10000), 5000},
		{sandsOnly(corner), point(-4989, -9995), 5000},
		{sandsOnly(corner), point(-4990, -9995), 5000},
		{sandsOnly(corner), point(-4991, -9995), 4999},
		{sandsOnly(corner), point(-9987, -9986), 5},
		{sandsOnly(corner), point(-9990, -10000), 0},
		{sandsOnly(corner), point(-6990, -5990), 5000},
		{sandsOnly(corner), point(-6990, -5991), 4999},
	} {
		if n := mustRadius(t, c.c, c.at); n != c.want {
			t.Errorf("%d: Radius = %d; it should be %d", i, n, c.want)
		}
	}
}

// squareOf is the square of a number.
func squareOf(n int) *big.Rat { return big.NewRat(int64(n)*int64(n), 1) }

// P1.4: random sands, by the definition, with distances without any rounding.
func TestClearOfAll(t *testing.T) {
	d := newDice(4)
	for range 250 {
		wide := []int{3, 8, 30, 1000}[d.IntN(4)]
		c := d.sands(d.from(1, 4), wide, d.from(0, 4))
		at := d.place(3 * wide)
		least := squareOf(api.MaxCtRadius)
		var all []*big.Rat
		for _, s := range c.Sands {
			for _, v := range eachOf(s.Moves) {
				q := distance(s, v, at)
				all = append(all, q)
				if q.Cmp(least) < 0 {
					least = q
				}
			}
		}
		r := mustRadius(t, c, at)
		if squareOf(r).Cmp(least) > 0 || r < api.MaxCtRadius && squareOf(r+1).Cmp(least) <= 0 {
			t.Fatalf("Radius of %v at %v = %d", c, at, r)
		}
		for _, n := range []int{0, 1, r, r + 1, r + 2, r + d.from(1, wide), api.MaxCtRadius} {
			if n <= api.MaxCtRadius {
				expectFirst(t, c, at, n, all)
			}
		}
	}
}

// expectFirst tells if Clear does not return the first sand and vector with a distance below the radius; all are the squares of all distances, in order.
func expectFirst(t *testing.T, c api.CtChart, at api.Point, radius int, all []*big.Rat) {
	t.Helper()
	sand, move, e := 0, point(0, 0), api.ErrNone
	k := 0
search:
	for i, s := range c.Sands {
		for _, v := range eachOf(s.Moves) {
			if all[k].Cmp(squareOf(radius)) < 0 {
				sand, move, e = i, v, api.OK
				break search
			}
			k++
		}
	}
	if i, v, f := chart.Clear(c, at, radius); i != sand || v != move || f != e {
		t.Fatalf("Clear of %v at %v with %d = %d, %v, %d; it should be %d, %v, %d", c, at, radius, i, v, f, sand, move, e)
	}
}

// P1.4: sands as wide as can be, from places as far as can be: no number is cut down.
func TestRadiusOfWide(t *testing.T) {
	for i, s := range []api.CtSand{
		sand("a", box(-500, -460, -500, -460), -10000, -10000, 10000, -9999, 9999, -9998),
		sand("a", box(460, 500, 460, 500), -10000, -10000, 10000, 9999, 10000, 10000),
		sand("a", box(0, 0, 0, 0), -10000, 10000, -10000, -10000, -9999, -10000),
		sand("a", box(0, 0, 0, 0), 10000, 10000, -10000, 10000, 9999, 9999),
	} {
		for _, at := range []api.Point{point(10000, 10000), point(-10000, 10000), point(10000, -10000), point(-10000, -10000), point(0, 0), point(7001, -2003)} {
			least := squareOf(api.MaxCtRadius)
			for _, v := range []api.Point{point(s.Moves.X.Lo, s.Moves.Y.Lo), point(s.Moves.X.Lo, s.Moves.Y.Hi), point(s.Moves.X.Hi, s.Moves.Y.Lo), point(s.Moves.X.Hi, s.Moves.Y.Hi)} {
				alone := s
				alone.Moves = box(v.X, v.X, v.Y, v.Y)
				want := distance(s, v, at)
				r := mustRadius(t, sandsOnly(alone), at)
				if squareOf(r).Cmp(want) > 0 || r < api.MaxCtRadius && squareOf(r+1).Cmp(want) <= 0 {
					t.Errorf("%d: Radius at %v = %d", i, at, r)
				}
				if want.Cmp(least) < 0 {
					least = want
				}
			}
			if r := mustRadius(t, sandsOnly(s), at); squareOf(r).Cmp(least) > 0 {
				t.Errorf("%d: Radius at %v = %d", i, at, r)
			}
		}
	}
}
