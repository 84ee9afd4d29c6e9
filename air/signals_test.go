package air_test

import (
	"fmt"
	"testing"

	"nore/air"
	"nore/api"
)

// expectSees tells if Sees does not return this.
func expectSees(t *testing.T, v api.Point, candles, clear int, want bool, e api.Errno) {
	t.Helper()
	if is, g := air.Sees(v, candles, clear); is != want || g != e {
		t.Errorf("Sees of %v with %d, %d = %v, %d; it should be %v, %d", v, candles, clear, is, g, want, e)
	}
}

// expectHears tells if Hears does not return this.
func expectHears(t *testing.T, v api.Point, loud, wind int, want bool, e api.Errno) {
	t.Helper()
	if is, g := air.Hears(v, loud, wind); is != want || g != e {
		t.Errorf("Hears of %v with %d and %d = %v, %d; it should be %v, %d", v, loud, wind, is, g, want, e)
	}
}

// expectOil tells if Oil does not return this.
func expectOil(t *testing.T, what string, s api.AiStation, grade, minutes, want int, e api.Errno) {
	t.Helper()
	if n, g := air.Oil(s, grade, minutes); n != want || g != e {
		t.Errorf("%s: Oil of %d in %d minutes = %d, %d; it should be %d, %d", what, grade, minutes, n, g, want, e)
	}
}

// P6.1: the examples.
func TestSignalsExamples(t *testing.T) {
	expectSees(t, place(0, 10000), 200, 100, true, api.OK)
	expectSees(t, place(0, 10000), 199, 100, false, api.OK)
	expectSees(t, place(0, 10000), 100, 101, true, api.OK)
	expectSees(t, place(0, 10000), 99, 101, false, api.OK)
	expectHears(t, place(2000, 0), 20, 8, true, api.OK)
	expectHears(t, place(-1200, 0), 20, 8, true, api.OK)
	expectHears(t, place(-1201, 0), 20, 8, false, api.OK)
	// What stands below the table of the chapter, and in DOC.md.
	expectSees(t, place(13000, 0), 420, 65, false, api.OK)
	expectSees(t, place(13000, 0), 420, 66, true, api.OK)
	expectSees(t, place(0, 10000), 400, 50, true, api.OK)
	expectSees(t, place(0, 10001), 400, 50, false, api.OK)
}

// P6.1: a light is seen at its own place, and as far as its candles allow; it is half as bright, rounded down, from each whole length on.
func TestSeesEdges(t *testing.T) {
	for _, clear := range []int{1, 2, 150, 300} {
		for _, candles := range []int{1, 2, 3, 5000} {
			expectSees(t, place(0, 0), candles, clear, true, api.OK)
			expectSees(t, place(60000, 60000), candles, clear, false, api.OK)
		}
		length := 100 * clear
		metres := min(1000, length-1) // one candle goes 1000 metres, if there is no whole length in them
		expectSees(t, place(-metres, 0), 1, clear, true, api.OK)
		expectSees(t, place(0, metres+1), 1, clear, false, api.OK)
	}
	for _, f := range []struct {
		metres, candles, clear int
		want                   bool
	}{
		{99, 1, 1, true}, {100, 1, 1, false}, {199, 2, 1, true}, {199, 3, 1, true}, {200, 3, 1, false}, {200, 4, 1, true}, {299, 4, 1, true}, {300, 7, 1, false}, {300, 8, 1, true},
		{1099, 4095, 1, true}, {1100, 4095, 1, false}, {1199, 4095, 1, false}, {1199, 4096, 1, true}, {1200, 4096, 1, false}, {1200, 5000, 1, false}, {60000, 5000, 1, false}, {60000, 5000, 300, false},
		{50000, 5000, 300, true}, {50001, 5000, 300, false}, {50000, 4999, 300, false}, {29999, 900, 300, true}, {29999, 899, 300, false}, {30000, 900, 300, false}, {30000, 1799, 300, false}, {30000, 1800, 300, true},
		{12500, 156, 126, false}, {12500, 157, 126, true}, {12500, 312, 125, false}, {12500, 314, 125, true}, {12500, 313, 125, false},
	} {
		for _, v := range []api.Point{place(f.metres, 0), place(-f.metres, 0), place(0, f.metres), place(0, -f.metres)} {
			expectSees(t, v, f.candles, f.clear, f.want, api.OK)
		}
	}
	// The distance of 3000, 4000 is whole; that of 3000, 4001 is 5000.8, and that of 2999, 4000 is 4999.4.
	expectSees(t, place(3000, 4000), 49, 50, false, api.OK)
	expectSees(t, place(3000, 4000), 50, 50, true, api.OK)
	expectSees(t, place(-3000, 4001), 51, 50, false, api.OK)
	expectSees(t, place(-3000, 4001), 52, 50, true, api.OK)
	expectSees(t, place(2999, -4000), 24, 50, false, api.OK)
	expectSees(t, place(2999, -4000), 25, 50, true, api.OK)
}

// P6.1: the last metre at which a light is seen, along all axes, by each number of candles and of Clear that matters.
func TestSeesLast(t *testing.T) {
	for candles := 1; candles <= 5000; candles += 1 + candles/7 {
		for clear := 1; clear <= 300; clear += 1 + clear/9 {
			metres := reachOf(truth{false, candles, clear})
			expectSees(t, place(metres, 0), candles, clear, true, api.OK)
			expectSees(t, place(0, -metres-1), candles, clear, false, api.OK)
		}
	}
}

// P6.1: a horn is heard at its own place, down the wind, across it and against it, as far as stated.
func TestHearsEdges(t *testing.T) {
	for wind := range 32 {
		for _, loud := range []int{1, 7, 200} {
			expectHears(t, place(0, 0), loud, wind, true, api.OK)
			expectHears(t, place(60000, -60000), loud, wind, false, api.OK)
			for p, v := range []api.Point{place(0, 1), place(1, 0), place(0, -1), place(-1, 0)} {
				metres := carries(loud, wind, 8*p)
				expectHears(t, place(v.X*metres, v.Y*metres), loud, wind, true, api.OK)
				expectHears(t, place(v.X*(metres+1), v.Y*(metres+1)), loud, wind, false, api.OK)
			}
		}
	}
	for i, metres := range []int{140, 135, 130, 125, 120, 115, 110, 105, 100, 95, 90, 85, 80, 75, 70, 65, 60, 65, 70, 75, 80, 85, 90, 95, 100, 105, 110, 115, 120, 125, 130, 135} {
		expectHears(t, place(0, metres), 1, i, true, api.OK)
		expectHears(t, place(0, metres+1), 1, i, false, api.OK)
		expectHears(t, place(200*metres, 0), 200, (i+8)%32, true, api.OK)
		expectHears(t, place(200*metres+1, 0), 200, (i+8)%32, false, api.OK)
	}
}

// P6.1: the vector is in a point from its own vector on, up to, and without, that of the next point.
func TestHearsPoints(t *testing.T) {
	all := vectors()
	for p := range 32 {
		for _, wind := range []int{p, (p + 4) % 32, (p + 16) % 32, (p + 28) % 32, (p + 15) % 32, (p + 17) % 32} {
			// All vectors of the table are 1000 metres long, but for a little; just there the horn is heard by the point alone.
			v := all[p]
			loud := 1
			for !hears(v, loud, wind) {
				loud++
			}
			expectHears(t, v, loud, wind, true, api.OK)
			expectHears(t, v, loud-1, wind, false, api.OK)
			for _, near := range []api.Point{place(v.X-1, v.Y), place(v.X+1, v.Y), place(v.X, v.Y-1), place(v.X, v.Y+1)} {
				for n := max(1, loud-1); n <= loud+1; n++ {
					expectHears(t, near, n, wind, hears(near, n, wind), api.OK)
				}
			}
		}
	}
}

// P6.1: vectors at random, also the farthest ones, held against the definitions.
func TestSignalsAtRandom(t *testing.T) {
	d := newDice(1)
	var kinds [4]int
	count := func(at int, is bool) {
		if is {
			at++
		}
		kinds[at]++
	}
	for i := range 30000 {
		most := []int{1000, 5000, 20000, 60000}[i%4]
		v := place(d.from(-most, most), d.from(-most, most))
		candles, clear := d.from(1, []int{20, 1000, 5000}[d.IntN(3)]), d.from(1, 300)
		is := seen(v, candles, clear)
		expectSees(t, v, candles, clear, is, api.OK)
		count(0, is)
		loud, wind := d.from(1, 200), d.from(0, 31)
		is = hears(v, loud, wind)
		expectHears(t, v, loud, wind, is, api.OK)
		count(2, is)
	}
	for i, n := range kinds {
		if n < 3000 {
			t.Errorf("kind %d was met %d times", i, n)
		}
	}
}

// P6.1, R5: both ends of each range, and numbers far beyond.
func TestSignalErrors(t *testing.T) {
	for _, n := range []int{-60000, 60000, 0, -1} {
		expectSees(t, place(n, 0), 1, 1, n == 0 || n == -1, api.OK)
		expectSees(t, place(0, n), 5000, 300, n == 0 || n == -1, api.OK)
		expectHears(t, place(n, 0), 1, 0, n == 0 || n == -1, api.OK)
		expectHears(t, place(0, n), 200, 31, n == 0 || n == -1, api.OK)
	}
	for _, n := range append([]int{-60001, 60001, 70000}, far...) {
		for _, v := range []api.Point{place(n, 0), place(0, n), place(n, n), place(-1, n), place(n, 5)} {
			expectSees(t, v, 5000, 300, false, api.ErrRange)
			expectSees(t, v, 0, 0, false, api.ErrRange)
			expectHears(t, v, 200, 31, false, api.ErrRange)
			expectHears(t, v, 0, -1, false, api.ErrRange)
		}
	}
	for _, n := range append([]int{0, -1, 5001}, far...) {
		expectSees(t, place(0, 0), n, 1, false, api.ErrRange)
		expectHears(t, place(0, 0), n, 1, false, api.ErrRange)
	}
	for _, n := range append([]int{0, -1, 301}, far...) {
		expectSees(t, place(0, 0), 1, n, false, api.ErrRange)
	}
	for _, n := range append([]int{0, -1, 201}, far...) {
		expectHears(t, place(0, 0), n, 1, false, api.ErrRange)
	}
	for _, n := range append([]int{-1, 32, 33}, far...) {
		expectHears(t, place(0, 0), 1, n, false, api.ErrRange)
	}
	expectSees(t, place(0, 0), 5000, 300, true, api.OK)
	expectSees(t, place(0, 0), 1, 1, true, api.OK)
	expectHears(t, place(0, 0), 200, 31, true, api.OK)
	expectHears(t, place(0, 0), 1, 0, true, api.OK)
}

// P6.8: the example, nothing at all, and numbers that are rounded up.
func TestOil(t *testing.T) {
	s := example().s
	expectOil(t, "the example", s, 1, 90, 60, api.OK)
	for minutes := range 1441 {
		expectOil(t, "60 in an hour", s, 0, minutes, minutes, api.OK)
	}
	s.Grades[0].Oil, s.Grades[1].Oil = 0, 1000
	for minutes := range 1441 {
		expectOil(t, "none in an hour", s, 0, minutes, 0, api.OK)
	}
	for minutes, want := range map[int]int{0: 0, 1: 17, 2: 34, 3: 50, 4: 67, 59: 984, 60: 1000, 61: 1017, 1439: 23984, 1440: 24000} {
		expectOil(t, "1000 in an hour", s, 1, minutes, want, api.OK)
	}
	s.Grades[1].Oil = 1
	for minutes, want := range map[int]int{0: 0, 1: 1, 2: 1, 59: 1, 60: 1, 61: 2, 120: 2, 121: 3, 1380: 23, 1381: 24, 1440: 24} {
		expectOil(t, "1 in an hour", s, 1, minutes, want, api.OK)
	}
}

// P6.8: the least number that is not below the quotient, for each grade.
func TestOilAtRandom(t *testing.T) {
	d := newDice(8)
	for i := range 3000 {
		s := d.station(5)
		grade, minutes := d.from(0, len(s.Grades)-1), d.from(0, 1440)
		s.Grades[grade].Oil = d.from(0, 1000)
		want := 0
		for want*60 < s.Grades[grade].Oil*minutes {
			want++
		}
		expectOil(t, fmt.Sprint("random ", i), s, grade, minutes, want, api.OK)
	}
}

// P6.8: the station's error is first, then the grade's, then that of the minutes.
func TestOilErrors(t *testing.T) {
	s := example().s
	for _, grade := range append([]int{-1, 2, 3}, far...) {
		for _, minutes := range append([]int{0, 60, -1, 1441}, far...) {
			expectOil(t, "no grade", s, grade, minutes, 0, api.ErrNone)
		}
	}
	for _, minutes := range append([]int{-1, 1441}, far...) {
		expectOil(t, "no minutes", s, 0, minutes, 0, api.ErrRange)
		expectOil(t, "no minutes", s, 1, minutes, 0, api.ErrRange)
	}
	s.Grades[0].Candles = span(2, 1)
	expectOil(t, "no station", s, 2, -1, 0, api.ErrArg)
	expectOil(t, "no station", s, 1, 60, 0, api.ErrArg)
	expectOil(t, "no grades", api.AiStation{}, 0, 0, 0, api.ErrLong)
}
