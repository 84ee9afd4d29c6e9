package air_test

import (
	"fmt"
	"slices"
	"testing"

	"nore/air"
	"nore/api"
)

// expectClear tells if Clear does not return this.
func expectClear(t *testing.T, what string, c scene, candles, clear api.Span, e api.Errno) {
	t.Helper()
	if a, b, g := air.Clear(c.s, c.n, c.l); a != candles || b != clear || g != e {
		t.Errorf("%s: Clear of %v = %v, %v, %d; it should be %v, %v, %d", what, c, a, b, g, candles, clear, e)
	}
}

// expectWinds tells if Winds does not return this.
func expectWinds(t *testing.T, what string, c scene, loud api.Span, winds []int, e api.Errno) {
	t.Helper()
	if a, l, g := air.Winds(c.s, c.n, c.l); a != loud || !slices.Equal(l, winds) || g != e {
		t.Errorf("%s: Winds of %v = %v, %v, %d; it should be %v, %v, %d", what, c, a, l, g, loud, winds, e)
	}
}

// expectCould tells if Could does not return this.
func expectCould(t *testing.T, what string, c scene, at api.Point, horn bool, want int, e api.Errno) {
	t.Helper()
	if n, g := air.Could(c.s, c.n, c.l, at, horn); n != want || g != e {
		t.Errorf("%s: Could of %v at %v, %v = %d, %d; it should be %d, %d", what, c, at, horn, n, g, want, e)
	}
}

// P6.4, P6.5: the examples.
func TestTruthsExamples(t *testing.T) {
	expectClear(t, "A", example(reportA()), span(400, 420), span(50, 120), api.OK)
	expectClear(t, "A and B", example(reportA(), reportB()), span(400, 420), span(50, 65), api.OK)
	expectWinds(t, "H", example(reportH()), span(25, 30), []int{8}, api.OK)
	expectCould(t, "A", example(reportA()), place(0, 12000), false, api.AiMay, api.OK)
	expectCould(t, "A", example(reportA()), place(0, 20000), false, api.AiCannot, api.OK)
}

// P6.4: without reports all is as the station and the night have it.
func TestNoReports(t *testing.T) {
	c := full()
	c.l = nil
	for i, g := range c.s.Grades {
		c.n.Grade = i
		expectClear(t, g.Name, c, g.Candles, span(1, 300), api.OK)
	}
	for _, f := range []struct {
		wind, winds int
		want        []int
	}{
		{0, 1, []int{0}},
		{31, 1, []int{31}},
		{31, 2, []int{0, 31}},
		{30, 5, []int{0, 1, 2, 30, 31}},
		{5, 3, []int{5, 6, 7}},
		{1, 31, picked(1<<32-2, 32)},
		{2, 31, picked(1<<32-3, 32)},
		{0, 32, picked(1<<32-1, 32)},
		{17, 32, picked(1<<32-1, 32)},
		{31, 32, picked(1<<32-1, 32)},
	} {
		c.n.Wind, c.n.Winds = f.wind, f.winds
		expectWinds(t, fmt.Sprint(f), c, span(1, 200), f.want, api.OK)
	}
}

// P6.4: reports of the light leave the horn as it is, and those of the horn the light.
func TestReportsOfEach(t *testing.T) {
	c := example(dark(0, 10000)) // the light has no truths
	expectClear(t, "no light", c, span(0, 0), span(0, 0), api.ErrDown)
	expectWinds(t, "no light", c, span(20, 30), []int{8}, api.OK)
	expectCould(t, "no light", c, place(0, 0), false, 0, api.ErrDown)
	expectCould(t, "no light", c, place(0, 0), true, api.AiMust, api.OK)
	expectFar(t, "no light", c, 0, 0, api.ErrDown)
	expectGrade(t, "no light", c, 0, 0, api.ErrDown)
	c = example(heard(9000, 0)) // the horn has no truths
	expectClear(t, "no horn", c, span(400, 420), span(50, 120), api.OK)
	expectWinds(t, "no horn", c, span(0, 0), nil, api.ErrDown)
	expectCould(t, "no horn", c, place(0, 0), false, api.AiMust, api.OK)
	expectCould(t, "no horn", c, place(0, 0), true, 0, api.ErrDown)
	expectFar(t, "no horn", c, 10000, 14491, api.OK)
	expectGrade(t, "no horn", c, 0, 1, api.OK)
	c = example(saw(0, 0), heard(0, 0)) // just at the light
	expectClear(t, "at the light", c, span(400, 420), span(50, 120), api.OK)
	expectWinds(t, "at the light", c, span(20, 30), []int{8}, api.OK)
	c = example(dark(0, 0), still(0, 0))
	expectClear(t, "not at the light", c, span(0, 0), span(0, 0), api.ErrDown)
	expectWinds(t, "not at the light", c, span(0, 0), nil, api.ErrDown)
}

// P6.4, R10: the ends of each range are for themselves, and numbers in between need not be possible.
func TestClearEnds(t *testing.T) {
	// Two candles, no length: 1414 metres; two candles, a length: one candle, 1000 metres.
	expectClear(t, "one length decides", lamp(span(1, 4), span(9, 12), saw(1000, 0), dark(1001, 0)), span(1, 3), span(9, 12), api.OK)
	expectClear(t, "clear air and one candle, or a length and two", lamp(span(1, 2), span(10, 11), saw(1000, 0), dark(1100, 0)), span(1, 2), span(10, 11), api.OK)
	expectClear(t, "one more report", lamp(span(1, 2), span(10, 11), saw(1000, 0), dark(1100, 0), saw(1001, 0)), span(2, 2), span(11, 11), api.OK)
	expectClear(t, "just one truth", lamp(span(1, 2), span(10, 11), saw(1099, 0)), span(2, 2), span(11, 11), api.OK)
	expectClear(t, "none", lamp(span(1, 2), span(10, 11), saw(1100, 0)), span(0, 0), span(0, 0), api.ErrDown)
	expectClear(t, "the grade of the night", func() scene {
		c := example(dark(7072, 0))
		c.n.Grade = 1
		return c
	}(), span(100, 100), span(50, 70), api.OK)
}

// P6.4: a report that the horn was heard leaves the winds that carry it, one that it was not the other ones.
func TestWindsLeft(t *testing.T) {
	all := horn(span(10, 10), 0, 32) // 1400 metres down the wind, and 600 against it
	for _, f := range []struct {
		l     []api.AiReport
		winds []int
		e     api.Errno
	}{
		{[]api.AiReport{heard(1400, 0)}, []int{8}, api.OK},
		{[]api.AiReport{heard(0, 1350)}, []int{0, 1, 31}, api.OK},
		{[]api.AiReport{heard(0, 1351)}, []int{0}, api.OK},
		{[]api.AiReport{heard(0, -1300)}, []int{14, 15, 16, 17, 18}, api.OK},
		{[]api.AiReport{still(-601, 0)}, []int{8}, api.OK},
		{[]api.AiReport{still(-651, 0)}, []int{7, 8, 9}, api.OK},
		{[]api.AiReport{heard(-600, 0)}, picked(1<<32-1, 32), api.OK},
		{[]api.AiReport{still(-600, 0)}, nil, api.ErrDown},
		{[]api.AiReport{heard(1401, 0)}, nil, api.ErrDown},
		{[]api.AiReport{heard(1000, 0), heard(0, 1000)}, []int{0, 1, 2, 3, 4, 5, 6, 7, 8}, api.OK},
		{[]api.AiReport{heard(1000, 0), still(0, 1001)}, []int{8, 9, 10, 11, 12, 13, 14, 15, 16}, api.OK},
		{[]api.AiReport{heard(1000, 0), still(0, 1000)}, []int{9, 10, 11, 12, 13, 14, 15, 16}, api.OK},
		{[]api.AiReport{heard(1200, 0), heard(0, 1200)}, []int{4}, api.OK},
		{[]api.AiReport{heard(1200, 0), heard(0, 1201)}, nil, api.ErrDown},
	} {
		expectWinds(t, fmt.Sprint(f.l), with(all, f.l...), map[bool]api.Span{true: span(10, 10)}[f.e == api.OK], f.winds, f.e)
	}
	two := horn(span(9, 12), 8, 2, still(1400, 0)) // 140 or 135 metres for each number of Loud
	expectWinds(t, "not so loud", two, span(9, 10), []int{8, 9}, api.OK)
	expectWinds(t, "loud, or down the wind", with(two, heard(1300, 0)), span(10, 10), []int{9}, api.OK)
	expectWinds(t, "the ends are each for itself", horn(span(9, 12), 8, 2, heard(1380, 0)), span(10, 12), []int{8, 9}, api.OK)
}

// P6.5: must, may and cannot, of the light and of the horn, from any place of the night.
func TestCouldEdges(t *testing.T) {
	for _, at := range []api.Point{place(0, 0), place(-12345, 6789), place(30000, -30000), place(-15000, 15000)} {
		c := example()
		c.n.At = at
		toward := 1 // to the west, or to the east, so that it is not too far from the charted place
		if at.X > 0 {
			toward = -1
			c.n.Wind = 24
		}
		for _, f := range []struct {
			metres int
			horn   bool
			want   int
		}{
			{0, false, api.AiMust}, {10000, false, api.AiMust}, {10001, false, api.AiMay}, {14491, false, api.AiMay}, {14492, false, api.AiCannot},
			{0, true, api.AiMust}, {2800, true, api.AiMust}, {2801, true, api.AiMay}, {4200, true, api.AiMay}, {4201, true, api.AiCannot},
		} {
			expectCould(t, "without reports", c, place(at.X+toward*f.metres, at.Y), f.horn, f.want, api.OK)
		}
	}
	c := full()
	c.n.At, c.l = place(-30000, -30000), nil
	c.n.Grade = 0
	expectCould(t, "as far as can be", c, place(30000, 30000), false, api.AiCannot, api.OK)
	expectCould(t, "as far as can be", c, place(30000, 30000), true, api.AiCannot, api.OK)
	expectCould(t, "far", c, place(20000, -30000), false, api.AiMay, api.OK)
	expectCould(t, "far", c, place(20001, -30000), false, api.AiCannot, api.OK)
	expectCould(t, "far", c, place(-2000, -30000), true, api.AiMay, api.OK)
	expectCould(t, "far", c, place(-1999, -30000), true, api.AiCannot, api.OK)
	expectCould(t, "near", c, place(-30000, -29941), true, api.AiMust, api.OK)
	expectCould(t, "not so near", c, place(-30000, -29939), true, api.AiMay, api.OK)
}

// P6.5: what was reported is so, from this place and from others.
func TestCouldAfterReports(t *testing.T) {
	c := example(saw(0, 12000))
	expectCould(t, "it was seen", c, place(0, 12000), false, api.AiMust, api.OK)
	expectCould(t, "it was seen", c, place(12000, 0), false, api.AiMust, api.OK)
	expectCould(t, "it was seen farther off", c, place(0, 14491), false, api.AiMay, api.OK)
	expectCould(t, "it was seen, not heard", c, place(0, 4000), true, api.AiCannot, api.OK)
	c = example(dark(0, 12000))
	expectCould(t, "it was not seen", c, place(0, 12000), false, api.AiCannot, api.OK)
	expectCould(t, "it was not seen nearer by", c, place(0, 11999), false, api.AiMay, api.OK)
	c = example(still(3500, 0))
	expectCould(t, "it was not heard", c, place(3500, 0), true, api.AiCannot, api.OK)
	expectCould(t, "it was not heard, but seen", c, place(3500, 0), false, api.AiMust, api.OK)
	expectCould(t, "it was not heard farther off", c, place(3360, 0), true, api.AiMay, api.OK)
	expectCould(t, "it was not heard farther off", c, place(3361, 0), true, api.AiCannot, api.OK)
}

// P6.4, P6.5: scenes at random, held against the definitions.
func TestTruthsAtRandom(t *testing.T) {
	d := newDice(4)
	var kinds [2][4]int
	var narrow [2]int
	for i := range 1000 {
		c, _, _ := d.told([]int{3, 10, 25}[i%3], 8, []int{0, 0, 20}[i/3%3])
		what := fmt.Sprint("random ", i)
		candles, clear, e := clearOf(c)
		expectClear(t, what, c, candles, clear, e)
		if e == api.OK && clear != c.s.Clear {
			narrow[0]++
		}
		loud, winds, e := windsOf(c)
		expectWinds(t, what, c, loud, winds, e)
		if e == api.OK && len(winds) < c.n.Winds {
			narrow[1]++
		}
		for k, horn := range []bool{false, true} {
			at := d.edge(c, d.truth(c, horn))
			n, e := couldOf(c, at, horn)
			expectCould(t, what, c, at, horn, n, e)
			if e == api.OK {
				kinds[k][n]++
			} else {
				kinds[k][3]++
			}
		}
	}
	if slices.Min(kinds[0][:]) < 50 || slices.Min(kinds[1][:]) < 50 || slices.Min(narrow[:]) < 100 {
		t.Errorf("so often it could not, may, must, and had no truths: %v; so often less was left: %v", kinds, narrow)
	}
}
