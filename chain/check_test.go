package chain_test

import (
	"fmt"
	"slices"
	"testing"

	"nore/api"
	"nore/chain"
)

// full is a case with as many shots, gaugings, rows and weathers as there can be.
func full() (c api.CnCase) {
	for i := range api.MaxCnShots {
		s := shot(letters("shot", i), 40, 10*i, span(1, 60000), span(0, 20))
		for k := range api.MaxCnGauges {
			s.Gauges = append(s.Gauges, api.CnGauge{Day: 100 + k, Shown: 9000})
		}
		c.Chain.Shots = append(c.Chain.Shots, s)
	}
	c.Chain.Long, c.Chain.Heavy, c.Chain.Err, c.Chain.Hold = 50, 200, 2000, span(0, 200000)
	for i := range api.MaxCnRows {
		c.Chain.Rows = append(c.Chain.Rows, api.CnRow{Scope: 10 * (i + 1), Holds: 100 * (i + 1)})
	}
	c.Ship = api.CnShip{Wind: 10000, Current: 10000, Swell: 10000, Yaw: 20}
	c.Day = 500
	for range api.MaxCnWeathers {
		c.Weathers = append(c.Weathers, weather(span(1, 1000), span(0, 80), span(0, 80), span(0, 150)))
	}
	return c
}

// expectCheck tells if Check does not return this, and if with an error the other functions do not return it too, whatever else is asked, and nothing besides.
func expectCheck(t *testing.T, what string, c api.CnCase, part, at int, e api.Errno) {
	t.Helper()
	if p, i, g := chain.Check(c); p != part || i != at || g != e {
		t.Errorf("%s: Check = %d, %d, %d; it should be %d, %d, %d", what, p, i, g, part, at, e)
	}
	if e == api.OK {
		return
	}
	for _, n := range []int{0, 1, -1, 1 << 40} {
		expectThick(t, what, c, n, n, span(0, 0), e)
		expectDoubts(t, what, c, n, nil, e)
		expectErrors(t, what, c, n, n, n, truth(1, 1, 1, 1, 1), e, e, e)
	}
}

// expectThick tells if Thick does not return this.
func expectThick(t *testing.T, what string, c api.CnCase, shot, day int, want api.Span, e api.Errno) {
	t.Helper()
	if s, g := chain.Thick(c, shot, day); s != want || g != e {
		t.Errorf("%s: Thick of %d on %d = %v, %d; it should be %v, %d", what, shot, day, s, g, want, e)
	}
}

// expectDoubts tells if Doubts does not return this.
func expectDoubts(t *testing.T, what string, c api.CnCase, shot int, want []int, e api.Errno) {
	t.Helper()
	if l, g := chain.Doubts(c, shot); !slices.Equal(l, want) || g != e {
		t.Errorf("%s: Doubts of %d = %v, %d; it should be %v, %d", what, shot, l, g, want, e)
	}
}

// expectErrors tells if the functions that ask of a case, but Thick and Doubts, do not return these errors, or anything besides: that of Bears, that of Pull (which is not looked at if it is OK), and that of the others; each returns the one named first of those that its arguments lead to.
func expectErrors(t *testing.T, what string, c api.CnCase, shot, weather, out int, in api.CnTruth, bears, pull, others api.Errno) {
	t.Helper()
	if s, g := chain.Bears(c, shot); s != (api.Span{}) || g != bears {
		t.Errorf("%s: Bears of %d = %v, %d; it should be the error %d", what, shot, s, g, bears)
	}
	if n, g := chain.Pull(c, weather, out); g != pull || g != api.OK && n != 0 {
		t.Errorf("%s: Pull in %d with %d = %d, %d; it should be the error %d", what, weather, out, n, g, pull)
	}
	if x, a, b, g := chain.Show(c, weather, out); !sameTruth(x, api.CnTruth{}) || a != 0 || b != 0 || g != others {
		t.Errorf("%s: Show of %d with %d = %v, %d, %d, %d; it should be the error %d", what, weather, out, x, a, b, g, others)
	}
	if a, b, g := chain.In(c, weather, out, in); a != 0 || b != 0 || g != others {
		t.Errorf("%s: In %d with %d = %d, %d, %d; it should be the error %d", what, weather, out, a, b, g, others)
	}
	if others == api.ErrNone {
		return // these are not asked of a weather
	}
	if a, b, x, g := chain.Why(c, out); a != 0 || b != 0 || x != 0 || g != others {
		t.Errorf("%s: Why with %d = %d, %d, %d, %d; it should be the error %d", what, out, a, b, x, g, others)
	}
	if others == api.ErrRange && bears != api.ErrRange {
		return // these are not asked with links out
	}
	if l, g := chain.Scopes(c); len(l) != 0 || g != others {
		t.Errorf("%s: Scopes = %v, %d; it should be the error %d", what, l, g, others)
	}
	if n, g := chain.Shortest(c); n != 0 || g != others {
		t.Errorf("%s: Shortest = %d, %d; it should be the error %d", what, n, g, others)
	}
	if l, turned, g := chain.Renew(c); len(l) != 0 || turned || g != others {
		t.Errorf("%s: Renew = %v, %v, %d; it should be the error %d", what, l, turned, g, others)
	}
}

// P3.1: cases without an error.
func TestCheckGood(t *testing.T) {
	expectCheck(t, "the example", example(), 0, 0, api.OK)
	expectCheck(t, "full", full(), 0, 0, api.OK)
	expectCheck(t, "as little as can be", plain(shot("a", 1, 0, span(1, 1), span(0, 0))), 0, 0, api.OK)
	c := example()
	c.Chain.Shots[1].Gauges = []api.CnGauge{}
	expectCheck(t, "an empty list of gaugings", c, 0, 0, api.OK)
	c = full()
	c.Chain.Shots[3].Gauges = gauges(30, 0, 30, 60000, 40000, 0, 40000, 0)
	expectCheck(t, "gaugings on the day of Set, on the same day, and on the last day", c, 0, 0, api.OK)
	c = full()
	for i := range c.Chain.Shots {
		c.Chain.Shots[i].Set, c.Chain.Shots[i].Gauges = 500, nil
	}
	expectCheck(t, "all set in on the Day", c, 0, 0, api.OK)
	c = full()
	c.Weathers[5], c.Chain.Shots[1].Links = c.Weathers[0], 1
	expectCheck(t, "the same weather twice", c, 0, 0, api.OK)
	c = full()
	c.Chain.Rows = rows(195, 1, 196, 2, 197, 3, 198, 998, 199, 999, 200, 1000)
	expectCheck(t, "rows that are near to each other", c, 0, 0, api.OK)
}

// P3.1: too many, and too few, of all that is counted.
func TestCheckCounts(t *testing.T) {
	for n := range 16 {
		expect := func(what string, c api.CnCase, lo, hi, part, at int) {
			t.Helper()
			if n >= lo && n <= hi {
				expectCheck(t, fmt.Sprint(n, " ", what), c, 0, 0, api.OK)
			} else {
				expectCheck(t, fmt.Sprint(n, " ", what), c, part, at, api.ErrLong)
			}
		}
		c := full()
		c.Chain.Shots = nil
		for i := range n {
			c.Chain.Shots = append(c.Chain.Shots, shot(letters("shot", i), 1, 0, span(1, 1), span(0, 0)))
		}
		expect("shots", c, 1, 7, 1, 0)
		c = full()
		c.Chain.Rows = nil
		for i := range n {
			c.Chain.Rows = append(c.Chain.Rows, api.CnRow{Scope: i + 1, Holds: i + 1})
		}
		expect("rows", c, 1, 6, 1, 0)
		c = full()
		c.Chain.Shots[6].Gauges = nil
		for i := range n {
			c.Chain.Shots[6].Gauges = append(c.Chain.Shots[6].Gauges, api.CnGauge{Day: 60 + i})
		}
		expect("gaugings", c, 0, 6, 2, 6)
		c = full()
		c.Weathers = nil
		for range n {
			c.Weathers = append(c.Weathers, full().Weathers[0])
		}
		expect("weathers", c, 1, 6, 6, 0)
	}
	c := full()
	c.Weathers = make([]api.CnWeather, 1<<16)
	expectCheck(t, "very many weathers", c, 6, 0, api.ErrLong)
	c.Chain.Shots[0].Gauges = make([]api.CnGauge, 1<<16)
	expectCheck(t, "very many gaugings", c, 2, 0, api.ErrLong)
	c.Chain.Rows = make([]api.CnRow, 1<<16)
	expectCheck(t, "very many rows", c, 1, 0, api.ErrLong)
	c.Chain.Rows, c.Chain.Shots = full().Chain.Rows, make([]api.CnShot, 1<<16)
	expectCheck(t, "very many shots", c, 1, 0, api.ErrLong)
}

// P3.1, R5: both ends of each range, and numbers far beyond.
func TestCheckRanges(t *testing.T) {
	for i, f := range []struct {
		at              func(c *api.CnCase) *int
		lo, hi          int
		part, index     int
		below, aboveErr api.Errno
	}{
		{func(c *api.CnCase) *int { return &c.Chain.Long }, 1, 50, 1, 0, api.ErrRange, api.ErrRange},
		{func(c *api.CnCase) *int { return &c.Chain.Heavy }, 0, 200, 1, 0, api.ErrRange, api.ErrRange},
		{func(c *api.CnCase) *int { return &c.Chain.Err }, 0, 2000, 1, 0, api.ErrRange, api.ErrRange},
		{func(c *api.CnCase) *int { return &c.Chain.Shots[0].Links }, 1, 40, 2, 0, api.ErrRange, api.ErrRange},
		{func(c *api.CnCase) *int { return &c.Chain.Shots[6].Links }, 1, 40, 2, 6, api.ErrRange, api.ErrRange},
		{func(c *api.CnCase) *int { return &c.Chain.Shots[4].Gauges[0].Day }, 40, 101, 2, 4, api.ErrRange, api.ErrArg},
		{func(c *api.CnCase) *int { return &c.Chain.Shots[4].Gauges[5].Day }, 104, 40000, 2, 4, api.ErrArg, api.ErrRange},
		{func(c *api.CnCase) *int { return &c.Chain.Shots[0].Gauges[0].Shown }, 0, 60000, 2, 0, api.ErrRange, api.ErrRange},
		{func(c *api.CnCase) *int { return &c.Chain.Shots[6].Gauges[5].Shown }, 0, 60000, 2, 6, api.ErrRange, api.ErrRange},
		{func(c *api.CnCase) *int { return &c.Chain.Rows[0].Scope }, 1, 19, 3, 0, api.ErrRange, 0},
		{func(c *api.CnCase) *int { return &c.Chain.Rows[5].Scope }, 51, 200, 3, 5, api.ErrArg, api.ErrRange},
		{func(c *api.CnCase) *int { return &c.Chain.Rows[0].Holds }, 1, 199, 3, 0, api.ErrRange, 0},
		{func(c *api.CnCase) *int { return &c.Chain.Rows[5].Holds }, 501, 1000, 3, 5, api.ErrArg, api.ErrRange},
		{func(c *api.CnCase) *int { return &c.Ship.Wind }, 0, 10000, 4, 0, api.ErrRange, api.ErrRange},
		{func(c *api.CnCase) *int { return &c.Ship.Current }, 0, 10000, 4, 0, api.ErrRange, api.ErrRange},
		{func(c *api.CnCase) *int { return &c.Ship.Swell }, 0, 10000, 4, 0, api.ErrRange, api.ErrRange},
		{func(c *api.CnCase) *int { return &c.Ship.Yaw }, 0, 20, 4, 0, api.ErrRange, api.ErrRange},
		{func(c *api.CnCase) *int { return &c.Day }, 60, 40000, 5, 0, api.ErrArg, api.ErrRange},
	} {
		expect := func(n int, e api.Errno) {
			t.Helper()
			c := full()
			*f.at(&c) = n
			what := fmt.Sprint("field ", i, " ", n)
			if e == api.OK {
				expectCheck(t, what, c, 0, 0, e)
			} else {
				expectCheck(t, what, c, f.part, f.index, e)
			}
		}
		expect(f.lo, api.OK)
		expect(f.hi, api.OK)
		expect(f.lo-1, f.below)
		if f.aboveErr == api.ErrRange {
			expect(f.hi+1, api.ErrRange)
		}
		for _, n := range far {
			expect(n, api.ErrRange)
		}
	}
}

// P3.1: what is below its range, though not below what comes before it, or the other way round.
func TestCheckAfterOther(t *testing.T) {
	for i, f := range []struct {
		change   func(c *api.CnCase)
		part, at int
		e        api.Errno
	}{
		{func(c *api.CnCase) { c.Day = -1 }, 5, 0, api.ErrRange},
		{func(c *api.CnCase) { c.Day = 0 }, 5, 0, api.ErrArg},
		{func(c *api.CnCase) { c.Day = 59 }, 5, 0, api.ErrArg},
		{func(c *api.CnCase) { c.Day = 60 }, 0, 0, api.OK},
		{func(c *api.CnCase) { c.Chain.Shots[0].Set, c.Chain.Shots[0].Gauges = 501, nil }, 5, 0, api.ErrArg},
		{func(c *api.CnCase) { c.Chain.Shots[6].Set, c.Chain.Shots[6].Gauges = 501, nil }, 5, 0, api.ErrArg},
		{func(c *api.CnCase) { c.Chain.Shots[6].Set, c.Chain.Shots[6].Gauges = 500, nil }, 0, 0, api.OK},
		{func(c *api.CnCase) { c.Chain.Shots[2].Gauges = gauges(19, 5) }, 2, 2, api.ErrRange},
		{func(c *api.CnCase) { c.Chain.Shots[2].Gauges = gauges(20, 5) }, 0, 0, api.OK},
		{func(c *api.CnCase) { c.Chain.Shots[2].Gauges = gauges(40000, 5, 39999, 5) }, 2, 2, api.ErrArg},
		{func(c *api.CnCase) { c.Chain.Shots[2].Gauges = gauges(50, 5, 60, 5, 55, 5) }, 2, 2, api.ErrArg},
		{func(c *api.CnCase) { c.Chain.Shots[2].Gauges = gauges(50, 5, 60, 5, 50, 5) }, 2, 2, api.ErrArg},
		{func(c *api.CnCase) { c.Chain.Shots[2].Gauges = gauges(50, 5, 49, -1) }, 2, 2, api.ErrRange},
		{func(c *api.CnCase) { c.Chain.Shots[2].Gauges = gauges(50, 5, 49, 5, 51, -1) }, 2, 2, api.ErrArg},
		{func(c *api.CnCase) { c.Chain.Shots[2].Gauges = gauges(50, 5, 19, 5) }, 2, 2, api.ErrRange},
		{func(c *api.CnCase) { c.Chain.Shots[2].Set = 101 }, 2, 2, api.ErrRange},
		{func(c *api.CnCase) { c.Chain.Shots[2].Set = 40001 }, 2, 2, api.ErrRange},
		{func(c *api.CnCase) { c.Chain.Shots[2].Set = -1 }, 2, 2, api.ErrRange},
		{func(c *api.CnCase) { c.Chain.Rows = rows(5, 5, 5, 6) }, 3, 1, api.ErrArg},
		{func(c *api.CnCase) { c.Chain.Rows = rows(5, 5, 6, 5) }, 3, 1, api.ErrArg},
		{func(c *api.CnCase) { c.Chain.Rows = rows(5, 5, 4, 6) }, 3, 1, api.ErrArg},
		{func(c *api.CnCase) { c.Chain.Rows = rows(5, 5, 6, 4) }, 3, 1, api.ErrArg},
		{func(c *api.CnCase) { c.Chain.Rows = rows(5, 5, 6, 6, 6, 7) }, 3, 2, api.ErrArg},
		{func(c *api.CnCase) { c.Chain.Rows = rows(5, 5, 9, 9, 6, 10) }, 3, 2, api.ErrArg},
		{func(c *api.CnCase) { c.Chain.Rows = rows(5, 5, 4, 1001) }, 3, 1, api.ErrRange},
		{func(c *api.CnCase) { c.Chain.Rows = rows(5, 5, 0, 6) }, 3, 1, api.ErrRange},
		{func(c *api.CnCase) { c.Chain.Rows = rows(5, 5, 4, 6, 0, 0) }, 3, 1, api.ErrArg},
		{func(c *api.CnCase) { c.Chain.Rows = rows(5, 5, 6, 6) }, 0, 0, api.OK},
	} {
		c := full()
		f.change(&c)
		expectCheck(t, fmt.Sprint("case ", i), c, f.part, f.at, f.e)
	}
	for _, n := range far {
		c := full()
		c.Chain.Shots[5].Set, c.Chain.Shots[5].Gauges = n, nil
		expectCheck(t, "Set far", c, 2, 5, api.ErrRange)
	}
}

// P3.1, R5: spans with one end that is out, whole ranges, and spans whose Lo is above Hi.
func TestCheckSpans(t *testing.T) {
	for i, f := range []struct {
		of       func(c *api.CnCase) *api.Span
		lo, hi   int
		part, at int
	}{
		{func(c *api.CnCase) *api.Span { return &c.Chain.Hold }, 0, 200000, 1, 0},
		{func(c *api.CnCase) *api.Span { return &c.Chain.Shots[0].New }, 1, 60000, 2, 0},
		{func(c *api.CnCase) *api.Span { return &c.Chain.Shots[6].New }, 1, 60000, 2, 6},
		{func(c *api.CnCase) *api.Span { return &c.Chain.Shots[0].Wear }, 0, 20, 2, 0},
		{func(c *api.CnCase) *api.Span { return &c.Chain.Shots[6].Wear }, 0, 20, 2, 6},
		{func(c *api.CnCase) *api.Span { return &c.Weathers[0].Depth }, 1, 1000, 6, 0},
		{func(c *api.CnCase) *api.Span { return &c.Weathers[5].Depth }, 1, 1000, 6, 5},
		{func(c *api.CnCase) *api.Span { return &c.Weathers[1].Wind }, 0, 80, 6, 1},
		{func(c *api.CnCase) *api.Span { return &c.Weathers[2].Current }, 0, 80, 6, 2},
		{func(c *api.CnCase) *api.Span { return &c.Weathers[3].Swell }, 0, 150, 6, 3},
	} {
		expect := func(lo, hi int, e api.Errno) {
			t.Helper()
			c := full()
			*f.of(&c) = span(lo, hi)
			if what := fmt.Sprint("span ", i, " ", lo, " to ", hi); e == api.OK {
				expectCheck(t, what, c, 0, 0, e)
			} else {
				expectCheck(t, what, c, f.part, f.at, e)
			}
		}
		expect(f.lo, f.hi, api.OK)
		expect(f.lo, f.lo, api.OK)
		expect(f.hi, f.hi, api.OK)
		expect(f.hi, f.hi-1, api.ErrArg)
		expect(f.hi, f.lo, api.ErrArg)
		expect(f.lo+1, f.lo, api.ErrArg)
		for _, n := range append([]int{f.lo - 1, f.hi + 1}, far...) {
			expect(n, f.hi, api.ErrRange)
			expect(f.lo, n, api.ErrRange)
			expect(n, f.lo, api.ErrRange)
			expect(f.hi, n, api.ErrRange)
			expect(n, n, api.ErrRange)
		}
	}
}

// P3.1: names that are none, and names that are there already.
func TestCheckNames(t *testing.T) {
	for _, s := range []string{"", "-", "a-", "-a", "a--b", "A", "shot a", "shot1", "abcdefghijklmno", "\u0161"} {
		for i := range api.MaxCnShots {
			c := full()
			c.Chain.Shots[i].Name = s
			expectCheck(t, fmt.Sprintf("name %q", s), c, 2, i, api.ErrForm)
		}
	}
	for i := range api.MaxCnShots {
		for k := range i {
			c := full()
			c.Chain.Shots[i].Name = c.Chain.Shots[k].Name
			expectCheck(t, fmt.Sprint("name twice ", k, " ", i), c, 2, i, api.ErrTwice)
		}
	}
	c := full()
	c.Chain.Shots[0].Name, c.Chain.Shots[6].Name = "abcdefghijklmn", "z"
	expectCheck(t, "a long name and a short one", c, 0, 0, api.OK)
}

// breach is a change to a case, and what Check returns of it.
type breach struct {
	change   func(c *api.CnCase)
	part, at int
	e        api.Errno
}

// breaches are in the order in which errors come.
func breaches() []breach {
	shotAt := func(i int, change func(s *api.CnShot)) func(c *api.CnCase) {
		return func(c *api.CnCase) {
			if i < len(c.Chain.Shots) {
				change(&c.Chain.Shots[i])
			}
		}
	}
	rowAt := func(i int, change func(r *api.CnRow)) func(c *api.CnCase) {
		return func(c *api.CnCase) {
			if i < len(c.Chain.Rows) {
				change(&c.Chain.Rows[i])
			}
		}
	}
	weatherAt := func(i int, change func(w *api.CnWeather)) func(c *api.CnCase) {
		return func(c *api.CnCase) {
			if i < len(c.Weathers) {
				change(&c.Weathers[i])
			}
		}
	}
	return []breach{
		{func(c *api.CnCase) { c.Chain.Rows = append(c.Chain.Rows, api.CnRow{Scope: 199, Holds: 999}) }, 1, 0, api.ErrLong},
		{func(c *api.CnCase) { c.Chain.Long = 51 }, 1, 0, api.ErrRange},
		{func(c *api.CnCase) { c.Chain.Err = -1 }, 1, 0, api.ErrRange},
		{func(c *api.CnCase) { c.Chain.Hold = span(2, 1) }, 1, 0, api.ErrArg},
		{shotAt(2, func(s *api.CnShot) { s.Name = "Shot" }), 2, 2, api.ErrForm},
		{shotAt(3, func(s *api.CnShot) { s.Name = "shot-b" }), 2, 3, api.ErrTwice},
		{shotAt(3, func(s *api.CnShot) { s.Links = 41 }), 2, 3, api.ErrRange},
		{shotAt(3, func(s *api.CnShot) { s.Set = -1 }), 2, 3, api.ErrRange},
		{shotAt(3, func(s *api.CnShot) { s.New.Hi = 60001 }), 2, 3, api.ErrRange},
		{shotAt(3, func(s *api.CnShot) { s.Wear.Lo = -1 }), 2, 3, api.ErrRange},
		{shotAt(4, func(s *api.CnShot) { s.New = span(9, 8) }), 2, 4, api.ErrArg},
		{shotAt(4, func(s *api.CnShot) { s.Wear = span(9, 8) }), 2, 4, api.ErrArg},
		{shotAt(4, func(s *api.CnShot) { s.Gauges = append(slices.Clone(s.Gauges), api.CnGauge{Day: 999}) }), 2, 4, api.ErrLong},
		{shotAt(4, func(s *api.CnShot) { s.Gauges[1].Shown = -1 }), 2, 4, api.ErrRange},
		{shotAt(4, func(s *api.CnShot) { s.Gauges[1].Day = 99 }), 2, 4, api.ErrArg},
		{shotAt(4, func(s *api.CnShot) { s.Gauges[3].Day = 1 << 40 }), 2, 4, api.ErrRange},
		{shotAt(5, func(s *api.CnShot) { s.Name = "" }), 2, 5, api.ErrForm},
		{rowAt(2, func(r *api.CnRow) { r.Holds = 1001 }), 3, 2, api.ErrRange},
		{rowAt(2, func(r *api.CnRow) { r.Scope = 20 }), 3, 2, api.ErrArg},
		{rowAt(3, func(r *api.CnRow) { r.Scope = 0 }), 3, 3, api.ErrRange},
		{func(c *api.CnCase) { c.Ship.Yaw = 21 }, 4, 0, api.ErrRange},
		{func(c *api.CnCase) { c.Day = 40001 }, 5, 0, api.ErrRange},
		{weatherAt(1, func(w *api.CnWeather) { w.Swell.Hi = 151 }), 6, 1, api.ErrRange},
		{weatherAt(1, func(w *api.CnWeather) { w.Depth = span(9, 8) }), 6, 1, api.ErrArg},
		{weatherAt(2, func(w *api.CnWeather) { w.Wind.Lo = -1 }), 6, 2, api.ErrRange},
	}
}

// P3.1, R1: of two errors the one that is named first, in the first element with one.
func TestCheckOrder(t *testing.T) {
	l := breaches()
	for i, first := range l {
		c := full()
		first.change(&c)
		expectCheck(t, fmt.Sprint("breach ", i), c, first.part, first.at, first.e)
		for k := i + 1; k < len(l); k++ {
			c := full()
			l[k].change(&c)
			first.change(&c)
			expectCheck(t, fmt.Sprint("breaches ", i, " and ", k), c, first.part, first.at, first.e)
		}
		c = full()
		for k := len(l) - 1; k >= i; k-- {
			l[k].change(&c)
		}
		expectCheck(t, fmt.Sprint("breaches from ", i, " on"), c, first.part, first.at, first.e)
	}
	// What is behind the parts with elements: too many weathers, and before the Day a Set.
	c := full()
	c.Day, c.Weathers = 59, nil
	expectCheck(t, "before a Set, and no weathers", c, 5, 0, api.ErrArg)
	c.Ship.Swell = -1
	expectCheck(t, "the ship, before a Set, and no weathers", c, 4, 0, api.ErrRange)
	c.Chain.Rows[5].Holds = 0
	expectCheck(t, "a row, and all that", c, 3, 5, api.ErrRange)
	c.Chain.Shots[6].Links = 0
	expectCheck(t, "a shot, and all that", c, 2, 6, api.ErrRange)
	c.Chain.Shots = append(c.Chain.Shots, shot("z", 0, 0, span(0, 0), span(0, 0)))
	expectCheck(t, "too many shots, and all that", c, 1, 0, api.ErrLong)
}

// torn is the example with gaugings of the second shot that contradict each other.
func torn() api.CnCase {
	return changed(func(c *api.CnCase) { c.Chain.Shots[1].Gauges = gauges(0, 17000) })
}

// P3.2 to P3.6: what is no index, or no number of links out, before gaugings that contradict each other, before the truth.
func TestOtherErrors(t *testing.T) {
	good := truth(30, 40, 20, 5, 9000, 16500, 13000)
	for _, n := range append([]int{-1, 2, 3, 7}, far...) {
		for _, c := range []api.CnCase{example(), torn()} {
			for _, out := range []int{1, 0, 21} {
				expectErrors(t, "no index", c, n, n, out, good, api.ErrNone, api.ErrNone, api.ErrNone)
				expectErrors(t, "no index, and too short", c, n, n, out, truth(0, 0, 0, 0, 0), api.ErrNone, api.ErrNone, api.ErrNone)
			}
			expectDoubts(t, "no index", c, n, nil, api.ErrNone)
			for _, day := range []int{0, -1, 1 << 40} {
				expectThick(t, "no index", c, n, day, span(0, 0), api.ErrNone)
			}
		}
	}
	for _, out := range append([]int{-1, 0, 21}, far...) {
		expectErrors(t, "out", torn(), 0, 1, out, good, api.ErrZero, api.ErrRange, api.ErrRange)
		expectOut(t, example(), out, good)
		expectOut(t, example(), out, truth(0, 0, 0, 0, 0))
	}
	for _, out := range []int{1, 10, 20} {
		for shot := range 2 {
			expectErrors(t, "torn", torn(), shot, shot, out, good, api.ErrZero, api.OK, api.ErrZero)
			expectErrors(t, "torn, and too short", torn(), shot, shot, out, truth(0, 0, 0, 0, 0), api.ErrZero, api.OK, api.ErrZero)
		}
	}
}

// expectOut tells if a number of links out does not lead to ErrRange.
func expectOut(t *testing.T, c api.CnCase, out int, in api.CnTruth) {
	t.Helper()
	if n, e := chain.Pull(c, 0, out); n != 0 || e != api.ErrRange {
		t.Errorf("Pull with %d = %d, %d", out, n, e)
	}
	if a, b, x, e := chain.Why(c, out); a != 0 || b != 0 || x != 0 || e != api.ErrRange {
		t.Errorf("Why with %d = %d, %d, %d, %d", out, a, b, x, e)
	}
	if x, a, b, e := chain.Show(c, 1, out); !sameTruth(x, api.CnTruth{}) || a != 0 || b != 0 || e != api.ErrRange {
		t.Errorf("Show with %d = %v, %d, %d, %d", out, x, a, b, e)
	}
	if a, b, e := chain.In(c, 0, out, in); a != 0 || b != 0 || e != api.ErrRange {
		t.Errorf("In with %d = %d, %d, %d", out, a, b, e)
	}
}
