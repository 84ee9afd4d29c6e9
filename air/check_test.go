package air_test

import (
	"fmt"
	"slices"
	"testing"

	"nore/air"
	"nore/api"
)

// full is a scene with as many grades and reports as there can be, and with all numbers as far as can be.
func full() scene {
	c := scene{
		s: api.AiStation{
			Grades: []api.AiGrade{grade("abcdefghijklmn", 4960, 5000, 1000), grade("a", 1, 41, 0), grade("b-c", 1, 1, 1000), grade("c", 5000, 5000, 0)},
			Loud:   span(1, 200),
			Clear:  span(1, 300),
		},
		n: api.AiNight{At: place(30000, -30000), Grade: 3, Wind: 31, Winds: 32},
	}
	for i := range api.MaxAiReports {
		c.l = append(c.l, api.AiReport{At: place(-30000, 30000), Horn: i%2 == 0})
	}
	return c
}

// expectNightErrors tells if a function with a night does not return this error, which is not OK, or returns anything besides.
func expectNightErrors(t *testing.T, what string, c scene, e api.Errno) {
	t.Helper()
	expectClear(t, what, c, span(0, 0), span(0, 0), e)
	expectWinds(t, what, c, span(0, 0), nil, e)
	expectFar(t, what, c, 0, 0, e)
	expectFalse(t, what, c, nil, e)
	for _, horn := range []bool{false, true} {
		expectCould(t, what, c, place(0, 0), horn, 0, e)
		expectCould(t, what, c, place(0, 30001), horn, 0, e)
	}
	for _, metres := range []int{0, -1, 60001} {
		expectGrade(t, what, c, metres, 0, e)
	}
}

// expectNight tells if CheckNight does not return this, and if with an error the other functions with a night do not return it too, whatever else is asked, and nothing besides.
func expectNight(t *testing.T, what string, c scene, at int, e api.Errno) {
	t.Helper()
	if i, g := air.CheckNight(c.s, c.n, c.l); i != at || g != e {
		t.Errorf("%s: CheckNight = %d, %d; it should be %d, %d", what, i, g, at, e)
	}
	if e != api.OK {
		expectNightErrors(t, what, c, e)
	}
}

// expectCheck tells if Check does not return this, and if with an error the other functions do not return it too, whatever else is asked, and nothing besides.
func expectCheck(t *testing.T, what string, s api.AiStation, part, at int, e api.Errno) {
	t.Helper()
	if p, i, g := air.Check(s); p != part || i != at || g != e {
		t.Errorf("%s: Check = %d, %d, %d; it should be %d, %d, %d", what, p, i, g, part, at, e)
	}
	good := scene{s: s, n: api.AiNight{Winds: 1}}
	bad := scene{s: s, n: api.AiNight{Grade: 9, Wind: -1}, l: make([]api.AiReport, 9)}
	if e == api.OK {
		expectNight(t, what, good, 0, api.OK)
		expectNight(t, what+", no night", bad, 0, api.ErrNone)
		expectOil(t, what+", no grade", s, 9, -1, 0, api.ErrNone)
		return
	}
	expectNight(t, what, good, 0, e)
	expectNight(t, what+", no night", bad, 0, e)
	expectOil(t, what, s, 0, 60, 0, e)
	expectOil(t, what+", no grade", s, 9, -1, 0, e)
}

// P6.2, P6.3: stations and nights without an error.
func TestCheckGood(t *testing.T) {
	for what, c := range map[string]scene{
		"the example":          example(reportA(), reportB(), reportH()),
		"full":                 full(),
		"as little as can be":  lamp(span(1, 1), span(1, 1)),
		"the greatest numbers": {s: api.AiStation{Grades: []api.AiGrade{grade("a", 5000, 5000, 1000)}, Loud: span(200, 200), Clear: span(300, 300)}, n: api.AiNight{Wind: 31, Winds: 32}},
	} {
		expectCheck(t, what, c.s, 0, 0, api.OK)
		expectNight(t, what, c, 0, api.OK)
	}
	c := full()
	for i := range c.s.Grades {
		c.n.Grade = i
		expectNight(t, fmt.Sprint("grade ", i), c, 0, api.OK)
	}
}

// P6.2, P6.3: too many, and too few, of all that is counted.
func TestCheckCounts(t *testing.T) {
	for _, n := range []int{0, 1, 2, 3, 4, 5, 6, 7, 8, 9, 10, 1 << 16} {
		s := example().s
		s.Grades = nil
		for i := range n {
			s.Grades = append(s.Grades, grade(string([]byte{byte('a' + i%26), byte('a' + i/26%26), byte('a' + i/26/26%26), byte('a' + i/26/26/26)}), 1, 1, 0))
		}
		if n >= 1 && n <= 4 {
			expectCheck(t, fmt.Sprint(n, " grades"), s, 0, 0, api.OK)
		} else {
			expectCheck(t, fmt.Sprint(n, " grades"), s, 1, 0, api.ErrLong)
		}
		c := example(make([]api.AiReport, n)...)
		if n <= 8 {
			expectNight(t, fmt.Sprint(n, " reports"), c, 0, api.OK)
		} else {
			expectNight(t, fmt.Sprint(n, " reports"), c, 0, api.ErrLong)
		}
	}
}

// P6.2, R5: both ends of each range of a station, and numbers far beyond.
func TestStationRanges(t *testing.T) {
	for i, f := range []struct {
		at       func(s *api.AiStation) *int
		lo, hi   int // of those that leave the others as they are
		most     int
		part, in int
	}{
		{func(s *api.AiStation) *int { return &s.Loud.Lo }, 1, 50, 200, 1, 0},
		{func(s *api.AiStation) *int { return &s.Loud.Hi }, 50, 200, 200, 1, 0},
		{func(s *api.AiStation) *int { return &s.Clear.Lo }, 1, 70, 300, 1, 0},
		{func(s *api.AiStation) *int { return &s.Clear.Hi }, 70, 300, 300, 1, 0},
		{func(s *api.AiStation) *int { return &s.Grades[0].Candles.Lo }, 1, 20, 5000, 2, 0},
		{func(s *api.AiStation) *int { return &s.Grades[1].Candles.Lo }, 4960, 5000, 5000, 2, 1},
		{func(s *api.AiStation) *int { return &s.Grades[0].Candles.Hi }, 20, 41, 5000, 2, 0},
		{func(s *api.AiStation) *int { return &s.Grades[1].Candles.Hi }, 5000, 5000, 5000, 2, 1},
		{func(s *api.AiStation) *int { return &s.Grades[0].Oil }, 0, 1000, 1000, 2, 0},
		{func(s *api.AiStation) *int { return &s.Grades[1].Oil }, 0, 1000, 1000, 2, 1},
	} {
		station := func(n int) api.AiStation {
			s := api.AiStation{Grades: []api.AiGrade{grade("a", 1, 20, 5), grade("b", 5000, 5000, 5)}, Loud: span(50, 50), Clear: span(70, 70)}
			*f.at(&s) = n
			return s
		}
		for _, n := range []int{f.lo, f.hi} {
			expectCheck(t, fmt.Sprint("number ", i, " ", n), station(n), 0, 0, api.OK)
		}
		for _, n := range append([]int{-1, f.most + 1}, far...) {
			expectCheck(t, fmt.Sprint("number ", i, " ", n), station(n), f.part, f.in, api.ErrRange)
		}
		if f.most < 1000 || f.most == 5000 {
			expectCheck(t, fmt.Sprint("number ", i, " 0"), station(0), f.part, f.in, api.ErrRange)
		}
	}
}

// P6.2: spans that are none, or too wide.
func TestStationSpans(t *testing.T) {
	for _, f := range []struct{ lo, hi int }{{2, 1}, {200, 1}, {200, 199}} {
		s := example().s
		s.Loud = span(f.lo, f.hi)
		expectCheck(t, fmt.Sprint("Loud ", f), s, 1, 0, api.ErrArg)
		s = example().s
		s.Clear = span(f.lo, f.hi)
		expectCheck(t, fmt.Sprint("Clear ", f), s, 1, 0, api.ErrArg)
	}
	for grade := range 4 {
		for _, f := range []struct {
			lo, hi int
			e      api.Errno
		}{{1, 1, api.OK}, {1, 41, api.OK}, {1, 42, api.ErrArg}, {4960, 5000, api.OK}, {4959, 5000, api.ErrArg}, {1, 5000, api.ErrArg}, {2, 1, api.ErrArg}, {5000, 4999, api.ErrArg}, {5000, 1, api.ErrArg}, {100, 139, api.OK}, {100, 140, api.OK}, {100, 141, api.ErrArg}} {
			s := full().s
			s.Grades[grade].Candles = span(f.lo, f.hi)
			part, at := 2, grade
			if f.e == api.OK {
				part, at = 0, 0
			}
			expectCheck(t, fmt.Sprint("Candles of ", grade, " ", f.lo, " to ", f.hi), s, part, at, f.e)
		}
	}
}

// P6.2: names that are none, and names that are there already.
func TestStationNames(t *testing.T) {
	for _, name := range []string{"", "-", "a-", "-a", "a--b", "A", "oil a", "oil1", "abcdefghijklmno", "\u0161"} {
		for grade := range 4 {
			s := full().s
			s.Grades[grade].Name = name
			expectCheck(t, fmt.Sprintf("name %q", name), s, 2, grade, api.ErrForm)
			s.Grades[grade].Oil, s.Grades[grade].Candles = -1, span(2, 1)
			expectCheck(t, fmt.Sprintf("name %q, and no numbers", name), s, 2, grade, api.ErrForm)
		}
	}
	s := example().s
	s.Grades[0].Name, s.Grades[1].Name = "", ""
	expectCheck(t, "the same name, which is none", s, 2, 0, api.ErrForm)
	for i := range 4 {
		for k := range i {
			s := full().s
			s.Grades[i].Name = s.Grades[k].Name
			expectCheck(t, fmt.Sprint("name twice ", k, " ", i), s, 2, i, api.ErrTwice)
			s.Grades[i].Oil = -1
			expectCheck(t, fmt.Sprint("name twice ", k, " ", i, ", and no oil"), s, 2, i, api.ErrTwice)
		}
	}
}

// P6.3, R5: both ends of each range of a night and of its reports, and numbers far beyond.
func TestNightRanges(t *testing.T) {
	for i, f := range []struct {
		at     func(c *scene) *int
		lo, hi int
		in     int
		e      api.Errno
	}{
		{func(c *scene) *int { return &c.n.Grade }, 0, 3, 0, api.ErrNone},
		{func(c *scene) *int { return &c.n.At.X }, -30000, 30000, 0, api.ErrRange},
		{func(c *scene) *int { return &c.n.At.Y }, -30000, 30000, 0, api.ErrRange},
		{func(c *scene) *int { return &c.n.Wind }, 0, 31, 0, api.ErrRange},
		{func(c *scene) *int { return &c.n.Winds }, 1, 32, 0, api.ErrRange},
		{func(c *scene) *int { return &c.l[0].At.X }, -30000, 30000, 0, api.ErrRange},
		{func(c *scene) *int { return &c.l[3].At.Y }, -30000, 30000, 3, api.ErrRange},
		{func(c *scene) *int { return &c.l[4].At.X }, -30000, 30000, 4, api.ErrRange},
		{func(c *scene) *int { return &c.l[7].At.Y }, -30000, 30000, 7, api.ErrRange},
	} {
		for _, n := range []int{f.lo, f.hi, (f.lo + f.hi) / 2} {
			c := full()
			*f.at(&c) = n
			expectNight(t, fmt.Sprint("number ", i, " ", n), c, 0, api.OK)
		}
		for _, n := range append([]int{f.lo - 1, f.hi + 1}, far...) {
			c := full()
			*f.at(&c) = n
			expectNight(t, fmt.Sprint("number ", i, " ", n), c, f.in, f.e)
		}
	}
	c := example()
	for grade, e := range map[int]api.Errno{-1: api.ErrNone, 0: api.OK, 1: api.OK, 2: api.ErrNone, 3: api.ErrNone} {
		c.n.Grade = grade
		expectNight(t, fmt.Sprint("grade ", grade), c, 0, e)
	}
}

// breach is a change to a scene, and what Check and CheckNight return of it.
type breach struct {
	change   func(c *scene)
	part, at int // the part 3 is the night
	e        api.Errno
}

// breaches are in the order in which errors come; each one leaves those of other ones as they are.
func breaches() []breach {
	return []breach{
		{func(c *scene) { c.s.Grades = append(c.s.Grades, grade("z", 1, 1, 0)) }, 1, 0, api.ErrLong},
		{func(c *scene) { c.s.Loud.Hi = 201 }, 1, 0, api.ErrRange},
		{func(c *scene) { c.s.Clear.Lo = 0 }, 1, 0, api.ErrRange},
		{func(c *scene) { c.s.Loud = span(7, 6) }, 1, 0, api.ErrArg},
		{func(c *scene) { c.s.Clear = span(9, 8) }, 1, 0, api.ErrArg},
		{func(c *scene) { c.s.Grades[0].Name = "No" }, 2, 0, api.ErrForm},
		{func(c *scene) { c.s.Grades[0].Oil = 1001 }, 2, 0, api.ErrRange},
		{func(c *scene) { c.s.Grades[0].Candles.Lo = 4959 }, 2, 0, api.ErrArg},
		{func(c *scene) { c.s.Grades[1].Name = "c" }, 2, 3, api.ErrTwice},
		{func(c *scene) { c.s.Grades[3].Candles.Hi = 5001 }, 2, 3, api.ErrRange},
		{func(c *scene) { c.n.Grade = 4 }, 3, 0, api.ErrNone},
		{func(c *scene) { c.n.At.Y = -30001 }, 3, 0, api.ErrRange},
		{func(c *scene) { c.n.Wind = 32 }, 3, 0, api.ErrRange},
		{func(c *scene) { c.n.Winds = 0 }, 3, 0, api.ErrRange},
		{func(c *scene) { c.l = append(c.l, saw(0, 0)) }, 3, 0, api.ErrLong},
		{func(c *scene) { c.l[2].At.X = 30001 }, 3, 2, api.ErrRange},
		{func(c *scene) { c.l[5].At.Y = -30001 }, 3, 5, api.ErrRange},
	}
}

// expectBreach tells if a scene does not have this error.
func expectBreach(t *testing.T, what string, c scene, part, at int, e api.Errno) {
	t.Helper()
	if part < 3 {
		expectCheck(t, what, c.s, part, at, e)
		expectNight(t, what, c, 0, e)
		return
	}
	expectNight(t, what, c, at, e)
}

// P1, P6.2, P6.3, R1: of two errors the one named first is returned.
func TestCheckPairs(t *testing.T) {
	all := breaches()
	for i, a := range all {
		c := full()
		a.change(&c)
		expectBreach(t, fmt.Sprint("breach ", i), c, a.part, a.at, a.e)
		for k, b := range all[i+1:] {
			c := full()
			b.change(&c)
			a.change(&c)
			expectBreach(t, fmt.Sprint("breaches ", i, " and ", i+1+k), c, a.part, a.at, a.e)
		}
	}
}

// P6.2: the first grade with an error decides, whatever the later ones have.
func TestFirstGrade(t *testing.T) {
	bad := []struct {
		g api.AiGrade
		e api.Errno
	}{
		{grade("No", 1, 1, 0), api.ErrForm},
		{grade("abcdefghijklmn", 1, 1, 0), api.ErrTwice},
		{grade("oil", 0, 1, 0), api.ErrRange},
		{grade("oil", 1, 1, -1), api.ErrRange},
		{grade("oil", 2, 1, 0), api.ErrArg},
		{grade("oil", 2, 5001, 0), api.ErrRange},
		{grade("oil", 2, 1, 1001), api.ErrRange},
		{grade("No", 2, 1, 1001), api.ErrForm},
		{grade("abcdefghijklmn", 2, 1, 1001), api.ErrTwice},
	}
	for i, a := range bad {
		for k, b := range bad {
			s := full().s
			s.Grades[1], s.Grades[3] = a.g, b.g
			expectCheck(t, fmt.Sprint("grades ", i, " and ", k), s, 2, 1, a.e)
		}
		s := full().s
		s.Grades[3] = a.g
		expectCheck(t, fmt.Sprint("grade ", i), s, 2, 3, a.e)
	}
}

// P6.5, P6.6: what is asked is looked at behind the night, and ahead of the truths.
func TestAskedErrors(t *testing.T) {
	none := example(dark(0, 10000), heard(9000, 0)) // neither light nor horn have truths
	for _, c := range []scene{example(), none} {
		for _, n := range append([]int{-30001, 30001}, far...) {
			for _, at := range []api.Point{place(n, 0), place(0, n), place(n, n)} {
				expectCould(t, "too far", c, at, false, 0, api.ErrRange)
				expectCould(t, "too far", c, at, true, 0, api.ErrRange)
			}
		}
		for _, n := range append([]int{-1, 60001}, far...) {
			expectGrade(t, "too far", c, n, 0, api.ErrRange)
		}
	}
	for _, at := range []api.Point{place(30000, 30000), place(-30000, -30000)} {
		expectCould(t, "far", example(), at, false, api.AiCannot, api.OK)
		expectCould(t, "far", example(), at, true, api.AiCannot, api.OK)
		expectCould(t, "far, no truths", none, at, false, 0, api.ErrDown)
		expectCould(t, "far, no truths", none, at, true, 0, api.ErrDown)
	}
	for _, metres := range []int{0, 60000} {
		expectGrade(t, "no truths", none, metres, 0, api.ErrDown)
	}
	expectGrade(t, "far", example(), 60000, 0, api.ErrDown)
	expectGrade(t, "at the light", example(), 0, 1, api.OK)
}

// P6.3: a night without a report, of either sort, has no error; nor have reports from the same place.
func TestNightReports(t *testing.T) {
	c := example()
	for _, l := range [][]api.AiReport{nil, {}, {dark(0, 0)}, slices.Repeat([]api.AiReport{still(0, 0)}, 8), {saw(1, 1), dark(1, 1), heard(1, 1), still(1, 1)}} {
		c.l = l
		expectNight(t, fmt.Sprint(l), c, 0, api.OK)
	}
}
