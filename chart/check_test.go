package chart_test

import (
	"fmt"
	"slices"
	"testing"

	"nore/api"
	"nore/chart"
)

// full is a chart with as many marks, paints, sands and corners as there can be.
func full() (c api.CtChart) {
	for i := range api.MaxCtMarks {
		c.Marks = append(c.Marks, mark("mark-"+string(rune('a'+i)), point(i, -i), 1, 1, 2, 2, 3, 3, 4, 4))
	}
	for i := range api.MaxCtSands {
		c.Sands = append(c.Sands, sand("sand-"+string(rune('a'+i)), box(0, 40, -40, 0), 1, 0, 3, 0, 4, 1, 4, 3, 3, 4, 1, 4, 0, 3, 0, 1))
	}
	return c
}

// expectCheck tells if Check does not return this of a chart.
func expectCheck(t *testing.T, what string, c api.CtChart, part, at int, e api.Errno) {
	t.Helper()
	if p, i, f := chart.Check(c); p != part || i != at || f != e {
		t.Errorf("%s: Check = %d, %d, %d; it should be %d, %d, %d", what, p, i, f, part, at, e)
	}
}

// P1.2: charts without an error.
func TestCheckGood(t *testing.T) {
	expectCheck(t, "nothing", api.CtChart{}, 0, 0, api.OK)
	expectCheck(t, "empty lists", api.CtChart{Marks: []api.CtMark{}, Sands: []api.CtSand{}}, 0, 0, api.OK)
	expectCheck(t, "the example", example(), 0, 0, api.OK)
	expectCheck(t, "full", full(), 0, 0, api.OK)
	c := full()
	c.Marks, c.Sands = c.Marks[:1], c.Sands[:1]
	c.Marks[0].Paints = c.Marks[0].Paints[:1]
	c.Sands[0].Corners = c.Sands[0].Corners[:3]
	expectCheck(t, "one of all", c, 0, 0, api.OK)
	c = full()
	c.Marks[3].At, c.Sands[2].Corners, c.Sands[2].Moves = c.Marks[2].At, slices.Clone(c.Sands[1].Corners), c.Sands[1].Moves
	expectCheck(t, "the same place", c, 0, 0, api.OK)
	c.Marks[0].Paints = paints(0, 1, 1, 1, 40000, 1)
	expectCheck(t, "the same colour", c, 0, 0, api.OK)
}

// P1.2: too many, and too few, of all that is counted.
func TestCheckCounts(t *testing.T) {
	for n := range 20 {
		long := func(lo, hi int) api.Errno {
			if n < lo || n > hi {
				return api.ErrLong
			}
			return api.OK
		}
		var marks []api.CtMark
		var days []int
		var sands []api.CtSand
		for i := range n {
			marks = append(marks, mark("m"+string(rune('a'+i)), point(0, 0), 0, 1))
			days = append(days, i, 1)
			sands = append(sands, sand("s"+string(rune('a'+i)), box(0, 0, 0, 0), 0, 0, 1, 0, 0, 1))
		}
		part := func(p int, e api.Errno) int {
			if e == api.OK {
				return 0
			}
			return p
		}
		e := long(0, 8)
		expectCheck(t, fmt.Sprint(n, " marks"), api.CtChart{Marks: marks}, part(1, e), 0, e)
		e = long(1, 4)
		expectCheck(t, fmt.Sprint(n, " paints"), api.CtChart{Marks: []api.CtMark{mark("a", point(0, 0), days...)}}, part(1, e), 0, e)
		e = long(0, 4)
		expectCheck(t, fmt.Sprint(n, " sands"), api.CtChart{Sands: sands}, part(2, e), 0, e)
		e = long(3, 8)
		round := points(1, 0, 3, 0, 4, 1, 4, 3, 3, 4, 1, 4, 0, 3, 0, 1)
		for len(round) < n {
			round = append(round, point(0, 0))
		}
		expectCheck(t, fmt.Sprint(n, " corners"), api.CtChart{Sands: []api.CtSand{{Name: "a", Corners: round[:n]}}}, part(2, e), 0, e)
	}
	expectCheck(t, "very many marks", api.CtChart{Marks: make([]api.CtMark, 1<<16)}, 1, 0, api.ErrLong)
	expectCheck(t, "very many sands", api.CtChart{Sands: make([]api.CtSand, 1<<16)}, 2, 0, api.ErrLong)
}

// P1.2, R5: both ends of each range, and numbers far beyond.
func TestCheckRanges(t *testing.T) {
	big := func() api.CtChart {
		c := full()
		for i := range c.Marks {
			c.Marks[i].Paints = paints(7, 1)
		}
		for i := range c.Sands {
			c.Sands[i].Corners = points(-10000, -10000, 10000, -10000, 10000, 10000, -10000, 10000)
		}
		return c
	}
	expectCheck(t, "big", big(), 0, 0, api.OK)
	for i, f := range []struct {
		at     func(c *api.CtChart) *int
		lo, hi int
		part   int
		index  int
	}{
		{func(c *api.CtChart) *int { return &c.Marks[0].At.X }, -30000, 30000, 1, 0},
		{func(c *api.CtChart) *int { return &c.Marks[0].At.Y }, -30000, 30000, 1, 0},
		{func(c *api.CtChart) *int { return &c.Marks[7].At.X }, -30000, 30000, 1, 7},
		{func(c *api.CtChart) *int { return &c.Marks[7].At.Y }, -30000, 30000, 1, 7},
		{func(c *api.CtChart) *int { return &c.Marks[0].Paints[0].Day }, 0, 40000, 1, 0},
		{func(c *api.CtChart) *int { return &c.Marks[6].Paints[0].Day }, 0, 40000, 1, 6},
		{func(c *api.CtChart) *int { return &c.Marks[0].Paints[0].Colour }, 0, 4, 1, 0},
		{func(c *api.CtChart) *int { return &c.Marks[5].Paints[0].Colour }, 0, 4, 1, 5},
	} {
		for _, n := range append([]int{f.lo - 1, f.lo, f.hi, f.hi + 1}, far...) {
			c := big()
			*f.at(&c) = n
			if n == f.lo || n == f.hi {
				expectCheck(t, fmt.Sprint("field ", i, " ", n), c, 0, 0, api.OK)
			} else {
				expectCheck(t, fmt.Sprint("field ", i, " ", n), c, f.part, f.index, api.ErrRange)
			}
		}
	}
	for s := range api.MaxCtSands {
		for k := range 4 {
			for _, n := range append([]int{-10001, 10001}, far...) {
				c := big()
				c.Sands[s].Corners[k].X = n
				expectCheck(t, fmt.Sprint("corner ", k, " X ", n), c, 2, s, api.ErrRange)
				c = big()
				c.Sands[s].Corners[k].Y = n
				expectCheck(t, fmt.Sprint("corner ", k, " Y ", n), c, 2, s, api.ErrRange)
			}
		}
	}
}

// P1.2, R5: moves at their ends, too wide ones, and ones far beyond.
func TestCheckMoves(t *testing.T) {
	for i, c := range []struct {
		s api.Span
		e api.Errno
	}{
		{api.Span{Lo: -500, Hi: -500}, api.OK},
		{api.Span{Lo: 500, Hi: 500}, api.OK},
		{api.Span{Lo: -500, Hi: -460}, api.OK},
		{api.Span{Lo: 460, Hi: 500}, api.OK},
		{api.Span{Lo: -20, Hi: 20}, api.OK},
		{api.Span{Lo: -501, Hi: -500}, api.ErrRange},
		{api.Span{Lo: -501, Hi: -501}, api.ErrRange},
		{api.Span{Lo: 500, Hi: 501}, api.ErrRange},
		{api.Span{Lo: 501, Hi: 501}, api.ErrRange},
		{api.Span{Lo: -501, Hi: 501}, api.ErrRange},
		{api.Span{Lo: 501, Hi: 0}, api.ErrRange},
		{api.Span{Lo: 0, Hi: -501}, api.ErrRange},
		{api.Span{Lo: 1, Hi: 0}, api.ErrArg},
		{api.Span{Lo: 500, Hi: -500}, api.ErrArg},
		{api.Span{Lo: -500, Hi: 500}, api.ErrArg},
		{api.Span{Lo: 0, Hi: 41}, api.ErrArg},
		{api.Span{Lo: -20, Hi: 21}, api.ErrArg},
		{api.Span{Lo: -500, Hi: -459}, api.ErrArg},
	} {
		part, at := 2, 3
		if c.e == api.OK {
			part, at = 0, 0
		}
		x := full()
		x.Sands[3].Moves.X = c.s
		expectCheck(t, fmt.Sprint("moves ", i, " of X"), x, part, at, c.e)
		x = full()
		x.Sands[3].Moves.Y = c.s
		expectCheck(t, fmt.Sprint("moves ", i, " of Y"), x, part, at, c.e)
	}
	for _, n := range far {
		for i, b := range []api.CtBox{box(n, 0, 0, 0), box(0, n, 0, 0), box(0, 0, n, 0), box(0, 0, 0, n), box(n, n, 0, 0), box(0, 0, n, n)} {
			x := full()
			x.Sands[1].Moves = b
			expectCheck(t, fmt.Sprint("moves ", i, " far"), x, 2, 1, api.ErrRange)
		}
	}
}

// P1.2: names that are none, and names that are there already.
func TestCheckNames(t *testing.T) {
	for _, s := range []string{"", "-", "a-", "a--b", "A", "mark a", "abcdefghijklmno", "\u0161"} {
		for i := range api.MaxCtMarks {
			c := full()
			c.Marks[i].Name = s
			expectCheck(t, "no name of a mark", c, 1, i, api.ErrForm)
		}
		for i := range api.MaxCtSands {
			c := full()
			c.Sands[i].Name = s
			expectCheck(t, "no name of a sand", c, 2, i, api.ErrForm)
		}
	}
	for i := range api.MaxCtMarks {
		for k := range api.MaxCtMarks {
			c := full()
			c.Marks[i].Name = c.Marks[k].Name
			if i != k {
				expectCheck(t, "marks with the same name", c, 1, max(i, k), api.ErrTwice)
			}
		}
		for k := range api.MaxCtSands {
			c := full()
			c.Sands[k].Name = c.Marks[i].Name
			expectCheck(t, "a sand with the name of a mark", c, 2, k, api.ErrTwice)
		}
	}
	for i := range api.MaxCtSands {
		for k := range i {
			c := full()
			c.Sands[i].Name = c.Sands[k].Name
			expectCheck(t, "sands with the same name", c, 2, i, api.ErrTwice)
		}
	}
	// Only a whole name is the same one.
	c := full()
	c.Marks[0].Name, c.Marks[1].Name, c.Sands[0].Name = "a", "a-a", "aa"
	expectCheck(t, "names that begin alike", c, 0, 0, api.OK)
}

// P1.2: the days of paints.
func TestCheckPaints(t *testing.T) {
	for i, c := range []struct {
		l []api.CtPaint
		e api.Errno
	}{
		{paints(0, 0), api.OK},
		{paints(0, 1, 1, 2, 2, 3, 3, 4), api.OK},
		{paints(39999, 1, 40000, 0), api.OK},
		{paints(5, 1, 5, 2), api.ErrArg},
		{paints(5, 1, 4, 2), api.ErrArg},
		{paints(0, 1, 0, 1), api.ErrArg},
		{paints(1, 1, 9, 2, 5, 3), api.ErrArg},
		{paints(1, 1, 2, 2, 3, 3, 3, 4), api.ErrArg},
		{paints(1, 1, 2, 2, 3, 3, 1, 4), api.ErrArg},
		// The first paint with an error decides; of its errors, that of its numbers.
		{paints(5, 1, 5, 2, -1, 1), api.ErrArg},
		{paints(5, 1, 4, 2, 9, 5), api.ErrArg},
		{paints(5, 5, 5, 2), api.ErrRange},
		{paints(5, 1, -1, 2), api.ErrRange},
		{paints(5, 1, 5, 5), api.ErrRange},
		{paints(5, 1, 4, -1), api.ErrRange},
		{paints(5, 1, 40001, 1, 6, 1), api.ErrRange},
		{paints(5, 1, 6, 1, 7, 1, 8, 5), api.ErrRange},
	} {
		part, at := 1, 4
		if c.e == api.OK {
			part, at = 0, 0
		}
		x := full()
		x.Marks[4].Paints = c.l
		expectCheck(t, fmt.Sprint("paints ", i), x, part, at, c.e)
	}
}

// P1.2: corners that do not go round as stated.
func TestCheckCorners(t *testing.T) {
	for i, l := range [][]api.Point{
		points(0, 0, 1, 0, 0, 1),
		points(0, 0, 10000, 9999, 9999, 9999),
		points(-10000, -10000, 10000, 9999, 10000, 10000),
		points(0, 0, 10, 0, 10, 10, 0, 10),
		points(0, 0, 10, 0, 10, 1, 9, 10, 0, 10),
		points(1, 0, 3, 0, 4, 1, 4, 3, 3, 4, 1, 4, 0, 3, 0, 1),
	} {
		for range l {
			expectCheck(t, fmt.Sprint("round ", i), sandsOnly(api.CtSand{Name: "a", Corners: l}), 0, 0, api.OK)
			l = append(slices.Clone(l[1:]), l[0])
		}
		slices.Reverse(l)
		expectCheck(t, fmt.Sprint("with the clock ", i), sandsOnly(api.CtSand{Name: "a", Corners: l}), 2, 0, api.ErrDown)
	}
	for i, l := range [][]api.Point{
		points(0, 0, 0, 0, 0, 0),
		points(0, 0, 1, 0, 0, 0),
		points(0, 0, 1, 0, 2, 0),
		points(0, 0, 2, 0, 1, 0),
		points(0, 0, 1, 1, 2, 2),
		points(0, 0, 5, 0, 10, 0, 10, 10, 0, 10),          // three on a line
		points(0, 0, 10, 0, 10, 10, 5, 10, 0, 10),         // three on a line
		points(0, 0, 10, 0, 10, 10, 10, 10, 0, 10),        // a corner twice, one after the other
		points(0, 0, 10, 0, 10, 10, 0, 10, 0, 0),          // the first one is the last one, too
		points(0, 0, 10, 0, 10, 10, 0, 0, 0, 10),          // a corner twice
		points(0, 0, 10, 0, 0, 10, 0, 0, 10, 0, 0, 10),    // round twice
		points(0, 0, 10, 0, 3, 3, 0, 10),                  // a corner that is dented
		points(0, 0, 10, 10, 10, 0, 0, 10),                // sides that cross
		points(0, 0, 10, 0, 0, 10, 10, 10),                // sides that cross
		points(0, 10, -6, -8, 10, 3, -10, 3, 6, -8),       // a star, whose sides all turn to the left
		points(0, 0, 10, 0, 10, 10, 5, 10, 5, 11, 0, 10),  // dented near to its end
		points(0, 0, 10000, 10000, -10000, -10000),        // on a line, as long as can be
		points(-10000, -10000, 0, 0, 10000, 10000, 0, 10), // the same with another corner
	} {
		for range l {
			expectCheck(t, fmt.Sprint("not round ", i), sandsOnly(api.CtSand{Name: "a", Corners: l}), 2, 0, api.ErrDown)
			l = append(slices.Clone(l[1:]), l[0])
		}
	}
}

// P1.2: whether all corners go round, of all triangles and squares in a small grid.
func TestCheckAllCorners(t *testing.T) {
	grid := eachOf(box(0, 2, 0, 2))
	var all func(l []api.Point)
	all = func(l []api.Point) {
		if len(l) >= 3 {
			e := api.OK
			for i, a := range l {
				for k, b := range l {
					next := (i + 1) % len(l)
					if k != i && k != next && cross(minus(l[next], a), minus(b, a)) <= 0 {
						e = api.ErrDown
					}
				}
			}
			if _, _, f := chart.Check(sandsOnly(api.CtSand{Name: "a", Corners: l})); f != e {
				t.Errorf("%v: Check = %d", l, f)
			}
		}
		if len(l) < 4 {
			for _, p := range grid {
				all(append(l[:len(l):len(l)], p))
			}
		}
	}
	all(nil)
}

// worse are changes of a mark, or of a sand, each of which adds an error; the errors are in the order in which they are named.
type worse[T any] struct {
	e      api.Errno
	change func(*T)
}

func worseMarks() []worse[api.CtMark] {
	return []worse[api.CtMark]{
		{api.ErrForm, func(m *api.CtMark) { m.Name = "" }},
		{api.ErrTwice, func(m *api.CtMark) { m.Name = "mark-b" }},
		{api.ErrRange, func(m *api.CtMark) { m.At.Y = 30001 }},
		{api.ErrLong, func(m *api.CtMark) { m.Paints = append(m.Paints, paints(1, 1, 1, 1, 1, 1, 1, 1)...) }},
		{api.ErrRange, func(m *api.CtMark) { m.Paints[1].Colour = 5 }},
		{api.ErrArg, func(m *api.CtMark) { m.Paints[1].Day = 1 }},
	}
}

func worseSands() []worse[api.CtSand] {
	return []worse[api.CtSand]{
		{api.ErrForm, func(s *api.CtSand) { s.Name = "" }},
		{api.ErrTwice, func(s *api.CtSand) { s.Name = "mark-b" }},
		{api.ErrLong, func(s *api.CtSand) { s.Corners = append(s.Corners, point(0, 0)) }},
		{api.ErrRange, func(s *api.CtSand) { s.Corners[7].Y = -10001 }},
		{api.ErrRange, func(s *api.CtSand) { s.Moves.Y.Lo = -501 }},
		{api.ErrArg, func(s *api.CtSand) { s.Moves.X = api.Span{Lo: 2, Hi: 1} }},
		{api.ErrDown, func(s *api.CtSand) { s.Corners[1] = s.Corners[0] }},
	}
}

// spoil makes an error, and all that are named behind it.
func spoil[T any](x *T, l []worse[T], first int) api.Errno {
	for i := len(l) - 1; i >= first; i-- {
		l[i].change(x)
	}
	return l[first].e
}

// P1.2, R1: of several errors of a mark, or of a sand, the one named first; the first one with an error; the marks before the sands.
func TestCheckOrder(t *testing.T) {
	for i := range worseMarks() {
		c := full()
		e := spoil(&c.Marks[3], worseMarks(), i)
		expectCheck(t, fmt.Sprint("mark ", i), c, 1, 3, e)
		spoil(&c.Marks[4], worseMarks(), 0)
		spoil(&c.Sands[0], worseSands(), 0)
		expectCheck(t, fmt.Sprint("marks ", i), c, 1, 3, e)
		c.Sands = make([]api.CtSand, 5)
		expectCheck(t, fmt.Sprint("mark and sands ", i), c, 1, 3, e)
		c.Marks = append(c.Marks, mark("z", point(0, 0), 0, 1))
		expectCheck(t, fmt.Sprint("too many marks ", i), c, 1, 0, api.ErrLong)
	}
	for i := range worseSands() {
		c := full()
		e := spoil(&c.Sands[1], worseSands(), i)
		expectCheck(t, fmt.Sprint("sand ", i), c, 2, 1, e)
		spoil(&c.Sands[2], worseSands(), 0)
		expectCheck(t, fmt.Sprint("sands ", i), c, 2, 1, e)
		c.Sands = append(c.Sands, sand("z", box(0, 0, 0, 0), 0, 0, 1, 0, 0, 1))
		expectCheck(t, fmt.Sprint("too many sands ", i), c, 2, 0, api.ErrLong)
	}
}

// R1: all functions with a chart return its error first, and nothing else.
func TestErrorOfChart(t *testing.T) {
	var l []api.CtChart
	for i := range worseMarks() {
		c := full()
		spoil(&c.Marks[0], worseMarks(), i)
		l = append(l, c)
	}
	for i := range worseSands() {
		c := full()
		spoil(&c.Sands[3], worseSands(), i)
		l = append(l, c)
	}
	l = append(l, api.CtChart{Marks: make([]api.CtMark, 9)}, api.CtChart{Sands: make([]api.CtSand, 5)})
	for i, c := range l {
		_, _, e := chart.Check(c)
		for _, at := range []api.Point{point(2, 2), point(1<<40, 0)} {
			for _, n := range []int{0, -1, 1 << 40} {
				expectNothing(t, fmt.Sprint("chart ", i), c, n, at, e)
			}
		}
	}
}

// expectNothing tells if a function returns another error, or anything besides, of a chart with an error.
func expectNothing(t *testing.T, what string, c api.CtChart, n int, at api.Point, e api.Errno) {
	t.Helper()
	if sure, some, f := chart.On(c, at); len(sure) != 0 || len(some) != 0 || f != e {
		t.Errorf("%s: On = %v, %v, %d", what, sure, some, f)
	}
	if s, move, f := chart.Clear(c, at, n); s != 0 || move != point(0, 0) || f != e {
		t.Errorf("%s: Clear = %d, %v, %d", what, s, move, f)
	}
	if r, f := chart.Radius(c, at); r != 0 || f != e {
		t.Errorf("%s: Radius = %d, %d", what, r, f)
	}
	if k, f := chart.Colour(c, n, n); k != 0 || f != e {
		t.Errorf("%s: Colour = %d, %d", what, k, f)
	}
	if p, f := chart.Seen(c, n, n, at); p != 0 || f != e {
		t.Errorf("%s: Seen = %d, %d", what, p, f)
	}
	if l, f := chart.Points(c, n, n, box(at.X, at.X, at.Y, at.Y)); len(l) != 0 || f != e {
		t.Errorf("%s: Points = %v, %d", what, l, f)
	}
	if s, f := chart.Write(c); s != "" || f != e {
		t.Errorf("%s: Write = %q, %d", what, s, f)
	}
}
