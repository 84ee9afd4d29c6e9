package swing_test

import (
	"fmt"
	"testing"

	"nore/api"
	"nore/swing"
)

// full is a mooring with as many marks and sands as there can be, and with all numbers as great as can be.
func full() api.SgMooring {
	m := api.SgMooring{Anchor: box(8984, 9000, 8984, 9000), Ring: span(0, 200), Near: 20000}
	for i := range api.MaxCtMarks {
		m.Chart.Marks = append(m.Chart.Marks, api.CtMark{Name: fmt.Sprint("mark-", string(rune('a'+i))), At: point(30000, -30000), Paints: []api.CtPaint{{Day: 0, Colour: 1}, {Day: 1, Colour: 2}, {Day: 2, Colour: 3}, {Day: 40000, Colour: 4}}})
	}
	for i := range api.MaxCtSands {
		m.Chart.Sands = append(m.Chart.Sands, sand(fmt.Sprint("sand-", string(rune('a'+i))), box(-20, 20, -20, 20), 8900, 8900, 9050, 8900, 9050, 9050, 8900, 9050))
	}
	return m
}

// fullLooks are as many looks as there can be.
func fullLooks() (l []api.SgLook) {
	for i := range api.MaxSgLooks {
		l = append(l, look(100*i, i, i+1, box(8984, 9000, 8984, 9000)))
	}
	return l
}

// expectAll tells if a function that asks of looks, and of a further one, does not return an error, or returns anything besides: those of l alone the one, Places and Danger the other one.
func expectAll(t *testing.T, what string, m api.SgMooring, l []api.SgLook, x api.SgLook, e, further api.Errno) {
	t.Helper()
	if r, g := swing.Anchors(m, l); g != e || g != api.OK && len(r) != 0 {
		t.Errorf("%s: Anchors = %v, %d; it should be the error %d", what, r, g, e)
	}
	if e != api.OK {
		expectDragged(t, what, m, l, 0, e)
		expectDrags(t, what, m, l, nil, e)
		expectWrong(t, what, m, l, nil, e)
	}
	if further != api.OK {
		expectPlaces(t, what, m, l, x, nil, further)
		expectDanger(t, what, m, l, x, point(0, 0), 0, further)
	}
}

// expectCheck tells if Check does not return this, and if with an error the other functions do not return it too, whatever else is asked, and nothing besides.
func expectCheck(t *testing.T, what string, m api.SgMooring, part int, e api.Errno) {
	t.Helper()
	if p, g := swing.Check(m); p != part || g != e {
		t.Errorf("%s: Check = %d, %d; it should be %d, %d", what, p, g, part, e)
	}
	if at, g := swing.CheckLooks(m, nil); at != 0 || g != e {
		t.Errorf("%s: CheckLooks of none = %d, %d; it should be the error %d", what, at, g, e)
	}
	if e == api.OK {
		return
	}
	bad := look(-1, 32, 0, box(1, 0, 9001, 0))
	for i, l := range [][]api.SgLook{nil, {lookA}, {lookA, bad}, make([]api.SgLook, 9)} {
		if at, g := swing.CheckLooks(m, l); at != 0 || g != e {
			t.Errorf("%s, looks %d: CheckLooks = %d, %d; it should be 0, %d", what, i, at, g, e)
		}
		for _, x := range []api.SgLook{lookB, bad} {
			expectAll(t, what, m, l, x, e, e)
			expectLies(t, what, m, x, point(0, 0), point(100, 0), false, e)
			expectLies(t, what, m, x, point(9001, 0), point(0, -9001), false, e)
		}
	}
}

// expectLooks tells if CheckLooks does not return this, and if with an error the other functions do not return it too, whatever else is asked, and nothing besides.
func expectLooks(t *testing.T, what string, m api.SgMooring, l []api.SgLook, at int, e api.Errno) {
	t.Helper()
	if i, g := swing.CheckLooks(m, l); i != at || g != e {
		t.Errorf("%s: CheckLooks = %d, %d; it should be %d, %d", what, i, g, at, e)
	}
	if e != api.OK {
		for _, x := range []api.SgLook{lookA, look(-1, 0, 1, just(0, 0)), look(0, 0, 1, box(1, 0, 0, 0))} {
			expectAll(t, what, m, l, x, e, e)
		}
		return
	}
	expectAll(t, what, m, l, lookA, e, e)
}

// expectLook tells if a look, with none before it and with some, does not have this error, or if it is not that of Lies, and as a further one that of Places and Danger.
func expectLook(t *testing.T, what string, x api.SgLook, e api.Errno) {
	t.Helper()
	m := full()
	expectLooks(t, what, m, []api.SgLook{x}, 0, e)
	at := 0
	if e != api.OK {
		at = 1
		expectLies(t, what, m, x, point(0, 0), point(0, 0), false, e)
		expectLies(t, what, m, x, point(0, 9001), point(-9001, 0), false, e)
		for _, l := range [][]api.SgLook{nil, {lookA, lookB}} {
			expectAll(t, what, m, l, x, api.OK, e)
		}
		expectAll(t, what, example(), []api.SgLook{lookA, lookB, lookW}, x, api.OK, e) // no place of the anchor agrees
	} else if _, g := swing.Lies(m, x, point(0, 0), point(0, 0)); g != e {
		t.Errorf("%s: Lies has the error %d", what, g)
	}
	if x.Minute > 0 || e == api.ErrRange {
		expectLooks(t, what, m, []api.SgLook{look(0, 0, 1, just(0, 0)), x}, at, e)
	}
}

// P4.1: moorings without an error.
func TestCheckGood(t *testing.T) {
	expectCheck(t, "the example", example(), 0, api.OK)
	expectCheck(t, "full", full(), 0, api.OK)
	expectCheck(t, "zero", api.SgMooring{}, 0, api.OK)
	m := full()
	m.Anchor, m.Ring, m.Near = box(-9000, -8984, -9000, -9000), span(200, 200), 0
	expectCheck(t, "to the west and the south", m, 0, api.OK)
	m.Anchor, m.Ring = box(-9000, -9000, 9000, 9000), span(0, 0)
	expectCheck(t, "a single place", m, 0, api.OK)
	m.Chart.Marks, m.Chart.Sands = []api.CtMark{}, []api.CtSand{}
	expectCheck(t, "an empty chart", m, 0, api.OK)
}

// P4.1: each error of a chart is that of the part 1, and comes before all others.
func TestCheckChart(t *testing.T) {
	for i, f := range []struct {
		change func(c *api.CtChart)
		e      api.Errno
	}{
		{func(c *api.CtChart) { c.Marks = make([]api.CtMark, 9) }, api.ErrLong},
		{func(c *api.CtChart) { c.Marks[7].Name = "Mark" }, api.ErrForm},
		{func(c *api.CtChart) { c.Marks[7].Name = "mark-a" }, api.ErrTwice},
		{func(c *api.CtChart) { c.Marks[7].At.X = 30001 }, api.ErrRange},
		{func(c *api.CtChart) { c.Marks[7].Paints[3].Day = 2 }, api.ErrArg},
		{func(c *api.CtChart) { c.Sands = append(c.Sands, sand("fifth", box(0, 0, 0, 0), 0, 0, 1, 0, 0, 1)) }, api.ErrLong},
		{func(c *api.CtChart) { c.Sands[3].Name = "" }, api.ErrForm},
		{func(c *api.CtChart) { c.Sands[3].Name = "mark-a" }, api.ErrTwice},
		{func(c *api.CtChart) { c.Sands[3].Corners[0].Y = -10001 }, api.ErrRange},
		{func(c *api.CtChart) { c.Sands[3].Moves = box(0, 41, 0, 0) }, api.ErrArg},
		{func(c *api.CtChart) { c.Sands[3].Corners[1] = point(8900, 8900) }, api.ErrDown},
	} {
		m := full()
		f.change(&m.Chart)
		expectCheck(t, fmt.Sprint("chart ", i), m, 1, f.e)
		m.Anchor, m.Ring, m.Near = box(9001, 0, 1, 0), span(-1, 201), -1
		expectCheck(t, fmt.Sprint("chart ", i, ", and more errors"), m, 1, f.e)
	}
}

// P4.1, R5: both ends of each range, and numbers far beyond.
func TestCheckRanges(t *testing.T) {
	for i, f := range []struct {
		at     func(m *api.SgMooring) *int
		lo, hi int
		part   int
	}{
		{func(m *api.SgMooring) *int { return &m.Anchor.X.Lo }, -9000, 9000, 2},
		{func(m *api.SgMooring) *int { return &m.Anchor.X.Hi }, -9000, 9000, 2},
		{func(m *api.SgMooring) *int { return &m.Anchor.Y.Lo }, -9000, 9000, 2},
		{func(m *api.SgMooring) *int { return &m.Anchor.Y.Hi }, -9000, 9000, 2},
		{func(m *api.SgMooring) *int { return &m.Ring.Lo }, 0, 200, 3},
		{func(m *api.SgMooring) *int { return &m.Ring.Hi }, 0, 200, 3},
		{func(m *api.SgMooring) *int { return &m.Near }, 0, 20000, 3},
	} {
		for _, n := range append([]int{f.lo - 1, f.hi + 1}, far...) {
			m := full()
			*f.at(&m) = n
			expectCheck(t, fmt.Sprint("number ", i, " ", n), m, f.part, api.ErrRange)
			m.Anchor.X.Lo, m.Ring.Lo = m.Anchor.X.Hi+1, m.Ring.Hi+1 // so that ErrArg applies too, though later
			*f.at(&m) = n
			if f.part == 3 {
				m.Anchor = box(0, 0, 0, 0)
			}
			expectCheck(t, fmt.Sprint("number ", i, " ", n, " of a span that is none"), m, f.part, api.ErrRange)
		}
		for _, n := range []int{f.lo, f.hi} {
			m := full()
			a, r := n, n
			if f.part == 2 {
				r = 0
			} else {
				a = 0
			}
			m.Anchor, m.Ring = box(a, a, a, a), span(min(r, 200), min(r, 200))
			*f.at(&m) = n
			expectCheck(t, fmt.Sprint("number ", i, " ", n), m, 0, api.OK)
		}
	}
}

// P4.1: spans that are none, or too wide; and which error comes first.
func TestCheckSpans(t *testing.T) {
	for i, f := range []struct {
		change func(m *api.SgMooring)
		part   int
		e      api.Errno
	}{
		{func(m *api.SgMooring) { m.Anchor = box(5, 21, -7, 9) }, 0, api.OK},
		{func(m *api.SgMooring) { m.Anchor = box(5, 22, -7, 9) }, 2, api.ErrArg},
		{func(m *api.SgMooring) { m.Anchor = box(5, 21, -7, 10) }, 2, api.ErrArg},
		{func(m *api.SgMooring) { m.Anchor = box(-9000, 9000, 0, 0) }, 2, api.ErrArg},
		{func(m *api.SgMooring) { m.Anchor = box(0, 0, -9000, 9000) }, 2, api.ErrArg},
		{func(m *api.SgMooring) { m.Anchor = box(5, 4, 0, 0) }, 2, api.ErrArg},
		{func(m *api.SgMooring) { m.Anchor = box(0, 0, 5, 4) }, 2, api.ErrArg},
		{func(m *api.SgMooring) { m.Anchor = box(9000, -9000, 0, 0) }, 2, api.ErrArg},
		{func(m *api.SgMooring) { m.Anchor = box(0, 0, 9000, -9000) }, 2, api.ErrArg},
		{func(m *api.SgMooring) { m.Anchor = box(5, 4, 0, 9001) }, 2, api.ErrRange},
		{func(m *api.SgMooring) { m.Anchor = box(5, 22, -9001, 0) }, 2, api.ErrRange},
		{func(m *api.SgMooring) { m.Anchor, m.Near = box(5, 4, 0, 0), -1 }, 2, api.ErrArg},
		{func(m *api.SgMooring) { m.Anchor, m.Ring = box(0, 0, 0, 17), span(-1, -2) }, 2, api.ErrArg},
		{func(m *api.SgMooring) { m.Anchor, m.Ring = box(0, 0, 0, 9001), span(2, 1) }, 2, api.ErrRange},
		{func(m *api.SgMooring) { m.Ring = span(0, 0) }, 0, api.OK},
		{func(m *api.SgMooring) { m.Ring = span(200, 200) }, 0, api.OK},
		{func(m *api.SgMooring) { m.Ring = span(1, 0) }, 3, api.ErrArg},
		{func(m *api.SgMooring) { m.Ring = span(200, 199) }, 3, api.ErrArg},
		{func(m *api.SgMooring) { m.Ring = span(200, 0) }, 3, api.ErrArg},
		{func(m *api.SgMooring) { m.Ring, m.Near = span(1, 0), 20001 }, 3, api.ErrRange},
		{func(m *api.SgMooring) { m.Ring, m.Near = span(1, 0), -1 }, 3, api.ErrRange},
		{func(m *api.SgMooring) { m.Ring = span(201, 200) }, 3, api.ErrRange},
		{func(m *api.SgMooring) { m.Ring = span(0, -1) }, 3, api.ErrRange},
	} {
		expectCheck(t, fmt.Sprint("spans ", i), changed(f.change), f.part, f.e)
	}
}

// P4.2: looks without an error; and too many.
func TestCheckLooksCount(t *testing.T) {
	expectLooks(t, "the example", example(), []api.SgLook{lookA, lookB, lookW}, 0, api.OK)
	expectLooks(t, "full", full(), fullLooks(), 0, api.OK)
	expectLooks(t, "an empty list", example(), []api.SgLook{}, 0, api.OK)
	expectLooks(t, "minute by minute", example(), looks(fullLooks()...), 0, api.OK)
	expectLooks(t, "the first and the last minute", example(), []api.SgLook{look(0, 0, 1, just(0, 0)), look(100000, 31, 32, just(0, 0))}, 0, api.OK)
	for n := range 20 {
		var l []api.SgLook
		for i := range n {
			l = append(l, look(i, 0, 1, just(0, 0)))
		}
		if n <= 8 {
			expectLooks(t, fmt.Sprint(n, " looks"), full(), l, 0, api.OK)
			continue
		}
		expectLooks(t, fmt.Sprint(n, " looks"), full(), l, 0, api.ErrLong)
		l[3] = look(-1, 32, 0, box(1, 0, 0, 0))
		expectLooks(t, fmt.Sprint(n, " looks, one with an error"), full(), l, 0, api.ErrLong)
	}
	expectLooks(t, "very many looks", full(), make([]api.SgLook, 1<<16), 0, api.ErrLong)
}

// P4.2, R5: both ends of each range, and numbers far beyond.
func TestCheckLooksRanges(t *testing.T) {
	for i, f := range []struct {
		at     func(x *api.SgLook) *int
		lo, hi int
	}{
		{func(x *api.SgLook) *int { return &x.Minute }, 0, 100000},
		{func(x *api.SgLook) *int { return &x.Point }, 0, 31},
		{func(x *api.SgLook) *int { return &x.Points }, 1, 32},
		{func(x *api.SgLook) *int { return &x.At.X.Lo }, -9000, 9000},
		{func(x *api.SgLook) *int { return &x.At.X.Hi }, -9000, 9000},
		{func(x *api.SgLook) *int { return &x.At.Y.Lo }, -9000, 9000},
		{func(x *api.SgLook) *int { return &x.At.Y.Hi }, -9000, 9000},
	} {
		for _, n := range append([]int{f.lo - 1, f.hi + 1}, far...) {
			x := look(5, 7, 3, just(1, 2))
			*f.at(&x) = n
			expectLook(t, fmt.Sprint("number ", i, " ", n), x, api.ErrRange)
			x = look(5, 7, 3, box(1, 0, 20, 0))
			*f.at(&x) = n
			expectLook(t, fmt.Sprint("number ", i, " ", n, ", and no box"), x, api.ErrRange)
		}
		for _, n := range []int{f.lo, f.hi} {
			a := 0
			if i >= 3 {
				a = n
			}
			x := look(5, 7, 3, just(a, a))
			*f.at(&x) = n
			expectLook(t, fmt.Sprint("number ", i, " ", n), x, api.OK)
		}
	}
}

// P4.2: boxes that are none, or too wide.
func TestCheckLooksBox(t *testing.T) {
	for i, f := range []struct {
		at api.CtBox
		e  api.Errno
	}{
		{box(3, 19, -20, -4), api.OK},
		{box(8984, 9000, -9000, -8984), api.OK},
		{box(3, 20, 0, 0), api.ErrArg},
		{box(0, 0, -20, -3), api.ErrArg},
		{box(3, 2, 0, 0), api.ErrArg},
		{box(0, 0, -3, -4), api.ErrArg},
		{box(-9000, 9000, 0, 0), api.ErrArg},
		{box(0, 0, -9000, 9000), api.ErrArg},
		{box(9000, -9000, 0, 0), api.ErrArg},
		{box(0, 0, 9000, -9000), api.ErrArg},
	} {
		expectLook(t, fmt.Sprint("box ", i), look(5, 7, 3, f.at), f.e)
	}
}

// P4.2: each minute is above that of the look before it; the first look with an error decides, and of its errors the one named first.
func TestCheckLooksOrder(t *testing.T) {
	good := just(0, 0)
	for i, f := range []struct {
		l  []api.SgLook
		at int
		e  api.Errno
	}{
		{[]api.SgLook{look(5, 0, 1, good), look(5, 0, 1, good)}, 1, api.ErrArg},
		{[]api.SgLook{look(5, 0, 1, good), look(4, 0, 1, good)}, 1, api.ErrArg},
		{[]api.SgLook{look(5, 0, 1, good), look(6, 0, 1, good)}, 0, api.OK},
		{[]api.SgLook{look(0, 0, 1, good), look(0, 0, 1, good)}, 1, api.ErrArg},
		{[]api.SgLook{look(1, 0, 1, good), look(3, 0, 1, good), look(2, 0, 1, good)}, 2, api.ErrArg},
		{[]api.SgLook{look(1, 0, 1, good), look(3, 0, 1, good), look(3, 0, 1, good), look(4, 0, 1, good)}, 2, api.ErrArg},
		{[]api.SgLook{look(5, 0, 1, good), look(5, 32, 1, good)}, 1, api.ErrRange},
		{[]api.SgLook{look(5, 0, 1, good), look(4, 0, 33, good)}, 1, api.ErrRange},
		{[]api.SgLook{look(5, 0, 1, good), look(4, 0, 1, just(0, 9001))}, 1, api.ErrRange},
		{[]api.SgLook{look(5, 0, 1, good), look(-1, 0, 1, good)}, 1, api.ErrRange},
		{[]api.SgLook{look(5, 0, 1, box(1, 0, 0, 0)), look(-1, 0, 1, good)}, 0, api.ErrArg},
		{[]api.SgLook{look(5, 0, 1, good), look(5, 0, 1, good), look(-1, 0, 1, good)}, 1, api.ErrArg},
		{[]api.SgLook{look(5, 0, 1, good), look(6, 0, 1, good), look(7, -1, 1, good), look(7, 0, 1, good)}, 2, api.ErrRange},
		{[]api.SgLook{look(100000, 0, 1, good), look(100001, 0, 1, good)}, 1, api.ErrRange},
	} {
		expectLooks(t, fmt.Sprint("order ", i), example(), f.l, f.at, f.e)
		expectLooks(t, fmt.Sprint("order ", i, ", full"), full(), f.l, f.at, f.e)
	}
}

// P4.5: Places and Danger return the error of l first, then that of x, and ErrDown only then; the minute of x need not be above the others.
func TestFurtherErrors(t *testing.T) {
	m := example()
	down := []api.SgLook{lookA, lookB, lookW}
	expectAll(t, "l, then x", m, []api.SgLook{lookB, lookA}, look(-1, 0, 1, just(0, 0)), api.ErrArg, api.ErrArg)
	expectAll(t, "l of too many", m, make([]api.SgLook, 9), look(0, 0, 1, box(1, 0, 0, 0)), api.ErrLong, api.ErrLong)
	expectAll(t, "x, then ErrDown", m, down, look(0, 0, 33, just(0, 0)), api.OK, api.ErrRange)
	expectAll(t, "x, then ErrDown", m, down, look(0, 0, 1, box(0, 17, 0, 0)), api.OK, api.ErrArg)
	expectAll(t, "ErrDown", m, down, lookA, api.OK, api.ErrDown)
	expectPlaces(t, "the same minute", m, []api.SgLook{lookB}, lookB, points(-98, 0, -97, 0), api.OK)
	expectPlaces(t, "an earlier minute", m, []api.SgLook{lookB}, lookA, points(100, 0, 101, 0), api.OK)
	expectPlaces(t, "behind as many looks as there can be", full(), looks(around(just(9000, 9000)), around(just(9000, 9000)), around(just(9000, 9000)), around(just(9000, 9000)), around(just(9000, 9000)), around(just(9000, 9000)), around(just(9000, 9000)), around(just(9000, 9000))), around(just(8990, 9000)), points(8990, 9000), api.OK)
}
