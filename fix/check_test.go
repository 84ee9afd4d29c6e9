package fix_test

import (
	"fmt"
	"slices"
	"testing"

	"nore/api"
	"nore/fix"
)

// full is a fix with as many marks, instruments and areas as there can be.
func full() (f api.FxFix) {
	for i := range api.MaxCtMarks {
		f.Chart.Marks = append(f.Chart.Marks, mark(letters("mark", i), point(700*i-900, 800-300*i)))
	}
	f.Chart.Sands = []api.CtSand{{Name: "knoll", Corners: points(0, 0, 9, 0, 9, 9), Moves: box(0, 1, 0, 1)}}
	f.Instruments = []api.FxInstrument{compass("card", -4, 4), compass("old", -1, 0), lead("line", -20, 20), lead("pole", 0, 3)}
	for i := range api.MaxFxAreas {
		f.Areas = append(f.Areas, area(-100*i, 300*i, -200*i, 50*i, 10*i, 20*i, 1+i%4))
	}
	f.Day, f.Step, f.Half = 7, 100, 3
	return f
}

// expectCheck tells if Check does not return this, and if the other functions do not return the same error, and nothing else.
func expectCheck(t *testing.T, what string, f api.FxFix, part, at int, e api.Errno) {
	t.Helper()
	if p, i, g := fix.Check(f); p != part || i != at || g != e {
		t.Errorf("%s: Check = %d, %d, %d; it should be %d, %d, %d", what, p, i, g, part, at, e)
	}
	if e == api.OK {
		expectSights(t, what, f, nil, 0, api.OK)
		return
	}
	for _, l := range [][]api.FxSight{nil, make([]api.FxSight, 9), {{}, {Instrument: -1}}} {
		expectSights(t, what, f, l, 0, e)
	}
}

// expectSights tells if CheckSights does not return this, and if with an error the other functions do not return it too, and nothing else.
func expectSights(t *testing.T, what string, f api.FxFix, l []api.FxSight, at int, e api.Errno) {
	t.Helper()
	if i, g := fix.CheckSights(f, l); i != at || g != e {
		t.Errorf("%s: CheckSights = %d, %d; it should be %d, %d", what, i, g, at, e)
	}
	if e == api.OK {
		return
	}
	for _, p := range points(0, 0, 30001, 0) {
		if o, g := fix.Offs(f, l, p); len(o) != 0 || g != e {
			t.Errorf("%s: Offs = %v, %d; it should be the error %d", what, o, g, e)
		}
	}
	if r, g := fix.Places(f, l); len(r) != 0 || g != e {
		t.Errorf("%s: Places = %v, %d; it should be the error %d", what, r, g, e)
	}
	if b, g := fix.Where(f, l); b != (api.CtBox{}) || g != e {
		t.Errorf("%s: Where = %v, %d; it should be the error %d", what, b, g, e)
	}
	if a, b, g := fix.Wrong(f, l); len(a) != 0 || len(b) != 0 || g != e {
		t.Errorf("%s: Wrong = %v, %v, %d; it should be the error %d", what, a, b, g, e)
	}
	if a, b, c, g := fix.Ask(f, l); a != 0 || b != 0 || c != 0 || g != e {
		t.Errorf("%s: Ask = %d, %d, %d, %d; it should be the error %d", what, a, b, c, g, e)
	}
}

// P2.1: fixes without an error.
func TestCheckGood(t *testing.T) {
	expectCheck(t, "the example", example(), 0, 0, api.OK)
	expectCheck(t, "full", full(), 0, 0, api.OK)
	expectCheck(t, "as little as can be", plain(1, 0, nil, compass("a", 0, 0)), 0, 0, api.OK)
	f := full()
	f.Instruments[0].Name, f.Instruments[1].Name = f.Chart.Marks[0].Name, f.Chart.Sands[0].Name
	expectCheck(t, "instruments with the names of a mark and a sand", f, 0, 0, api.OK)
	f = full()
	f.Areas[1], f.Areas[5] = f.Areas[0], f.Areas[0]
	expectCheck(t, "areas that are the same", f, 0, 0, api.OK)
	f = plain(1, 0, []api.CtMark{}, compass("a", 0, 0))
	f.Areas, f.Chart.Sands = []api.FxArea{}, []api.CtSand{}
	expectCheck(t, "empty lists", f, 0, 0, api.OK)
}

// P2.1: the error of the chart is that of part 1, wherever in the chart it is.
func TestCheckChart(t *testing.T) {
	for i, c := range []struct {
		change func(c *api.CtChart)
		e      api.Errno
	}{
		{func(c *api.CtChart) { c.Marks = make([]api.CtMark, 9) }, api.ErrLong},
		{func(c *api.CtChart) { c.Marks[0].Name = "" }, api.ErrForm},
		{func(c *api.CtChart) { c.Marks[7].Name = "A" }, api.ErrForm},
		{func(c *api.CtChart) { c.Marks[7].Name = c.Marks[0].Name }, api.ErrTwice},
		{func(c *api.CtChart) { c.Marks[3].At.Y = 30001 }, api.ErrRange},
		{func(c *api.CtChart) { c.Marks[3].Paints = nil }, api.ErrLong},
		{func(c *api.CtChart) { c.Marks[6].Paints = make([]api.CtPaint, 2) }, api.ErrArg},
		{func(c *api.CtChart) { c.Sands = make([]api.CtSand, 5) }, api.ErrLong},
		{func(c *api.CtChart) { c.Sands[0].Name = c.Marks[1].Name }, api.ErrTwice},
		{func(c *api.CtChart) { c.Sands[0].Moves.X.Lo = 2 }, api.ErrArg},
		{func(c *api.CtChart) { slices.Reverse(c.Sands[0].Corners) }, api.ErrDown},
		{func(c *api.CtChart) { c.Sands = append(c.Sands, api.CtSand{}) }, api.ErrForm},
	} {
		f := full()
		c.change(&f.Chart)
		expectCheck(t, fmt.Sprint("chart ", i), f, 1, 0, c.e)
		f.Day, f.Instruments, f.Areas = -1, nil, make([]api.FxArea, 7)
		expectCheck(t, fmt.Sprint("chart ", i, " and all else"), f, 1, 0, c.e)
	}
}

// P2.1: too many, and too few, of all that is counted.
func TestCheckCounts(t *testing.T) {
	for n := range 20 {
		f := full()
		f.Instruments, f.Areas = nil, nil
		for i := range n {
			f.Instruments = append(f.Instruments, compass(letters("tool", i), 0, 0))
			f.Areas = append(f.Areas, area(0, 0, 0, 0, 0, 0, 1))
		}
		g, h := f, f
		g.Areas, h.Instruments = nil, full().Instruments
		if n >= 1 && n <= 4 {
			expectCheck(t, fmt.Sprint(n, " instruments"), g, 0, 0, api.OK)
		} else {
			expectCheck(t, fmt.Sprint(n, " instruments"), g, 3, 0, api.ErrLong)
		}
		if n <= 6 {
			expectCheck(t, fmt.Sprint(n, " areas"), h, 0, 0, api.OK)
		} else {
			expectCheck(t, fmt.Sprint(n, " areas"), h, 4, 0, api.ErrLong)
		}
	}
	f := full()
	f.Areas = make([]api.FxArea, 1<<16)
	expectCheck(t, "very many areas", f, 4, 0, api.ErrLong)
	f.Instruments = make([]api.FxInstrument, 1<<16)
	expectCheck(t, "very many instruments", f, 3, 0, api.ErrLong)
}

// P2.1, R5: both ends of each range, and numbers far beyond.
func TestCheckRanges(t *testing.T) {
	single := func(s *api.Span) func(int) { return func(n int) { *s = span(n, n) } }
	for i, c := range []struct {
		set      func(f *api.FxFix) func(int)
		lo, hi   int
		part, at int
	}{
		{func(f *api.FxFix) func(int) { return func(n int) { f.Day = n } }, 0, 40000, 2, 0},
		{func(f *api.FxFix) func(int) { return func(n int) { f.Step = n } }, 1, 500, 2, 0},
		{func(f *api.FxFix) func(int) { return func(n int) { f.Half = n } }, 0, 8, 2, 0},
		{func(f *api.FxFix) func(int) { return single(&f.Instruments[0].Off) }, -4, 4, 3, 0},
		{func(f *api.FxFix) func(int) { return single(&f.Instruments[1].Off) }, -4, 4, 3, 1},
		{func(f *api.FxFix) func(int) { return single(&f.Instruments[2].Off) }, -20, 20, 3, 2},
		{func(f *api.FxFix) func(int) { return single(&f.Instruments[3].Off) }, -20, 20, 3, 3},
		{func(f *api.FxFix) func(int) { return single(&f.Areas[0].X) }, -30000, 30000, 4, 0},
		{func(f *api.FxFix) func(int) { return single(&f.Areas[0].Y) }, -30000, 30000, 4, 0},
		{func(f *api.FxFix) func(int) { return single(&f.Areas[0].Depth) }, 0, 1000, 4, 0},
		{func(f *api.FxFix) func(int) { return func(n int) { f.Areas[0].Ground = n } }, 1, 4, 4, 0},
		{func(f *api.FxFix) func(int) { return single(&f.Areas[5].X) }, -30000, 30000, 4, 5},
		{func(f *api.FxFix) func(int) { return single(&f.Areas[5].Y) }, -30000, 30000, 4, 5},
		{func(f *api.FxFix) func(int) { return single(&f.Areas[5].Depth) }, 0, 1000, 4, 5},
		{func(f *api.FxFix) func(int) { return func(n int) { f.Areas[5].Ground = n } }, 1, 4, 4, 5},
	} {
		for _, n := range append([]int{c.lo - 1, c.lo, c.hi, c.hi + 1}, far...) {
			f := full()
			c.set(&f)(n)
			what := fmt.Sprint("field ", i, " ", n)
			if n == c.lo || n == c.hi {
				expectCheck(t, what, f, 0, 0, api.OK)
			} else {
				expectCheck(t, what, f, c.part, c.at, api.ErrRange)
			}
		}
	}
}

// P2.1, R5: spans with one end that is out, whole ranges, and spans whose Lo is above Hi.
func TestCheckSpans(t *testing.T) {
	for i, c := range []struct {
		of       func(f *api.FxFix) *api.Span
		lo, hi   int
		part, at int
	}{
		{func(f *api.FxFix) *api.Span { return &f.Instruments[0].Off }, -4, 4, 3, 0},
		{func(f *api.FxFix) *api.Span { return &f.Instruments[3].Off }, -20, 20, 3, 3},
		{func(f *api.FxFix) *api.Span { return &f.Areas[0].X }, -30000, 30000, 4, 0},
		{func(f *api.FxFix) *api.Span { return &f.Areas[2].Y }, -30000, 30000, 4, 2},
		{func(f *api.FxFix) *api.Span { return &f.Areas[5].Depth }, 0, 1000, 4, 5},
	} {
		expect := func(lo, hi int, e api.Errno) {
			t.Helper()
			f := full()
			*c.of(&f) = span(lo, hi)
			if what := fmt.Sprint("span ", i, " ", lo, " to ", hi); e == api.OK {
				expectCheck(t, what, f, 0, 0, e)
			} else {
				expectCheck(t, what, f, c.part, c.at, e)
			}
		}
		expect(c.lo, c.hi, api.OK)
		expect(c.lo, c.lo+1, api.OK)
		expect(c.hi, c.hi-1, api.ErrArg)
		expect(c.hi, c.lo, api.ErrArg)
		expect(c.lo+1, c.lo, api.ErrArg)
		for _, n := range append([]int{c.lo - 1, c.hi + 1}, far...) {
			expect(n, c.hi, api.ErrRange)
			expect(c.lo, n, api.ErrRange)
			expect(n, c.lo, api.ErrRange)
			expect(c.hi, n, api.ErrRange)
		}
	}
}

// P2.1: names that are none, and names that are there already.
func TestCheckNames(t *testing.T) {
	for _, s := range []string{"", "-", "a-", "-a", "a--b", "A", "card a", "card1", "abcdefghijklmno", "\u0161"} {
		for i := range api.MaxFxInstruments {
			f := full()
			f.Instruments[i].Name = s
			expectCheck(t, fmt.Sprintf("name %q", s), f, 3, i, api.ErrForm)
		}
	}
	for i := range api.MaxFxInstruments {
		for k := range i {
			f := full()
			f.Instruments[i].Name = f.Instruments[k].Name
			expectCheck(t, fmt.Sprint("name twice ", k, " ", i), f, 3, i, api.ErrTwice)
		}
	}
	f := full()
	f.Instruments[0].Name, f.Instruments[3].Name = "abcdefghijklmn", "z"
	expectCheck(t, "a long name and a short one", f, 0, 0, api.OK)
}

// breach is a change to a fix, and what Check returns of it.
type breach struct {
	change   func(f *api.FxFix)
	part, at int
	e        api.Errno
}

// breaches are in the order in which errors come.
func breaches() []breach {
	return []breach{
		{func(f *api.FxFix) { f.Chart.Marks[7].At.X = 1 << 40 }, 1, 0, api.ErrRange},
		{func(f *api.FxFix) { f.Chart.Sands[0].Moves.Y = span(2, 1) }, 1, 0, api.ErrArg},
		{func(f *api.FxFix) { f.Day = -1 }, 2, 0, api.ErrRange},
		{func(f *api.FxFix) { f.Step = 0 }, 2, 0, api.ErrRange},
		{func(f *api.FxFix) { f.Half = 9 }, 2, 0, api.ErrRange},
		{func(f *api.FxFix) { f.Instruments = append(f.Instruments, compass("more", 0, 0)) }, 3, 0, api.ErrLong},
		{func(f *api.FxFix) { f.Instruments[0].Off.Lo, f.Instruments[0].Off.Hi = 3, 2 }, 3, 0, api.ErrArg},
		{func(f *api.FxFix) { f.Instruments[2].Name = "card-" }, 3, 2, api.ErrForm},
		{func(f *api.FxFix) { f.Instruments[3].Name = "card" }, 3, 3, api.ErrTwice},
		{func(f *api.FxFix) { f.Instruments[3].Off.Hi = 21 }, 3, 3, api.ErrRange},
		{func(f *api.FxFix) { f.Areas = append(f.Areas, f.Areas[0]) }, 4, 0, api.ErrLong},
		{func(f *api.FxFix) { f.Areas[1].Y = span(2, 1) }, 4, 1, api.ErrArg},
		{func(f *api.FxFix) { f.Areas[4].Ground = 5 }, 4, 4, api.ErrRange},
		{func(f *api.FxFix) { f.Areas[4].X = span(0, -1) }, 4, 4, api.ErrArg},
		{func(f *api.FxFix) { f.Areas[5].Depth.Lo = -1 }, 4, 5, api.ErrRange},
	}
}

// P2.1, R1: of two errors that one is returned which comes first.
func TestCheckOrder(t *testing.T) {
	l := breaches()
	for i, a := range l {
		f := full()
		a.change(&f)
		expectCheck(t, fmt.Sprint("breach ", i), f, a.part, a.at, a.e)
		for k, b := range l[i+1:] {
			f := full()
			a.change(&f)
			b.change(&f)
			expectCheck(t, fmt.Sprint("breaches ", i, " and ", i+1+k), f, a.part, a.at, a.e)
		}
	}
}

// P2.1, R1: of the errors of one instrument, or area, that one is returned which is named first.
func TestCheckOrderOfOne(t *testing.T) {
	for set := range 16 {
		f := full()
		e := api.OK
		if set&8 != 0 {
			f.Instruments[3].Off, e = span(1, 0), api.ErrArg
		}
		if set&4 != 0 {
			f.Instruments[3].Off, e = span(21, 0), api.ErrRange
		}
		if set&2 != 0 {
			f.Instruments[3].Name, e = f.Instruments[0].Name, api.ErrTwice
		}
		if set&1 != 0 {
			f.Instruments[3].Name, e = "", api.ErrForm
		}
		if set != 0 {
			expectCheck(t, fmt.Sprint("instrument ", set), f, 3, 3, e)
		}
	}
	f := full()
	f.Instruments[1].Name, f.Instruments[3].Name = "-", "-"
	expectCheck(t, "names that are none, twice", f, 3, 1, api.ErrForm)
	f.Instruments[1].Name = "card"
	expectCheck(t, "a name twice, and one that is none", f, 3, 1, api.ErrTwice)
	for i, change := range []func(a *api.FxArea){
		func(a *api.FxArea) { a.Ground = 0 },
		func(a *api.FxArea) { a.Depth.Hi = 1001 },
		func(a *api.FxArea) { a.Y.Lo = 30001 },
		func(a *api.FxArea) { a.X.Hi = -30001 },
	} {
		for k, arg := range []func(a *api.FxArea){
			func(a *api.FxArea) { a.X = span(2, 1) },
			func(a *api.FxArea) { a.Y = span(2, 1) },
			func(a *api.FxArea) { a.Depth = span(2, 1) },
		} {
			f := full()
			arg(&f.Areas[3])
			expectCheck(t, fmt.Sprint("area ", k), f, 4, 3, api.ErrArg)
			change(&f.Areas[3])
			expectCheck(t, fmt.Sprint("area ", i, " ", k), f, 4, 3, api.ErrRange)
		}
	}
}

// P2.2: sights without an error, and too many.
func TestCheckSightsGood(t *testing.T) {
	f := full()
	for n := range 20 {
		l := slices.Repeat(sights(bear(3, 31, 1)), n)
		if n <= 8 {
			expectSights(t, fmt.Sprint(n, " sights"), f, l, 0, api.OK)
			continue
		}
		expectSights(t, fmt.Sprint(n, " sights"), f, l, 0, api.ErrLong)
		l[0].Instrument, l[2].Shown = -1, -1
		expectSights(t, fmt.Sprint(n, " sights with an error"), f, l, 0, api.ErrLong)
	}
	expectSights(t, "very many", f, make([]api.FxSight, 1<<16), 0, api.ErrLong)
	expectSights(t, "empty", f, []api.FxSight{}, 0, api.OK)
	expectSights(t, "one of each end", f, sights(bear(0, 0, 0), bear(7, 31, 1), sound(0, 0, 2), sound(1000, 4, 3), sound(0, 4, 3), sound(1000, 0, 2)), 0, api.OK)
	expectSights(t, "a lead, and no marks", plain(1, 0, nil, lead("line", 0, 0)), sights(sound(5, 1, 0)), 0, api.OK)
	expectSights(t, "a compass, and no marks", plain(1, 0, nil, compass("card", 0, 0)), sights(bear(0, 0, 0)), 0, api.ErrNone)
}

// P2.2, R5: numbers of a sight that are out, at each index.
func TestCheckSightsRanges(t *testing.T) {
	f := full()
	good := sights(bear(0, 0, 0), sound(0, 0, 2), bear(7, 31, 1), sound(1000, 4, 3), bear(1, 8, 0), sound(5, 0, 2), bear(2, 0, 1), bear(4, 4, 0))
	expectSights(t, "good", f, good, 0, api.OK)
	for at := range good {
		put := func(s api.FxSight, e api.Errno) {
			t.Helper()
			l := slices.Clone(good)
			l[at] = s
			expectSights(t, fmt.Sprint(s, " at ", at), f, l, at, e)
			for k := at + 1; k < len(l); k++ {
				l[k] = api.FxSight{Instrument: 9}
			}
			expectSights(t, fmt.Sprint(s, " at ", at, ", and more"), f, l, at, e)
		}
		for _, n := range append([]int{-1, 4, 5}, far...) {
			put(api.FxSight{Instrument: n}, api.ErrNone)
		}
		for _, n := range append([]int{-1, 8, 9}, far...) {
			put(bear(n, 0, 0), api.ErrNone)
			put(api.FxSight{Instrument: 2, Mark: n}, api.ErrArg)
		}
		for _, n := range append([]int{-1, 32, 33}, far...) {
			put(bear(0, n, 1), api.ErrRange)
		}
		for _, n := range append([]int{-1, 1001}, far...) {
			put(sound(n, 0, 2), api.ErrRange)
		}
		for _, n := range append([]int{-1, 5}, far...) {
			put(sound(0, n, 3), api.ErrRange)
		}
		for _, n := range append([]int{-1, 1, 4, 5}, far...) {
			put(api.FxSight{Instrument: 1, Mark: 3, Shown: 7, Ground: n}, api.ErrRange)
		}
		put(api.FxSight{Instrument: 3, Mark: 1}, api.ErrArg)
	}
}

// P2.2, R1: of the errors of one sight that one is returned which is named first.
func TestCheckSightsOrder(t *testing.T) {
	f := full()
	f.Chart.Marks[5] = mark("gone", point(0, 0), 0, 1, 7, 0)
	f.Chart.Marks[6] = mark("later", point(0, 0), 8, 1)
	for i, c := range []struct {
		s api.FxSight
		e api.Errno
	}{
		{api.FxSight{Instrument: 4, Mark: 8, Shown: -1, Ground: 5}, api.ErrNone},
		{api.FxSight{Instrument: 0, Mark: 8, Shown: -1, Ground: 5}, api.ErrNone},
		{api.FxSight{Instrument: 0, Mark: 5, Shown: -1, Ground: 5}, api.ErrDown},
		{api.FxSight{Instrument: 1, Mark: 6, Shown: 32}, api.ErrDown},
		{api.FxSight{Instrument: 1, Mark: 6, Shown: 31}, api.ErrDown},
		{api.FxSight{Instrument: 1, Mark: 4, Shown: 32, Ground: 1}, api.ErrRange},
		{api.FxSight{Instrument: 2, Mark: 5, Shown: 1001}, api.ErrRange},
		{api.FxSight{Instrument: 2, Mark: 99, Ground: 5}, api.ErrRange},
		{api.FxSight{Instrument: 2, Mark: 99}, api.ErrArg},
		{api.FxSight{Instrument: 2, Mark: 5, Shown: 9}, api.ErrArg},
	} {
		expectSights(t, fmt.Sprint("sight ", i), f, sights(c.s), 0, c.e)
		expectSights(t, fmt.Sprint("sight ", i, " behind a good one"), f, sights(bear(0, 0, 0), c.s, api.FxSight{Instrument: -1}), 1, c.e)
	}
}

// P2.2: a mark stands from the day of a paint on, and is gone likewise.
func TestCheckSightsStands(t *testing.T) {
	m := mark("church", point(9, 9), 3, api.CtWhite, 6, api.CtGone, 9, api.CtStriped)
	for day := range 12 {
		f := plain(1, 0, []api.CtMark{m}, compass("card", 0, 0))
		f.Day = day
		if e := api.ErrDown; day < 3 || day >= 6 && day < 9 {
			expectSights(t, fmt.Sprint("day ", day), f, sights(bear(0, 8, 0)), 0, e)
		} else {
			expectSights(t, fmt.Sprint("day ", day), f, sights(bear(0, 8, 0)), 0, api.OK)
		}
	}
}
