package fix_test

import (
	"fmt"
	"slices"
	"testing"

	"nore/api"
	"nore/fix"
)

// expectAsk tells if Ask does not return this.
func expectAsk(t *testing.T, what string, f api.FxFix, l []api.FxSight, mark, instrument, left int, e api.Errno) {
	t.Helper()
	if a, b, c, g := fix.Ask(f, l); a != mark || b != instrument || c != left || g != e {
		t.Errorf("%s: Ask with %v = %d, %d, %d, %d; it should be %d, %d, %d, %d", what, l, a, b, c, g, mark, instrument, left, e)
	}
}

// P2.6: the example.
func TestAskExample(t *testing.T) {
	expectAsk(t, "A", example(), sights(sightA), 1, 0, 1, api.OK)
}

// P2.6, R1: each error, and which comes first.
func TestAskErrors(t *testing.T) {
	f := example()
	wrong := bear(1, 8, 0)
	gone := example()
	gone.Chart.Marks[0].Paints[0].Day, gone.Chart.Marks[1].Paints[0].Colour = 6, api.CtGone
	leads := plain(1, 1, f.Chart.Marks, lead("a", 0, 0), lead("b", 0, 0))
	leads.Areas = []api.FxArea{area(-1, 1, -1, 1, 5, 5, 1)}
	none := plain(1, 1, nil, compass("card", 0, 0))
	for n := range 9 {
		long, e := api.OK, api.ErrDown
		if n == 8 {
			long, e = api.ErrLong, api.ErrLong
		}
		if _, _, _, g := fix.Ask(f, slices.Repeat(sights(sightA), n)); g != long {
			t.Errorf("Ask with %d sights = %d", n, g)
		}
		if n > 0 {
			expectAsk(t, fmt.Sprint(n, " sights, no place"), f, slices.Repeat(sights(wrong), n), 0, 0, 0, e)
			expectAsk(t, fmt.Sprint(n, " sights, no place, no compass"), leads, slices.Repeat(sights(sound(6, 0, 0)), n), 0, 0, 0, e)
		}
		none, down := api.ErrNone, api.ErrDown
		if n == 8 {
			none, down = api.ErrLong, api.ErrLong
		}
		expectAsk(t, fmt.Sprint(n, " sights, no compass"), leads, slices.Repeat(sights(sound(5, 0, 0)), n), 0, 0, 0, none)
		l := slices.Repeat(sights(sound(96, 0, 1)), n)
		expectAsk(t, fmt.Sprint(n, " sights, no mark stands"), gone, l, 0, 0, 0, none)
		if n > 0 {
			l[n-1] = sound(0, 0, 1)
			expectAsk(t, fmt.Sprint(n, " sights, no place, no mark stands"), gone, l, 0, 0, 0, down)
		}
	}
	expectAsk(t, "no marks", none, nil, 0, 0, 0, api.ErrNone)
}

// P2.6: seven sights are not too many.
func TestAskSeven(t *testing.T) {
	expectAsk(t, "A seven times", example(), slices.Repeat(sights(sightA), 7), 1, 0, 1, api.OK)
}

// P2.6: of several the lower mark, and then the lower instrument; leads and marks that are gone are left out.
func TestAskFirst(t *testing.T) {
	marks := []api.CtMark{mark("a", point(900, 0)), mark("b", point(900, 0)), mark("c", point(-900, 0))}
	f := plain(1, 0, marks, lead("line", 0, 0), compass("card", 0, 0), compass("old", 0, 0))
	expectAsk(t, "all leave one", f, nil, 0, 1, 1, api.OK)
	f.Chart.Marks[0].Paints[0].Colour = api.CtGone
	expectAsk(t, "one is gone", f, nil, 1, 1, 1, api.OK)
	f.Chart.Marks[1].Paints[0].Day = 1
	expectAsk(t, "two are not there", f, nil, 2, 1, 1, api.OK)
	f.Chart.Marks[2].Paints[0].Colour = api.CtGone
	expectAsk(t, "none is there", f, nil, 0, 0, 0, api.ErrNone)
	// From three places in a row all see the mark east in one point, and north in three; mid is just at one of them.
	row := plain(100, 1, []api.CtMark{mark("east", point(300, 0)), mark("north", point(0, 400)), mark("mid", point(0, 0))}, compass("wide", -2, 2), compass("card", 0, 0))
	line := sights(bear(0, 8, 1))
	expectPlaces(t, "a row", row, line, points(-100, 0, 0, 0, 100, 0))
	expectAsk(t, "the lower mark by the higher compass, not the higher mark by the lower one", row, line, 1, 1, 1, api.OK)
	row.Instruments[0].Off = span(0, 0)
	expectAsk(t, "the lower compass", row, line, 1, 0, 1, api.OK)
	row.Chart.Marks[1].Paints[0].Colour = api.CtGone
	expectAsk(t, "the mark at one of them", row, line, 2, 0, 1, api.OK)
	row.Chart.Marks = row.Chart.Marks[:1]
	expectAsk(t, "just east", row, line, 0, 0, 3, api.OK)
}

// P2.6: what an instrument can still be off by counts, and not its whole Off.
func TestAskKnown(t *testing.T) {
	f := plain(100, 1, []api.CtMark{mark("east", point(9000, 0)), mark("north", point(0, 500))}, compass("wide", -4, 4), compass("card", -1, 1))
	l := sights(bear(0, 8, 0))
	o := oracleOf(f)
	known, by := o.left(l, 1, 0), o.left(l, 1, 1)
	if known >= by {
		t.Fatalf("the bearing by wide leaves %d, that by card %d", known, by)
	}
	expectAsk(t, "by the compass that is known", f, l, 1, 0, known, api.OK)
}

// P2.6: a bearing of a mark that is just there leaves no place.
func TestAskNothing(t *testing.T) {
	f := plain(100, 0, []api.CtMark{mark("east", point(9000, 0)), mark("here", point(0, 0))}, compass("card", -4, 4))
	expectAsk(t, "here", f, nil, 1, 0, 0, api.OK)
	expectAsk(t, "here", f, sights(bear(0, 9, 0)), 1, 0, 0, api.OK)
}

// P2.6: fixes and sights at random, held against the definition.
func TestAskAtRandom(t *testing.T) {
	d := newDice(6)
	for i := range 300 {
		f := d.fix(2, 4, 8)
		l := d.sights(f, 8, 10*(i%3))
		mark, instrument, left, e := oracleOf(f).ask(l)
		expectAsk(t, fmt.Sprint("random ", i), f, l, mark, instrument, left, e)
	}
}
