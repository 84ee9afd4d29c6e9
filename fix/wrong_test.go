package fix_test

import (
	"fmt"
	"slices"
	"testing"

	"nore/api"
	"nore/fix"
)

// expectWrong tells if Wrong does not return these marks and instruments.
func expectWrong(t *testing.T, what string, f api.FxFix, l []api.FxSight, marks, instruments []int) {
	t.Helper()
	if a, b, e := fix.Wrong(f, l); !slices.Equal(a, marks) || !slices.Equal(b, instruments) || e != api.OK {
		t.Errorf("%s: Wrong of %v = %v, %v, %d; it should be %v, %v", what, l, a, b, e, marks, instruments)
	}
}

// round is a fix of one place, with marks to the north, east, south and west.
func round(instruments ...api.FxInstrument) api.FxFix {
	f := plain(1, 0, []api.CtMark{mark("north", point(0, 100)), mark("east", point(100, 0)), mark("south", point(0, -100)), mark("west", point(-100, 0))}, instruments...)
	f.Areas = []api.FxArea{area(0, 0, 0, 0, 50, 60, 2)}
	return f
}

// P2.5: the example, and sights with which nothing is wrong.
func TestWrongExample(t *testing.T) {
	f := example()
	expectWrong(t, "the example", f, sights(sightA, bear(1, 8, 0), sightD), []int{1}, nil)
	expectWrong(t, "no sights", f, nil, nil, nil)
	expectWrong(t, "A, B", f, sights(sightA, sightB), nil, nil)
	expectWrong(t, "A, D", f, sights(sightA, sightD), nil, nil)
}

// P2.5: of several answers the first one, by the list of marks and then instruments.
func TestWrongFirst(t *testing.T) {
	card, old := compass("card", 0, 0), compass("old", 0, 0)
	f := round(card, old)
	for i, c := range []struct {
		l                  []api.FxSight
		marks, instruments []int
	}{
		{sights(bear(3, 0, 1)), []int{3}, nil},
		{sights(bear(0, 1, 0), bear(0, 2, 1)), []int{0}, nil},
		{sights(bear(2, 1, 0), bear(1, 2, 0)), nil, []int{0}},
		{sights(bear(2, 1, 1), bear(1, 2, 1)), nil, []int{1}},
		{sights(bear(2, 1, 0), bear(1, 2, 1)), []int{1, 2}, nil},
		{sights(bear(2, 1, 0), bear(1, 2, 1), bear(2, 1, 1)), []int{1, 2}, nil},
		{sights(bear(0, 1, 0), bear(1, 1, 0), bear(2, 1, 1)), []int{2}, []int{0}},
		{sights(bear(0, 1, 0), bear(1, 1, 0), bear(2, 1, 1), bear(3, 1, 1)), nil, []int{0, 1}},
		{sights(bear(3, 1, 0), bear(1, 1, 0), bear(2, 1, 0), bear(3, 1, 1)), []int{3}, []int{0}},
		{sights(bear(0, 0, 0), bear(1, 8, 0), bear(2, 16, 1), bear(3, 24, 1)), nil, nil},
		{sights(bear(3, 24, 0), bear(3, 25, 0)), []int{3}, nil},
	} {
		expectWrong(t, fmt.Sprint("first ", i), f, c.l, c.marks, c.instruments)
	}
	wide := round(compass("card", 0, 1))
	expectWrong(t, "either mark", wide, sights(bear(3, 24, 0), bear(1, 9, 0)), []int{1}, nil)
	expectWrong(t, "the one of three", wide, sights(bear(3, 24, 0), bear(1, 9, 0), bear(0, 1, 0)), []int{3}, nil)
	expectWrong(t, "two and two", wide, sights(bear(3, 24, 0), bear(1, 9, 0), bear(0, 1, 0), bear(2, 16, 0)), nil, []int{0})
}

// P2.5: a sounding is by a lead, and of no mark.
func TestWrongLead(t *testing.T) {
	f := round(compass("card", 0, 0), lead("line", 0, 0), lead("pole", 0, 1))
	expectWrong(t, "too deep", f, sights(sound(61, 0, 1)), nil, []int{1})
	expectWrong(t, "another ground", f, sights(sound(55, 1, 2)), nil, []int{2})
	expectWrong(t, "the same lead twice", f, sights(sound(50, 1, 2), sound(62, 0, 2)), nil, []int{2})
	expectWrong(t, "both leads", f, sights(sound(49, 0, 2), sound(62, 0, 1)), nil, []int{1, 2})
	expectWrong(t, "and a bearing of the mark 0", f, sights(sound(61, 0, 1), bear(0, 1, 0)), []int{0}, []int{1})
	expectWrong(t, "and a true bearing of it", f, sights(sound(61, 0, 1), bear(0, 0, 0)), nil, []int{1})
	expectWrong(t, "without marks", plain(1, 0, nil, lead("line", 0, 0)), sights(sound(5, 0, 0)), nil, nil)
	f.Chart.Marks = nil
	expectWrong(t, "indices without marks", f, sights(sound(61, 0, 1)), nil, []int{1})
}

// P2.5: the mark just is at the only place; all instruments are wrong.
func TestWrongAll(t *testing.T) {
	f := round(compass("card", -4, 4))
	f.Chart.Marks[2].At = point(0, 0)
	expectWrong(t, "a mark that is here", f, sights(bear(2, 9, 0)), []int{2}, nil)
	f = round(compass("a", 0, 0), compass("b", 0, 0), compass("c", 0, 0), compass("d", 0, 0))
	l := sights(bear(0, 1, 0), bear(1, 1, 0), bear(1, 1, 1), bear(2, 1, 1), bear(2, 1, 2), bear(3, 1, 2), bear(3, 1, 3), bear(0, 1, 3))
	expectWrong(t, "four marks, or four compasses", f, l, []int{0, 1, 2, 3}, nil)
	more := full()
	more.Instruments = f.Instruments
	more.Half = 0
	l = nil
	for i := range 8 {
		p := 0
		for p = range 32 {
			if a, b := mustWrong(t, more, sights(bear(i, p, i/2))); len(a)+len(b) > 0 {
				break
			}
		}
		l = append(l, bear(i, p, i/2))
	}
	expectWrong(t, "all instruments", more, l, nil, []int{0, 1, 2, 3})
}

// P2.5: marks that do not stand, and instruments without sights, are never wrong.
func TestWrongUnused(t *testing.T) {
	f := round(compass("a", 0, 0), compass("b", 0, 0))
	f.Chart.Marks[0].Paints[0].Colour = api.CtGone
	expectWrong(t, "a mark that is gone", f, sights(bear(2, 1, 1)), []int{2}, nil)
	expectWrong(t, "a compass without sights", f, sights(bear(2, 1, 1), bear(3, 1, 1)), nil, []int{1})
}

// P2.5: fixes and sights at random, held against the definition.
func TestWrongAtRandom(t *testing.T) {
	d := newDice(5)
	for i := range 1500 {
		f := d.fix(1, 4, 2)
		l := d.sights(f, 8, []int{0, 20, 60, 100}[i%4])
		a, b := oracleOf(f).wrong(l)
		expectWrong(t, fmt.Sprint("random ", i), f, l, a, b)
	}
}
