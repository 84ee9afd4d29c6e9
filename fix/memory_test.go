package fix_test

import (
	"slices"
	"sync"
	"testing"

	"nore/api"
	"nore/fix"
)

// answers are what all functions return, as one list of numbers.
func answers(f api.FxFix, l []api.FxSight, at api.Point) (r []int) {
	part, i, e := fix.Check(f)
	r = append(r, part, i, int(e))
	i, e = fix.CheckSights(f, l)
	r = append(r, i, int(e))
	offs, e := fix.Offs(f, l, at)
	for _, s := range offs {
		r = append(r, s.Lo, s.Hi)
	}
	r = append(r, int(e))
	places, e := fix.Places(f, l)
	for _, p := range places {
		r = append(r, p.X, p.Y)
	}
	r = append(r, int(e))
	b, e := fix.Where(f, l)
	r = append(r, b.X.Lo, b.X.Hi, b.Y.Lo, b.Y.Hi, int(e))
	marks, instruments, e := fix.Wrong(f, l)
	r = append(append(append(append(r, marks...), -1), instruments...), int(e))
	mark, instrument, left, e := fix.Ask(f, l)
	return append(r, mark, instrument, left, int(e))
}

// These are put into the memory behind the ends of lists.
var (
	behindPaint      = api.CtPaint{Day: 9999, Colour: 4}
	behindInstrument = lead("behind", 1, 2)
	behindArea       = area(1, 2, 3, 4, 5, 6, 4)
	behindSight      = bear(7, 7, 7)
)

// roomy is a fix whose lists have more memory behind their ends.
func roomy(f api.FxFix) api.FxFix {
	f = clone(f)
	for i := range f.Chart.Marks {
		f.Chart.Marks[i].Paints = withRoom(f.Chart.Marks[i].Paints, behindPaint)
	}
	f.Chart.Marks = withRoom(f.Chart.Marks, mark("behind", point(9, 9)))
	f.Instruments = withRoom(f.Instruments, behindInstrument)
	f.Areas = withRoom(f.Areas, behindArea)
	return f
}

// withRoom is a list with something in the memory behind its end.
func withRoom[T any](l []T, behind T) []T { return append(slices.Clip(l), behind)[:len(l)] }

// behind is what is in the memory behind the end of a list.
func behind[T any](l []T) T { return l[:len(l)+1][len(l)] }

// P2.15, R4: no argument is changed, nor the memory behind its ends.
func TestArgumentsAreKept(t *testing.T) {
	d := newDice(15)
	for i := range 300 {
		f := roomy(d.fix(2, 4, 4))
		l, at := withRoom(d.sights(f, 7, 20), behindSight), d.place(f)
		switch i % 5 {
		case 1:
			f.Instruments[0].Off = span(4, -4)
		case 2:
			l = withRoom(append(l, api.FxSight{Shown: -1}), behindSight)
		}
		before, sight := clone(f), slices.Clone(l)
		answers(f, l, at)
		if !same(f, before) || !slices.Equal(l, sight) {
			t.Fatalf("%v, %v were changed to %v, %v", before, sight, f, l)
		}
		kept := behind(f.Chart.Marks).Name == "behind" && behind(f.Instruments) == behindInstrument && behind(f.Areas) == behindArea && behind(l) == behindSight
		for _, m := range f.Chart.Marks {
			kept = kept && behind(m.Paints) == behindPaint
		}
		if !kept {
			t.Fatalf("the memory behind the ends of %v, %v was changed", f, l)
		}
	}
}

// P2.15, R4: results are new memory, and share none with each other.
func TestResultsAreNew(t *testing.T) {
	f := round(compass("card", 0, 1), lead("line", -2, 2), compass("old", 0, 0))
	l := sights(bear(0, 20, 0), bear(1, 20, 2), bear(2, 3, 2), sound(90, 0, 1))
	before := answers(f, l, point(0, 0))
	marks, instruments := mustWrong(t, f, l)
	if len(marks) == 0 || len(instruments) == 0 {
		t.Fatalf("Wrong = %v, %v", marks, instruments)
	}
	kept := slices.Clone(instruments)
	marks = append(marks, 7, 7, 7, 7)
	for i := range marks {
		marks[i] = 9
	}
	if !slices.Equal(instruments, kept) {
		t.Errorf("both lists of Wrong share memory")
	}
	for i := range instruments {
		instruments[i] = 9
	}
	if after := answers(f, l, point(0, 0)); !slices.Equal(before, after) {
		t.Errorf("behind a change of what Wrong returned: %v; it was %v", after, before)
	}
	before = answers(f, nil, point(0, 0))
	places := mustPlaces(t, f, nil)
	places[0] = point(7, 7)
	offs, _ := fix.Offs(f, nil, point(0, 0))
	for i := range offs {
		offs[i] = span(8, 8)
	}
	if after := answers(f, nil, point(0, 0)); !slices.Equal(before, after) {
		t.Errorf("behind a change of what Places and Offs returned: %v; it was %v", after, before)
	}
	if f.Instruments[0].Off != span(0, 1) || f.Instruments[1].Off != span(-2, 2) {
		t.Errorf("behind a change of what Offs returned the instruments are %v", f.Instruments)
	}
}

// R4, P11: nothing is kept between calls, whatever was asked before, or is asked at the same time; the same call has the same result.
func TestNothingIsKept(t *testing.T) {
	d := newDice(16)
	type asked struct {
		f       api.FxFix
		l       []api.FxSight
		at      api.Point
		numbers []int
	}
	var l []asked
	for range 60 {
		f := d.fix(2, 4, 4)
		f.Step = 100
		a := asked{f: f, l: d.sights(f, 8, 20), at: d.place(f)}
		a.numbers = answers(a.f, a.l, a.at)
		l = append(l, a)
	}
	var all sync.WaitGroup
	for k := range 4 {
		all.Go(func() {
			for i := range l {
				a := l[(i*7+k*11)%len(l)]
				if n := answers(a.f, a.l, a.at); !slices.Equal(n, a.numbers) {
					t.Errorf("%v with %v: %v; it was %v", a.f, a.l, n, a.numbers)
				}
			}
		})
	}
	all.Wait()
}

// P1, P2.15, R5: any arguments are accepted.
func TestAnyArguments(t *testing.T) {
	numbers := append([]int{-1, 0, 1, 4, 20, 31, 500, 1000, 30000}, far...)
	for _, n := range numbers {
		for _, m := range numbers {
			wild := []api.FxFix{{}, example(), full()}
			f := full()
			f.Day, f.Step, f.Half = n, m, n
			wild = append(wild, f)
			f = full()
			f.Instruments[0].Off, f.Instruments[2].Off = span(n, m), span(m, n)
			wild = append(wild, f)
			f = full()
			f.Areas[0] = area(n, m, m, n, n, m, n)
			wild = append(wild, f)
			f = full()
			f.Chart.Marks[0].At, f.Chart.Marks[1].Paints = point(n, m), []api.CtPaint{{Day: n, Colour: m}}
			wild = append(wild, f)
			for _, f := range wild {
				fix.Check(f)
				for _, s := range []api.FxSight{{Instrument: n, Mark: m}, {Mark: n, Shown: m}, {Shown: n, Ground: m}, {Instrument: 2, Shown: n, Ground: m}, {Instrument: 2, Mark: n, Shown: m}} {
					fix.CheckSights(f, sights(s))
				}
			}
			answers(full(), sights(bear(0, n, 0)), point(n, m))
		}
	}
	for _, f := range []api.FxFix{{}, {Instruments: make([]api.FxInstrument, 3)}, {Areas: make([]api.FxArea, 3)}, {Chart: api.CtChart{Marks: make([]api.CtMark, 3)}}} {
		answers(f, nil, point(0, 0))
		answers(f, make([]api.FxSight, 3), point(0, 0))
	}
}
