package store_test

import (
	"fmt"
	"testing"

	"nore/api"
	"nore/store"
)

// P8.3: the chapter's examples.
func TestLevelExamples(t *testing.T) {
	s, c := exampleS(), counts(exampleC())
	expectLevel(t, "oil", s, nil, oil, 2, span(20, 34), api.OK)
	expectLevel(t, "oil with C", s, c, oil, 2, span(25, 28), api.OK)
	expectLevel(t, "oil with C", s, c, oil, 0, span(41, 48), api.OK)
	expectLasts(t, "oil", s, nil, oil, 4, api.OK)
	expectLasts(t, "oil with C", s, c, oil, 4, api.OK)
	expectLasts(t, "water", s, nil, water, 5, api.OK)
}

// P8.4: the chapter's examples.
func TestShortExamples(t *testing.T) {
	s := exampleS()
	expectShort(t, "oil", s, nil, oil, truth(40, 0, 9), 4, api.OK)
	expectShort(t, "oil with C", s, counts(exampleC()), oil, truth(43, 0, 9), 4, api.OK)
	expectShort(t, "water", s, nil, water, api.SrTruth{}, 0, api.ErrNone)
}

// P8.5: the chapter's examples.
func TestCargoExamples(t *testing.T) {
	s := exampleS()
	expectCargo(t, "oil", s, nil, oil, 3, 10, api.OK)
	expectCargo(t, "oil with C", s, counts(exampleC()), oil, 3, 5, api.OK)
}

// P8.6: the chapter's examples.
func TestRationExamples(t *testing.T) {
	expectRation(t, "water", exampleS(), nil, water, 5, api.OK)
	expectRation(t, "water, 23 at first", withFirst(23, 23), nil, water, 3, api.OK)
}

// P8.7: the chapter's example.
func TestWrongExamples(t *testing.T) {
	expectWrong(t, "C and another one", exampleS(), counts(exampleC(), count(2, oil, 0, 24)), []int{0}, api.OK)
}

// P8.3: a count of the first morning, or of the end, tells of all days; both ends of its span agree.
func TestLevelByCounts(t *testing.T) {
	s := exampleS()
	for _, f := range []struct {
		l    []api.SrCount
		day  int
		want api.Span
	}{
		{nil, 0, span(40, 50)},
		{nil, 5, span(0, 10)},
		{counts(count(0, oil, 45, 45)), 0, span(45, 45)},
		{counts(count(0, oil, 45, 45)), 1, span(35, 37)},
		{counts(count(0, oil, 0, 40)), 5, span(0, 0)},
		{counts(count(0, oil, 50, 600)), 5, span(0, 10)},
		{counts(count(5, oil, 10, 600)), 0, span(50, 50)},
		{counts(count(5, oil, 9, 10)), 0, span(49, 50)},
		{counts(count(5, oil, 0, 0)), 0, span(40, 50)},
		{counts(count(5, oil, 1, 1)), 0, span(41, 46)},
		{counts(count(0, oil, 41, 49), count(0, oil, 45, 60)), 0, span(45, 49)},
		{counts(count(0, water, 40, 40)), 0, span(40, 50)},
		{counts(count(1, oil, 33, 35), count(2, oil, 25, 25), count(3, oil, 16, 16)), 0, span(43, 43)},
	} {
		expectLevel(t, fmt.Sprint(f.l), s, f.l, oil, f.day, f.want, api.OK)
	}
	expectError(t, "one below", s, counts(count(0, oil, 0, 39)), oil, api.ErrDown)
	expectError(t, "one above", s, counts(count(0, oil, 51, 600)), oil, api.ErrDown)
	expectError(t, "one above in the end", s, counts(count(5, oil, 11, 600)), oil, api.ErrDown)
	expectError(t, "one of two", s, counts(count(0, oil, 40, 44), count(0, oil, 45, 50)), oil, api.ErrDown)
	// 41 at first, and 31 or 32 behind a day: 33 would be left of 8 only.
	expectError(t, "together with no use", s, counts(count(0, oil, 40, 40), count(1, oil, 33, 33)), oil, api.ErrDown)
}

// P8.3: levels between which no truth has any are told by their ends, and truths that differ in use alone are among them.
func TestLevelWithGaps(t *testing.T) {
	s := plain(3, 300, 0)
	s.Men, s.Kinds[0].Man = []int{12, 12, 12}, span(0, 6)
	expectLevel(t, "all", s, nil, 0, 3, span(84, 300), api.OK)
	expectLevel(t, "without both ends", s, counts(count(1, 0, 230, 299)), 0, 3, span(120, 264), api.OK)
	expectError(t, "in a gap", s, counts(count(1, 0, 229, 239)), 0, api.ErrDown)
}

// P8.3, P8.4: of several truths Short returns the first one: the lower First, then the lower Man, then the lower Ship.
func TestShortIsFirst(t *testing.T) {
	s := plain(2, 0, 0)
	s.Men = []int{1, 1}
	s.Kinds[0].First, s.Kinds[0].Man, s.Kinds[0].Ship = span(3, 6), span(1, 3), span(1, 3)
	expectShort(t, "the first day", s, nil, 0, truth(3, 1, 3), 0, api.OK)
	expectLasts(t, "the first day", s, nil, 0, 0, api.OK)
	expectShort(t, "another one", s, counts(count(0, 0, 4, 6)), 0, truth(4, 2, 3), 0, api.OK)
	expectShort(t, "just one is left", s, counts(count(1, 0, 1, 1)), 0, truth(3, 1, 1), 1, api.OK)
	expectShort(t, "none is left with 3", s, counts(count(0, 0, 6, 6), count(1, 0, 1, 9)), 0, truth(6, 1, 3), 1, api.OK)
	s.Men = []int{1, 10}
	s.Kinds[0].First, s.Kinds[0].Man, s.Kinds[0].Ship = span(0, 20), span(0, 1), span(0, 6)
	expectShort(t, "a lower First, though a higher Man", s, counts(count(1, 0, 4, 4)), 0, truth(5, 1, 0), 1, api.OK)
	expectShort(t, "a lower First, though a higher Man", s, counts(count(1, 0, 4, 4), count(0, 0, 9, 20)), 0, truth(9, 0, 5), 1, api.OK)
	s = plain(2, 4, 5)
	expectShort(t, "on the day 0", s, nil, 0, truth(4, 0, 5), 0, api.OK)
	s = plain(30, 290, 10)
	expectShort(t, "on the last day", s, nil, 0, truth(290, 0, 10), 29, api.OK)
	expectLasts(t, "on the last day", s, nil, 0, 29, api.OK)
	s = plain(30, 300, 10)
	expectShort(t, "not at all", s, nil, 0, api.SrTruth{}, 0, api.ErrNone)
	expectLasts(t, "not at all", s, nil, 0, 30, api.OK)
	s = plain(30, 300, 10)
	s.Kinds[0].First = span(0, 300)
	expectShort(t, "with nothing", s, nil, 0, truth(0, 0, 10), 0, api.OK)
}

// P8.5: a cargo has to come in time, and there has to be room; the counts still tell what was there without it.
func TestCargoInTime(t *testing.T) {
	s := plain(5, 10, 4)
	for day, want := range []int{10, 10, 10} {
		expectCargo(t, "in time", s, nil, 0, day, want, api.OK)
	}
	for day := 3; day < 5; day++ {
		expectCargo(t, "too late", s, nil, 0, day, 0, api.ErrDown)
	}
	for room, days := range map[int][]int{9: {}, 11: {}, 12: {2}, 15: {2}, 16: {1, 2}, 19: {1, 2}, 20: {0, 1, 2}} {
		s.Kinds[0].Room = room
		for day := range 5 {
			want, e := 0, api.ErrDown
			for _, d := range days {
				if d == day {
					want, e = 10, api.OK
				}
			}
			expectCargo(t, fmt.Sprint("room for ", room), s, nil, 0, day, want, e)
		}
	}
	s = plain(5, 10, 4)
	expectCargo(t, "counts without it", s, counts(count(3, 0, 0, 0), count(5, 0, 0, 0)), 0, 2, 10, api.OK)
	s.Cargos = []api.SrCargo{cargo(2, 0, 3)}
	expectCargo(t, "besides another one", s, nil, 0, 2, 7, api.OK)
	s.Cargos = []api.SrCargo{cargo(2, 0, 10)}
	expectCargo(t, "none is needed", s, nil, 0, 2, 0, api.OK)
	expectCargo(t, "none is needed on the last day", s, nil, 0, 4, 0, api.OK)
	s = plain(1, 5, 12)
	expectCargo(t, "on the only day", s, nil, 0, 0, 7, api.OK)
	s = plain(28, 36, 12)
	expectCargo(t, "as much as can be", s, nil, 0, 3, 300, api.OK)
	s.Men = make([]int, 29)
	expectCargo(t, "more than can be", s, nil, 0, 3, 0, api.ErrDown)
	s.Cargos = []api.SrCargo{cargo(3, 0, 1)}
	expectCargo(t, "more than room", s, nil, 0, 3, 0, api.ErrDown)
}

// P8.5: the truth that needs the greatest cargo need not be that of Short.
func TestCargoOfAllTruths(t *testing.T) {
	s := plain(4, 20, 0)
	s.Men = []int{5, 0, 0, 0}
	s.Kinds[0].Man, s.Kinds[0].Ship = span(0, 4), span(0, 6)
	expectShort(t, "19 are missing then", s, nil, 0, truth(20, 3, 6), 0, api.OK)
	expectCargo(t, "24 can be missing", s, nil, 0, 0, 24, api.OK)
	expectCargo(t, "too late for some", s, nil, 0, 1, 0, api.ErrDown)
	in := counts(count(1, 0, 2, 2)) // just 18 were used
	expectShort(t, "short later", s, in, 0, truth(20, 3, 3), 1, api.OK)
	expectCargo(t, "later", s, in, 0, 1, 7, api.OK)
}

// P8.6: rations from the end, from all days, and from none.
func TestRationDays(t *testing.T) {
	s := plain(4, 0, 0)
	s.Men, s.Kinds[0].Man, s.Kinds[0].Ration = []int{4, 4, 4, 4}, span(5, 5), 300 // 20, or 6, are used on a day
	for first, want := range map[int]int{300: 4, 80: 4, 79: 3, 66: 3, 65: 2, 52: 2, 51: 1, 38: 1, 37: 0, 24: 0} {
		s.Kinds[0].First = span(first, first)
		expectRation(t, fmt.Sprint(first, " at first"), s, nil, 0, want, api.OK)
		s.Kinds[0].First = span(first, 300)
		expectRation(t, fmt.Sprint(first, " at first, or more"), s, nil, 0, want, api.OK)
	}
	for _, first := range []int{23, 5, 0} {
		s.Kinds[0].First = span(first, 300)
		expectRation(t, fmt.Sprint(first, " at first"), s, nil, 0, 0, api.ErrDown)
	}
	s.Kinds[0].First = span(0, 300)
	expectRation(t, "by a count without rations", s, counts(count(4, 0, 0, 0), count(3, 0, 5, 15)), 0, 2, api.OK)
	s.Kinds[0].Ration = 1000
	s.Kinds[0].First = span(79, 79)
	expectRation(t, "rations that spare nothing", s, nil, 0, 0, api.ErrDown)
	s.Kinds[0].First = span(80, 80)
	expectRation(t, "nor are they needed", s, nil, 0, 4, api.OK)
	s.Kinds[0].Ration, s.Kinds[0].Man, s.Kinds[0].Ship = 0, span(6, 6), span(1, 1)
	expectRation(t, "none for the men", s, nil, 0, 3, api.OK)
	s.Kinds[0].First = span(4, 4)
	expectRation(t, "none for the men on any day", s, nil, 0, 0, api.OK)
	s.Kinds[0].First = span(3, 3)
	expectRation(t, "too little for the ship", s, nil, 0, 0, api.ErrDown)
}

// P8.3 to P8.6: random stores and counts, held against the definitions truth by truth.
func TestCountsOfRandomStores(t *testing.T) {
	d := newDice(2)
	down, lasting, shorter, cargos, noCargo, rations, noRations := 0, 0, 0, 0, 0, 0, 0
	for i := range 1600 {
		s, l := d.someCase(i)
		what := fmt.Sprint(s, l)
		kind, end := d.IntN(len(s.Kinds)), len(s.Men)
		truths := truthsOf(s, l, kind)
		if len(truths) == 0 {
			down++
			expectError(t, what, s, l, kind, api.ErrDown)
			continue
		}
		for day := range end + 1 {
			expectLevel(t, what, s, l, kind, day, levelOf(s, truths, kind, day), api.OK)
		}
		lasts := lastsOf(s, truths, kind, end)
		expectLasts(t, what, s, l, kind, lasts, api.OK)
		day := d.IntN(end)
		if lasts == end {
			lasting++
			expectShort(t, what, s, l, kind, api.SrTruth{}, 0, api.ErrNone)
			expectCargo(t, what, s, l, kind, day, 0, api.OK)
			expectRation(t, what, s, l, kind, end, api.OK)
			continue
		}
		shorter++
		x, on := shortOf(s, truths, kind)
		expectShort(t, what, s, l, kind, x, on, api.OK)
		if d.IntN(4) > 0 {
			day = d.from(0, lasts)
		}
		if n := cargoOf(s, truths, kind, day); n >= 0 {
			cargos++
			expectCargo(t, what, s, l, kind, day, n, api.OK)
		} else {
			noCargo++
			expectCargo(t, what, s, l, kind, day, 0, api.ErrDown)
		}
		if n := rationOf(s, truths, kind); n >= 0 {
			rations++
			expectRation(t, what, s, l, kind, n, api.OK)
		} else {
			noRations++
			expectRation(t, what, s, l, kind, 0, api.ErrDown)
		}
	}
	if down < 50 || lasting < 100 || shorter < 400 || cargos < 100 || noCargo < 100 || rations < 40 || noRations < 100 {
		t.Errorf("so often there were no truths: %d, it lasts: %d, it does not: %d, a cargo does: %d, none: %d, rations do: %d, none: %d", down, lasting, shorter, cargos, noCargo, rations, noRations)
	}
}

// P8.7: counts that agree with each other, but not with what can be; counts of which one, or another one, can be wrong; counts of several kinds.
func TestWrongLists(t *testing.T) {
	s := exampleS()
	for i, f := range []struct {
		l    []api.SrCount
		want []int
	}{
		{nil, nil},
		{counts(count(0, oil, 0, 600)), nil},
		{counts(count(0, oil, 50, 50), count(5, oil, 10, 10)), nil},
		{counts(count(0, oil, 0, 39)), []int{0}},
		{counts(count(0, oil, 0, 39), count(0, oil, 0, 39)), []int{0, 1}},
		{counts(count(0, oil, 40, 40), count(0, oil, 41, 41)), []int{0}},
		{counts(count(0, oil, 40, 40), count(0, oil, 41, 41), count(0, oil, 40, 45)), []int{0}},
		{counts(count(0, oil, 40, 40), count(0, oil, 41, 41), count(1, oil, 30, 30)), []int{1}},
		{counts(count(0, water, 30, 30), count(0, oil, 40, 40), count(0, water, 31, 31), count(0, oil, 41, 41)), []int{0, 1}},
		{counts(count(0, oil, 40, 40), count(0, oil, 41, 41), count(0, water, 29, 29), count(0, oil, 41, 42)), []int{0, 2}},
		{counts(count(0, oil, 40, 41), count(0, oil, 41, 42), count(0, oil, 42, 43), count(0, oil, 43, 44)), []int{0, 1}},
		{counts(count(0, oil, 42, 43), count(0, oil, 41, 42), count(0, oil, 40, 41), count(0, oil, 43, 44)), []int{0, 3}},
		{counts(count(0, oil, 40, 40), count(0, oil, 41, 41), count(0, oil, 42, 42), count(0, oil, 43, 43), count(0, oil, 44, 44), count(0, oil, 45, 45), count(0, oil, 46, 46), count(0, oil, 47, 47)), []int{0, 1, 2, 3, 4, 5, 6}},
		{counts(count(0, oil, 0, 9), count(5, water, 99, 99), count(3, oil, 60, 60), count(0, water, 0, 1), count(0, oil, 0, 9), count(5, water, 99, 99), count(3, oil, 60, 60), count(0, water, 0, 1)), []int{0, 1, 2, 3, 4, 5, 6, 7}},
	} {
		expectWrong(t, fmt.Sprint("list ", i), s, f.l, f.want, api.OK)
	}
}

// P8.7: random stores and counts, held against all lists of counts.
func TestWrongOfRandomStores(t *testing.T) {
	d := newDice(3)
	var lengths [9]int
	several := 0
	for i := range 1200 {
		s := d.someStores(4 + i%4)
		l := append(d.someCounts(s, 4), d.someCounts(s, 4)...)
		want := wrongOf(s, l)
		expectWrong(t, fmt.Sprint(s, l), s, l, want, api.OK)
		lengths[len(want)]++
		kinds := map[int]bool{}
		for _, w := range want {
			kinds[l[w].Kind] = true
		}
		if len(kinds) > 1 {
			several++
		}
		if _, e := store.Wrong(s, without(l, want)); e != api.OK || !allTrue(s, without(l, want)) {
			t.Fatalf("Wrong of %v, %v = %v, which is not enough", s, l, want)
		}
	}
	if lengths[0] < 200 || lengths[1] < 200 || lengths[2] < 80 || lengths[3] < 20 || lengths[4] < 5 || several < 40 {
		t.Errorf("so often so many were wrong: %v; of several kinds: %d", lengths, several)
	}
}
