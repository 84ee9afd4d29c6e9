package store_test

import (
	"fmt"
	"slices"
	"testing"

	"nore/api"
	"nore/store"
)

// expectCheck tells if Check does not return this, and if with an error the other functions do not return it too, whatever else is asked, and nothing besides.
func expectCheck(t *testing.T, what string, s api.SrStores, part, at int, e api.Errno) {
	t.Helper()
	if p, i, g := store.Check(s); p != part || i != at || g != e {
		t.Errorf("%s: Check = %d, %d, %d; it should be %d, %d, %d", what, p, i, g, part, at, e)
	}
	if e == api.OK {
		expectWrong(t, what, s, nil, nil, api.OK)
		expectMornings(t, what, s, len(s.Kinds), api.SrTruth{}, 0, nil, 0, api.ErrNone)
		expectError(t, what, s, nil, len(s.Kinds), api.ErrNone)
		return
	}
	for _, kind := range []int{0, -1, far[0]} {
		expectMornings(t, what, s, kind, truth(-1, 0, 0), -1, nil, 0, e)
		expectMornings(t, what, s, kind, truth(0, 0, 0), 0, nil, 0, e)
		for _, l := range [][]api.SrCount{nil, make([]api.SrCount, 9), counts(count(99, 9, 2, 1)), counts(count(0, 0, 600, 600))} {
			expectError(t, what, s, l, kind, e, -1, 31)
			expectWrong(t, what, s, l, nil, e)
		}
	}
}

// P8.1: stores without an error.
func TestCheckGood(t *testing.T) {
	for what, s := range map[string]api.SrStores{
		"S":                   exampleS(),
		"full":                full(),
		"plain":               plain(1, 0, 0),
		"as little as can be": {Men: []int{0}, Kinds: []api.SrKind{{Name: "a"}}},
	} {
		expectCheck(t, what, s, 0, 0, api.OK)
	}
	s := full()
	s.Kinds[0].Name, s.Kinds[1].Name, s.Kinds[2].Name = "abcdefghijklmn", "a", "a-b"
	expectCheck(t, "names", s, 0, 0, api.OK)
	s = exampleS()
	s.Cargos = slices.Repeat([]api.SrCargo{cargo(4, oil, 300)}, 8)
	expectCheck(t, "the same cargo again and again", s, 0, 0, api.OK)
	s.Cargos = []api.SrCargo{cargo(4, oil, 0), cargo(1, water, 1), cargo(3, oil, 2)}
	expectCheck(t, "cargos in any order", s, 0, 0, api.OK)
	s.Kinds[oil].Room = 0
	expectCheck(t, "no room for what is there at first", s, 0, 0, api.OK)
}

// P8.1: too many, and too few, of all that is counted.
func TestCheckCounts(t *testing.T) {
	for _, n := range []int{0, 1, 2, 3, 4, 5, 7, 8, 9, 10, 26, 29, 30, 31, 32, 1 << 16} {
		expect := func(what string, s api.SrStores, good bool) {
			t.Helper()
			if good {
				expectCheck(t, fmt.Sprint(n, what), s, 0, 0, api.OK)
			} else {
				expectCheck(t, fmt.Sprint(n, what), s, 1, 0, api.ErrLong)
			}
		}
		s := exampleS()
		s.Men, s.Cargos = make([]int, n), nil
		expect(" days", s, n >= 1 && n <= 30)
		s = exampleS()
		s.Cargos, s.Kinds = nil, make([]api.SrKind, n)
		for i := range min(n, 26) {
			s.Kinds[i].Name = letter(i)
		}
		expect(" kinds", s, n >= 1 && n <= 4)
		s = exampleS()
		s.Cargos = make([]api.SrCargo, n)
		expect(" cargos", s, n <= 8)
	}
}

// number is a number of stores, its range, and the part and the index in it that have the error if it is not in range.
type number struct {
	at       func(s *api.SrStores) *int
	lo, hi   int
	part, in int
}

// numbers are all numbers of full stores that have a range, of the first and the last of each.
func numbers() (l []number) {
	for _, day := range []int{0, 29} {
		l = append(l, number{func(s *api.SrStores) *int { return &s.Men[day] }, 0, 12, 1, day})
	}
	for _, i := range []int{0, 3} {
		l = append(l,
			number{func(s *api.SrStores) *int { return &s.Kinds[i].First.Hi }, 0, 300, 2, i},
			number{func(s *api.SrStores) *int { return &s.Kinds[i].First.Lo }, 0, 300, 2, i},
			number{func(s *api.SrStores) *int { return &s.Kinds[i].Man.Hi }, 0, 6, 2, i},
			number{func(s *api.SrStores) *int { return &s.Kinds[i].Man.Lo }, 0, 6, 2, i},
			number{func(s *api.SrStores) *int { return &s.Kinds[i].Ship.Hi }, 0, 12, 2, i},
			number{func(s *api.SrStores) *int { return &s.Kinds[i].Ship.Lo }, 0, 12, 2, i},
			number{func(s *api.SrStores) *int { return &s.Kinds[i].Room }, 0, 300, 2, i},
			number{func(s *api.SrStores) *int { return &s.Kinds[i].Ration }, 0, 1000, 2, i})
	}
	for _, i := range []int{0, 7} {
		l = append(l,
			number{func(s *api.SrStores) *int { return &s.Cargos[i].Day }, 0, 29, 3, i},
			number{func(s *api.SrStores) *int { return &s.Cargos[i].Amount }, 0, 300, 3, i})
	}
	return l
}

// P8.1, R5: both ends of each range, and numbers far beyond.
func TestCheckRanges(t *testing.T) {
	for i, f := range numbers() {
		for _, n := range []int{f.lo, f.lo + 1, f.hi - 1, f.hi} {
			s := full()
			*f.at(&s) = n
			expectCheck(t, fmt.Sprint("number ", i, " ", n), s, 0, 0, api.OK)
		}
		for _, n := range append([]int{f.lo - 1, f.hi + 1}, far...) {
			s := full()
			*f.at(&s) = n
			expectCheck(t, fmt.Sprint("number ", i, " ", n), s, f.part, f.in, api.ErrRange)
		}
	}
	for _, n := range append([]int{-1, 4}, far...) {
		for _, i := range []int{0, 7} {
			s := full()
			s.Cargos[i].Kind = n
			expectCheck(t, fmt.Sprint("cargo of the kind ", n), s, 3, i, api.ErrNone)
		}
	}
}

// P8.1: the range of a cargo's day and kind is that of the days and kinds that there are.
func TestCheckCargos(t *testing.T) {
	for days := 1; days <= 30; days++ {
		s := plain(days, 0, 0)
		s.Cargos = []api.SrCargo{cargo(days-1, 0, 1)}
		expectCheck(t, fmt.Sprint("on the last of the days ", days), s, 0, 0, api.OK)
		s.Cargos[0].Day = days
		expectCheck(t, fmt.Sprint("on the end of the days ", days), s, 3, 0, api.ErrRange)
	}
	for kinds := 1; kinds <= 4; kinds++ {
		s := full()
		s.Kinds = s.Kinds[:kinds]
		s.Cargos = []api.SrCargo{cargo(0, kinds-1, 1)}
		expectCheck(t, fmt.Sprint("of the last of the kinds ", kinds), s, 0, 0, api.OK)
		s.Cargos[0].Kind = kinds
		expectCheck(t, fmt.Sprint("of none of the kinds ", kinds), s, 3, 0, api.ErrNone)
	}
}

// P8.1: names that are none, and names that are there already.
func TestCheckNames(t *testing.T) {
	for _, name := range []string{"", "-", "a-", "-a", "a--b", "A", "old oil", "oil1", "abcdefghijklmno", "\u0161"} {
		for i := range api.MaxSrKinds {
			s := full()
			s.Kinds[i].Name = name
			expectCheck(t, fmt.Sprintf("name %q", name), s, 2, i, api.ErrForm)
			s.Kinds[i].Room, s.Kinds[i].First = -1, span(2, 1)
			expectCheck(t, fmt.Sprintf("name %q, and no numbers", name), s, 2, i, api.ErrForm)
		}
	}
	s := full()
	s.Kinds[0].Name, s.Kinds[1].Name = "", ""
	expectCheck(t, "the same name, which is none", s, 2, 0, api.ErrForm)
	for i := range api.MaxSrKinds {
		for k := range i {
			s := full()
			s.Kinds[i].Name = s.Kinds[k].Name
			expectCheck(t, fmt.Sprint("name twice ", k, " ", i), s, 2, i, api.ErrTwice)
			s.Kinds[i].Room, s.Kinds[i].First = -1, span(2, 1)
			expectCheck(t, fmt.Sprint("name twice ", k, " ", i, ", and no numbers"), s, 2, i, api.ErrTwice)
		}
	}
}

// P8.1: spans whose Lo is above Hi; numbers that are not in range come first.
func TestCheckSpans(t *testing.T) {
	for i := range api.MaxSrKinds {
		for what, of := range map[string]func(k *api.SrKind) *api.Span{
			"First": func(k *api.SrKind) *api.Span { return &k.First },
			"Man":   func(k *api.SrKind) *api.Span { return &k.Man },
			"Ship":  func(k *api.SrKind) *api.Span { return &k.Ship },
		} {
			s := full()
			*of(&s.Kinds[i]) = span(5, 5)
			expectCheck(t, what+" of one number", s, 0, 0, api.OK)
			*of(&s.Kinds[i]) = span(5, 4)
			expectCheck(t, what+" of none", s, 2, i, api.ErrArg)
			*of(&s.Kinds[i]) = span(5, -1)
			expectCheck(t, what+" below 0", s, 2, i, api.ErrRange)
			*of(&s.Kinds[i]) = span(301, 4)
			expectCheck(t, what+" from above", s, 2, i, api.ErrRange)
			*of(&s.Kinds[i]) = span(5, 4)
			s.Kinds[i].Ration = 1001
			expectCheck(t, what+" of none, and a Ration", s, 2, i, api.ErrRange)
			s.Kinds[i].Ration, s.Kinds[i].Room = 0, -1
			expectCheck(t, what+" of none, and a Room", s, 2, i, api.ErrRange)
		}
	}
}

// R1: of two errors the one that is named first is returned.
func TestCheckOrder(t *testing.T) {
	changes := []struct {
		change   func(s *api.SrStores)
		part, at int
		e        api.Errno
	}{
		{func(s *api.SrStores) { s.Men = append(s.Men, -1) }, 1, 0, api.ErrLong},
		{func(s *api.SrStores) { s.Kinds = append(s.Kinds, api.SrKind{}) }, 1, 0, api.ErrLong},
		{func(s *api.SrStores) { s.Cargos = append(s.Cargos, cargo(0, 9, 0)) }, 1, 0, api.ErrLong},
		{func(s *api.SrStores) { s.Men[0] = 13 }, 1, 0, api.ErrRange},
		{func(s *api.SrStores) { s.Men[29] = -1 }, 1, 29, api.ErrRange},
		{func(s *api.SrStores) { s.Kinds[0].Man = span(3, 2) }, 2, 0, api.ErrArg},
		{func(s *api.SrStores) { s.Kinds[1].First.Hi = 301 }, 2, 1, api.ErrRange},
		{func(s *api.SrStores) { s.Kinds[2].Name = s.Kinds[0].Name }, 2, 2, api.ErrTwice},
		{func(s *api.SrStores) { s.Kinds[3].Name = "-" }, 2, 3, api.ErrForm},
		{func(s *api.SrStores) { s.Cargos[0].Day = 30 }, 3, 0, api.ErrRange},
		{func(s *api.SrStores) { s.Cargos[1].Amount = -1 }, 3, 1, api.ErrRange},
		{func(s *api.SrStores) { s.Cargos[2].Kind, s.Cargos[2].Day = 4, 30 }, 3, 2, api.ErrNone},
		{func(s *api.SrStores) { s.Cargos[7].Kind, s.Cargos[7].Amount = -1, 301 }, 3, 7, api.ErrNone},
	}
	for i, f := range changes {
		for _, g := range changes[i:] {
			s := full()
			g.change(&s)
			f.change(&s)
			expectCheck(t, fmt.Sprint("change ", i), s, f.part, f.at, f.e)
		}
	}
}

// expectCountError tells if a function with counts does not return this error, which is not OK, whatever else is asked, or returns anything besides.
func expectCountError(t *testing.T, what string, s api.SrStores, l []api.SrCount, e api.Errno) {
	t.Helper()
	for _, kind := range []int{0, len(s.Kinds) - 1, len(s.Kinds), -1} {
		expectError(t, what, s, l, kind, e, -1, 31)
	}
	expectWrong(t, what, s, l, nil, e)
}

// The error of the counts: as many as can be, and more; the first one with an error decides.
func TestCountErrors(t *testing.T) {
	wide := count(0, 0, 0, 600)
	for n := range 9 {
		expectWrong(t, fmt.Sprint(n, " counts"), exampleS(), slices.Repeat(counts(wide), n), nil, api.OK)
		expectLevel(t, fmt.Sprint(n, " counts"), exampleS(), slices.Repeat(counts(wide), n), oil, 0, span(40, 50), api.OK)
	}
	for _, n := range []int{9, 10, 1 << 16} {
		expectCountError(t, fmt.Sprint(n, " counts"), exampleS(), make([]api.SrCount, n), api.ErrLong)
		expectCountError(t, fmt.Sprint(n, " counts of no kind"), exampleS(), slices.Repeat(counts(count(9, 9, 2, 1)), n), api.ErrLong)
	}
	for i, f := range []struct {
		l []api.SrCount
		e api.Errno
	}{
		{counts(count(0, 2, 0, 0)), api.ErrNone},
		{counts(count(0, -1, 0, 0)), api.ErrNone},
		{counts(count(6, 2, 2, 601)), api.ErrNone},
		{counts(count(6, 0, 0, 0)), api.ErrRange},
		{counts(count(-1, 0, 0, 0)), api.ErrRange},
		{counts(count(0, 0, -1, 0)), api.ErrRange},
		{counts(count(0, 0, 0, 601)), api.ErrRange},
		{counts(count(0, 0, 601, 600)), api.ErrRange},
		{counts(count(0, 0, 0, -1)), api.ErrRange},
		{counts(count(6, 0, 2, 1)), api.ErrRange},
		{counts(count(0, 0, 2, 1)), api.ErrArg},
		{counts(count(5, 1, 600, 599)), api.ErrArg},
		{counts(wide, count(0, 0, 2, 1), count(6, 0, 0, 0), count(0, 2, 0, 0)), api.ErrArg},
		{counts(wide, count(6, 0, 0, 0), count(0, 2, 0, 0), count(0, 0, 2, 1)), api.ErrRange},
		{counts(wide, wide, count(0, 2, 0, 0), count(6, 0, 0, 0)), api.ErrNone},
		{counts(wide, wide, wide, wide, wide, wide, wide, count(0, 1, 1, 0)), api.ErrArg},
		{counts(count(0, 0, 600, 600), count(0, 0, 2, 1)), api.ErrArg},
	} {
		expectCountError(t, fmt.Sprint("counts ", i), exampleS(), f.l, f.e)
	}
	for _, n := range far {
		expectCountError(t, fmt.Sprint("kind ", n), exampleS(), counts(count(0, n, 0, 0)), api.ErrNone)
		expectCountError(t, fmt.Sprint("day ", n), exampleS(), counts(count(n, 0, 0, 0)), api.ErrRange)
		expectCountError(t, fmt.Sprint("from ", n), exampleS(), counts(count(0, 0, n, 600)), api.ErrRange)
		expectCountError(t, fmt.Sprint("to ", n), exampleS(), counts(count(0, 0, 0, n)), api.ErrRange)
	}
	for days := 1; days <= 30; days++ {
		s := plain(days, 7, 0)
		expectLevel(t, fmt.Sprint("at the end of ", days), s, counts(count(days, 0, 7, 7)), 0, days, span(7, 7), api.OK)
		expectCountError(t, fmt.Sprint("behind the end of ", days), s, counts(count(days+1, 0, 7, 7)), api.ErrRange)
	}
}

// The errors of kinds and days come in their order: first the kind, then the day, then that there are no truths.
func TestKindAndDayErrors(t *testing.T) {
	s := exampleS()
	none := counts(count(0, oil, 51, 600)) // there are no truths of oil
	for _, l := range [][]api.SrCount{nil, counts(exampleC()), none} {
		for _, kind := range append([]int{-1, 2, 3, 4}, far...) {
			expectError(t, fmt.Sprint("kind ", kind), s, l, kind, api.ErrNone, -1, 5, 6, far[0])
			expectMornings(t, fmt.Sprint("kind ", kind), s, kind, truth(-1, 0, 0), 6, nil, 0, api.ErrNone)
			expectMornings(t, fmt.Sprint("kind ", kind), s, kind, truth(40, 0, 8), 5, nil, 0, api.ErrNone)
		}
		for _, day := range append([]int{-1, 6}, far...) {
			expectLevel(t, "no day", s, l, oil, day, api.Span{}, api.ErrRange)
			expectCargo(t, "no day", s, l, oil, day, 0, api.ErrRange)
		}
		expectCargo(t, "the end", s, l, oil, 5, 0, api.ErrRange)
	}
	expectError(t, "no truths", s, none, oil, api.ErrDown, 1, 2, 3, 4)
	expectLevel(t, "no truths", s, none, oil, 5, api.Span{}, api.ErrDown)
	expectLevel(t, "no truths of another kind", s, none, water, 5, span(1, 24), api.OK)
	expectLasts(t, "no truths of another kind", s, none, water, 5, api.OK)
}

// P8.2, R5: numbers of a truth that are not from their spans, and days that are none.
func TestMorningsErrors(t *testing.T) {
	s := exampleS()
	for _, f := range []struct {
		t    api.SrTruth
		from int
		e    api.Errno
	}{
		{truth(30, 2, 0), 0, api.OK},
		{truth(40, 3, 0), 5, api.OK},
		{truth(29, 2, 0), 0, api.ErrRange},
		{truth(41, 2, 0), 0, api.ErrRange},
		{truth(30, 1, 0), 0, api.ErrRange},
		{truth(30, 4, 0), 0, api.ErrRange},
		{truth(30, 2, -1), 0, api.ErrRange},
		{truth(30, 2, 1), 0, api.ErrRange},
		{truth(30, 2, 0), -1, api.ErrRange},
		{truth(30, 2, 0), 6, api.ErrRange},
	} {
		if f.e != api.OK {
			expectMornings(t, fmt.Sprint(f.t, " from ", f.from), s, water, f.t, f.from, nil, 0, f.e)
		} else if _, _, e := store.Mornings(s, water, f.t, f.from); e != api.OK {
			t.Errorf("Mornings of %v from %d has the error %d", f.t, f.from, e)
		}
	}
	for _, n := range far {
		expectMornings(t, "far", s, water, truth(n, 2, 0), 0, nil, 0, api.ErrRange)
		expectMornings(t, "far", s, water, truth(30, n, 0), 0, nil, 0, api.ErrRange)
		expectMornings(t, "far", s, water, truth(30, 2, n), 0, nil, 0, api.ErrRange)
		expectMornings(t, "far", s, water, truth(30, 2, 0), n, nil, 0, api.ErrRange)
	}
}
