package tender_test

import (
	"fmt"
	"slices"
	"testing"

	"nore/api"
	"nore/tender"
)

// expectCheck tells if Check does not return this, and if with an error the other functions do not return it too, whatever else is asked, and nothing besides.
func expectCheck(t *testing.T, what string, s api.TeSeason, part, at int, e api.Errno) {
	t.Helper()
	if p, i, g := tender.Check(s); p != part || i != at || g != e {
		t.Errorf("%s: Check = %d, %d, %d; it should be %d, %d, %d", what, p, i, g, part, at, e)
	}
	if e == api.OK {
		expectPlan(t, what, s, nil, 0, api.OK)
		expectError(t, what, s, orders(order(s.Days, 0)), api.ErrRange)
		return
	}
	for _, p := range [][]api.TeOrder{nil, make([]api.TeOrder, 9), orders(order(0, 0)), orders(order(0, 0), order(99, 9))} {
		expectPlan(t, what, s, p, 0, e)
		expectError(t, what, s, p, e)
	}
	expectFewest(t, what, s, nil, e)
	expectMust(t, what, s, nil, e)
}

// P9.1: seasons without an error.
func TestCheckGood(t *testing.T) {
	for what, s := range map[string]api.TeSeason{
		"S":                   exampleS(),
		"T":                   exampleT(),
		"U":                   exampleU(),
		"full":                full(),
		"lone":                lone(1, 1, 0),
		"as little as can be": {Days: 1, Needs: []api.TeNeed{{Name: "a", Full: 1, Weight: 1}}, Load: 1, Row: 1},
	} {
		expectCheck(t, what, s, 0, 0, api.OK)
	}
	s := full()
	s.Needs[0].Name, s.Needs[1].Name, s.Needs[2].Name = "abcdefghijklmn", "a", "a-b"
	expectCheck(t, "names", s, 0, 0, api.OK)
	s = exampleS()
	s.Needs[oil].Weight, s.Needs[men].Weight = 30, 6
	expectCheck(t, "needs that are heavier than a Load", s, 0, 0, api.OK)
	s = exampleS()
	s.Needs[oil].Full = 60
	expectCheck(t, "a Full above Days", s, 0, 0, api.OK)
	s.Possible = []int{0, 19}
	expectCheck(t, "the first and the last day", s, 0, 0, api.OK)
}

// P9.1: too many, and too few, of all that is counted.
func TestCheckCounts(t *testing.T) {
	for _, n := range []int{0, 1, 2, 3, 4, 5, 6, 7, 8, 9, 26, 1 << 16} {
		s := exampleS()
		s.Needs = make([]api.TeNeed, n)
		for i := range min(n, 26) {
			s.Needs[i] = api.TeNeed{Name: letter(i), Full: 1, Weight: 1}
		}
		if n >= 1 && n <= 3 {
			expectCheck(t, fmt.Sprint(n, " needs"), s, 0, 0, api.OK)
		} else {
			expectCheck(t, fmt.Sprint(n, " needs"), s, 2, 0, api.ErrLong)
		}
		s = exampleS()
		s.Possible = make([]int, n)
		for i := range n {
			s.Possible[i] = i
		}
		if n <= 6 {
			expectCheck(t, fmt.Sprint(n, " possible days"), s, 0, 0, api.OK)
			continue
		}
		expectCheck(t, fmt.Sprint(n, " possible days"), s, 3, 0, api.ErrLong)
		s.Possible = make([]int, n)
		expectCheck(t, fmt.Sprint(n, " times the same day"), s, 3, 0, api.ErrLong)
		s.Possible[0] = -1
		expectCheck(t, fmt.Sprint(n, " days, one of them none"), s, 3, 0, api.ErrLong)
	}
}

// number is a number of a season, its range, and the part and the index in it that have the error if it is not in range.
type number struct {
	at       func(s *api.TeSeason) *int
	lo, hi   int
	part, in int
}

// numbers are all numbers of a full season that have a range for themselves, of the first and the last of each.
func numbers() []number {
	l := []number{
		{func(s *api.TeSeason) *int { return &s.Load }, 1, 30, 1, 0},
		{func(s *api.TeSeason) *int { return &s.Fail }, 0, 8, 1, 0},
		{func(s *api.TeSeason) *int { return &s.Row }, 1, 8, 1, 0},
	}
	for _, i := range []int{0, 2} {
		l = append(l,
			number{func(s *api.TeSeason) *int { return &s.Needs[i].First }, 0, 60, 2, i},
			number{func(s *api.TeSeason) *int { return &s.Needs[i].Weight }, 1, 30, 2, i})
	}
	return l
}

// P9.1, R5: both ends of each range, and numbers far beyond.
func TestCheckRanges(t *testing.T) {
	for i, f := range numbers() {
		for _, n := range []int{f.lo, f.lo + 1, f.hi - 1, f.hi} {
			s := full()
			*f.at(&s) = n
			expectCheck(t, fmt.Sprint("number ", i, " ", n), s, 0, 0, api.OK)
		}
		for _, n := range append([]int{f.lo - 1, f.hi + 1}, far...) {
			s := full()
			*f.at(&s) = n
			expectCheck(t, fmt.Sprint("number ", i, " ", n), s, f.part, f.in, api.ErrRange)
		}
	}
	for _, n := range append([]int{-1, 0, 1, 2, 59, 60, 61}, far...) {
		s := full()
		s.Days, s.Possible = n, nil
		if n >= 1 && n <= 60 {
			expectCheck(t, fmt.Sprint("days ", n), s, 0, 0, api.OK)
		} else {
			expectCheck(t, fmt.Sprint("days ", n), s, 1, 0, api.ErrRange)
		}
		for i := range s.Needs {
			s := full()
			s.Needs[i].Full, s.Needs[i].First = n, 0
			if n >= 1 && n <= 60 {
				expectCheck(t, fmt.Sprint("full ", n), s, 0, 0, api.OK)
				s.Needs[i].First = n
				expectCheck(t, fmt.Sprint("full at first ", n), s, 0, 0, api.OK)
				s.Needs[i].First = n + 1
			}
			expectCheck(t, fmt.Sprint("full, or more at first ", n), s, 2, i, api.ErrRange)
		}
	}
}

// P9.1: days that are none, and days that are not above the one before.
func TestCheckPossible(t *testing.T) {
	for days := 1; days <= 60; days++ {
		s := lone(days, 1, 1)
		s.Possible = []int{days - 1}
		expectCheck(t, fmt.Sprint("the last of the days ", days), s, 0, 0, api.OK)
		s.Possible[0] = days
		expectCheck(t, fmt.Sprint("behind the days ", days), s, 3, 0, api.ErrRange)
	}
	for i := range 6 {
		for _, n := range append([]int{-1, 60}, far...) {
			s := full()
			s.Possible[i] = n
			expectCheck(t, fmt.Sprint("possible ", n), s, 3, i, api.ErrRange)
		}
		if i == 0 {
			continue
		}
		s := full()
		for day := range s.Possible[i-1] + 1 {
			s.Possible[i] = day
			expectCheck(t, fmt.Sprint("not above: ", day), s, 3, i, api.ErrArg)
		}
	}
	for i, f := range []struct {
		possible []int
		at       int
		e        api.Errno
	}{
		{[]int{5, 3, 20}, 1, api.ErrArg},
		{[]int{5, 20, 3}, 1, api.ErrRange},
		{[]int{5, -1}, 1, api.ErrRange},
		{[]int{0, 0, -1}, 1, api.ErrArg},
	} {
		s := exampleS()
		s.Possible = f.possible
		expectCheck(t, fmt.Sprint("possible days ", i), s, 3, f.at, f.e)
	}
}

// P9.1: names that are none, and names that are there already.
func TestCheckNames(t *testing.T) {
	for _, name := range []string{"", "-", "a-", "-a", "a--b", "A", "lamp oil", "oil1", "abcdefghijklmno", "\u0161"} {
		for i := range api.MaxTeNeeds {
			s := full()
			s.Needs[i].Name = name
			expectCheck(t, fmt.Sprintf("name %q", name), s, 2, i, api.ErrForm)
			s.Needs[i].Full = 0
			expectCheck(t, fmt.Sprintf("name %q, and a number", name), s, 2, i, api.ErrForm)
		}
	}
	s := full()
	s.Needs[0].Name, s.Needs[1].Name = "", ""
	expectCheck(t, "the same name, which is none", s, 2, 0, api.ErrForm)
	for i := range api.MaxTeNeeds {
		for k := range i {
			s := full()
			s.Needs[i].Name = s.Needs[k].Name
			expectCheck(t, fmt.Sprint("name twice ", k, " ", i), s, 2, i, api.ErrTwice)
			s.Needs[i].Weight = 0
			expectCheck(t, fmt.Sprint("name twice ", k, " ", i, ", and a number"), s, 2, i, api.ErrTwice)
		}
	}
}

// R1: of two errors the one that is named first is returned.
func TestCheckOrder(t *testing.T) {
	changes := []struct {
		change   func(s *api.TeSeason)
		part, at int
		e        api.Errno
	}{
		{func(s *api.TeSeason) { s.Days = 0 }, 1, 0, api.ErrRange},
		{func(s *api.TeSeason) { s.Row = 0 }, 1, 0, api.ErrRange},
		{func(s *api.TeSeason) { s.Needs = append(s.Needs, api.TeNeed{}) }, 2, 0, api.ErrLong},
		{func(s *api.TeSeason) { s.Needs[0].Weight = 31 }, 2, 0, api.ErrRange},
		{func(s *api.TeSeason) { s.Needs[1].Name = "-" }, 2, 1, api.ErrForm},
		{func(s *api.TeSeason) { s.Needs[2].Name = s.Needs[0].Name }, 2, 2, api.ErrTwice},
		{func(s *api.TeSeason) { s.Possible = append(s.Possible, 99) }, 3, 0, api.ErrLong},
		{func(s *api.TeSeason) { s.Possible[0] = -1 }, 3, 0, api.ErrRange},
		{func(s *api.TeSeason) { s.Possible[2] = s.Possible[1] }, 3, 2, api.ErrArg},
		{func(s *api.TeSeason) { s.Possible[5] = 60 }, 3, 5, api.ErrRange},
	}
	for i, f := range changes {
		for k, g := range changes[i:] {
			s := full()
			g.change(&s)
			f.change(&s)
			expectCheck(t, fmt.Sprint("changes ", i, " and ", i+k), s, f.part, f.at, f.e)
		}
	}
}

// expectPlanError tells if Plan does not return this, or a function with a plan does not return this error, which is not OK, or anything besides.
func expectPlanError(t *testing.T, what string, s api.TeSeason, p []api.TeOrder, at int, e api.Errno) {
	t.Helper()
	expectPlan(t, what, s, p, at, e)
	expectError(t, what, s, p, e)
}

// P9.1: plans without an error.
func TestPlanGood(t *testing.T) {
	s := exampleS()
	for what, p := range map[string][]api.TeOrder{
		"none":              nil,
		"P":                 exampleP(),
		"Q":                 exampleQ(),
		"R":                 exampleR(),
		"as many as can be": both(0, 1, 2, 3, 4, 5, 18, 19),
		"not full":          orders(order(0, men), order(1, oil)),
		"not on possible":   both(4, 6),
	} {
		expectPlan(t, what, s, p, 0, api.OK)
	}
	expectPlan(t, "full", full(), fullPlan(), 0, api.OK)
}

// P9.1: what is wrong with a plan, and in which order.
func TestPlanErrors(t *testing.T) {
	s := exampleS()
	for _, n := range []int{9, 10, 1 << 16} {
		expectPlanError(t, fmt.Sprint(n, " orders"), s, make([]api.TeOrder, n), 0, api.ErrLong)
		expectPlanError(t, fmt.Sprint(n, " orders on no day"), s, slices.Repeat(orders(order(-1)), n), 0, api.ErrLong)
	}
	for i, f := range []struct {
		p  []api.TeOrder
		at int
		e  api.Errno
	}{
		{orders(order(-1, oil)), 0, api.ErrRange},
		{orders(order(20, oil)), 0, api.ErrRange},
		{orders(order(20)), 0, api.ErrRange},
		{orders(order(3, oil), order(-1, oil)), 1, api.ErrRange},
		{orders(order(3, oil), order(3, oil)), 1, api.ErrArg},
		{orders(order(3, oil), order(2, oil)), 1, api.ErrArg},
		{orders(order(3, oil), order(2)), 1, api.ErrArg},
		{orders(order(3, oil), order(3, 9)), 1, api.ErrArg},
		{orders(order(0)), 0, api.ErrLong},
		{orders(order(3, oil), order(4), order(4, oil)), 1, api.ErrLong},
		{orders(order(3, 2)), 0, api.ErrNone},
		{orders(order(3, -1)), 0, api.ErrNone},
		{orders(order(3, oil, men, 2)), 0, api.ErrNone},
		{orders(order(3, oil, 2, oil)), 0, api.ErrNone},
		{orders(order(3, oil, oil)), 0, api.ErrArg},
		{orders(order(3, men, oil)), 0, api.ErrArg},
		{orders(order(3, men, oil, 2)), 0, api.ErrArg},
		{orders(order(3, oil, oil, -1)), 0, api.ErrArg},
		{orders(order(3, oil), order(4, oil), order(5, oil, oil), order(4, oil)), 2, api.ErrArg},
	} {
		expectPlanError(t, fmt.Sprint("plan ", i), s, f.p, f.at, f.e)
	}
	for _, n := range far {
		for at := range 8 {
			p := both(0, 1, 2, 3, 4, 5, 6, 7)
			p[at].Day = n
			expectPlanError(t, fmt.Sprint("day ", n), s, p, at, api.ErrRange)
			p = both(0, 1, 2, 3, 4, 5, 6, 7)
			p[at].Cargo[1] = n
			expectPlanError(t, fmt.Sprint("need ", n), s, p, at, api.ErrNone)
		}
	}
	expectPlanError(t, "as many needs as numbers", s, orders(order(0, slices.Repeat([]int{oil}, 1<<16)...)), 0, api.ErrArg)
}

// P9.1: the range of an order's day and needs is that of the days and needs that there are.
func TestPlanRanges(t *testing.T) {
	for days := 1; days <= 60; days++ {
		s := lone(days, 1, 1)
		expectPlan(t, fmt.Sprint("the last of the days ", days), s, orders(order(days-1, 0)), 0, api.OK)
		expectPlanError(t, fmt.Sprint("behind the days ", days), s, orders(order(days, 0)), 0, api.ErrRange)
	}
	for needs := 1; needs <= 3; needs++ {
		s := full()
		s.Needs = s.Needs[:needs]
		expectPlan(t, fmt.Sprint("the last of the needs ", needs), s, orders(order(0, needs-1)), 0, api.OK)
		expectPlanError(t, fmt.Sprint("none of the needs ", needs), s, orders(order(0, needs)), 0, api.ErrNone)
	}
}

// P9.1: a cargo is as heavy as its needs together.
func TestPlanWeights(t *testing.T) {
	s := full()
	s.Needs[0].Weight, s.Needs[1].Weight, s.Needs[2].Weight = 7, 11, 2
	for load := 1; load <= 30; load++ {
		s.Load = load
		for set := 1; set < 8; set++ {
			cargo := picked(set, 3)
			what := fmt.Sprint("cargo ", cargo, " in ", load)
			if weightOf(s, cargo) <= load {
				expectPlan(t, what, s, orders(order(0, cargo...)), 0, api.OK)
				continue
			}
			expectPlanError(t, what, s, orders(order(0, cargo...)), 0, api.ErrDown)
			if load >= 2 {
				expectPlanError(t, what, s, orders(order(1, 2), order(2, 2), order(3, cargo...), order(1, 9)), 2, api.ErrDown)
			}
		}
	}
}

// The first of some failures with an error decides; the errors come in their order: first failures, then the day; first outcomes, then that the plan does not hold.
func TestFailedErrors(t *testing.T) {
	s, p := exampleS(), exampleP()
	for i, f := range []struct {
		failed []int
		e      api.Errno
	}{
		{[]int{5}, api.ErrNone},
		{[]int{-1}, api.ErrNone},
		{[]int{0, 1, 2, 3, 4, 5}, api.ErrNone},
		{[]int{0, 0}, api.ErrArg},
		{[]int{1, 0}, api.ErrArg},
		{[]int{1, 0, 5}, api.ErrArg},
		{[]int{1, 5, 0}, api.ErrNone},
		{[]int{0, 1, 2, 3, 4, 4}, api.ErrArg},
		{slices.Repeat([]int{4}, 1<<16), api.ErrArg},
	} {
		for _, day := range append([]int{-1, 0, 19, 20}, far...) {
			expectLeft(t, fmt.Sprint("failures ", i), s, p, f.failed, day, nil, f.e)
		}
		expectOut(t, fmt.Sprint("failures ", i), s, p, f.failed, 0, 0, f.e)
	}
	for _, n := range far {
		expectLeft(t, "far", s, p, []int{1, n}, 0, nil, api.ErrNone)
		expectOut(t, "far", s, p, []int{n}, 0, 0, api.ErrNone)
		expectLeft(t, "far", s, p, nil, n, nil, api.ErrRange)
	}
	for n := range 9 {
		p := fullPlan()[:n]
		expectLeft(t, "just behind", full(), p, []int{n}, 0, nil, api.ErrNone)
		expectOut(t, "just behind", full(), p, []int{n}, 0, 0, api.ErrNone)
		if n > 0 {
			expectLeft(t, "the last one", full(), p, []int{n - 1}, 0, []int{60, 60, 60}, api.OK)
		}
		expectStill(t, "all outcomes", full(), p, make([]bool, n), 0, api.OK)
		for _, more := range []int{1, 2, 9, 1 << 16} {
			expectStill(t, "too many outcomes", full(), p, make([]bool, n+more), 0, api.ErrLong)
			expectStill(t, "too many outcomes of what breaks", lone(60, 1, 0), nil, make([]bool, more), 0, api.ErrLong)
		}
	}
	for days := 1; days <= 60; days++ {
		s := lone(days, 60, 60)
		expectLeft(t, "the last day", s, nil, nil, days-1, []int{61 - days}, api.OK)
		expectLeft(t, "behind the last day", s, nil, nil, days, nil, api.ErrRange)
		expectLeft(t, "before the first day", s, nil, nil, -1, nil, api.ErrRange)
	}
}
