package tender_test

import (
	"fmt"
	"testing"

	"nore/api"
)

// The chapter's examples of Breaks, Worst, Bears and Still.
func TestBreaksExamples(t *testing.T) {
	s := exampleS()
	expectBreaks(t, "P", s, exampleP(), nil, 0, 0, api.ErrNone)
	expectBreaks(t, "Q", s, exampleQ(), []int{1}, 11, men, api.OK)
	expectBreaks(t, "R", s, exampleR(), []int{0}, 6, oil, api.OK)
	expectWorst(t, "P", s, exampleP(), []int{2, 1}, api.OK)
	expectWorst(t, "Q", s, exampleQ(), []int{1, 0}, api.OK)
	expectBears(t, "P", s, exampleP(), 1, api.OK)
	expectBears(t, "Q", s, exampleQ(), 0, api.OK)
	expectStill(t, "P, the first failed", s, exampleP(), []bool{false}, 0, api.OK)
	expectStill(t, "P, the first two came", s, exampleP(), []bool{true, true}, 1, api.OK)
	expectStill(t, "P, the first two failed", s, exampleP(), []bool{false, false}, 0, api.ErrDown)
}

// P9.3: of all that breaks a plan, what does on the least day, by the least need, with the fewest failures. (No others, as few as these, do so by the same need on the same day.)
func TestBreaksOrder(t *testing.T) {
	const a, b = 0, 1
	// All is there for good if it comes once.
	s := api.TeSeason{
		Days: 9,
		Needs: []api.TeNeed{
			{Name: "a", Full: 9, First: 4, Weight: 1},
			{Name: "b", Full: 9, First: 4, Weight: 1},
		},
		Load: 2,
		Fail: 2,
		Row:  2,
	}
	expectBreaks(t, "the least need, though by more failures, and by later ones", s, orders(order(1, b), order(2, a), order(3, a)), []int{1, 2}, 4, a, api.OK)
	expectBreaks(t, "the least need, though by later failures", s, orders(order(1, b), order(3, a)), []int{1}, 4, a, api.OK)
	expectBreaks(t, "the fewest failures, though later ones", s, orders(order(1, b), order(2, a), order(3, b)), []int{1}, 4, a, api.OK)
	expectBreaks(t, "the fewest failures, which are the first ones", s, orders(order(1, a), order(2, b), order(3, b)), []int{0}, 4, a, api.OK)
	expectBreaks(t, "none, though failures break it too", s, orders(order(1, b)), nil, 4, a, api.OK)
	expectBreaks(t, "the second need", s, orders(order(1, a), order(2, a), order(3, a, b)), []int{2}, 4, b, api.OK)
	s.Needs = []api.TeNeed{{Name: "a", Full: 9, First: 5, Weight: 1}, {Name: "b", Full: 9, First: 4, Weight: 1}}
	expectBreaks(t, "the least day, though by more failures, by later ones, and by the second need", s, orders(order(1, a), order(2, b), order(3, b)), []int{1, 2}, 4, b, api.OK)
	expectBreaks(t, "the least day, though without failures it breaks later", s, orders(order(3, b)), []int{0}, 4, b, api.OK)
	// No single failure breaks this; each two orders one after the other do, the first ones on the least day.
	chain := lone(20, 5, 5)
	chain.Fail = 2
	expectBreaks(t, "the first two", chain, each([]int{0}, 2, 4, 6, 8, 10, 12, 14, 16), []int{0, 1}, 5, 0, api.OK)
	expectBreaks(t, "a gap later on", chain, each([]int{0}, 1, 2, 4, 6, 7, 9, 12, 14), []int{4, 5}, 11, 0, api.OK)
}

// P9.3: just possible failures break a plan: no more than Fail, and no more than Row one after the other.
func TestPossibleFailures(t *testing.T) {
	// The plan breaks if all three orders fail, or the last two.
	p := each([]int{0}, 1, 2, 3)
	for fail := range 9 {
		for row := 1; row <= 8; row++ {
			s := lone(8, 6, 4)
			s.Fail, s.Row = fail, row
			what := fmt.Sprint(fail, " failures, ", row, " in a row")
			switch {
			case fail >= 3 && row >= 3:
				expectBreaks(t, what, s, p, []int{0, 1, 2}, 4, 0, api.OK)
				expectWorst(t, what, s, p, []int{0}, api.OK)
			case fail >= 2 && row >= 2:
				expectBreaks(t, what, s, p, []int{1, 2}, 7, 0, api.OK)
				expectWorst(t, what, s, p, []int{0}, api.OK)
			case fail >= 1:
				expectBreaks(t, what, s, p, nil, 0, 0, api.ErrNone)
				expectWorst(t, what, s, p, []int{1}, api.OK)
			default:
				expectBreaks(t, what, s, p, nil, 0, 0, api.ErrNone)
				expectWorst(t, what, s, p, []int{2}, api.OK)
			}
			bears := 1
			if row == 1 {
				bears = 3
			}
			expectBears(t, what, s, p, bears, api.OK)
		}
	}
	// One that comes between two that fail ends a row, even if it brings something else.
	s := exampleS()
	s.Days, s.Fail, s.Row, s.Possible = 9, 2, 1, nil
	expectBreaks(t, "one between them comes", s, orders(order(1, oil), order(2, men), order(3, oil)), []int{0, 2}, 6, oil, api.OK)
	expectBreaks(t, "none between them comes", s, orders(order(1, oil), order(3, oil), order(4, men)), []int{2}, 8, men, api.OK)
}

// P9.3: the worst of each need is for itself: with other failures, and in another morning.
func TestWorst(t *testing.T) {
	s := exampleS()
	expectWorst(t, "nothing is ordered", s, nil, []int{0, 0}, api.OK)
	s.Possible = nil
	s.Days = 6
	expectWorst(t, "nothing has to be ordered", s, nil, []int{1, 3}, api.OK)
	s.Days = 1
	expectWorst(t, "one day", s, nil, []int{6, 8}, api.OK)
	expectWorst(t, "one day, on which nothing new can be brought", s, orders(order(0, men)), []int{6, 8}, api.OK)
	expectWorst(t, "one day, on which all fails", s, both(0), []int{6, 8}, api.OK)
	expectWorst(t, "one day, on which all comes", withFail(s, 0), both(0), []int{10, 8}, api.OK)
	s.Days = 10
	expectWorst(t, "oil fails, or men", s, orders(order(4, oil), order(5, men)), []int{0, 0}, api.OK)
	s.Days = 8
	expectWorst(t, "oil fails, or men, in time", s, orders(order(2, oil), order(3, men), order(6, oil)), []int{1, 1}, api.OK)
	for first := range 61 {
		s := lone(60, 60, first)
		expectWorst(t, fmt.Sprint("first ", first), s, nil, []int{max(0, first-59)}, api.OK)
		expectWorst(t, fmt.Sprint("first ", first, " and an order"), withFail(s, 0), each([]int{0}, 0), []int{1}, api.OK)
	}
}

// P9.4: up to how many orders there are, whatever Fail of the season is.
func TestBears(t *testing.T) {
	for fail := range 9 {
		s := withFail(exampleS(), fail)
		expectBears(t, "P", s, exampleP(), 1, api.OK)
		expectBears(t, "Q", s, exampleQ(), 0, api.OK)
		expectBears(t, "one in a row at most", withRow(s, 1), exampleP(), 5, api.OK)
		expectBears(t, "nothing is ordered", s, nil, 0, api.ErrDown)
		expectBears(t, "late", s, both(7), 0, api.ErrDown)
		for n := range 9 {
			p := fullPlan()[8-n:]
			expectBears(t, fmt.Sprint(n, " that are not needed"), withFail(full(), fail), p, n, api.OK)
			for row := 1; row <= 8; row++ {
				expectBears(t, fmt.Sprint(n, " that are not needed"), withRow(full(), row), p, n, api.OK)
			}
		}
	}
	// As many as there are but one can fail.
	for n := 1; n <= 8; n++ {
		s := lone(12, 20, 9)
		expectBears(t, fmt.Sprint("one of ", n), s, each([]int{0}, 1, 2, 3, 4, 5, 6, 7, 8)[8-n:], n-1, api.OK)
	}
}

// P9.4: further failures behind outcomes, those of the outcomes counted in a row.
func TestStill(t *testing.T) {
	s, p := exampleS(), exampleP()
	for fail := range 9 {
		s.Fail = fail
		expectStill(t, "no outcomes", s, p, nil, 1, api.OK)
		expectStill(t, "the third failed", s, p, []bool{true, true, false}, 0, api.OK)
		expectStill(t, "all came", s, p, []bool{true, true, true, true, true}, 0, api.OK)
		expectStill(t, "all failed", s, p, make([]bool, 5), 0, api.ErrDown)
		expectStill(t, "the last one is left", s, p, []bool{true, true, true, true}, 1, api.OK)
		expectStill(t, "every other one failed", s, p, []bool{false, true, false, true}, 1, api.OK)
		expectStill(t, "the last one failed", s, p, []bool{true, true, true, true, false}, 0, api.OK)
	}
	s.Row = 1
	expectStill(t, "the next one cannot fail", s, p, []bool{false}, 4, api.OK)
	expectStill(t, "behind more in a row than can be", s, p, []bool{true, true, true, false, false}, 0, api.ErrDown)
	// One of four is enough.
	for row := 1; row <= 8; row++ {
		s := withRow(lone(9, 9, 5), row)
		p := each([]int{0}, 1, 2, 3, 4)
		what := fmt.Sprint(row, " in a row")
		less := 0 // by how much there is less if all four can fail
		if row >= 4 {
			less = 1
		}
		expectStill(t, what+", no outcomes", s, p, nil, 4-less, api.OK)
		expectStill(t, what+", one failed", s, p, []bool{false}, 3-less, api.OK)
		expectStill(t, what+", two failed", s, p, []bool{false, false}, 2-less, api.OK)
		expectStill(t, what+", three failed", s, p, []bool{false, false, false}, 1-less, api.OK)
		expectStill(t, what+", all failed", s, p, []bool{false, false, false, false}, 0, api.ErrDown)
		expectStill(t, what+", three failed, and one came", s, p, []bool{false, false, false, true}, 0, api.OK)
		expectStill(t, what+", one came", s, p, []bool{true}, 3, api.OK)
		expectStill(t, what+", one failed, and one came", s, p, []bool{false, true}, 2, api.OK)
	}
	// A row that is longer than can be is told; behind it just one that comes ends it.
	one := withRow(lone(9, 9, 7), 2)
	q := each([]int{0}, 1, 2, 3, 4, 5, 6)
	expectStill(t, "three failed, the next one comes", one, q, []bool{false, false, false}, 3, api.OK)
	expectStill(t, "four failed, the next one comes", one, q, []bool{false, false, false, false}, 2, api.OK)
	expectStill(t, "five failed, the last one comes", one, q, []bool{false, false, false, false, false}, 1, api.OK)
	expectStill(t, "all failed", one, q, make([]bool, 6), 0, api.ErrDown)
	expectStill(t, "three failed, one came", one, q, []bool{false, false, false, true}, 2, api.OK)
}

// P9.3, P9.4: Breaks, Worst, Bears and Still are as they are defined.
func TestBreaksAreTheDefinition(t *testing.T) {
	d := newDice(2)
	held, broke, down, bore := 0, 0, 0, 0
	for i := range 1500 {
		s, p := d.someCase(i)
		what := fmt.Sprint(s, p)
		failed, day, need := breaksOf(s, p)
		if day < 0 {
			held++
			expectBreaks(t, what, s, p, nil, 0, 0, api.ErrNone)
		} else {
			if len(failed) > 0 {
				broke++
			}
			expectBreaks(t, what, s, p, failed, day, need, api.OK)
		}
		expectWorst(t, what, s, p, worstOf(s, p), api.OK)
		number := bearsOf(s, p)
		if number < 0 {
			down++
			expectBears(t, what, s, p, 0, api.ErrDown)
		} else {
			if number > 0 && number < len(p) {
				bore++
			}
			expectBears(t, what, s, p, number, api.OK)
		}
		for range 3 {
			came := d.someCame(len(p))
			if number := stillOf(s, p, came); number < 0 {
				expectStill(t, what, s, p, came, 0, api.ErrDown)
			} else {
				expectStill(t, what, s, p, came, number, api.OK)
			}
		}
		if t.Failed() {
			return
		}
	}
	if held < 300 || broke < 200 || down < 200 || bore < 100 {
		t.Errorf("so often a plan held: %d, it broke by failures: %d, without any: %d, it bore some: %d", held, broke, down, bore)
	}
}
