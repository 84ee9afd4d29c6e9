package tender_test

import (
	"fmt"
	"slices"
	"testing"

	"nore/api"
	"nore/tender"
)

// The chapter's examples of Left and Out.
func TestLeftExamples(t *testing.T) {
	s, p := exampleS(), exampleP()
	expectLeft(t, "P", s, p, nil, 0, []int{6, 8}, api.OK)
	expectLeft(t, "P", s, p, nil, 3, []int{10, 8}, api.OK)
	expectLeft(t, "P", s, p, nil, 7, []int{8, 6}, api.OK)
	expectLeft(t, "P", s, p, []int{1}, 7, []int{6, 4}, api.OK)
	expectOut(t, "P", s, p, []int{0, 1}, 6, oil, api.OK)
	expectOut(t, "P", s, p, []int{2, 3}, 13, men, api.OK)
	expectOut(t, "P", s, p, []int{1, 3}, 0, 0, api.ErrNone)
}

// P9.2: morning by morning, with what is brought and what fails.
func TestLeft(t *testing.T) {
	s := exampleS()
	expect := func(what string, p []api.TeOrder, failed []int, oils, mens []int) {
		t.Helper()
		for day := range oils {
			expectLeft(t, what, s, p, failed, day, []int{oils[day], mens[day]}, api.OK)
		}
	}
	expect("nothing is brought", nil, nil, []int{6, 5, 4, 3, 2, 1, 0, 0, 0, 0}, []int{8, 7, 6, 5, 4, 3, 2, 1, 0, 0})
	expect("all is brought on the day 0", both(0), nil, []int{10, 9, 8}, []int{8, 7, 6})
	expect("all fails", both(0, 1), []int{0, 1}, []int{6, 5, 4, 3, 2, 1, 0, 0}, []int{8, 7, 6, 5, 4, 3, 2, 1})
	expect("one of each", orders(order(1, men), order(2, oil)), nil, []int{6, 5, 10, 9}, []int{8, 8, 7, 6})
	expect("one of each, the men fail", orders(order(1, men), order(2, oil)), []int{0}, []int{6, 5, 10, 9}, []int{8, 7, 6, 5})
	expect("one of each, the oil fails", orders(order(1, men), order(2, oil)), []int{1}, []int{6, 5, 4, 3}, []int{8, 8, 7, 6})
	expect("on days one after the other", both(3, 4), nil, []int{6, 5, 4, 10, 10, 9}, []int{8, 7, 6, 8, 8, 7})
	expect("behind when all has run out", both(9), nil, []int{6, 5, 4, 3, 2, 1, 0, 0, 0, 10, 9}, []int{8, 7, 6, 5, 4, 3, 2, 1, 0, 8, 7})
	expectLeft(t, "the last day", s, both(19), nil, 19, []int{10, 8}, api.OK)
	expectLeft(t, "the last day, nothing came", s, nil, nil, 19, []int{0, 0}, api.OK)
}

// P9.2: the failures need not be possible.
func TestFailuresThatAreNotPossible(t *testing.T) {
	s, p := withFail(exampleS(), 0), exampleP()
	expectLeft(t, "all fail", s, p, []int{0, 1, 2, 3, 4}, 5, []int{1, 3}, api.OK)
	expectLeft(t, "three in a row fail", withRow(s, 1), p, []int{0, 1, 2}, 12, []int{10, 8}, api.OK)
	expectOut(t, "all fail", s, p, []int{0, 1, 2, 3, 4}, 6, oil, api.OK)
	expectOut(t, "the last two fail", withRow(s, 1), p, []int{3, 4}, 16, men, api.OK)
	expectOut(t, "every other one fails", s, p, []int{0, 2, 4}, 0, 0, api.ErrNone)
}

// P9.2: a plan breaks on the first day on which a need has run out, by the first such need.
func TestOut(t *testing.T) {
	s := exampleS()
	expectOut(t, "nothing is ordered", s, nil, nil, 6, oil, api.OK)
	expectOut(t, "just oil", s, orders(order(5, oil)), nil, 8, men, api.OK)
	expectOut(t, "just men", s, orders(order(5, men)), nil, 6, oil, api.OK)
	expectOut(t, "on the day on which it has run out", s, both(6), nil, 14, men, api.OK)
	expectOut(t, "a day too late", s, both(7), nil, 6, oil, api.OK)
	s.Needs[men].First = 6
	expectOut(t, "both on the same day", s, nil, nil, 6, oil, api.OK)
	s.Needs[men].First = 5
	expectOut(t, "the second need before the first", s, nil, nil, 5, men, api.OK)
	s.Needs[oil].First, s.Needs[men].First = 0, 0
	expectOut(t, "both on the day 0", s, both(1), nil, 0, oil, api.OK)
	expectOut(t, "oil comes on the day 0", s, orders(order(0, oil)), nil, 0, men, api.OK)
	expectOut(t, "both come on the day 0", s, both(0), nil, 8, men, api.OK)
	expectOut(t, "both come on the day 0, but that fails", s, both(0), []int{0}, 0, oil, api.OK)
	expectOut(t, "the last day", lone(7, 9, 6), nil, nil, 6, 0, api.OK)
	expectOut(t, "the day behind the last one", lone(6, 9, 6), nil, nil, 0, 0, api.ErrNone)
}

// P9.2, P9.13: Left and Out are as they are defined, with any failures; in each morning the days left are Full if the need was brought then, or one less than in the morning before, and never above Full.
func TestLeftAndOutAreTheDefinition(t *testing.T) {
	d := newDice(1)
	brought, ran := 0, 0
	for i := range 2500 {
		s, p := d.someCase(i)
		failed := d.someFailed(len(p))
		what := fmt.Sprint(s, p)
		mornings := leftOf(s, p, failed)
		var before []int
		for day := range s.Days {
			left, e := tender.Left(s, p, failed, day)
			if e != api.OK || !slices.Equal(left, mornings[day]) {
				t.Fatalf("%s: Left on %d if %v fail = %v, %d; it should be %v", what, day, failed, left, e, mornings[day])
			}
			for need, n := range left {
				comes := slices.ContainsFunc(p, func(o api.TeOrder) bool { return o.Day == day && slices.Contains(o.Cargo, need) })
				comes = comes && !slices.ContainsFunc(failed, func(i int) bool { return p[i].Day == day })
				full := s.Needs[need].Full
				if comes && n != full || !comes && day > 0 && n != max(0, before[need]-1) || n > full {
					t.Fatalf("%s: Left on %d if %v fail = %v, behind %v", what, day, failed, left, before)
				}
				if comes {
					brought++
				}
			}
			before = left
		}
		day, need := outOf(s, p, failed)
		if day < 0 {
			expectOut(t, what, s, p, failed, 0, 0, api.ErrNone)
			continue
		}
		ran++
		expectOut(t, what, s, p, failed, day, need, api.OK)
	}
	if brought < 1000 || ran < 500 || ran > 2300 {
		t.Errorf("so often a need was brought: %d, it ran out: %d", brought, ran)
	}
}
