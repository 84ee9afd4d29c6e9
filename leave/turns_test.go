package leave_test

import (
	"fmt"
	"slices"
	"testing"

	"nore/api"
	"nore/leave"
)

// The chapter's examples of Owed, Fairest and Floor.
func TestTurnsExamples(t *testing.T) {
	c, p := exampleC(), exampleP()
	expectOwed(t, "C", c, p, turns(men(cole), men(dunn)), men(12000, 10500, -4500, -4500), api.OK)
	expectFairest(t, "C", c, p, turns(men(ames), men(bell)), 8000, api.OK)
	expectFloor(t, "C", c, p, 8000, api.OK)
}

// P10.5: what is owed behind good turns.
func TestOwed(t *testing.T) {
	c := exampleC()
	expectOwed(t, "nobody is away", c, exampleP(), turns(nil, nil), men(12000, 10500, 8000, 8000), api.OK)
	expectOwed(t, "two at a time", c, plan(2, 10, 2), turns(men(ames, cole), men(bell, dunn)), men(-3000, -4500, -4500, -4500), api.OK)
	expectOwed(t, "fewer than can be", c, plan(2, 10, 2), turns(men(dunn), nil), men(12000, 10500, 8000, -4500), api.OK)
	expectOwed(t, "every other turn", c, plan(4, 1, 1), turns(men(ames), men(bell), men(ames), men(bell)), men(1000, -500, 4000, 4000), api.OK)
	expectOwed(t, "twice, with a turn between", c, plan(3, 1, 1), turns(men(cole), nil, men(cole)), men(3500, 2000, 1250, 3750), api.OK)
	expectOwed(t, "one turn of one day", c, plan(1, 1, 1), turns(men(bell)), men(2500, -500, 3250, 3250), api.OK)
	expectOwed(t, "as long as can be", c, plan(4, 60, 1), turns(men(dunn), nil, nil, men(dunn)), men(122000, 120500, 63000, -87000), api.OK)
	f := full()
	expectOwed(t, "as much as can be", f, plan(4, 60, 2), make([][]int, 4), men(340000, 340000, 340000, 340000, 340000), api.OK)
	expectOwed(t, "the only one of his rank is not away", f, plan(2, 1, 2), turns(men(0, 1), men(3, 4)), men(100000, 100000, 102000, 100000, 100000), api.OK)
	c.Ranks = append(c.Ranks, api.LvRank{Name: "cook"})
	expectOwed(t, "a rank that nobody has", c, exampleP(), turns(men(cole), men(dunn)), men(12000, 10500, -4500, -4500), api.OK)
	c.Least = 5
	expectOwed(t, "Least does not matter", c, exampleP(), turns(men(cole), men(dunn)), men(12000, 10500, -4500, -4500), api.OK)
}

// P10.5: turns that are not as many as the plan says.
func TestOwedLong(t *testing.T) {
	c := exampleC()
	for number := 1; number <= 4; number++ {
		for _, n := range []int{0, 1, 2, 3, 4, 5, 1 << 16} {
			if p := plan(number, 1, 1); n != number {
				expectOwed(t, "other turns", c, p, make([][]int, n), nil, api.ErrLong)
				expectOwed(t, "other turns, with errors", c, p, slices.Repeat(turns(men(9, 9)), n), nil, api.ErrLong)
			} else if owed, e := leave.Owed(c, p, make([][]int, n)); e != api.OK || len(owed) != 4 {
				t.Errorf("%d turns: Owed = %v, %d", n, owed, e)
			}
		}
	}
}

// P10.5: the first turn with an error decides, and of its errors the one that is named first.
func TestOwedErrors(t *testing.T) {
	c := exampleC()
	for _, n := range append([]int{-1, 4, 5}, far...) {
		expectOwed(t, "no man", c, exampleP(), turns(men(n), nil), nil, api.ErrNone)
		expectOwed(t, "no man", c, exampleP(), turns(men(ames, n), nil), nil, api.ErrNone)
		expectOwed(t, "no man, who is not ascending, nor the others", c, exampleP(), turns(nil, men(2, 1, 1, n)), nil, api.ErrNone)
		expectOwed(t, "no man, twice", c, exampleP(), turns(men(n, n), nil), nil, api.ErrNone)
	}
	for i, f := range []struct {
		away []int
		e    api.Errno
	}{
		{men(dunn, ames, 4), api.ErrNone},
		{men(dunn, ames), api.ErrArg},
		{men(ames, ames), api.ErrArg},
		{men(cole, bell, bell), api.ErrArg},
		{men(bell, cole, dunn, cole), api.ErrArg},
		{men(ames, bell, cole), api.ErrLong},
		{men(ames, bell, cole, dunn), api.ErrLong},
		{men(ames, cole), api.ErrTwice},
		{men(bell, cole), api.ErrTwice},
		{men(cole), api.ErrTwice},
		{men(cole, dunn), api.ErrTwice},
		{men(ames, bell), api.ErrZero},
	} {
		what := fmt.Sprint("turn ", i)
		for _, behind := range [][]int{nil, f.away, {9}, {1, 0}, {cole}, {0, 1, 2}} {
			expectOwed(t, what, c, plan(3, 1, 2), turns(men(cole), f.away, behind), nil, f.e)
			expectOwed(t, what, c, plan(4, 1, 2), turns(nil, men(cole), f.away, behind), nil, f.e)
		}
	}
	expectOwed(t, "more than one", c, exampleP(), turns(men(ames, cole), nil), nil, api.ErrLong)
	expectOwed(t, "more than one, and twice", c, exampleP(), turns(men(ames), men(ames, cole)), nil, api.ErrLong)
	expectOwed(t, "the last one", c, exampleP(), turns(men(ames), men(ames)), nil, api.ErrTwice)
	expectOwed(t, "many", c, exampleP(), turns(slices.Repeat(men(dunn), 1<<16), nil), nil, api.ErrArg)
	expectOwed(t, "a whole rank of two", c, plan(1, 1, 2), turns(men(cole, dunn)), nil, api.ErrZero)
	expectOwed(t, "the only one of his rank", full(), plan(1, 1, 1), turns(men(2)), nil, api.ErrZero)
	expectOwed(t, "the only one of his rank, and another one", full(), plan(1, 1, 2), turns(men(0, 2)), nil, api.ErrZero)
	expectOwed(t, "the only man", mates(api.LvRank{}, 0), plan(1, 1, 1), turns(men(0)), nil, api.ErrZero)
}

// P10.5: Owed is as it is defined, for turns that are good and turns that are not.
func TestOwedIsTheDefinition(t *testing.T) {
	d := newDice(4)
	times := map[api.Errno]int{}
	for range 8000 {
		c, p := d.someCrew(), d.somePlan(4, 60)
		l := d.someTurns(c, p)
		if d.once(12) {
			l = append(l, nil)
		}
		if at := d.IntN(len(l)); d.once(6) {
			l[at] = append(l[at], d.from(-1, 5))
		}
		e := turnsErrorOf(c, p, l)
		var want []int
		if e == api.OK {
			want = behindOf(c, p, l)
		}
		times[e]++
		expectOwed(t, told(c), c, p, l, want, e)
		if t.Failed() {
			return
		}
	}
	for _, e := range []api.Errno{api.OK, api.ErrNone, api.ErrArg, api.ErrLong, api.ErrTwice, api.ErrZero} {
		if times[e] < 200 {
			t.Errorf("the error %d came %d times", e, times[e])
		}
	}
}

// P10.6: the fairest turns, and of several the first ones.
func TestFairest(t *testing.T) {
	none := api.LvRank{}
	expectFairest(t, "the only man stays", mates(api.LvRank{Earn: 500}, 2000), exampleP(), turns(nil, nil), 12000, api.OK)
	expectFairest(t, "one who is owed more", mates(none, 9000, 1000, 0), plan(1, 2, 1), turns(men(0)), 7000, api.OK)
	expectFairest(t, "a list that begins another one", mates(none, 9000, 1000, 0), plan(1, 2, 2), turns(men(0)), 7000, api.OK)
	expectFairest(t, "nobody, as who is owed most has to stay", full(), plan(4, 1, 2), turns(nil, nil, nil, nil), 104000, api.OK)
	expectFairest(t, "two who are owed the same", mates(none, 0, 5000, 5000), plan(1, 1, 2), turns(men(1, 2)), 4000, api.OK)
	expectFairest(t, "two who are owed the same, one after the other", mates(none, 0, 5000, 5000), plan(2, 1, 1), turns(men(1), men(2)), 4000, api.OK)
	expectFairest(t, "as late as it can be", mates(none, 0, 5000, 0), plan(4, 1, 1), turns(nil, men(1), nil, men(1)), 3000, api.OK)
	expectFairest(t, "with a list before another one as early as it can be", mates(none, 5000, 0, 0), plan(3, 1, 1), turns(men(0), nil, men(0)), 3000, api.OK)
	expectFairest(t, "a list before another one by its first man", mates(none, 5000, 5000, 5000), plan(2, 1, 2), turns(men(0), men(1, 2)), 4000, api.OK)
	expectFairest(t, "a shorter list of greater men comes behind", mates(none, 5000, 5000, 5000, 0), plan(2, 1, 2), turns(men(0), men(1, 2)), 4000, api.OK)
	expectFairest(t, "four men in two turns", mates(none, 5000, 5000, 5000, 5000), plan(2, 1, 2), turns(men(0, 1), men(2, 3)), 4000, api.OK)
	expectFairest(t, "five men in two turns", mates(none, 5000, 5000, 5000, 5000, 5000), plan(2, 1, 2), turns(nil, nil), 5000, api.OK)
	expectFairest(t, "five men in three turns", mates(none, 5000, 5000, 5000, 5000, 5000), plan(3, 1, 2), turns(men(0), men(1, 2), men(3, 4)), 4000, api.OK)
	expectFairest(t, "one who earns more", mates(api.LvRank{Earn: 1000}, 5000, 5000), plan(2, 3, 1), turns(men(0), men(1)), 5000, api.OK)
	c := mates(none, 5000, 5000, 3000)
	c.Men[0].Ashore, c.Men[1].Ashore = true, true
	expectFairest(t, "who is ashore at first is as good as others", c, plan(2, 1, 1), turns(men(0), men(1)), 4000, api.OK)
	c.Least = 5
	expectFairest(t, "Least does not matter", c, plan(2, 1, 1), turns(men(0), men(1)), 4000, api.OK)
	// One of the two mates has to stay, so that of the two who are owed most one goes in each turn.
	c = exampleC()
	c.Men[ames].Owed, c.Men[bell].Owed, c.Men[cole].Owed, c.Men[dunn].Owed = 9000, 9000, 0, 0
	expectFairest(t, "one of each rank stays", c, plan(1, 2, 2), turns(nil), 10000, api.OK)
	expectFairest(t, "one of each rank stays", c, plan(2, 2, 2), turns(men(ames), men(bell)), 8000, api.OK)
	expectFairest(t, "below 0", mates(none, -3000, -4000), plan(1, 60, 2), turns(men(0)), -4000, api.OK)
	expectFairest(t, "far below 0", mates(none, -100000, -100000), plan(2, 60, 1), turns(men(0), men(1)), -160000, api.OK)
}

// P10.6: the least number for which there are turns enough for the needs of all, and nobody has to be in more than half of them.
func TestFloor(t *testing.T) {
	none := api.LvRank{}
	expectFloor(t, "the only man could not go, but his need alone is small enough", mates(api.LvRank{Earn: 500}, 2000), exampleP(), -3000, api.OK)
	for number, want := range []int{0, 8000, 8000, 7000, 7000} {
		if number > 0 {
			expectFloor(t, fmt.Sprint("half of the turns, rounded up, of ", number), mates(none, 9000, -9000), plan(number, 1, 1), want, api.OK)
		}
	}
	for away, want := range []int{0, 5000, 4000} {
		if away > 0 {
			expectFloor(t, fmt.Sprint("men away: ", away), mates(none, 5000, 5000, 5000), plan(2, 1, away), want, api.OK)
		}
	}
	expectFloor(t, "just as many turns as are needed", mates(none, 5000, 5000, 5000, 5000), plan(2, 1, 2), 4000, api.OK)
	expectFloor(t, "one turn too few", mates(none, 5000, 5000, 5000, 5000, 4001), plan(2, 1, 2), 4001, api.OK)
	expectFloor(t, "needs of two turns", mates(none, 6000, 5000, 5000, 4500), plan(3, 1, 2), 4000, api.OK)
	expectFloor(t, "needs of two turns, one turn too few", mates(none, 6000, 5000, 5000, 4500), plan(3, 1, 1), 5000, api.OK)
	expectFloor(t, "who is owed least decides", mates(none, 5000, 4500), plan(1, 1, 1), 4500, api.OK)
	expectFloor(t, "who is owed most decides", mates(none, 5600, 4500), plan(1, 1, 1), 4600, api.OK)
	expectFloor(t, "who stays earns", mates(api.LvRank{Earn: 100}, 5600, 4500), plan(3, 10, 1), -3500, api.OK)
	expectFloor(t, "ranks do not matter, but for what they earn", full(), plan(2, 60, 2), 220000, api.OK)
	expectFloor(t, "ranks do not matter, but for what they earn", full(), plan(3, 60, 2), 160000, api.OK)
	expectFloor(t, "far below 0", mates(none, -100000, -100000), plan(4, 60, 2), -220000, api.OK)
}

// P10.6: Fairest is as it is defined.
func TestFairestIsTheDefinition(t *testing.T) {
	d := newDice(5)
	same, stays := 0, 0
	for i := range 700 {
		c, p := d.someCrew(), d.somePlan(2+i%2, 1+59*(i%3/2))
		if i%50 == 0 {
			p.Turns = 4
		}
		want, most := fairestOf(c, p)
		expectFairest(t, told(c), c, p, want, most, api.OK)
		if t.Failed() {
			return
		}
		if number := equals(c, p, most); number > 1 {
			same++
		}
		if slices.ContainsFunc(want, func(away []int) bool { return len(away) == 0 }) {
			stays++
		}
	}
	if same < 300 || stays < 100 {
		t.Errorf("so often several turns were the fairest: %d, nobody was away: %d", same, stays)
	}
}

// equals is how many good turns leave a number to the man who is owed most.
func equals(c api.LvCrew, p api.LvPlan, most int) (number int) {
	for _, l := range goodTurns(c, p) {
		if slices.Max(behindOf(c, p, l)) == most {
			number++
		}
	}
	return number
}

// P10.6: Floor is as it is defined: no number below it is enough, and it is.
func TestFloorIsTheDefinition(t *testing.T) {
	d := newDice(6)
	for range 1500 {
		c, p := d.someCrew(), d.somePlan(4, 12)
		expectFloor(t, told(c), c, p, floorOf(c, p), api.OK)
		if t.Failed() {
			return
		}
	}
}
