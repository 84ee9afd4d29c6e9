package leave_test

import (
	"slices"
	"sync"
	"testing"

	"nore/api"
	"nore/leave"
)

// asked is what all functions are asked.
type asked struct {
	c       api.LvCrew
	l       []api.LvEvent
	day, to int
	p       api.LvPlan
	turns   [][]int
}

// answers are what all functions return, as one list of numbers.
func (a asked) answers() (r []int) {
	add := func(e api.Errno, n ...int) { r = append(append(r, n...), int(e)) }
	part, at, e := leave.Check(a.c)
	add(e, part, at)
	at, e = leave.CheckLog(a.c, a.l)
	add(e, at)
	all, e := leave.Accounts(a.c, a.l, a.day)
	for _, n := range all {
		add(e, n.Place, n.Owed, n.Days[0], n.Days[1], n.Days[2])
	}
	add(e, len(all))
	next, e := leave.Next(a.c, a.l, a.day)
	add(e, next...)
	pay, e := leave.Pay(a.c, a.l, a.day, a.to)
	add(e, pay...)
	add(leave.CheckPlan(a.c, a.p))
	owed, e := leave.Owed(a.c, a.p, a.turns)
	add(e, owed...)
	turns, most, e := leave.Fairest(a.c, a.p)
	for _, away := range turns {
		add(e, away...)
	}
	add(e, len(turns), most)
	n, e := leave.Floor(a.c, a.p)
	add(e, n)
	return r
}

// exampleAsked is what is asked of C.
func exampleAsked() asked {
	return asked{c: exampleC(), l: exampleL(), day: 3, to: 7, p: exampleP(), turns: turns(men(cole), men(dunn))}
}

// someAsked is something random that is asked, mostly without an error.
func (d dice) someAsked(i int) asked {
	c, l := d.someCase(i)
	p := d.somePlan(3, 60)
	a := asked{c: c, l: l, day: d.IntN(9), to: d.from(9, 40), p: p, turns: d.someTurns(c, p)}
	switch i % 10 {
	case 6:
		a.c.Men[0].Owed = 100001
	case 7:
		a.l = append(a.l, api.LvEvent{})
	case 8:
		a.day = 50
	case 9:
		a.turns = append(a.turns, nil)
	}
	return a
}

// withRoom is a list with something in the memory behind its end.
func withRoom[T any](l []T, behind T) []T { return append(slices.Clip(l), behind)[:len(l)] }

// behind is what is in the memory behind the end of a list.
func behind[T any](l []T) T { return l[:len(l)+1][len(l)] }

// These are put into the memory behind the end of ranks, men and events.
var (
	behindRank  = api.LvRank{Name: "behind", Pay: 77}
	behindMan   = api.LvMan{Name: "behind", Owed: 77}
	behindEvent = api.LvEvent{Day: 77, Kind: 77, Man: 77, Other: 77}
)

// withRooms is the same with something in the memory behind the end of each list.
func (a asked) withRooms() asked {
	a.c.Ranks, a.c.Men = withRoom(a.c.Ranks, behindRank), withRoom(a.c.Men, behindMan)
	a.l = withRoom(a.l, behindEvent)
	a.turns = withRoom(cloneTurns(a.turns), men(77))
	for i := range a.turns {
		a.turns[i] = withRoom(a.turns[i], 77)
	}
	return a
}

// hasRooms reports whether what withRooms put behind the ends of the lists is still there.
func (a asked) hasRooms() bool {
	for _, away := range a.turns {
		if behind(away) != 77 {
			return false
		}
	}
	return behind(a.c.Ranks) == behindRank && behind(a.c.Men) == behindMan && behind(a.l) == behindEvent && slices.Equal(behind(a.turns), men(77))
}

// clone is the same in other memory.
func (a asked) clone() asked {
	a.c, a.l, a.turns = clone(a.c), slices.Clone(a.l), cloneTurns(a.turns)
	return a
}

// is reports whether the same is asked.
func (a asked) is(b asked) bool {
	return same(a.c, b.c) && slices.Equal(a.l, b.l) && a.day == b.day && a.to == b.to && a.p == b.p && sameTurns(a.turns, b.turns)
}

// P10.15, R4: no argument is changed, nor the memory behind its ends.
func TestArgumentsStay(t *testing.T) {
	d := newDice(18)
	for i := range 500 {
		a := d.someAsked(i).withRooms()
		kept := a.clone()
		a.answers()
		if !a.is(kept) {
			t.Fatalf("%v was changed; it was %v", a, kept)
		}
		if !a.hasRooms() {
			t.Fatalf("behind the ends of %v something was changed", a)
		}
	}
}

// fill writes something into all of a list, and into the memory behind its end.
func fill[T any](l []T, x T) {
	l = l[:cap(l)]
	for i := range l {
		l[i] = x
	}
}

// P10.15, R4: results are new memory: what is written into one is not in another one, nor in an argument.
func TestResultsAreNew(t *testing.T) {
	a := exampleAsked()
	kept := a.clone()
	before := a.answers()
	for range 3 {
		all, _ := leave.Accounts(a.c, a.l, a.day)
		next, _ := leave.Next(a.c, a.l, a.day)
		pay, _ := leave.Pay(a.c, a.l, a.day, a.to)
		owed, _ := leave.Owed(a.c, a.p, a.turns)
		if len(all) != 4 || len(next) != 1 || len(pay) != 4 || len(owed) != 4 {
			t.Fatalf("Accounts = %v, Next = %v, Pay = %v, Owed = %v", all, next, pay, owed)
		}
		fill(all, account(77, 77, 77, 77, 77))
		for _, l := range [][]int{next, pay, owed} {
			fill(l, 77)
		}
		if !a.is(kept) {
			t.Fatalf("behind a change of results the arguments are %v", a)
		}
	}
	if after := a.answers(); !slices.Equal(before, after) {
		t.Errorf("behind a change of results: %v; it was %v", after, before)
	}
}

// P10.15, R4: the turns of Fairest share no memory, though the same men are in several.
func TestTurnsAreNew(t *testing.T) {
	c, p := mates(api.LvRank{}, 9000, 0, 0), plan(4, 1, 2)
	want := turns(nil, men(0), nil, men(0))
	for at := range want {
		l, _ := mustFairest(t, c, p)
		again, _ := mustFairest(t, c, p)
		if !sameTurns(l, want) {
			t.Fatalf("Fairest = %v; it should be %v", l, want)
		}
		fill(l[at], 77)
		for i, away := range l {
			if i != at && !slices.Equal(away, want[i]) {
				t.Errorf("behind a change of the turn %d the turn %d is %v", at, i, away)
			}
		}
		fill(l, men(77))
		if !sameTurns(again, want) {
			t.Errorf("behind a change of a result another one is %v", again)
		}
	}
}

// R4: nothing is kept between calls, whatever was asked before, or is asked at the same time; the same call has the same result.
func TestNothingIsKept(t *testing.T) {
	d := newDice(19)
	var all []asked
	var want [][]int
	for i := range 80 {
		a := d.someAsked(i)
		all = append(all, a)
		want = append(want, a.answers())
	}
	var workers sync.WaitGroup
	for k := range 4 {
		workers.Go(func() {
			for i := range all {
				at := (i*7 + k*11) % len(all)
				if n := all[at].answers(); !slices.Equal(n, want[at]) {
					t.Errorf("%v: %v; it was %v", all[at], n, want[at])
				}
			}
		})
	}
	workers.Wait()
}

// R3: a nil slice and an empty one are the same value.
func TestNilAndEmpty(t *testing.T) {
	for _, turns := range [][][]int{nil, {nil, nil}, {nil, {cole}}} {
		a := exampleAsked()
		a.l, a.turns = nil, turns
		before := a.answers()
		a.l, a.turns = []api.LvEvent{}, append([][]int{}, turns...)
		for i, away := range a.turns {
			a.turns[i] = append([]int{}, away...)
		}
		if after := a.answers(); !slices.Equal(before, after) {
			t.Errorf("with empty lists %v; with nil ones %v", after, before)
		}
	}
	c := exampleC()
	c.Ranks = []api.LvRank{}
	expectCheck(t, "no ranks", c, 1, 0, api.ErrLong)
	c = exampleC()
	c.Men = []api.LvMan{}
	expectCheck(t, "no men", c, 1, 0, api.ErrLong)
}

// P1, P10.15, R5: any arguments are accepted.
func TestAnyArguments(t *testing.T) {
	numbers := append([]int{-1, 0, 1, 2, 3, 4, 5, 6, 7, 60, 61, 1000, 1001, 40000, 40001, 100000}, far...)
	for _, n := range numbers {
		for _, k := range numbers {
			for _, change := range []func(a *asked){
				func(a *asked) { a.c.Least, a.c.Men[ames].Rank = n, k },
				func(a *asked) { a.c.Ranks[mate].Pay, a.c.Ranks[hand].Leave = n, k },
				func(a *asked) { a.c.Ranks[mate].Ill, a.c.Ranks[hand].Earn = n, k },
				func(a *asked) { a.c.Men[ames].Owed, a.c.Men[dunn].Owed = n, k },
				func(a *asked) { a.l[0].Day, a.l[3].Day = n, k },
				func(a *asked) { a.l[0].Kind, a.l[1].Kind = n, k },
				func(a *asked) { a.l[1].Man, a.l[1].Other = n, k },
				func(a *asked) { a.l[2].Man, a.l[2].Other = n, k },
				func(a *asked) { a.day, a.to = n, k },
				func(a *asked) { a.p.Turns, a.p.Days = n, k },
				func(a *asked) { a.p.Days, a.p.Away = n, k },
				func(a *asked) { a.turns[0][0], a.turns[1][0] = n, k },
			} {
				a := exampleAsked()
				change(&a)
				a.answers()
			}
		}
	}
	many := asked{l: make([]api.LvEvent, 1<<16), turns: make([][]int, 1<<16)}
	for _, c := range []api.LvCrew{{}, {Least: 3}, {Ranks: make([]api.LvRank, 3)}, {Men: make([]api.LvMan, 5)}, exampleC(), full()} {
		for _, l := range [][]api.LvEvent{nil, make([]api.LvEvent, 20), many.l, exampleL()} {
			asked{c: c, l: l}.answers()
			asked{c: c, l: l, day: 3, to: 40000, p: exampleP(), turns: many.turns}.answers()
			asked{c: c, l: l, day: 40000, to: 40000, p: plan(4, 60, 2), turns: turns(nil, men(0), make([]int, 1<<16), nil)}.answers()
		}
	}
}

// P1: the largest crews, logs and plans are answered.
func TestLargeCases(t *testing.T) {
	c := mates(api.LvRank{Pay: 1000, Leave: 1000, Ill: 1000, Earn: 1000}, 100000, 100000, 100000, 100000, 100000)
	var l []api.LvEvent
	for i := range 10 {
		l = with(l, goes(4000*i, i%5), back(4000*i+2000, i%5))
	}
	expectLog(t, "20 events", c, l, 0, api.OK)
	for man, a := range mustAccounts(t, c, l, 40000) {
		if a != account(api.LvBoard, 100000+1000*36000-1000*4000, 36000, 4000, 0) {
			t.Errorf("the account of %d is %v", man, a)
		}
	}
	d := newDice(20)
	for range 12 {
		for man := range c.Men {
			c.Men[man].Owed = 10000 * d.IntN(8)
		}
		p := plan(4, d.from(1, 60), 2)
		want, most := fairestOf(c, p)
		expectFairest(t, told(c), c, p, want, most, api.OK)
		expectFloor(t, told(c), c, p, floorOf(c, p), api.OK)
	}
}
