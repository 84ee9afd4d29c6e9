package leave_test

import (
	"fmt"
	"slices"
	"testing"

	"nore/api"
	"nore/leave"
)

// The chapter's examples of CheckLog.
func TestLogExamples(t *testing.T) {
	c, l := exampleC(), exampleL()
	expectLog(t, "L", c, l, 0, api.OK)
	expectLogError(t, "L with LvGo of ames on 1 behind cole's", c, slices.Insert(exampleL(), 1, goes(1, ames)), 1, api.ErrZero)
	expectLogError(t, "L with LvGo of bell on 3, at the end", c, with(l, goes(3, bell)), 4, api.ErrRange)
}

// P10.2: too many events, whatever they are.
func TestLogLong(t *testing.T) {
	c := exampleC()
	var l []api.LvEvent
	for range 10 {
		l = with(l, sick(3, ames), well(3, ames))
	}
	expectLog(t, "20 events", c, l, 0, api.OK)
	expectLogError(t, "20 events, the last one is none", c, with(l[:19], api.LvEvent{}), 19, api.ErrArg)
	expectLogError(t, "20 events, the last one is not possible", c, with(l[:19], back(3, cole)), 19, api.ErrDown)
	expectLogError(t, "21 events", c, with(l, sick(3, ames)), 0, api.ErrLong)
	expectLogError(t, "21 events, the first one is none", c, with(events(api.LvEvent{}), l...), 0, api.ErrLong)
	for _, n := range []int{21, 22, 1 << 16} {
		expectLogError(t, fmt.Sprint(n, " events"), c, make([]api.LvEvent, n), 0, api.ErrLong)
	}
}

// P10.2: kinds, and the Other of events.
func TestLogKinds(t *testing.T) {
	c := exampleC()
	for _, n := range append([]int{-1, 0, 6, 7}, far...) {
		expectLogError(t, fmt.Sprint("kind ", n), c, events(api.LvEvent{Kind: n}), 0, api.ErrArg)
		expectLogError(t, fmt.Sprint("kind ", n, " with all else wrong"), c, events(sick(1, cole), api.LvEvent{Kind: n, Man: 9, Other: 9, Day: -1}), 1, api.ErrArg)
	}
	for kind := api.LvGo; kind < api.LvSwap; kind++ {
		for _, n := range append([]int{-1, 1, 2, 3, 4}, far...) {
			expectLogError(t, fmt.Sprint("kind ", kind, " with the other ", n), c, events(api.LvEvent{Kind: kind, Other: n}), 0, api.ErrArg)
		}
	}
	for _, n := range append([]int{-1, 0, 1, 3, 4}, far...) {
		expectLogError(t, fmt.Sprint("a swap of ", n, " with himself"), c, events(swap(0, n, n)), 0, api.ErrArg)
	}
}

// P10.2: men who are none.
func TestLogMen(t *testing.T) {
	for number := 1; number <= 5; number++ {
		c := full()
		c.Men, c.Least = c.Men[:number], 0
		for _, n := range append([]int{-1, number, number + 1}, far...) {
			what := fmt.Sprint("man ", n, " of ", number)
			for kind := api.LvGo; kind < api.LvSwap; kind++ {
				expectLogError(t, what, c, events(api.LvEvent{Kind: kind, Man: n, Day: -1}), 0, api.ErrNone)
			}
			expectLogError(t, what, c, events(swap(-1, n, 0)), 0, api.ErrNone)
			expectLogError(t, what, c, events(swap(-1, 0, n)), 0, api.ErrNone)
			expectLogError(t, what, c, events(goes(0, 0), swap(0, n, 0)), 1, api.ErrNone)
		}
		for man := range number {
			expectLog(t, fmt.Sprint("man ", man), c, events(sick(0, man), well(0, man), goes(0, man)), 0, api.OK)
		}
	}
}

// P10.2: days that are none, or before that of the event before.
func TestLogDays(t *testing.T) {
	c := exampleC()
	for _, n := range []int{0, 1, 2, 365, 39999, 40000} {
		expectLog(t, "a day", c, events(sick(n, ames)), 0, api.OK)
		expectLog(t, "a day twice", c, events(sick(n, ames), sick(n, cole)), 0, api.OK)
		expectLogError(t, "the day before", c, events(sick(n, ames), sick(n-1, cole)), 1, api.ErrRange)
		expectLogError(t, "the day before, and nothing that can be", c, events(sick(n, ames), sick(n-1, ames)), 1, api.ErrRange)
		expectLogError(t, "a day on which it cannot be", c, events(back(n, ames)), 0, api.ErrDown)
		expectLog(t, "the last day behind it", c, events(sick(n, ames), well(40000, ames)), 0, api.OK)
	}
	for _, n := range append([]int{-1, 40001}, far...) {
		expectLogError(t, fmt.Sprint("day ", n), c, events(sick(n, ames)), 0, api.ErrRange)
		expectLogError(t, fmt.Sprint("day ", n), c, events(sick(3, ames), well(n, ames), api.LvEvent{}), 1, api.ErrRange)
		expectLogError(t, fmt.Sprint("day ", n, " of what cannot be"), c, events(sick(3, ames), back(n, ames)), 1, api.ErrRange)
	}
}

// P10.2: the first event with an error decides, whichever error it has.
func TestLogFirst(t *testing.T) {
	c := exampleC()
	wrong := []struct {
		event api.LvEvent
		e     api.Errno
	}{
		{api.LvEvent{Kind: 6, Day: 3}, api.ErrArg},
		{goes(3, 4), api.ErrNone},
		{sick(2, ames), api.ErrRange},
		{well(3, ames), api.ErrDown},
		{goes(3, ames), api.ErrZero},
	}
	for i, f := range wrong {
		for k, g := range wrong {
			l := events(goes(3, cole), f.event, g.event)
			expectLogError(t, fmt.Sprint("events ", i, " and ", k), c, l, 1, f.e)
			l = events(goes(3, cole), sick(3, bell), f.event, back(3, cole), g.event)
			expectLogError(t, fmt.Sprint("events ", i, " and, later, ", k), c, l, 2, f.e)
		}
	}
}

// P10.2: where a man has to be for each kind of event, and where he is behind it.
func TestLogPlaces(t *testing.T) {
	const man, board, away = 0, 1, 2
	c := mates(api.LvRank{}, 5000, 5000, 5000)
	c.Men[away].Ashore = true
	to := [][]api.LvEvent{
		api.LvBoard: nil,
		api.LvAway:  {goes(0, man)},
		api.LvIll:   {sick(0, man)},
	}
	for i, f := range []struct {
		event api.LvEvent
		place [3]int // behind the event, by the place before it; -1 if it cannot be
	}{
		{goes(0, man), [3]int{api.LvAway, -1, -1}},
		{back(0, man), [3]int{-1, api.LvBoard, -1}},
		{sick(0, man), [3]int{api.LvIll, api.LvIll, -1}},
		{well(0, man), [3]int{-1, -1, api.LvBoard}},
		{swap(0, man, away), [3]int{api.LvAway, -1, -1}},
		{swap(0, board, man), [3]int{-1, api.LvBoard, -1}},
		{swap(0, man, board), [3]int{-1, -1, -1}},
		{swap(0, away, man), [3]int{-1, -1, -1}},
	} {
		for place, before := range to {
			what := fmt.Sprint("event ", i, " at the place ", place)
			l := with(before, f.event)
			if f.place[place] < 0 {
				expectLogError(t, what, c, l, len(before), api.ErrDown)
				continue
			}
			expectLog(t, what, c, l, 0, api.OK)
			if all, e := leave.Accounts(c, l, 0); e != api.OK || all[man].Place != f.place[place] {
				t.Errorf("%s: Accounts = %v, %d; the place should be %d", what, all, e, f.place[place])
			}
		}
	}
	all, e := leave.Accounts(c, events(swap(0, board, away)), 0)
	if e != api.OK || all[man].Place != api.LvBoard || all[board].Place != api.LvAway || all[away].Place != api.LvBoard {
		t.Errorf("behind a swap Accounts = %v, %d", all, e)
	}
}

// P10.2: who goes on leave by LvGo is owed a day in the morning; a swap does not ask.
func TestLogOwed(t *testing.T) {
	c := mates(api.LvRank{Earn: 3}, 994, -2, 1000)
	c.Men[2].Ashore = true
	expectLogError(t, "999", c, events(goes(1, 0)), 0, api.ErrDown)
	expectLog(t, "1000", c, events(goes(2, 0)), 0, api.OK)
	expectLogError(t, "997", c, events(goes(333, 1)), 0, api.ErrDown)
	expectLog(t, "1000 from below 0", c, events(goes(334, 1)), 0, api.OK)
	expectLogError(t, "an ill man earns nothing", c, events(sick(0, 0), well(5, 0), goes(6, 0)), 2, api.ErrDown)
	expectLog(t, "an ill man is owed what he was owed", c, events(sick(0, 0), well(5, 0), goes(7, 0)), 0, api.OK)
	expectLog(t, "back on the first day", c, events(back(0, 2), goes(0, 2)), 0, api.OK)
	expectLogError(t, "back after a day", c, events(back(1, 2), goes(1, 2)), 1, api.ErrDown)
	expectLog(t, "less than a day is left, which is nothing to LvBack", c, events(goes(2, 0), back(9, 0)), 0, api.OK)
	expectLogError(t, "what a day earns is not owed on it", c, events(goes(2, 0), back(2, 0), goes(2, 0), back(3, 0), goes(3, 0)), 4, api.ErrDown)
	expectLog(t, "a swap of who is owed less", c, events(swap(0, 1, 2)), 0, api.OK)
	c = mates(api.LvRank{Earn: 1000}, 0, -100000)
	expectLogError(t, "on the first day", c, events(goes(0, 0)), 0, api.ErrDown)
	expectLog(t, "on the next day", c, events(goes(1, 0)), 0, api.OK)
	expectLogError(t, "a day too soon", c, events(goes(100, 1)), 0, api.ErrDown)
	expectLog(t, "as soon as can be", c, events(goes(101, 1)), 0, api.OK)
}

// P10.2: by LvGo at least Least men are left on board; other events do not ask.
func TestLogLeast(t *testing.T) {
	for least := range 6 {
		c := mates(api.LvRank{}, 5000, 5000, 5000, 5000, 999)
		c.Least = least
		var l []api.LvEvent
		for man := range 4 {
			l = with(l, goes(0, man))
		}
		if left := 5 - least; left < 4 {
			expectLogError(t, fmt.Sprint("all go, least ", least), c, l, left, api.ErrZero)
		} else {
			expectLog(t, fmt.Sprint("all but one go, least ", least), c, l, 0, api.OK)
		}
		expectLogError(t, fmt.Sprint("who is not owed a day, least ", least), c, events(goes(0, 4)), 0, api.ErrDown)
		l = nil
		for man := range 5 {
			l = with(l, sick(0, man))
		}
		expectLog(t, fmt.Sprint("all are ill, least ", least), c, l, 0, api.OK)
	}
	c := mates(api.LvRank{}, 5000, 5000, 5000)
	c.Least, c.Men[2].Ashore = 2, true
	expectLog(t, "a swap", c, events(swap(0, 0, 2)), 0, api.OK)
	expectLogError(t, "an ill man is not on board", c, events(back(0, 2), sick(0, 0), goes(0, 1)), 2, api.ErrZero)
	expectLog(t, "a man who is well is on board", c, events(back(0, 2), sick(0, 0), well(0, 0), goes(0, 1)), 0, api.OK)
	c.Least = 3
	expectLogError(t, "fewer than Least are on board before", c, events(goes(0, 0)), 0, api.ErrZero)
}

// P10.2: CheckLog is as it is defined, for logs that can be and logs that cannot.
func TestLogIsTheDefinition(t *testing.T) {
	d := newDice(1)
	times := map[api.Errno]int{}
	for i := range 6000 {
		c, l := d.someCase(i)
		if len(l) > 0 && i%4 > 0 {
			l = d.spoilt(c, l)
		}
		at, e := logErrorOf(c, l)
		times[e]++
		expectLog(t, told(c, l), c, l, at, e)
		if t.Failed() {
			return
		}
	}
	for _, e := range []api.Errno{api.OK, api.ErrArg, api.ErrNone, api.ErrRange, api.ErrDown, api.ErrZero} {
		if times[e] < 50 {
			t.Errorf("the error %d came %d times", e, times[e])
		}
	}
}
