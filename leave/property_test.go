package leave_test

import (
	"slices"
	"testing"

	"nore/api"
	"nore/leave"
)

// mustAccounts are accounts that are without an error.
func mustAccounts(t *testing.T, c api.LvCrew, l []api.LvEvent, day int) []api.LvAccount {
	t.Helper()
	all, e := leave.Accounts(c, l, day)
	if e != api.OK || len(all) != len(c.Men) {
		t.Fatalf("%s: Accounts on %d = %v, %d", told(c, l), day, all, e)
	}
	return all
}

// mustPay is pay that is without an error.
func mustPay(t *testing.T, c api.LvCrew, l []api.LvEvent, from, to int) []int {
	t.Helper()
	pay, e := leave.Pay(c, l, from, to)
	if e != api.OK || len(pay) != len(c.Men) {
		t.Fatalf("%s: Pay from %d to %d = %v, %d", told(c, l), from, to, pay, e)
	}
	return pay
}

// mustFairest are turns that are without an error.
func mustFairest(t *testing.T, c api.LvCrew, p api.LvPlan) ([][]int, int) {
	t.Helper()
	l, most, e := leave.Fairest(c, p)
	if e != api.OK {
		t.Fatalf("%s: Fairest of %v = %v, %d, %d", told(c), p, l, most, e)
	}
	return l, most
}

// P10.7: what a man is owed is what his days come to; his days are together those before. With each day the account changes by one day at the place of the day before.
func TestAccountsAddUp(t *testing.T) {
	d := newDice(7)
	var places [3]int
	for i := range 600 {
		c, l := d.someCase(i)
		var before []api.LvAccount
		for day := range last(l) + 3 {
			all := mustAccounts(t, c, l, day)
			for man, a := range all {
				earn := rankOf(c, man).Earn
				if a.Owed != c.Men[man].Owed+earn*a.Days[api.LvBoard]-1000*a.Days[api.LvAway] || a.Days[0]+a.Days[1]+a.Days[2] != day {
					t.Fatalf("%s: the account of %d on %d is %v", told(c, l), man, day, a)
				}
				if day == 0 {
					continue
				}
				was := before[man]
				was.Days[was.Place]++
				was.Owed += []int{api.LvBoard: earn, api.LvAway: -1000, api.LvIll: 0}[was.Place]
				if a.Days != was.Days || a.Owed != was.Owed {
					t.Fatalf("%s: the account of %d on %d is %v, on the day before %v", told(c, l), man, day, a, before[man])
				}
				places[was.Place]++
			}
			before = all
		}
	}
	if slices.Min(places[:]) < 2000 {
		t.Errorf("so often men were at each place: %v", places)
	}
}

// P10.8: as long as nobody is ill, and at least Least men are on board at first, at least so many are on any day.
func TestEnoughMen(t *testing.T) {
	d := newDice(8)
	just, went := 0, 0
	for i := range 2500 {
		c := d.someCrew()
		if c.Least > onBoardOf(c, nil) {
			continue
		}
		var l []api.LvEvent
		day := 0
		for range []int{10, 40, 80, 80}[i%4] {
			e := d.someEvent(c, day)
			if _, g := leave.CheckLog(c, with(l, e)); e.Kind == api.LvSick || g != api.OK {
				continue
			}
			l, day = with(l, e), e.Day
			if e.Kind == api.LvGo {
				went++
			}
		}
		for day := range last(l) + 2 {
			number := 0
			for _, a := range mustAccounts(t, c, l, day) {
				if a.Place == api.LvBoard {
					number++
				}
			}
			if number < c.Least {
				t.Fatalf("%s: on %d so many are on board: %d", told(c, l), day, number)
			}
			if number == c.Least {
				just++
			}
		}
	}
	if just < 1000 || went < 1000 {
		t.Errorf("so often just Least men were on board: %d, somebody went: %d", just, went)
	}
}

// P10.9: what is paid for days, and for those that follow, is together what is paid for all of them; it differs by less than a penny from what is due in thousandths, and is from nothing to Pay for each day.
func TestToThePenny(t *testing.T) {
	d := newDice(9)
	rounded := 0
	for i := range 800 {
		c, l := d.someCase(i)
		from := d.IntN(last(l) + 4)
		middle := from + d.IntN(6)
		to := middle + d.IntN(6)
		first, second, all := mustPay(t, c, l, from, middle), mustPay(t, c, l, middle, to), mustPay(t, c, l, from, to)
		for man, n := range all {
			due := thousandthsOf(c, l, man, to) - thousandthsOf(c, l, man, from)
			if first[man]+second[man] != n || 1000*n-due >= 1000 || due-1000*n >= 1000 || n < 0 || n > rankOf(c, man).Pay*(to-from) {
				t.Fatalf("%s: Pay of %d from %d to %d is %d, to %d %d, from then on %d; due are %d thousandths", told(c, l), man, from, to, n, middle, first[man], second[man], due)
			}
			if due%1000 != 0 {
				rounded++
			}
		}
	}
	if rounded < 500 {
		t.Errorf("so often pay was rounded: %d", rounded)
	}
}

// P10.10: events of later days change nothing.
func TestLaterEvents(t *testing.T) {
	d := newDice(10)
	later := 0
	for i := range 1500 {
		c, l := d.someCase(i)
		day := d.IntN(last(l) + 1)
		known := upTo(l, day)
		later += len(l) - len(known)
		expectAccounts(t, told(c, l), c, l, day, mustAccounts(t, c, known, day), api.OK)
		next, e := leave.Next(c, known, day)
		expectNext(t, told(c, l), c, l, day, next, e)
		from := d.from(0, day)
		expectPay(t, told(c, l), c, l, from, day, mustPay(t, c, known, from, day), api.OK)
		// Those of the last day do not matter to its pay, which is for the days before it.
		expectPay(t, told(c, l), c, l, from, day, mustPay(t, c, upTo(l, day-1), from, day), api.OK)
		if t.Failed() {
			return
		}
	}
	if later < 1500 {
		t.Errorf("so many later events: %d", later)
	}
}

// P10.10: two events of one day, which follow each other, concern different men and are not LvGo, can change places.
func TestEventsChangePlaces(t *testing.T) {
	d := newDice(11)
	changed, errors := 0, 0
	for i := range 20000 {
		c, l := d.someCase(i)
		if len(l) == api.MaxLvEvents {
			l = l[:api.MaxLvEvents-2]
		}
		x, y := d.someEvent(c, last(l)), d.someEvent(c, last(l))
		y.Day = x.Day
		if x.Kind == api.LvGo || y.Kind == api.LvGo || concern(x, y) {
			continue
		}
		a, b := with(l, x, y), with(l, y, x)
		at, e := leave.CheckLog(c, a)
		_, g := leave.CheckLog(c, b)
		if (e == api.OK) != (g == api.OK) {
			t.Fatalf("%s: CheckLog with %v behind the end = %d, %d; the other way round the error is %d", told(c, l), []api.LvEvent{x, y}, at, e, g)
		}
		if e != api.OK {
			errors++
			continue
		}
		changed++
		day := x.Day + d.IntN(9)
		expectAccounts(t, told(c, a), c, b, day, mustAccounts(t, c, a, day), api.OK)
		expectPay(t, told(c, a), c, b, 0, day, mustPay(t, c, a, 0, day), api.OK)
		if t.Failed() {
			return
		}
	}
	if changed < 200 || errors < 1000 {
		t.Errorf("so often events changed their places: %d, they could not be: %d", changed, errors)
	}
}

// concern reports whether events concern one man both.
func concern(x, y api.LvEvent) bool {
	of := func(e api.LvEvent) []int {
		if e.Kind == api.LvSwap {
			return []int{e.Man, e.Other}
		}
		return []int{e.Man}
	}
	return slices.ContainsFunc(of(x), func(man int) bool { return slices.Contains(of(y), man) })
}

// P10.10: two men who swap, and swap back on the same day, change nothing.
func TestSwapBack(t *testing.T) {
	d := newDice(12)
	swapped := 0
	for i := range 600 {
		c, l := d.someCase(i)
		if len(l) > api.MaxLvEvents-2 {
			continue
		}
		// Somewhere in the log, on the day of the event before.
		at := d.from(0, len(l))
		day := last(l[:at])
		for _, x := range whoIs(c, l[:at], api.LvBoard) {
			for _, y := range whoIs(c, l[:at], api.LvAway) {
				swapped++
				back := slices.Insert(slices.Clone(l), at, swap(day, x, y), swap(day, y, x))
				expectLog(t, told(c, back), c, back, 0, api.OK)
				for day := range last(l) + 3 {
					expectAccounts(t, told(c, back), c, back, day, mustAccounts(t, c, l, day), api.OK)
					expectPay(t, told(c, back), c, back, 0, day, mustPay(t, c, l, 0, day), api.OK)
				}
				if t.Failed() {
					return
				}
			}
		}
	}
	if swapped < 150 {
		t.Errorf("so often men swapped: %d", swapped)
	}
}

// whoIs are the men who are at a place behind all events of a list.
func whoIs(c api.LvCrew, l []api.LvEvent, place int) (who []int) {
	for man := range c.Men {
		if placeOf(c, l, man) == place {
			who = append(who, man)
		}
	}
	return who
}

// P10.11: whoever of Next goes on leave on this day, behind all events of it, meets no error but ErrZero; who is on board, and is not in Next, meets ErrDown.
func TestNextMayGo(t *testing.T) {
	d := newDice(13)
	times := map[api.Errno]int{}
	for i := range 1500 {
		c, l := d.someCase(i)
		day := d.IntN(last(l) + 8)
		known := upTo(l, day)
		if len(known) == api.MaxLvEvents {
			continue
		}
		next, e := leave.Next(c, l, day)
		if e != api.OK {
			t.Fatalf("%s: Next on %d has the error %d", told(c, l), day, e)
		}
		for man, a := range mustAccounts(t, c, l, day) {
			at, e := leave.CheckLog(c, with(known, goes(day, man)))
			isNext := slices.Contains(next, man)
			if isNext && e != api.OK && e != api.ErrZero || !isNext && a.Place == api.LvBoard && e != api.ErrDown || e != api.OK && at != len(known) {
				t.Fatalf("%s: Next on %d = %v; if %d goes, CheckLog = %d, %d", told(c, l), day, next, man, at, e)
			}
			times[e]++
		}
	}
	if times[api.OK] < 500 || times[api.ErrZero] < 500 || times[api.ErrDown] < 500 {
		t.Errorf("so often each error came: %v", times)
	}
}

// P10.12: the turns of Fairest are good, and behind them nobody is owed more than it says; no good turns are fairer.
func TestFair(t *testing.T) {
	d := newDice(14)
	for i := range 500 {
		c, p := d.someCrew(), d.somePlan(3, 60)
		if i%50 == 0 {
			p.Turns = 4
		}
		l, most := mustFairest(t, c, p)
		owed, e := leave.Owed(c, p, l)
		if e != api.OK || slices.Max(owed) != most {
			t.Fatalf("%s: Fairest of %v = %v, %d; Owed = %v, %d", told(c), p, l, most, owed, e)
		}
		for _, other := range goodTurns(c, p) {
			if owed, e := leave.Owed(c, p, other); e != api.OK || slices.Max(owed) < most {
				t.Fatalf("%s: Fairest of %v = %v, %d; Owed behind %v = %v, %d", told(c), p, l, most, other, owed, e)
			}
		}
	}
}

// P10.13: no good turns leave less than Floor to the man who is owed most; for one less the needs are more than there are places, or a man cannot be away so often.
func TestProof(t *testing.T) {
	d := newDice(15)
	reached, above, places, often := 0, 0, 0, 0
	for range 3000 {
		c, p := d.someCrew(), d.somePlan(4, 60)
		_, most := mustFairest(t, c, p)
		floor, e := leave.Floor(c, p)
		if e != api.OK || floor > most {
			t.Fatalf("%s: Floor of %v = %d, %d; Fairest says %d", told(c), p, floor, e, most)
		}
		all, greatest := needsOf(c, p, floor-1)
		switch {
		case greatest > (p.Turns+1)/2:
			often++
		case all > p.Turns*p.Away:
			places++
		default:
			t.Fatalf("%s: Floor of %v = %d, but for one less the needs are %d, the greatest is %d", told(c), p, floor, all, greatest)
		}
		if floor == most {
			reached++
		} else {
			above++
		}
	}
	if reached < 500 || above < 500 || places < 500 || often < 500 {
		t.Errorf("so often the floor was reached: %d, and not: %d; there were too few places: %d, too few turns: %d", reached, above, places, often)
	}
}

// P10.14: if more men can be away at a time, the fairest turns leave no more.
func TestMoreAway(t *testing.T) {
	d := newDice(16)
	fairer := 0
	for range 1500 {
		c, p := d.someCrew(), d.somePlan(4, 60)
		p.Away = 1
		_, one := mustFairest(t, c, p)
		p.Away = 2
		_, two := mustFairest(t, c, p)
		if two > one {
			t.Fatalf("%s: the fairest of %v leave %d; if just one is away %d", told(c), p, two, one)
		}
		if two < one {
			fairer++
		}
	}
	if fairer < 200 {
		t.Errorf("so often turns were fairer: %d", fairer)
	}
}

// P10.14: if each man is owed the same more, so is the greatest number, and the turns are the same.
func TestAllAreOwedMore(t *testing.T) {
	d := newDice(17)
	for range 1500 {
		c, p := d.someCrew(), d.somePlan(4, 60)
		l, most := mustFairest(t, c, p)
		more := d.from(-90000, 90000)
		rich := clone(c)
		for man := range rich.Men {
			rich.Men[man].Owed += more
		}
		expectFairest(t, told(rich), rich, p, l, most+more, api.OK)
		floor, e := leave.Floor(c, p)
		expectFloor(t, told(rich), rich, p, floor+more, e)
		if t.Failed() {
			return
		}
	}
}
