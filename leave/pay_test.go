package leave_test

import (
	"testing"

	"nore/api"
)

// The chapter's examples of Pay.
func TestPayExamples(t *testing.T) {
	c, l := exampleC(), exampleL()
	expectPay(t, "L", c, l, 0, 7, men(500, 550, 148, 132), api.OK)
	expectPay(t, "L", c, l, 0, 1, men(100, 50, 33, 33), api.OK)
}

// P10.4: what is due by days is rounded down, not what is paid for some days.
func TestPay(t *testing.T) {
	c := mates(api.LvRank{Pay: 1, Leave: 400, Ill: 50}, 5000)
	expect := func(what string, l []api.LvEvent, days ...int) {
		t.Helper()
		for day, n := range days {
			expectPay(t, what, c, l, day, day+1, men(n), api.OK)
		}
	}
	expect("nothing happens", nil, 1, 1, 1, 1)
	expect("on leave", events(goes(0, 0)), 0, 0, 1, 0, 1, 0, 0, 1)
	expect("on leave for a day", events(goes(1, 0), back(2, 0)), 1, 0, 1, 1, 1)
	expect("on leave for three days", events(goes(1, 0), back(4, 0)), 1, 0, 0, 1, 1, 1)
	expect("ill", events(sick(0, 0)), 0, 0, 0, 0, 0, 0, 0, 0, 0, 0, 0, 0, 0, 0, 0, 0, 0, 0, 0, 1)
	expect("on leave, then ill", events(goes(0, 0), sick(2, 0)), 0, 0, 0, 0, 0, 1, 0, 0)
	expectPay(t, "on leave", c, events(goes(0, 0)), 1, 3, men(1), api.OK)
	expectPay(t, "on leave", c, events(goes(0, 0)), 3, 4, men(0), api.OK)
	expectPay(t, "on leave", c, events(goes(0, 0)), 0, 40000, men(16000), api.OK)
	c = mates(api.LvRank{Pay: 999, Leave: 999, Ill: 999}, 5000, 5000, 5000)
	c.Men[1].Ashore = true
	expectPay(t, "odd numbers", c, events(sick(0, 2)), 0, 1, men(999, 998, 998), api.OK)
	expectPay(t, "odd numbers", c, events(sick(0, 2)), 0, 1001, men(999999, 998999, 998999), api.OK)
	c = full()
	expectPay(t, "as much as can be", c, nil, 0, 40000, men(40000000, 40000000, 40000000, 40000000, 40000000), api.OK)
	expectPay(t, "the last day", c, nil, 39999, 40000, men(1000, 1000, 1000, 1000, 1000), api.OK)
	c = mates(api.LvRank{}, 0)
	expectPay(t, "no pay", c, nil, 0, 40000, men(0), api.OK)
}

// P10.4: days that are none, then days in the wrong order; a log's error comes first.
func TestPayDays(t *testing.T) {
	c, l := exampleC(), exampleL()
	for _, n := range append([]int{-1, 40001}, far...) {
		for _, day := range []int{n, 0, 7, 40000} {
			expectPay(t, "no day", c, l, n, day, nil, api.ErrRange)
			expectPay(t, "no day", c, l, day, n, nil, api.ErrRange)
			expectPay(t, "no day, and no log", c, events(well(0, ames)), n, day, nil, api.ErrDown)
		}
	}
	for day := range 9 {
		expectPay(t, "the same day", c, l, day, day, men(0, 0, 0, 0), api.OK)
		expectPay(t, "the day before", c, l, day+1, day, nil, api.ErrArg)
		expectPay(t, "from the last day", c, l, 40000, day, nil, api.ErrArg)
		expectPay(t, "the day before, and no log", c, events(well(0, ames)), day+1, day, nil, api.ErrDown)
	}
	expectPay(t, "the last day", c, l, 40000, 40000, men(0, 0, 0, 0), api.OK)
	expectPay(t, "a later error", c, events(back(9, ames)), 0, 3, nil, api.ErrDown)
}

// P10.4: Pay is as it is defined.
func TestPayIsTheDefinition(t *testing.T) {
	d := newDice(3)
	paid := 0
	for i := range 1500 {
		c, l := d.someCase(i)
		from := d.IntN(last(l) + 4)
		to := from + d.IntN(8)
		want := payOf(c, l, from, to)
		expectPay(t, told(c, l), c, l, from, to, want, api.OK)
		if t.Failed() {
			return
		}
		for _, n := range want {
			if n > 0 {
				paid++
			}
		}
	}
	if paid < 1500 {
		t.Errorf("so often something was paid: %d", paid)
	}
}
