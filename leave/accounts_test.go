package leave_test

import (
	"fmt"
	"testing"

	"nore/api"
)

// The chapter's examples of Accounts and Next.
func TestAccountsExamples(t *testing.T) {
	c, l := exampleC(), exampleL()
	expectAccounts(t, "L", c, l, 3, accounts(
		account(api.LvAway, 3500, 3, 0, 0),
		account(api.LvBoard, -2500, 0, 3, 0),
		account(api.LvAway, 1250, 1, 2, 0),
		account(api.LvBoard, 3750, 3, 0, 0),
	), api.OK)
	expectAccounts(t, "L", c, l, 7, accounts(
		account(api.LvAway, -500, 3, 4, 0),
		account(api.LvBoard, -500, 4, 3, 0),
		account(api.LvBoard, -1500, 2, 5, 0),
		account(api.LvIll, 4000, 4, 0, 3),
	), api.OK)
	expectNext(t, "L", c, l, 0, men(cole, dunn, ames), api.OK)
	expectNext(t, "L", c, l, 3, men(dunn), api.OK)
}

// P10.3: the place is that behind all events of the day, what is owed that in its morning.
func TestAccounts(t *testing.T) {
	c := mates(api.LvRank{Earn: 100}, 1000)
	expect := func(what string, l []api.LvEvent, all ...api.LvAccount) {
		t.Helper()
		for day, a := range all {
			expectAccounts(t, what, c, l, day, accounts(a), api.OK)
		}
	}
	expect("nothing happens", nil, account(0, 1000, 0, 0, 0), account(0, 1100, 1, 0, 0), account(0, 1200, 2, 0, 0))
	expect("he goes on the first day", events(goes(0, 0)), account(1, 1000, 0, 0, 0), account(1, 0, 0, 1, 0), account(1, -1000, 0, 2, 0))
	expect("he goes on the next day, and comes back", events(goes(1, 0), back(3, 0)), account(0, 1000, 0, 0, 0), account(1, 1100, 1, 0, 0), account(1, 100, 1, 1, 0), account(0, -900, 1, 2, 0), account(0, -800, 2, 2, 0))
	expect("he goes and comes back on the same day", events(goes(1, 0), back(1, 0)), account(0, 1000, 0, 0, 0), account(0, 1100, 1, 0, 0), account(0, 1200, 2, 0, 0))
	expect("he is ill for two days", events(sick(1, 0), well(3, 0)), account(0, 1000, 0, 0, 0), account(2, 1100, 1, 0, 0), account(2, 1100, 1, 0, 1), account(0, 1100, 1, 0, 2), account(0, 1200, 2, 0, 2))
	expect("he falls ill on leave", events(goes(0, 0), sick(1, 0), well(2, 0)), account(1, 1000, 0, 0, 0), account(2, 0, 0, 1, 0), account(0, 0, 0, 1, 1), account(0, 100, 1, 1, 1))
	c.Men[0].Ashore = true
	expect("he is ashore at first", nil, account(1, 1000, 0, 0, 0), account(1, 0, 0, 1, 0), account(1, -1000, 0, 2, 0))
	expect("he is ashore, and comes on the first day", events(back(0, 0)), account(0, 1000, 0, 0, 0), account(0, 1100, 1, 0, 0))
	c = full()
	c.Least = 0
	c.Men = c.Men[:3]
	c.Men[1].Ashore, c.Men[1].Owed = true, -100000
	expectAccounts(t, "the last day", c, events(sick(0, 2), goes(40000, 0)), 40000, accounts(
		account(1, 40100000, 40000, 0, 0),
		account(1, -40100000, 0, 40000, 0),
		account(2, 100000, 0, 0, 40000),
	), api.OK)
}

// P10.3: days that are none; a log's error comes first.
func TestAccountsDays(t *testing.T) {
	c, l := exampleC(), exampleL()
	for _, day := range append([]int{-1, 40001}, far...) {
		expectAccounts(t, "no day", c, l, day, nil, api.ErrRange)
		expectNext(t, "no day", c, l, day, nil, api.ErrRange)
		expectLogError(t, "no day, and no log", c, events(back(day, ames)), 0, api.ErrRange)
		expectAccounts(t, "no day, and no log", c, events(back(0, ames)), day, nil, api.ErrDown)
		expectNext(t, "no day, and no log", c, events(back(0, ames)), day, nil, api.ErrDown)
	}
	expectNext(t, "the last day", c, nil, 40000, men(ames, cole, dunn), api.OK)
	// Events of later days have to be without errors, though they do not matter.
	expectAccounts(t, "a later error", c, events(back(9, ames)), 3, nil, api.ErrDown)
	expectNext(t, "a later error", c, events(back(9, ames)), 3, nil, api.ErrDown)
}

// P10.3: who is owed more comes first, then who has the lower rank, then the lower index; who is not on board, or is owed less than a day, does not come.
func TestNext(t *testing.T) {
	c := full()
	for man := range c.Men {
		c.Men[man].Owed = 1000
	}
	order := func(what string, want []int, change func(c *api.LvCrew)) {
		t.Helper()
		c := clone(c)
		change(&c)
		expectNext(t, what, c, nil, 0, want, api.OK)
	}
	order("all are owed the same", men(0, 3, 1, 4, 2), func(*api.LvCrew) {})
	order("one is owed more", men(2, 0, 3, 1, 4), func(c *api.LvCrew) { c.Men[2].Owed = 1001 })
	order("the others of two ranks are owed more", men(3, 4, 0, 1, 2), func(c *api.LvCrew) { c.Men[3].Owed, c.Men[4].Owed = 1001, 1001 })
	order("one is owed less", men(0, 3, 1, 2), func(c *api.LvCrew) { c.Men[4].Owed = 999 })
	order("one is ashore", men(0, 3, 1, 4), func(c *api.LvCrew) { c.Men[2].Ashore, c.Men[2].Owed = true, 9000 })
	order("all are of one rank", men(0, 1, 2, 3, 4), func(c *api.LvCrew) {
		for man := range c.Men {
			c.Men[man].Rank = 1
		}
	})
	order("ranks from the last man on", men(4, 3, 2, 1, 0), func(c *api.LvCrew) {
		c.Men[4].Rank, c.Men[3].Rank, c.Men[2].Rank, c.Men[1].Rank, c.Men[0].Rank = 0, 1, 1, 2, 2
		c.Men[3].Owed, c.Men[1].Owed = 1002, 1001
		c.Men[4].Owed = 1003
		c.Men[2].Owed = 1001
	})
	order("nobody is owed a day", nil, func(c *api.LvCrew) {
		for man := range c.Men {
			c.Men[man].Owed = -man
		}
	})
	order("all are ashore", nil, func(c *api.LvCrew) {
		for man := range c.Men {
			c.Men[man].Ashore = true
		}
	})
	l := events(sick(1, 0))
	c = mates(api.LvRank{Earn: 250}, 900, 800, 600)
	for day, want := range [][]int{nil, {0, 1}, {1, 2}, {1, 2}} {
		if day == 1 {
			want = men(1) // the one who is owed more falls ill on this day
		}
		expectNext(t, fmt.Sprint("on ", day), c, l, day, want, api.OK)
	}
}

// P10.3: Accounts and Next are as they are defined.
func TestAccountsAreTheDefinition(t *testing.T) {
	d := newDice(2)
	events, later, several := 0, 0, 0
	for i := range 1500 {
		c, l := d.someCase(i)
		day := d.IntN(last(l) + 8)
		what := told(c, l)
		next := nextOf(c, l, day)
		expectAccounts(t, what, c, l, day, accountsOf(c, l, day), api.OK)
		expectNext(t, what, c, l, day, next, api.OK)
		if t.Failed() {
			return
		}
		events += len(l)
		later += len(l) - len(upTo(l, day))
		if len(next) > 1 {
			several++
		}
	}
	if events < 6000 || later < 1500 || several < 400 {
		t.Errorf("so many events: %d, later ones: %d; so often several were next: %d", events, later, several)
	}
}
