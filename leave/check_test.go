package leave_test

import (
	"fmt"
	"testing"

	"nore/api"
	"nore/leave"
)

// expectCheck tells if Check does not return this, and if with an error the other functions do not return it too, whatever else is asked, and nothing besides.
func expectCheck(t *testing.T, what string, c api.LvCrew, part, at int, e api.Errno) {
	t.Helper()
	if p, i, g := leave.Check(c); p != part || i != at || g != e {
		t.Errorf("%s: Check = %d, %d, %d; it should be %d, %d, %d", what, p, i, g, part, at, e)
	}
	if e == api.OK {
		expectLog(t, what, c, nil, 0, api.OK)
		expectLogError(t, what, c, events(api.LvEvent{}), 0, api.ErrArg)
		expectPlan(t, what, c, plan(1, 1, 1), api.OK)
		expectPlanError(t, what, c, api.LvPlan{}, api.ErrRange)
		return
	}
	for _, l := range [][]api.LvEvent{nil, make([]api.LvEvent, 1), make([]api.LvEvent, 21), events(sick(0, 0), back(0, 9))} {
		expectLogError(t, what, c, l, 0, e)
	}
	for _, p := range []api.LvPlan{{}, plan(1, 1, 1), exampleP(), plan(9, 99, 9)} {
		expectPlanError(t, what, c, p, e)
	}
}

// P10.1: crews without an error.
func TestCheckGood(t *testing.T) {
	for what, c := range map[string]api.LvCrew{
		"C":                   exampleC(),
		"full":                full(),
		"one man":             mates(api.LvRank{}, 0),
		"as little as can be": {Ranks: []api.LvRank{{Name: "a"}}, Men: []api.LvMan{{Name: "a", Owed: -100000}}},
	} {
		expectCheck(t, what, c, 0, 0, api.OK)
	}
	c := full()
	c.Ranks[0].Name, c.Ranks[1].Name, c.Ranks[2].Name = "abcdefghijklmn", "a", "a-b"
	c.Men[0].Name, c.Men[4].Name = "a", "abcdefghijklmn"
	expectCheck(t, "names, which men have as ranks do", c, 0, 0, api.OK)
	c = mates(api.LvRank{}, 0)
	c.Least = 5
	expectCheck(t, "a Least above the number of men", c, 0, 0, api.OK)
	c = full()
	for i := range c.Men {
		c.Men[i].Rank, c.Men[i].Ashore = 1, true
	}
	expectCheck(t, "ranks that nobody has, and nobody on board", c, 0, 0, api.OK)
}

// P10.1: too many, and too few, of all that is counted.
func TestCheckCounts(t *testing.T) {
	for _, n := range []int{0, 1, 2, 3, 4, 5, 6, 7, 26, 1 << 16} {
		c := full()
		c.Ranks = make([]api.LvRank, n)
		for i := range min(n, 26) {
			c.Ranks[i].Name = letter(i)
		}
		for i := range c.Men {
			c.Men[i].Rank = 0
		}
		if n >= 1 && n <= 3 {
			expectCheck(t, fmt.Sprint(n, " ranks"), c, 0, 0, api.OK)
		} else {
			expectCheck(t, fmt.Sprint(n, " ranks"), c, 1, 0, api.ErrLong)
		}
		c = full()
		c.Men = make([]api.LvMan, n)
		for i := range min(n, 26) {
			c.Men[i].Name = letter(i)
		}
		if n >= 1 && n <= 5 {
			expectCheck(t, fmt.Sprint(n, " men"), c, 0, 0, api.OK)
		} else {
			expectCheck(t, fmt.Sprint(n, " men"), c, 1, 0, api.ErrLong)
		}
	}
}

// number is a number of a crew, its range, and the part and the index in it that have this error if it is not in range.
type number struct {
	at       func(c *api.LvCrew) *int
	lo, hi   int
	part, in int
	e        api.Errno
}

// numbers are all numbers of a full crew that have a range, of the first and the last of each.
func numbers() []number {
	l := []number{{func(c *api.LvCrew) *int { return &c.Least }, 0, 5, 1, 0, api.ErrRange}}
	for _, i := range []int{0, 2} {
		l = append(l,
			number{func(c *api.LvCrew) *int { return &c.Ranks[i].Pay }, 0, 1000, 2, i, api.ErrRange},
			number{func(c *api.LvCrew) *int { return &c.Ranks[i].Leave }, 0, 1000, 2, i, api.ErrRange},
			number{func(c *api.LvCrew) *int { return &c.Ranks[i].Ill }, 0, 1000, 2, i, api.ErrRange},
			number{func(c *api.LvCrew) *int { return &c.Ranks[i].Earn }, 0, 1000, 2, i, api.ErrRange})
	}
	for _, i := range []int{0, 4} {
		l = append(l,
			number{func(c *api.LvCrew) *int { return &c.Men[i].Rank }, 0, 2, 3, i, api.ErrNone},
			number{func(c *api.LvCrew) *int { return &c.Men[i].Owed }, -100000, 100000, 3, i, api.ErrRange})
	}
	return l
}

// P10.1, R5: both ends of each range, and numbers far beyond.
func TestCheckRanges(t *testing.T) {
	for i, f := range numbers() {
		for _, n := range []int{f.lo, f.lo + 1, f.hi - 1, f.hi} {
			c := full()
			*f.at(&c) = n
			expectCheck(t, fmt.Sprint("number ", i, " ", n), c, 0, 0, api.OK)
		}
		for _, n := range append([]int{f.lo - 1, f.hi + 1}, far...) {
			c := full()
			*f.at(&c) = n
			expectCheck(t, fmt.Sprint("number ", i, " ", n), c, f.part, f.in, f.e)
		}
	}
	for ranks := 1; ranks <= 3; ranks++ {
		for rank := -1; rank <= 4; rank++ {
			c := full()
			c.Ranks = c.Ranks[:ranks]
			c.Men = c.Men[:1]
			c.Men[0].Rank = rank
			if rank >= 0 && rank < ranks {
				expectCheck(t, fmt.Sprint("rank ", rank, " of ", ranks), c, 0, 0, api.OK)
			} else {
				expectCheck(t, fmt.Sprint("rank ", rank, " of ", ranks), c, 3, 0, api.ErrNone)
			}
		}
	}
}

// P10.1: names that are none, and names that are there already.
func TestCheckNames(t *testing.T) {
	for _, name := range []string{"", "-", "a-", "-a", "a--b", "A", "first mate", "mate1", "abcdefghijklmno", "\u0161"} {
		for i := range api.MaxLvRanks {
			c := full()
			c.Ranks[i].Name = name
			expectCheck(t, fmt.Sprintf("rank %q", name), c, 2, i, api.ErrForm)
			c.Ranks[i].Pay = -1
			expectCheck(t, fmt.Sprintf("rank %q, and a number", name), c, 2, i, api.ErrForm)
		}
		for i := range api.MaxLvMen {
			c := full()
			c.Men[i].Name = name
			expectCheck(t, fmt.Sprintf("man %q", name), c, 3, i, api.ErrForm)
			c.Men[i].Rank, c.Men[i].Owed = 3, 100001
			expectCheck(t, fmt.Sprintf("man %q, and numbers", name), c, 3, i, api.ErrForm)
		}
	}
	c := full()
	c.Men[0].Name, c.Men[1].Name = "", ""
	expectCheck(t, "the same name, which is none", c, 3, 0, api.ErrForm)
	for i := range api.MaxLvMen {
		for k := range i {
			c := full()
			c.Men[i].Name = c.Men[k].Name
			expectCheck(t, fmt.Sprint("man twice ", k, " ", i), c, 3, i, api.ErrTwice)
			c.Men[i].Rank = -1
			expectCheck(t, fmt.Sprint("man twice ", k, " ", i, ", and a number"), c, 3, i, api.ErrTwice)
			if i >= api.MaxLvRanks {
				continue
			}
			c = full()
			c.Ranks[i].Name = c.Ranks[k].Name
			expectCheck(t, fmt.Sprint("rank twice ", k, " ", i), c, 2, i, api.ErrTwice)
			c.Ranks[i].Earn = 1001
			expectCheck(t, fmt.Sprint("rank twice ", k, " ", i, ", and a number"), c, 2, i, api.ErrTwice)
		}
	}
	c = full()
	c.Men[2].Rank, c.Men[2].Owed = 3, 100001
	expectCheck(t, "a rank before a number", c, 3, 2, api.ErrNone)
}

// R1: of two errors the one that is named first is returned.
func TestCheckOrder(t *testing.T) {
	changes := []struct {
		change   func(c *api.LvCrew)
		part, at int
		e        api.Errno
	}{
		{func(c *api.LvCrew) { c.Men = append(c.Men, api.LvMan{}) }, 1, 0, api.ErrLong},
		{func(c *api.LvCrew) { c.Least = -1 }, 1, 0, api.ErrRange},
		{func(c *api.LvCrew) { c.Ranks[0].Ill = 1001 }, 2, 0, api.ErrRange},
		{func(c *api.LvCrew) { c.Ranks[1].Name = "-" }, 2, 1, api.ErrForm},
		{func(c *api.LvCrew) { c.Ranks[2].Name = c.Ranks[0].Name }, 2, 2, api.ErrTwice},
		{func(c *api.LvCrew) { c.Men[0].Owed = -100001 }, 3, 0, api.ErrRange},
		{func(c *api.LvCrew) { c.Men[1].Rank = 3 }, 3, 1, api.ErrNone},
		{func(c *api.LvCrew) { c.Men[3].Name = c.Men[0].Name }, 3, 3, api.ErrTwice},
		{func(c *api.LvCrew) { c.Men[4].Name = "" }, 3, 4, api.ErrForm},
	}
	for i, f := range changes {
		for k, g := range changes[i:] {
			c := full()
			g.change(&c)
			f.change(&c)
			expectCheck(t, fmt.Sprint("changes ", i, " and ", i+k), c, f.part, f.at, f.e)
		}
	}
	c := full()
	c.Ranks, c.Least = nil, 6
	expectCheck(t, "no ranks, and a number", c, 1, 0, api.ErrLong)
}

// P10.5: both ends of each range of a plan, and numbers far beyond.
func TestCheckPlan(t *testing.T) {
	for _, c := range []api.LvCrew{exampleC(), full(), mates(api.LvRank{}, 0)} {
		for _, n := range append([]int{-1, 0, 1, 2, 3, 4, 5, 59, 60, 61}, far...) {
			for i, f := range []struct {
				p  api.LvPlan
				hi int
			}{{plan(n, 60, 2), 4}, {plan(4, n, 1), 60}, {plan(1, 1, n), 2}} {
				if n >= 1 && n <= f.hi {
					expectPlan(t, fmt.Sprint("number ", i), c, f.p, api.OK)
				} else {
					expectPlanError(t, fmt.Sprint("number ", i), c, f.p, api.ErrRange)
				}
			}
		}
	}
}
