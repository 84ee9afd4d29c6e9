package watch_test

import (
	"fmt"
	"slices"
	"testing"

	"nore/api"
	"nore/watch"
)

// expectCheck tells if Check does not return this, and if with an error the other functions do not return it too, whatever else is asked, and nothing besides.
func expectCheck(t *testing.T, what string, c api.WaCase, part, at int, e api.Errno) {
	t.Helper()
	if p, i, g := watch.Check(c); p != part || i != at || g != e {
		t.Errorf("%s: Check = %d, %d, %d; it should be %d, %d, %d", what, p, i, g, part, at, e)
	}
	if e == api.OK {
		expectBad(t, what, c, nil, -1, api.WaGood, 0, api.OK)
		expectRotaError(t, what, c, single(99), api.ErrNone)
		return
	}
	expectLongest(t, what, c, 0, e)
	expectEndless(t, what, c, nil, 0, e)
	expectFewest(t, what, c, nil, e)
	expectNeeded(t, what, c, nil, e)
	for _, rota := range [][][]int{nil, single(0, 1), single(99), make([][]int, 13), make([][]int, 41), {{1, 0}}} {
		expectRotaError(t, what, c, rota, e)
	}
}

// expectRotaError tells if a function with a rota does not return this error, which is not OK, or returns anything besides.
func expectRotaError(t *testing.T, what string, c api.WaCase, rota [][]int, e api.Errno) {
	t.Helper()
	expectBad(t, what, c, rota, 0, 0, 0, e)
	expectStood(t, what, c, rota, nil, e)
	expectCan(t, what, c, rota, nil, e)
	expectNext(t, what, c, rota, nil, e)
	expectFill(t, what, c, rota, nil, e)
	for _, from := range []int{0, -1, len(rota), len(rota) + 1, far[0]} {
		expectMissing(t, what, c, rota, from, nil, e)
	}
}

// P7.1: cases without an error.
func TestCheckGood(t *testing.T) {
	for what, c := range map[string]api.WaCase{
		"C":                   exampleC(),
		"D":                   exampleD(),
		"E":                   exampleE(),
		"full":                full(),
		"free":                free(),
		"as little as can be": alike(1, 1, 1, 1),
	} {
		expectCheck(t, what, c, 0, 0, api.OK)
	}
	c := exampleC()
	c.Men[0].Name, c.Men[1].Name, c.Men[2].Name = "abcdefghijklmn", "a", "a-b"
	expectCheck(t, "names", c, 0, 0, api.OK)
}

// P7.1: too many, and too few, of all that is counted.
func TestCheckCounts(t *testing.T) {
	for _, n := range []int{0, 1, 2, 3, 4, 5, 6, 7, 8, 26, 1 << 16} {
		c := exampleC()
		c.Men = slices.Repeat([]api.WaMan{man("a", 0)}, n)
		for i := range min(n, 26) {
			c.Men[i].Name = letter(i)
		}
		if n >= 1 && n <= 5 {
			expectCheck(t, fmt.Sprint(n, " men"), c, 0, 0, api.OK)
		} else {
			expectCheck(t, fmt.Sprint(n, " men"), c, 1, 0, api.ErrLong)
		}
		c = exampleC()
		c.Men[cid].Not = nil
		c.Slots = slices.Repeat([]api.WaSlot{slot(1, 0)}, n)
		if n >= 1 && n <= 6 {
			expectCheck(t, fmt.Sprint(n, " slots"), c, 0, 0, api.OK)
		} else {
			expectCheck(t, fmt.Sprint(n, " slots"), c, 1, 0, api.ErrLong)
		}
	}
}

// P7.1, R5: both ends of each range, and numbers far beyond.
func TestCheckRanges(t *testing.T) {
	for i, f := range []struct {
		at       func(c *api.WaCase) *int
		lo, hi   int
		part, in int
	}{
		{func(c *api.WaCase) *int { return &c.Run }, 1, 3, 1, 0},
		{func(c *api.WaCase) *int { return &c.Rest }, 1, 3, 1, 0},
		{func(c *api.WaCase) *int { return &c.Slots[0].Men }, 1, 2, 2, 0},
		{func(c *api.WaCase) *int { return &c.Slots[5].Men }, 1, 2, 2, 5},
		{func(c *api.WaCase) *int { return &c.Slots[0].Least }, 0, 3, 2, 0},
		{func(c *api.WaCase) *int { return &c.Slots[5].Least }, 0, 3, 2, 5},
		{func(c *api.WaCase) *int { return &c.Men[0].Kind }, 0, 3, 3, 0},
		{func(c *api.WaCase) *int { return &c.Men[4].Kind }, 0, 3, 3, 4},
	} {
		for n := f.lo; n <= f.hi; n++ {
			c := full()
			*f.at(&c) = n
			expectCheck(t, fmt.Sprint("number ", i, " ", n), c, 0, 0, api.OK)
		}
		for _, n := range append([]int{f.lo - 1, f.hi + 1}, far...) {
			c := full()
			*f.at(&c) = n
			expectCheck(t, fmt.Sprint("number ", i, " ", n), c, f.part, f.in, api.ErrRange)
		}
	}
	for _, n := range append([]int{-1, 6}, far...) {
		for at := range 6 {
			c := full()
			c.Men[4].Not[at] = n
			expectCheck(t, fmt.Sprint("Not ", n), c, 3, 4, api.ErrNone)
		}
	}
}

// P7.1: names that are none, and names that are there already.
func TestCheckNames(t *testing.T) {
	for _, name := range []string{"", "-", "a-", "-a", "a--b", "A", "old ben", "ben1", "abcdefghijklmno", "\u0161"} {
		for i := range api.MaxWaMen {
			c := full()
			c.Men[i].Name = name
			expectCheck(t, fmt.Sprintf("name %q", name), c, 3, i, api.ErrForm)
			c.Men[i].Kind, c.Men[i].Not = 4, []int{9}
			expectCheck(t, fmt.Sprintf("name %q, and no numbers", name), c, 3, i, api.ErrForm)
		}
	}
	c := full()
	c.Men[0].Name, c.Men[1].Name = "", ""
	expectCheck(t, "the same name, which is none", c, 3, 0, api.ErrForm)
	for i := range api.MaxWaMen {
		for k := range i {
			c := full()
			c.Men[i].Name = c.Men[k].Name
			expectCheck(t, fmt.Sprint("name twice ", k, " ", i), c, 3, i, api.ErrTwice)
			c.Men[i].Kind = -1
			expectCheck(t, fmt.Sprint("name twice ", k, " ", i, ", and no kind"), c, 3, i, api.ErrTwice)
		}
	}
}

// P7.1: Not with numbers that are no slots, or not ascending; the first of these decides.
func TestCheckNot(t *testing.T) {
	for _, f := range []struct {
		not []int
		e   api.Errno
	}{
		{nil, api.OK},
		{[]int{0}, api.OK},
		{[]int{2}, api.OK},
		{[]int{0, 2}, api.OK},
		{[]int{0, 1, 2}, api.OK},
		{[]int{3}, api.ErrNone},
		{[]int{-1}, api.ErrNone},
		{[]int{0, 1, 2, 3}, api.ErrNone},
		{[]int{0, -1}, api.ErrNone},
		{[]int{1, 1}, api.ErrArg},
		{[]int{2, 0}, api.ErrArg},
		{[]int{0, 1, 2, 2}, api.ErrArg},
		{[]int{1, 0, 3}, api.ErrArg},
		{[]int{3, 0, 0}, api.ErrNone},
		{[]int{0, 0, -1}, api.ErrArg},
		{make([]int, 1<<16), api.ErrArg},
	} {
		for i := range 3 {
			c := exampleC()
			c.Men[i].Not = f.not
			part, at := 3, i
			if f.e == api.OK {
				part, at = 0, 0
			}
			expectCheck(t, fmt.Sprint("Not ", f.not[:min(9, len(f.not))]), c, part, at, f.e)
			if f.e != api.OK {
				c.Men[i].Kind = 4
				expectCheck(t, fmt.Sprint("Not ", f.not[:min(9, len(f.not))], ", and no kind"), c, 3, i, api.ErrRange)
			}
		}
	}
}

// R1: of two errors the one that is named first is returned.
func TestCheckOrder(t *testing.T) {
	changes := []struct {
		change   func(c *api.WaCase)
		part, at int
		e        api.Errno
	}{
		{func(c *api.WaCase) { c.Men = append(c.Men, man("f", 0)) }, 1, 0, api.ErrLong},
		{func(c *api.WaCase) { c.Slots = append(c.Slots, slot(1, 0)) }, 1, 0, api.ErrLong},
		{func(c *api.WaCase) { c.Rest = 0 }, 1, 0, api.ErrRange},
		{func(c *api.WaCase) { c.Run = 4 }, 1, 0, api.ErrRange},
		{func(c *api.WaCase) { c.Slots[0].Least = -1 }, 2, 0, api.ErrRange},
		{func(c *api.WaCase) { c.Slots[1].Men = 0 }, 2, 1, api.ErrRange},
		{func(c *api.WaCase) { c.Slots[5].Men = 3 }, 2, 5, api.ErrRange},
		{func(c *api.WaCase) { c.Men[0].Not[0] = 6 }, 3, 0, api.ErrNone},
		{func(c *api.WaCase) { c.Men[1].Not[1] = 0 }, 3, 1, api.ErrArg},
		{func(c *api.WaCase) { c.Men[2].Kind = 4 }, 3, 2, api.ErrRange},
		{func(c *api.WaCase) { c.Men[3].Name = c.Men[2].Name }, 3, 3, api.ErrTwice},
		{func(c *api.WaCase) { c.Men[4].Name = "-" }, 3, 4, api.ErrForm},
	}
	for i, f := range changes {
		for _, g := range changes[i:] {
			c := full()
			f.change(&c)
			g.change(&c)
			expectCheck(t, fmt.Sprint("change ", i), c, f.part, f.at, f.e)
		}
	}
}

// Errors of a rota: as many rows as can be, and more; numbers that are no men, or not ascending; the first one in the first row decides.
func TestRotaErrors(t *testing.T) {
	for _, f := range []struct {
		rota [][]int
		e    api.Errno
	}{
		{nil, api.OK},
		{make([][]int, 40), api.OK},
		{make([][]int, 41), api.ErrLong},
		{make([][]int, 1<<16), api.ErrLong},
		{slices.Repeat(single(9), 41), api.ErrLong},
		{append(make([][]int, 39), []int{3}), api.ErrNone},
		{append(make([][]int, 39), []int{1, 0}), api.ErrArg},
		{single(0, 1, 2), api.OK},
		{single(3), api.ErrNone},
		{[][]int{{-1}}, api.ErrNone},
		{[][]int{{0, 3}}, api.ErrNone},
		{[][]int{{0, 1, 2}}, api.OK},
		{[][]int{{0, 1, 2, 3}}, api.ErrNone},
		{[][]int{{0, 1, 2, 2}}, api.ErrArg},
		{[][]int{{0, 0}}, api.ErrArg},
		{[][]int{{2, 1}}, api.ErrArg},
		{[][]int{{1, 0, 3}}, api.ErrArg},
		{[][]int{{3, 1, 0}}, api.ErrNone},
		{[][]int{{0, -1}}, api.ErrNone},
		{[][]int{{0}, {1, 1}, {3}}, api.ErrArg},
		{[][]int{{0}, {3}, {1, 1}}, api.ErrNone},
		{[][]int{{0}, nil, {2, 0}}, api.ErrArg},
		{[][]int{make([]int, 1<<16)}, api.ErrArg},
	} {
		what := fmt.Sprint(len(f.rota), " rows, ", f.e)
		if f.e != api.OK {
			expectRotaError(t, what, exampleC(), f.rota, f.e)
		} else if _, _, _, e := watch.Bad(exampleC(), f.rota); e != api.OK {
			t.Errorf("%s: Bad of %v has the error %d", what, f.rota, e)
		}
	}
	for _, n := range far {
		expectRotaError(t, fmt.Sprint("man ", n), exampleC(), [][]int{{0}, {n}}, api.ErrNone)
		expectRotaError(t, fmt.Sprint("man ", n), free(), [][]int{{0, 1}, {2, n}}, api.ErrNone)
	}
	for men := range 5 {
		c := alike(men+1, 1, 1, 1)
		expectRotaError(t, fmt.Sprint("man ", men+1, " of as many"), c, single(men, men+1), api.ErrNone)
		expectBad(t, fmt.Sprint("the last of ", men+1), c, single(men), -1, api.WaGood, 0, api.OK)
	}
}
