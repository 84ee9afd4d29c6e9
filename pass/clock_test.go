package pass_test

import (
	"slices"
	"testing"

	"nore/api"
	"nore/pass"
)

// expectAll tells if a function does not return what the chapter's definitions say of a log with these truths that fit.
func expectAll(t *testing.T, what string, l api.PaLog, truths []truth) {
	t.Helper()
	if len(truths) == 0 {
		expectDown(t, what, l)
		return
	}
	expectFits(t, what, l, true, api.OK)
	for i := range l.Books {
		expectOffs(t, what, l, i, offsOf(l, truths, i), api.OK)
	}
	for x, entry := range entriesOf(l) {
		expectInstant(t, what, l, x, instantsOf(l, truths, x), api.OK)
		for y := range entriesOf(l) {
			s, order := apartOf(l, truths, x, y)
			expectApart(t, what, l, x, y, s, order, api.OK)
		}
		if entry.Kind == api.PaPass {
			expectSame(t, what, l, x, sameOf(l, truths, x), api.OK)
		} else {
			expectSame(t, what, l, x, nil, api.ErrArg)
		}
	}
}

// P11.2, P11.3: the chapter's examples.
func TestExamples(t *testing.T) {
	l, m := exampleL(), exampleM()
	expectFits(t, "L", l, true, api.OK)
	expectFits(t, "M", m, false, api.OK)
	expectOffs(t, "L", l, bridge, spans(span(5, 10), span(0, 2)), api.OK)
	expectOffs(t, "L", l, deck, spans(span(-15, -10)), api.OK)
	expectInstant(t, "L", l, at(bridge, 0), span(90, 95), api.OK)
	expectInstant(t, "L", l, at(bridge, 3), span(123, 125), api.OK)
	expectInstant(t, "L", l, at(deck, 2), span(122, 127), api.OK)
	expectApart(t, "L", l, at(bridge, 0), at(deck, 1), span(15, 15), api.PaBefore, api.OK)
	expectApart(t, "L", l, at(bridge, 3), at(deck, 2), span(-3, 2), api.PaEither, api.OK)
	expectApart(t, "L", l, at(bridge, 1), at(deck, 0), span(0, 0), api.PaOnce, api.OK)
	expectSame(t, "L", l, at(bridge, 0), nil, api.OK)
	expectSame(t, "L", l, at(bridge, 3), ats(at(deck, 2)), api.OK)
	expectNeed(t, "L", l, 0, api.OK)
	expectNeed(t, "M", m, 8, api.OK)
	expectConfused(t, "L", l, nil, api.OK)
	expectConfused(t, "M", m, list(1), api.OK)
	expectReports(t, "L", l, nil, nil, api.OK)
	expectWrite(t, "L", l, exampleText, api.OK)
	expectDown(t, "M", m)
}

// The 9th example of DOC.md: by a report that two books have one clock is 20 minutes behind the other.
func TestTwentyMinutes(t *testing.T) {
	l := log(0, book("a", span(5, 5), span(0, 0), report(110, "sunk", 1)), book("b", span(-720, 720), span(0, 0), report(90, "sunk", 1)))
	expectOffs(t, "it", l, 1, spans(span(-15, -15)), api.OK)
}

// P11.2: logs of one book.
func TestOneBook(t *testing.T) {
	for what, c := range map[string]struct {
		l    api.PaLog
		offs []api.Span
	}{
		"no entries":                         {alone(), spans(span(-10, 10))},
		"one entry":                          {alone(ship(7, "a")), spans(span(-10, 10))},
		"the same shown twice":               {alone(ship(7, "a"), ship(7, "b")), spans(span(-10, 10))},
		"a report behind itself":             {alone(report(7, "a", 1), report(9, "a", 1)), spans(span(-10, 10))},
		"set at the end":                     {alone(ship(7, "a"), set(7)), spans(span(-10, 10), span(-3, 3))},
		"only set":                           {alone(set(7)), spans(span(-10, 10), span(-3, 3))},
		"set and nothing less shown":         {alone(set(7), ship(14, "a")), spans(span(-10, 10), span(-3, 3))},
		"set and a little less shown":        {alone(set(20), ship(13, "a")), spans(span(4, 10), span(-3, 3))},
		"set and as much less as can be":     {alone(set(20), ship(7, "a")), spans(span(10, 10), span(-3, -3))},
		"set twice":                          {alone(set(20), set(10), ship(8, "a")), spans(span(9, 10), span(-1, 0), span(-3, -2))},
		"set, and more shown, then less":     {alone(set(20), ship(21, "a"), set(22), ship(16, "b")), spans(span(2, 10), span(3, 3), span(-3, -3))},
		"less shown with nothing in between": {alone(ship(20, "a"), set(20), set(14), ship(14, "a")), spans(span(3, 10), span(-3, 3), span(-3, 3))},
	} {
		expectOffs(t, what, c.l, 0, c.offs, api.OK)
		expectAll(t, what, c.l, slices.Collect(truthsOf(c.l, 0)))
	}
	for what, l := range map[string]api.PaLog{
		"less shown":                         alone(ship(7, "a"), ship(6, "b")),
		"set, and too much less shown":       alone(set(20), ship(6, "a")),
		"less shown before it is set":        alone(ship(7, "a"), set(6)),
		"less shown behind it":               alone(set(7), ship(7, "a"), ship(6, "a")),
		"a copy of a report, and less shown": alone(report(7, "a", 1), report(6, "a", 1)),
	} {
		expectAll(t, what, l, nil)
	}
}

// shared is a log of books whose clocks are off by 0 to 5, each with these entries.
func shared(books ...[]api.PaEntry) api.PaLog {
	l := log(0)
	for i, entries := range books {
		l.Books = append(l.Books, book(letter(i), span(0, 5), span(0, 5), entries...))
	}
	return l
}

func entries(l ...api.PaEntry) []api.PaEntry { return l }

// P11.2: reports that several books have.
func TestSharedReports(t *testing.T) {
	for what, c := range map[string]struct {
		l    api.PaLog
		offs []api.Span
	}{
		"one report":                  {shared(entries(report(50, "x", 1)), entries(report(53, "x", 1))), spans(span(0, 2))},
		"as far apart as can be":      {shared(entries(report(50, "x", 1)), entries(report(55, "x", 1))), spans(span(0, 0))},
		"further entries are copies":  {shared(entries(report(50, "x", 1), report(58, "x", 1)), entries(report(53, "x", 1), report(54, "x", 1))), spans(span(0, 2))},
		"another word":                {shared(entries(report(50, "x", 1)), entries(report(53, "y", 1))), spans(span(0, 2))},
		"another number":              {shared(entries(report(50, "x", 1)), entries(report(53, "x", 2))), spans(span(0, 5))},
		"a ship of the same name":     {shared(entries(report(50, "x", 1)), entries(ship(53, "x"))), spans(span(0, 5))},
		"three books":                 {shared(entries(report(50, "x", 1)), entries(report(53, "x", 1)), entries(report(49, "x", 1))), spans(span(1, 2))},
		"by way of a third book":      {shared(entries(report(50, "x", 1)), entries(report(52, "x", 1), report(60, "y", 2)), entries(report(63, "y", 2))), spans(span(0, 0))},
		"it tells of later periods":   {shared(entries(report(50, "x", 1), set(50), report(60, "y", 2)), entries(report(50, "x", 1), report(57, "y", 2))), spans(span(0, 2), span(3, 5))},
		"not the first of two copies": {shared(entries(report(50, "x", 1), set(50), report(53, "x", 1)), entries(report(54, "x", 1))), spans(span(0, 1), span(0, 4))},
	} {
		expectOffs(t, what, c.l, 0, c.offs, api.OK)
		expectAll(t, what, c.l, slices.Collect(truthsOf(c.l, 0)))
	}
	for what, l := range map[string]api.PaLog{
		"too far apart":            shared(entries(report(50, "x", 1)), entries(report(56, "x", 1))),
		"too far apart by a third": shared(entries(report(50, "x", 1)), entries(report(54, "x", 1), report(60, "y", 2)), entries(report(62, "y", 2))),
		"another time in between":  shared(entries(report(50, "x", 1), report(60, "y", 2)), entries(report(50, "x", 1), report(61, "y", 2))),
		"the other way round":      shared(entries(report(50, "x", 1), report(50, "y", 2)), entries(report(50, "y", 2), ship(51, "x"), report(51, "x", 1))),
	} {
		expectAll(t, what, l, nil)
	}
}

// P11.2, P11.3: small random logs, held against all their truths.
func TestSmallIsTheDefinition(t *testing.T) {
	d := newDice(2)
	var orders [4]int
	down, near := 0, 0
	for range 600 {
		l := d.someCase(small)
		truths := slices.Collect(truthsOf(l, 0))
		expectAll(t, told(l), l, truths)
		if len(truths) == 0 {
			down++
			continue
		}
		for x, entry := range entriesOf(l) {
			for y := range entriesOf(l) {
				_, order := apartOf(l, truths, x, y)
				orders[order]++
			}
			if entry.Kind == api.PaPass {
				near += len(sameOf(l, truths, x))
			}
		}
	}
	if slices.Min(orders[:]) < 1000 || down < 100 || near < 200 {
		t.Errorf("so often entries were in each order: %v, no truth fits: %d, entries can be of the same passing: %d", orders, down, near)
	}
}

// P11.2, P11.3, P1: large random logs, held against the table of their periods.
func TestLargeIsTheTable(t *testing.T) {
	d := newDice(3)
	fit, down := 0, 0
	for range 1500 {
		l := d.someCase(large)
		table, fits := tableOf(l, 0)
		if !fits {
			expectDown(t, told(l), l)
			down++
			continue
		}
		fit++
		expectFits(t, told(l), l, true, api.OK)
		for i, b := range l.Books {
			var offs []api.Span
			for period := range periodsOf(b) {
				offs = append(offs, span(-table[1+9*i+period][0], table[0][1+9*i+period]))
			}
			expectOffs(t, told(l), l, i, offs, api.OK)
		}
		if isEmpty(l) {
			continue
		}
		for range 4 {
			x, y := d.someAt(l), d.someAt(l)
			i, k := 1+9*x.Book+periodOf(l, x), 1+9*y.Book+periodOf(l, y)
			shownX, shownY := l.Books[x.Book].Entries[x.Entry].Shown, l.Books[y.Book].Entries[y.Entry].Shown
			expectInstant(t, told(l), l, x, span(shownX-table[0][i], shownX+table[i][0]), api.OK)
			s, _, e := pass.Apart(l, x, y)
			if want := span(shownY-shownX-table[i][k], shownY-shownX+table[k][i]); s != want || e != api.OK {
				t.Fatalf("%s: Apart of %v and %v = %v, %d; it should be %v", told(l), x, y, s, e, want)
			}
		}
	}
	if fit < 600 || down < 300 {
		t.Errorf("so many logs fit: %d, do not: %d", fit, down)
	}
}

// P11.2, P11.3: an index that is none comes before a log that does not fit, and before a kind that is wrong.
func TestNoEntry(t *testing.T) {
	for what, l := range map[string]api.PaLog{"L": exampleL(), "M": exampleM(), "full": full(), "no entries": alone()} {
		for _, n := range append([]int{-1, len(l.Books), len(l.Books) + 1}, far...) {
			expectOffs(t, what, l, n, nil, api.ErrNone)
			expectNone(t, what, l, at(n, 0))
			expectNone(t, what, l, at(n, n))
		}
		for i, b := range l.Books {
			for _, n := range append([]int{-1, len(b.Entries), 8, 9}, far...) {
				expectNone(t, what, l, at(i, n))
			}
		}
	}
}

// P11.3: how far apart entries are for an order, both ends.
func TestOrders(t *testing.T) {
	for _, c := range []struct {
		off         api.Span
		shown       int
		want        api.Span
		order, back int
	}{
		{span(0, 4), 105, span(1, 5), api.PaBefore, api.PaAfter},
		{span(0, 4), 104, span(0, 4), api.PaEither, api.PaEither},
		{span(0, 4), 102, span(-2, 2), api.PaEither, api.PaEither},
		{span(0, 4), 100, span(-4, 0), api.PaEither, api.PaEither},
		{span(0, 4), 99, span(-5, -1), api.PaAfter, api.PaBefore},
		{span(3, 3), 103, span(0, 0), api.PaOnce, api.PaOnce},
		{span(3, 3), 104, span(1, 1), api.PaBefore, api.PaAfter},
		{span(3, 3), 102, span(-1, -1), api.PaAfter, api.PaBefore},
	} {
		l := log(0, book("a", span(0, 0), span(0, 0), ship(100, "x")), book("b", c.off, span(0, 0), ship(c.shown, "x")))
		expectApart(t, told(c), l, at(0, 0), at(1, 0), c.want, c.order, api.OK)
		expectApart(t, told(c), l, at(1, 0), at(0, 0), span(-c.want.Hi, -c.want.Lo), c.back, api.OK)
		expectApart(t, told(c), l, at(1, 0), at(1, 0), span(0, 0), api.PaOnce, api.OK)
	}
}

// P11.3: how near entries of one passing are, and which entries are none.
func TestSame(t *testing.T) {
	l := log(0,
		book("a", span(0, 0), span(0, 0), ship(100, "x"), ship(100, "x"), ship(100, "y"), set(100), report(100, "x", 1)),
		book("b", span(0, 4), span(0, 0), ship(90, "x"), ship(100, "x"), ship(100, "y"), report(100, "x", 2), ship(101, "x"), ship(115, "x")),
		book("c", span(-3, 3), span(0, 0), ship(94, "x"), ship(95, "y"), ship(96, "x"), ship(106, "x")))
	for near, want := range map[int][]api.PaAt{
		0: ats(at(1, 1), at(1, 4)),
		1: ats(at(1, 1), at(1, 4), at(2, 2)),
		2: ats(at(1, 1), at(1, 4), at(2, 2)),
		3: ats(at(1, 1), at(1, 4), at(2, 0), at(2, 2), at(2, 3)),
		9: ats(at(1, 1), at(1, 4), at(2, 0), at(2, 2), at(2, 3)),
		// The first of the book b is 10 to 14 minutes earlier, the last one 11 to 15 later.
		10: ats(at(1, 0), at(1, 1), at(1, 4), at(2, 0), at(2, 2), at(2, 3)),
		11: ats(at(1, 0), at(1, 1), at(1, 4), at(1, 5), at(2, 0), at(2, 2), at(2, 3)),
		60: ats(at(1, 0), at(1, 1), at(1, 4), at(1, 5), at(2, 0), at(2, 2), at(2, 3)),
	} {
		l.Near = near
		expectSame(t, told(near), l, at(0, 0), want, api.OK)
		expectSame(t, told(near), l, at(0, 1), want, api.OK)
		expectSame(t, told(near), l, at(0, 3), nil, api.ErrArg)
		expectSame(t, told(near), l, at(0, 4), nil, api.ErrArg)
	}
	l.Near = 2
	expectSame(t, "y", l, at(0, 2), ats(at(1, 2), at(2, 1)), api.OK)
	expectSame(t, "from another book", l, at(2, 1), ats(at(0, 2), at(1, 2)), api.OK)
	expectAll(t, "all", l, slices.Collect(truthsOf(l, 0)))
}
