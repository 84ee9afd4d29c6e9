package pass_test

import (
	"slices"
	"testing"

	"nore/api"
	"nore/pass"
)

// P11.4: how much wider spans have to be, by hand.
func TestNeed(t *testing.T) {
	for what, c := range map[string]struct {
		l    api.PaLog
		need int
	}{
		"it fits":                      {exampleL(), 0},
		"no entries":                   {alone(), 0},
		"it just fits":                 {alone(set(100), ship(87, "a")), 0},
		"a minute too much":            {alone(set(100), ship(86, "a")), 1},
		"two, one at each end":         {alone(set(100), ship(85, "a")), 1},
		"three":                        {alone(set(100), ship(84, "a")), 2},
		"set twice":                    {alone(set(100), set(90), ship(80, "a")), 4},
		"two books":                    {shared(entries(report(50, "x", 1)), entries(report(56, "x", 1))), 1},
		"two books, wide apart":        {shared(entries(report(0, "x", 1)), entries(report(20000, "x", 1))), 9998},
		"three books, one wide apart":  {shared(entries(report(0, "x", 1)), entries(report(5, "x", 1)), entries(report(20000, "x", 1))), 9998},
		"spans beyond MaxPaOff":        {log(0, book("a", span(720, 720), span(0, 0), report(0, "x", 1)), book("b", span(-720, -720), span(0, 0), report(20000, "x", 1))), 10720},
		"each period takes a day more": {alone(ship(0, "a"), set(20000), ship(0, "a"), set(20000), ship(0, "a"), set(20000), ship(0, "a"), set(20000)), 29994},
	} {
		expectNeed(t, what, c.l, c.need, api.OK)
	}
	for what, l := range map[string]api.PaLog{
		"less shown":                 alone(ship(7, "a"), ship(6, "b")),
		"less shown behind it":       alone(ship(7, "a"), set(9), ship(7, "a"), ship(6, "b")),
		"another time in between":    shared(entries(report(50, "x", 1), report(60, "y", 2)), entries(report(50, "x", 1), report(61, "y", 2))),
		"the other way round":        shared(entries(report(50, "x", 1), report(50, "y", 2)), entries(report(50, "y", 2), ship(51, "x"), report(51, "x", 1))),
		"the other way round, set":   shared(entries(report(50, "x", 1), set(50), report(51, "y", 2), ship(52, "a")), entries(report(50, "y", 2), ship(51, "x"), set(60), report(51, "x", 1))),
		"only by way of three books": shared(entries(report(50, "x", 1), report(60, "y", 2)), entries(report(50, "y", 2), report(60, "z", 3)), entries(report(50, "z", 3), report(60, "x", 1))),
	} {
		expectNeed(t, what, l, 0, api.ErrDown)
	}
}

// longest is a log of which each book has periods as long as can be, and begins with the report with which the one before it ends.
func longest() api.PaLog {
	l := shared(nil, nil, nil)
	for i := range l.Books {
		for range 4 {
			l.Books[i].Entries = append(l.Books[i].Entries, ship(0, "a"), set(20000))
		}
	}
	for i := range 2 {
		l.Books[i].Entries[7], l.Books[i+1].Entries[0] = report(20000, "a", i+1), report(0, "a", i+1)
	}
	return l
}

// P11.4: spans that have to be wider by as much as ever.
func TestNeedMost(t *testing.T) {
	l := longest()
	// The first clock is ahead by 20000 minutes more with each period, and 11 periods follow it.
	expectNeed(t, "longest", l, (11*20000-5)/2+1, api.OK)
	l.Books[2].Entries[7] = report(20000, "a", 1)
	expectNeed(t, "its end is before", l, 0, api.ErrDown)
}

// P11.4: tiny random logs, held against all their truths with wider spans.
func TestNeedIsTheDefinition(t *testing.T) {
	d := newDice(4)
	var needs [6]int
	down := 0
	for i := range 400 {
		l, _ := d.someLog(tiny)
		l = d.moved(l, 4)
		if i%4 == 0 {
			l = d.spoilt(l, 1)
		}
		n, e := needOf(l, 5)
		if e != api.OK {
			if got, g := pass.Need(l); g == api.OK && got <= 5 {
				t.Errorf("%s: Need = %d, but that is too little", told(l), got)
			}
			down++
			continue
		}
		expectNeed(t, told(l), l, n, api.OK)
		needs[n]++
	}
	if slices.Min(needs[:5]) < 10 || down < 20 {
		t.Errorf("so often each number was needed: %v, more or none: %d", needs, down)
	}
}

// P11.4: large random logs, held against the table of their periods.
func TestNeedIsTheTable(t *testing.T) {
	d := newDice(5)
	needed, down := 0, 0
	for range 400 {
		l, _ := d.someLog(large)
		l = d.moved(l, 100)
		if d.once(2) {
			l = d.spoilt(l, []int{5, 50, 5000}[d.IntN(3)])
		}
		if _, fits := tableOf(l, 1<<30); !fits {
			expectNeed(t, told(l), l, 0, api.ErrDown)
			down++
			continue
		}
		n, e := pass.Need(l)
		_, fits := tableOf(l, n)
		_, less := tableOf(l, n-1)
		if e != api.OK || !fits || n > 0 && less || n < 0 {
			t.Errorf("%s: Need = %d, %d; it fits %v, with less %v", told(l), n, e, fits, less)
		}
		if n > 0 {
			needed++
		}
	}
	if needed < 50 || down < 50 {
		t.Errorf("so often spans had to be wider: %d, that was not enough: %d", needed, down)
	}
}

// P11.5: confused numbers, by hand.
func TestConfused(t *testing.T) {
	for what, c := range map[string]struct {
		l    api.PaLog
		want []int
		e    api.Errno
	}{
		"it fits":                   {exampleL(), nil, api.OK},
		"M":                         {exampleM(), list(1), api.OK},
		"no entries":                {alone(), nil, api.OK},
		"no report helps":           {alone(report(7, "a", 1), report(6, "b", 2)), nil, api.ErrDown},
		"no report is enough":       {shared(entries(report(7, "a", 1), report(6, "b", 2)), entries(report(90, "a", 1))), nil, api.ErrDown},
		"the first of two":          {shared(entries(report(50, "x", 9), report(60, "y", 8)), entries(report(50, "x", 9), report(61, "y", 8))), list(8), api.OK},
		"the one that is wrong":     {shared(entries(report(50, "x", 1), report(60, "y", 2)), entries(report(56, "x", 1), report(63, "y", 2))), list(1), api.OK},
		"the other one":             {shared(entries(report(50, "x", 1), report(60, "y", 2)), entries(report(53, "x", 1), report(66, "y", 2))), list(2), api.OK},
		"both":                      {shared(entries(report(50, "x", 1), report(60, "y", 2)), entries(report(56, "x", 1), report(66, "y", 2))), list(1, 2), api.OK},
		"two of three differ":       {shared(entries(report(50, "x", 1), report(60, "y", 2), report(70, "z", 3)), entries(report(50, "x", 1), report(61, "y", 2), report(72, "z", 3))), list(1, 2), api.OK},
		"two of three agree":        {shared(entries(report(50, "x", 1), report(60, "y", 2), report(70, "z", 3)), entries(report(50, "x", 1), report(61, "y", 2), report(71, "z", 3))), list(1), api.OK},
		"one in three books":        {shared(entries(report(50, "x", 7)), entries(report(60, "x", 7)), entries(report(70, "x", 7))), list(7), api.OK},
		"a copy is not to blame":    {shared(entries(report(50, "x", 7), report(90, "x", 7)), entries(report(53, "x", 7), report(54, "x", 7))), nil, api.OK},
		"copies are in order still": {shared(entries(report(50, "x", 7), report(49, "x", 7)), entries(report(53, "x", 7))), nil, api.ErrDown},
		"no number of one book":     {shared(entries(report(50, "a", 1), report(50, "x", 7), report(51, "b", 2)), entries(report(60, "x", 7), report(61, "c", 3))), list(7), api.OK},
	} {
		expectConfused(t, what, c.l, c.want, c.e)
		if want, e := confusedOf(c.l); !slices.Equal(want, c.want) || e != c.e {
			t.Errorf("%s: by the definition these are confused: %v, %d", what, want, e)
		}
	}
}

// P11.5, P4: small random logs, held against all their truths with each list of numbers.
func TestConfusedIsTheDefinition(t *testing.T) {
	d := newDice(6)
	var lengths [6]int
	down := 0
	for i := range 700 {
		l, _ := d.someLog(small)
		l = d.mixed(l)
		if i%4 == 0 {
			l = d.spoilt(l, 2)
		}
		want, e := confusedOf(l)
		expectConfused(t, told(l), l, want, e)
		if e != api.OK {
			down++
		} else {
			lengths[len(want)]++
		}
	}
	if slices.Min(lengths[:4]) < 20 || down < 30 {
		t.Errorf("so often so many were confused: %v, none were enough: %d", lengths, down)
	}
}

// twelve is a log of twelve reports, each of which two books have; the second one shows each so many minutes later than the first one.
func twelve(later ...int) api.PaLog {
	l := shared(nil, nil, nil)
	for i := range 12 {
		first, second := i%3, (i+1)%3
		l.Books[first].Entries = append(l.Books[first].Entries, report(1000*i, "a", 99-i))
		l.Books[second].Entries = append(l.Books[second].Entries, report(1000*i+later[i], "a", 99-i))
	}
	return l
}

// P11.5, P1: as many numbers as can be confused.
func TestConfusedMost(t *testing.T) {
	all := list(88, 89, 90, 91, 92, 93, 94, 95, 96, 97, 98, 99)
	expectConfused(t, "none", twelve(0, 0, 0, 0, 0, 0, 0, 0, 0, 0, 0, 0), nil, api.OK)
	expectConfused(t, "all", twelve(9, 9, 9, 9, 9, 9, 9, 9, 9, 9, 9, 9), all, api.OK)
	expectConfused(t, "all but the last", twelve(5, 9, 9, 9, 9, 9, 9, 9, 9, 9, 9, 9), all[:11], api.OK)
	// Three clocks can only agree with one report of each two of them, and only if these differ by nothing.
	expectConfused(t, "all that differ", twelve(0, 0, 0, 1, 1, 1, 2, 2, 2, 3, 3, 3), all[:9], api.OK)
	l := twelve(9, 9, 9, 9, 9, 9, 9, 9, 9, 9, 9, 9)
	l.Books[0].Entries[7].Shown = 0
	expectConfused(t, "all are not enough", l, nil, api.ErrDown)
}

// P11.5, P1: numbers of one book alone are as many as can be, and none of them is tried.
func TestConfusedOfOneBook(t *testing.T) {
	l := shared(nil, nil, nil)
	for i := range 24 {
		l.Books[i%3].Entries = append(l.Books[i%3].Entries, report(100*i, "a", 1+i))
	}
	expectConfused(t, "it fits", l, nil, api.OK)
	l.Books[2].Entries[7].Number = 22
	expectConfused(t, "one that two books have", l, list(22), api.OK)
	l.Books[1].Entries[7].Shown = 0
	expectConfused(t, "it does not fit", l, nil, api.ErrDown)
}
