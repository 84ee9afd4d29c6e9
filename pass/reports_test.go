package pass_test

import (
	"testing"

	"nore/api"
)

// upTo are the numbers from one to another one.
func upTo(lo, hi int) (l []int) {
	for n := lo; n <= hi; n++ {
		l = append(l, n)
	}
	return l
}

// P11.6: numbers that are missing, and copies, by hand.
func TestReports(t *testing.T) {
	for what, c := range map[string]struct {
		l               api.PaLog
		missing, copies []int
		e               api.Errno
	}{
		"no entries":                     {alone(), nil, nil, api.OK},
		"no reports":                     {alone(ship(1, "a"), set(2), ship(2, "b")), nil, nil, api.OK},
		"the first number":               {alone(report(1, "a", 1)), nil, nil, api.OK},
		"another number":                 {alone(report(1, "a", 4)), list(1, 2, 3), nil, api.OK},
		"the greatest number":            {alone(report(1, "a", 99)), upTo(1, 98), nil, api.OK},
		"all in another order":           {alone(report(1, "a", 3), report(2, "b", 1), report(3, "c", 2)), nil, nil, api.OK},
		"one in between":                 {alone(report(1, "a", 3), report(2, "b", 1)), list(2), nil, api.OK},
		"in several books":               {shared(entries(report(1, "a", 2)), entries(report(1, "a", 2), report(1, "b", 4)), entries(report(1, "c", 3))), list(1), nil, api.OK},
		"several books are no copies":    {shared(entries(report(1, "a", 1)), entries(report(1, "a", 1)), entries(report(1, "a", 1))), nil, nil, api.OK},
		"a copy":                         {alone(report(1, "a", 1), report(1, "a", 1)), nil, list(1), api.OK},
		"each number once":               {shared(entries(report(1, "a", 2), report(1, "a", 2), report(1, "a", 2)), entries(report(1, "a", 2), report(1, "a", 2))), list(1), list(2), api.OK},
		"copies, ascending":              {shared(entries(report(1, "a", 7), report(2, "a", 7), report(3, "b", 5), report(4, "b", 5)), entries(report(1, "c", 6), report(9, "c", 6))), upTo(1, 4), list(5, 6, 7), api.OK},
		"a copy in the last book":        {shared(entries(report(1, "a", 1)), entries(report(1, "a", 1), set(3), report(2, "a", 1))), nil, list(1), api.OK},
		"a copy from another period":     {alone(report(1, "a", 1), set(1), report(1, "a", 1)), nil, list(1), api.OK},
		"one word with several numbers":  {alone(report(1, "a", 1), report(1, "a", 3)), list(2), nil, api.OK},
		"another word":                   {alone(report(1, "a", 1), report(1, "b", 1)), nil, nil, api.ErrTwice},
		"another word in another book":   {shared(entries(report(1, "a", 1)), entries(report(1, "b", 1))), nil, nil, api.ErrTwice},
		"another word at the end":        {shared(entries(report(1, "a", 1)), entries(report(1, "c", 9)), entries(report(1, "a", 1), report(1, "c", 9), report(1, "b", 1))), nil, nil, api.ErrTwice},
		"another word of another number": {alone(report(1, "a", 1), report(1, "b", 2)), nil, nil, api.OK},
		"a ship of the same name":        {alone(ship(1, "b"), report(1, "a", 1), ship(1, "a")), nil, nil, api.OK},
		"it does not fit":                {alone(report(9, "a", 2), report(1, "a", 2)), list(1), list(2), api.OK},
		"M":                              {exampleM(), nil, nil, api.OK},
	} {
		expectReports(t, what, c.l, c.missing, c.copies, c.e)
	}
}

// P11.6: random logs, held against the definitions number by number.
func TestReportsAreTheDefinition(t *testing.T) {
	d := newDice(7)
	missing, copied, disagreed := 0, 0, 0
	for i := range 3000 {
		l := d.someCase([]size{tiny, small, large}[i%3])
		for x, entry := range entriesOf(l) {
			if entry.Kind == api.PaReport {
				// All numbers of a log are made greater in the same way, mostly with the same word.
				n := entry.Number * (1 + i%7)
				l.Books[x.Book].Entries[x.Entry].Number = n
				l.Books[x.Book].Entries[x.Entry].Word = letter(n % 26)
				if d.once(30) {
					l.Books[x.Book].Entries[x.Entry].Word = letter(d.IntN(26))
				}
			}
		}
		if disagreeOf(l) {
			expectReports(t, told(l), l, nil, nil, api.ErrTwice)
			disagreed++
			continue
		}
		m, c := missingOf(l), copiesOf(l)
		expectReports(t, told(l), l, m, c, api.OK)
		if len(m) > 0 {
			missing++
		}
		if len(c) > 0 {
			copied++
		}
	}
	if missing < 500 || copied < 300 || disagreed < 100 {
		t.Errorf("so often numbers were missing: %d, there were copies: %d, another word: %d", missing, copied, disagreed)
	}
}
