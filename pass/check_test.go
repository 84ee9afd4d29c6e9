package pass_test

import (
	"fmt"
	"testing"

	"nore/api"
	"nore/pass"
)

// expectCheck tells if Check does not return this, and if with an error the other functions do not return it too, whatever else is asked, and nothing besides.
func expectCheck(t *testing.T, what string, l api.PaLog, part, at int, e api.Errno) {
	t.Helper()
	if p, i, g := pass.Check(l); p != part || i != at || g != e {
		t.Errorf("%s: Check = %d, %d, %d; it should be %d, %d, %d", what, p, i, g, part, at, e)
	}
	if e != api.OK {
		expectErrors(t, what, l, e)
		return
	}
	if text, g := pass.Write(l); text == "" || g != api.OK {
		t.Errorf("%s: Write = %q, %d", what, text, g)
	}
}

// P11.1: logs without an error.
func TestCheckGood(t *testing.T) {
	for what, l := range map[string]api.PaLog{
		"L":                   exampleL(),
		"M":                   exampleM(),
		"full":                full(),
		"as little as can be": log(0, book("a", span(0, 0), span(0, 0))),
		"far off":             log(0, book("a", span(-720, -720), span(720, 720), set(0), set(20000))),
		"it does not fit":     alone(ship(20000, "a"), ship(0, "a")),
		"names":               log(0, book("abcdefghijklmn", span(0, 0), span(0, 0), ship(0, "abcdefghijklmn"), report(0, "a-b", 1)), book("a-b", span(0, 0), span(0, 0), ship(0, "a-b"))),
		"words of lines":      log(0, book("near", span(0, 0), span(0, 0), ship(0, "set"), report(0, "book", 1))),
		"several words":       log(0, book("a", span(0, 0), span(0, 0), report(0, "a", 1), report(0, "b", 1))),
	} {
		expectCheck(t, what, l, 0, 0, api.OK)
	}
}

// P11.1: too many, and too few, of all that is counted.
func TestCheckCounts(t *testing.T) {
	for _, n := range []int{0, 1, 2, 3, 4, 5, 26, 1 << 16} {
		l := full()
		l.Books = make([]api.PaBook, n)
		for i := range min(n, 26) {
			l.Books[i].Name = letter(i)
		}
		if n >= 1 && n <= 3 {
			expectCheck(t, fmt.Sprint(n, " books"), l, 0, 0, api.OK)
		} else {
			expectCheck(t, fmt.Sprint(n, " books"), l, 0, 0, api.ErrLong)
		}
	}
	for _, n := range []int{0, 1, 7, 8, 9, 10, 1 << 16} {
		for i := range 3 {
			for _, x := range []api.PaEntry{ship(0, "a"), set(0), report(0, "a", 1), {}} {
				l := full()
				l.Books[i].Entries = make([]api.PaEntry, n)
				for k := range l.Books[i].Entries {
					l.Books[i].Entries[k] = x
				}
				switch {
				case n > 8:
					expectCheck(t, fmt.Sprint(n, " entries"), l, i+1, 0, api.ErrLong)
				case n > 0 && x.Kind == 0:
					expectCheck(t, fmt.Sprint(n, " entries of no kind"), l, i+1, 0, api.ErrNone)
				default:
					expectCheck(t, fmt.Sprint(n, " entries"), l, 0, 0, api.OK)
				}
			}
		}
	}
}

// number is a number of a log, its range, and the part and the index in it that have this error if it is not in range.
type number struct {
	at       func(l *api.PaLog) *int
	lo, hi   int
	part, in int
	e        api.Errno
}

// numbers are all numbers of a full log that have a range, of the first and the last of each.
func numbers() []number {
	all := []number{{func(l *api.PaLog) *int { return &l.Near }, 0, 60, 0, 0, api.ErrRange}}
	for _, i := range []int{0, 2} {
		for _, end := range []func(b *api.PaBook) *int{
			func(b *api.PaBook) *int { return &b.Off.Lo },
			func(b *api.PaBook) *int { return &b.Off.Hi },
			func(b *api.PaBook) *int { return &b.Set.Lo },
			func(b *api.PaBook) *int { return &b.Set.Hi },
		} {
			all = append(all, number{func(l *api.PaLog) *int { return end(&l.Books[i]) }, -720, 720, i + 1, 0, api.ErrRange})
		}
		for k := range 8 {
			all = append(all, number{func(l *api.PaLog) *int { return &l.Books[i].Entries[k].Shown }, 0, 20000, i + 1, k, api.ErrRange})
			lo, hi := 0, 0
			if k%3 == 2 {
				lo, hi = 1, 99
			}
			all = append(all, number{func(l *api.PaLog) *int { return &l.Books[i].Entries[k].Number }, lo, hi, i + 1, k, api.ErrForm})
		}
	}
	return all
}

// P11.1, R5: both ends of each range, and numbers far beyond.
func TestCheckRanges(t *testing.T) {
	for i, f := range numbers() {
		for _, n := range []int{f.lo, (f.lo + f.hi) / 2, f.hi} {
			l := full()
			*f.at(&l) = n
			expectCheck(t, fmt.Sprint("number ", i, " ", n), l, 0, 0, api.OK)
		}
		for _, n := range append([]int{f.lo - 1, f.hi + 1}, far...) {
			l := full()
			*f.at(&l) = n
			expectCheck(t, fmt.Sprint("number ", i, " ", n), l, f.part, f.in, f.e)
		}
	}
}

// P11.1: spans whose ends are the wrong way round.
func TestCheckSpans(t *testing.T) {
	for i := range 3 {
		for _, s := range spans(span(1, 0), span(720, -720), span(0, -1), span(720, 719)) {
			l := full()
			l.Books[i].Off = s
			expectCheck(t, told("Off", s), l, i+1, 0, api.ErrArg)
			l = full()
			l.Books[i].Set = s
			expectCheck(t, told("Set", s), l, i+1, 0, api.ErrArg)
			l.Books[i].Off = span(0, 721)
			expectCheck(t, told("Set, and a range", s), l, i+1, 0, api.ErrRange)
			l.Books[i].Off, l.Books[i].Set = s, span(-721, 0)
			expectCheck(t, told("Off, and a range", s), l, i+1, 0, api.ErrRange)
		}
		for _, s := range spans(span(0, 0), span(720, 720), span(-720, -720), span(-1, 0)) {
			l := full()
			l.Books[i].Off, l.Books[i].Set = s, s
			expectCheck(t, told("good", s), l, 0, 0, api.OK)
		}
	}
}

// noNames are no names.
var noNames = []string{"", "-", "a-", "-a", "a--b", "A", "the deck", "deck1", "abcdefghijklmno", "\u0161", "a\n", " a"}

// P11.1: names that are none, and names that are there already.
func TestCheckNames(t *testing.T) {
	for _, name := range noNames {
		for i := range 3 {
			l := full()
			l.Books[i].Name = name
			expectCheck(t, fmt.Sprintf("book %q", name), l, i+1, 0, api.ErrForm)
			l.Books[i].Off, l.Books[i].Entries = span(721, 0), nil
			expectCheck(t, fmt.Sprintf("book %q, and numbers", name), l, i+1, 0, api.ErrForm)
			for k := range 8 {
				if k%3 == 1 && name == "" {
					continue
				}
				l := full()
				l.Books[i].Entries[k].Word = name
				expectCheck(t, fmt.Sprintf("word %q", name), l, i+1, k, api.ErrForm)
			}
		}
	}
	for i := range 3 {
		for k := range i {
			l := full()
			l.Books[i].Name = l.Books[k].Name
			expectCheck(t, fmt.Sprint("twice ", k, " ", i), l, i+1, 0, api.ErrTwice)
			l.Books[i].Off.Hi, l.Books[i].Entries[0].Kind = 721, 0
			expectCheck(t, fmt.Sprint("twice ", k, " ", i, ", and numbers"), l, i+1, 0, api.ErrTwice)
		}
	}
}

// P11.1, R8: kinds of entries, with words and numbers of others.
func TestCheckKinds(t *testing.T) {
	for _, kind := range append([]int{-1, 0, 1, 2, 3, 4, 5}, far...) {
		for _, word := range []string{"", "a", "A"} {
			for _, n := range []int{-1, 0, 1, 99, 100} {
				e := api.ErrForm
				switch {
				case kind < 1 || kind > 3:
					e = api.ErrNone
				case kind == api.PaPass && word == "a" && n == 0, kind == api.PaSet && word == "" && n == 0, kind == api.PaReport && word == "a" && (n == 1 || n == 99):
					e = api.OK
				}
				for i := range 3 {
					for k := range 8 {
						x := api.PaEntry{Kind: kind, Word: word, Number: n}
						l := full()
						l.Books[i].Entries[k] = x
						part, in := i+1, k
						if e == api.OK {
							part, in = 0, 0
						}
						expectCheck(t, told(x), l, part, in, e)
						l.Books[i].Entries[k].Shown = -1
						expectCheck(t, told(x, "and a range"), l, i+1, k, api.ErrRange)
					}
				}
			}
		}
	}
}

// R1: of two errors the one that is named first is returned, and that of the first book.
func TestCheckOrder(t *testing.T) {
	changes := []struct {
		change   func(l *api.PaLog)
		part, at int
		e        api.Errno
	}{
		{func(l *api.PaLog) { l.Near = 61 }, 0, 0, api.ErrRange},
		{func(l *api.PaLog) { l.Books = append(l.Books, api.PaBook{}) }, 0, 0, api.ErrLong},
		{func(l *api.PaLog) { l.Books[0].Name = "-" }, 1, 0, api.ErrForm},
		{func(l *api.PaLog) { l.Books[0].Set.Hi = 721 }, 1, 0, api.ErrRange},
		{func(l *api.PaLog) { l.Books[0].Off = span(1, 0) }, 1, 0, api.ErrArg},
		{func(l *api.PaLog) { l.Books[0].Entries = append(l.Books[0].Entries, set(0)) }, 1, 0, api.ErrLong},
		{func(l *api.PaLog) { l.Books[0].Entries[3].Number = 1 }, 1, 3, api.ErrForm},
		{func(l *api.PaLog) { l.Books[0].Entries[5].Kind = 4 }, 1, 5, api.ErrNone},
		{func(l *api.PaLog) { l.Books[0].Entries[7].Shown = 20001 }, 1, 7, api.ErrRange},
		{func(l *api.PaLog) { l.Books[1].Name = "" }, 2, 0, api.ErrForm},
		{func(l *api.PaLog) { l.Books[1].Off.Lo = -721 }, 2, 0, api.ErrRange},
		{func(l *api.PaLog) { l.Books[1].Entries[0].Shown = -1 }, 2, 0, api.ErrRange},
		{func(l *api.PaLog) { l.Books[1].Entries[2].Word = "" }, 2, 2, api.ErrForm},
		{func(l *api.PaLog) { l.Books[2].Name = l.Books[1].Name }, 3, 0, api.ErrTwice},
		{func(l *api.PaLog) { l.Books[2].Set = span(1, 0) }, 3, 0, api.ErrArg},
		{func(l *api.PaLog) { l.Books[2].Entries = append(l.Books[2].Entries, set(0)) }, 3, 0, api.ErrLong},
		{func(l *api.PaLog) { l.Books[2].Entries[1].Word = "a" }, 3, 1, api.ErrForm},
		{func(l *api.PaLog) { l.Books[2].Entries[4].Kind = 0 }, 3, 4, api.ErrNone},
	}
	for i, f := range changes {
		for k, g := range changes[i:] {
			l := full()
			g.change(&l)
			f.change(&l)
			expectCheck(t, fmt.Sprint("changes ", i, " and ", i+k), l, f.part, f.at, f.e)
		}
	}
	expectCheck(t, "no books, and a range", log(-1), 0, 0, api.ErrRange)
}
