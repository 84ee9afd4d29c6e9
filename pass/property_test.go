package pass_test

import (
	"slices"
	"testing"

	"nore/api"
	"nore/pass"
)

// These are answers that are without an error.

func mustOffs(t *testing.T, l api.PaLog, book int) []api.Span {
	t.Helper()
	offs, e := pass.Offs(l, book)
	if e != api.OK || len(offs) != periodsOf(l.Books[book]) {
		t.Fatalf("%s: Offs of %d = %v, %d", told(l), book, offs, e)
	}
	return offs
}

func mustInstant(t *testing.T, l api.PaLog, x api.PaAt) api.Span {
	t.Helper()
	s, e := pass.Instant(l, x)
	if e != api.OK || s.Lo > s.Hi {
		t.Fatalf("%s: Instant of %v = %v, %d", told(l), x, s, e)
	}
	return s
}

func mustApart(t *testing.T, l api.PaLog, x, y api.PaAt) (api.Span, int) {
	t.Helper()
	s, order, e := pass.Apart(l, x, y)
	if e != api.OK || s.Lo > s.Hi {
		t.Fatalf("%s: Apart of %v and %v = %v, %d, %d", told(l), x, y, s, order, e)
	}
	return s, order
}

func mustSame(t *testing.T, l api.PaLog, x api.PaAt) []api.PaAt {
	t.Helper()
	all, e := pass.Same(l, x)
	if e != api.OK {
		t.Fatalf("%s: Same of %v = %v, %d", told(l), x, all, e)
	}
	return all
}

func mustReports(t *testing.T, l api.PaLog) (missing, copies []int) {
	t.Helper()
	missing, copies, e := pass.Reports(l)
	if e != api.OK {
		t.Fatalf("%s: Reports = %v, %v, %d", told(l), missing, copies, e)
	}
	return missing, copies
}

func mustFits(t *testing.T, l api.PaLog) bool {
	t.Helper()
	is, e := pass.Fits(l)
	if e != api.OK {
		t.Fatalf("%s: Fits = %v, %d", told(l), is, e)
	}
	return is
}

// has reports whether a number is one of a span.
func has(s api.Span, n int) bool { return s.Lo <= n && n <= s.Hi }

// P11.8, P10: whatever clocks are off by, the log fits, and what is told of instants, clocks and passings is true.
func TestTrue(t *testing.T) {
	d := newDice(8)
	near, apart := 0, 0
	for i := range 500 {
		l, truth := d.someLog([]size{tiny, small, large}[i%3])
		if !mustFits(t, l) {
			t.Fatalf("%s does not fit", told(l))
		}
		for book, numbers := range truth {
			for period, s := range mustOffs(t, l, book) {
				if !has(s, numbers[period]) {
					t.Fatalf("%s: a clock of %d is ahead by %d, not by %v", told(l), book, numbers[period], s)
				}
			}
		}
		for x, entry := range entriesOf(l) {
			if s := mustInstant(t, l, x); !has(s, instantOf(l, truth, x)) {
				t.Fatalf("%s: the instant of %v is %d, not in %v", told(l), x, instantOf(l, truth, x), s)
			}
			for y, other := range entriesOf(l) {
				n := instantOf(l, truth, y) - instantOf(l, truth, x)
				s, order := mustApart(t, l, x, y)
				if !has(s, n) || order == api.PaBefore && n <= 0 || order == api.PaAfter && n >= 0 || order == api.PaOnce && n != 0 {
					t.Fatalf("%s: from %v to %v is %d, not %v, %d", told(l), x, y, n, s, order)
				}
				if order != api.PaEither {
					apart++
				}
				if x.Book == y.Book || entry.Kind != api.PaPass || other.Kind != api.PaPass || entry.Word != other.Word || max(n, -n) > l.Near {
					continue
				}
				if near++; !slices.Contains(mustSame(t, l, x), y) {
					t.Fatalf("%s: %v is not one of Same of %v", told(l), y, x)
				}
			}
		}
	}
	if near < 200 || apart < 10000 {
		t.Errorf("so often entries were of the same passing: %d, one was surely first: %d", near, apart)
	}
}

// P11.9: both ends of what a clock that was never set is off by are reached, and no number beyond them is.
func TestReached(t *testing.T) {
	d := newDice(9)
	cut := 0
	for i := range 1500 {
		l, _ := d.someLog([]size{tiny, small, large}[i%3])
		for i, b := range l.Books {
			if periodsOf(b) > 1 {
				continue
			}
			s := mustOffs(t, l, i)[0]
			for n := b.Off.Lo; n <= b.Off.Hi; n++ {
				c := clone(l)
				c.Books[i].Off = span(n, n)
				if mustFits(t, c) != has(s, n) {
					t.Fatalf("%s: Offs of %d = %v; whether it fits with %d is another thing", told(l), i, s, n)
				}
			}
			if s != b.Off {
				cut++
			}
		}
	}
	if cut < 300 {
		t.Errorf("so often Offs were less than Off: %d", cut)
	}
}

// P11.10: what is from an entry to another one is the other way round back, and by way of a third one it is no less.
func TestFurtherApart(t *testing.T) {
	d := newDice(10)
	for i := range 150 {
		l, _ := d.someLog([]size{small, large}[i%2])
		for x := range entriesOf(l) {
			for y := range entriesOf(l) {
				there, order := mustApart(t, l, x, y)
				back, other := mustApart(t, l, y, x)
				if there.Lo != -back.Hi || there.Hi != -back.Lo {
					t.Fatalf("%s: from %v to %v is %v, back %v", told(l), x, y, there, back)
				}
				if other != []int{api.PaEither: api.PaEither, api.PaBefore: api.PaAfter, api.PaAfter: api.PaBefore, api.PaOnce: api.PaOnce}[order] {
					t.Fatalf("%s: the order of %v and %v is %d, back %d", told(l), x, y, order, other)
				}
				z := d.someAt(l)
				whole, _ := mustApart(t, l, x, z)
				rest, _ := mustApart(t, l, y, z)
				if whole.Hi > there.Hi+rest.Hi || whole.Lo < there.Lo+rest.Lo {
					t.Fatalf("%s: from %v to %v is %v, but %v and %v by way of %v", told(l), x, z, whole, there, rest, y)
				}
			}
		}
	}
}

// P11.11: with spans as much wider as is needed the log fits, with less it does not; one that fits needs 0.
func TestNeeded(t *testing.T) {
	d := newDice(11)
	needed, fit, down := 0, 0, 0
	for i := range 1500 {
		s := []size{tiny, small, large}[i%3]
		l := d.someCase(s)
		if i%2 == 0 {
			l = d.moved(l, 3*s.wide)
		}
		n, e := pass.Need(l)
		if mustFits(t, l) != (n == 0 && e == api.OK) {
			t.Fatalf("%s: Need = %d, %d, but whether it fits is another thing", told(l), n, e)
		}
		if e != api.OK {
			if e != api.ErrDown || n != 0 || mustFits(t, wider(l, 300)) {
				t.Fatalf("%s: Need = %d, %d", told(l), n, e)
			}
			down++
			continue
		}
		if !mustFits(t, wider(l, n)) || n > 0 && mustFits(t, wider(l, n-1)) {
			t.Fatalf("%s: Need = %d, but with it, or with less, it is another thing", told(l), n)
		}
		if n > 0 {
			needed++
		} else {
			fit++
		}
	}
	if needed < 200 || fit < 200 || down < 100 {
		t.Errorf("so often more was needed: %d, nothing: %d, nothing was enough: %d", needed, fit, down)
	}
}

// without is a log in which books have no confused numbers together: each has another one in place of it.
func without(l api.PaLog, confused []int) api.PaLog {
	l = clone(l)
	for x, entry := range entriesOf(l) {
		if i := slices.Index(confused, entry.Number); i >= 0 && entry.Kind == api.PaReport {
			l.Books[x.Book].Entries[x.Entry].Number = 60 + 10*x.Book + i
		}
	}
	return l
}

// listsOf are all lists of less than so many of some numbers.
func listsOf(numbers []int, length int) (lists [][]int) {
	for choice := range 1 << len(numbers) {
		var list []int
		for i, n := range numbers {
			if choice&(1<<i) != 0 {
				list = append(list, n)
			}
		}
		if len(list) < length {
			lists = append(lists, list)
		}
	}
	return lists
}

// P11.12, P4: without confused numbers having to agree the log fits, with any fewer it does not; there are no more than reports have.
func TestConfusedIsNeeded(t *testing.T) {
	d := newDice(12)
	several, down := 0, 0
	for i := range 1500 {
		l, _ := d.someLog([]size{tiny, small, large}[i%3])
		l = d.mixed(l)
		if i%4 == 0 {
			l = d.spoilt(l, 3)
		}
		confused, e := pass.Confused(l)
		numbers := reportsOf(l)
		if e != api.OK {
			if e != api.ErrDown || confused != nil || mustFits(t, without(l, numbers)) {
				t.Fatalf("%s: Confused = %v, %d", told(l), confused, e)
			}
			down++
			continue
		}
		if !slices.IsSorted(confused) || len(confused) > len(numbers) || !mustFits(t, without(l, confused)) {
			t.Fatalf("%s: Confused = %v, but without them it does not fit", told(l), confused)
		}
		for _, fewer := range listsOf(numbers, len(confused)) {
			if mustFits(t, without(l, fewer)) {
				t.Fatalf("%s: Confused = %v, but without %v it fits", told(l), confused, fewer)
			}
		}
		if len(confused) > 1 {
			several++
		}
	}
	if several < 100 || down < 50 {
		t.Errorf("so often several were confused: %d, it did not fit without any: %d", several, down)
	}
}

// P11.13: with one more entry no instant's range is wider.
func TestOneMoreEntry(t *testing.T) {
	d := newDice(13)
	narrower, gone := 0, 0
	for i := range 6000 {
		l, truth := d.someLog([]size{tiny, small, large}[i%3])
		i := d.IntN(len(l.Books))
		b := l.Books[i]
		if len(b.Entries) == api.MaxPaEntries {
			continue
		}
		shown := 1000 + truth[i][len(truth[i])-1]
		if len(b.Entries) > 0 {
			shown = b.Entries[len(b.Entries)-1].Shown + d.from(-5, 5)
		}
		n := d.from(1, 4)
		more := with(l, i, []api.PaEntry{ship(shown, "tug"), set(shown), report(shown, letter(n), n)}[d.IntN(3)])
		if !mustFits(t, more) {
			gone++
			continue
		}
		for x := range entriesOf(l) {
			before, after := mustInstant(t, l, x), mustInstant(t, more, x)
			if after.Lo < before.Lo || after.Hi > before.Hi {
				t.Fatalf("%s: the instant of %v is %v, with one more entry %v", told(more), x, before, after)
			}
			if after != before {
				narrower++
			}
		}
	}
	if narrower < 200 || gone < 100 {
		t.Errorf("so often ranges were narrower: %d, it did not fit: %d", narrower, gone)
	}
}

// P11.14: if each clock shows some minutes more, all is the same, but instants are as much later.
func TestLater(t *testing.T) {
	d := newDice(14)
	for i := range 800 {
		l := d.someCase([]size{tiny, small, large}[i%3])
		n := d.from(-100, 12000)
		later := clone(l)
		for x := range entriesOf(l) {
			later.Books[x.Book].Entries[x.Entry].Shown += n
		}
		if _, _, e := pass.Check(later); e != api.OK {
			continue
		}
		fits := mustFits(t, l)
		need, e := pass.Need(l)
		expectFits(t, told(l, n), later, fits, api.OK)
		expectNeed(t, told(l, n), later, need, e)
		confused, e := pass.Confused(l)
		expectConfused(t, told(l, n), later, confused, e)
		missing, copies, e := pass.Reports(l)
		expectReports(t, told(l, n), later, missing, copies, e)
		if !fits {
			expectDown(t, told(l, n), later)
			continue
		}
		for book := range l.Books {
			expectOffs(t, told(l, n), later, book, mustOffs(t, l, book), api.OK)
		}
		for x, entry := range entriesOf(l) {
			s := mustInstant(t, l, x)
			expectInstant(t, told(l, n), later, x, span(s.Lo+n, s.Hi+n), api.OK)
			y := d.someAt(l)
			s, order := mustApart(t, l, x, y)
			expectApart(t, told(l, n), later, x, y, s, order, api.OK)
			if entry.Kind == api.PaPass {
				expectSame(t, told(l, n), later, x, mustSame(t, l, x), api.OK)
			}
		}
	}
}

// P11.15, P10: each number up to the greatest one is missing, or some book has it; without copies there are none, and the same numbers are missing.
func TestNoReportLost(t *testing.T) {
	d := newDice(15)
	copied := 0
	for i := range 2000 {
		l, _ := d.someLog([]size{tiny, small, large}[i%3])
		for x, entry := range entriesOf(l) {
			if entry.Kind == api.PaReport {
				l.Books[x.Book].Entries[x.Entry].Number *= 1 + i%9
			}
		}
		missing, copies := mustReports(t, l)
		numbers := reportsOf(l)
		all := append(slices.Clone(missing), numbers...)
		slices.Sort(all)
		if !slices.Equal(all, upTo(1, len(all))) || len(numbers) > 0 && all[len(all)-1] != numbers[len(numbers)-1] {
			t.Fatalf("%s: these are missing: %v, and these are not: %v", told(l), missing, numbers)
		}
		once := clone(l)
		for i := range once.Books {
			had := map[int]bool{}
			once.Books[i].Entries = slices.DeleteFunc(once.Books[i].Entries, func(x api.PaEntry) bool {
				isCopy := x.Kind == api.PaReport && had[x.Number]
				had[x.Number] = true
				return isCopy
			})
		}
		expectReports(t, told(once), once, missing, nil, api.OK)
		if len(copies) > 0 {
			copied++
		}
	}
	if copied < 200 {
		t.Errorf("so often there were copies: %d", copied)
	}
}

// P11.16, P11: Read of what Write returns is the log, and Write of what Read returns is the same text.
func TestBytes(t *testing.T) {
	d := newDice(16)
	for i := range 3000 {
		l := d.someCase([]size{tiny, small, large}[i%3])
		text, e := pass.Write(l)
		if e != api.OK {
			t.Fatalf("%s: Write = %q, %d", told(l), text, e)
		}
		x, e := pass.Read(text)
		if e != api.OK || !same(x, l) {
			t.Fatalf("%s: Read of %q = %v, %d", told(l), text, x, e)
		}
		expectWrite(t, told(l), x, text, api.OK)
		at := d.IntN(len(text))
		expectRead(t, text[:at]+string(text[d.IntN(len(text))])+text[at+1:])
	}
}
