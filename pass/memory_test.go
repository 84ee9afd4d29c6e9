package pass_test

import (
	"slices"
	"strings"
	"sync"
	"testing"
	"unsafe"

	"nore/api"
	"nore/pass"
)

// asked is what all functions are asked.
type asked struct {
	l    api.PaLog
	book int
	x, y api.PaAt
	text string
}

// answers are what all functions return, as one list of numbers.
func (a asked) answers() (r []int) {
	add := func(e api.Errno, n ...int) { r = append(append(r, n...), len(n), int(e)) }
	part, at, e := pass.Check(a.l)
	add(e, part, at)
	fits, e := pass.Fits(a.l)
	add(e, boolNumber(fits))
	offs, e := pass.Offs(a.l, a.book)
	for _, s := range offs {
		add(e, s.Lo, s.Hi)
	}
	add(e, len(offs))
	s, e := pass.Instant(a.l, a.x)
	add(e, s.Lo, s.Hi)
	s, order, e := pass.Apart(a.l, a.x, a.y)
	add(e, s.Lo, s.Hi, order)
	all, e := pass.Same(a.l, a.x)
	for _, y := range all {
		add(e, y.Book, y.Entry)
	}
	add(e, len(all))
	n, e := pass.Need(a.l)
	add(e, n)
	confused, e := pass.Confused(a.l)
	add(e, confused...)
	missing, copies, e := pass.Reports(a.l)
	add(e, missing...)
	add(e, copies...)
	text, e := pass.Write(a.l)
	add(e, bytesOf(text)...)
	l, e := pass.Read(a.text)
	text, _ = pass.Write(l)
	add(e, bytesOf(text)...)
	return r
}

func boolNumber(is bool) int {
	if is {
		return 1
	}
	return 0
}

func bytesOf(text string) (l []int) {
	for i := range len(text) {
		l = append(l, int(text[i]))
	}
	return l
}

// exampleAsked is what is asked of L.
func exampleAsked() asked {
	return asked{l: exampleL(), book: bridge, x: at(bridge, 3), y: at(deck, 2), text: exampleText}
}

// someAsked is something random that is asked, mostly without an error.
func (d dice) someAsked(i int) asked {
	l := d.someCase([]size{tiny, small, large}[i%3])
	a := asked{l: l, book: d.IntN(len(l.Books))}
	if !isEmpty(l) {
		a.x, a.y = d.someAt(l), d.someAt(l)
	}
	a.text, _ = pass.Write(l)
	switch i % 10 {
	case 6:
		a.l.Near = 61
	case 7:
		a.l.Books[len(l.Books)-1].Name = ""
	case 8:
		a.x.Entry = 8
	case 9:
		a.text = a.text[1:]
	}
	return a
}

// withRoom is a list with something in the memory behind its end.
func withRoom[T any](l []T, behind T) []T { return append(slices.Clip(l), behind)[:len(l)] }

// behind is what is in the memory behind the end of a list.
func behind[T any](l []T) T { return l[:len(l)+1][len(l)] }

// behindEntry is put into the memory behind the end of entries, and a book with this Name behind that of books.
var behindEntry = api.PaEntry{Shown: 77, Kind: 77, Word: "behind", Number: 77}

const behindName = "behind"

// withRooms is the same with something in the memory behind the end of each list.
func (a asked) withRooms() asked {
	a.l = clone(a.l)
	for i := range a.l.Books {
		a.l.Books[i].Entries = withRoom(a.l.Books[i].Entries, behindEntry)
	}
	a.l.Books = withRoom(a.l.Books, api.PaBook{Name: behindName})
	return a
}

// hasRooms reports whether what withRooms put behind the ends of the lists is still there.
func (a asked) hasRooms() bool {
	for _, b := range a.l.Books {
		if behind(b.Entries) != behindEntry {
			return false
		}
	}
	return behind(a.l.Books).Name == behindName && behind(a.l.Books).Entries == nil
}

// P11.17, R4: no argument is changed, nor the memory behind its ends.
func TestArgumentsStay(t *testing.T) {
	d := newDice(17)
	for i := range 1000 {
		a := d.someAsked(i).withRooms()
		kept := clone(a.l)
		a.answers()
		if !same(a.l, kept) {
			t.Fatalf("%v was changed; it was %v", a.l, kept)
		}
		if !a.hasRooms() {
			t.Fatalf("behind the ends of %v something was changed", a.l)
		}
	}
}

// fill writes something into all of a list, and into the memory behind its end.
func fill[T any](l []T, x T) {
	l = l[:cap(l)]
	for i := range l {
		l[i] = x
	}
}

// P11.17, R4: results are new memory; no two of them share any, nor with an argument.
func TestResultsAreNew(t *testing.T) {
	l, m := exampleL(), exampleM()
	twice := alone(report(1, "x", 2), report(2, "x", 2), report(3, "y", 4))
	for range 2 {
		fill(mustOffs(t, l, bridge), span(77, 77))
		fill(mustSame(t, l, at(bridge, 3)), at(77, 77))
		confused, _ := pass.Confused(m)
		fill(confused, 77)
		missing, copies := mustReports(t, twice)
		fill(missing, 77)
		if !slices.Equal(copies, list(2)) {
			t.Errorf("Reports share memory: %v", copies)
		}
		fill(copies, 77)
		expectOffs(t, "L", l, bridge, spans(span(5, 10), span(0, 2)), api.OK)
		expectSame(t, "L", l, at(bridge, 3), ats(at(deck, 2)), api.OK)
		expectConfused(t, "M", m, list(1), api.OK)
		expectReports(t, "twice", twice, list(1, 3), list(2), api.OK)
	}
	if !same(l, exampleL()) || !same(m, exampleM()) {
		t.Errorf("L and M are %v and %v when results were changed", l, m)
	}
}

// P11.17, R4: what is read shares no memory with the text, nor a book with another one.
func TestReadIsNew(t *testing.T) {
	bytes := []byte(exampleText)
	l, e := pass.Read(unsafe.String(&bytes[0], len(bytes)))
	if e != api.OK {
		t.Fatalf("Read = %d", e)
	}
	fill(bytes, 'x')
	if !same(l, exampleL()) {
		t.Errorf("what was read is %v when the text was changed", l)
	}
	first, _ := pass.Read(exampleText)
	second, _ := pass.Read(exampleText)
	fill(first.Books[0].Entries, behindEntry)
	if !slices.Equal(first.Books[1].Entries, exampleL().Books[1].Entries) || !same(second, exampleL()) {
		t.Errorf("what was read is %v and %v when a book was changed", first, second)
	}
}

// R4: nothing is kept between calls, and several can run at the same time.
func TestNothingIsKept(t *testing.T) {
	d := newDice(18)
	var all []asked
	var first [][]int
	for i := range 60 {
		a := d.someAsked(i)
		all, first = append(all, a), append(first, a.answers())
	}
	var wait sync.WaitGroup
	for range 4 {
		wait.Go(func() {
			for i := range all {
				i = len(all) - 1 - i
				if r := all[i].answers(); !slices.Equal(r, first[i]) {
					t.Errorf("%v: %v, and then %v", all[i], first[i], r)
				}
			}
		})
	}
	wait.Wait()
}

// R3: nil and empty are the same.
func TestNilAndEmpty(t *testing.T) {
	a := asked{l: alone(), text: "near 0\nbook a -10 10 -3 3\n"}
	b := a
	b.l = alone([]api.PaEntry{}...)
	b.l.Books[0].Entries = []api.PaEntry{}
	if !slices.Equal(a.answers(), b.answers()) {
		t.Errorf("no entries: %v, and %v", a.answers(), b.answers())
	}
	expectCheck(t, "no books", api.PaLog{Books: []api.PaBook{}}, 0, 0, api.ErrLong)
	expectCheck(t, "nil", api.PaLog{}, 0, 0, api.ErrLong)
}

// P1, P11.17, R5: any arguments are accepted.
func TestAnyArguments(t *testing.T) {
	numbers := append([]int{-721, -720, -1, 0, 1, 2, 3, 4, 8, 9, 60, 61, 99, 100, 720, 721, 20000, 20001}, far...)
	for _, n := range numbers {
		for _, k := range numbers {
			for _, change := range []func(a *asked){
				func(a *asked) { a.l.Near, a.l.Books[bridge].Entries[0].Shown = n, k },
				func(a *asked) { a.l.Books[bridge].Off = span(n, k) },
				func(a *asked) { a.l.Books[deck].Set = span(n, k) },
				func(a *asked) { a.l.Books[deck].Off.Lo, a.l.Books[deck].Off.Hi = n, k },
				func(a *asked) { a.l.Books[bridge].Entries[1].Shown, a.l.Books[deck].Entries[0].Shown = n, k },
				func(a *asked) { a.l.Books[bridge].Entries[1].Number, a.l.Books[deck].Entries[0].Number = n, k },
				func(a *asked) { a.l.Books[bridge].Entries[1].Kind, a.l.Books[deck].Entries[0].Kind = n, k },
				func(a *asked) { a.book, a.x.Book = n, k },
				func(a *asked) { a.x = at(n, k) },
				func(a *asked) { a.y = at(n, k) },
				func(a *asked) { a.x.Entry, a.y.Entry = n, k },
			} {
				a := exampleAsked()
				change(&a)
				a.answers()
			}
		}
	}
	for _, l := range []api.PaLog{{}, {Near: 5}, {Books: make([]api.PaBook, 3)}, {Books: make([]api.PaBook, 1<<16)}, log(0, api.PaBook{Name: "a", Entries: make([]api.PaEntry, 1<<16)}), full()} {
		for _, text := range []string{"", "\xff\xfe", "near \xff\n", strings.Repeat("near 5\n", 1<<16), "near 5\nbook \u00e9 0 0 0 0\n"} {
			asked{l: l, text: text}.answers()
		}
	}
}

// P1: the largest logs are answered.
func TestLargeCases(t *testing.T) {
	d := newDice(19)
	for range 20 {
		l := full()
		for x := range entriesOf(l) {
			l.Books[x.Book].Entries[x.Entry] = []api.PaEntry{set(d.IntN(20001)), report(d.IntN(20001), "a", d.from(1, 8))}[d.IntN(2)]
		}
		asked{l: l, x: d.someAt(l), y: d.someAt(l)}.answers()
		if _, fits := tableOf(l, 0); !fits {
			expectDown(t, told(l), l)
		} else {
			expectFits(t, told(l), l, true, api.OK)
		}
	}
	l := full()
	for x := range entriesOf(l) {
		l.Books[x.Book].Entries[x.Entry] = set(1000 + 8*x.Book + x.Entry)
	}
	for book := range l.Books {
		offs := mustOffs(t, l, book)
		if len(offs) != 9 || slices.ContainsFunc(offs, func(s api.Span) bool { return s.Lo > s.Hi || s.Lo < -720 || s.Hi > 720 }) {
			t.Errorf("Offs of %d = %v", book, offs)
		}
	}
}
