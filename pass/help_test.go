package pass_test

import (
	"fmt"
	"iter"
	"math"
	"math/rand/v2"
	"slices"

	"nore/api"
)

// far are ints far beyond all limits; cut down to 32 bits, some of them are small.
var far = []int{math.MinInt, math.MinInt + 1, -1 << 40, -1<<32 - 1, -1 << 32, -1<<32 + 1, math.MinInt32, math.MaxInt32, 1 << 32, 1<<32 + 1, 1<<32 + 2, 1 << 40, math.MaxInt - 1, math.MaxInt}

// These are the books of the chapter's examples.
const (
	bridge = iota
	deck
)

// exampleL is L of the chapter's examples, and exampleM its M.
func exampleL() api.PaLog {
	return log(5,
		book("bridge", span(-10, 10), span(0, 2), ship(100, "orient"), report(110, "sunk", 1), set(130), ship(125, "tug")),
		book("deck", span(-20, 20), span(0, 0), report(90, "sunk", 1), ship(95, "orient"), ship(112, "tug")))
}

func exampleM() api.PaLog {
	l := exampleL()
	l.Books[bridge].Off, l.Books[deck].Off = span(0, 10), span(5, 20)
	return l
}

// exampleText is the text of L.
const exampleText = "near 5\nbook bridge -10 10 0 2\npass 100 orient\nreport 110 sunk 1\nset 130\npass 125 tug\nbook deck -20 20 0 0\nreport 90 sunk 1\npass 95 orient\npass 112 tug\n"

func log(near int, books ...api.PaBook) api.PaLog { return api.PaLog{Near: near, Books: books} }

func book(name string, off, set api.Span, entries ...api.PaEntry) api.PaBook {
	return api.PaBook{Name: name, Off: off, Set: set, Entries: entries}
}

func ship(shown int, word string) api.PaEntry {
	return api.PaEntry{Shown: shown, Kind: api.PaPass, Word: word}
}

func set(shown int) api.PaEntry { return api.PaEntry{Shown: shown, Kind: api.PaSet} }

func report(shown int, word string, number int) api.PaEntry {
	return api.PaEntry{Shown: shown, Kind: api.PaReport, Word: word, Number: number}
}

func span(lo, hi int) api.Span { return api.Span{Lo: lo, Hi: hi} }

func spans(l ...api.Span) []api.Span { return l }

// at is an entry, and ats are entries.
func at(book, entry int) api.PaAt { return api.PaAt{Book: book, Entry: entry} }

func ats(l ...api.PaAt) []api.PaAt { return l }

func list(l ...int) []int { return l }

// alone is a log of one book whose clock is off by -10 to 10, and by -3 to 3 if it is set.
func alone(entries ...api.PaEntry) api.PaLog {
	return log(0, book("a", span(-10, 10), span(-3, 3), entries...))
}

// full is a log with as much of all, and with all spans as wide, as can be; each book has all kinds of entries.
func full() api.PaLog {
	wide := span(-720, 720)
	l := log(60)
	for i := range 3 {
		b := book("the-book-of-x"+letter(i), wide, wide)
		for k := range 8 {
			shown := 2500*k + 100*i
			b.Entries = append(b.Entries, []api.PaEntry{ship(shown, "great-easterly"), set(shown), report(shown, "the-coastguard", 91+k)}[k%3])
		}
		l.Books = append(l.Books, b)
	}
	return l
}

// letter is a name.
func letter(i int) string { return string(rune('a' + i)) }

func clone(l api.PaLog) api.PaLog {
	l.Books = slices.Clone(l.Books)
	for i := range l.Books {
		l.Books[i].Entries = slices.Clone(l.Books[i].Entries)
	}
	return l
}

// same reports whether logs are equal.
func same(a, b api.PaLog) bool {
	return a.Near == b.Near && slices.EqualFunc(a.Books, b.Books, func(x, y api.PaBook) bool {
		return x.Name == y.Name && x.Off == y.Off && x.Set == y.Set && slices.Equal(x.Entries, y.Entries)
	})
}

// with is a log with an entry behind all others of a book.
func with(l api.PaLog, book int, x api.PaEntry) api.PaLog {
	l = clone(l)
	l.Books[book].Entries = append(l.Books[book].Entries, x)
	return l
}

// wider is a log with all spans so much wider at both ends.
func wider(l api.PaLog, n int) api.PaLog {
	l = clone(l)
	for i := range l.Books {
		b := &l.Books[i]
		b.Off, b.Set = span(b.Off.Lo-n, b.Off.Hi+n), span(b.Set.Lo-n, b.Set.Hi+n)
	}
	return l
}

// entriesOf yields all entries of a log with what they are.
func entriesOf(l api.PaLog) iter.Seq2[api.PaAt, api.PaEntry] {
	return func(yield func(api.PaAt, api.PaEntry) bool) {
		for i, b := range l.Books {
			for k, x := range b.Entries {
				if !yield(at(i, k), x) {
					return
				}
			}
		}
	}
}

// What follows holds the chapter's definitions, as they stand there, against the package: truth by truth.

// truth has for each book the number of each of its periods.
type truth [][]int

// periodsOf is how many periods a book has, and periodOf in which one of its book an entry is.
func periodsOf(b api.PaBook) int { return 1 + setsOf(b.Entries) }

func periodOf(l api.PaLog, x api.PaAt) int { return setsOf(l.Books[x.Book].Entries[:x.Entry]) }

func setsOf(l []api.PaEntry) (number int) {
	for _, x := range l {
		if x.Kind == api.PaSet {
			number++
		}
	}
	return number
}

// instantOf is the instant of an entry in a truth.
func instantOf(l api.PaLog, t truth, x api.PaAt) int {
	return l.Books[x.Book].Entries[x.Entry].Shown - t[x.Book][periodOf(l, x)]
}

// keepsOrder reports whether numbers of the periods of a book have no entry before the one before it.
func keepsOrder(b api.PaBook, numbers []int) bool {
	period, before := 0, math.MinInt
	for _, x := range b.Entries {
		instant := x.Shown - numbers[period]
		if instant < before {
			return false
		}
		before = instant
		if x.Kind == api.PaSet {
			period++
		}
	}
	return true
}

// firstOf reports whether an entry is the first one of its book that is a report with a number.
func firstOf(l api.PaLog, x api.PaAt, number int) bool {
	is := func(x api.PaEntry) bool { return x.Kind == api.PaReport && x.Number == number }
	entries := l.Books[x.Book].Entries
	return is(entries[x.Entry]) && !slices.ContainsFunc(entries[:x.Entry], is)
}

// pair are the first entries of two books with the same number.
type pair struct {
	x, y   api.PaAt
	number int
}

// pairsOf are all of those.
func pairsOf(l api.PaLog) (pairs []pair) {
	for x, this := range entriesOf(l) {
		for y := range entriesOf(l) {
			if x.Book < y.Book && this.Kind == api.PaReport && firstOf(l, x, this.Number) && firstOf(l, y, this.Number) {
				pairs = append(pairs, pair{x, y, this.Number})
			}
		}
	}
	return pairs
}

// agrees reports whether in a truth the first entries with a number have the same instant, but those of confused numbers.
func agrees(l api.PaLog, t truth, pairs []pair, confused []int) bool {
	for _, p := range pairs {
		if !slices.Contains(confused, p.number) && instantOf(l, t, p.x) != instantOf(l, t, p.y) {
			return false
		}
	}
	return true
}

// clocksOf are all numbers of the periods of a book, of spans so much wider, that keep the order of its entries.
func clocksOf(b api.PaBook, wider int) [][]int {
	all := [][]int{nil}
	for period := range periodsOf(b) {
		s := b.Set
		if period == 0 {
			s = b.Off
		}
		var longer [][]int
		for _, numbers := range all {
			for n := s.Lo - wider; n <= s.Hi+wider; n++ {
				longer = append(longer, append(slices.Clip(numbers), n))
			}
		}
		all = longer
	}
	return slices.DeleteFunc(all, func(numbers []int) bool { return !keepsOrder(b, numbers) })
}

// truthsOf yields all truths that fit, with spans so much wider and confused numbers.
func truthsOf(l api.PaLog, wider int, confused ...int) iter.Seq[truth] {
	pairs := pairsOf(l)
	var clocks [3][][]int
	for i, b := range l.Books {
		clocks[i] = clocksOf(b, wider)
	}
	return func(yield func(truth) bool) {
		var find func(t truth) bool
		find = func(t truth) bool {
			if len(t) == len(l.Books) {
				return !agrees(l, t, pairs, confused) || yield(slices.Clone(t))
			}
			for _, numbers := range clocks[len(t)] {
				if !find(append(slices.Clip(t), numbers)) {
					return false
				}
			}
			return true
		}
		find(nil)
	}
}

// fitsOf reports whether some truth fits.
func fitsOf(l api.PaLog, wider int, confused ...int) bool {
	for range truthsOf(l, wider, confused...) {
		return true
	}
	return false
}

// rangeOf is the least and the greatest of what is so in truths.
func rangeOf(truths []truth, what func(t truth) int) api.Span {
	s := span(math.MaxInt, math.MinInt)
	for _, t := range truths {
		s = span(min(s.Lo, what(t)), max(s.Hi, what(t)))
	}
	return s
}

// offsOf is what Offs has to tell if these truths fit, and instantsOf what Instant has to.
func offsOf(l api.PaLog, truths []truth, book int) (offs []api.Span) {
	for period := range periodsOf(l.Books[book]) {
		offs = append(offs, rangeOf(truths, func(t truth) int { return t[book][period] }))
	}
	return offs
}

func instantsOf(l api.PaLog, truths []truth, x api.PaAt) api.Span {
	return rangeOf(truths, func(t truth) int { return instantOf(l, t, x) })
}

// apartOf is what Apart has to tell if these truths fit.
func apartOf(l api.PaLog, truths []truth, x, y api.PaAt) (s api.Span, order int) {
	behind := func(t truth) int { return instantOf(l, t, y) - instantOf(l, t, x) }
	all := func(is func(n int) bool) bool {
		return !slices.ContainsFunc(truths, func(t truth) bool { return !is(behind(t)) })
	}
	switch {
	case all(func(n int) bool { return n > 0 }):
		order = api.PaBefore
	case all(func(n int) bool { return n < 0 }):
		order = api.PaAfter
	case all(func(n int) bool { return n == 0 }):
		order = api.PaOnce
	}
	return rangeOf(truths, behind), order
}

// sameOf is what Same has to tell of an entry PaPass if these truths fit.
func sameOf(l api.PaLog, truths []truth, x api.PaAt) (all []api.PaAt) {
	this := l.Books[x.Book].Entries[x.Entry]
	for y, other := range entriesOf(l) {
		if y.Book == x.Book || other.Kind != api.PaPass || other.Word != this.Word {
			continue
		}
		if slices.ContainsFunc(truths, func(t truth) bool {
			n := instantOf(l, t, x) - instantOf(l, t, y)
			return -l.Near <= n && n <= l.Near
		}) {
			all = append(all, y)
		}
	}
	return all
}

// needOf is what Need has to tell, if it is no number above a limit.
func needOf(l api.PaLog, limit int) (int, api.Errno) {
	for n := range limit + 1 {
		if fitsOf(l, n) {
			return n, api.OK
		}
	}
	return 0, api.ErrDown
}

// reportsOf are all numbers of reports, ascending, each once.
func reportsOf(l api.PaLog) (numbers []int) {
	for _, x := range entriesOf(l) {
		if x.Kind == api.PaReport {
			numbers = append(numbers, x.Number)
		}
	}
	slices.Sort(numbers)
	return slices.Compact(numbers)
}

// confusedOf is what Confused has to tell.
func confusedOf(l api.PaLog) (best []int, e api.Errno) {
	numbers, e := reportsOf(l), api.ErrDown
	for choice := range 1 << len(numbers) {
		var confused []int
		for i, n := range numbers {
			if choice&(1<<i) != 0 {
				confused = append(confused, n)
			}
		}
		isBetter := e != api.OK || len(confused) < len(best) || len(confused) == len(best) && slices.Compare(confused, best) < 0
		if isBetter && fitsOf(l, 0, confused...) {
			best, e = confused, api.OK
		}
	}
	return best, e
}

// missingOf and copiesOf are what Reports has to tell, and disagreeOf whether it has to return ErrTwice.
func missingOf(l api.PaLog) (missing []int) {
	numbers := reportsOf(l)
	for n := 1; n <= 99; n++ {
		isAbove := func(k int) bool { return k > n }
		if slices.ContainsFunc(numbers, isAbove) && !slices.Contains(numbers, n) {
			missing = append(missing, n)
		}
	}
	return missing
}

func copiesOf(l api.PaLog) (copies []int) {
	for n := 1; n <= 99; n++ {
		isCopy := false
		for x, entry := range entriesOf(l) {
			isCopy = isCopy || entry.Kind == api.PaReport && entry.Number == n && !firstOf(l, x, n)
		}
		if isCopy {
			copies = append(copies, n)
		}
	}
	return copies
}

func disagreeOf(l api.PaLog) bool {
	for _, x := range entriesOf(l) {
		for _, y := range entriesOf(l) {
			if x.Kind == api.PaReport && y.Kind == api.PaReport && x.Number == y.Number && x.Word != y.Word {
				return true
			}
		}
	}
	return false
}

// What follows is for logs that have too many truths: by how much each period can be ahead of each other one, by way of any third one.

// none is more than any period is ahead of another one.
const none = 1 << 40

// table is by how much each period, 1 + 9 times its book + its number, is at most ahead of each other one; 0 is a clock that is never off.
type table [28][28]int

// tableOf is the table of a log, with spans so much wider and confused numbers, and whether some truth fits.
func tableOf(l api.PaLog, wider int, confused ...int) (t *table, fits bool) {
	t = &table{}
	for i := range t {
		for k := range t {
			if i != k {
				t[i][k] = none
			}
		}
	}
	lower := func(i, k, n int) { t[i][k] = min(t[i][k], n) }
	node := func(x api.PaAt) int { return 1 + 9*x.Book + periodOf(l, x) }
	for i, b := range l.Books {
		for period := range periodsOf(b) {
			s := b.Set
			if period == 0 {
				s = b.Off
			}
			lower(0, 1+9*i+period, s.Hi+wider)
			lower(1+9*i+period, 0, wider-s.Lo)
		}
		for k := 1; k < len(b.Entries); k++ {
			lower(node(at(i, k-1)), node(at(i, k)), b.Entries[k].Shown-b.Entries[k-1].Shown)
		}
	}
	for _, p := range pairsOf(l) {
		if !slices.Contains(confused, p.number) {
			n := l.Books[p.y.Book].Entries[p.y.Entry].Shown - l.Books[p.x.Book].Entries[p.x.Entry].Shown
			lower(node(p.x), node(p.y), n)
			lower(node(p.y), node(p.x), -n)
		}
	}
	for by := range t {
		for i := range t {
			for k := range t {
				lower(i, k, t[i][by]+t[by][k])
			}
		}
	}
	for i := range t {
		if t[i][i] < 0 {
			return t, false
		}
	}
	return t, true
}

// dice are random numbers that are the same in each run.
type dice struct{ *rand.Rand }

func newDice(seed uint64) dice { return dice{rand.New(rand.NewPCG(seed, 11))} }

// from is a random number from lo to hi.
func (d dice) from(lo, hi int) int { return lo + d.IntN(hi-lo+1) }

// once reports something that is so once in n times.
func (d dice) once(n int) bool { return d.IntN(n) == 0 }

// size is how large random logs are: how many books, entries of a book and settings of its clock they have at most, how wide their spans are, and how long the time between two entries of a book is.
type size struct{ books, entries, sets, wide, long int }

// small has few truths, tiny has fewer, and large is as large as can be.
var (
	small = size{books: 3, entries: 6, sets: 1, wide: 4, long: 4}
	tiny  = size{books: 3, entries: 4, sets: 1, wide: 2, long: 3}
	large = size{books: 3, entries: 8, sets: 8, wide: 60, long: 60}
)

// someSpan is a random span that has a number.
func (d dice) someSpan(number, wide int) api.Span {
	lo := max(-720, number-d.IntN(wide+1))
	return span(lo, max(number, min(720, lo+d.IntN(wide+1))))
}

// event is what is entered in a book at an instant.
type event struct {
	instant int
	entry   api.PaEntry
}

// someEvents are random events of a book, in order; reports are at the instant of their number, or are copies.
func (d dice) someEvents(s size, instants [5]int) (events []event) {
	last := slices.Max(instants[:])
	for n := 1; n < len(instants); n++ {
		x := report(0, letter(n), n)
		if !d.once(3) {
			events = append(events, event{instants[n], x})
			if d.once(6) {
				events = append(events, event{d.from(instants[n], last), x})
			}
		}
	}
	for range d.IntN(s.sets + 1) {
		events = append(events, event{d.from(1000, last), set(0)})
	}
	for len(events) < s.entries && !d.once(5) {
		events = append(events, event{d.from(1000, last), ship(0, []string{"tug", "orient"}[d.IntN(2)])})
	}
	for len(events) > s.entries {
		at := d.IntN(len(events))
		events = slices.Delete(events, at, at+1)
	}
	slices.SortStableFunc(events, func(x, y event) int { return x.instant - y.instant })
	// What is left of a report and its copy may be the copy alone, which was not made at the instant of its number.
	return slices.DeleteFunc(events, func(x event) bool {
		first := slices.IndexFunc(events, func(y event) bool { return y.entry == x.entry })
		return x.entry.Kind == api.PaReport && events[first].instant != instants[x.entry.Number]
	})
}

// someLog is a random log with a truth that fits.
func (d dice) someLog(s size) (l api.PaLog, t truth) {
	var instants [5]int
	for i := range instants {
		instants[i] = 1000 + d.IntN(s.long*s.entries+1)
	}
	l = log(min(60, d.IntN(s.long+1)))
	for i := range max(d.from(1, s.books), d.from(1, s.books)) {
		b := book("book-"+letter(i), d.someSpan(0, s.wide), d.someSpan(0, s.wide))
		numbers := list(d.from(b.Off.Lo, b.Off.Hi))
		for _, x := range d.someEvents(s, instants) {
			ahead := numbers[len(numbers)-1]
			x.entry.Shown = x.instant + ahead
			b.Entries = append(b.Entries, x.entry)
			if x.entry.Kind == api.PaSet {
				numbers = append(numbers, d.from(b.Set.Lo, b.Set.Hi))
			}
		}
		l.Books, t = append(l.Books, b), append(t, numbers)
	}
	return l, t
}

// spoilt is a log in which the clocks of some entries showed something else, so that it mostly does not fit.
func (d dice) spoilt(l api.PaLog, most int) api.PaLog {
	l = clone(l)
	for range d.from(1, 3) {
		b := l.Books[d.IntN(len(l.Books))]
		if len(b.Entries) > 0 {
			x := &b.Entries[d.IntN(len(b.Entries))]
			x.Shown = min(max(0, x.Shown+d.from(-most, most)), 20000)
		}
	}
	return l
}

// moved is a log whose spans are others, by at most so much, so that it perhaps does not fit, but needs wider ones.
func (d dice) moved(l api.PaLog, most int) api.PaLog {
	l = clone(l)
	for i := range l.Books {
		b := &l.Books[i]
		for _, s := range []*api.Span{&b.Off, &b.Set} {
			n := d.from(-most, most)
			*s = span(min(max(-720, s.Lo+n), 720), min(max(-720, s.Hi+n), 720))
		}
	}
	return l
}

// mixed is a log in which some numbers of reports are others, so that they perhaps are confused.
func (d dice) mixed(l api.PaLog) api.PaLog {
	l = clone(l)
	for x, entry := range entriesOf(l) {
		if entry.Kind == api.PaReport && d.once(2) {
			l.Books[x.Book].Entries[x.Entry].Number = d.from(1, 4)
		}
	}
	return l
}

// someCase is a random log that fits, or perhaps does not.
func (d dice) someCase(s size) api.PaLog {
	l, _ := d.someLog(s)
	switch d.IntN(6) {
	case 0:
		l = d.spoilt(l, 1+s.long)
	case 1:
		l = d.moved(l, 1+s.wide)
	case 2:
		l = d.mixed(l)
	}
	return l
}

// someAt is a random entry of a log that has one.
func (d dice) someAt(l api.PaLog) api.PaAt {
	all := ats()
	for x := range entriesOf(l) {
		all = append(all, x)
	}
	return all[d.IntN(len(all))]
}

// isEmpty reports whether a log has no entries.
func isEmpty(l api.PaLog) bool {
	for range entriesOf(l) {
		return false
	}
	return true
}

// told is what is asked, for a message.
func told(things ...any) string { return fmt.Sprintf("%+v", things) }
