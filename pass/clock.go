package pass

import (
	"iter"
	"slices"

	"nore/api"
)

// mostPeriods is how many periods books can have.
const mostPeriods = api.MaxPaBooks * (api.MaxPaEntries + 1)

// widest is how many minutes wider spans have to be at most: a chain of steps meets each period once, and each step takes it down by MaxPaShown at most.
const widest = mostPeriods * api.MaxPaShown

// period is a period of the clock of a book.
type period struct{ book, number int }

// right is the period of a clock that is never off.
var right = period{-1, 0}

// step says that a period is ahead of another one by so much at most.
type step struct {
	from, to period
	most     int
}

// period returns the period of an entry.
func (b *books) period(x api.PaAt) period {
	return period{x.Book, settings(b.Books[x.Book].Entries[:x.Entry])}
}

// periods yields all periods of a book.
func (b *books) periods(book int) iter.Seq[period] {
	return func(yield func(period) bool) {
		for number := range settings(b.Books[book].Entries) + 1 {
			if !yield(period{book, number}) {
				return
			}
		}
	}
}

// settings returns how often a clock was set.
func settings(l []api.PaEntry) int {
	number := 0
	for _, x := range l {
		if x.Kind == api.PaSet {
			number++
		}
	}
	return number
}

// span returns by how much the clock of a book is said to be ahead in a period.
func (b *books) span(p period) api.Span {
	if p.number == 0 {
		return b.Books[p.book].Off
	}
	return b.Books[p.book].Set
}

// steps returns all that truths that fit have to do, if spans are wider by so much at both ends and numbers are confused.
func (b *books) steps(wider int, confused ...int) []step {
	var steps []step
	for book := range b.Books {
		for p := range b.periods(book) {
			s := b.span(p)
			steps = append(steps, step{right, p, s.Hi + wider}, step{p, right, wider - s.Lo})
		}
	}
	for y := range b.entries() {
		if y.Entry > 0 {
			steps = append(steps, b.notBefore(api.PaAt{Book: y.Book, Entry: y.Entry - 1}, y))
		}
	}
	for _, number := range b.numbers() {
		if slices.Contains(confused, number) {
			continue
		}
		firsts := b.firsts(number)
		for _, x := range firsts[1:] {
			steps = append(steps, b.notBefore(x, firsts[0]), b.notBefore(firsts[0], x))
		}
	}
	return steps
}

// notBefore returns the step that says that the instant of the second entry is not before that of the first one.
func (b *books) notBefore(x, y api.PaAt) step {
	return step{b.period(x), b.period(y), b.entry(y).Shown - b.entry(x).Shown}
}

// chain returns for each period the shortest chain of steps to it from a period: by how much at most it is ahead of that one. It reports false if no truth does as steps say.
func (b *books) chain(from period, steps []step) (map[period]int, bool) {
	far := map[period]int{from: 0}
tries:
	// Each try finds chains that are longer by a step; as the shortest ones meet no period twice, the last try finds nothing.
	for range b.all() {
		found := false
		for _, s := range steps {
			start, ok := far[s.from]
			if !ok {
				continue
			}
			end, ok := far[s.to]
			if ok && end <= start+s.most {
				continue
			}
			if s.to == from {
				// A clock would be behind itself.
				break tries
			}
			far[s.to], found = start+s.most, true
		}
		if !found {
			return far, true
		}
	}
	return nil, false
}

// all returns how many periods there are, with that of the right clock.
func (b *books) all() int {
	number := 1
	for _, book := range b.Books {
		number += settings(book.Entries) + 1
	}
	return number
}

// fits reports whether some truth fits.
func (b *books) fits() bool {
	_, ok := b.chain(right, b.known)
	return ok
}

// ahead returns by how much at least, and at most, the second period is ahead of the first one in truths that fit.
func (b *books) ahead(p, q period) api.Span {
	most, _ := b.chain(p, b.known)
	back, _ := b.chain(q, b.known)
	return api.Span{Lo: -back[p], Hi: most[q]}
}

// apart returns by how many minutes at least, and at most, the second entry is behind the first one in truths that fit.
func (b *books) apart(x, y api.PaAt) api.Span {
	return less(b.entry(y).Shown-b.entry(x).Shown, b.ahead(b.period(x), b.period(y)))
}

// canBeNear reports whether in some truth that fits two entries differ by at most Near.
func (b *books) canBeNear(x, y api.PaAt) bool {
	s := b.apart(x, y)
	return s.Lo <= b.Near && s.Hi >= -b.Near
}

// less returns a number less each one of a span.
func less(number int, s api.Span) api.Span {
	return api.Span{Lo: number - s.Hi, Hi: number - s.Lo}
}

// orderOf returns which of two entries was surely made first, of which the second one is so much behind.
func orderOf(s api.Span) int {
	switch {
	case s.Lo > 0:
		return api.PaBefore
	case s.Hi < 0:
		return api.PaAfter
	case s.Lo == s.Hi:
		return api.PaOnce
	}
	return api.PaEither
}
