package pass

import (
	"iter"
	"maps"
	"slices"

	"nore/api"
)

// books is a log that is looked at: its numbers of reports, each with all entries that have it, in order, and what is known of its periods.
type books struct {
	api.PaLog
	reports map[int][]api.PaAt
	known   []step
}

// open returns a log that is looked at.
func open(l api.PaLog) *books {
	b := &books{PaLog: l, reports: map[int][]api.PaAt{}}
	for x := range b.entries() {
		if report, ok := tell(b.entry(x)).(reporting); ok {
			b.reports[report.Number] = append(b.reports[report.Number], x)
		}
	}
	b.known = b.steps(0)
	return b
}

// entries yields all entries, book by book.
func (b *books) entries() iter.Seq[api.PaAt] {
	return func(yield func(api.PaAt) bool) {
		for book := range b.Books {
			for entry := range b.Books[book].Entries {
				if !yield(api.PaAt{Book: book, Entry: entry}) {
					return
				}
			}
		}
	}
}

func (b *books) entry(x api.PaAt) api.PaEntry { return b.Books[x.Book].Entries[x.Entry] }

// numbers returns the numbers that reports have, ascending.
func (b *books) numbers() []int { return slices.Sorted(maps.Keys(b.reports)) }

// firsts returns the first entry with a number of each book that has one.
func (b *books) firsts(number int) []api.PaAt {
	return slices.CompactFunc(slices.Clone(b.reports[number]), func(x, y api.PaAt) bool { return x.Book == y.Book })
}

// shared returns the numbers that several books have, ascending.
func (b *books) shared() []int {
	return slices.DeleteFunc(b.numbers(), func(number int) bool { return len(b.firsts(number)) < 2 })
}

// disagree reports whether two entries have the same number, but another word.
func (b *books) disagree() bool {
	for _, l := range b.reports {
		for _, x := range l {
			if b.entry(x).Word != b.entry(l[0]).Word {
				return true
			}
		}
	}
	return false
}

// missing returns the numbers up to the greatest one that no report has.
func (b *books) missing() []int {
	var missing []int
	numbers := b.numbers()
	if len(numbers) == 0 {
		return nil
	}
	for n := 1; n < slices.Max(numbers); n++ {
		if len(b.reports[n]) == 0 {
			missing = append(missing, n)
		}
	}
	return missing
}

// copies returns the numbers that a book has several times.
func (b *books) copies() []int {
	return slices.DeleteFunc(b.numbers(), func(number int) bool {
		return len(b.firsts(number)) == len(b.reports[number])
	})
}

// confused returns the first list of so many of the numbers with which the log fits if they are confused, and whether there is one.
func (b *books) confused(numbers []int, length int) ([]int, bool) {
	for list := range lists(numbers, length) {
		if _, ok := b.chain(right, b.steps(0, list...)); ok {
			return slices.Clone(list), true
		}
	}
	return nil, false
}

// lists yields all lists of so many of the numbers, in order. Each is changed when the next one is yielded.
func lists(numbers []int, length int) iter.Seq[[]int] {
	return func(yield func([]int) bool) {
		var list []int
		var choose func(left []int) bool
		choose = func(left []int) bool {
			if len(list) == length {
				return yield(list)
			}
			for i, n := range left {
				list = append(list, n)
				if !choose(left[i+1:]) {
					return false
				}
				list = list[:len(list)-1]
			}
			return true
		}
		choose(numbers)
	}
}

// least returns the least number from 0 to a limit that does, what is found with it, and whether there is one. Each number above one that does has to do, too.
func least[T any](limit int, try func(int) (T, bool)) (number int, found T, ok bool) {
	below, number := 0, limit+1
	for below < number {
		middle := (below + number) / 2
		if f, does := try(middle); does {
			number, found, ok = middle, f, true
		} else {
			below = middle + 1
		}
	}
	return number, found, ok
}
