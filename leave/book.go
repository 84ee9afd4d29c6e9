package leave

import (
	"cmp"
	"iter"
	"slices"

	"nore/api"
)

// aDay is a day of leave, as accounts tell it.
const aDay = 1000

// book is a crew that is looked at: its accounts on a day, and how many events have happened.
type book struct {
	api.LvCrew
	day, happened int
	accounts      []api.LvAccount
}

// newBook returns the book of a crew before all events.
func newBook(c api.LvCrew) *book {
	b := &book{LvCrew: c, accounts: make([]api.LvAccount, len(c.Men))}
	for i, m := range b.Men {
		b.accounts[i].Owed = m.Owed
		if m.Ashore {
			b.accounts[i].Place = api.LvAway
		}
	}
	return b
}

// rank returns the rank of a man.
func (b *book) rank(man int) api.LvRank { return b.Ranks[b.Men[man].Rank] }

// bookOn returns the book of a crew on a day, for a log without an error.
func bookOn(c api.LvCrew, l []api.LvEvent, day int) *book {
	b := newBook(c)
	b.play(l, day)
	return b
}

// tryPlay returns the index and the error of the first event that cannot happen.
func tryPlay(c api.LvCrew, l []api.LvEvent) (at int, e api.Errno) {
	b := newBook(c)
	defer func() {
		if refused, ok := recover().(api.Errno); ok {
			at, e = b.happened, refused
		}
	}()
	b.play(l, api.MaxDay)
	return 0, api.OK
}

// play lets all events up to a day happen, and the days before it pass. It panics with the error of an event that cannot happen.
func (b *book) play(l []api.LvEvent, last int) {
	for day, events := range days(l, last) {
		b.pass(day)
		for _, event := range events {
			b.happen(event)
			b.happened++
		}
	}
	b.pass(last)
}

// days yields the days up to a last one on which something happens, each with its events.
func days(l []api.LvEvent, last int) iter.Seq2[int, []api.LvEvent] {
	return func(yield func(int, []api.LvEvent) bool) {
		for from := 0; from < len(l) && l[from].Day <= last; {
			day, to := l[from].Day, from
			for to < len(l) && l[to].Day == day {
				to++
			}
			if !yield(day, l[from:to]) {
				return
			}
			from = to
		}
	}
}

// pass lets the days before a day pass: nobody changes his place on them.
func (b *book) pass(day int) {
	passed := day - b.day
	for i := range b.accounts {
		a := &b.accounts[i]
		a.Days[a.Place] += passed
		switch a.Place {
		case api.LvBoard:
			a.Owed += b.rank(i).Earn * passed
		case api.LvAway:
			a.Owed -= aDay * passed
		}
	}
	b.day = day
}

// happen lets an event happen.
func (b *book) happen(event api.LvEvent) {
	kinds := [...]func(api.LvEvent){
		api.LvGo:   b.goOnLeave,
		api.LvBack: b.comeBack,
		api.LvSick: b.fallIll,
		api.LvWell: b.getWell,
		api.LvSwap: b.swap,
	}
	kinds[event.Kind](event)
}

func (b *book) goOnLeave(event api.LvEvent) {
	if !b.mayGo(event.Man) {
		panic(api.ErrDown)
	}
	b.move(event.Man, api.LvBoard, api.LvAway)
	if b.onBoard() < b.Least {
		panic(api.ErrZero)
	}
}

func (b *book) comeBack(event api.LvEvent) { b.move(event.Man, api.LvAway, api.LvBoard) }

func (b *book) fallIll(event api.LvEvent) {
	from := b.accounts[event.Man].Place
	if from == api.LvIll {
		panic(api.ErrDown)
	}
	b.move(event.Man, from, api.LvIll)
}

func (b *book) getWell(event api.LvEvent) { b.move(event.Man, api.LvIll, api.LvBoard) }

func (b *book) swap(event api.LvEvent) {
	b.move(event.Man, api.LvBoard, api.LvAway)
	b.move(event.Other, api.LvAway, api.LvBoard)
}

// move moves a man from a place to another one. It panics if he is not there.
func (b *book) move(man, from, to int) {
	a := &b.accounts[man]
	if a.Place != from {
		panic(api.ErrDown)
	}
	a.Place = to
}

// mayGo reports whether a man is on board and is owed a day of leave.
func (b *book) mayGo(man int) bool {
	a := b.accounts[man]
	return a.Place == api.LvBoard && a.Owed >= aDay
}

// onBoard returns how many men are on board.
func (b *book) onBoard() int {
	number := 0
	for _, a := range b.accounts {
		if a.Place == api.LvBoard {
			number++
		}
	}
	return number
}

// next returns the men who may go, who is owed most first, then by rank.
func (b *book) next() []int {
	var men []int
	for man := range b.Men {
		if b.mayGo(man) {
			men = append(men, man)
		}
	}
	slices.SortStableFunc(men, func(x, y int) int {
		return cmp.Or(cmp.Compare(b.accounts[y].Owed, b.accounts[x].Owed), cmp.Compare(b.Men[x].Rank, b.Men[y].Rank))
	})
	return men
}

// due returns what a man is paid for all days before this one.
func (b *book) due(man int) int {
	r, days := b.rank(man), b.accounts[man].Days
	return r.Pay * (api.All*days[api.LvBoard] + r.Leave*days[api.LvAway] + r.Ill*days[api.LvIll]) / api.All
}
