package leave_test

import (
	"cmp"
	"fmt"
	"math"
	"math/rand/v2"
	"slices"

	"nore/api"
)

// far are ints far beyond all limits; cut down to 32 bits, some of them are small.
var far = []int{math.MinInt, math.MinInt + 1, -1 << 40, -1<<32 - 1, -1 << 32, -1<<32 + 1, math.MinInt32, math.MaxInt32, 1 << 32, 1<<32 + 1, 1<<32 + 2, 1 << 40, math.MaxInt - 1, math.MaxInt}

// These are the men, and the ranks, of the chapter's examples.
const (
	ames = iota
	bell
	cole
	dunn
)

const (
	mate = iota
	hand
)

// exampleC is C of the chapter's examples, and exampleL its L.
func exampleC() api.LvCrew {
	return api.LvCrew{
		Ranks: []api.LvRank{
			{Name: "mate", Pay: 100, Leave: 500, Ill: 250, Earn: 500},
			{Name: "hand", Pay: 33, Leave: 500, Ill: 0, Earn: 250},
		},
		Men: []api.LvMan{
			{Name: "ames", Rank: mate, Owed: 2000},
			{Name: "bell", Rank: mate, Owed: 500, Ashore: true},
			{Name: "cole", Rank: hand, Owed: 3000},
			{Name: "dunn", Rank: hand, Owed: 3000},
		},
		Least: 2,
	}
}

func exampleL() []api.LvEvent {
	return events(goes(1, cole), swap(3, ames, bell), sick(4, dunn), back(6, cole))
}

// exampleP is the plan of the chapter's examples.
func exampleP() api.LvPlan { return plan(2, 10, 1) }

func events(l ...api.LvEvent) []api.LvEvent { return l }

func goes(day, man int) api.LvEvent { return api.LvEvent{Day: day, Kind: api.LvGo, Man: man} }

func back(day, man int) api.LvEvent { return api.LvEvent{Day: day, Kind: api.LvBack, Man: man} }

func sick(day, man int) api.LvEvent { return api.LvEvent{Day: day, Kind: api.LvSick, Man: man} }

func well(day, man int) api.LvEvent { return api.LvEvent{Day: day, Kind: api.LvWell, Man: man} }

func swap(day, man, other int) api.LvEvent {
	return api.LvEvent{Day: day, Kind: api.LvSwap, Man: man, Other: other}
}

// account is an account with days on board, on leave and ill.
func account(place, owed, board, away, ill int) api.LvAccount {
	return api.LvAccount{Place: place, Owed: owed, Days: [3]int{board, away, ill}}
}

func accounts(l ...api.LvAccount) []api.LvAccount { return l }

func plan(turns, days, away int) api.LvPlan {
	return api.LvPlan{Turns: turns, Days: days, Away: away}
}

// turns are turns, and men who are in one.
func turns(l ...[]int) [][]int { return l }

func men(l ...int) []int { return l }

// mates is a crew of men of one rank who are on board and are owed this.
func mates(rank api.LvRank, owed ...int) api.LvCrew {
	rank.Name = "mate"
	c := api.LvCrew{Ranks: []api.LvRank{rank}}
	for i, n := range owed {
		c.Men = append(c.Men, api.LvMan{Name: letter(i), Owed: n})
	}
	return c
}

// full is a crew with as much of all, and with all numbers as great, as can be.
func full() api.LvCrew {
	c := api.LvCrew{Least: 5}
	for i := range api.MaxLvRanks {
		c.Ranks = append(c.Ranks, api.LvRank{Name: "rank-number-" + letter(i), Pay: 1000, Leave: 1000, Ill: 1000, Earn: 1000})
	}
	for i := range api.MaxLvMen {
		c.Men = append(c.Men, api.LvMan{Name: "man-number-" + letter(i), Rank: i % 3, Owed: 100000})
	}
	return c
}

// letter is a name.
func letter(i int) string { return string(rune('a' + i)) }

func clone(c api.LvCrew) api.LvCrew {
	c.Ranks, c.Men = slices.Clone(c.Ranks), slices.Clone(c.Men)
	return c
}

// same reports whether crews are equal, and sameTurns whether turns are.
func same(a, b api.LvCrew) bool {
	return slices.Equal(a.Ranks, b.Ranks) && slices.Equal(a.Men, b.Men) && a.Least == b.Least
}

func sameTurns(a, b [][]int) bool {
	return slices.EqualFunc(a, b, func(x, y []int) bool { return slices.Equal(x, y) })
}

func cloneTurns(l [][]int) [][]int {
	l = slices.Clone(l)
	for i := range l {
		l[i] = slices.Clone(l[i])
	}
	return l
}

// with is a log with further events at its end.
func with(l []api.LvEvent, more ...api.LvEvent) []api.LvEvent { return append(slices.Clip(l), more...) }

// upTo are the events of a log up to a day.
func upTo(l []api.LvEvent, day int) (known []api.LvEvent) {
	for _, e := range l {
		if e.Day <= day {
			known = append(known, e)
		}
	}
	return known
}

// What follows holds the chapter's definitions, as they stand there, against the package: event by event, day by day, turn by turn.

// placeOf is the place of a man behind all events of a list.
func placeOf(c api.LvCrew, l []api.LvEvent, man int) int {
	place := api.LvBoard
	if c.Men[man].Ashore {
		place = api.LvAway
	}
	for _, e := range l {
		switch {
		case e.Kind == api.LvSwap && e.Other == man:
			place = api.LvBoard
		case e.Man != man:
		case e.Kind == api.LvGo || e.Kind == api.LvSwap:
			place = api.LvAway
		case e.Kind == api.LvBack || e.Kind == api.LvWell:
			place = api.LvBoard
		default:
			place = api.LvIll
		}
	}
	return place
}

// rankOf is the rank of a man.
func rankOf(c api.LvCrew, man int) api.LvRank { return c.Ranks[c.Men[man].Rank] }

// onBoardOf is how many men are on board behind all events of a list.
func onBoardOf(c api.LvCrew, l []api.LvEvent) (number int) {
	for man := range c.Men {
		if placeOf(c, l, man) == api.LvBoard {
			number++
		}
	}
	return number
}

// daysOf are on how many days before a day a man was at each place.
func daysOf(c api.LvCrew, l []api.LvEvent, man, day int) (days [3]int) {
	for d := range day {
		days[placeOf(c, upTo(l, d), man)]++
	}
	return days
}

// owedOf is what a man is owed in the morning of a day.
func owedOf(c api.LvCrew, l []api.LvEvent, man, day int) int {
	owed := c.Men[man].Owed
	for d := range day {
		switch placeOf(c, upTo(l, d), man) {
		case api.LvBoard:
			owed += rankOf(c, man).Earn
		case api.LvAway:
			owed -= 1000
		}
	}
	return owed
}

// thousandthsOf is the due of a man on a day in thousandths, before it is rounded.
func thousandthsOf(c api.LvCrew, l []api.LvEvent, man, day int) (due int) {
	r := rankOf(c, man)
	for d := range day {
		switch placeOf(c, upTo(l, d), man) {
		case api.LvBoard:
			due += r.Pay * 1000
		case api.LvAway:
			due += r.Pay * r.Leave
		case api.LvIll:
			due += r.Pay * r.Ill
		}
	}
	return due
}

// logErrorOf is what CheckLog has to tell of a log of a crew without an error.
func logErrorOf(c api.LvCrew, l []api.LvEvent) (int, api.Errno) {
	if len(l) > 20 {
		return 0, api.ErrLong
	}
	for i := range l {
		if e := eventErrorOf(c, l[:i], l[i]); e != api.OK {
			return i, e
		}
	}
	return 0, api.OK
}

// eventErrorOf is the error of an event behind others.
func eventErrorOf(c api.LvCrew, before []api.LvEvent, e api.LvEvent) api.Errno {
	isMan := func(man int) bool { return man >= 0 && man < len(c.Men) }
	earliest := 0
	if len(before) > 0 {
		earliest = before[len(before)-1].Day
	}
	switch {
	case e.Kind < 1 || e.Kind > 5 || e.Kind != api.LvSwap && e.Other != 0 || e.Kind == api.LvSwap && e.Man == e.Other:
		return api.ErrArg
	case !isMan(e.Man) || !isMan(e.Other):
		return api.ErrNone
	case e.Day < earliest || e.Day > 40000:
		return api.ErrRange
	}
	place := placeOf(c, before, e.Man)
	can := place == api.LvBoard
	switch e.Kind {
	case api.LvGo:
		can = can && owedOf(c, before, e.Man, e.Day) >= 1000
	case api.LvBack:
		can = place == api.LvAway
	case api.LvSick:
		can = place != api.LvIll
	case api.LvWell:
		can = place == api.LvIll
	case api.LvSwap:
		can = can && placeOf(c, before, e.Other) == api.LvAway
	}
	switch {
	case !can:
		return api.ErrDown
	case e.Kind == api.LvGo && onBoardOf(c, before)-1 < c.Least:
		return api.ErrZero
	}
	return api.OK
}

// accountsOf is what Accounts has to tell, and nextOf what Next has to.
func accountsOf(c api.LvCrew, l []api.LvEvent, day int) (all []api.LvAccount) {
	for man := range c.Men {
		all = append(all, api.LvAccount{Place: placeOf(c, upTo(l, day), man), Owed: owedOf(c, l, man, day), Days: daysOf(c, l, man, day)})
	}
	return all
}

func nextOf(c api.LvCrew, l []api.LvEvent, day int) (next []int) {
	all := accountsOf(c, l, day)
	for man, a := range all {
		if a.Place == api.LvBoard && a.Owed >= 1000 {
			next = append(next, man)
		}
	}
	slices.SortFunc(next, func(x, y int) int {
		return cmp.Or(cmp.Compare(all[y].Owed, all[x].Owed), cmp.Compare(c.Men[x].Rank, c.Men[y].Rank), cmp.Compare(x, y))
	})
	return next
}

// payOf is what Pay has to tell.
func payOf(c api.LvCrew, l []api.LvEvent, from, to int) (pay []int) {
	for man := range c.Men {
		pay = append(pay, thousandthsOf(c, l, man, to)/1000-thousandthsOf(c, l, man, from)/1000)
	}
	return pay
}

// turnErrorOf is the error of a turn behind the one before it.
func turnErrorOf(c api.LvCrew, p api.LvPlan, away, before []int) api.Errno {
	for _, man := range away {
		if man < 0 || man >= len(c.Men) {
			return api.ErrNone
		}
	}
	for i := range away {
		if i > 0 && away[i] <= away[i-1] {
			return api.ErrArg
		}
	}
	if len(away) > p.Away {
		return api.ErrLong
	}
	for _, man := range away {
		if slices.Contains(before, man) {
			return api.ErrTwice
		}
	}
	for rank := range c.Ranks {
		number, here := 0, 0
		for man, m := range c.Men {
			if m.Rank == rank {
				number++
				if !slices.Contains(away, man) {
					here++
				}
			}
		}
		if number > 0 && here == 0 {
			return api.ErrZero
		}
	}
	return api.OK
}

// turnsErrorOf is the error of turns for a plan without one.
func turnsErrorOf(c api.LvCrew, p api.LvPlan, l [][]int) api.Errno {
	if len(l) != p.Turns {
		return api.ErrLong
	}
	var before []int
	for _, away := range l {
		if e := turnErrorOf(c, p, away, before); e != api.OK {
			return e
		}
		before = away
	}
	return api.OK
}

// behindOf is what each man is owed behind turns.
func behindOf(c api.LvCrew, p api.LvPlan, l [][]int) (owed []int) {
	for man, m := range c.Men {
		n := m.Owed
		for _, away := range l {
			if slices.Contains(away, man) {
				n -= 1000 * p.Days
			} else {
				n += rankOf(c, man).Earn * p.Days
			}
		}
		owed = append(owed, n)
	}
	return owed
}

// goodTurns are all good turns; they are in no order.
func goodTurns(c api.LvCrew, p api.LvPlan) [][][]int {
	all := [][][]int{nil}
	for range p.Turns {
		var longer [][][]int
		for _, l := range all {
			var before []int
			if len(l) > 0 {
				before = l[len(l)-1]
			}
			for set := 1<<len(c.Men) - 1; set >= 0; set-- {
				if away := picked(set, len(c.Men)); turnErrorOf(c, p, away, before) == api.OK {
					longer = append(longer, append(slices.Clip(l), away))
				}
			}
		}
		all = longer
	}
	return all
}

// fairestOf is what Fairest has to tell.
func fairestOf(c api.LvCrew, p api.LvPlan) (best [][]int, most int) {
	most = math.MaxInt
	for _, l := range goodTurns(c, p) {
		n := slices.Max(behindOf(c, p, l))
		if n < most || n == most && slices.CompareFunc(l, best, slices.Compare) < 0 {
			best, most = l, n
		}
	}
	return best, most
}

// needOf is the need of a man for a number.
func needOf(c api.LvCrew, p api.LvPlan, man, number int) int {
	for times := 0; times <= p.Turns; times++ {
		if c.Men[man].Owed-1000*p.Days*times+rankOf(c, man).Earn*p.Days*(p.Turns-times) <= number {
			return times
		}
	}
	return p.Turns + 1
}

// needsOf are the needs of all men for a number, together, and the greatest of them.
func needsOf(c api.LvCrew, p api.LvPlan, number int) (all, most int) {
	for man := range c.Men {
		need := needOf(c, p, man, number)
		all, most = all+need, max(most, need)
	}
	return all, most
}

// isEnoughOf reports whether the needs for a number are as Floor asks for.
func isEnoughOf(c api.LvCrew, p api.LvPlan, number int) bool {
	all, most := needsOf(c, p, number)
	return all <= p.Turns*p.Away && most <= (p.Turns+1)/2
}

// floorOf is what Floor has to tell: for no number below the first one that it tries some man's need is at most Turns.
func floorOf(c api.LvCrew, p api.LvPlan) int {
	number := math.MinInt
	for _, m := range c.Men {
		number = max(number, m.Owed-1000*p.Days*p.Turns)
	}
	for !isEnoughOf(c, p, number) {
		number++
	}
	return number
}

// picked are the numbers below n that are in a set.
func picked(set, n int) (l []int) {
	for i := range n {
		if set&(1<<i) != 0 {
			l = append(l, i)
		}
	}
	return l
}

// dice are random numbers that are the same in each run.
type dice struct{ *rand.Rand }

func newDice(seed uint64) dice { return dice{rand.New(rand.NewPCG(seed, 10))} }

// from is a random number from lo to hi.
func (d dice) from(lo, hi int) int { return lo + d.IntN(hi-lo+1) }

// once reports something that is so once in n times.
func (d dice) once(n int) bool { return d.IntN(n) == 0 }

// someCrew is a random crew; some of its men are mostly owed the same.
func (d dice) someCrew() api.LvCrew {
	c := api.LvCrew{Least: d.IntN(4)}
	for i := range d.from(1, api.MaxLvRanks) {
		c.Ranks = append(c.Ranks, api.LvRank{Name: letter(i), Pay: d.IntN(1001), Leave: d.IntN(1001), Ill: d.IntN(1001), Earn: 250 * d.IntN(5)})
	}
	number := d.from(1, api.MaxLvMen)
	for i := range number {
		m := api.LvMan{Name: letter(i), Rank: d.IntN(len(c.Ranks)), Owed: 500 * d.from(-2, 8), Ashore: d.once(4)}
		if d.once(5) {
			m.Owed = d.from(-5000, 9000)
		}
		c.Men = append(c.Men, m)
	}
	return c
}

// someEvent is a random event on a day or soon afterwards; mostly it is not told wrong.
func (d dice) someEvent(c api.LvCrew, day int) api.LvEvent {
	e := api.LvEvent{Day: day, Kind: d.from(api.LvGo, api.LvSwap), Man: d.IntN(len(c.Men))}
	if d.once(2) {
		e.Day += d.IntN(5)
	}
	if e.Kind == api.LvSwap {
		e.Other = d.IntN(len(c.Men))
	}
	return e
}

// someLog is a random log of at most so many events without an error.
func (d dice) someLog(c api.LvCrew, most int) (l []api.LvEvent) {
	day := 0
	for range 4 * most {
		if len(l) == most {
			break
		}
		if e := d.someEvent(c, day); eventErrorOf(c, l, e) == api.OK {
			l = append(l, e)
			day = e.Day
		}
	}
	return l
}

// spoilt is a log with a change somewhere that is mostly an error.
func (d dice) spoilt(c api.LvCrew, l []api.LvEvent) []api.LvEvent {
	l = slices.Clone(l)
	at := d.IntN(len(l))
	odd := []int{-1, 0, 1, 2, 3, 4, 5, 6, len(c.Men), 40000, 40001, far[d.IntN(len(far))]}
	n := odd[d.IntN(len(odd))]
	switch d.IntN(6) {
	case 0:
		l[at].Day = n
	case 1:
		l[at].Kind = n
	case 2:
		l[at].Man = n
	case 3:
		l[at].Other = n
	case 4:
		l[at] = d.someEvent(c, l[at].Day)
	default:
		l = slices.Delete(l, at, at+1)
	}
	return l
}

// last is the day of the last event of a log.
func last(l []api.LvEvent) int {
	if len(l) == 0 {
		return 0
	}
	return l[len(l)-1].Day
}

// someCase is a random crew with a log without an error.
func (d dice) someCase(i int) (api.LvCrew, []api.LvEvent) {
	c := d.someCrew()
	return c, d.someLog(c, []int{2, 6, 12, 20}[i%4])
}

// somePlan is a random plan.
func (d dice) somePlan(turns, days int) api.LvPlan {
	return plan(d.from(1, turns), d.from(1, days), d.from(1, 2))
}

// someTurns are random turns of a plan, some of which are good.
func (d dice) someTurns(c api.LvCrew, p api.LvPlan) [][]int {
	l := make([][]int, p.Turns)
	for i := range l {
		l[i] = picked(d.IntN(1<<len(c.Men))&d.IntN(1<<len(c.Men)), len(c.Men))
	}
	return l
}

// told is what is asked, for a message.
func told(things ...any) string { return fmt.Sprintf("%+v", things) }
