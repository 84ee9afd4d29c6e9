package leave

import (
	"math"
	"slices"

	"nore/api"
)

// rota is a crew with a plan for its turns.
type rota struct {
	api.LvCrew
	api.LvPlan
}

// check returns the error of a turn behind the one before it.
func (r *rota) check(away, before []int) api.Errno {
	switch {
	case !within(0, len(r.Men)-1, away...):
		return api.ErrNone
	case !ascends(away):
		return api.ErrArg
	case len(away) > r.Away:
		return api.ErrLong
	case meet(away, before):
		return api.ErrTwice
	case r.lacksRank(away):
		return api.ErrZero
	}
	return api.OK
}

// ascends reports whether each number of a list is greater than the one before it.
func ascends(l []int) bool {
	for i := range l {
		if i > 0 && l[i] <= l[i-1] {
			return false
		}
	}
	return true
}

// meet reports whether somebody is in both turns.
func meet(a, b []int) bool {
	return slices.ContainsFunc(a, func(man int) bool { return slices.Contains(b, man) })
}

// lacksRank reports whether all men of some rank are away.
func (r *rota) lacksRank(away []int) bool {
	var onBoard [api.MaxLvRanks]int
	for man, m := range r.Men {
		if !slices.Contains(away, man) {
			onBoard[m.Rank]++
		}
	}
	return slices.ContainsFunc(away, func(man int) bool { return onBoard[r.Men[man].Rank] == 0 })
}

// behind returns what a man is owed behind all turns if he is in so many.
func (r *rota) behind(man, number int) int {
	m := r.Men[man]
	return m.Owed + r.Days*(r.Ranks[m.Rank].Earn*(r.Turns-number)-aDay*number)
}

// owed returns what each man is owed behind turns.
func (r *rota) owed(turns [][]int) []int {
	owed := make([]int, len(r.Men))
	for man := range owed {
		number := 0
		for _, away := range turns {
			if slices.Contains(away, man) {
				number++
			}
		}
		owed[man] = r.behind(man, number)
	}
	return owed
}

// sets returns the sets of men who can be away at a time, in their order as lists.
func (r *rota) sets() [][]int {
	var sets [][]int
	for set := range 1 << len(r.Men) {
		var away []int
		for man := range r.Men {
			if set&(1<<man) != 0 {
				away = append(away, man)
			}
		}
		if r.check(away, nil) == api.OK {
			sets = append(sets, away)
		}
	}
	slices.SortFunc(sets, slices.Compare)
	return sets
}

// fairest returns the first of the fairest turns, and the most that is owed behind them.
func (r *rota) fairest() (best [][]int, most int) {
	most = math.MaxInt
	sets, turns := r.sets(), make([][]int, r.Turns)
	// Turns are tried in their order, so that of equal ones the first are kept.
	var try func(turn int, before []int)
	try = func(turn int, before []int) {
		if turn == r.Turns {
			if n := slices.Max(r.owed(turns)); n < most {
				best, most = copyTurns(turns), n
			}
			return
		}
	next:
		for _, away := range sets {
			for _, man := range away {
				if slices.Contains(before, man) {
					continue next
				}
			}
			turns[turn] = away
			try(turn+1, away)
		}
	}
	try(0, nil)
	return best, most
}

// copyTurns returns a copy of turns, which may share their lists.
func copyTurns(turns [][]int) [][]int {
	copies := make([][]int, len(turns))
	for i, away := range turns {
		copies[i] = make([]int, len(away))
		copy(copies[i], away)
	}
	return copies
}

// floor returns the least number for which there are enough turns for all needs.
func (r *rota) floor() int {
	least := math.MaxInt
	// Needs change just at these numbers.
	for man := range r.Men {
		for times := range r.mostTimes() + 1 {
			if n := r.behind(man, times); n < least && r.isEnough(n) {
				least = n
			}
		}
	}
	return least
}

// mostTimes returns in how many turns a man can be.
func (r *rota) mostTimes() int { return (r.Turns + 1) / 2 }

// isEnough reports whether there are enough turns for the needs of all men, for a number.
func (r *rota) isEnough(number int) bool {
	needs := 0
	for man := range r.Men {
		need := r.need(man, number)
		if need > r.mostTimes() {
			return false
		}
		needs += need
	}
	return needs <= r.Turns*r.Away
}

// need returns in how many turns a man has to be so that he is owed at most a number; more than there are if that is not enough.
func (r *rota) need(man, number int) int {
	need := 0
	for need <= r.Turns && r.behind(man, need) > number {
		need++
	}
	return need
}
