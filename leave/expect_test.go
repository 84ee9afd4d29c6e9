package leave_test

import (
	"slices"
	"testing"

	"nore/api"
	"nore/leave"
)

// Each of these tells if a function does not return this, or returns anything besides with an error.

func expectLog(t *testing.T, what string, c api.LvCrew, l []api.LvEvent, at int, e api.Errno) {
	t.Helper()
	if i, g := leave.CheckLog(c, l); i != at || g != e {
		t.Errorf("%s: CheckLog = %d, %d; it should be %d, %d", what, i, g, at, e)
	}
}

func expectAccounts(t *testing.T, what string, c api.LvCrew, l []api.LvEvent, day int, want []api.LvAccount, e api.Errno) {
	t.Helper()
	if all, g := leave.Accounts(c, l, day); !slices.Equal(all, want) || g != e {
		t.Errorf("%s: Accounts on %d = %v, %d; it should be %v, %d", what, day, all, g, want, e)
	}
}

func expectNext(t *testing.T, what string, c api.LvCrew, l []api.LvEvent, day int, want []int, e api.Errno) {
	t.Helper()
	if next, g := leave.Next(c, l, day); !slices.Equal(next, want) || g != e {
		t.Errorf("%s: Next on %d = %v, %d; it should be %v, %d", what, day, next, g, want, e)
	}
}

func expectPay(t *testing.T, what string, c api.LvCrew, l []api.LvEvent, from, to int, want []int, e api.Errno) {
	t.Helper()
	if pay, g := leave.Pay(c, l, from, to); !slices.Equal(pay, want) || g != e {
		t.Errorf("%s: Pay from %d to %d = %v, %d; it should be %v, %d", what, from, to, pay, g, want, e)
	}
}

func expectOwed(t *testing.T, what string, c api.LvCrew, p api.LvPlan, l [][]int, want []int, e api.Errno) {
	t.Helper()
	if owed, g := leave.Owed(c, p, l); !slices.Equal(owed, want) || g != e {
		t.Errorf("%s: Owed of %v in %v = %v, %d; it should be %v, %d", what, l, p, owed, g, want, e)
	}
}

func expectFairest(t *testing.T, what string, c api.LvCrew, p api.LvPlan, want [][]int, most int, e api.Errno) {
	t.Helper()
	if l, n, g := leave.Fairest(c, p); !sameTurns(l, want) || n != most || g != e {
		t.Errorf("%s: Fairest of %v = %v, %d, %d; it should be %v, %d, %d", what, p, l, n, g, want, most, e)
	}
}

func expectFloor(t *testing.T, what string, c api.LvCrew, p api.LvPlan, want int, e api.Errno) {
	t.Helper()
	if n, g := leave.Floor(c, p); n != want || g != e {
		t.Errorf("%s: Floor of %v = %d, %d; it should be %d, %d", what, p, n, g, want, e)
	}
}

// expectLogError tells if CheckLog does not return this, or a function with a log does not return this error, which is not OK, whatever else is asked, or returns anything besides.
func expectLogError(t *testing.T, what string, c api.LvCrew, l []api.LvEvent, at int, e api.Errno) {
	t.Helper()
	expectLog(t, what, c, l, at, e)
	for _, day := range []int{0, 7, -1, 40001} {
		expectAccounts(t, what, c, l, day, nil, e)
		expectNext(t, what, c, l, day, nil, e)
		expectPay(t, what, c, l, day, 1, nil, e)
		expectPay(t, what, c, l, 3, day, nil, e)
	}
}

// expectPlanError tells if a function with a plan does not return this error, which is not OK, whatever else is asked, or returns anything besides.
func expectPlanError(t *testing.T, what string, c api.LvCrew, p api.LvPlan, e api.Errno) {
	t.Helper()
	expectPlan(t, what, c, p, e)
	for _, l := range [][][]int{nil, turns(nil), turns(nil, nil), turns(men(9), nil), make([][]int, 5)} {
		expectOwed(t, what, c, p, l, nil, e)
	}
	expectFairest(t, what, c, p, nil, 0, e)
	expectFloor(t, what, c, p, 0, e)
}

func expectPlan(t *testing.T, what string, c api.LvCrew, p api.LvPlan, e api.Errno) {
	t.Helper()
	if g := leave.CheckPlan(c, p); g != e {
		t.Errorf("%s: CheckPlan of %v = %d; it should be %d", what, p, g, e)
	}
}
