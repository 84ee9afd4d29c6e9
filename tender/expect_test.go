package tender_test

import (
	"slices"
	"testing"

	"nore/api"
	"nore/tender"
)

// Each of these tells if a function does not return this, or returns anything besides with an error.

func expectPlan(t *testing.T, what string, s api.TeSeason, p []api.TeOrder, at int, e api.Errno) {
	t.Helper()
	if i, g := tender.Plan(s, p); i != at || g != e {
		t.Errorf("%s: Plan = %d, %d; it should be %d, %d", what, i, g, at, e)
	}
}

func expectLeft(t *testing.T, what string, s api.TeSeason, p []api.TeOrder, failed []int, day int, want []int, e api.Errno) {
	t.Helper()
	if l, g := tender.Left(s, p, failed, day); !slices.Equal(l, want) || g != e {
		t.Errorf("%s: Left on %d, if %v fail = %v, %d; it should be %v, %d", what, day, failed, l, g, want, e)
	}
}

func expectOut(t *testing.T, what string, s api.TeSeason, p []api.TeOrder, failed []int, day, need int, e api.Errno) {
	t.Helper()
	if d, n, g := tender.Out(s, p, failed); d != day || n != need || g != e {
		t.Errorf("%s: Out, if %v fail = %d, %d, %d; it should be %d, %d, %d", what, failed, d, n, g, day, need, e)
	}
}

func expectBreaks(t *testing.T, what string, s api.TeSeason, p []api.TeOrder, failed []int, day, need int, e api.Errno) {
	t.Helper()
	if l, d, n, g := tender.Breaks(s, p); !slices.Equal(l, failed) || d != day || n != need || g != e {
		t.Errorf("%s: Breaks = %v, %d, %d, %d; it should be %v, %d, %d, %d", what, l, d, n, g, failed, day, need, e)
	}
}

func expectWorst(t *testing.T, what string, s api.TeSeason, p []api.TeOrder, want []int, e api.Errno) {
	t.Helper()
	if l, g := tender.Worst(s, p); !slices.Equal(l, want) || g != e {
		t.Errorf("%s: Worst = %v, %d; it should be %v, %d", what, l, g, want, e)
	}
}

func expectBears(t *testing.T, what string, s api.TeSeason, p []api.TeOrder, want int, e api.Errno) {
	t.Helper()
	if n, g := tender.Bears(s, p); n != want || g != e {
		t.Errorf("%s: Bears = %d, %d; it should be %d, %d", what, n, g, want, e)
	}
}

func expectStill(t *testing.T, what string, s api.TeSeason, p []api.TeOrder, came []bool, want int, e api.Errno) {
	t.Helper()
	if n, g := tender.Still(s, p, came); n != want || g != e {
		t.Errorf("%s: Still behind %v = %d, %d; it should be %d, %d", what, came, n, g, want, e)
	}
}

func expectFewest(t *testing.T, what string, s api.TeSeason, want []api.TeOrder, e api.Errno) {
	t.Helper()
	if p, g := tender.Fewest(s); !sameOrders(p, want) || g != e {
		t.Errorf("%s: Fewest = %v, %d; it should be %v, %d", what, p, g, want, e)
	}
}

func expectMust(t *testing.T, what string, s api.TeSeason, want []int, e api.Errno) {
	t.Helper()
	if l, g := tender.Must(s); !slices.Equal(l, want) || g != e {
		t.Errorf("%s: Must = %v, %d; it should be %v, %d", what, l, g, want, e)
	}
}

// expectError tells if a function with a plan does not return this error, which is not OK, whatever else is asked, or returns anything besides.
func expectError(t *testing.T, what string, s api.TeSeason, p []api.TeOrder, e api.Errno) {
	t.Helper()
	for _, failed := range [][]int{nil, {0}, {-1}, {1, 0}, {99}} {
		for _, day := range []int{0, -1, 99} {
			expectLeft(t, what, s, p, failed, day, nil, e)
		}
		expectOut(t, what, s, p, failed, 0, 0, e)
	}
	expectBreaks(t, what, s, p, nil, 0, 0, e)
	expectWorst(t, what, s, p, nil, e)
	expectBears(t, what, s, p, 0, e)
	for n := range 10 {
		expectStill(t, what, s, p, make([]bool, n), 0, e)
	}
}
