package watch_test

import (
	"slices"
	"testing"

	"nore/api"
	"nore/watch"
)

// Each of these tells if a function does not return this, or returns anything besides with an error.

func expectBad(t *testing.T, what string, c api.WaCase, rota [][]int, at, why, man int, e api.Errno) {
	t.Helper()
	if i, w, m, g := watch.Bad(c, rota); i != at || w != why || m != man || g != e {
		t.Errorf("%s: Bad = %d, %d, %d, %d; it should be %d, %d, %d, %d", what, i, w, m, g, at, why, man, e)
	}
}

func expectNumbers(t *testing.T, what, function string, l []int, g api.Errno, want []int, e api.Errno) {
	t.Helper()
	if !slices.Equal(l, want) || g != e {
		t.Errorf("%s: %s = %v, %d; it should be %v, %d", what, function, l, g, want, e)
	}
}

func expectRows(t *testing.T, what, function string, l [][]int, g api.Errno, want [][]int, e api.Errno) {
	t.Helper()
	if !sameRota(l, want) || g != e {
		t.Errorf("%s: %s = %v, %d; it should be %v, %d", what, function, l, g, want, e)
	}
}

func expectStood(t *testing.T, what string, c api.WaCase, rota [][]int, want []int, e api.Errno) {
	t.Helper()
	l, g := watch.Stood(c, rota)
	expectNumbers(t, what, "Stood", l, g, want, e)
}

func expectCan(t *testing.T, what string, c api.WaCase, rota, want [][]int, e api.Errno) {
	t.Helper()
	l, g := watch.Can(c, rota)
	expectRows(t, what, "Can", l, g, want, e)
}

func expectNext(t *testing.T, what string, c api.WaCase, rota, want [][]int, e api.Errno) {
	t.Helper()
	l, g := watch.Next(c, rota)
	expectRows(t, what, "Next", l, g, want, e)
}

func expectLongest(t *testing.T, what string, c api.WaCase, want int, e api.Errno) {
	t.Helper()
	if n, g := watch.Longest(c); n != want || g != e {
		t.Errorf("%s: Longest = %d, %d; it should be %d, %d", what, n, g, want, e)
	}
}

func expectEndless(t *testing.T, what string, c api.WaCase, want [][]int, from int, e api.Errno) {
	t.Helper()
	l, n, g := watch.Endless(c)
	expectRows(t, what, "Endless", l, g, want, e)
	if n != from {
		t.Errorf("%s: Endless is from %d; it should be %d", what, n, from)
	}
}

func expectFewest(t *testing.T, what string, c api.WaCase, want []int, e api.Errno) {
	t.Helper()
	l, g := watch.Fewest(c)
	expectNumbers(t, what, "Fewest", l, g, want, e)
}

func expectNeeded(t *testing.T, what string, c api.WaCase, want []int, e api.Errno) {
	t.Helper()
	l, g := watch.Needed(c)
	expectNumbers(t, what, "Needed", l, g, want, e)
}

func expectFill(t *testing.T, what string, c api.WaCase, rota, want [][]int, e api.Errno) {
	t.Helper()
	l, g := watch.Fill(c, rota)
	expectRows(t, what, "Fill", l, g, want, e)
}

func expectMissing(t *testing.T, what string, c api.WaCase, rota [][]int, from int, want []int, e api.Errno) {
	t.Helper()
	l, g := watch.Missing(c, rota, from)
	expectNumbers(t, what, "Missing", l, g, want, e)
}
