package store_test

import (
	"slices"
	"testing"

	"nore/api"
	"nore/store"
)

// Each of these tells if a function does not return this, or returns anything besides with an error.

func expectMornings(t *testing.T, what string, s api.SrStores, kind int, x api.SrTruth, from int, levels []int, short int, e api.Errno) {
	t.Helper()
	l, day, g := store.Mornings(s, kind, x, from)
	if !slices.Equal(l, levels) || day != short || g != e {
		t.Errorf("%s: Mornings = %v, %d, %d; it should be %v, %d, %d", what, l, day, g, levels, short, e)
	}
}

func expectLevel(t *testing.T, what string, s api.SrStores, l []api.SrCount, kind, day int, want api.Span, e api.Errno) {
	t.Helper()
	if x, g := store.Level(s, l, kind, day); x != want || g != e {
		t.Errorf("%s: Level on %d = %v, %d; it should be %v, %d", what, day, x, g, want, e)
	}
}

func expectLasts(t *testing.T, what string, s api.SrStores, l []api.SrCount, kind, want int, e api.Errno) {
	t.Helper()
	if n, g := store.Lasts(s, l, kind); n != want || g != e {
		t.Errorf("%s: Lasts = %d, %d; it should be %d, %d", what, n, g, want, e)
	}
}

func expectShort(t *testing.T, what string, s api.SrStores, l []api.SrCount, kind int, want api.SrTruth, day int, e api.Errno) {
	t.Helper()
	if x, n, g := store.Short(s, l, kind); x != want || n != day || g != e {
		t.Errorf("%s: Short = %v, %d, %d; it should be %v, %d, %d", what, x, n, g, want, day, e)
	}
}

func expectCargo(t *testing.T, what string, s api.SrStores, l []api.SrCount, kind, day, want int, e api.Errno) {
	t.Helper()
	if n, g := store.Cargo(s, l, kind, day); n != want || g != e {
		t.Errorf("%s: Cargo on %d = %d, %d; it should be %d, %d", what, day, n, g, want, e)
	}
}

func expectRation(t *testing.T, what string, s api.SrStores, l []api.SrCount, kind, want int, e api.Errno) {
	t.Helper()
	if n, g := store.Ration(s, l, kind); n != want || g != e {
		t.Errorf("%s: Ration = %d, %d; it should be %d, %d", what, n, g, want, e)
	}
}

func expectWrong(t *testing.T, what string, s api.SrStores, l []api.SrCount, want []int, e api.Errno) {
	t.Helper()
	if r, g := store.Wrong(s, l); !slices.Equal(r, want) || g != e {
		t.Errorf("%s: Wrong = %v, %d; it should be %v, %d", what, r, g, want, e)
	}
}

// expectError tells if a function with a kind and counts does not return this error, which is not OK, whatever day is asked for, or returns anything besides.
func expectError(t *testing.T, what string, s api.SrStores, l []api.SrCount, kind int, e api.Errno, days ...int) {
	t.Helper()
	expectLasts(t, what, s, l, kind, 0, e)
	expectShort(t, what, s, l, kind, api.SrTruth{}, 0, e)
	expectRation(t, what, s, l, kind, 0, e)
	for _, day := range append(days, 0) {
		expectLevel(t, what, s, l, kind, day, api.Span{}, e)
		expectCargo(t, what, s, l, kind, day, 0, e)
	}
}
