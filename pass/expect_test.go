package pass_test

import (
	"slices"
	"testing"

	"nore/api"
	"nore/pass"
)

// Each of these tells if a function does not return this, or returns anything besides with an error.

func expectFits(t *testing.T, what string, l api.PaLog, want bool, e api.Errno) {
	t.Helper()
	if is, g := pass.Fits(l); is != want || g != e {
		t.Errorf("%s: Fits = %v, %d; it should be %v, %d", what, is, g, want, e)
	}
}

func expectOffs(t *testing.T, what string, l api.PaLog, book int, want []api.Span, e api.Errno) {
	t.Helper()
	if offs, g := pass.Offs(l, book); !slices.Equal(offs, want) || g != e {
		t.Errorf("%s: Offs of %d = %v, %d; it should be %v, %d", what, book, offs, g, want, e)
	}
}

func expectInstant(t *testing.T, what string, l api.PaLog, x api.PaAt, want api.Span, e api.Errno) {
	t.Helper()
	if s, g := pass.Instant(l, x); s != want || g != e {
		t.Errorf("%s: Instant of %v = %v, %d; it should be %v, %d", what, x, s, g, want, e)
	}
}

func expectApart(t *testing.T, what string, l api.PaLog, x, y api.PaAt, want api.Span, order int, e api.Errno) {
	t.Helper()
	if s, n, g := pass.Apart(l, x, y); s != want || n != order || g != e {
		t.Errorf("%s: Apart of %v and %v = %v, %d, %d; it should be %v, %d, %d", what, x, y, s, n, g, want, order, e)
	}
}

func expectSame(t *testing.T, what string, l api.PaLog, x api.PaAt, want []api.PaAt, e api.Errno) {
	t.Helper()
	if all, g := pass.Same(l, x); !slices.Equal(all, want) || g != e {
		t.Errorf("%s: Same of %v = %v, %d; it should be %v, %d", what, x, all, g, want, e)
	}
}

func expectNeed(t *testing.T, what string, l api.PaLog, want int, e api.Errno) {
	t.Helper()
	if n, g := pass.Need(l); n != want || g != e {
		t.Errorf("%s: Need = %d, %d; it should be %d, %d", what, n, g, want, e)
	}
}

func expectConfused(t *testing.T, what string, l api.PaLog, want []int, e api.Errno) {
	t.Helper()
	if numbers, g := pass.Confused(l); !slices.Equal(numbers, want) || g != e {
		t.Errorf("%s: Confused = %v, %d; it should be %v, %d", what, numbers, g, want, e)
	}
}

func expectReports(t *testing.T, what string, l api.PaLog, missing, copies []int, e api.Errno) {
	t.Helper()
	if m, c, g := pass.Reports(l); !slices.Equal(m, missing) || !slices.Equal(c, copies) || g != e {
		t.Errorf("%s: Reports = %v, %v, %d; it should be %v, %v, %d", what, m, c, g, missing, copies, e)
	}
}

func expectWrite(t *testing.T, what string, l api.PaLog, want string, e api.Errno) {
	t.Helper()
	if text, g := pass.Write(l); text != want || g != e {
		t.Errorf("%s: Write = %q, %d; it should be %q, %d", what, text, g, want, e)
	}
}

// expectErrors tells if a function with a log does not return this error, which is not OK, whatever else is asked, or returns anything besides.
func expectErrors(t *testing.T, what string, l api.PaLog, e api.Errno) {
	t.Helper()
	expectFits(t, what, l, false, e)
	for _, n := range []int{-1, 0, 1, 9} {
		expectOffs(t, what, l, n, nil, e)
		for _, x := range ats(at(n, 0), at(0, n)) {
			expectInstant(t, what, l, x, span(0, 0), e)
			expectApart(t, what, l, x, at(0, 0), span(0, 0), 0, e)
			expectApart(t, what, l, at(0, 0), x, span(0, 0), 0, e)
			expectSame(t, what, l, x, nil, e)
		}
	}
	expectNeed(t, what, l, 0, e)
	expectConfused(t, what, l, nil, e)
	expectReports(t, what, l, nil, nil, e)
	expectWrite(t, what, l, "", e)
}

// expectNone tells if a function does not return ErrNone for this entry, which is none of a log without an error.
func expectNone(t *testing.T, what string, l api.PaLog, x api.PaAt) {
	t.Helper()
	expectInstant(t, what, l, x, span(0, 0), api.ErrNone)
	expectSame(t, what, l, x, nil, api.ErrNone)
	expectApart(t, what, l, x, x, span(0, 0), 0, api.ErrNone)
	for y := range entriesOf(l) {
		expectApart(t, what, l, x, y, span(0, 0), 0, api.ErrNone)
		expectApart(t, what, l, y, x, span(0, 0), 0, api.ErrNone)
	}
}

// expectDown tells if a function does not return what it has to of a log that does not fit.
func expectDown(t *testing.T, what string, l api.PaLog) {
	t.Helper()
	expectFits(t, what, l, false, api.OK)
	for i := range l.Books {
		expectOffs(t, what, l, i, nil, api.ErrDown)
	}
	for x, entry := range entriesOf(l) {
		expectInstant(t, what, l, x, span(0, 0), api.ErrDown)
		expectApart(t, what, l, x, at(x.Book, 0), span(0, 0), 0, api.ErrDown)
		want := api.ErrArg
		if entry.Kind == api.PaPass {
			want = api.ErrDown
		}
		expectSame(t, what, l, x, nil, want)
	}
}
