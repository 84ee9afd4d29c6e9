package swing_test

import (
	"fmt"
	"slices"
	"testing"

	"nore/api"
	"nore/swing"
)

// expectDragged tells if Dragged does not return this.
func expectDragged(t *testing.T, what string, m api.SgMooring, l []api.SgLook, want int, e api.Errno) {
	t.Helper()
	if n, g := swing.Dragged(m, l); n != want || g != e {
		t.Errorf("%s: Dragged of %v with %v = %d, %d; it should be %d, %d", what, m, l, n, g, want, e)
	}
}

// expectDrags tells if Drags does not return this.
func expectDrags(t *testing.T, what string, m api.SgMooring, l []api.SgLook, want []int, e api.Errno) {
	t.Helper()
	if r, g := swing.Drags(m, l); !slices.Equal(r, want) || g != e {
		t.Errorf("%s: Drags of %v with %v = %v, %d; it should be %v, %d", what, m, l, r, g, want, e)
	}
}

// expectWrong tells if Wrong does not return this.
func expectWrong(t *testing.T, what string, m api.SgMooring, l []api.SgLook, want []int, e api.Errno) {
	t.Helper()
	if r, g := swing.Wrong(m, l); !slices.Equal(r, want) || g != e {
		t.Errorf("%s: Wrong of %v with %v = %v, %d; it should be %v, %d", what, m, l, r, g, want, e)
	}
}

// from are looks of a ring of nothing: by each of them the anchor is from some to some metres east.
func from(n ...int) (l []api.SgLook) {
	for i := 0; i+1 < len(n); i += 2 {
		l = append(l, around(box(n[i], n[i+1], 0, 0)))
	}
	return looks(l...)
}

// line is a mooring whose ring is nothing, so that she always lies just above her anchor.
func line() api.SgMooring { return plain(box(0, 9, 0, 0), 0, 0) }

// P4.4, P4.6: the example.
func TestDraggedExample(t *testing.T) {
	m := example()
	expectDragged(t, "A, B, W", m, []api.SgLook{lookA, lookB, lookW}, 2, api.OK)
	expectDragged(t, "A, W", m, []api.SgLook{lookA, lookW}, 0, api.ErrNone)
	expectDrags(t, "A, B, W", m, []api.SgLook{lookA, lookB, lookW}, []int{2}, api.OK)
	expectDrags(t, "A, W", m, []api.SgLook{lookA, lookW}, nil, api.OK)
	expectWrong(t, "A, B, W", m, []api.SgLook{lookA, lookB, lookW}, []int{1}, api.OK)
	expectWrong(t, "A, W", m, []api.SgLook{lookA, lookW}, nil, api.OK)
}

// P4.4, P4.6: looks of places in a row.
func TestDraggedLine(t *testing.T) {
	for i, f := range []struct {
		l       []api.SgLook
		dragged int
		e       api.Errno
		drags   []int
		down    api.Errno
		wrong   []int
	}{
		{nil, 0, api.ErrNone, nil, api.OK, nil},
		{from(3, 4), 0, api.ErrNone, nil, api.OK, nil},
		{from(10, 12), 0, api.OK, nil, api.ErrDown, []int{0}},
		{from(-3, -1), 0, api.OK, nil, api.ErrDown, []int{0}},
		{from(9, 12), 0, api.ErrNone, nil, api.OK, nil},
		{from(0, 3, 4, 9), 1, api.OK, []int{1}, api.OK, []int{0}},
		{from(0, 4, 4, 9), 0, api.ErrNone, nil, api.OK, nil},
		{from(0, 4, 4, 9, 2, 3), 2, api.OK, []int{2}, api.OK, []int{1}},
		{from(2, 3, 0, 4, 4, 9), 2, api.OK, []int{2}, api.OK, []int{0}},
		{from(4, 9, 0, 3, 1, 2), 1, api.OK, []int{1}, api.OK, []int{0}},
		{from(0, 3, 1, 2, 4, 9), 2, api.OK, []int{2}, api.OK, []int{2}},
		{from(0, 3, 4, 9, 1, 2), 1, api.OK, []int{1, 2}, api.OK, []int{1}},
		{from(0, 6, 5, 9, 0, 5, 6, 9, 0, 9, 0, 4), 3, api.OK, []int{3, 5}, api.OK, []int{1, 3}},
		{from(0, 0, 1, 1, 2, 2, 3, 3, 4, 4, 5, 5, 6, 6, 7, 7), 1, api.OK, []int{1, 2, 3, 4, 5, 6, 7}, api.OK, []int{0, 1, 2, 3, 4, 5, 6}},
		{from(0, 0, 1, 1, 2, 2, 3, 3, 4, 4, 5, 5, 6, 6, 0, 0), 1, api.OK, []int{1, 2, 3, 4, 5, 6, 7}, api.OK, []int{1, 2, 3, 4, 5, 6}},
		{from(0, 1, 1, 2, 2, 3, 3, 4, 4, 5, 5, 6, 6, 7, 7, 8), 2, api.OK, []int{2, 4, 6}, api.OK, []int{0, 1, 2, 3, 4, 5}},
		{from(0, 3, 10, 11, 5, 9), 1, api.OK, nil, api.ErrDown, []int{0, 1}},
		{from(0, 3, 5, 9, 10, 11), 1, api.OK, nil, api.ErrDown, []int{0, 2}},
		{from(10, 11, 0, 3, 1, 9), 0, api.OK, nil, api.ErrDown, []int{0}},
		{from(0, 3, 1, 9, 10, 11), 2, api.OK, nil, api.ErrDown, []int{2}},
		{from(10, 11, 10, 11, 10, 11, 10, 11, 10, 11, 10, 11, 10, 11, 10, 11), 0, api.OK, nil, api.ErrDown, []int{0, 1, 2, 3, 4, 5, 6, 7}},
		{from(0, 3, 0, 3, 5, 9, 5, 9), 2, api.OK, []int{2}, api.OK, []int{0, 1}},
		{from(0, 3, 5, 9, 0, 3, 5, 9), 1, api.OK, []int{1, 2, 3}, api.OK, []int{0, 2}},
		{from(0, 3, 5, 9, 5, 9, 0, 3), 1, api.OK, []int{1, 3}, api.OK, []int{0, 3}},
		{from(5, 9, 0, 2, 3, 4, 0, 9, 8, 9), 1, api.OK, []int{1, 2, 4}, api.OK, []int{1, 2}},
		{from(0, 1, 3, 4, 6, 9, 3, 6), 1, api.OK, []int{1, 2}, api.OK, []int{0, 1}},
		{from(6, 9, 0, 1, 3, 4, 3, 6), 1, api.OK, []int{1, 2}, api.OK, []int{0, 1}},
		{from(3, 4, 0, 1, 6, 9, 3, 6), 1, api.OK, []int{1, 2}, api.OK, []int{0, 1}},
		{from(3, 4, 0, 1, 7, 9, 3, 6), 1, api.OK, []int{1, 2, 3}, api.OK, []int{1, 2}},
	} {
		what := fmt.Sprint("line ", i)
		expectDragged(t, what, line(), f.l, f.dragged, f.e)
		expectDrags(t, what, line(), f.l, f.drags, f.down)
		expectWrong(t, what, line(), f.l, f.wrong, api.OK)
	}
}

// P4.4: a place of the anchor that agrees is from its box; no others are asked.
func TestDraggedBox(t *testing.T) {
	m := line()
	m.Anchor = box(0, 2, 0, 0)
	expectDragged(t, "a place that is not in the box", m, from(0, 5, 3, 9), 1, api.OK)
	expectDrags(t, "a place that is not in the box", m, from(0, 5, 3, 9), nil, api.ErrDown)
	m.Anchor = box(0, 3, 0, 0)
	expectDragged(t, "a place that is", m, from(0, 5, 3, 9), 0, api.ErrNone)
	m.Anchor = box(0, 3, 1, 1)
	expectDragged(t, "another row", m, from(0, 5, 3, 9), 0, api.OK)
}

// P4.4, P4.6: moorings and looks at random, held against the definitions.
func TestDragsAtRandom(t *testing.T) {
	d := newDice(3)
	var kinds [9]int
	for i := range 1200 {
		m := d.mooring(point(d.from(-90, 90), d.from(-90, 90)), 8, d.from(1, 30))
		l := d.someLooks(m, i%9, []int{1, 4, 8, 2}[i%4], []int{0, 0, 15, 50}[i/9%4])
		what := fmt.Sprint("random ", i)
		n, e := dragged(m, l)
		expectDragged(t, what, m, l, n, e)
		r, e := drags(m, l)
		expectDrags(t, what, m, l, r, e)
		expectWrong(t, what, m, l, wrong(m, l), api.OK)
		kinds[len(r)]++
	}
	if kinds[0] < 200 || kinds[1] < 80 || kinds[2] < 40 || kinds[3] < 30 || kinds[4] < 10 {
		t.Errorf("so often she dragged: %v", kinds)
	}
}
