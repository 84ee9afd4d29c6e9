package swing_test

import (
	"slices"
	"testing"

	"nore/api"
	"nore/swing"
)

func mustAnchors(t *testing.T, m api.SgMooring, l []api.SgLook) []api.Point {
	t.Helper()
	r, e := swing.Anchors(m, l)
	if e != api.OK {
		t.Fatalf("Anchors of %v with %v: error %d", m, l, e)
	}
	return r
}

// placesAt are the places of Places; none, if no place of the anchor agrees.
func placesAt(t *testing.T, m api.SgMooring, l []api.SgLook, x api.SgLook) []api.Point {
	t.Helper()
	r, e := swing.Places(m, l, x)
	if e != api.OK && (e != api.ErrDown || len(mustAnchors(t, m, l)) > 0) {
		t.Fatalf("Places of %v with %v at %v: error %d", m, l, x, e)
	}
	return r
}

// hasAll reports whether a list has all places of another one.
func hasAll(l, part []api.Point) bool {
	return !slices.ContainsFunc(part, func(p api.Point) bool { return !slices.Contains(l, p) })
}

// near is a random place from which a mooring is not far.
func (d dice) near() api.Point { return point(d.from(-60, 60), d.from(-60, 60)) }

// P2, P4.7: wherever the anchor is, and wherever she lies from it, this is among what is told, and nothing is wrong.
func TestEveryTruth(t *testing.T) {
	d := newDice(7)
	for i := range 800 {
		m := d.mooring(d.near(), []int{0, 4, 16}[i%3], d.from(1, 60))
		anchor, at, l := d.truth(m, 9, []int{0, 3, 16}[i/3%3])
		x := l[8]
		l = l[:i%9]
		if r := mustAnchors(t, m, l); !slices.Contains(r, anchor) {
			t.Fatalf("Anchors of %v with %v = %v, but it can be at %v", m, l, r, anchor)
		}
		if r := placesAt(t, m, l, x); !slices.Contains(r, at[8]) {
			t.Fatalf("Places of %v with %v at %v = %v, but she can lie at %v", m, l, x, r, at[8])
		}
		for k, x := range l {
			expectLies(t, "truth", m, x, anchor, at[k], true, api.OK)
		}
		expectDragged(t, "truth", m, l, 0, api.ErrNone)
		expectDrags(t, "truth", m, l, nil, api.OK)
		expectWrong(t, "truth", m, l, nil, api.OK)
	}
}

// P2, P4.8: a further look, wherever it comes, adds no place of the anchor, and none at which she can lie.
func TestOneMore(t *testing.T) {
	d := newDice(8)
	less := 0
	for range 400 {
		m := d.mooring(d.near(), 8, d.from(1, 40))
		l := d.someLooks(m, 8, 8, 10)
		x := d.someLooks(m, 1, 16, 10)[0]
		all, lie := mustAnchors(t, m, l), placesAt(t, m, l, x)
		for i := range l {
			few := slices.Delete(slices.Clone(l), i, i+1)
			r := mustAnchors(t, m, few)
			if !hasAll(r, all) {
				t.Fatalf("Anchors of %v with %v = %v, and without look %d %v", m, l, all, i, r)
			}
			if p := placesAt(t, m, few, x); !hasAll(p, lie) {
				t.Fatalf("Places of %v with %v at %v = %v, and without look %d %v", m, l, x, lie, i, p)
			}
			if len(r) > len(all) {
				less++
			}
		}
	}
	if less < 200 {
		t.Errorf("only %d looks left fewer places of the anchor", less)
	}
}

// P3, P4.9: behind the look of Dragged no place of the anchor agrees, ahead of it some does; whatever comes later, she has dragged by it.
func TestDraggedBy(t *testing.T) {
	d := newDice(9)
	by := 0
	for range 500 {
		m := d.mooring(d.near(), 8, d.from(1, 30))
		l := d.someLooks(m, 7, d.from(0, 6), 10)
		n, e := swing.Dragged(m, l)
		if e == api.ErrNone {
			if len(mustAnchors(t, m, l)) == 0 {
				t.Fatalf("no place agrees with %v, %v, but she has not dragged", m, l)
			}
			continue
		}
		by++
		if e != api.OK || len(mustAnchors(t, m, l[:n+1])) > 0 || len(mustAnchors(t, m, l[:n])) == 0 {
			t.Fatalf("Dragged of %v with %v = %d, %d, but the places of the anchor are %v, and ahead of it %v", m, l, n, e, mustAnchors(t, m, l[:n+1]), mustAnchors(t, m, l[:n]))
		}
		expectDragged(t, "just up to it", m, l[:n+1], n, api.OK)
		for range 4 {
			later := d.someLooks(m, 8, 8, 10)[n+1:]
			expectDragged(t, "whatever comes later", m, looks(append(slices.Clone(l[:n+1]), later...)...), n, api.OK)
		}
	}
	if by < 100 {
		t.Errorf("she only dragged %d times", by)
	}
}

// fewestStretches is into how few stretches looks can be cut, such that one place of the anchor agrees with each; all ways to cut them are gone through.
func fewestStretches(t *testing.T, m api.SgMooring, l []api.SgLook) int {
	fewest := len(l) + 1
cuts:
	for set := range uint(1) << (len(l) - 1) {
		from, n := 0, 0
		for i := range l {
			if last := i == len(l)-1; last || set>>i&1 == 1 {
				if len(mustAnchors(t, m, l[from:i+1])) == 0 {
					continue cuts
				}
				from, n = i+1, n+1
			}
		}
		fewest = min(fewest, n)
	}
	return fewest
}

// P3, P4.10: one place of the anchor agrees with all looks of a stretch; no fewer stretches do.
func TestStretches(t *testing.T) {
	d := newDice(10)
	var kinds [9]int
	for range 120 {
		m := d.mooring(d.near(), 6, d.from(1, 20))
		l := d.someLooks(m, d.from(1, 6), d.from(0, 5), 0)
		r, e := swing.Drags(m, l)
		if e != api.OK {
			t.Fatalf("Drags of %v with %v: error %d", m, l, e)
		}
		if n := fewestStretches(t, m, l); len(r)+1 != n {
			t.Fatalf("Drags of %v with %v = %v, but there can be %d stretches", m, l, r, n)
		}
		kinds[len(r)]++
		from := 0
		for _, at := range append(r, len(l)) {
			if len(mustAnchors(t, m, l[from:at])) == 0 || at < len(l) && len(mustAnchors(t, m, l[from:at+1])) > 0 {
				t.Fatalf("Drags of %v with %v = %v, but the stretch from %d to %d is none, or not the longest", m, l, r, from, at)
			}
			from = at
		}
	}
	if kinds[0] < 20 || kinds[1] < 10 || kinds[2] < 5 {
		t.Errorf("so often she dragged: %v", kinds)
	}
}

// P4.11: without a danger she is clear in any truth; with one she can lie there, and it is not clear.
func TestDangers(t *testing.T) {
	d := newDice(11)
	clear, danger := 0, 0
	for i := range 400 {
		m := d.mooring(d.near(), 4, d.from(1, 25))
		if i%2 == 0 {
			m.Near = 20000
		}
		l := d.someLooks(m, i%3, 8, 0)
		x := d.someLooks(m, 1, 6, 0)[0]
		at, sand, e := swing.Danger(m, l, x)
		lie := placesAt(t, m, l, x)
		if e == api.OK {
			danger++
			if !slices.Contains(lie, at) {
				t.Fatalf("Danger of %v with %v at %v = %v, but she cannot lie there", m, l, x, at)
			}
			if s := perhaps(m, at); s != sand || s < 0 && at.X*at.X+at.Y*at.Y <= m.Near*m.Near {
				t.Fatalf("Danger of %v with %v at %v = %v, %d, but the sand is %d", m, l, x, at, sand, s)
			}
			continue
		}
		if e != api.ErrNone {
			continue
		}
		clear++
		for _, at := range lie {
			if at.X*at.X+at.Y*at.Y > m.Near*m.Near || perhaps(m, at) >= 0 {
				t.Fatalf("Danger of %v with %v at %v: none, but she can lie at %v", m, l, x, at)
			}
		}
	}
	if clear < 50 || danger < 50 {
		t.Errorf("%d times she was clear, %d times not", clear, danger)
	}
}

// P4, P4.12: without the looks of Wrong some place of the anchor agrees, without any fewer none does; it names no more than are false.
func TestFewestWrong(t *testing.T) {
	d := newDice(12)
	var kinds [9]int
	for range 250 {
		m := d.mooring(d.near(), 8, d.from(1, 20))
		_, _, l := d.truth(m, d.from(1, 7), 4)
		untrue := 0
		for i := range l {
			if d.IntN(3) == 0 {
				l[i].At = d.boxAround(point(m.Anchor.X.Lo+d.from(-30, 30), m.Anchor.Y.Lo+d.from(-30, 30)), 4)
				untrue++
			}
		}
		list, e := swing.Wrong(m, l)
		if e != api.OK || len(list) > untrue || len(mustAnchors(t, m, without(l, list))) == 0 {
			t.Fatalf("Wrong of %v with %v = %v, %d; %d are", m, l, list, e, untrue)
		}
		kinds[len(list)]++
		for set := range uint(1) << len(l) {
			if few := picked(set, len(l)); len(few) < len(list) && len(mustAnchors(t, m, without(l, few))) > 0 {
				t.Fatalf("Wrong of %v with %v = %v, but without %v some place agrees", m, l, list, few)
			}
		}
	}
	if kinds[0] < 20 || kinds[1] < 20 || kinds[2] < 20 {
		t.Errorf("so many looks were wrong: %v", kinds)
	}
}

// wide is a span that is wider on each side by up to so much, from lo to hi, and at most so wide.
func (d dice) wide(s api.Span, by, lo, hi, most int) api.Span {
	s.Lo = max(lo, s.Lo-d.from(0, by), s.Hi-most)
	s.Hi = min(hi, s.Hi+d.from(0, by), s.Lo+most)
	return s
}

// wideBox is a box that is wider on all sides by up to so much.
func (d dice) wideBox(b api.CtBox, by int) api.CtBox {
	return api.CtBox{X: d.wide(b.X, by, -9000, 9000, 16), Y: d.wide(b.Y, by, -9000, 9000, 16)}
}

// P4.13: with a wider ring, more points or wider boxes no place of the anchor is lost.
func TestWider(t *testing.T) {
	d := newDice(13)
	more := [5]int{}
	for i := range 1000 {
		m := d.mooring(d.near(), 8, d.from(1, 40))
		l := d.someLooks(m, d.from(1, 8), d.from(0, 6), 10)
		w, k := m, slices.Clone(l)
		all := i%5 == 4
		if all || i%5 == 0 {
			w.Ring = d.wide(m.Ring, 3, 0, 200, 200)
		}
		if all || i%5 == 1 {
			w.Anchor = d.wideBox(m.Anchor, 3)
		}
		for n := range k {
			if all || i%5 == 2 {
				k[n].At = d.wideBox(k[n].At, 3)
			}
			if all || i%5 == 3 {
				back := d.from(0, min(4, 32-k[n].Points))
				k[n].Point, k[n].Points = (k[n].Point+32-back)%32, k[n].Points+back
				k[n].Points += d.from(0, min(4, 32-k[n].Points))
			}
		}
		few, many := mustAnchors(t, m, l), mustAnchors(t, w, k)
		if !hasAll(many, few) {
			t.Fatalf("Anchors of %v with %v = %v, and of the wider %v with %v %v", m, l, few, w, k, many)
		}
		if len(many) > len(few) {
			more[i%5]++
		}
	}
	if slices.Min(more[:]) < 20 {
		t.Errorf("so often there were more places of the anchor: %v", more)
	}
}

// mapped is a mooring, and looks, whose places are all mapped by a function that maps boxes to boxes.
func mapped(m api.SgMooring, l []api.SgLook, to, vector func(p api.Point) api.Point, points int) (api.SgMooring, []api.SgLook) {
	m, l = clone(m), slices.Clone(l)
	boxOf := func(b api.CtBox, to func(p api.Point) api.Point) api.CtBox {
		p, q := to(point(b.X.Lo, b.Y.Lo)), to(point(b.X.Hi, b.Y.Hi))
		return box(min(p.X, q.X), max(p.X, q.X), min(p.Y, q.Y), max(p.Y, q.Y))
	}
	for i := range m.Chart.Marks {
		m.Chart.Marks[i].At = to(m.Chart.Marks[i].At)
	}
	for i := range m.Chart.Sands {
		s := &m.Chart.Sands[i]
		s.Moves = boxOf(s.Moves, vector)
		for k, p := range s.Corners {
			s.Corners[k] = to(p)
		}
	}
	m.Anchor = boxOf(m.Anchor, to)
	for i := range l {
		l[i].At = boxOf(l[i].At, to)
		l[i].Point = (l[i].Point + points) % 32
	}
	return m, l
}

// mappedPlaces are places that are mapped by a function, the lower X first, of the same X the lower Y.
func mappedPlaces(l []api.Point, to func(p api.Point) api.Point) (r []api.Point) {
	for _, p := range l {
		r = append(r, to(p))
	}
	slices.SortFunc(r, func(a, b api.Point) int {
		if a.X != b.X {
			return a.X - b.X
		}
		return a.Y - b.Y
	})
	return r
}

// P4.14: if all is moved by a vector, or turned clockwise by a quarter, so are the places of the anchor, and those at which she can lie.
func TestMovedAndTurned(t *testing.T) {
	d := newDice(14)
	stays := func(p api.Point) api.Point { return p }
	turn := func(p api.Point) api.Point { return point(p.Y, -p.X) }
	for range 500 {
		m := d.mooring(d.near(), 8, d.from(1, 60))
		m.Chart.Marks = full().Chart.Marks[:1]
		m.Chart.Marks[0].At = d.near()
		l := append(d.someLooks(m, d.from(0, 5), d.from(0, 8), 5), d.someLooks(m, 1, 8, 5)...)
		by := point(d.from(-8000, 8000), d.from(-8000, 8000))
		move := func(p api.Point) api.Point { return point(p.X+by.X, p.Y+by.Y) }
		for i, to := range []func(p api.Point) api.Point{move, turn} {
			vector, points := stays, 0
			if i == 1 {
				vector, points = turn, 8
			}
			last := len(l) - 1
			w, k := mapped(m, l, to, vector, points)
			expectAnchors(t, "mapped", w, k[:last], mappedPlaces(mustAnchors(t, m, l[:last]), to))
			r, e := swing.Places(m, l[:last], l[last])
			expectPlaces(t, "mapped", w, k[:last], k[last], mappedPlaces(r, to), e)
			if i == 1 { // as far from the charted place as before
				_, _, before := swing.Danger(m, l[:last], l[last])
				if _, _, e := swing.Danger(w, k[:last], k[last]); e != before {
					t.Errorf("Danger of %v, turned: error %d; it was %d", m, e, before)
				}
			}
		}
	}
}
