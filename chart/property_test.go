package chart_test

import (
	"slices"
	"testing"

	"nore/api"
	"nore/chart"
)

// standing is a sand that wandered by a vector, and wanders no more.
func standing(s api.CtSand, by api.Point) api.CtChart {
	s.Moves = box(0, 0, 0, 0)
	return moved(sandsOnly(s), by)
}

// P1.8: wherever each sand has wandered.
func TestWandering(t *testing.T) {
	d := newDice(8)
	for range 60 {
		wide := d.from(3, 9)
		c := d.sands(d.from(1, 3), wide, d.from(0, 5))
		for range 6 {
			at := d.place(2 * wide)
			sure, some := mustOn(t, c, at)
			for i, s := range c.Sands {
				for _, v := range eachOf(s.Moves) {
					here, there := mustOn(t, standing(s, v), at)
					if !slices.Equal(here, there) {
						t.Fatalf("On of a sand that stands, %v moved by %v, at %v = %v, %v", s, v, at, here, there)
					}
					if on := len(here) > 0; on && !slices.Contains(some, i) || !on && slices.Contains(sure, i) {
						t.Fatalf("On of %v at %v = %v, %v; sand %d moved by %v: %v", c, at, sure, some, i, v, on)
					}
				}
			}
		}
	}
}

// P1.9: with the radius of Radius no sand is in the circle, wherever it has wandered; with one more the one is that Clear returns, and none before it.
func TestClearRadius(t *testing.T) {
	d := newDice(9)
	for range 60 {
		wide := []int{4, 20, 900}[d.IntN(3)]
		c := d.sands(d.from(1, 3), wide, d.from(0, 4))
		at := d.place(3 * wide)
		r := mustRadius(t, c, at)
		for _, n := range []int{0, r / 2, r} {
			if s, v, e := chart.Clear(c, at, n); s != 0 || v != point(0, 0) || e != api.ErrNone {
				t.Fatalf("Clear of %v at %v with %d = %d, %v, %d", c, at, n, s, v, e)
			}
		}
		if r == api.MaxCtRadius {
			continue
		}
		sand, move, e := chart.Clear(c, at, r+1)
		if e != api.OK {
			t.Fatalf("Clear of %v at %v with %d = %d", c, at, r+1, e)
		}
		if _, _, e := chart.Clear(standing(c.Sands[sand], move), at, r+1); e != api.OK {
			t.Fatalf("Clear of %v at %v with %d = %d by %v, which is not in it", c, at, r+1, sand, move)
		}
		for i, s := range c.Sands[:sand+1] {
			for _, v := range eachOf(s.Moves) {
				if i == sand && v == move {
					break
				}
				if _, _, e := chart.Clear(standing(s, v), at, r+1); e != api.ErrNone {
					t.Fatalf("Clear of %v at %v with %d = %d by %v, but %d by %v is ahead of it", c, at, r+1, sand, move, i, v)
				}
			}
		}
	}
}

// P1.10: wider moves.
func TestMoreRoom(t *testing.T) {
	d := newDice(10)
	for range 300 {
		wide := d.from(3, 9)
		c := d.sands(d.from(1, 4), wide, d.from(0, 8))
		w := clone(c)
		for i := range w.Sands {
			m := &w.Sands[i].Moves
			m.X.Lo -= d.from(0, 9)
			m.X.Hi += d.from(0, 9)
			m.Y.Lo -= d.from(0, 9)
			m.Y.Hi += d.from(0, 9)
		}
		at := d.place(3 * wide)
		sure, some := mustOn(t, c, at)
		sure2, some2 := mustOn(t, w, at)
		if !hasAll(some2, some) || !hasAll(sure, sure2) || !hasAll(some, sure) || mustRadius(t, w, at) > mustRadius(t, c, at) {
			t.Fatalf("wider than %v at %v: %v, %v; %v, %v", c, at, sure, some, sure2, some2)
		}
	}
}

// turn turns a place clockwise by a quarter.
func turn(p api.Point) api.Point { return point(p.Y, -p.X) }

// turnBox turns a box clockwise by a quarter.
func turnBox(b api.CtBox) api.CtBox {
	return api.CtBox{X: b.Y, Y: api.Span{Lo: -b.X.Hi, Hi: -b.X.Lo}}
}

// P1.11: all is turned clockwise by a quarter.
func TestTurned(t *testing.T) {
	d := newDice(11)
	for range 200 {
		far := []int{9, 300, 9000}[d.IntN(3)]
		c := d.marks(d.sands(d.from(0, 4), 3+far/4, d.from(0, 4)), d.from(1, 8), far)
		at, from := d.place(far), d.moves(500, 9)
		x, y, z := changed(c, turn, turnBox), turn(at), turnBox(from)
		if mustRadius(t, c, at) != mustRadius(t, x, y) {
			t.Fatalf("Radius of %v at %v is another one if turned", c, at)
		}
		sure, some := mustOn(t, c, at)
		sure2, some2 := mustOn(t, x, y)
		if !slices.Equal(sure, sure2) || !slices.Equal(some, some2) {
			t.Fatalf("On of %v at %v is another one if turned", c, at)
		}
		for m := range c.Marks {
			day := d.from(0, 400)
			p, e := chart.Seen(c, day, m, at)
			q, f := chart.Seen(x, day, m, y)
			if e != f || e == api.OK && q != (p+8)%32 {
				t.Fatalf("Seen of %v from %v = %d, %d, if turned %d, %d", c, at, p, e, q, f)
			}
			l, e := chart.Points(c, day, m, from)
			for i := range l {
				l[i] = (l[i] + 8) % 32
			}
			slices.Sort(l)
			if k, f := chart.Points(x, day, m, z); e != f || !slices.Equal(l, k) {
				t.Fatalf("Points of %v from %v = %v, %d, if turned %v, %d", c, from, l, e, k, f)
			}
		}
	}
}

// P1.12: all is moved by the same vector.
func TestMoved(t *testing.T) {
	d := newDice(12)
	for range 200 {
		far := []int{9, 300, 3000}[d.IntN(3)]
		c := d.marks(d.sands(d.from(1, 4), 3+far/4, d.from(0, 4)), d.from(1, 8), far)
		at, by, from := d.place(far), d.place(500), d.moves(500, 9)
		x, y := moved(c, by), plus(at, by)
		z := box(from.X.Lo+by.X, from.X.Hi+by.X, from.Y.Lo+by.Y, from.Y.Hi+by.Y)
		r := mustRadius(t, c, at)
		sure, some := mustOn(t, c, at)
		sure2, some2 := mustOn(t, x, y)
		if r != mustRadius(t, x, y) || !slices.Equal(sure, sure2) || !slices.Equal(some, some2) {
			t.Fatalf("On or Radius of %v at %v is another one if moved by %v", c, at, by)
		}
		s, v, e := chart.Clear(c, at, min(r+9, api.MaxCtRadius))
		if s2, v2, f := chart.Clear(x, y, min(r+9, api.MaxCtRadius)); s != s2 || v != v2 || e != f {
			t.Fatalf("Clear of %v at %v is another one if moved by %v", c, at, by)
		}
		for m := range c.Marks {
			day := d.from(0, 400)
			p, e := chart.Seen(c, day, m, at)
			if q, f := chart.Seen(x, day, m, y); p != q || e != f {
				t.Fatalf("Seen of %v from %v is another one if moved by %v", c, at, by)
			}
			l, e := chart.Points(c, day, m, from)
			if k, f := chart.Points(x, day, m, z); !slices.Equal(l, k) || e != f {
				t.Fatalf("Points of %v from %v are others if moved by %v", c, from, by)
			}
		}
	}
}

// P1.13: a box and two parts of it; a single place.
func TestParts(t *testing.T) {
	d := newDice(13)
	all := func(at api.Point, b api.CtBox) []int {
		l, e := chart.Points(oneMark(at), 0, 0, b)
		if e != api.OK {
			t.Fatalf("Points from %v = %d", b, e)
		}
		return l
	}
	for range 300 {
		at, b := d.place(15), d.moves(18, 18)
		one, two := b, b
		if cut := d.from(b.X.Lo, b.X.Hi); d.IntN(2) == 0 && cut < b.X.Hi {
			one.X.Hi, two.X.Lo = cut, cut+1
		} else if cut := d.from(b.Y.Lo, b.Y.Hi); cut < b.Y.Hi {
			one.Y.Hi, two.Y.Lo = cut, cut+1
		}
		both := append(all(at, one), all(at, two)...)
		slices.Sort(both)
		if l := all(at, b); !slices.Equal(l, slices.Compact(both)) {
			t.Fatalf("Points of %v from %v = %v, from its parts %v", at, b, l, both)
		}
		from := d.place(15)
		p, e := chart.Seen(oneMark(at), 0, 0, from)
		l := all(at, box(from.X, from.X, from.Y, from.Y))
		if from != at && (e != api.OK || !slices.Equal(l, []int{p})) || from == at && (e != api.ErrZero || len(l) != 0) {
			t.Fatalf("Points of %v from %v = %v; Seen %d, %d", at, from, l, p, e)
		}
	}
}

// P1.14: there and back.
func TestThereAndBack(t *testing.T) {
	d := newDice(14)
	for i := range 1500 {
		far := []int{3, 2000, 30000}[i%3]
		at, from := d.place(far), d.place(far)
		p, e := chart.Seen(oneMark(at), 0, 0, from)
		q, f := chart.Seen(oneMark(from), 0, 0, at)
		if e != f || e == api.OK && q != (p+16)%32 {
			t.Fatalf("Seen of %v from %v = %d, %d, and back %d, %d", at, from, p, e, q, f)
		}
	}
	for _, v := range compass {
		p, _ := chart.Seen(oneMark(v), 0, 0, point(0, 0))
		if q, _ := chart.Seen(oneMark(point(0, 0)), 0, 0, v); q != (p+16)%32 {
			t.Errorf("Seen to %v = %d, and back %d", v, p, q)
		}
	}
}

// P1.15, P11: what is written is read back, byte for byte.
func TestBytes(t *testing.T) {
	d := newDice(15)
	for i := range 300 {
		far := []int{9, 300, 3000}[i%3]
		c := d.marks(d.sands(d.from(0, 4), 3+far/4, d.from(0, 40)), d.from(0, 8), far)
		text, e := chart.Write(c)
		if e != api.OK {
			t.Fatalf("Write of %v = %d", c, e)
		}
		x, e := chart.Read(text)
		if e != api.OK || !same(x, c) {
			t.Fatalf("Read of %q = %v, %d; it was %v", text, x, e, c)
		}
		if again, e := chart.Write(x); e != api.OK || again != text {
			t.Fatalf("Write of what was read of %q = %q, %d", text, again, e)
		}
	}
	c := full()
	text, e := chart.Write(c)
	if x, f := chart.Read(text); e != api.OK || f != api.OK || !same(x, c) {
		t.Fatalf("Read of a full chart = %v, %d", x, f)
	}
}
