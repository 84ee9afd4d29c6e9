package fix_test

import (
	"slices"
	"testing"

	"nore/api"
	"nore/chart"
	"nore/fix"
)

// hasAll reports whether a list has all places of another one.
func hasAll(l, part []api.Point) bool {
	return !slices.ContainsFunc(part, func(p api.Point) bool { return !slices.Contains(l, p) })
}

// inside reports whether a span is within another one.
func inside(s, of api.Span) bool { return of.Lo <= s.Lo && s.Hi <= of.Hi }

// P2, P2.7: her place is among what is told, in every truth.
func TestEveryTruth(t *testing.T) {
	d := newDice(7)
	for i := range 600 {
		f := d.fix(4, 6, 8)
		at, offs := d.truth(f)
		var l []api.FxSight
		for range i % 9 {
			if s, ok := d.trueSight(f, at, offs); ok {
				l = append(l, s)
			}
		}
		if r := mustPlaces(t, f, l); !slices.Contains(r, at) {
			t.Fatalf("Places of %v with %v = %v, but she can be at %v", f, l, r, at)
		}
		if b, e := fix.Where(f, l); e != api.OK || !inside(span(at.X, at.X), b.X) || !inside(span(at.Y, at.Y), b.Y) {
			t.Fatalf("Where of %v with %v = %v, %d, but she can be at %v", f, l, b, e, at)
		}
		r, e := fix.Offs(f, l, at)
		if e != api.OK || len(r) != len(offs) {
			t.Fatalf("Offs of %v with %v at %v = %v, %d", f, l, at, r, e)
		}
		for k, off := range offs {
			if !inside(span(off, off), r[k]) || !inside(r[k], f.Instruments[k].Off) {
				t.Fatalf("Offs of %v with %v at %v = %v, but %d can be off by %d", f, l, at, r, k, off)
			}
		}
	}
}

// P2, P2.8: a further sight adds no place, and widens no box and no span.
func TestOneMore(t *testing.T) {
	d := newDice(8)
	for range 400 {
		f := d.fix(3, 6, 8)
		l := d.sights(f, 8, 10)
		for n := range l {
			few, many := mustPlaces(t, f, l[:n+1]), mustPlaces(t, f, l[:n])
			if !hasAll(many, few) {
				t.Fatalf("Places of %v with %v = %v, and without the last one %v", f, l[:n+1], few, many)
			}
			b, e := fix.Where(f, l[:n+1])
			before, _ := fix.Where(f, l[:n])
			if e == api.OK && (!inside(b.X, before.X) || !inside(b.Y, before.Y)) {
				t.Fatalf("Where of %v with %v = %v, and without the last one %v", f, l[:n+1], b, before)
			}
			for _, at := range few {
				r, _ := fix.Offs(f, l[:n+1], at)
				before, _ := fix.Offs(f, l[:n], at)
				if slices.ContainsFunc(f.Instruments, func(x api.FxInstrument) bool {
					i := slices.Index(f.Instruments, x)
					return !inside(r[i], before[i])
				}) {
					t.Fatalf("Offs of %v with %v at %v = %v, and without the last one %v", f, l[:n+1], at, r, before)
				}
			}
		}
	}
}

// P4, P2.9: without what Wrong names some place agrees, without any fewer none does; it names no more than there are that are wrong.
func TestFewestWrong(t *testing.T) {
	d := newDice(9)
	for range 250 {
		f := d.fix(2, 5, 2)
		o := oracleOf(f)
		at, offs := d.truth(f)
		var bad [12]bool // the marks and the instruments whose sights need not be true
		for range d.from(0, 3) {
			bad[d.IntN(len(f.Chart.Marks)+len(f.Instruments))] = true
		}
		var l []api.FxSight
		for range 8 {
			s, ok := d.trueSight(f, at, offs)
			lie, can := d.falseSight(f)
			bearing := can && !f.Instruments[lie.Instrument].Lead
			if can && (bad[len(f.Chart.Marks)+lie.Instrument] || bearing && bad[lie.Mark]) {
				s, ok = lie, true
			}
			if ok {
				l = append(l, s)
			}
		}
		marks, instruments := mustWrong(t, f, l)
		n, most := len(marks)+len(instruments), 0
		for i := range len(f.Chart.Marks) + len(f.Instruments) {
			if bad[i] {
				most++
			}
		}
		if n > most || n > len(f.Instruments) {
			t.Fatalf("Wrong of %v with %v = %v, %v, but %d are", f, l, marks, instruments, most)
		}
		if len(mustPlaces(t, f, o.without(l, marks, instruments))) == 0 {
			t.Fatalf("without what Wrong of %v with %v says, %v, %v, no place agrees", f, l, marks, instruments)
		}
		for set := range uint(1) << (len(f.Chart.Marks) + len(f.Instruments)) {
			a, b, both := o.lists(set)
			if len(both) < n && len(mustPlaces(t, f, o.without(l, a, b))) > 0 {
				t.Fatalf("Wrong of %v with %v = %v, %v, but without %v, %v some place agrees", f, l, marks, instruments, a, b)
			}
		}
	}
}

// P2.10: whatever the bearing shows, no more places are left than Ask says, with some point just as many; any other one can leave as many.
func TestAsked(t *testing.T) {
	d := newDice(10)
	for range 120 {
		f := d.fix(2, 4, 8)
		l := d.sights(f, 7, 0)
		mark, instrument, left, e := fix.Ask(f, l)
		if e != api.OK {
			continue
		}
		for m := range f.Chart.Marks {
			for i, x := range f.Instruments {
				if x.Lead || !standing(f, m) {
					continue
				}
				most := 0
				for shown := range 32 {
					most = max(most, len(mustPlaces(t, f, append(slices.Clone(l), bear(m, shown, i)))))
				}
				if most < left || m == mark && i == instrument && most != left {
					t.Fatalf("Ask of %v with %v = %d, %d, %d, but %d by %d leaves %d", f, l, mark, instrument, left, m, i, most)
				}
			}
		}
	}
}

// P2.11: sights in any order, and told twice.
func TestOrder(t *testing.T) {
	d := newDice(11)
	for range 400 {
		f := d.fix(3, 6, 8)
		l := d.sights(f, 8, 10)
		other := slices.Clone(l)
		for len(other) > 0 && len(other) < 8 && d.IntN(3) > 0 {
			other = append(other, l[d.IntN(len(l))])
		}
		d.Shuffle(len(other), func(i, k int) { other[i], other[k] = other[k], other[i] })
		r := mustPlaces(t, f, l)
		expectPlaces(t, "in another order", f, other, r)
		for _, at := range append(r, d.place(f)) {
			offs, _ := fix.Offs(f, l, at)
			expectOffs(t, "in another order", f, other, at, offs)
		}
		marks, instruments := mustWrong(t, f, l)
		expectWrong(t, "in another order", f, other, marks, instruments)
		if len(other) < 8 {
			a, b, c, e := fix.Ask(f, l)
			expectAsk(t, "in another order", f, other, a, b, c, e)
		}
	}
}

// P2.12: with wider spans Off, and wider depths, no place is lost.
func TestWider(t *testing.T) {
	d := newDice(12)
	for range 400 {
		f := d.fix(3, 6, 4)
		l := d.sights(f, 8, 10)
		w := clone(f)
		for i := range w.Instruments {
			most := api.MaxFxOff
			if w.Instruments[i].Lead {
				most = api.MaxFxLead
			}
			o := &w.Instruments[i].Off
			o.Lo, o.Hi = max(-most, o.Lo-d.from(0, 3)), min(most, o.Hi+d.from(0, 3))
		}
		for i := range w.Areas {
			o := &w.Areas[i].Depth
			o.Lo, o.Hi = max(0, o.Lo-d.from(0, 9)), min(1000, o.Hi+d.from(0, 9))
		}
		if few, many := mustPlaces(t, f, l), mustPlaces(t, w, l); !hasAll(many, few) {
			t.Fatalf("Places of %v with %v = %v, and of the wider %v %v", f, l, few, w, many)
		}
	}
}

// turn turns a place clockwise by a quarter, turnSpans the box of two spans.
func turn(p api.Point) api.Point { return point(p.Y, -p.X) }

func turnSpans(x, y api.Span) (api.Span, api.Span) { return y, span(-x.Hi, -x.Lo) }

// turned is a fix that is turned clockwise by a quarter.
func turned(f api.FxFix) api.FxFix {
	f = clone(f)
	for i := range f.Chart.Marks {
		f.Chart.Marks[i].At = turn(f.Chart.Marks[i].At)
	}
	for i := range f.Chart.Sands {
		s := &f.Chart.Sands[i]
		s.Moves.X, s.Moves.Y = turnSpans(s.Moves.X, s.Moves.Y)
		for k, p := range s.Corners {
			s.Corners[k] = turn(p)
		}
	}
	for i := range f.Areas {
		f.Areas[i].X, f.Areas[i].Y = turnSpans(f.Areas[i].X, f.Areas[i].Y)
	}
	return f
}

// P2.13: all is turned clockwise by a quarter.
func TestTurned(t *testing.T) {
	d := newDice(13)
	for range 400 {
		f := d.fix(3, 6, 4)
		if d.IntN(2) == 0 {
			f.Chart.Sands = full().Chart.Sands
		}
		l := d.sights(f, 8, 10)
		g, m := turned(f), slices.Clone(l)
		for i, s := range m {
			if !f.Instruments[s.Instrument].Lead {
				m[i].Shown = on(s.Shown, 8)
			}
		}
		var want []api.Point
		for _, p := range mustPlaces(t, f, l) {
			want = append(want, turn(p))
		}
		slices.SortFunc(want, func(a, b api.Point) int {
			if a.X != b.X {
				return a.X - b.X
			}
			return a.Y - b.Y
		})
		expectPlaces(t, "turned", g, m, want)
		at := d.place(f)
		offs, _ := fix.Offs(f, l, at)
		expectOffs(t, "turned", g, m, turn(at), offs)
	}
}

// P2.14: with a compass that is not off, the places that are left are those from which the mark is seen in the point.
func TestChart(t *testing.T) {
	d := newDice(14)
	for range 100 {
		f := plain(d.from(1, 500), d.from(0, 8), nil, compass("old", -4, 4), compass("card", 0, 0))
		f.Chart.Marks = []api.CtMark{mark("church", d.place(f)), mark("mill", d.place(f))}
		f.Chart.Sands = full().Chart.Sands
		for shown := range 32 {
			var want []api.Point
			for _, at := range gridOf(f) {
				p, e := chart.Seen(f.Chart, f.Day, 1, at)
				if seen := e == api.OK && p == shown; seen {
					want = append(want, at)
					expectOffs(t, "seen", f, sights(bear(1, shown, 1)), at, spans(-4, 4, 0, 0))
				} else if shown%8 == 0 {
					expectOffs(t, "not seen", f, sights(bear(1, shown, 1)), at, nil)
				}
			}
			expectPlaces(t, "seen", f, sights(bear(1, shown, 1)), want)
		}
	}
}
