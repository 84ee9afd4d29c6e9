package air_test

import (
	"fmt"
	"slices"
	"testing"

	"nore/air"
	"nore/api"
)

// expectFar tells if Far does not return this.
func expectFar(t *testing.T, what string, c scene, sure, some int, e api.Errno) {
	t.Helper()
	if a, b, g := air.Far(c.s, c.n, c.l); a != sure || b != some || g != e {
		t.Errorf("%s: Far of %v = %d, %d, %d; it should be %d, %d, %d", what, c, a, b, g, sure, some, e)
	}
}

// expectGrade tells if Grade does not return this.
func expectGrade(t *testing.T, what string, c scene, metres, want int, e api.Errno) {
	t.Helper()
	if n, g := air.Grade(c.s, c.n, c.l, metres); n != want || g != e {
		t.Errorf("%s: Grade of %v for %d = %d, %d; it should be %d, %d", what, c, metres, n, g, want, e)
	}
}

// P6.6: the examples, and that of DOC.md.
func TestFarExamples(t *testing.T) {
	expectFar(t, "without reports", example(), 10000, 14491, api.OK)
	expectGrade(t, "7000", example(), 7000, 1, api.OK)
	expectGrade(t, "10001", example(), 10001, 0, api.ErrDown)
	expectFar(t, "400 candles in air that halves them every 5000 metres", lamp(span(400, 400), span(50, 50)), 10000, 10000, api.OK)
}

// P6.6: the reach is where the candles are too few, or just before the next whole length.
func TestFarEdges(t *testing.T) {
	for _, f := range []struct{ candles, clear, metres int }{
		{1, 1, 99}, {1, 9, 899}, {1, 10, 999}, {1, 11, 1000}, {1, 300, 1000}, {2, 1, 199}, {2, 10, 1000}, {2, 14, 1399}, {2, 15, 1414}, {3, 10, 1000}, {4, 10, 1414},
		{5000, 300, 50000}, {4999, 300, 49989}, {5000, 1, 1199}, {4095, 1, 1099}, {4096, 1, 1199}, {900, 300, 29999}, {901, 300, 29999}, {1800, 300, 30000}, {100, 100, 9999}, {200, 100, 10000}, {100, 101, 10000},
	} {
		expectFar(t, fmt.Sprint(f), lamp(span(f.candles, f.candles), span(f.clear, f.clear)), f.metres, f.metres, api.OK)
	}
	expectFar(t, "from the least to the greatest", lamp(span(1, 4), span(1, 15)), 99, 1499, api.OK)
	expectFar(t, "all that can be", full().withGrade(0), 1199, 50000, api.OK)
	expectFar(t, "all that can be", full().withGrade(1), 99, 6403, api.OK)
	expectFar(t, "all that can be", full().withGrade(2), 99, 1000, api.OK)
}

// withGrade is a scene with this grade, and without reports.
func (c scene) withGrade(grade int) scene {
	c.n.Grade, c.l = grade, nil
	return c
}

// P6.6: reports make the ends narrower.
func TestFarAfterReports(t *testing.T) {
	expectFar(t, "B", example(reportB()), 10000, 12999, api.OK)
	expectFar(t, "seen at 14000", example(saw(0, 14000)), 14142, 14491, api.OK)
	expectFar(t, "not seen at 10001", example(dark(0, 10001)), 10000, 10000, api.OK)
	expectFar(t, "not seen at 10000", example(dark(0, 10000)), 0, 0, api.ErrDown)
	expectFar(t, "whatever is heard", example(heard(1, 0), still(29000, 0)), 10000, 14491, api.OK)
}

// P6.6: the grade of the night has the candles of each truth, another one any of its own.
func TestGradeCandles(t *testing.T) {
	c := lamp(span(90, 110), span(300, 300))
	c.s.Grades = append(c.s.Grades, grade("other", 90, 110, 0), grade("better", 101, 120, 0))
	c.s.Grades[0].Oil = 9
	expectGrade(t, "all do", c, 9486, 1, api.OK)
	expectGrade(t, "90 are too few", c, 9487, 2, api.OK)
	expectGrade(t, "101 are just enough", c, 10049, 2, api.OK)
	expectGrade(t, "none does", c, 10050, 0, api.ErrDown)
	c.l = []api.AiReport{saw(0, 10246)} // so there are 105 candles at least
	expectGrade(t, "that of the night does alone", c, 10050, 0, api.OK)
	expectGrade(t, "105 are just enough", c, 10246, 0, api.OK)
	expectGrade(t, "105 are too few", c, 10247, 0, api.ErrDown)
	c.n.Grade = 1
	expectGrade(t, "another one is that of the night", c, 10246, 1, api.OK)
	c.l = nil
	c.n.Grade = 2
	expectGrade(t, "each has its own candles", c, 10049, 2, api.OK)
	expectGrade(t, "each has its own candles", c, 9486, 1, api.OK)
}

// P6.6: other grades have the Clear of the truths, whatever the candles of these.
func TestGradeClear(t *testing.T) {
	c := example(dark(0, 12000)) // Clear is at most 60, if there are 400 candles or more
	c.s.Grades[1].Candles = span(500, 500)
	_, clear, _ := clearOf(c)
	if clear != span(50, 60) {
		t.Fatalf("Clear of %v is %v", c, clear)
	}
	expectGrade(t, "as far as 500 candles go, halved twice", c, 11180, 1, api.OK)
	expectGrade(t, "farther", c, 11181, 0, api.ErrDown)
	c.l = []api.AiReport{saw(0, 14000)} // Clear is 71 at least
	expectGrade(t, "as far as 500 candles go, halved once", c, 14199, 1, api.OK)
	expectGrade(t, "farther", c, 14200, 0, api.ErrDown)
}

// P6.6: of those that do the one that burns least, of several the first one.
func TestGradeOil(t *testing.T) {
	station := func(oils ...int) scene {
		c := lamp(span(100, 100), span(300, 300))
		c.s.Grades = nil
		for i, oil := range oils {
			c.s.Grades = append(c.s.Grades, grade(string(rune('a'+i)), 100+100*i, 100+100*i, oil))
		}
		return c
	}
	for _, f := range []struct {
		oils   []int
		metres int
		want   int
		e      api.Errno
	}{
		{[]int{4, 3, 2, 1}, 0, 3, api.OK},
		{[]int{1, 2, 3, 4}, 0, 0, api.OK},
		{[]int{1, 2, 3, 4}, 10000, 0, api.OK},
		{[]int{1, 2, 3, 4}, 10001, 1, api.OK},
		{[]int{1, 2, 3, 4}, 14143, 2, api.OK},
		{[]int{1, 2, 3, 4}, 20000, 3, api.OK},
		{[]int{1, 2, 3, 4}, 20001, 0, api.ErrDown},
		{[]int{5, 5, 5, 5}, 10000, 0, api.OK},
		{[]int{5, 5, 5, 5}, 10001, 1, api.OK},
		{[]int{5, 4, 5, 4}, 10000, 1, api.OK},
		{[]int{5, 4, 5, 4}, 15000, 3, api.OK},
		{[]int{5, 6, 7, 5}, 10001, 3, api.OK},
		{[]int{1000, 0, 1000, 0}, 5000, 1, api.OK},
		{[]int{0, 0}, 14142, 1, api.OK},
		{[]int{7}, 10000, 0, api.OK},
		{[]int{7}, 10001, 0, api.ErrDown},
	} {
		for night := range f.oils {
			c := station(f.oils...)
			c.n.Grade = night
			expectGrade(t, fmt.Sprint(f.oils, ", night ", night), c, f.metres, f.want, f.e)
		}
	}
}

// P6.6: scenes at random, held against the definitions.
func TestFarAtRandom(t *testing.T) {
	d := newDice(5)
	var kinds [3]int
	for i := range 240 {
		c, light, _ := d.told([]int{2, 5, 12}[i%3], 4, []int{0, 0, 20}[i/3%3])
		what := fmt.Sprint("random ", i)
		sure, some, e := farOf(c)
		expectFar(t, what, c, sure, some, e)
		for _, metres := range []int{reachOf(light) + d.from(-1, 1), d.from(0, 20000), sure, some} {
			metres = min(60000, max(0, metres))
			n, e := gradeOf(c, metres)
			expectGrade(t, what, c, metres, n, e)
			switch {
			case e != api.OK:
				kinds[0]++
			case n == c.n.Grade:
				kinds[1]++
			default:
				kinds[2]++
			}
		}
	}
	if slices.Min(kinds[:]) < 100 {
		t.Errorf("so often no grade did, that of the night, another one: %v", kinds)
	}
}
