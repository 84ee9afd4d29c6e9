package chart_test

import (
	"regexp"
	"strconv"
	"strings"
	"testing"

	"nore/api"
	"nore/chart"
)

// exampleText is the text of the chapter's example.
const exampleText = "mark church 3000 4000 0 1 50 2\nmark mill -2000 0 10 3 90 0\nsand knoll 0 10 -5 5 100 0 200 0 200 100 100 100\nsand spit 0 0 0 0 -300 -300 -100 -400 -200 -200\n"

// form is the form of lines of marks, and of sands behind them.
var form = regexp.MustCompile(`^(mark [a-z-]+( (0|-?[1-9][0-9]*)){4,}\n)*(sand [a-z-]+( (0|-?[1-9][0-9]*)){10,}\n)*$`)

// chartOf is the chart of a text, if it has one without an error; it knows nothing of how Read reads.
func chartOf(text string) (c api.CtChart, ok bool) {
	if !form.MatchString(text) {
		return c, false
	}
	for _, l := range strings.Split(text, "\n") {
		words := strings.Fields(l)
		if len(words) == 0 {
			continue
		}
		var n []int
		for _, w := range words[2:] {
			i, err := strconv.Atoi(w)
			if err != nil {
				return c, false
			}
			n = append(n, i)
		}
		if len(n)%2 != 0 {
			return c, false
		}
		if words[0] == "mark" {
			c.Marks = append(c.Marks, mark(words[1], point(n[0], n[1]), n[2:]...))
		} else {
			c.Sands = append(c.Sands, sand(words[1], box(n[0], n[1], n[2], n[3]), n[4:]...))
		}
	}
	_, _, e := chart.Check(c)
	return c, e == api.OK
}

// expectRead tells if Read does not return the chart of a text, or the error if it has none.
func expectRead(t *testing.T, text string) {
	t.Helper()
	c, ok := chartOf(text)
	e := api.OK
	if !ok {
		c, e = api.CtChart{}, api.ErrForm
	}
	if x, f := chart.Read(text); !same(x, c) || f != e {
		t.Errorf("Read of %q = %v, %d; it should be %v, %d", text, x, f, c, e)
	}
}

// P1.7, P1.15: charts and their texts.
func TestWriteAndRead(t *testing.T) {
	ends := api.CtChart{
		Marks: []api.CtMark{mark("sand", point(-30000, 30000), 40000, 4), mark("mark", point(30000, -30000), 0, 0)},
		Sands: []api.CtSand{sand("a-b", box(-500, -460, 460, 500), -10000, -10000, 10000, -10000, 10000, 10000), sand("abcdefghijklmn", box(0, 0, 0, 0), 0, 0, 1, 0, 0, 1)},
	}
	for i, c := range []struct {
		c    api.CtChart
		text string
	}{
		{example(), exampleText},
		{api.CtChart{}, ""},
		{ends, "mark sand -30000 30000 40000 4\nmark mark 30000 -30000 0 0\nsand a-b -500 -460 460 500 -10000 -10000 10000 -10000 10000 10000\nsand abcdefghijklmn 0 0 0 0 0 0 1 0 0 1\n"},
		{oneMark(point(0, -1)), "mark church 0 -1 0 1\n"},
		{sandsOnly(sand("z", box(-1, 1, 0, 9), 7, 7, 9, 8, 7, 9)), "sand z -1 1 0 9 7 7 9 8 7 9\n"},
	} {
		if s, e := chart.Write(c.c); s != c.text || e != api.OK {
			t.Errorf("%d: Write = %q, %d; it should be %q", i, s, e, c.text)
		}
		if x, e := chart.Read(c.text); !same(x, c.c) || e != api.OK {
			t.Errorf("%d: Read = %v, %d; it should be %v", i, x, e, c.c)
		}
	}
}

// P1.7: texts that are just not the text of a chart.
func TestReadJustNot(t *testing.T) {
	good := "mark a 5 -6 7 1\n"
	more := "sand b 0 0 0 0 0 0 1 0 0 1\n"
	if _, e := chart.Read(good + more); e != api.OK {
		t.Errorf("Read = %d", e)
	}
	for _, s := range []string{
		"\n", " ", " \n", "\x00", "mark", "mark\n", "sand\n", "mark a\n", "mark a 5\n", "mark a 5 -6\n", "mark a 5 -6 7\n", "mark a 5 -6 7 1 8\n",
		good + "\n", "\n" + good, good + "\n" + more, good + " ", " " + good, good[:len(good)-1], more + good, good + more[:len(more)-1], good + good,
		good[:len(good)-1] + " \n", good[:len(good)-1] + "\r\n", good[:len(good)-1] + "\t\n", good[:len(good)-1] + "\n\n", good[:len(good)-1] + "\r",
		"mark  a 5 -6 7 1\n", "mark a  5 -6 7 1\n", "mark\ta 5 -6 7 1\n", "mark a\n5 -6 7 1\n", "mark a,5 -6 7 1\n", "mark 5 -6 7 1\n",
		"Mark a 5 -6 7 1\n", "marks a 5 -6 7 1\n", "mar a 5 -6 7 1\n", "mill a 5 -6 7 1\n", " a 5 -6 7 1\n", "a 5 -6 7 1\n",
		"mark A 5 -6 7 1\n", "mark a- 5 -6 7 1\n", "mark a--b 5 -6 7 1\n", "mark abcdefghijklmno 5 -6 7 1\n", "mark 5 5 -6 7 1\n",
		"mark a 05 -6 7 1\n", "mark a +5 -6 7 1\n", "mark a 5 -06 7 1\n", "mark a 5 --6 7 1\n", "mark a 5 - 6 7 1\n", "mark a 5 -0 7 1\n", "mark a -0 -6 7 1\n", "mark a 00 -6 7 1\n",
		"mark a 5.0 -6 7 1\n", "mark a 5e0 -6 7 1\n", "mark a 0x5 -6 7 1\n", "mark a 5_0 -6 7 1\n", "mark a 5 -6 +7 1\n", "mark a 5 -6 07 1\n", "mark a 5 -6 7 01\n", "mark a 5 -6 7 x\n", "mark a \u0665 -6 7 1\n",
		"mark a 4294967301 -6 7 1\n", "mark a 18446744073709551621 -6 7 1\n", "mark a 99999999999999999999999999 -6 7 1\n", "mark a 5 -18446744073709551622 7 1\n",
		"mark a 30001 -6 7 1\n", "mark a 5 -30001 7 1\n", "mark a 5 -6 -1 1\n", "mark a 5 -6 40001 1\n", "mark a 5 -6 7 5\n", "mark a 5 -6 7 -1\n", "mark a 5 -6 7 1 7 2\n", "mark a 5 -6 1 1 2 1 3 1 4 1 5 1\n",
		"sand a\n", "sand a 0\n", "sand a 0 0 0 0\n", "sand a 0 0 0 0 0 0 1 0\n", "sand a 0 0 0 0 0 0 1 0 0\n", "sand a 0 0 0 0 0 0 1 0 0 1 5\n",
		"sand a 0 0 0 0 0 0 0 1 1 0\n", "sand a 1 0 0 0 0 0 1 0 0 1\n", "sand a 0 41 0 0 0 0 1 0 0 1\n", "sand a 501 501 0 0 0 0 1 0 0 1\n", "sand a 0 0 0 0 0 0 10001 0 0 1\n",
		"sand a 0 0 0 0 0 0 1 0 2 0\n", "sand a 0 0 0 0 0 10 -6 -8 10 3 -10 3 6 -8\n",
		"mark a 5 -6 7 1\nsand a 0 0 0 0 0 0 1 0 0 1\n",
		manyLines("mark", " 0 0 0 1\n", 9), manyLines("sand", " 0 0 0 0 0 0 1 0 0 1\n", 5),
		strings.Repeat("\n", 4000), strings.Repeat("a", 4000), strings.Repeat(" ", 4000), strings.Repeat("mark ", 800), strings.Repeat(good, 250), "mark a 5 -6" + strings.Repeat(" 7", 1990),
	} {
		if x, e := chart.Read(s); e != api.ErrForm || !same(x, api.CtChart{}) {
			t.Errorf("Read of %q = %v, %d", s, x, e)
		}
	}
	for _, s := range []string{manyLines("mark", " 0 0 0 1\n", 8), manyLines("sand", " 0 0 0 0 0 0 1 0 0 1\n", 4)} {
		expectRead(t, s)
		if _, e := chart.Read(s); e != api.OK {
			t.Errorf("Read of %q = %d", s, e)
		}
	}
}

// manyLines are lines that have different names.
func manyLines(word, rest string, n int) (s string) {
	for i := range n {
		s += word + " name-" + string(rune('a'+i)) + rest
	}
	return s
}

// P1.7: texts of as many bytes as there can be, and of more.
func TestReadLong(t *testing.T) {
	for n, want := range map[int]api.Errno{3999: api.ErrForm, 4000: api.ErrForm, 4001: api.ErrLong, 4002: api.ErrLong, 1 << 20: api.ErrLong} {
		for _, b := range []string{"a", "\n", " ", "1"} {
			for _, start := range []string{"", exampleText, "mark a 5 -6 7 1"} {
				s := start + strings.Repeat(b, n-len(start))
				if x, e := chart.Read(s); e != want || !same(x, api.CtChart{}) {
					t.Errorf("Read of %d bytes = %v, %d", n, x, e)
				}
			}
		}
	}
}

// P1.7, P1.15: texts of a chart of which a byte is another one, is gone, or is added.
func TestReadBytes(t *testing.T) {
	bytes := []string{"", " ", "\n", "-", "+", "0", "1", "2", "9", "a", "z", "A", ".", "_", "\t", "\r", "\x00", "\xff", "  ", " 0", "0 ", "\n\n"}
	for _, text := range []string{exampleText, "mark a 0 0 0 1\nsand b 0 1 0 0 -1 0 1 0 0 1\n"} {
		for i := range len(text) + 1 {
			for _, b := range bytes {
				expectRead(t, text[:i]+b+text[i:])
				if i < len(text) {
					expectRead(t, text[:i]+b+text[i+1:])
				}
			}
			expectRead(t, text[:i])
			expectRead(t, text[i:])
		}
	}
}

// P1.7, P1.15: texts of a chart of which a word is another one, is gone, or is added, and whose lines are in another order.
func TestReadWords(t *testing.T) {
	words := strings.SplitAfter(strings.ReplaceAll(exampleText, "\n", "\n "), " ")
	for i := range words {
		for _, w := range []string{"", "mark ", "sand ", "a ", "0 ", "-1 ", "600 ", "99999 ", "\n"} {
			for _, rest := range [][]string{words[i:], words[i+1:]} {
				expectRead(t, strings.ReplaceAll(strings.Join(words[:i], "")+w+strings.Join(rest, ""), "\n ", "\n"))
			}
		}
	}
	lines := strings.SplitAfter(strings.TrimSuffix(exampleText, "\n"), "\n")
	lines[len(lines)-1] += "\n"
	var all func(text string, left int)
	all = func(text string, left int) {
		expectRead(t, text)
		if left > 0 {
			for _, l := range lines {
				all(text+l, left-1)
			}
		}
	}
	all("", 5)
}
