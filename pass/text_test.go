package pass_test

import (
	"regexp"
	"strconv"
	"strings"
	"testing"

	"nore/api"
	"nore/pass"
)

// lineForms are the forms of lines.
const (
	numberForm = ` (0|-?[1-9][0-9]*)`
	wordForm   = ` [a-z-]+`
	lineForms  = `pass` + numberForm + wordForm + `|set` + numberForm + `|report` + numberForm + wordForm + numberForm
)

// form is the form of texts.
var form = regexp.MustCompile(`^near` + numberForm + `\n(book` + wordForm + numberForm + numberForm + numberForm + numberForm + `\n((` + lineForms + `)\n)*)+$`)

// logOf is the log of a text, if it has one without an error; it knows nothing of how Read reads.
func logOf(text string) (l api.PaLog, ok bool) {
	if !form.MatchString(text) {
		return l, false
	}
	for _, line := range strings.Split(text, "\n") {
		words := strings.Fields(line)
		if len(words) == 0 {
			continue
		}
		var n []int
		for _, w := range words[1:] {
			i, err := strconv.Atoi(w)
			if err != nil && w[len(w)-1] <= '9' && w != "-" {
				return l, false
			}
			n = append(n, i)
		}
		last := &api.PaBook{}
		if len(l.Books) > 0 {
			last = &l.Books[len(l.Books)-1]
		}
		switch words[0] {
		case "near":
			l.Near = n[0]
		case "book":
			l.Books = append(l.Books, book(words[1], span(n[1], n[2]), span(n[3], n[4])))
		case "pass":
			last.Entries = append(last.Entries, ship(n[0], words[2]))
		case "set":
			last.Entries = append(last.Entries, set(n[0]))
		case "report":
			last.Entries = append(last.Entries, report(n[0], words[2], n[2]))
		}
	}
	_, _, e := pass.Check(l)
	return l, e == api.OK
}

// expectRead tells if Read does not return the log of a text, or the error if it has none.
func expectRead(t *testing.T, text string) {
	t.Helper()
	l, ok := logOf(text)
	e := api.OK
	if !ok {
		l, e = api.PaLog{}, api.ErrForm
	}
	if x, f := pass.Read(text); !same(x, l) || f != e {
		t.Errorf("Read of %q = %v, %d; it should be %v, %d", text, x, f, l, e)
	}
}

// expectNoLog tells if Read returns anything but this error.
func expectNoLog(t *testing.T, text string, e api.Errno) {
	t.Helper()
	if x, f := pass.Read(text); !same(x, api.PaLog{}) || f != e {
		t.Errorf("Read of %q = %v, %d; it should be none, %d", text, x, f, e)
	}
}

// fullText is the text of a full log.
const fullText = `near 60
book the-book-of-xa -720 720 -720 720
pass 0 great-easterly
set 2500
report 5000 the-coastguard 93
pass 7500 great-easterly
set 10000
report 12500 the-coastguard 96
pass 15000 great-easterly
set 17500
book the-book-of-xb -720 720 -720 720
pass 100 great-easterly
set 2600
report 5100 the-coastguard 93
pass 7600 great-easterly
set 10100
report 12600 the-coastguard 96
pass 15100 great-easterly
set 17600
book the-book-of-xc -720 720 -720 720
pass 200 great-easterly
set 2700
report 5200 the-coastguard 93
pass 7700 great-easterly
set 10200
report 12700 the-coastguard 96
pass 15200 great-easterly
set 17700
`

// P11.7, P11.16: logs and their texts.
func TestWriteAndRead(t *testing.T) {
	for i, c := range []struct {
		l    api.PaLog
		text string
	}{
		{exampleL(), exampleText},
		{full(), fullText},
		{log(0, book("a", span(0, 0), span(0, 0))), "near 0\nbook a 0 0 0 0\n"},
		{log(60, book("near", span(-720, -1), span(1, 720))), "near 60\nbook near -720 -1 1 720\n"},
		{log(1, book("book", span(0, 1), span(-10, 10), ship(20000, "pass"), set(0), report(9, "set", 99), report(0, "report", 1)), book("set", span(0, 0), span(0, 0)), book("a-b", span(5, 5), span(6, 6), set(20000))), "near 1\nbook book 0 1 -10 10\npass 20000 pass\nset 0\nreport 9 set 99\nreport 0 report 1\nbook set 0 0 0 0\nbook a-b 5 5 6 6\nset 20000\n"},
	} {
		expectWrite(t, strconv.Itoa(i), c.l, c.text, api.OK)
		if x, e := pass.Read(c.text); !same(x, c.l) || e != api.OK {
			t.Errorf("%d: Read = %v, %d; it should be %v", i, x, e, c.l)
		}
		if x, ok := logOf(c.text); !same(x, c.l) || !ok {
			t.Errorf("%d: by its form this is %v, %v", i, x, ok)
		}
	}
}

// P11.7: texts that are just not the text of a log.
func TestReadJustNot(t *testing.T) {
	const head = "near 5\nbook a 0 1 -2 3\n"
	for _, s := range []string{
		"", "\n", " ", "\x00", "near", "near\n", "near 5", "near 5\n", "near 5\n\n", "book a 0 0 0 0\n", "book a 0 0 0 0\nnear 5\n", "pass 1 a\n", "near 5\npass 1 a\n", "near 5\nset 1\nbook a 0 0 0 0\n",
		head[:len(head)-1], head + "\n", "\n" + head, " " + head, head + " ", head + head, head + "near 5\n", "near 5\n" + head, head + "book a 0 1 -2 3\n",
		"near 05\nbook a 0 1 -2 3\n", "near +5\nbook a 0 1 -2 3\n", "near -5\nbook a 0 1 -2 3\n", "near -0\nbook a 0 1 -2 3\n", "near 61\nbook a 0 1 -2 3\n", "near 5 \nbook a 0 1 -2 3\n", "near  5\nbook a 0 1 -2 3\n", "near 5 5\nbook a 0 1 -2 3\n", "near x\nbook a 0 1 -2 3\n", "near 5.0\nbook a 0 1 -2 3\n", "near 4294967301\nbook a 0 1 -2 3\n", "near 18446744073709551621\nbook a 0 1 -2 3\n", "near 99999999999999999999999999\nbook a 0 1 -2 3\n",
		"Near 5\nbook a 0 1 -2 3\n", "near 5\r\nbook a 0 1 -2 3\r\n", "near 5\nbooks a 0 1 -2 3\n", "near 5\nBook a 0 1 -2 3\n", "near 5 book a 0 1 -2 3\n", "near\t5\nbook a 0 1 -2 3\n",
		"near 5\nbook\n", "near 5\nbook a\n", "near 5\nbook a 0\n", "near 5\nbook a 0 1\n", "near 5\nbook a 0 1 -2\n", "near 5\nbook a 0 1 -2 3 4\n", "near 5\nbook 0 1 -2 3\n", "near 5\nbook  0 1 -2 3\n", "near 5\nbook A 0 1 -2 3\n", "near 5\nbook a- 0 1 -2 3\n", "near 5\nbook abcdefghijklmno 0 1 -2 3\n",
		"near 5\nbook a 1 0 -2 3\n", "near 5\nbook a 0 1 4 3\n", "near 5\nbook a 0 721 -2 3\n", "near 5\nbook a -721 1 -2 3\n", "near 5\nbook a 0 1 -2 721\n", "near 5\nbook a 0 1 -721 3\n", "near 5\nbook a 0 1 -02 3\n", "near 5\nbook a 0 01 -2 3\n", "near 5\nbook a -0 1 -2 3\n", "near 5\nbook a 0 +1 -2 3\n", "near 5\nbook a 0 1 - 3\n", "near 5\nbook a 0 1 --2 3\n",
		head + "pass\n", head + "pass 7\n", head + "pass tug\n", head + "pass 7 tug 1\n", head + "pass tug 7\n", head + "pass 07 tug\n", head + "pass -7 tug\n", head + "pass 20001 tug\n", head + "pass 7 Tug\n", head + "pass 7 \n", head + "pass 7 8\n", head + "pass  7 tug\n", head + "pass 7 tug \n", head + "pass 7 tug", head + "passes 7 tug\n", head + "7 tug\n",
		head + "set\n", head + "set \n", head + "set 7 tug\n", head + "set 7 8\n", head + "set tug\n", head + "set 07\n", head + "set 20001\n", head + "set -1\n", head + "set -0\n", head + "set 7 \n", head + "set 7", head + "reset 7\n",
		head + "report\n", head + "report 7\n", head + "report 7 tug\n", head + "report 7 1\n", head + "report 7 tug 0\n", head + "report 7 tug 100\n", head + "report 7 tug -1\n", head + "report 7 tug 01\n", head + "report 7 tug +1\n", head + "report 7 tug 1 2\n", head + "report 7 tug x\n", head + "report tug 7 1\n", head + "report 20001 tug 1\n", head + "report 7 - 1\n", head + "report 7  1\n", head + "report 7 tug 1", head + "Report 7 tug 1\n", head + "report 7 tug 4294967297\n",
		head + "sail 7 tug\n", head + " pass 7 tug\n", head + "pass 7 tug\n\n", head + "\npass 7 tug\n", head + strings.Repeat("set 7\n", 9), "near 5\n" + manyBooks(4),
		strings.Repeat("a", 1500), strings.Repeat("\n", 1500), strings.Repeat(" ", 1500), strings.Repeat("near ", 300), strings.Repeat("set 7\n", 250), "near 5\n" + strings.Repeat("book a 0 0 0 0\n", 99),
	} {
		expectNoLog(t, s, api.ErrForm)
		if _, ok := logOf(s); ok {
			t.Errorf("by its form %q is a text of a log", s)
		}
	}
	for _, s := range []string{head, head + "pass 7 tug\n", head + "set 7\n", head + "report 7 tug 1\n", head + strings.Repeat("set 7\n", 8), "near 5\n" + manyBooks(3)} {
		expectRead(t, s)
		if _, e := pass.Read(s); e != api.OK {
			t.Errorf("Read of %q = %d", s, e)
		}
	}
}

// manyBooks are lines of books that have different names.
func manyBooks(n int) (s string) {
	for i := range n {
		s += "book " + letter(i) + " 0 0 0 0\n"
	}
	return s
}

// P11.7: texts of as many bytes as there can be, and of more.
func TestReadLong(t *testing.T) {
	for n, want := range map[int]api.Errno{1499: api.ErrForm, 1500: api.ErrForm, 1501: api.ErrLong, 1502: api.ErrLong, 1 << 20: api.ErrLong} {
		for _, b := range []string{"a", "\n", " ", "1"} {
			for _, start := range []string{"", exampleText, "near 5\nbook a 0 0 0 0\nset 1"} {
				expectNoLog(t, start+strings.Repeat(b, n-len(start)), want)
			}
		}
	}
}

// P11.7, P11.16: texts of a log of which a byte is another one, is gone, or is added.
func TestReadBytes(t *testing.T) {
	bytes := []string{"", " ", "\n", "-", "+", "0", "1", "2", "9", "a", "z", "A", ".", "_", "\t", "\r", "\x00", "\xff", "  ", " 0", "0 ", "\n\n"}
	for _, text := range []string{exampleText, "near 0\nbook b 0 1 0 0\nset 0\nreport 1 a 10\nbook a -1 1 -1 1\npass 0 z\n"} {
		for i := range len(text) + 1 {
			for _, b := range bytes {
				expectRead(t, text[:i]+b+text[i:])
				if i < len(text) {
					expectRead(t, text[:i]+b+text[i+1:])
				}
			}
			expectRead(t, text[:i])
			expectRead(t, text[i:])
		}
	}
}

// P11.7, P11.16: texts of a log of which a word is another one, is gone, or is added, and whose lines are in another order.
func TestReadWords(t *testing.T) {
	words := strings.SplitAfter(strings.ReplaceAll(exampleText, "\n", "\n "), " ")
	for i := range words {
		for _, w := range []string{"", "near ", "book ", "pass ", "set ", "report ", "a ", "0 ", "-1 ", "800 ", "99999 ", "\n"} {
			for _, rest := range [][]string{words[i:], words[i+1:]} {
				expectRead(t, strings.ReplaceAll(strings.Join(words[:i], "")+w+strings.Join(rest, ""), "\n ", "\n"))
			}
		}
	}
	lines := []string{"near 5\n", "book a 0 0 0 0\n", "book b 0 0 0 0\n", "pass 1 a\n", "set 2\n", "report 3 b 4\n"}
	good := 0
	var all func(text string, left int)
	all = func(text string, left int) {
		expectRead(t, text)
		if _, ok := logOf(text); ok {
			good++
		}
		if left > 0 {
			for _, l := range lines {
				all(text+l, left-1)
			}
		}
	}
	all("", 5)
	if good < 80 {
		t.Errorf("so many of these were texts of logs: %d", good)
	}
}
