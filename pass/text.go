package pass

import (
	"strconv"
	"strings"

	"nore/api"
)

// The first words of lines.
const (
	wordNear   = "near"
	wordBook   = "book"
	wordPass   = "pass"
	wordSet    = "set"
	wordReport = "report"
)

// Write returns the text of a log.
func Write(l api.PaLog) (string, api.Errno) {
	if _, _, e := Check(l); e != api.OK {
		return "", e
	}
	text := line(wordNear, strconv.Itoa(l.Near))
	for _, b := range l.Books {
		text += line(wordBook, b.Name, spanText(b.Off), spanText(b.Set))
		for _, x := range b.Entries {
			text += tell(x).text()
		}
	}
	return text, api.OK
}

// line returns a line of words.
func line(words ...string) string { return strings.Join(words, " ") + "\n" }

func spanText(s api.Span) string { return strconv.Itoa(s.Lo) + " " + strconv.Itoa(s.Hi) }

// Read returns the log of a text.
func Read(text string) (api.PaLog, api.Errno) {
	if len(text) > api.MaxPaText {
		return api.PaLog{}, api.ErrLong
	}
	l, e := tryRead(text)
	if e != api.OK {
		return api.PaLog{}, e
	}
	// The reader takes more than one text for the same log; just the one that is written counts, and none is of a log with an error.
	if written, e := Write(l); e != api.OK || written != text {
		return api.PaLog{}, api.ErrForm
	}
	return l, api.OK
}

// tryRead returns what read does, and an error where that panics.
func tryRead(text string) (l api.PaLog, e api.Errno) {
	defer func() {
		if recover() != nil {
			l, e = api.PaLog{}, api.ErrForm
		}
	}()
	return read(text), api.OK
}

// read returns the log of a text, or panics if words are missing or wrong.
func read(text string) api.PaLog {
	var l api.PaLog
	for s := range strings.Lines(text) {
		r := reader{strings.Split(strings.TrimSuffix(s, "\n"), " ")}
		switch word := r.word(); word {
		case wordNear:
			l.Near = r.number()
		case wordBook:
			l.Books = append(l.Books, r.book())
		default:
			if len(l.Books) == 0 {
				panic(api.ErrForm)
			}
			b := &l.Books[len(l.Books)-1]
			b.Entries = append(b.Entries, r.entry(word))
		}
	}
	return l
}

// reader has the words of a line that are still to be read. It panics where the next one is missing or wrong.
type reader struct{ words []string }

func (r *reader) word() string {
	if len(r.words) == 0 {
		panic(api.ErrForm)
	}
	w := r.words[0]
	r.words = r.words[1:]
	return w
}

// name returns a copy of the next word, so that no log shares memory with a text.
func (r *reader) name() string { return strings.Clone(r.word()) }

func (r *reader) number() int {
	n, err := strconv.Atoi(r.word())
	if err != nil {
		panic(api.ErrForm)
	}
	return n
}

func (r *reader) span() api.Span {
	lo := r.number()
	hi := r.number()
	return api.Span{Lo: lo, Hi: hi}
}

func (r *reader) book() api.PaBook {
	var b api.PaBook
	b.Name = r.name()
	b.Off = r.span()
	b.Set = r.span()
	return b
}

// entry returns the entry whose first word has been read.
func (r *reader) entry(word string) api.PaEntry {
	x := api.PaEntry{Shown: r.number()}
	switch word {
	case wordPass:
		x.Kind = api.PaPass
		x.Word = r.name()
	case wordSet:
		x.Kind = api.PaSet
	case wordReport:
		x.Kind = api.PaReport
		x.Word = r.name()
		x.Number = r.number()
	default:
		panic(api.ErrForm)
	}
	return x
}
