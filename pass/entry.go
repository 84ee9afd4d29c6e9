package pass

import (
	"strconv"

	"nore/api"
)

// told is an entry as what it is.
type told interface {
	// text returns its line in the text of a log.
	text() string
}

// passing is the entry of a ship that passed, setting that of a clock that was set anew, and reporting that of a report.
type (
	passing   struct{ api.PaEntry }
	setting   struct{ api.PaEntry }
	reporting struct{ api.PaEntry }
)

// tell returns an entry as what it is; nil if that is none of the kinds.
func tell(x api.PaEntry) told {
	switch x.Kind {
	case api.PaPass:
		return passing{x}
	case api.PaSet:
		return setting{x}
	case api.PaReport:
		return reporting{x}
	}
	return nil
}

func (x passing) text() string { return line(wordPass, strconv.Itoa(x.Shown), x.Word) }

func (x setting) text() string { return line(wordSet, strconv.Itoa(x.Shown)) }

func (x reporting) text() string {
	return line(wordReport, strconv.Itoa(x.Shown), x.Word, strconv.Itoa(x.Number))
}
