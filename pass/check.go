package pass

import (
	"nore/api"
	"nore/chart"
)

// Check returns the part, the index in it and the error of a log.
func Check(l api.PaLog) (part, at int, e api.Errno) {
	switch {
	case !within(0, api.MaxPaNear, l.Near):
		return 0, 0, api.ErrRange
	case !within(1, api.MaxPaBooks, len(l.Books)):
		return 0, 0, api.ErrLong
	}
	names := map[string]bool{}
	for i, b := range l.Books {
		if e := checkBook(b, names); e != api.OK {
			return i + 1, 0, e
		}
		if at, e := checkEntries(b.Entries); e != api.OK {
			return i + 1, at, e
		}
		names[b.Name] = true
	}
	return 0, 0, api.OK
}

// checkBook returns the error of a book without that of its entries; books before it have the names.
func checkBook(b api.PaBook, names map[string]bool) api.Errno {
	switch {
	case !chart.Name(b.Name):
		return api.ErrForm
	case names[b.Name]:
		return api.ErrTwice
	case !within(-api.MaxPaOff, api.MaxPaOff, b.Off.Lo, b.Off.Hi, b.Set.Lo, b.Set.Hi):
		return api.ErrRange
	case b.Off.Lo > b.Off.Hi, b.Set.Lo > b.Set.Hi:
		return api.ErrArg
	case len(b.Entries) > api.MaxPaEntries:
		return api.ErrLong
	}
	return api.OK
}

// checkEntries returns the index and the error of the first entry with one.
func checkEntries(l []api.PaEntry) (int, api.Errno) {
	for i, x := range l {
		if e := checkEntry(x); e != api.OK {
			return i, e
		}
	}
	return 0, api.OK
}

// checkEntry returns the error of an entry.
func checkEntry(x api.PaEntry) api.Errno {
	if !within(0, api.MaxPaShown, x.Shown) {
		return api.ErrRange
	}
	hasForm := false
	switch entry := tell(x).(type) {
	case passing:
		hasForm = chart.Name(entry.Word) && entry.Number == 0
	case setting:
		hasForm = entry.Word == "" && entry.Number == 0
	case reporting:
		hasForm = chart.Name(entry.Word) && within(1, api.MaxPaNumber, entry.Number)
	default:
		return api.ErrNone
	}
	if !hasForm {
		return api.ErrForm
	}
	return api.OK
}

// examine returns a log that is looked at, or its error, or that of entries that are asked for.
func examine(l api.PaLog, entries ...api.PaAt) (*books, api.Errno) {
	if _, _, e := Check(l); e != api.OK {
		return nil, e
	}
	for _, x := range entries {
		if !within(0, len(l.Books)-1, x.Book) || !within(0, len(l.Books[x.Book].Entries)-1, x.Entry) {
			return nil, api.ErrNone
		}
	}
	return open(l), api.OK
}

// within reports whether all numbers are from lo to hi.
func within(lo, hi int, numbers ...int) bool {
	for _, n := range numbers {
		if n < lo || n > hi {
			return false
		}
	}
	return true
}
