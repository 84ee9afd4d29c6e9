package store

import (
	"nore/api"
	"nore/chart"
)

// Check returns the part, the index in it and the error of stores.
func Check(s api.SrStores) (part, at int, e api.Errno) {
	parts := [...]func(api.SrStores) (int, api.Errno){checkDays, checkKinds, checkCargos}
	for i, check := range parts {
		if at, e := check(s); e != api.OK {
			return i + 1, at, e
		}
	}
	return 0, 0, api.OK
}

// firstError returns the index and the error of the first element with one.
func firstError[T any](l []T, check func(T) api.Errno) (int, api.Errno) {
	for i, x := range l {
		if e := check(x); e != api.OK {
			return i, e
		}
	}
	return 0, api.OK
}

// checkDays returns the error of how much there is of all, or the first day with an error.
func checkDays(s api.SrStores) (int, api.Errno) {
	if !within(1, api.MaxSrDays, len(s.Men)) || !within(1, api.MaxSrKinds, len(s.Kinds)) || len(s.Cargos) > api.MaxSrCargos {
		return 0, api.ErrLong
	}
	return firstError(s.Men, func(men int) api.Errno {
		if !within(0, api.MaxSrMen, men) {
			return api.ErrRange
		}
		return api.OK
	})
}

// checkKinds returns the first kind with an error.
func checkKinds(s api.SrStores) (int, api.Errno) {
	names := map[string]bool{}
	return firstError(s.Kinds, func(k api.SrKind) api.Errno {
		if !chart.Name(k.Name) {
			return api.ErrForm
		}
		if names[k.Name] {
			return api.ErrTwice
		}
		names[k.Name] = true
		return checkNumbers(k)
	})
}

// checkNumbers returns the error of the numbers of a kind.
func checkNumbers(k api.SrKind) api.Errno {
	switch {
	case !within(0, api.MaxSrStore, k.First.Lo, k.First.Hi, k.Room),
		!within(0, api.MaxSrMan, k.Man.Lo, k.Man.Hi),
		!within(0, api.MaxSrShip, k.Ship.Lo, k.Ship.Hi),
		!within(0, api.All, k.Ration):
		return api.ErrRange
	case k.First.Lo > k.First.Hi, k.Man.Lo > k.Man.Hi, k.Ship.Lo > k.Ship.Hi:
		return api.ErrArg
	}
	return api.OK
}

// checkCargos returns the first cargo with an error.
func checkCargos(s api.SrStores) (int, api.Errno) {
	return firstError(s.Cargos, func(c api.SrCargo) api.Errno {
		switch {
		case !within(0, len(s.Kinds)-1, c.Kind):
			return api.ErrNone
		case !within(0, len(s.Men)-1, c.Day), !within(0, api.MaxSrStore, c.Amount):
			return api.ErrRange
		}
		return api.OK
	})
}

// checkCounts returns the error of counts of stores.
func checkCounts(s api.SrStores, l []api.SrCount) api.Errno {
	if len(l) > api.MaxSrCounts {
		return api.ErrLong
	}
	_, e := firstError(l, func(c api.SrCount) api.Errno {
		switch {
		case !within(0, len(s.Kinds)-1, c.Kind):
			return api.ErrNone
		case !within(0, len(s.Men), c.Day), !within(0, 2*api.MaxSrStore, c.Amount.Lo, c.Amount.Hi):
			return api.ErrRange
		case c.Amount.Lo > c.Amount.Hi:
			return api.ErrArg
		}
		return api.OK
	})
	return e
}

// checkAll returns the error of stores, and then that of counts of them.
func checkAll(s api.SrStores, l []api.SrCount) api.Errno {
	if _, _, e := Check(s); e != api.OK {
		return e
	}
	return checkCounts(s, l)
}

// examine returns the stock of a kind and the truths that decide whether it lasts, or the first error; ErrRange if what else is asked for is not in range.
func examine(s api.SrStores, l []api.SrCount, kind int, inRange ...func() bool) (*stock, []api.SrTruth, api.Errno) {
	if e := checkAll(s, l); e != api.OK {
		return nil, nil, e
	}
	if !within(0, len(s.Kinds)-1, kind) {
		return nil, nil, api.ErrNone
	}
	for _, is := range inRange {
		if !is() {
			return nil, nil, api.ErrRange
		}
	}
	k := newStock(s, l, kind)
	truths := k.leasts()
	if len(truths) == 0 {
		return nil, nil, api.ErrDown
	}
	return k, truths, api.OK
}

// within reports whether all numbers are from lo to hi.
func within(lo, hi int, numbers ...int) bool {
	for _, n := range numbers {
		if n < lo || n > hi {
			return false
		}
	}
	return true
}
