// Package lens is layer 1: the fresh water of an islet, which floats on salt water. It follows the water month by month, tells what is known of it in all droughts that are possible, what goes wrong first, and how many tanks suffice; and it writes and reads well logs.
package lens

import "motu/api"

// Check returns ErrArg for an islet that is not as defined, or OK.
func Check(i api.LensIslet) api.Errno {
	if !isIslet(i) {
		return api.ErrArg
	}
	return api.OK
}

// Play returns the end of each month in truth, and the ledger.
func Play(i api.LensIslet, tanks int, t api.LensTruth) ([]api.LensSeen, api.LensLedger, api.Errno) {
	if !isIslet(i) || !areTanks(tanks) || !isTruth(i, t) {
		return nil, api.LensLedger{}, api.ErrArg
	}
	ends, ledger := follow(i, tanks, t)
	return ends, ledger, api.OK
}

// Known returns what is known of each month.
func Known(i api.LensIslet, tanks int) ([]api.LensKnown, api.Errno) {
	if !isIslet(i) || !areTanks(tanks) {
		return nil, api.ErrArg
	}
	return known(i, tanks), api.OK
}

// Fault returns the first fault with some number of tanks, or LensFine.
func Fault(i api.LensIslet, tanks int) (api.LensFault, api.Errno) {
	if !isIslet(i) || !areTanks(tanks) {
		return api.LensFault{}, api.ErrArg
	}
	return firstFault(i, tanks), api.OK
}

// Fewest returns the fewest tanks with which nothing can go wrong; ErrNone if something can with any number of them.
func Fewest(i api.LensIslet) (int, api.Errno) {
	if !isIslet(i) {
		return 0, api.ErrArg
	}
	tanks, ok := fewest(i)
	if !ok {
		return 0, api.ErrNone
	}
	return tanks, api.OK
}

// Print returns the text of a well log.
func Print(l []api.LensEntry) (string, api.Errno) {
	if e := checkEntries(l); e != api.OK {
		return "", e
	}
	return printLog(l), api.OK
}

// Read returns the entries of the text of a well log.
func Read(text string) ([]api.LensEntry, api.Errno) {
	if len(text) > api.LensText {
		return nil, api.ErrLong
	}
	l, ok := readLog(text)
	if !ok {
		return nil, api.ErrText
	}
	if e := checkEntries(l); e != api.OK {
		return nil, e
	}
	return l, api.OK
}
