package lens

import (
	"motu/api"
	"motu/bounds"
	"motu/lines"
	"motu/lists"
	"motu/rows"
)

const checkLetters = 26

func checkEntries(l []api.LensEntry) api.Errno {
	if len(l) > api.LensEntries {
		return api.ErrLong
	}
	for _, x := range l {
		if !bounds.In(x.Month, 0, 99) || !bounds.In(x.Well, 0, 99) || !bounds.In(x.Salt, 0, 9999) || !bounds.In(x.Depth, 0, 9999) {
			return api.ErrArg
		}
	}
	return api.OK
}

// logs returns the kind of text that well logs are. The modulus is a prime, so that the CHECK tells when a digit was changed.
func logs() rows.Kind { return rows.Kind{Numbers: 4, Digits: 4, Modulus: 673, End: endLine} }

// endLine returns the last line of a log with some CHECK.
func endLine(_, check int) string {
	return lines.Of("end", letter(check/checkLetters)+letter(check%checkLetters))
}

func letter(n int) string { return string(rune('a' + n)) }

func printLog(l []api.LensEntry) string { return logs().Print(lists.Each(l, rowOf)) }

func rowOf(x api.LensEntry) []int { return []int{x.Month, x.Well, x.Salt, x.Depth} }

// readLog returns the entries of a text, which may be too many or not as defined, and whether it is of the form of a log.
func readLog(text string) ([]api.LensEntry, bool) {
	all, ok := logs().Read(text)
	return lists.Each(all, entryOf), ok
}

func entryOf(row []int) api.LensEntry {
	return api.LensEntry{Month: row[0], Well: row[1], Salt: row[2], Depth: row[3]}
}
