package lens

import (
	"strconv"

	"motu/api"
	"motu/bounds"
	"motu/decimal"
	"motu/lines"
)

const (
	entryNumbers = 4   // the numbers of an entry
	entryDigits  = 4   // the digits of a number at most
	checkModulus = 673 // a prime, so that the sum tells when a digit was changed
	checkLetters = 26
)

func checkEntries(l []api.LensEntry) api.Errno {
	if len(l) > api.LensEntries {
		return api.ErrLong
	}
	for _, x := range l {
		if !bounds.In(x.Month, 0, 99) || !bounds.In(x.Well, 0, 99) || !bounds.In(x.Salt, 0, 9999) || !bounds.In(x.Depth, 0, 9999) {
			return api.ErrArg
		}
	}
	return api.OK
}

func printLog(l []api.LensEntry) string {
	var w writer
	for _, x := range l {
		w.line(x.Month, x.Well, x.Salt, x.Depth)
	}
	return w.text + endLine(w.numbers)
}

// writer writes lines, and keeps their numbers for the end line.
type writer struct {
	text    string
	numbers []int
}

func (w *writer) line(numbers ...int) {
	words := make([]string, len(numbers))
	for k, n := range numbers {
		words[k] = strconv.Itoa(n)
	}
	w.text += lines.Of(words...)
	w.numbers = append(w.numbers, numbers...)
}

// endLine returns the last line of a log with some numbers.
func endLine(numbers []int) string {
	sum := 0
	for k, n := range numbers {
		sum = (sum + (k+1)*n) % checkModulus
	}
	return lines.Of("end", letter(sum/checkLetters)+letter(sum%checkLetters))
}

func letter(n int) string { return string(rune('a' + n)) }

// noLog is what the reader of a text that is no log panics with.
type noLog struct{}

// readLog returns the entries of a text, which may be too many or not as defined, and whether it is of the form of a log.
func readLog(text string) (l []api.LensEntry, ok bool) {
	defer func() {
		// Read must not panic, so this holds whatever stopped the reader.
		if recover() != nil {
			l, ok = nil, false
		}
	}()
	r := reader{rest: text}
	for r.rest != endLine(r.numbers) {
		l = append(l, r.entry())
	}
	return l, true
}

// reader reads lines, and keeps their numbers for the end line.
type reader struct {
	rest    string
	numbers []int
}

func (r *reader) entry() api.LensEntry {
	words, rest, found := lines.Cut(r.rest)
	if !found || len(words) != entryNumbers {
		panic(noLog{})
	}
	r.rest = rest
	var n [entryNumbers]int
	for k, word := range words {
		n[k] = number(word)
	}
	r.numbers = append(r.numbers, n[:]...)
	return api.LensEntry{Month: n[0], Well: n[1], Salt: n[2], Depth: n[3]}
}

func number(word string) int {
	n, ok := decimal.Natural(word, entryDigits)
	if !ok {
		panic(noLog{})
	}
	return n
}
