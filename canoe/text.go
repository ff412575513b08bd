package canoe

import (
	"strconv"

	"motu/api"
	"motu/decimal"
	"motu/lines"
)

const (
	endWord      = "end"
	endWords     = 3
	hourWords    = 2
	noStar       = "-" // what stands for a star path that was not seen
	mostDigits   = 2   // the digits of a number at most
	courseWeight = 7
	starWeight   = 3
	checkModulus = 89 // a prime, so that the sum tells when a digit was changed
	checkDigits  = 2
)

func printLog(log []api.CanoeHour) string {
	text := ""
	for _, hour := range log {
		text += lines.Of(strconv.Itoa(hour.Course), starWord(hour.Star))
	}
	return text + lines.Of(endWord, strconv.Itoa(len(log)), checkOf(log))
}

func starWord(star int) string {
	if star == unseen {
		return noStar
	}
	return strconv.Itoa(star)
}

// checkOf returns the CHECK of a log.
func checkOf(log []api.CanoeHour) string {
	sum := 0
	for k, hour := range log {
		worth := courseWeight * hour.Course
		if hour.Star != unseen {
			worth += starWeight * hour.Star
		}
		sum += (k + 1) * worth
	}
	return decimal.Padded(sum%checkModulus, checkDigits)
}

// noLog is what the reader of a text that is no log panics with.
type noLog struct{}

// readLog returns the log of a text, which may be too long or not as defined, and whether the text is of the form of a log.
func readLog(text string) (log []api.CanoeHour, ok bool) {
	defer func() {
		// Read must not panic, so this holds whatever stopped the reader.
		if recover() != nil {
			log, ok = nil, false
		}
	}()
	r := reader{rest: text}
	for {
		words := r.line()
		if words[0] == endWord {
			r.end(words)
			return r.log, true
		}
		r.hour(words)
	}
}

// reader reads lines.
type reader struct {
	rest string // of the text, from the line on that is read next
	log  []api.CanoeHour
}

func (r *reader) line() []string {
	words, rest, found := lines.Cut(r.rest)
	must(found)
	r.rest = rest
	return words
}

func (r *reader) hour(words []string) {
	must(len(words) == hourWords)
	r.log = append(r.log, api.CanoeHour{Course: number(words[0]), Star: readStar(words[1])})
}

func (r *reader) end(words []string) {
	must(len(words) == endWords && number(words[1]) == len(r.log) && words[2] == checkOf(r.log) && r.rest == "")
}

func readStar(word string) int {
	if word == noStar {
		return unseen
	}
	return number(word)
}

func number(word string) int {
	n, ok := decimal.Natural(word, mostDigits)
	must(ok)
	return n
}

// must gives up if what must hold does not.
func must(holds bool) {
	if !holds {
		panic(noLog{})
	}
}
