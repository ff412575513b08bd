package council

import (
	"strings"

	"motu/decimal"
	"motu/lines"
	"motu/lists"
)

// The words of acts.
const (
	tankWord    = "tank"
	tellWord    = "tell"
	closeWord   = "close"
	reopenWord  = "reopen"
	guardWord   = "guard"
	freeWord    = "free"
	loadWord    = "load"
	unloadWord  = "unload"
	panelWord   = "panel"
	batteryWord = "battery"
	bidWord     = "bid"
	awardWord   = "award"
	reportWord  = "report"
)

// mostDigits is how many digits a number has at most.
const mostDigits = 9

// journal returns the lines of some acts.
func journal(done []act) string { return strings.Join(lists.Each(done, lineOf), "") }

// lineOf returns the line of an act, with a line feed at its end.
func lineOf(a act) string {
	switch a := a.(type) {
	case tankAct:
		return lines.Numbered(tankWord)
	case tellAct:
		return lines.Numbered(tellWord, a.From, a.To, a.Years.Low, a.Years.High)
	case closeAct:
		return lines.Numbered(closeWord, a.place, a.season)
	case reopenAct:
		return lines.Numbered(reopenWord, a.place, a.season)
	case guardAct:
		return lines.Numbered(guardWord, a.trip)
	case freeAct:
		return lines.Numbered(freeWord, a.trip)
	case loadAct:
		return lines.Numbered(loadWord, a.lot)
	case unloadAct:
		return lines.Numbered(unloadWord, a.lot)
	case panelAct:
		return lines.Numbered(panelWord)
	case batteryAct:
		return lines.Numbered(batteryWord)
	case bidAct:
		return lines.Numbered(bidWord, a.Fleet, a.Zone, a.From, a.Days, a.Price)
	case awardAct:
		return lines.Numbered(awardWord)
	case reportAct:
		return lines.Numbered(reportWord, a.Day, a.Cells)
	}
	return ""
}

// noLine is what the reader of a line panics with that is not of some kind.
type noLine struct{}

// read returns what a line says, which is one of some kinds of lines that are found by their words; false if it is none of them.
func read[T any](kinds map[string]func(reader) T, line string) (said T, ok bool) {
	defer func() {
		// Functions that do lines must not panic, so this holds whatever stopped the reader.
		if recover() != nil {
			var nothing T
			said, ok = nothing, false
		}
	}()
	words := lines.Words(line)
	kind, found := kinds[words[0]]
	if !found {
		panic(noLine{})
	}
	return kind(reader{words: words[1:]}), true
}

// readAct returns the act of a line; false if it is no line of one.
func readAct(line string) (act, bool) {
	return read(map[string]func(reader) act{
		tankWord:    reader.tank,
		tellWord:    reader.tell,
		closeWord:   reader.close,
		reopenWord:  reader.reopen,
		guardWord:   reader.guard,
		freeWord:    reader.free,
		loadWord:    reader.load,
		unloadWord:  reader.unload,
		panelWord:   reader.panel,
		batteryWord: reader.battery,
		bidWord:     reader.bid,
		awardWord:   reader.award,
		reportWord:  reader.report,
	}, line)
}

// reader reads the words after the first one of a line.
type reader struct{ words []string }

// numbers reads all of them, and gives up if they are not as many numbers.
func (r reader) numbers(numbers ...*int) {
	if !decimal.Integers(r.words, mostDigits, numbers...) {
		panic(noLine{})
	}
}

func (r reader) number() (n int) {
	r.numbers(&n)
	return n
}

func (r reader) closure() (x closure) {
	r.numbers(&x.place, &x.season)
	return x
}

func (r reader) tank() act {
	r.numbers()
	return tankAct{}
}

func (r reader) tell() act {
	var a tellAct
	r.numbers(&a.From, &a.To, &a.Years.Low, &a.Years.High)
	return a
}

func (r reader) close() act  { return closeAct{r.closure()} }
func (r reader) reopen() act { return reopenAct{r.closure()} }
func (r reader) guard() act  { return guardAct{guard{trip: r.number()}} }
func (r reader) free() act   { return freeAct{guard{trip: r.number()}} }
func (r reader) load() act   { return loadAct{freight{lot: r.number()}} }
func (r reader) unload() act { return unloadAct{freight{lot: r.number()}} }

func (r reader) panel() act {
	r.numbers()
	return panelAct{}
}

func (r reader) battery() act {
	r.numbers()
	return batteryAct{}
}

func (r reader) bid() act {
	var a bidAct
	r.numbers(&a.Fleet, &a.Zone, &a.From, &a.Days, &a.Price)
	return a
}

func (r reader) award() act {
	r.numbers()
	return awardAct{}
}

func (r reader) report() act {
	var a reportAct
	r.numbers(&a.Day, &a.Cells)
	return a
}
