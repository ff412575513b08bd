package land

import (
	"strconv"

	"motu/api"
	"motu/decimal"
	"motu/lines"
)

const (
	noPerson     = "-" // what stands for nobody
	mostDigits   = 4   // the digits of a number at most
	checkModulus = 97
	checkDigits  = 2
	checkWeights = 9 // less than the modulus by so much that the sum tells when a digit was changed
)

func printBook(b api.LandBook) string {
	var w writer
	w.numbers("land", len(b.People), len(b.Events), len(b.Memories))
	for _, p := range b.People {
		w.line("person", relative(p.Mother), relative(p.Adopted))
	}
	for _, x := range b.Events {
		w.numbers("event", x.Strip, x.Holder)
	}
	for _, m := range b.Memories {
		w.numbers("memory", m.From, m.To, m.Years.Low, m.Years.High)
	}
	w.line("end", checkOf(w.text))
	return w.text
}

func relative(person int) string {
	if person == nobody {
		return noPerson
	}
	return strconv.Itoa(person)
}

// checkOf returns the CHECK of the text before the last line.
func checkOf(text string) string {
	sum, count := 0, 0
	for _, letter := range text {
		if '0' <= letter && letter <= '9' {
			sum += int(letter-'0') * (1 + count%checkWeights)
			count++
		}
	}
	return decimal.Padded(sum%checkModulus, checkDigits)
}

type writer struct {
	text string
}

func (w *writer) line(words ...string) { w.text += lines.Of(words...) }

func (w *writer) numbers(word string, numbers ...int) { w.text += lines.Numbered(word, numbers...) }

// noBook is what the reader of a text that is no book panics with.
type noBook struct{}

// readBook returns the book of a text, which may not be as defined, and whether the text is of the form of a book.
func readBook(text string) (b api.LandBook, ok bool) {
	defer func() {
		// Read must not panic, so this holds whatever stopped the reader.
		if recover() != nil {
			b, ok = api.LandBook{}, false
		}
	}()
	r := reader{text: text, rest: text}
	r.lines("land", 1)
	r.lines("person", r.people)
	r.lines("event", r.events)
	r.lines("memory", r.memories)
	r.lines("end", 1)
	if r.rest != "" {
		panic(noBook{})
	}
	return r.book, true
}

// reader reads lines.
type reader struct {
	text     string
	rest     string // of the text, from the line on that is read
	people   int
	events   int
	memories int
	book     api.LandBook
}

func (r *reader) lines(word string, count int) {
	if count < 0 {
		panic(noBook{})
	}
	for range count {
		r.line(word)
	}
}

// line reads a line that must begin with a word.
func (r *reader) line(word string) {
	words, rest, found := lines.Cut(r.rest)
	if !found || words[0] != word {
		panic(noBook{})
	}
	readers := map[string]func(*reader, []string){
		"land":   (*reader).land,
		"person": (*reader).person,
		"event":  (*reader).event,
		"memory": (*reader).memory,
		"end":    (*reader).end,
	}
	readers[words[0]](r, words[1:])
	r.rest = rest
}

func (r *reader) land(words []string) {
	readNumbers(words, &r.people, &r.events, &r.memories)
}

func (r *reader) person(words []string) {
	if len(words) != 2 {
		panic(noBook{})
	}
	r.book.People = append(r.book.People, api.LandPerson{Mother: readRelative(words[0]), Adopted: readRelative(words[1])})
}

func (r *reader) event(words []string) {
	var x api.LandEvent
	readNumbers(words, &x.Strip, &x.Holder)
	r.book.Events = append(r.book.Events, x)
}

func (r *reader) memory(words []string) {
	var m api.LandMemory
	readNumbers(words, &m.From, &m.To, &m.Years.Low, &m.Years.High)
	r.book.Memories = append(r.book.Memories, m)
}

func (r *reader) end(words []string) {
	before := r.text[:len(r.text)-len(r.rest)]
	if len(words) != 1 || words[0] != checkOf(before) {
		panic(noBook{})
	}
}

func readRelative(word string) int {
	if word == noPerson {
		return nobody
	}
	n, ok := decimal.Integer(word, mostDigits)
	if !ok || n == nobody {
		panic(noBook{})
	}
	return n
}

func readNumbers(words []string, numbers ...*int) {
	if !decimal.Integers(words, mostDigits, numbers...) {
		panic(noBook{})
	}
}
