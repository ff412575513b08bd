package council

import (
	"strconv"
	"strings"

	"motu/api"
	"motu/lines"
	"motu/lists"
)

// noIndex stands for no line of a journal.
const noIndex = -1

// What a console returns for an act that was done, and for a line with an error.
const (
	okWord    = "ok"
	errorWord = "error"
)

func isLong(line string) bool { return len(line) > api.CouncilLine }

// answer returns the text of the numbers that a question was answered with.
func answer(numbers []int, e api.Errno) (string, api.Errno) {
	if e != api.OK {
		return "", e
	}
	return lines.Join(lists.Each(numbers, strconv.Itoa)...), api.OK
}

// openFor opens an atoll for a text of lines.
func openFor(a api.CouncilAtoll, text string) (*Council, api.Errno) {
	if len(text) > api.CouncilText {
		return nil, api.ErrLong
	}
	return Open(a)
}

// replay does all lines of a journal up to the first one that has an error, and returns its index.
func (c *Council) replay(journal string) (int, api.Errno) {
	index, e := 0, api.OK
search:
	for line, isEnded := range lines.All(journal) {
		e = c.again(line, isEnded)
		switch e {
		case api.OK:
			index++
		default:
			break search
		}
	}
	return index, e
}

// again does a line of a journal.
func (c *Council) again(line string, isEnded bool) api.Errno {
	if isEnded && isLong(line) {
		return api.ErrLong
	}
	a, ok := readAct(line)
	if !ok || !isEnded {
		return api.ErrText
	}
	return c.perform(a)
}

// run does all lines of a script, and returns what a console returns for them.
func (c *Council) run(script string) string {
	var returned strings.Builder
	for line := range lines.All(script) {
		if line != "" {
			returned.WriteString(c.returned(line))
		}
	}
	return returned.String()
}

// returned does a line of a script, and returns the line that a console returns for it.
func (c *Council) returned(line string) string {
	text, e := c.Do(line)
	switch {
	case e != api.OK:
		return lines.Numbered(errorWord, int(e))
	case text == "":
		return lines.Of(okWord)
	default:
		return lines.Of(text)
	}
}
