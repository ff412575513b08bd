// Package lines writes and cuts the lines of logs, books and journals, which layers do in the same way: words with a single blank between two of them, and a line feed at the end.
package lines

import (
	"iter"
	"strconv"
	"strings"

	"motu/lists"
)

const (
	blank = " "
	feed  = "\n"
)

// Of returns the line of some words.
func Of(words ...string) string { return Join(words...) + feed }

// Numbered returns the line of a word and some numbers.
func Numbered(word string, numbers ...int) string {
	return Of(append([]string{word}, lists.Each(numbers, strconv.Itoa)...)...)
}

// Join returns the line of some words without its line feed.
func Join(words ...string) string { return strings.Join(words, blank) }

// Words returns the words of a line without its line feed.
func Words(line string) []string { return strings.Split(line, blank) }

// Cut returns the words of the first line of a text, and the rest of the text; false if no line feed ends that line.
func Cut(text string) (words []string, rest string, found bool) {
	line, rest, found := strings.Cut(text, feed)
	if !found {
		return nil, "", false
	}
	return Words(line), rest, true
}

// All yields the lines of a text without their line feeds, and whether a line feed ends them. What is after the last line feed is a line, too, if there is anything.
func All(text string) iter.Seq2[string, bool] {
	return func(yield func(string, bool) bool) {
		for rest := text; rest != ""; {
			line, after, isEnded := strings.Cut(rest, feed)
			if !yield(line, isEnded) {
				return
			}
			rest = after
		}
	}
}
