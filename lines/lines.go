// Package lines writes and cuts the lines of logs and books, which layers do in the same way: words with a single blank between two of them, and a line feed at the end.
package lines

import "strings"

const (
	blank = " "
	feed  = "\n"
)

// Of returns the line of some words.
func Of(words ...string) string { return strings.Join(words, blank) + feed }

// Cut returns the words of the first line of a text, and the rest of the text; false if no line feed ends that line.
func Cut(text string) (words []string, rest string, found bool) {
	line, rest, found := strings.Cut(text, feed)
	if !found {
		return nil, "", false
	}
	return strings.Split(line, blank), rest, true
}
