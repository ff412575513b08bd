// Package rows writes and reads texts that are rows of numbers, as many in each, and a last line with a CHECK of all of them; which layers do in the same way: for well logs, for licence books.
package rows

import (
	"slices"
	"strconv"

	"motu/decimal"
	"motu/lines"
	"motu/lists"
)

// Kind is what texts of one kind have in common.
type Kind struct {
	Numbers int                          // the numbers of a row
	Digits  int                          // the digits of a number at most
	Modulus int                          // of the CHECK
	End     func(rows, check int) string // the last line
}

// Print returns the text of some rows.
func (k Kind) Print(rows [][]int) string {
	text := ""
	for _, row := range rows {
		text += line(row...)
	}
	return text + k.end(rows)
}

func line(numbers ...int) string { return lines.Of(lists.Each(numbers, strconv.Itoa)...) }

func (k Kind) end(rows [][]int) string {
	return k.End(len(rows), k.check(slices.Concat(rows...)...))
}

// check returns the rest of the sum of numbers, each times its place among them, which is less than the modulus at any time, so that an int has enough bits everywhere.
func (k Kind) check(numbers ...int) int {
	sum := 0
	for before, n := range numbers {
		sum = (sum + (before+1)*(n%k.Modulus)) % k.Modulus
	}
	return sum
}

// noRows is what the reader of a text that is not of its kind panics with.
type noRows struct{}

// Read returns the rows of a text, and whether it is of this kind.
func (k Kind) Read(text string) (rows [][]int, ok bool) {
	defer func() {
		// The functions that read texts must not panic, so this holds whatever stopped the reader.
		if recover() != nil {
			rows, ok = nil, false
		}
	}()
	for text != k.end(rows) {
		var row []int
		row, text = k.cut(text)
		rows = append(rows, row)
	}
	return rows, true
}

// cut returns the row of the first line, and the rest of a text.
func (k Kind) cut(text string) ([]int, string) {
	words, rest, found := lines.Cut(text)
	if !found || len(words) != k.Numbers {
		panic(noRows{})
	}
	return lists.Each(words, k.number), rest
}

func (k Kind) number(word string) int {
	n, ok := decimal.Natural(word, k.Digits)
	if !ok {
		panic(noRows{})
	}
	return n
}
