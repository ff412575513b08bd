// Package decimal reads the numbers of logs, books and journals, which layers write in the same way: decimal, and without leading zeros, but for those of a CHECK.
package decimal

import (
	"strconv"
	"strings"
)

// Natural returns the number of a word of at most some digits (no more than 9), without a sign; false if the word is none.
func Natural(word string, digits int) (int, bool) {
	if word == "" || len(word) > digits || len(word) > 1 && word[0] == '0' {
		return 0, false
	}
	n := 0
	for _, digit := range word {
		if digit < '0' || digit > '9' {
			return 0, false
		}
		n = 10*n + int(digit-'0')
	}
	return n, true
}

// Integer returns the number of such a word, with a - in front if the number is less than 0.
func Integer(word string, digits int) (int, bool) {
	size, negative := strings.CutPrefix(word, "-")
	n, ok := Natural(size, digits)
	if !negative {
		return n, ok
	}
	return -n, n > 0
}

// Integers reads the numbers of such words into as many variables; false if there are more of the ones than of the others, or a word is none.
func Integers(words []string, digits int, numbers ...*int) bool {
	if len(words) != len(numbers) {
		return false
	}
	for k, word := range words {
		n, ok := Integer(word, digits)
		if !ok {
			return false
		}
		*numbers[k] = n
	}
	return true
}

// Padded returns the word of a number from 0 on, with zeros in front of it where it has less than some digits.
func Padded(n, digits int) string {
	word := strconv.Itoa(n)
	return strings.Repeat("0", max(0, digits-len(word))) + word
}
