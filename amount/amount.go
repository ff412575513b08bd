// Package amount sums amounts and takes parts of them, which layers do in the same way.
package amount

// Whole is what rates are parts of.
const Whole = 1000

// Part returns a part of an amount, rounded down. The product may need more bits than an int has everywhere.
func Part(amount, rate int) int { return int(int64(amount) * int64(rate) / Whole) }

// Sum returns the sum of amounts.
func Sum(amounts ...int) int {
	sum := 0
	for _, n := range amounts {
		sum += n
	}
	return sum
}
