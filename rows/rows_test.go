package rows_test

import (
	"math/rand"
	"slices"
	"strconv"
	"strings"
	"testing"

	"motu/rows"
)

// tides returns a kind of texts of two numbers a row, of at most three digits, with a CHECK modulo 11.
func tides() rows.Kind {
	return rows.Kind{Numbers: 2, Digits: 3, Modulus: 11, End: func(rows, check int) string {
		return "tides " + strconv.Itoa(rows) + " " + strconv.Itoa(check) + "\n"
	}}
}

func same(a, b [][]int) bool { return slices.EqualFunc(a, b, slices.Equal) }

// Each text is that of its rows, and its rows are those of the text.
func TestTexts(t *testing.T) {
	for _, x := range []struct {
		rows [][]int
		text string
	}{
		{nil, "tides 0 0\n"},
		{[][]int{{0, 0}}, "0 0\ntides 1 0\n"},
		{[][]int{{1, 0}}, "1 0\ntides 1 1\n"},
		{[][]int{{0, 1}}, "0 1\ntides 1 2\n"},
		{[][]int{{10, 0}, {0, 0}}, "10 0\n0 0\ntides 2 10\n"},
		{[][]int{{11, 0}, {0, 0}}, "11 0\n0 0\ntides 2 0\n"},
		// 1, 4, 9 and 16 are 30
		{[][]int{{1, 2}, {3, 4}}, "1 2\n3 4\ntides 2 8\n"},
		// three times 999 and four times 1 are 3001
		{[][]int{{0, 0}, {999, 1}}, "0 0\n999 1\ntides 2 9\n"},
	} {
		if text := tides().Print(x.rows); text != x.text {
			t.Errorf("%v: %q", x.rows, text)
		}
		if all, ok := tides().Read(x.text); !ok || !same(all, x.rows) {
			t.Errorf("%q: %v %v", x.text, all, ok)
		}
	}
}

// A text that is not of the kind has no rows.
func TestNoTexts(t *testing.T) {
	for _, text := range []string{
		"", "\n", "tides 0 0", "tides 0 0\n\n", "\ntides 0 0\n", "tides 0 0\ntides 0 0\n", "tides 0 1\n", "tides 1 0\n", "tides 0\n", "Tides 0 0\n", "tides  0 0\n", "tides 0 0 \n", "tides 0 00\n", "tides 00 0\n", "tides 0 0\r\n",
		"0 0\n", "0 0\ntides 2 0\n", "0 0\ntides 0 0\n", "0 0\ntides 1 1\n", "0 0\ntides 1 0\n0 0\n", "0 0\ntides 1 11\n",
		"0\ntides 1 0\n", "0 0 0\ntides 1 0\n", "0 0 \ntides 1 0\n", " 0 0\ntides 1 0\n", "0  0\ntides 1 0\n", "0 0\n\ntides 1 0\n", "0\t0\ntides 1 0\n",
		"1000 0\ntides 1 10\n", "01 0\ntides 1 1\n", "-1 0\ntides 1 10\n", "+1 0\ntides 1 1\n", "a 0\ntides 1 0\n", "- 0\ntides 1 0\n", "0 \xff\ntides 1 0\n", "0 \x00\ntides 1 0\n", "0 \u0661\ntides 1 2\n",
	} {
		if all, ok := tides().Read(text); ok || len(all) != 0 {
			t.Errorf("%q: %v %v", text, all, ok)
		}
	}
}

// Numbers that are as great as an int are summed, too.
func TestGreatNumbers(t *testing.T) {
	k := tides()
	k.Digits = 9
	all := slices.Repeat([][]int{{999999999, 999999999}}, 500)
	text := k.Print(all)
	// the numbers from 1 to 1000 are 500500, which is 0 modulo 11
	if !strings.HasSuffix(text, "\ntides 500 0\n") {
		t.Error(text[len(text)-30:])
	}
	all[0] = []int{999999998, 999999999}
	if text := k.Print(all); !strings.HasSuffix(text, "\ntides 500 10\n") {
		t.Error(text[len(text)-30:])
	}
	if back, ok := k.Read(k.Print(all)); !ok || !same(back, all) {
		t.Error(len(back), ok)
	}
}

// What was written is read as what was written, in rows that share no memory.
func TestRandom(t *testing.T) {
	r := rand.New(rand.NewSource(127))
	for range 2000 {
		k := rows.Kind{Numbers: 1 + r.Intn(4), Digits: 3, Modulus: 11, End: tides().End}
		var all [][]int
		for range r.Intn(6) {
			row := make([]int, k.Numbers)
			for n := range row {
				row[n] = r.Intn(1000)
			}
			all = append(all, row)
		}
		text := k.Print(all)
		back, ok := k.Read(text)
		if !ok || !same(back, all) {
			t.Fatalf("%q: %v %v", text, back, ok)
		}
		for number, row := range back {
			clear(row)
			_ = append(row, -1)
			if !same(back[number+1:], all[number+1:]) {
				t.Fatal(back, all)
			}
		}
	}
}
