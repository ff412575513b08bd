package decimal_test

import (
	"strconv"
	"testing"

	"motu/decimal"
)

func TestWords(t *testing.T) {
	for _, x := range []struct {
		word    string
		digits  int
		natural bool
		integer bool
		n       int
	}{
		{"0", 1, true, true, 0},
		{"9", 1, true, true, 9},
		{"10", 2, true, true, 10},
		{"9999", 4, true, true, 9999},
		{"999999999", 9, true, true, 999999999},
		{"-1", 1, false, true, -1},
		{"-1000", 4, false, true, -1000},
		{"-999999999", 9, false, true, -999999999},
		{"", 4, false, false, 0},
		{"-", 4, false, false, 0},
		{"-0", 4, false, false, 0},
		{"-00", 4, false, false, 0},
		{"--1", 4, false, false, 0},
		{"+1", 4, false, false, 0},
		{"-+1", 4, false, false, 0},
		{"1-", 4, false, false, 0},
		{"00", 4, false, false, 0},
		{"01", 4, false, false, 0},
		{"-01", 4, false, false, 0},
		{"10000", 4, false, false, 0},
		{"-10000", 4, false, false, 0},
		{"1", 0, false, false, 0},
		{"18446744073709551616", 9, false, false, 0},
		{" 1", 4, false, false, 0},
		{"1 ", 4, false, false, 0},
		{"1/", 4, false, false, 0},
		{"1:", 4, false, false, 0},
		{"a", 4, false, false, 0},
		{"1a", 4, false, false, 0},
		{"1\x00", 4, false, false, 0},
		{"\xff", 4, false, false, 0},
		{"\u0661", 4, false, false, 0},
	} {
		n, ok := decimal.Natural(x.word, x.digits)
		if want := map[bool]int{true: x.n}[x.natural]; n != want || ok != x.natural {
			t.Errorf("Natural %q: %v %v", x.word, n, ok)
		}
		if n, ok := decimal.Integer(x.word, x.digits); n != x.n || ok != x.integer {
			t.Errorf("Integer %q: %v %v", x.word, n, ok)
		}
	}
}

func TestAllNumbers(t *testing.T) {
	for n := -1100; n <= 1100; n++ {
		got, ok := decimal.Integer(strconv.Itoa(n), 4)
		if got != n || !ok {
			t.Fatal(n, got, ok)
		}
		got, ok = decimal.Natural(strconv.Itoa(n), 3)
		if ok != (0 <= n && n <= 999) || ok && got != n || !ok && got != 0 {
			t.Fatal(n, got, ok)
		}
	}
}

func TestIntegers(t *testing.T) {
	for _, x := range []struct {
		words []string
		ok    bool
	}{
		{[]string{"12", "-3"}, true},
		{[]string{"0", "9999"}, true},
		{nil, false},
		{[]string{"12"}, false},
		{[]string{"12", "-3", "4"}, false},
		{[]string{"12", ""}, false},
		{[]string{"-0", "3"}, false},
		{[]string{"12", "10000"}, false},
	} {
		var a, b int
		ok := decimal.Integers(x.words, 4, &a, &b)
		if ok != x.ok || ok && (strconv.Itoa(a) != x.words[0] || strconv.Itoa(b) != x.words[1]) {
			t.Error(x, a, b, ok)
		}
	}
	if !decimal.Integers(nil, 4) || decimal.Integers([]string{""}, 4) {
		t.Error("no numbers")
	}
}

func TestPadded(t *testing.T) {
	for _, x := range []struct {
		n, digits int
		want      string
	}{{0, 2, "00"}, {7, 2, "07"}, {42, 2, "42"}, {7, 3, "007"}, {42, 3, "042"}, {498, 3, "498"}, {498, 2, "498"}, {0, 1, "0"}, {0, 0, "0"}} {
		if s := decimal.Padded(x.n, x.digits); s != x.want {
			t.Error(x, s)
		}
	}
}
