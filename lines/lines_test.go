package lines_test

import (
	"slices"
	"testing"

	"motu/lines"
)

func TestCut(t *testing.T) {
	for _, x := range []struct {
		text  string
		words []string
		rest  string
		found bool
	}{
		{"end 2 06\n", []string{"end", "2", "06"}, "", true},
		{"0 -\n0 1\n", []string{"0", "-"}, "0 1\n", true},
		{"a\n\nb", []string{"a"}, "\nb", true},
		{"\na\n", []string{""}, "a\n", true},
		{" a  b \n", []string{"", "a", "", "b", ""}, "", true},
		{"a\tb\r\n", []string{"a\tb\r"}, "", true},
		{"", nil, "", false},
		{"end 2 06", nil, "", false},
	} {
		words, rest, found := lines.Cut(x.text)
		if !slices.Equal(words, x.words) || rest != x.rest || found != x.found {
			t.Errorf("%q: %q %q %v", x.text, words, rest, found)
		}
		if found && lines.Of(words...)+rest != x.text {
			t.Errorf("%q: %q", x.text, lines.Of(words...))
		}
	}
}

func TestJoin(t *testing.T) {
	for _, x := range []struct {
		words []string
		line  string
	}{{[]string{"end", "2", "06"}, "end 2 06"}, {[]string{"tank"}, "tank"}, {[]string{"", "a", "", "b", ""}, " a  b "}, {[]string{""}, ""}, {[]string{"a\tb\n"}, "a\tb\n"}} {
		if line := lines.Join(x.words...); line != x.line || lines.Of(x.words...) != x.line+"\n" {
			t.Errorf("%q: %q", x.words, line)
		}
		if words := lines.Words(x.line); !slices.Equal(words, x.words) {
			t.Errorf("%q: %q", x.line, words)
		}
	}
}

func TestNumbered(t *testing.T) {
	for _, x := range []struct {
		word    string
		numbers []int
		line    string
	}{{"tank", nil, "tank\n"}, {"load", []int{3}, "load 3\n"}, {"tell", []int{0, 12, -30, 1000000}, "tell 0 12 -30 1000000\n"}} {
		if line := lines.Numbered(x.word, x.numbers...); line != x.line {
			t.Errorf("%v: %q", x, line)
		}
	}
}

func TestAll(t *testing.T) {
	for _, x := range []struct {
		text  string
		ended []string
		last  string // what no line feed ends
	}{
		{"", nil, ""},
		{"\n", []string{""}, ""},
		{"tank\n", []string{"tank"}, ""},
		{"tank", nil, "tank"},
		{"load 1\n\n load 2\r\n", []string{"load 1", "", " load 2\r"}, ""},
		{"\n\na\nb", []string{"", "", "a"}, "b"},
	} {
		var ended []string
		last := ""
		for line, isEnded := range lines.All(x.text) {
			if last != "" {
				t.Errorf("%q: %q after %q", x.text, line, last)
			}
			if isEnded {
				ended = append(ended, line)
			} else {
				last = line
			}
		}
		if !slices.Equal(ended, x.ended) || last != x.last {
			t.Errorf("%q: %q %q", x.text, ended, last)
		}
	}
	all := lines.All("a\nb\n")
	for range 2 {
		for line := range all {
			if line != "a" {
				t.Error(line)
			}
			break
		}
	}
}
