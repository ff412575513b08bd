package lines_test

import (
	"slices"
	"testing"

	"motu/lines"
)

func TestCut(t *testing.T) {
	for _, x := range []struct {
		text  string
		words []string
		rest  string
		found bool
	}{
		{"end 2 06\n", []string{"end", "2", "06"}, "", true},
		{"0 -\n0 1\n", []string{"0", "-"}, "0 1\n", true},
		{"a\n\nb", []string{"a"}, "\nb", true},
		{"\na\n", []string{""}, "a\n", true},
		{" a  b \n", []string{"", "a", "", "b", ""}, "", true},
		{"a\tb\r\n", []string{"a\tb\r"}, "", true},
		{"", nil, "", false},
		{"end 2 06", nil, "", false},
	} {
		words, rest, found := lines.Cut(x.text)
		if !slices.Equal(words, x.words) || rest != x.rest || found != x.found {
			t.Errorf("%q: %q %q %v", x.text, words, rest, found)
		}
		if found && lines.Of(words...)+rest != x.text {
			t.Errorf("%q: %q", x.text, lines.Of(words...))
		}
	}
}
