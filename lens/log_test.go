package lens_test

import (
	"fmt"
	"math/rand"
	"slices"
	"strings"
	"testing"

	"motu/api"
	"motu/lens"
)

const chapterLog = "0 1 250 90\n2 0 1400 85\nend gf\n"

func chapterEntries() []api.LensEntry {
	return []api.LensEntry{{Month: 0, Well: 1, Salt: 250, Depth: 90}, {Month: 2, Well: 0, Salt: 1400, Depth: 85}}
}

// ended returns a text with the end line that belongs to some numbers.
func ended(text string, numbers ...int) string {
	sum := 0
	for k, n := range numbers {
		sum += n * (k + 1)
	}
	return text + "end " + string([]byte{byte('a' + sum%673/26), byte('a' + sum%673%26)}) + "\n"
}

// P1.5: the chapter's example, and entries at their bounds.
func TestPrint(t *testing.T) {
	for _, x := range []struct {
		l    []api.LensEntry
		want string
		e    api.Errno
	}{
		{chapterEntries(), chapterLog, api.OK},
		{nil, "end aa\n", api.OK},
		{[]api.LensEntry{}, "end aa\n", api.OK},
		{[]api.LensEntry{{}}, "0 0 0 0\nend aa\n", api.OK},
		{[]api.LensEntry{{Month: 25}}, "25 0 0 0\nend az\n", api.OK},
		{[]api.LensEntry{{Month: 26}}, "26 0 0 0\nend ba\n", api.OK},
		{[]api.LensEntry{{Depth: 168}}, "0 0 0 168\nend zw\n", api.OK},
		{[]api.LensEntry{{Month: 1, Depth: 168}}, "1 0 0 168\nend aa\n", api.OK},
		{[]api.LensEntry{{Month: 99, Salt: 9999}}, "99 0 9999 0\nend sq\n", api.OK},
		{[]api.LensEntry{{}, {Well: 1}}, "0 0 0 0\n0 1 0 0\nend ag\n", api.OK},
		{[]api.LensEntry{{Month: 99, Well: 99, Salt: 9999, Depth: 9999}}, ended("99 99 9999 9999\n", 99, 99, 9999, 9999), api.OK},
		{make([]api.LensEntry, api.LensEntries), strings.Repeat("0 0 0 0\n", 24) + "end aa\n", api.OK},
		{make([]api.LensEntry, api.LensEntries+1), "", api.ErrLong},
		{slices.Repeat([]api.LensEntry{{Month: -1}}, api.LensEntries+1), "", api.ErrLong},
		{[]api.LensEntry{{Month: -1}}, "", api.ErrArg},
		{[]api.LensEntry{{Month: 100}}, "", api.ErrArg},
		{[]api.LensEntry{{Well: -1}}, "", api.ErrArg},
		{[]api.LensEntry{{Well: 100}}, "", api.ErrArg},
		{[]api.LensEntry{{Salt: -1}}, "", api.ErrArg},
		{[]api.LensEntry{{Salt: 10000}}, "", api.ErrArg},
		{[]api.LensEntry{{Depth: -1}}, "", api.ErrArg},
		{[]api.LensEntry{{Depth: 10000}}, "", api.ErrArg},
		{append(make([]api.LensEntry, 23), api.LensEntry{Salt: 10000}), "", api.ErrArg},
	} {
		old := slices.Clone(x.l)
		if s, e := lens.Print(x.l); s != x.want || e != x.e || !slices.Equal(x.l, old) {
			t.Errorf("%v: %q %v", x.l, s, e)
		}
	}
}

// P1.5: texts that are logs.
func TestRead(t *testing.T) {
	for _, x := range []struct {
		text string
		want []api.LensEntry
	}{
		{chapterLog, chapterEntries()},
		{"end aa\n", nil},
		{"0 0 0 0\nend aa\n", []api.LensEntry{{}}},
		{ended("99 99 9999 9999\n", 99, 99, 9999, 9999), []api.LensEntry{{Month: 99, Well: 99, Salt: 9999, Depth: 9999}}},
		{strings.Repeat("0 0 0 0\n", 24) + "end aa\n", make([]api.LensEntry, 24)},
	} {
		if l, e := lens.Read(x.text); !slices.Equal(l, x.want) || e != api.OK {
			t.Errorf("%q: %v %v", x.text, l, e)
		}
	}
}

// P1.5: texts that are no logs, with the order of errors: ErrLong of the text, ErrText, ErrLong of the entries, ErrArg.
func TestReadErrors(t *testing.T) {
	zeros := strings.Repeat("0 0 0 0\n", 25)
	many := append(make([]int, 96), 100, 0, 0, 0)
	for name, x := range map[string]struct {
		text string
		want api.Errno
	}{
		"empty":                     {"", api.ErrText},
		"a line feed":               {"\n", api.ErrText},
		"no line feed":              {"end aa", api.ErrText},
		"no end":                    {"0 0 0 0\n", api.ErrText},
		"end without check":         {"end\n", api.ErrText},
		"end with a blank":          {"end \n", api.ErrText},
		"a letter":                  {"end a\n", api.ErrText},
		"three letters":             {"end aaa\n", api.ErrText},
		"two words":                 {"end a a\n", api.ErrText},
		"capital letters":           {"end AA\n", api.ErrText},
		"a capital end":             {"End aa\n", api.ErrText},
		"a blank after it":          {"end aa \n", api.ErrText},
		"a blank before it":         {" end aa\n", api.ErrText},
		"two blanks":                {"end  aa\n", api.ErrText},
		"a carriage return":         {"end aa\r\n", api.ErrText},
		"a wrong check":             {"end ab\n", api.ErrText},
		"a check of nothing":        {"0 0 0 1\nend aa\n", api.ErrText},
		"a check of another":        {"0 0 0 1\nend ad\n", api.ErrText},
		"two ends":                  {"end aa\nend aa\n", api.ErrText},
		"entries after the end":     {"end aa\n0 0 0 0\n", api.ErrText},
		"an end within":             {"end aa\n0 0 0 0\nend aa\n", api.ErrText},
		"a text after the end":      {"end aa\nx", api.ErrText},
		"a line after the end":      {chapterLog + "\n", api.ErrText},
		"a line before":             {"\n" + chapterLog, api.ErrText},
		"an empty line":             {"0 0 0 0\n\nend aa\n", api.ErrText},
		"without the first letter":  {chapterLog[1:], api.ErrText},
		"three numbers":             {"0 0 0\nend aa\n", api.ErrText},
		"five numbers":              {"0 0 0 0 0\nend aa\n", api.ErrText},
		"eight numbers":             {"0 0 0 0 0 0 0 0\nend aa\n", api.ErrText},
		"two entries in five":       {"0 0 0\n0 0 0 0 0\nend aa\n", api.ErrText},
		"two blanks between":        {"0  0 0 0\nend aa\n", api.ErrText},
		"a blank in front":          {" 0 0 0 0\nend aa\n", api.ErrText},
		"a blank at the end":        {"0 0 0 0 \nend aa\n", api.ErrText},
		"blanks alone":              {"   \nend aa\n", api.ErrText},
		"a tab":                     {"0 0 0\t0\nend aa\n", api.ErrText},
		"a carriage return within":  {"0 0 0 0\r\nend aa\n", api.ErrText},
		"a leading zero":            {ended("0 0 01 0\n", 0, 0, 1, 0), api.ErrText},
		"a zero twice":              {"0 0 0 00\nend aa\n", api.ErrText},
		"a sign":                    {ended("0 0 +1 0\n", 0, 0, 1, 0), api.ErrText},
		"a minus":                   {"0 0 -0 0\nend aa\n", api.ErrText},
		"less than 0":               {ended("1 0 0 -1\n", 677, 0, 0, -1), api.ErrText},
		"five digits":               {ended("0 0 0 10000\n", 0, 0, 0, 10000), api.ErrText},
		"many digits":               {"0 0 0 18446744073709551616\nend aa\n", api.ErrText},
		"a letter for a digit":      {"0 0 0 o\nend aa\n", api.ErrText},
		"hexadecimal":               {ended("0 0 0 a\n", 0, 0, 0, 10), api.ErrText},
		"a digit of another script": {ended("0 0 0 \u0661\n", 0, 0, 0, 1), api.ErrText},
		"no letters at all":         {"0 0 0 \xff\nend aa\n", api.ErrText},
		"a zero byte":               {"0 0 0 \x00\nend aa\n", api.ErrText},
		"check is wrong, and month": {"100 0 0 0\nend aa\n", api.ErrText},
		"check is wrong, and long":  {zeros + "end ab\n", api.ErrText},
		"a month":                   {"100 0 0 0\nend dw\n", api.ErrArg},
		"a month of four digits":    {ended("9999 0 0 0\n", 9999), api.ErrArg},
		"a well":                    {ended("0 100 0 0\n", 0, 100, 0, 0), api.ErrArg},
		"a later month":             {ended("0 0 0 0\n100 0 0 0\n", 0, 0, 0, 0, 100), api.ErrArg},
		"entries":                   {zeros + "end aa\n", api.ErrLong},
		"entries, one of them bad":  {ended(zeros[8:]+"100 0 0 0\n", many...), api.ErrLong},
		"a long text":               {strings.Repeat("x", 2001), api.ErrLong},
		"a text":                    {strings.Repeat("x", 2000), api.ErrText},
		"a long log":                {strings.Repeat("0 0 0 0\n", 250) + "end aa\n", api.ErrLong},
		"a log of 1999 bytes":       {strings.Repeat("0 0 0 0\n", 249) + "end aa\n", api.ErrLong},
		"a log with a wrong check":  {strings.Repeat("0 0 0 0\n", 249) + "end ab\n", api.ErrText},
		"2000 bytes of no log":      {strings.Repeat("0 0 0 0\n", 250), api.ErrText},
	} {
		if l, e := lens.Read(x.text); e != x.want || len(l) != 0 {
			t.Errorf("%s: %q: %v %v", name, x.text, l, e)
		}
	}
}

func randomLog(r *rand.Rand) []api.LensEntry {
	var l []api.LensEntry
	for range r.Intn(api.LensEntries + 1) {
		l = append(l, api.LensEntry{Month: r.Intn(100), Well: r.Intn(100), Salt: r.Intn(10000), Depth: r.Intn(10000)})
	}
	return l
}

// P1.5: what was written is read as what was written.
func TestLogsRandom(t *testing.T) {
	r := rand.New(rand.NewSource(18))
	for range 2000 {
		l := randomLog(r)
		var want strings.Builder
		var all []int
		for _, x := range l {
			fmt.Fprintln(&want, x.Month, x.Well, x.Salt, x.Depth)
			all = append(all, x.Month, x.Well, x.Salt, x.Depth)
		}
		s, e := lens.Print(l)
		if s != ended(want.String(), all...) || e != api.OK {
			t.Fatalf("%v: %q %v", l, s, e)
		}
		back, e := lens.Read(s)
		if !slices.Equal(back, l) || e != api.OK {
			t.Fatal(l, back, e)
		}
		clear(back)
		if again, e := lens.Read(s); !slices.Equal(again, l) || e != api.OK {
			t.Fatal(l, again, e)
		}
	}
}

// P1.5: each digit that is changed is noticed.
func TestChangedDigits(t *testing.T) {
	r := rand.New(rand.NewSource(19))
	logs := [][]api.LensEntry{chapterEntries(), slices.Repeat([]api.LensEntry{{Month: 99, Well: 99, Salt: 9999, Depth: 9999}}, 24), make([]api.LensEntry, 24)}
	for range 20 {
		logs = append(logs, randomLog(r))
	}
	for _, l := range logs {
		text, _ := lens.Print(l)
		for k := range len(text) {
			if text[k] < '0' || text[k] > '9' {
				continue
			}
			for d := byte('0'); d <= '9'; d++ {
				changed := text[:k] + string(rune(d)) + text[k+1:]
				if _, e := lens.Read(changed); d != text[k] && e != api.ErrText {
					t.Fatalf("%q: %v", changed, e)
				}
			}
		}
	}
}

// P0.1 and P1.5: whatever the text is, Read returns; what is read is written the same.
func FuzzRead(f *testing.F) {
	for _, s := range []string{"", chapterLog, "end aa\n", "100 0 0 0\nend dw\n", "0 0 0 0\nend aa", "0 0 0 \xff\nend aa\n", strings.Repeat("0 0 0 0\n", 25) + "end aa\n", strings.Repeat("1", 2001)} {
		f.Add(s)
	}
	f.Fuzz(func(t *testing.T, text string) { readAndPrint(t, text) })
}

func readAndPrint(t *testing.T, text string) {
	l, e := lens.Read(text)
	if e != api.OK {
		if len(l) != 0 || e != api.ErrText && e != api.ErrLong && e != api.ErrArg {
			t.Fatalf("%q: %v %v", text, l, e)
		}
		return
	}
	if s, e := lens.Print(l); s != text || e != api.OK {
		t.Fatalf("%q: %q %v", text, s, e)
	}
}

// P0.1 and P1.5: the same, for texts near to logs.
func TestDamagedLogs(t *testing.T) {
	r := rand.New(rand.NewSource(20))
	const letters = "0123456789 \nendab-+\x00\xff"
	for range 20000 {
		s, _ := lens.Print(randomLog(r))
		text := []byte(s)
		for range 1 + r.Intn(3) {
			k := r.Intn(len(text))
			switch r.Intn(3) {
			case 0:
				text[k] = letters[r.Intn(len(letters))]
			case 1:
				text = slices.Insert(text, k, letters[r.Intn(len(letters))])
			default:
				text = slices.Delete(text, k, min(len(text)-1, k+1))
			}
		}
		readAndPrint(t, string(text))
	}
}
