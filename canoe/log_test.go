package canoe_test

import (
	"fmt"
	"math"
	"math/rand"
	"slices"
	"strings"
	"testing"

	"motu/api"
	"motu/canoe"
)

const chapterText = "0 -\n0 1\nend 2 06\n"

// textOf is the section 'Voyage logs', written down a second time.
func textOf(log []api.CanoeHour) string {
	text, sum := "", 0
	for k, h := range log {
		star := "-"
		if h.Star >= 0 {
			star = fmt.Sprint(h.Star)
			sum += 3 * h.Star * (k + 1)
		}
		sum += 7 * h.Course * (k + 1)
		text += fmt.Sprintf("%d %s\n", h.Course, star)
	}
	return text + fmt.Sprintf("end %d %02d\n", len(log), sum%89)
}

// P5.5: the chapter's example, and logs at their bounds.
func TestPrint(t *testing.T) {
	zeros, most := make([]api.CanoeHour, api.CanoeHours), slices.Repeat([]api.CanoeHour{hour(3, 5)}, api.CanoeHours)
	for _, x := range []struct {
		log  []api.CanoeHour
		want string
	}{
		{chapterLog(), chapterText},
		{nil, "end 0 00\n"},
		{[]api.CanoeHour{}, "end 0 00\n"},
		{zeros[:1], "0 0\nend 1 00\n"},
		{[]api.CanoeHour{hour(1, -1)}, "1 -\nend 1 07\n"},
		{[]api.CanoeHour{hour(0, 1)}, "0 1\nend 1 03\n"},
		{[]api.CanoeHour{hour(3, 5)}, "3 5\nend 1 36\n"},
		{[]api.CanoeHour{hour(0, -1), hour(1, -1)}, "0 -\n1 -\nend 2 14\n"},
		{[]api.CanoeHour{hour(3, 5), hour(2, 4)}, "3 5\n2 4\nend 2 88\n"},
		{[]api.CanoeHour{hour(3, 5), hour(2, 4), hour(1, -1)}, "3 5\n2 4\n1 -\nend 3 20\n"},
		// 7 and 12 are 19, four times 7 and 9 is 64, five times 3 is 15; 19, 64 and 15 are 98, which is 9 modulo 89
		{[]api.CanoeHour{hour(1, 4), hour(0, -1), hour(0, 0), hour(1, 3), hour(0, 1)}, "1 4\n0 -\n0 0\n1 3\n0 1\nend 5 09\n"},
		{zeros, strings.Repeat("0 0\n", 12) + "end 12 00\n"},
		// 78 times 36 is 2808, which is 49 modulo 89
		{most, strings.Repeat("3 5\n", 12) + "end 12 49\n"},
	} {
		old := slices.Clone(x.log)
		if s, e := canoe.Print(x.log); e != api.OK || s != x.want || s != textOf(x.log) || !slices.Equal(x.log, old) {
			t.Errorf("%v: %q %v", x.log, s, e)
		}
		if log, e := canoe.Read(x.want); e != api.OK || !slices.Equal(log, x.log) {
			t.Errorf("%q: %v %v", x.want, log, e)
		}
	}
}

// P5.5: logs that are not as defined; too many hours are told first.
func TestPrintErrors(t *testing.T) {
	full := make([]api.CanoeHour, api.CanoeHours)
	for _, bad := range []api.CanoeHour{hour(-1, 0), hour(4, 0), hour(0, -2), hour(0, 6), hour(math.MinInt, -1), hour(math.MaxInt, -1), hour(0, math.MinInt), hour(0, math.MaxInt)} {
		for _, log := range [][]api.CanoeHour{{bad}, append(slices.Clone(full[1:]), bad)} {
			if s, e := canoe.Print(log); e != api.ErrArg || s != "" {
				t.Errorf("%v: %q %v", log, s, e)
			}
		}
		if s, e := canoe.Print(append([]api.CanoeHour{bad}, full...)); e != api.ErrLong || s != "" {
			t.Errorf("%v: %q %v", bad, s, e)
		}
	}
	if s, e := canoe.Print(append(full, hour(0, 0))); e != api.ErrLong || s != "" {
		t.Errorf("%q %v", s, e)
	}
}

// P5.5: texts that are no logs, with the order of errors: ErrLong of the text, ErrText, ErrLong of the hours, ErrArg.
func TestReadErrors(t *testing.T) {
	zeros := func(count int) string { return strings.Repeat("0 0\n", count) }
	for name, x := range map[string]struct {
		text string
		want api.Errno
	}{
		"empty":                      {"", api.ErrText},
		"a line feed":                {"\n", api.ErrText},
		"no line feed":               {"end 0 00", api.ErrText},
		"no end":                     {"0 0\n", api.ErrText},
		"end alone":                  {"end\n", api.ErrText},
		"end with a blank":           {"end \n", api.ErrText},
		"end without check":          {"end 0\n", api.ErrText},
		"end without hours":          {"end 00\n", api.ErrText},
		"end with more":              {"end 0 00 0\n", api.ErrText},
		"a check of one digit":       {"0 -\n0 1\nend 2 6\n", api.ErrText},
		"a check of three digits":    {"0 -\n0 1\nend 2 006\n", api.ErrText},
		"a wrong check":              {"0 -\n0 1\nend 2 07\n", api.ErrText},
		"a check that was not taken": {"0 -\n0 1\nend 2 95\n", api.ErrText},
		"a check of others":          {"0 1\n0 -\nend 2 06\n", api.ErrText},
		"a check of nothing":         {"0 1\nend 1 00\n", api.ErrText},
		"a check with a minus":       {"0 -\n0 -\nend 2 -0\n", api.ErrText},
		"more hours":                 {"0 -\n0 1\nend 3 06\n", api.ErrText},
		"fewer hours":                {"0 -\n0 1\nend 1 06\n", api.ErrText},
		"none of the hours":          {"0 -\n0 1\nend 0 06\n", api.ErrText},
		"hours with a zero":          {"0 -\n0 1\nend 02 06\n", api.ErrText},
		"hours with a sign":          {"0 -\n0 1\nend +2 06\n", api.ErrText},
		"no number of hours":         {"end - 00\n", api.ErrText},
		"a capital end":              {"End 0 00\n", api.ErrText},
		"end with more letters":      {"ends 0 00\n", api.ErrText},
		"a blank after it":           {"end 0 00 \n", api.ErrText},
		"a blank before it":          {" end 0 00\n", api.ErrText},
		"two blanks":                 {"end  0 00\n", api.ErrText},
		"a carriage return":          {"end 0 00\r\n", api.ErrText},
		"two ends":                   {"end 0 00\nend 0 00\n", api.ErrText},
		"hours after the end":        {"end 0 00\n0 0\n", api.ErrText},
		"an end within":              {"end 0 00\n0 0\nend 1 00\n", api.ErrText},
		"a text after the end":       {"end 0 00\nx", api.ErrText},
		"a line after the end":       {chapterText + "\n", api.ErrText},
		"a line before":              {"\n" + chapterText, api.ErrText},
		"an empty line":              {"0 0\n\nend 1 00\n", api.ErrText},
		"without the first letter":   {chapterText[1:], api.ErrText},
		"one word":                   {"0\nend 1 00\n", api.ErrText},
		"three words":                {"0 0 0\nend 1 00\n", api.ErrText},
		"four words":                 {"0 0 0 0\nend 2 00\n", api.ErrText},
		"two blanks between":         {"0  0\nend 1 00\n", api.ErrText},
		"a blank in front":           {" 0 0\nend 1 00\n", api.ErrText},
		"a blank at the end":         {"0 0 \nend 1 00\n", api.ErrText},
		"a blank alone":              {" \nend 1 00\n", api.ErrText},
		"a tab":                      {"0\t0\nend 1 00\n", api.ErrText},
		"a carriage return within":   {"0 0\r\nend 1 00\n", api.ErrText},
		"a course with a zero":       {"01 0\nend 1 07\n", api.ErrText},
		"a star with a zero":         {"0 01\nend 1 03\n", api.ErrText},
		"a zero twice":               {"00 0\nend 1 00\n", api.ErrText},
		"a sign":                     {"+1 0\nend 1 07\n", api.ErrText},
		"a star less than 0":         {"0 -1\nend 1 00\n", api.ErrText},
		"a minus twice":              {"0 --\nend 1 00\n", api.ErrText},
		"a star that is a letter":    {"0 *\nend 1 00\n", api.ErrText},
		"no course":                  {"- 0\nend 1 00\n", api.ErrText},
		"a course of three digits":   {"100 0\nend 1 77\n", api.ErrText},
		"a star of three digits":     {"0 100\nend 1 33\n", api.ErrText},
		"many digits":                {"18446744073709551616 0\nend 1 00\n", api.ErrText},
		"hexadecimal":                {"0 a\nend 1 30\n", api.ErrText},
		"a digit of another script":  {"0 \u0661\nend 1 03\n", api.ErrText},
		"no letters at all":          {"0 \xff\nend 1 00\n", api.ErrText},
		"a zero byte":                {"0 \x00\nend 1 00\n", api.ErrText},
		"wrong check, and a course":  {"4 -\nend 1 27\n", api.ErrText},
		"wrong check, and long":      {zeros(13) + "end 13 01\n", api.ErrText},
		"wrong hours, and long":      {zeros(13) + "end 12 00\n", api.ErrText},
		"a course":                   {"4 -\nend 1 28\n", api.ErrArg},
		"a course of two digits":     {"99 -\nend 1 70\n", api.ErrArg},
		"a star":                     {"0 6\nend 1 18\n", api.ErrArg},
		"a star of two digits":       {"0 99\nend 1 30\n", api.ErrArg},
		"a later star":               {"0 0\n0 6\nend 2 36\n", api.ErrArg},
		"all of the hours, a course": {zeros(11) + "4 0\nend 12 69\n", api.ErrArg},
		"hours":                      {zeros(13) + "end 13 00\n", api.ErrLong},
		"hours, one of them bad":     {zeros(12) + "4 0\nend 13 08\n", api.ErrLong},
		"99 hours":                   {zeros(99) + "end 99 00\n", api.ErrLong},
		"hours of three digits":      {zeros(100) + "end 100 00\n", api.ErrText},
		"a text":                     {strings.Repeat("x", api.CanoeText), api.ErrText},
		"a long text":                {strings.Repeat("x", api.CanoeText+1), api.ErrLong},
		"a text of hours":            {zeros(125), api.ErrText},
		"a long text of hours":       {zeros(126), api.ErrLong},
	} {
		if log, e := canoe.Read(x.text); e != x.want || len(log) != 0 {
			t.Errorf("%s: %q: %v %v", name, x.text, log, e)
		}
	}
}

// anyHours returns a log for any sea.
func anyHours(r *rand.Rand) []api.CanoeHour {
	var log []api.CanoeHour
	for range r.Intn(api.CanoeHours + 1) {
		log = append(log, hour(r.Intn(api.CanoeCourses), r.Intn(api.CanoeStars+1)-1))
	}
	return log
}

// P5.5: what was written is read as what was written.
func TestLogsRandom(t *testing.T) {
	r := rand.New(rand.NewSource(82))
	for range 5000 {
		log := anyHours(r)
		s, e := canoe.Print(log)
		if s != textOf(log) || e != api.OK {
			t.Fatalf("%v: %q %v", log, s, e)
		}
		for range 2 {
			back, e := canoe.Read(s)
			if e != api.OK || !slices.Equal(back, log) {
				t.Fatal(log, back, e)
			}
			clear(back)
		}
	}
}

// P5.5: each digit that was changed is noticed.
func TestChangedDigits(t *testing.T) {
	r := rand.New(rand.NewSource(83))
	logs := [][]api.CanoeHour{chapterLog(), nil, make([]api.CanoeHour, api.CanoeHours), slices.Repeat([]api.CanoeHour{hour(3, 5)}, api.CanoeHours)}
	for range 200 {
		logs = append(logs, anyHours(r))
	}
	for _, log := range logs {
		text, _ := canoe.Print(log)
		for k, old := range text {
			if old < '0' || old > '9' {
				continue
			}
			for digit := '0'; digit <= '9'; digit++ {
				changed := text[:k] + string(digit) + text[k+1:]
				if back, e := canoe.Read(changed); digit != old && (e != api.ErrText || len(back) != 0) {
					t.Fatalf("%q: %v %v", changed, back, e)
				}
			}
		}
	}
}

// P0.1 and P5.5: whatever the text is, Read returns; what is read is written the same.
func FuzzRead(f *testing.F) {
	for _, s := range []string{"", chapterText, "end 0 00\n", "4 -\nend 1 28\n", "0 0\nend 1 00", "0 \xff\nend 1 00\n", strings.Repeat("0 0\n", 13) + "end 13 00\n", strings.Repeat("1", api.CanoeText+1)} {
		f.Add(s)
	}
	f.Fuzz(func(t *testing.T, text string) { readAndPrint(t, text) })
}

// readAndPrint asks for the same text if it is a log, and reports whether it is.
func readAndPrint(t *testing.T, text string) bool {
	t.Helper()
	log, e := canoe.Read(text)
	if e != api.OK {
		if len(log) != 0 || e != api.ErrText && e != api.ErrLong && e != api.ErrArg {
			t.Fatalf("%q: %v %v", text, log, e)
		}
		return false
	}
	if s, e := canoe.Print(log); s != text || e != api.OK {
		t.Fatalf("%q: %q %v", text, s, e)
	}
	return true
}

// P0.1 and P5.5: the same, for texts near to logs. Some of them are logs again.
func TestDamagedLogs(t *testing.T) {
	r := rand.New(rand.NewSource(84))
	const letters = "0123456789 \nend-+\x00\xff"
	seen := map[bool]int{}
	for range 50000 {
		s, _ := canoe.Print(anyHours(r))
		text := []byte(s)
		for range 1 + r.Intn(3) {
			k := r.Intn(len(text))
			letter := letters[r.Intn(len(letters))]
			text = slices.Replace(text, k, k+r.Intn(2), []byte{letter}[:r.Intn(2)]...)
		}
		seen[readAndPrint(t, string(text))]++
	}
	if seen[true] < 100 || seen[false] < 100 {
		t.Error(seen)
	}
}
