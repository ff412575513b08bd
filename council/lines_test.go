package council_test

import (
	"fmt"
	"math/rand"
	"slices"
	"strings"
	"testing"

	"motu/api"
	"motu/council"
)

// P10.8: texts that are no lines of a council.
func TestNoLines(t *testing.T) {
	acts, others := fields()
	lines := []string{
		"", " ", "\n", "0", "1 2", "-", "x", "Tank", "TANK", "tanks", "tan", "\x00", "\xff", "tank\n", "tank\r", "tank\t", "\ntank", " tank", "tank ", "tank  ", "tank,panel", "tank\npanel", "tank panel",
		"guard", "guard ", "guard  1", " guard 1", "guard 1 ", "guard\t1", "guard 1\n", "guard 1\r", "guard\n1", "guard 1\x00", "guard 1.", "guard 1,0", "guard one", "guard a", "guard 0x1", "guard 1e0", "guard 1_0", "guard guard 1",
		"guard 00", "guard 01", "guard -0", "guard -00", "guard -01", "guard +1", "guard --1", "guard - 1", "guard -", "guard 1-", "guard -1-", "guard \u0661", "guard \xff", "guard 1\xff",
		"guard 1000000000", "guard -1000000000", "guard 0000000001", "guard 18446744073709551616", "guard 1/2", "guard 1:", "guard (1)", "guard 1 2", "line 0 ", "want 6 0",
		"tell 0 1 2", "tell 0 1 2 3 4", "tell 0 1  2 3", "tell 0 1 2 03", "tell 0 1 -0 3", "tell 0 1 2 ", "bid 0 0 0 1", "bid 0 0 0 1 1 1", "bid 0 0 0 1 1000000000",
		"ok", "error", "error 4", "journal", "replay", "play", "free all", "sell", "report", "reports 0 1", "report 0", "report 0 1 1", "close 0", "close 0 0 0", "reopen 0",
		strings.Repeat("x", api.CouncilLine), "guard " + strings.Repeat("0", api.CouncilLine-6), "tank" + strings.Repeat(" ", api.CouncilLine-4),
	}
	for _, kinds := range []map[string]int{acts, others} {
		for word, many := range kinds {
			for count := range 7 {
				if count != many {
					lines = append(lines, word+strings.Repeat(" 0", count))
				}
			}
			numbers := strings.Repeat(" 0", many)
			lines = append(lines, word+numbers+" ", " "+word+numbers, word+numbers+"\n", word+numbers+"\r", strings.ToUpper(word)+numbers, word+"s"+numbers+" 00", word+word+numbers, word[1:]+numbers)
		}
	}
	c := open(t, chapterAtoll(plenty))
	before := everything(c)
	for _, line := range lines {
		if s, e := c.Do(line); s != "" || e != api.ErrText {
			t.Errorf("%q: %q %v", line, s, e)
		}
		if strings.Contains(line, "\n") {
			continue
		}
		if again, index, e := council.Replay(chapterAtoll(0), "award\n"+line+"\n"); again != nil || index != 1 || e != api.ErrText {
			t.Errorf("%q: %v %v", line, index, e)
		}
	}
	if everything(c) != before {
		t.Error(everything(c))
	}
}

// P10.8: a line that is too long, which comes before all else of it.
func TestLongLines(t *testing.T) {
	c := open(t, chapterAtoll(plenty))
	for _, x := range []struct {
		line string
		want api.Errno
	}{
		{strings.Repeat("x", 200), api.ErrText}, {strings.Repeat("x", 201), api.ErrLong}, {strings.Repeat("\u0101", 100), api.ErrText}, {strings.Repeat("\u0101", 101), api.ErrLong},
		{"tank" + strings.Repeat(" ", 197), api.ErrLong}, {"money" + strings.Repeat(" 0", 98), api.ErrLong}, {"money" + strings.Repeat(" 0", 97), api.ErrText}, {strings.Repeat("\n", 201), api.ErrLong}, {strings.Repeat("tank ", 100000), api.ErrLong},
	} {
		if s, e := c.Do(x.line); s != "" || e != x.want {
			t.Errorf("%q: %q %v", x.line, s, e)
		}
	}
}

// P10.8: numbers of up to 9 digits are read as what they are, and are not as defined where they are too great.
func TestLongNumbers(t *testing.T) {
	a := chapterAtoll(plenty)
	c := open(t, a)
	for _, line := range []string{
		"guard 999999999", "guard -999999999", "guard -1", "guard 5", "free 100000000", "load -1", "unload 3", "close 0 2", "close 2 0", "close -1 0", "reopen 0 -1", "tell 0 1 -1001 0", "tell 0 1 0 999999999", "tell 0 0 1 2",
		"bid 0 0 0 1 1000001", "bid 0 0 0 1 999999999", "bid 0 0 0 1 -1", "bid 10 0 0 1 1", "bid 0 0 3 2 1", "report 4 1", "report 0 0", "report 0 16", "report 0 -999999999", "line 6", "line -1", "line 999999999", "want 301", "want -1", "want 999999999",
	} {
		if s, e := c.Do(line); s != "" || e != api.ErrArg {
			t.Error(line, s, e)
		}
	}
	doAll(t, c, "tell 0 1 -1000 1000", "bid 9 1 3 1 1000000", "bid 0 0 0 4 0", "report 3 15")
	if journal, e := c.Journal(); journal != "tell 0 1 -1000 1000\nbid 9 1 3 1 1000000\nbid 0 0 0 4 0\nreport 3 15\n" || e != api.OK {
		t.Error(journal, e)
	}
}

// P10.8: what lines return that are no acts.
func TestQuestions(t *testing.T) {
	c := open(t, chapterAtoll(plenty))
	want := func(line, text string, wanted api.Errno) {
		t.Helper()
		if s, e := c.Do(line); s != text || e != wanted {
			t.Errorf("%s: %q %v", line, s, e)
		}
	}
	want("water", "2 0 0 0 0 0", api.OK)
	want("line 0", "-1 0 1 2", api.OK)
	want("line 1", "-1 3", api.OK)
	want("line 2", "-1", api.OK)
	want("short", "0 357", api.OK)
	want("beetles", "0 1 3 5", api.OK)
	want("want 60", "32 43 35 -1", api.OK)
	want("want 0", "-1 -1 -1 -1", api.OK)
	want("cooler", "0 0 0 0 0 0", api.OK)
	want("sale", "0 0", api.OK)
	want("cheat", "", api.ErrNone)
	want("money", "1000000", api.OK)
	for range 12 {
		doAll(t, c, "tank")
	}
	doAll(t, c, "close 0 0", "close 0 1", "close 1 1", "panel", "panel", "battery", "guard 2", "report 0 1", "report 0 8")
	want("water", "1 0 0", api.OK)
	want("short", "", api.ErrNone)
	want("cooler", "3 0 0 0 1 1", api.OK)
	want("beetles", "0 1 4 -1", api.OK)
	want("cheat", "0 1", api.OK)
	doAll(t, c, "battery")
	want("cooler", "", api.ErrNone)
	a := chapterAtoll(0)
	a.Book.Memories = nil
	a.Reef.Places[0].Goal = 0
	c = open(t, a)
	want("line 0", "", api.ErrOpen)
	want("short", "1 40", api.OK)
	want("money", "0", api.OK)
	doAll(t, c, "tell 1 0 1 2", "tell 2 1 1 2")
	want("line 0", "1 2 1 0", api.OK)
	a.System.Loads = []api.CellLoad{{Need: 0, Must: true}, {Need: 0, Keep: 10}, {Need: 10, Must: true}}
	c = open(t, a)
	want("cooler", "0 2 0 0 0 0", api.OK)
}

// P10.8: journals have the lines of all acts that were done, and of nothing else; a council that is replayed from its journal returns the same of everything.
func TestJournal(t *testing.T) {
	acts := []string{"tank", "tell 1 3 -3 -1", "close 0 1", "reopen 0 1", "guard 4", "guard 0", "free 4", "load 2", "unload 2", "panel", "battery", "bid 9 1 3 1 1000000", "award", "report 3 15"}
	c := open(t, chapterAtoll(plenty))
	done := ""
	for _, line := range acts {
		doAll(t, c, line)
		done += line + "\n"
		for _, other := range []string{"money", "water", "line 9", "guard 9", "no line", "reopen 1 0", "load 3", ""} {
			_, _ = c.Do(other)
		}
		if journal, e := c.Journal(); journal != done || e != api.OK {
			t.Errorf("%q %v", journal, e)
		}
		if again := replayed(t, chapterAtoll(plenty), c); everything(again) != everything(c) {
			t.Error(everything(again), everything(c))
		}
	}
	again, index, e := council.Replay(chapterAtoll(plenty), "")
	if e != api.OK || index != -1 || everything(again) != everything(open(t, chapterAtoll(plenty))) {
		t.Error(index, e)
	}
	// Both go on alike.
	again = replayed(t, chapterAtoll(plenty), c)
	doAll(t, c, "guard 1", "tell 0 1 0 99")
	doAll(t, again, "guard 1", "tell 0 1 0 99")
	if everything(again) != everything(c) {
		t.Error(everything(again), everything(c))
	}
}

// P10.8: journals with a line that has an error; a line that is not one of an act, and what is after the last line feed, has the error ErrText.
func TestBadJournals(t *testing.T) {
	for _, x := range []struct {
		journal string
		index   int
		want    api.Errno
	}{
		{"tank\nmoney\n", 1, api.ErrText}, {"water\n", 0, api.ErrText}, {"line 0\n", 0, api.ErrText}, {"line 9\n", 0, api.ErrText}, {"want 301\n", 0, api.ErrText}, {"cheat\n", 0, api.ErrText}, {"short\n", 0, api.ErrText}, {"sale\n", 0, api.ErrText}, {"cooler\n", 0, api.ErrText}, {"beetles\n", 0, api.ErrText},
		{"tank", 0, api.ErrText}, {"tank\ntank", 1, api.ErrText}, {"guard 9", 0, api.ErrText}, {"x", 0, api.ErrText}, {" ", 0, api.ErrText}, {"tank\n ", 1, api.ErrText},
		{"\n", 0, api.ErrText}, {"tank\n\n", 1, api.ErrText}, {"\ntank\n", 0, api.ErrText}, {"tank\r\n", 0, api.ErrText}, {"tank \n", 0, api.ErrText},
		{"guard 0\nguard 0\n", 1, api.ErrState}, {"guard 9\n", 0, api.ErrArg}, {"tell 0 1 12 30\n", 0, api.ErrRule}, {"load 2\nload 1\n", 1, api.ErrRule}, {"panel\npanel\npanel\npanel\npanel\n", 4, api.ErrRule}, {"award\nbid 0 0 0 1 1\n", 1, api.ErrState},
		{strings.Repeat("x", 200) + "\n", 0, api.ErrText}, {strings.Repeat("x", 201) + "\n", 0, api.ErrLong}, {"tank\n" + strings.Repeat("x", 201) + "\ntank\n", 1, api.ErrLong}, {strings.Repeat("x", 201), 0, api.ErrText}, {"award\n" + strings.Repeat("x", 201), 1, api.ErrText},
		{"guard 9\n" + strings.Repeat("x", 201) + "\n", 0, api.ErrArg},
		{strings.Repeat("x", 100000), 0, api.ErrText}, {strings.Repeat("x", 100001), -1, api.ErrLong}, {strings.Repeat("x", 99999) + "\n", 0, api.ErrLong}, {strings.Repeat("\n", 100000), 0, api.ErrText}, {strings.Repeat("\n", 100001), -1, api.ErrLong},
		{strings.Repeat("tank\n", 20000), 20, api.ErrRule}, {strings.Repeat("tank\n", 20001), -1, api.ErrLong}, {strings.Repeat("award\n", 2), 1, api.ErrState},
		{strings.Repeat("bid 0 0 0 1 1\n", 11), 10, api.ErrState}, {strings.Repeat("guard 3\nfree 3\n", 60), 66, api.ErrRule},
	} {
		if c, index, e := council.Replay(chapterAtoll(200), x.journal); c != nil || index != x.index || e != x.want {
			t.Errorf("%.40q: %v %v", x.journal, index, e)
		}
	}
	many := strings.Repeat("guard 3\nfree 3\n", 50)
	c, index, e := council.Replay(chapterAtoll(plenty), many)
	if c == nil || index != -1 || e != api.OK {
		t.Fatal(index, e)
	}
	for _, more := range []struct {
		line string
		want api.Errno
	}{{"guard 3\n", api.ErrState}, {"guard 9\n", api.ErrArg}, {"money\n", api.ErrText}, {"guard 3", api.ErrText}} {
		if c, index, e := council.Replay(chapterAtoll(plenty), many+more.line); c != nil || index != 100 || e != more.want {
			t.Error(more, index, e)
		}
	}
}

// damaged returns a line with a letter that is another one, or a letter less, or a letter more.
func damaged(r *rand.Rand, line []byte) []byte {
	const letters = "0123456789 -abcdeghiklmnoprtuw\n\x00\xff"
	k, letter := r.Intn(len(line)), letters[r.Intn(len(letters))]
	switch r.Intn(3) {
	case 0:
		line[k] = letter
		return line
	case 1:
		return slices.Delete(line, k, k+1)
	default:
		return slices.Insert(line, k+r.Intn(2), letter)
	}
}

// P0.1, P10.8: lines near to those of a council do what the second writing says.
func TestDamagedLines(t *testing.T) {
	r := rand.New(rand.NewSource(113))
	done := 0
	for range 300 {
		a := randomAtoll(r)
		p, c := &plain{atoll: a}, open(t, a)
		for range 60 {
			line := []byte(randomLine(r, a))
			if r.Intn(2) == 0 {
				line = damaged(r, line)
			}
			want, wanted := p.do(string(line))
			if s, e := c.Do(string(line)); s != want || e != wanted {
				t.Fatalf("%v %q: %q %v, not %q %v", a, line, s, e, want, wanted)
			}
			if wanted == api.OK {
				done++
			}
		}
		if journal, e := c.Journal(); journal != p.journal() || e != api.OK {
			t.Fatal(journal, e)
		}
	}
	if done < 1000 {
		t.Error(done)
	}
}

// P0.10, P10.8: councils that are replayed, at any time, from their journals return the same of everything; a journal that is cut or longer does not.
func TestReplays(t *testing.T) {
	r := rand.New(rand.NewSource(114))
	for range 150 {
		a := randomAtoll(r)
		c := open(t, a)
		for range 40 {
			_, _ = c.Do(randomLine(r, a))
		}
		again := replayed(t, a, c)
		if everything(again) != everything(c) {
			t.Fatal(a, everything(again), everything(c))
		}
		journal, _ := again.Journal()
		count := strings.Count(journal, "\n")
		if count == 0 {
			continue
		}
		if c, index, e := council.Replay(a, journal[:len(journal)-1]); c != nil || index != count-1 || e != api.ErrText {
			t.Fatal(journal, index, e)
		}
		if c, index, e := council.Replay(a, journal+"want 1\n"); c != nil || index != count || e != api.ErrText {
			t.Fatal(journal, index, e)
		}
		rest := journal[strings.Index(journal, "\n")+1:]
		if c, _, e := council.Replay(a, rest); e == api.OK {
			if s, _ := c.Journal(); s != rest {
				t.Fatal(rest, s)
			}
		}
	}
	if fmt.Sprint(council.Replay(chapterAtoll(-1), "tank\n")) != "<nil> -1 2" {
		t.Error("an atoll that is not as defined")
	}
}
