package council_test

import (
	"math/rand"
	"strconv"
	"strings"
	"testing"

	"motu/api"
	"motu/council"
)

// chapterScript has the lines of the chapter's examples, and what a console returns for each of them.
func chapterScript() (lines, returned []string) {
	for _, x := range [][2]string{
		{"water; tank; line 0; tell 0 1 12 30; tell 0 1 11 30; line 1", "2 0 0 0 0 0; ok; -1 0 1 2; error 7; ok; -1 3"},
		{"short; close 0 0; close 0 0; close 0 1; short; close 1 1; short", "0 357; ok; error 6; ok; 1 10; ok; error 5"},
		{"beetles; guard 2; beetles; guard 5", "0 1 3 5; ok; 0 1 4 -1; error 2"},
		{"want 60; load 0; load 2; load 1; want 60", "32 43 35 -1; ok; error 7; ok; 55 -1 -1 -1"},
		{"money; panel; panel; money", "50; ok; error 7; 0"},
		{"bid 1 0 1 3 50; bid 0 0 0 2 30; bid 0 0 2 2 25; bid 2 1 0 4 40; sale", "ok; ok; ok; ok; 14 95"},
		{"award; award; bid 0 0 0 1 1; money; battery; cooler", "ok; error 6; error 6; 95; ok; 3 0 0 0 0 1"},
		{"report 0 1; report 1 6; cheat; report 2 8; cheat; money", "ok; ok; error 5; ok; 0 2; 15"},
	} {
		lines, returned = append(lines, strings.Split(x[0], "; ")...), append(returned, strings.Split(x[1], "; ")...)
	}
	return lines, returned
}

func wantConsole(t *testing.T, a api.CouncilAtoll, script, want string) {
	t.Helper()
	if s, e := council.Console(a, script); s != want || e != api.OK {
		t.Errorf("%.60q: %.60q %v, not %.60q", script, s, e, want)
	}
}

// P10.9: the chapter's example, all at once, and as long as each of its lines is the last one, with and without a line feed at its end.
func TestChapterConsole(t *testing.T) {
	lines, returned := chapterScript()
	for count := range len(lines) + 1 {
		script, want := strings.Join(lines[:count], "\n"), strings.Join(returned[:count], "\n")
		if count > 0 {
			want += "\n"
		}
		wantConsole(t, chapterAtoll(200), script, want)
		wantConsole(t, chapterAtoll(200), script+"\n", want)
		wantConsole(t, chapterAtoll(200), "\n\n"+strings.ReplaceAll(script, "\n", "\n\n\n")+"\n\n", want)
	}
	c := open(t, chapterAtoll(200))
	for k, line := range lines {
		s, e := c.Do(line)
		want := map[string]string{"ok": ""}[returned[k]]
		if returned[k] != "ok" && !strings.HasPrefix(returned[k], "error") {
			want = returned[k]
		}
		if s != want || strings.HasPrefix(returned[k], "error") && "error "+strconv.Itoa(int(e)) != returned[k] {
			t.Error(line, s, e)
		}
	}
}

// P10.9: each error with its number; lines that are not empty, but have no word; scripts that are as long as can be.
func TestConsole(t *testing.T) {
	a := chapterAtoll(0)
	wantConsole(t, a, "", "")
	wantConsole(t, a, "\n", "")
	wantConsole(t, a, "\n\n\n", "")
	wantConsole(t, a, " ", "error 4\n")
	wantConsole(t, a, " \n\r\n\t\n\x00", "error 4\nerror 4\nerror 4\nerror 4\n")
	wantConsole(t, a, "award\r\naward", "error 4\nok\n")
	wantConsole(t, a, "award\naward\nmoney", "ok\nerror 6\n0\n")
	wantConsole(t, a, "guard 9\nno\ncheat\nfree 0\nguard 0\n"+strings.Repeat("x", 201)+"\n"+strings.Repeat("x", 200)+"\n"+strings.Repeat("x", 201), "error 2\nerror 4\nerror 5\nerror 6\nerror 7\nerror 3\nerror 4\nerror 3\n")
	open := a
	open.Book.Memories = nil
	wantConsole(t, open, "line 0\nline 1\nline 2\nline 6", "error 8\n-1 3\n-1\nerror 2\n")
	open.Book.Memories = []api.LandMemory{memory(0, 1, 2, 3), memory(1, 0, 2, 3)}
	wantConsole(t, open, "line 0\nline 6", "error 7\nerror 2\n")
	wantConsole(t, a, strings.Repeat("\n", 100000), "")
	wantConsole(t, a, strings.Repeat("x", 100000), "error 3\n")
	wantConsole(t, a, strings.Repeat("x\n", 50000), strings.Repeat("error 4\n", 50000))
	wantConsole(t, a, strings.Repeat("money\n", 16666)+"tank", strings.Repeat("0\n", 16666)+"error 7\n")
	for _, script := range []string{strings.Repeat("\n", 100001), strings.Repeat("x", 100001), strings.Repeat("tank\n", 20001)} {
		if s, e := council.Console(a, script); s != "" || e != api.ErrLong {
			t.Error(s, e)
		}
	}
}

// P10.9: the console returns what a council returns that was written down a second time.
func TestPlainConsole(t *testing.T) {
	r := rand.New(rand.NewSource(115))
	for range 150 {
		a := randomAtoll(r)
		p := &plain{atoll: a}
		script, want := "", ""
		for range 40 {
			line := randomLine(r, a)
			if r.Intn(8) == 0 {
				line = line[r.Intn(len(line)+1):]
			}
			script += line + "\n"
			s, e := p.do(line)
			switch {
			case line == "":
			case e != api.OK:
				want += "error " + strconv.Itoa(int(e)) + "\n"
			case s == "":
				want += "ok\n"
			default:
				want += s + "\n"
			}
		}
		wantConsole(t, a, script, want)
		wantConsole(t, a, strings.TrimSuffix(script, "\n"), want)
	}
}

func FuzzConsole(f *testing.F) {
	lines, _ := chapterScript()
	for _, script := range []string{"", strings.Join(lines, "\n"), "tank\n\ntank", "guard -0\nguard 00\nguard 1000000000", "tell 0 1 -1000 1000\nline 0", strings.Repeat("x", 201)} {
		f.Add(script)
	}
	f.Fuzz(func(t *testing.T, script string) {
		if len(script) > 2000 {
			return
		}
		a := chapterAtoll(1000)
		p, c := &plain{atoll: a}, open(t, a)
		want := ""
		for _, line := range strings.Split(script, "\n") {
			s, e := p.do(line)
			got, e2 := c.Do(line)
			if got != s || e != e2 {
				t.Fatalf("%q: %q %v, not %q %v", line, got, e2, s, e)
			}
			switch {
			case line == "":
			case e != api.OK:
				want += "error " + strconv.Itoa(int(e)) + "\n"
			default:
				want += map[bool]string{true: "ok", false: s}[s == ""] + "\n"
			}
		}
		wantConsole(t, a, script, want)
		if everything(replayed(t, a, c)) != everything(c) {
			t.Fatalf("%q", script)
		}
	})
}
