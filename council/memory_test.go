package council_test

import (
	"math/rand"
	"reflect"
	"testing"

	"motu/api"
	"motu/council"
)

// scribble changes all numbers of all lists that are part of something.
func scribble(v reflect.Value, isPartOfList bool) {
	switch v.Kind() {
	case reflect.Struct:
		for k := range v.NumField() {
			scribble(v.Field(k), isPartOfList)
		}
	case reflect.Slice:
		for k := range v.Len() {
			scribble(v.Index(k), true)
		}
	case reflect.Int:
		if isPartOfList {
			v.SetInt(v.Int()*7 + 1)
		}
	case reflect.Bool:
		if isPartOfList {
			v.SetBool(!v.Bool())
		}
	}
}

func scribbleAtoll(a *api.CouncilAtoll) { scribble(reflect.ValueOf(a).Elem(), false) }

// P0.1, P10.10: no function changes an atoll.
func TestAtollIsKept(t *testing.T) {
	r := rand.New(rand.NewSource(116))
	lines, _ := chapterScript()
	for k := range 100 {
		a, same := chapterAtoll(plenty), chapterAtoll(plenty)
		if k > 0 {
			seed := r.Int63()
			a, same = randomAtoll(rand.New(rand.NewSource(seed))), randomAtoll(rand.New(rand.NewSource(seed)))
		}
		// There is room behind the lists, which nothing may be written into.
		a.Book.Memories = append(make([]api.LandMemory, 0, 20), a.Book.Memories...)
		room := a.Book.Memories[:20]
		c := open(t, a)
		script := ""
		for _, line := range lines {
			_, _ = c.Do(line)
			script += line + "\n"
		}
		for range 30 {
			_, _ = c.Do(randomLine(r, a))
		}
		_, _ = council.Console(a, script)
		_, _, _ = council.Replay(a, script)
		_ = replayed(t, a, c)
		for _, m := range room[len(a.Book.Memories):] {
			if m != (api.LandMemory{}) {
				t.Fatal(room)
			}
		}
		if len(a.Book.Memories) == 0 {
			a.Book.Memories = same.Book.Memories
		}
		if !reflect.DeepEqual(a, same) {
			t.Fatal(a, same)
		}
	}
}

// P10.10: an atoll that is changed later does not change its council, nor what it does.
func TestOwnAtoll(t *testing.T) {
	r := rand.New(rand.NewSource(117))
	for k := range 200 {
		seed := r.Int63()
		a, same := randomAtoll(rand.New(rand.NewSource(seed))), randomAtoll(rand.New(rand.NewSource(seed)))
		if k == 0 {
			a, same = chapterAtoll(plenty), chapterAtoll(plenty)
		}
		c, other := open(t, a), open(t, same)
		again, _, _ := council.Replay(a, "award\n")
		before := everything(again)
		scribbleAtoll(&a)
		if everything(c) != everything(other) || everything(again) != before {
			t.Fatal(same, everything(c), everything(other))
		}
		for range 60 {
			line := randomLine(r, same)
			s, e := c.Do(line)
			if s2, e2 := other.Do(line); s != s2 || e != e2 {
				t.Fatal(same, line, s, s2, e, e2)
			}
		}
		if everything(c) != everything(other) {
			t.Fatal(same, everything(c), everything(other))
		}
	}
}

// P10.10: what a council has returned can be changed without changing it, and does not change with it.
func TestOwnResults(t *testing.T) {
	c := open(t, chapterAtoll(plenty))
	doAll(t, c, "tell 0 1 11 30", "guard 2", "report 0 1", "report 0 8", "report 1 15")
	before := everything(c)
	for range 2 {
		water, _ := c.Water()
		line, _, _ := c.Line(0)
		beetles, _ := c.Beetles()
		wants, _ := c.Want(60)
		cheat, _ := c.Cheat()
		if len(water.Drought) != 3 || len(line) != 3 || len(beetles) != 4 || len(wants) != 2 || len(cheat) != 2 {
			t.Fatal(water, line, beetles, wants, cheat)
		}
		for _, list := range []any{&water, &line, &beetles, &wants, &cheat} {
			scribble(reflect.ValueOf(list).Elem(), false)
		}
		if everything(c) != before {
			t.Error(everything(c), before)
		}
	}
	beetles, _ := c.Beetles()
	doAll(t, c, "guard 0", "guard 1", "guard 3", "guard 4")
	if beetles[1] != 1 || beetles[2] != 4 {
		t.Error(beetles)
	}
}

// P10.10: councils of one atoll do not change each other, nor does one that is replayed.
func TestOwnState(t *testing.T) {
	r := rand.New(rand.NewSource(118))
	for range 100 {
		a := randomAtoll(r)
		c, other := open(t, a), open(t, a)
		for range 20 {
			_, _ = c.Do(randomLine(r, a))
		}
		before := everything(c)
		again := replayed(t, a, c)
		for range 30 {
			line := randomLine(r, a)
			_, _ = other.Do(line)
			_, _ = again.Do(line)
		}
		if everything(c) != before {
			t.Fatal(a, everything(c), before)
		}
	}
}

// R8: two councils in equal states return the same, however often they are asked.
func TestRepetition(t *testing.T) {
	r := rand.New(rand.NewSource(119))
	for range 50 {
		a := randomAtoll(r)
		c := open(t, a)
		for range 30 {
			_, _ = c.Do(randomLine(r, a))
		}
		first := everything(c)
		for range 3 {
			if everything(c) != first || everything(replayed(t, a, c)) != first {
				t.Fatal(a, first, everything(c))
			}
		}
	}
}
