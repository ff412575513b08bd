package land_test

import (
	"fmt"
	"math/rand"
	"slices"
	"strings"
	"testing"

	"motu/api"
	"motu/land"
)

const chapterText = "land 4 4 4\nperson - -\nperson 0 -\nperson 1 -\nperson - 0\nevent 0 0\nevent 0 1\nevent 0 2\nevent 1 1\n" +
	"memory 0 1 10 20\nmemory 1 2 5 8\nmemory 0 2 12 16\nmemory 1 3 -3 0\nend 36\n"

const smallText = "land 1 1 0\nperson - -\nevent 0 0\nend 03\n"

// ended returns lines with the end line that belongs to them.
func ended(lines ...string) string {
	text := strings.Join(lines, "\n") + "\n"
	sum, place := 0, 0
	for k := range len(text) {
		if digit := strings.IndexByte("0123456789", text[k]); digit >= 0 {
			sum += digit * []int{1, 2, 3, 4, 5, 6, 7, 8, 9}[place]
			place = (place + 1) % 9
		}
	}
	return text + fmt.Sprintf("end %02d\n", sum%97)
}

// plainText is the section 'Land books', written down a second time.
func plainText(b api.LandBook) string {
	number := func(n int) string { return strings.Replace(fmt.Sprint(n), "-1", "-", 1) }
	lines := []string{fmt.Sprintln("land", len(b.People), len(b.Events), len(b.Memories))}
	for _, p := range b.People {
		lines = append(lines, fmt.Sprintln("person", number(p.Mother), number(p.Adopted)))
	}
	for _, x := range b.Events {
		lines = append(lines, fmt.Sprintln("event", x.Strip, x.Holder))
	}
	for _, m := range b.Memories {
		lines = append(lines, fmt.Sprintln("memory", m.From, m.To, m.Years.Low, m.Years.High))
	}
	return ended(strings.TrimSuffix(strings.Join(lines, ""), "\n"))
}

// greatBook returns a book with as many of all as there can be, and long numbers.
func greatBook() api.LandBook {
	b := api.LandBook{
		People:   make([]api.LandPerson, api.LandPeople),
		Events:   slices.Repeat([]api.LandEvent{{Strip: 5, Holder: 9}}, api.LandEvents),
		Memories: slices.Repeat([]api.LandMemory{memory(6, 5, -1000, -999), memory(0, 1, -1000, 1000)}, api.LandMemories/2),
	}
	for k := range b.People {
		b.People[k] = api.LandPerson{Mother: k - 1, Adopted: k - 1}
	}
	return b
}

// P2.6: the chapter's example, and books at their bounds, written and read.
func TestTexts(t *testing.T) {
	for _, x := range []struct {
		b    api.LandBook
		text string
	}{
		{chapterBook(), chapterText},
		{eventsBook(1), smallText},
		{eventsBook(2, memory(0, 1, -1000, 1000)), "land 1 2 1\nperson - -\nevent 0 0\nevent 0 0\nmemory 0 1 -1000 1000\nend 23\n"},
		{otherBook(), ended(strings.Split(strings.Replace(chapterText[:strings.Index(chapterText, "end")], "land 4 4 4", "land 4 4 5", 1)+"memory 0 1 12 30", "\n")...)},
		{greatBook(), plainText(greatBook())},
	} {
		before := cloneBook(x.b)
		if s, e := land.Print(x.b); s != x.text || e != api.OK || !sameBook(x.b, before) {
			t.Errorf("%v: %q %v", x.b, s, e)
		}
		if b, e := land.Read(x.text); !sameBook(b, x.b) || e != api.OK {
			t.Errorf("%q: %v %v", x.text, b, e)
		}
	}
	if s, e := land.Print(api.LandBook{}); s != "" || e != api.ErrArg {
		t.Error(s, e)
	}
}

// replaced returns the small text with something else in it, and with the end line that belongs to it.
func replaced(old, by string) string {
	text := strings.Replace(smallText, old, by, 1)
	return ended(strings.TrimSuffix(text[:strings.LastIndex(text, "end")], "\n"))
}

// P2.6: texts that do not have the form of a book, or are none of a book as defined; ErrLong comes first, then ErrText.
func TestReadErrors(t *testing.T) {
	for name, x := range map[string]struct {
		text string
		want api.Errno
	}{
		"empty":                      {"", api.ErrText},
		"a line feed":                {"\n", api.ErrText},
		"no book":                    {"end 00\n", api.ErrText},
		"no first letter":            {chapterText[1:], api.ErrText},
		"no last line feed":          {strings.TrimSuffix(chapterText, "\n"), api.ErrText},
		"no end":                     {strings.TrimSuffix(smallText, "end 03\n"), api.ErrText},
		"a line feed more":           {chapterText + "\n", api.ErrText},
		"a line feed before":         {"\n" + chapterText, api.ErrText},
		"two books":                  {smallText + smallText, api.ErrText},
		"two ends":                   {smallText + "end 03\n", api.ErrText},
		"more after the end":         {smallText + "x", api.ErrText},
		"a wrong check":              {strings.Replace(chapterText, "36", "37", 1), api.ErrText},
		"a changed number":           {strings.Replace(chapterText, "16\n", "17\n", 1), api.ErrText},
		"a check of one digit":       {strings.Replace(smallText, "03", "3", 1), api.ErrText},
		"a check of three digits":    {strings.Replace(smallText, "03", "003", 1), api.ErrText},
		"a check above the modulus":  {strings.Replace(smallText, "03", "100", 1), api.ErrText},
		"a check with a sign":        {strings.Replace(smallText, "03", "+3", 1), api.ErrText},
		"no check":                   {strings.Replace(smallText, "end 03", "end", 1), api.ErrText},
		"an empty check":             {strings.Replace(smallText, "end 03", "end ", 1), api.ErrText},
		"two checks":                 {strings.Replace(smallText, "end 03", "end 03 03", 1), api.ErrText},
		"a blank after the check":    {strings.Replace(smallText, "end 03", "end 03 ", 1), api.ErrText},
		"a blank before the end":     {strings.Replace(smallText, "end 03", " end 03", 1), api.ErrText},
		"two blanks before check":    {strings.Replace(smallText, "end 03", "end  03", 1), api.ErrText},
		"another end":                {strings.Replace(smallText, "end 03", "End 03", 1), api.ErrText},
		"a carriage return":          {strings.Replace(smallText, "end 03", "end 03\r", 1), api.ErrText},
		"carriage returns":           {strings.ReplaceAll(smallText, "\n", "\r\n"), api.ErrText},
		"one line":                   {strings.ReplaceAll(smallText, "\n", " "), api.ErrText},
		"an empty line":              {strings.Replace(smallText, "\nevent", "\n\nevent", 1), api.ErrText},
		"two blanks":                 {replaced("event 0 0", "event 0  0"), api.ErrText},
		"two blanks after a word":    {replaced("event 0 0", "event  0 0"), api.ErrText},
		"a blank at the end":         {replaced("event 0 0", "event 0 0 "), api.ErrText},
		"a blank in front":           {replaced("event 0 0", " event 0 0"), api.ErrText},
		"a tab":                      {replaced("event 0 0", "event 0\t0"), api.ErrText},
		"a zero byte":                {replaced("event 0 0", "event 0 \x00"), api.ErrText},
		"no letters at all":          {replaced("event 0 0", "event 0 \xff"), api.ErrText},
		"a digit of another script":  {replaced("event 0 0", "event 0 \u0660"), api.ErrText},
		"another word":               {replaced("event", "evens"), api.ErrText},
		"a capital letter":           {replaced("event", "Event"), api.ErrText},
		"no word":                    {replaced("event 0 0", "0 0"), api.ErrText},
		"a word alone":               {replaced("event 0 0", "event"), api.ErrText},
		"a word and a blank":         {replaced("event 0 0", "event "), api.ErrText},
		"less than 0 as -0":          {replaced("event 0 0", "event 0 -0"), api.ErrText},
		"leading zeros":              {replaced("event 0 0", "event 0 00"), api.ErrText},
		"a leading zero":             {replaced("event 0 0", "event 01 0"), api.ErrText},
		"a leading zero after -":     {replaced("event 0 0", "event -01 0"), api.ErrText},
		"five digits":                {replaced("event 0 0", "event 10000 0"), api.ErrText},
		"five digits after -":        {replaced("event 0 0", "event -10000 0"), api.ErrText},
		"many digits":                {replaced("event 0 0", "event 18446744073709551616 0"), api.ErrText},
		"a sign":                     {replaced("event 0 0", "event +1 0"), api.ErrText},
		"two signs":                  {replaced("event 0 0", "event --1 0"), api.ErrText},
		"a - for a strip":            {replaced("event 0 0", "event - 0"), api.ErrText},
		"a - for a holder":           {replaced("event 0 0", "event 0 -"), api.ErrText},
		"one number of an event":     {replaced("event 0 0", "event 0"), api.ErrText},
		"three numbers of an event":  {replaced("event 0 0", "event 0 0 0"), api.ErrText},
		"one number of a person":     {replaced("person - -", "person -"), api.ErrText},
		"three numbers of a person":  {replaced("person - -", "person - - -"), api.ErrText},
		"nobody as a number":         {replaced("person - -", "person - -1"), api.ErrText},
		"no mother as a number":      {replaced("person - -", "person -1 -"), api.ErrText},
		"a person with two -":        {replaced("person - -", "person -- -"), api.ErrText},
		"two counts":                 {replaced("land 1 1 0", "land 1 1"), api.ErrText},
		"four counts":                {replaced("land 1 1 0", "land 1 1 0 0"), api.ErrText},
		"a - for a count":            {replaced("land 1 1 0", "land 1 1 -"), api.ErrText},
		"a person more":              {replaced("land 1 1 0", "land 2 1 0"), api.ErrText},
		"a person less":              {replaced("land 1 1 0", "land 0 1 0"), api.ErrText},
		"an event more":              {replaced("land 1 1 0", "land 1 2 0"), api.ErrText},
		"an event less":              {replaced("land 1 1 0", "land 1 0 0"), api.ErrText},
		"a memory more":              {replaced("land 1 1 0", "land 1 1 1"), api.ErrText},
		"a memory less":              {ended("land 1 2 0", "person - -", "event 0 0", "event 0 0", "memory 0 1 0 0"), api.ErrText},
		"a count of 9999":            {replaced("land 1 1 0", "land 9999 9999 9999"), api.ErrText},
		"-1 memories":                {replaced("land 1 1 0", "land 1 1 -1"), api.ErrText},
		"-1 people":                  {ended("land -1 1 0", "event 0 0"), api.ErrText},
		"-1 events":                  {ended("land 1 -1 0", "person - -"), api.ErrText},
		"two heads":                  {replaced("land 1 1 0", "land 1 1 0\nland 1 1 0"), api.ErrText},
		"no head":                    {replaced("land 1 1 0\n", ""), api.ErrText},
		"an event before a person":   {ended("land 1 1 0", "event 0 0", "person - -"), api.ErrText},
		"a memory before an event":   {ended("land 1 2 1", "person - -", "event 0 0", "memory 0 1 0 0", "event 0 0"), api.ErrText},
		"an event as a person":       {ended("land 2 1 0", "person - -", "event 0 0", "event 0 0"), api.ErrText},
		"three numbers of a memory":  {ended("land 1 2 1", "person - -", "event 0 0", "event 0 0", "memory 0 1 0"), api.ErrText},
		"five numbers of a memory":   {ended("land 1 2 1", "person - -", "event 0 0", "event 0 0", "memory 0 1 0 0 0"), api.ErrText},
		"wrong check, no book":       {"land 0 0 0\nend 01\n", api.ErrText},
		"no form, no book":           {replaced("event 0 0", "event 9 00"), api.ErrText},
		"no people":                  {"land 0 0 0\nend 00\n", api.ErrArg},
		"no events":                  {ended("land 1 0 0", "person - -"), api.ErrArg},
		"people":                     {ended("land 11 1 0", strings.Repeat("person - -\n", 11)+"event 0 0"), api.ErrArg},
		"events":                     {ended("land 1 8 0", "person - -", strings.Repeat("event 0 0\n", 7)+"event 0 0"), api.ErrArg},
		"memories":                   {ended("land 1 2 11", "person - -", "event 0 0", "event 0 0", strings.Repeat("memory 0 1 0 0\n", 10)+"memory 0 1 0 0"), api.ErrArg},
		"a holder":                   {"land 1 1 0\nperson - -\nevent 0 1\nend 08\n", api.ErrArg},
		"a holder below 0":           {replaced("event 0 0", "event 0 -1"), api.ErrArg},
		"a strip":                    {"land 1 1 0\nperson - -\nevent 1000 0\nend 07\n", api.ErrArg},
		"a strip of -9999":           {replaced("event 0 0", "event -9999 0"), api.ErrArg},
		"a mother":                   {"land 1 1 0\nperson -2 -\nevent 0 0\nend 11\n", api.ErrArg},
		"who has adopted":            {replaced("person - -", "person - -2"), api.ErrArg},
		"her own mother":             {replaced("person - -", "person 0 -"), api.ErrArg},
		"an event after itself":      {ended("land 1 2 1", "person - -", "event 0 0", "event 0 0", "memory 0 0 0 0"), api.ErrArg},
		"an event that is not there": {ended("land 1 2 1", "person - -", "event 0 0", "event 0 0", "memory 0 2 0 0"), api.ErrArg},
		"no span":                    {ended("land 1 2 1", "person - -", "event 0 0", "event 0 0", "memory 0 1 1 0"), api.ErrArg},
		"too many years":             {ended("land 1 2 1", "person - -", "event 0 0", "event 0 0", "memory 0 1 0 1001"), api.ErrArg},
		"too many years before":      {ended("land 1 2 1", "person - -", "event 0 0", "event 0 0", "memory 0 1 -1001 0"), api.ErrArg},
		"a long text":                {strings.Repeat("x", api.LandText+1), api.ErrLong},
		"a text":                     {strings.Repeat("x", api.LandText), api.ErrText},
		"a long book":                {chapterText + strings.Repeat("\n", api.LandText), api.ErrLong},
		"many people in 4999 bytes":  {ended("land 451 1 0", strings.Repeat("person - -\n", 451)+"event 0 0"), api.ErrArg},
		"many people in 5010 bytes":  {ended("land 452 1 0", strings.Repeat("person - -\n", 452)+"event 0 0"), api.ErrLong},
	} {
		if b, e := land.Read(x.text); e != x.want || !sameBook(b, api.LandBook{}) {
			t.Errorf("%s: %q: %v %v", name, x.text, b, e)
		}
	}
}

// P2.6: what was written is read as what was written, and what is read shares no memory with what was read before.
func TestTextsRandom(t *testing.T) {
	r := rand.New(rand.NewSource(32))
	for range 2000 {
		b := randomBook(r, 3)
		s, e := land.Print(b)
		if s != plainText(b) || e != api.OK {
			t.Fatalf("%v: %q %v", b, s, e)
		}
		back, e := land.Read(s)
		if !sameBook(back, b) || e != api.OK {
			t.Fatal(b, back, e)
		}
		clear(back.People)
		clear(back.Events)
		clear(back.Memories)
		if again, e := land.Read(s); !sameBook(again, b) || e != api.OK {
			t.Fatal(b, again, e)
		}
	}
}

// P2.6: each digit that is changed is noticed.
func TestChangedDigits(t *testing.T) {
	r := rand.New(rand.NewSource(33))
	books := []api.LandBook{chapterBook(), otherBook(), eventsBook(1), greatBook()}
	for range 20 {
		books = append(books, randomBook(r, 3))
	}
	for _, b := range books {
		text, _ := land.Print(b)
		for k := range len(text) {
			if text[k] < '0' || text[k] > '9' {
				continue
			}
			for d := '0'; d <= '9'; d++ {
				changed := text[:k] + string(d) + text[k+1:]
				if _, e := land.Read(changed); changed != text && e != api.ErrText {
					t.Fatalf("%q: %v", changed, e)
				}
			}
		}
	}
}

// P0.1 and P2.6: whatever the text is, Read returns; what is read is written the same.
func FuzzRead(f *testing.F) {
	for _, s := range []string{"", chapterText, smallText, "land 0 0 0\nend 00\n", "land 1 1 0\nperson -2 -\nevent 0 0\nend 11\n", "land -1 1 0\nevent 0 0\nend 03\n", strings.Repeat("1", api.LandText+1), plainText(greatBook())} {
		f.Add(s)
	}
	f.Fuzz(func(t *testing.T, text string) { readAndPrint(t, text) })
}

func readAndPrint(t *testing.T, text string) {
	b, e := land.Read(text)
	if e != api.OK {
		if !sameBook(b, api.LandBook{}) || e != api.ErrText && e != api.ErrLong && e != api.ErrArg {
			t.Fatalf("%q: %v %v", text, b, e)
		}
		return
	}
	if s, e := land.Print(b); s != text || e != api.OK {
		t.Fatalf("%q: %q %v", text, s, e)
	}
}

// P0.1 and P2.6: the same, for texts near to books; every other one gets the end line that belongs to it.
func TestDamagedTexts(t *testing.T) {
	r := rand.New(rand.NewSource(34))
	const letters = "0123456789 \n-+landpersoevtmy\x00\xff"
	for k := range 20000 {
		s, _ := land.Print(randomBook(r, 3))
		text := []byte(s)
		if k%2 == 0 {
			text = text[:strings.LastIndex(s, "end")]
		}
		for range 1 + r.Intn(3) {
			at := r.Intn(len(text))
			switch r.Intn(3) {
			case 0:
				text[at] = letters[r.Intn(len(letters))]
			case 1:
				text = slices.Insert(text, at, letters[r.Intn(len(letters))])
			default:
				text = slices.Delete(text, at, min(len(text)-1, at+1))
			}
		}
		if k%2 == 0 {
			readAndPrint(t, ended(strings.TrimSuffix(string(text), "\n")))
		} else {
			readAndPrint(t, string(text))
		}
	}
}
