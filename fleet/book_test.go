package fleet_test

import (
	"math"
	"math/rand"
	"slices"
	"strings"
	"testing"

	"motu/api"
	"motu/fleet"
)

// P9.5: the chapter's example, and books at their bounds.
func TestPrint(t *testing.T) {
	most := slices.Repeat([]api.FleetBid{bid(9, 2, 7, 1, 1000000)}, api.FleetBids)
	least := slices.Repeat([]api.FleetBid{bid(0, 0, 0, 1, 0)}, api.FleetBids)
	for _, x := range []struct {
		bids []api.FleetBid
		sale int
		want string
	}{
		{chapterBids(), 13, chapterBook},
		{nil, 0, "end 0 000\n"},
		{[]api.FleetBid{}, 0, "end 0 000\n"},
		{least[:1], 0, "0 0 0 1 0 0\nend 1 004\n"},
		{least[:1], 1, "0 0 0 1 0 1\nend 1 010\n"},
		{[]api.FleetBid{bid(1, 0, 0, 1, 0)}, 0, "1 0 0 1 0 0\nend 1 005\n"},
		{[]api.FleetBid{bid(0, 1, 0, 1, 0)}, 0, "0 1 0 1 0 0\nend 1 006\n"},
		{[]api.FleetBid{bid(0, 0, 1, 1, 0)}, 0, "0 0 1 1 0 0\nend 1 007\n"},
		{[]api.FleetBid{bid(0, 0, 0, 2, 0)}, 0, "0 0 0 2 0 0\nend 1 008\n"},
		{[]api.FleetBid{bid(0, 0, 0, 1, 1)}, 0, "0 0 0 1 1 0\nend 1 009\n"},
		// 4 and 5 times 99 are 499
		{[]api.FleetBid{bid(0, 0, 0, 1, 99)}, 0, "0 0 0 1 99 0\nend 1 000\n"},
		{[]api.FleetBid{bid(0, 0, 0, 1, 98)}, 0, "0 0 0 1 98 0\nend 1 494\n"},
		{[]api.FleetBid{bid(0, 0, 0, 8, 0)}, 0, "0 0 0 8 0 0\nend 1 032\n"},
		{most[:1], 0, "9 2 7 1 1000000 0\nend 1 058\n"},
		// 4 and 10, and 10 for the second bid, and 12 if it is sold
		{least[:2], 1, "0 0 0 1 0 1\n0 0 0 1 0 0\nend 2 020\n"},
		{least[:2], 2, "0 0 0 1 0 0\n0 0 0 1 0 1\nend 2 026\n"},
		// ten times 4, and 6 times 45
		{least, 0, strings.Repeat("0 0 0 1 0 0\n", 10) + "end 10 310\n"},
		{least, 1023, strings.Repeat("0 0 0 1 0 1\n", 10) + "end 10 141\n"},
		{least, 512, strings.Repeat("0 0 0 1 0 0\n", 9) + "0 0 0 1 0 1\nend 10 370\n"},
		{most, 1023, plainBook(most, 1023)},
	} {
		old := slices.Clone(x.bids)
		if s, e := fleet.Print(x.bids, x.sale); e != api.OK || s != x.want || s != plainBook(x.bids, x.sale) || !slices.Equal(x.bids, old) {
			t.Errorf("%v: %q %v", x.bids, s, e)
		}
		if bids, sale, e := fleet.Read(x.want); e != api.OK || !slices.Equal(bids, x.bids) || sale != x.sale {
			t.Errorf("%q: %v %v %v", x.want, bids, sale, e)
		}
	}
}

// P9.5: bids and sales that are not as defined; too many bids are told first.
func TestPrintErrors(t *testing.T) {
	least := slices.Repeat([]api.FleetBid{bid(0, 0, 0, 1, 0)}, api.FleetBids)
	for _, bad := range []api.FleetBid{
		{}, bid(-1, 0, 0, 1, 0), bid(10, 0, 0, 1, 0), bid(0, -1, 0, 1, 0), bid(0, 3, 0, 1, 0), bid(0, 0, -1, 1, 0), bid(0, 0, 8, 1, 0), bid(0, 0, 8, 0, 0), bid(0, 0, 0, 0, 0), bid(0, 0, 0, 9, 0), bid(0, 0, 1, 8, 0), bid(0, 0, 7, 2, 0),
		bid(0, 0, 0, 1, -1), bid(0, 0, 0, 1, 1000001), bid(math.MinInt, 0, 0, 1, 0), bid(math.MaxInt, 0, 0, 1, 0), bid(0, math.MinInt, 0, 1, 0), bid(0, math.MaxInt, 0, 1, 0), bid(0, 0, math.MinInt, 1, 0), bid(0, 0, math.MaxInt, 1, 0),
		bid(0, 0, 0, math.MinInt, 0), bid(0, 0, 1, math.MaxInt, 0), bid(0, 0, 0, 1, math.MinInt), bid(0, 0, 0, 1, math.MaxInt),
	} {
		for _, bids := range [][]api.FleetBid{{bad}, append(slices.Clone(least[1:]), bad), append([]api.FleetBid{bad}, least[1:]...)} {
			if s, e := fleet.Print(bids, 0); e != api.ErrArg || s != "" {
				t.Errorf("%v: %q %v", bids, s, e)
			}
		}
		if s, e := fleet.Print(append([]api.FleetBid{bad}, least...), -1); e != api.ErrLong || s != "" {
			t.Errorf("%v: %q %v", bad, s, e)
		}
	}
	for many := range 12 {
		for _, sale := range []int{-1, 1 << many, math.MinInt, math.MaxInt} {
			want := api.ErrArg
			if many > api.FleetBids {
				want = api.ErrLong
			}
			if s, e := fleet.Print(slices.Repeat(least[:1], many), sale); e != want || s != "" {
				t.Errorf("%d %d: %q %v", many, sale, s, e)
			}
		}
	}
}

// P9.5: texts that are no books, with the order of errors: ErrLong of the text, ErrText, ErrLong of the bids, ErrArg.
func TestReadErrors(t *testing.T) {
	zeros := func(many int) string { return strings.Repeat("0 0 0 1 0 0\n", many) }
	chapter := func(old, changed string) string { return strings.Replace(chapterBook, old, changed, 1) }
	for name, x := range map[string]struct {
		text string
		want api.Errno
	}{
		"empty":                      {"", api.ErrText},
		"a line feed":                {"\n", api.ErrText},
		"no line feed":               {"end 0 000", api.ErrText},
		"no end":                     {zeros(1), api.ErrText},
		"end alone":                  {"end\n", api.ErrText},
		"end without check":          {"end 0\n", api.ErrText},
		"end without bids":           {"end 000\n", api.ErrText},
		"end with more":              {"end 0 000 0\n", api.ErrText},
		"a check of one digit":       {zeros(1) + "end 1 4\n", api.ErrText},
		"a check of two digits":      {zeros(1) + "end 1 04\n", api.ErrText},
		"a check of four digits":     {zeros(1) + "end 1 0004\n", api.ErrText},
		"a wrong check":              {chapter("359", "358"), api.ErrText},
		"a check that was not taken": {chapter("359", "858"), api.ErrText},
		"a check that is the sum":    {chapter("359", "2355"), api.ErrText},
		"a check of others":          {chapter("0 0 0 2 30 1\n1 0 1 3 50 0", "1 0 1 3 50 0\n0 0 0 2 30 1"), api.ErrText},
		"a check of each line":       {"0 0 0 1 0 0\n0 0 0 1 0 0\nend 2 008\n", api.ErrText},
		"a check of places from 0":   {"0 0 0 1 0 0\nend 1 003\n", api.ErrText},
		"a check without the sale":   {"0 0 0 1 0 1\nend 1 004\n", api.ErrText},
		"a sale that was changed":    {chapter("30 1", "30 0"), api.ErrText},
		"a fleet that was changed":   {chapter("1 0 1 3", "2 0 1 3"), api.ErrText},
		"fewer bids":                 {chapter("end 4", "end 3"), api.ErrText},
		"more bids":                  {chapter("end 4", "end 5"), api.ErrText},
		"bids with a zero":           {chapter("end 4", "end 04"), api.ErrText},
		"bids with a sign":           {chapter("end 4", "end +4"), api.ErrText},
		"no number of bids":          {"end - 000\n", api.ErrText},
		"a capital end":              {"End 0 000\n", api.ErrText},
		"end with more letters":      {"ends 0 000\n", api.ErrText},
		"a blank after it":           {"end 0 000 \n", api.ErrText},
		"a blank before it":          {" end 0 000\n", api.ErrText},
		"two blanks":                 {"end  0 000\n", api.ErrText},
		"a carriage return":          {"end 0 000\r\n", api.ErrText},
		"two ends":                   {"end 0 000\nend 0 000\n", api.ErrText},
		"bids after the end":         {"end 0 000\n" + zeros(1), api.ErrText},
		"an end within":              {"end 0 000\n" + zeros(1) + "end 1 004\n", api.ErrText},
		"a line after the end":       {chapterBook + "\n", api.ErrText},
		"a line before":              {"\n" + chapterBook, api.ErrText},
		"an empty line":              {zeros(1) + "\nend 1 004\n", api.ErrText},
		"without the first letter":   {chapterBook[1:], api.ErrText},
		"five words":                 {"0 0 0 1 0\nend 1 004\n", api.ErrText},
		"seven words":                {"0 0 0 1 0 0 0\nend 1 004\n", api.ErrText},
		"twelve words":               {"0 0 0 1 0 0 0 0 0 1 0 0\nend 2 014\n", api.ErrText},
		"two blanks between":         {"0 0 0 1  0 0\nend 1 004\n", api.ErrText},
		"a blank in front":           {" 0 0 0 1 0 0\nend 1 004\n", api.ErrText},
		"a blank at the end":         {"0 0 0 1 0 0 \nend 1 004\n", api.ErrText},
		"a tab":                      {"0 0\t0 1 0 0\nend 1 004\n", api.ErrText},
		"a zero in front":            {chapter(" 25 ", " 025 "), api.ErrText},
		"a sale with a zero":         {"0 0 0 1 0 01\nend 1 010\n", api.ErrText},
		"a plus":                     {"0 0 0 +1 0 0\nend 1 004\n", api.ErrText},
		"a minus":                    {"0 0 0 1 -0 0\nend 1 004\n", api.ErrText},
		"less than 0":                {"-1 0 0 1 0 0\nend 1 003\n", api.ErrText},
		"eight digits":               {"0 0 0 1 10000000 0\nend 1 204\n", api.ErrText},
		"many digits":                {"0 0 0 1 18446744073709551616 0\nend 1 159\n", api.ErrText},
		"a letter":                   {"0 0 0 1 a 0\nend 1 004\n", api.ErrText},
		"a digit of another script":  {"0 0 0 \u0661 0 0\nend 1 004\n", api.ErrText},
		"no letters at all":          {"0 0 0 1 \xff 0\nend 1 004\n", api.ErrText},
		"a zero byte":                {"0 0 0 1 \x00 0\nend 1 004\n", api.ErrText},
		"sold twice":                 {"0 0 0 1 0 2\nend 1 016\n", api.ErrText},
		"sold many times":            {"0 0 0 1 0 9999999\nend 1 238\n", api.ErrText},
		"sold twice, and a zone":     {"0 3 0 1 0 2\nend 1 022\n", api.ErrText},
		"sold twice, and long":       {zeros(10) + "0 0 0 1 0 2\nend 11 007\n", api.ErrText},
		"wrong check, and a zone":    {"0 3 0 1 0 0\nend 1 011\n", api.ErrText},
		"wrong check, and long":      {zeros(11) + "end 11 375\n", api.ErrText},
		"a fleet":                    {"10 0 0 1 0 0\nend 1 014\n", api.ErrArg},
		"a zone":                     {"0 3 0 1 0 0\nend 1 010\n", api.ErrArg},
		"a day":                      {"0 0 8 1 0 0\nend 1 028\n", api.ErrArg},
		"a day more":                 {"0 0 7 2 0 0\nend 1 029\n", api.ErrArg},
		"no days":                    {"0 0 0 0 0 0\nend 1 000\n", api.ErrArg},
		"too many days":              {"0 0 0 9 0 0\nend 1 036\n", api.ErrArg},
		"a price":                    {"0 0 0 1 1000001 0\nend 1 029\n", api.ErrArg},
		"a fleet of seven digits":    {"9999999 0 0 1 0 0\nend 1 043\n", api.ErrArg},
		"days of seven digits":       {"0 0 9999999 9999999 0 0\nend 1 273\n", api.ErrArg},
		"bids":                       {zeros(11) + "end 11 374\n", api.ErrLong},
		"bids, one of them bad":      {zeros(10) + "0 3 0 1 0 0\nend 11 061\n", api.ErrLong},
		"100 bids":                   {zeros(100) + "end 100 160\n", api.ErrLong},
		"all bids, sold":             {strings.Repeat("0 0 0 1 0 1\n", 100) + "end 100 021\n", api.ErrLong},
		"a text":                     {strings.Repeat("x", api.FleetText), api.ErrText},
		"a long text":                {strings.Repeat("x", api.FleetText+1), api.ErrLong},
		"a text of bids":             {zeros(166), api.ErrText},
		"a long text of bids":        {zeros(167), api.ErrLong},
	} {
		if bids, sale, e := fleet.Read(x.text); e != x.want || len(bids) != 0 || sale != 0 {
			t.Errorf("%s: %q: %v %v %v", name, x.text, bids, sale, e)
		}
	}
}

// anyBook returns bids for any sea, and a sale.
func anyBook(r *rand.Rand) ([]api.FleetBid, int) {
	bids := anyBids(r, fullSea())
	for k := range bids {
		bids[k].Fleet = r.Intn(api.FleetFleets)
	}
	return bids, r.Intn(1 << len(bids))
}

// P9.5: what was written is read as what was written.
func TestBooksRandom(t *testing.T) {
	r := rand.New(rand.NewSource(144))
	for range 5000 {
		bids, sale := anyBook(r)
		s, e := fleet.Print(bids, sale)
		if s != plainBook(bids, sale) || e != api.OK {
			t.Fatalf("%v %v: %q %v", bids, sale, s, e)
		}
		for range 2 {
			back, k, e := fleet.Read(s)
			if e != api.OK || !slices.Equal(back, bids) || k != sale {
				t.Fatal(bids, sale, back, k, e)
			}
			clear(back)
		}
	}
}

// P9.5: each digit that was changed is noticed.
func TestChangedDigits(t *testing.T) {
	r := rand.New(rand.NewSource(145))
	books := []string{chapterBook, plainBook(nil, 0), plainBook(slices.Repeat([]api.FleetBid{bid(9, 2, 7, 1, 1000000)}, api.FleetBids), 1023)}
	for range 100 {
		books = append(books, plainBook(anyBook(r)))
	}
	for _, text := range books {
		for k, old := range text {
			if old < '0' || old > '9' {
				continue
			}
			for digit := '0'; digit <= '9'; digit++ {
				changed := text[:k] + string(digit) + text[k+1:]
				if back, sale, e := fleet.Read(changed); digit != old && (e != api.ErrText || len(back) != 0 || sale != 0) {
					t.Fatalf("%q: %v %v", changed, back, e)
				}
			}
		}
	}
}

// P0.9 and P9.5: whatever the text is, Read returns; what is read is written the same.
func FuzzRead(f *testing.F) {
	for _, s := range []string{"", chapterBook, "end 0 000\n", "0 3 0 1 0 0\nend 1 010\n", "0 0 0 1 0 0\nend 1 004", "0 0 0 1 \xff 0\nend 1 004\n", strings.Repeat("0 0 0 1 0 0\n", 11) + "end 11 374\n", strings.Repeat("1", api.FleetText+1)} {
		f.Add(s)
	}
	f.Fuzz(func(t *testing.T, text string) { readAndPrint(t, text) })
}

// readAndPrint asks for the same text if it is a book, and reports whether it is.
func readAndPrint(t *testing.T, text string) bool {
	t.Helper()
	bids, sale, e := fleet.Read(text)
	if e != api.OK {
		if len(bids) != 0 || sale != 0 || e != api.ErrText && e != api.ErrLong && e != api.ErrArg {
			t.Fatalf("%q: %v %v %v", text, bids, sale, e)
		}
		return false
	}
	if s, e := fleet.Print(bids, sale); s != text || e != api.OK {
		t.Fatalf("%q: %q %v", text, s, e)
	}
	return true
}

// P0.9 and P9.5: the same, for texts near to books. Some of them are books again.
func TestDamagedBooks(t *testing.T) {
	r := rand.New(rand.NewSource(146))
	const letters = "0123456789 \nend-+\x00\xff"
	seen := map[bool]int{}
	for range 50000 {
		text := []byte(plainBook(anyBook(r)))
		for range 1 + r.Intn(3) {
			k := r.Intn(len(text))
			letter := letters[r.Intn(len(letters))]
			text = slices.Replace(text, k, k+r.Intn(2), []byte{letter}[:r.Intn(2)]...)
		}
		seen[readAndPrint(t, string(text))]++
	}
	if seen[true] < 100 || seen[false] < 100 {
		t.Error(seen)
	}
}
