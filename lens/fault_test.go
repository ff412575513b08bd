package lens_test

import (
	"math/rand"
	"testing"

	"motu/api"
	"motu/lens"
)

func fault(t *testing.T, i api.LensIslet, tanks int) api.LensFault {
	t.Helper()
	f, e := lens.Fault(i, tanks)
	if e != api.OK {
		t.Fatal(i, tanks, e)
	}
	return f
}

var fine = api.LensFault{Rule: api.LensFine}

// P1.3: the chapter's examples, and the order of faults.
func TestFaultExamples(t *testing.T) {
	for _, x := range []struct {
		name  string
		tanks int
		set   func(*api.LensIslet)
		want  api.LensFault
	}{
		{"enough", 12, func(i *api.LensIslet) {}, fine},
		{"one less", 11, func(i *api.LensIslet) {}, api.LensFault{Drought: []bool{n, y, y}, Month: 2, Rule: api.LensLacks}},
		{"seven", 7, func(i *api.LensIslet) {}, api.LensFault{Drought: []bool{n, n, y}, Month: 2, Rule: api.LensLacks}},
		{"none, with no dry month", 0, func(i *api.LensIslet) {}, api.LensFault{Drought: []bool{n, n, n}, Rule: api.LensLacks}},
		{"salt later", 12, func(i *api.LensIslet) { i.Wells = []int{100, 325} }, api.LensFault{Drought: []bool{y, y, n}, Month: 1, Rule: api.LensSalts, Well: 1}},
		{"the first well of two", 12, func(i *api.LensIslet) { i.Wells = []int{361, 100, 400} }, api.LensFault{Drought: []bool{y, n, n}, Rule: api.LensSalts}},
		{"the first well, not the saltest", 12, func(i *api.LensIslet) { i.Wells = []int{100, 361, 400} }, api.LensFault{Drought: []bool{y, n, n}, Rule: api.LensSalts, Well: 1}},
		{"as much as the well's number", 12, func(i *api.LensIslet) { i.Wells = []int{324} }, fine},
		{"lack before salt", 0, func(i *api.LensIslet) { i.Wells = []int{1000} }, api.LensFault{Drought: []bool{n, n, n}, Rule: api.LensLacks}},
		{"salt in an earlier month", 11, func(i *api.LensIslet) { i.Wells = []int{568} }, api.LensFault{Drought: []bool{n, y, n}, Month: 1, Rule: api.LensSalts}},
		{"no wells", 12, func(i *api.LensIslet) { i.Wells = nil }, fine},
		{"no dry months", 9, func(i *api.LensIslet) { i.Most = 0 }, fine},
		{"none in a row", 9, func(i *api.LensIslet) { i.Row = 0 }, fine},
		{"one in a row", 10, func(i *api.LensIslet) { i.Row = 1 }, fine},
		{"one in a row, with one tank less", 9, func(i *api.LensIslet) { i.Row = 1 }, api.LensFault{Drought: []bool{n, n, y}, Month: 2, Rule: api.LensLacks}},
	} {
		i := chapterIslet()
		x.set(&i)
		if f := fault(t, i, x.tanks); !sameFault(f, x.want) {
			t.Errorf("%s: %v", x.name, f)
		}
	}
}

// plainFault goes through droughts and truths one by one.
func plainFault(i api.LensIslet, tanks int) api.LensFault {
	for _, dry := range plainDroughts(i) {
		lacks := make([]bool, len(dry))
		salts := make([][api.LensWells]bool, len(dry))
		plainTruths(i, dry, func(t api.LensTruth) {
			plainPlay(i, tanks, t, func(m int, s api.LensSeen) {
				lacks[m] = lacks[m] || s.Lack > 0
				for w, least := range i.Wells {
					salts[m][w] = salts[m][w] || s.Lens < least
				}
			})
		})
		for m := range dry {
			if lacks[m] {
				return api.LensFault{Drought: dry, Month: m, Rule: api.LensLacks}
			}
			for w, salt := range salts[m] {
				if salt {
					return api.LensFault{Drought: dry, Month: m, Rule: api.LensSalts, Well: w}
				}
			}
		}
	}
	return fine
}

// P1.3: the first fault of all truths; nothing is changed or shared.
func TestFaultAllTruths(t *testing.T) {
	r := rand.New(rand.NewSource(13))
	rules := map[api.LensRule]int{}
	for c := range 1500 {
		months := 1 + r.Intn(2)
		if c%100 == 0 {
			months = 3
		}
		i := randomIslet(r, months)
		if c%3 == 0 { // so that wells have their turn
			i.Pump, i.Keep = 16, 0
		}
		tanks := r.Intn(8)
		old := cloneIslet(i)
		f := fault(t, i, tanks)
		want := plainFault(i, tanks)
		if !sameFault(f, want) {
			t.Fatal(i, tanks, f, want)
		}
		for m := range f.Drought {
			f.Drought[m] = !f.Drought[m]
		}
		if !sameFault(fault(t, i, tanks), want) || !sameIslet(i, old) {
			t.Fatal("changed", i, tanks)
		}
		rules[f.Rule]++
	}
	for rule := api.LensFine; rule <= api.LensSalts; rule++ {
		if rules[rule] < 50 {
			t.Error("too few of", rule, rules)
		}
	}
}

// P1.3: in long runs, too, what is told does go wrong in some truth, and nothing does where nothing is told.
func TestFaultRandomTruths(t *testing.T) {
	r := rand.New(rand.NewSource(14))
	for range 1500 {
		i := randomIslet(r, 4+r.Intn(5))
		tanks := r.Intn(api.LensTanks + 1)
		f := fault(t, i, tanks)
		if f.Rule != api.LensFine {
			ends, _ := play(t, i, tanks, worstTruth(i, f.Drought))
			for m, end := range ends[:f.Month+1] {
				lacks, well := goesWrong(i, end)
				if m < f.Month && (lacks || well >= 0) || m == f.Month && (lacks != (f.Rule == api.LensLacks) || !lacks && well != f.Well) {
					t.Fatal(i, tanks, f, ends)
				}
			}
		}
		for _, dry := range plainDroughts(i) {
			if f.Rule != api.LensFine && sameFault(api.LensFault{Drought: dry}, api.LensFault{Drought: f.Drought}) {
				break
			}
			ends, _ := play(t, i, tanks, randomTruth(r, i, dry))
			for _, end := range ends {
				if lacks, well := goesWrong(i, end); lacks || well >= 0 {
					t.Fatal(i, tanks, f, dry, ends)
				}
			}
		}
	}
}

// goesWrong returns whether water is lacking, and the first well that is salt, or -1.
func goesWrong(i api.LensIslet, end api.LensSeen) (bool, int) {
	for w, least := range i.Wells {
		if end.Lens < least {
			return end.Lack > 0, w
		}
	}
	return end.Lack > 0, -1
}

// P1.4: the chapter's examples, and islets near it.
func TestFewestExamples(t *testing.T) {
	for _, x := range []struct {
		name string
		set  func(*api.LensIslet)
		want int
		e    api.Errno
	}{
		{"as it is", func(i *api.LensIslet) {}, 12, api.OK},
		{"one in a row", func(i *api.LensIslet) { i.Row = 1 }, 10, api.OK},
		{"one dry month", func(i *api.LensIslet) { i.Most = 1 }, 10, api.OK},
		{"no dry month", func(i *api.LensIslet) { i.Most = 0 }, 2, api.OK},
		{"none at all", func(i *api.LensIslet) { i.Pump, i.Keep, i.Wells = 50, 0, nil }, 0, api.OK},
		{"all of them", func(i *api.LensIslet) { i.Size = 3 }, 40, api.OK},
		{"more than all", func(i *api.LensIslet) { i.Size = 2 }, 0, api.ErrNone},
		{"tanks without size", func(i *api.LensIslet) { i.Size = 0 }, 0, api.ErrNone},
		{"no tanks are needed, nor have size", func(i *api.LensIslet) { i.Pump, i.Keep, i.Wells, i.Size = 50, 0, nil, 0 }, 0, api.OK},
		{"salt whatever tanks there are", func(i *api.LensIslet) { i.Wells = []int{361} }, 0, api.ErrNone},
		{"nobody needs water", func(i *api.LensIslet) {
			for m := range i.Months {
				i.Months[m].Need = span(0, 0)
			}
		}, 0, api.OK},
	} {
		i := chapterIslet()
		x.set(&i)
		if f, e := lens.Fewest(i); f != x.want || e != x.e {
			t.Errorf("%s: %v %v", x.name, f, e)
		}
	}
}

// P1.4: with fewer tanks something goes wrong, and with more nothing does.
func TestFewestRandom(t *testing.T) {
	r := rand.New(rand.NewSource(15))
	none := 0
	for range 1500 {
		i := randomIslet(r, 1+r.Intn(6))
		if r.Intn(2) == 0 {
			i.Wells = nil
		}
		old := cloneIslet(i)
		want, e := 0, api.OK
		for want <= api.LensTanks && fault(t, i, want).Rule != api.LensFine {
			want++
		}
		for tanks := want; tanks <= api.LensTanks; tanks++ {
			if fault(t, i, tanks).Rule != api.LensFine {
				t.Fatal(i, want, tanks)
			}
		}
		if want > api.LensTanks {
			want, e = 0, api.ErrNone
			none++
		}
		if f, e2 := lens.Fewest(i); f != want || e2 != e || !sameIslet(i, old) {
			t.Fatal(i, f, e2, want, e)
		}
	}
	if none < 50 || none > 1450 {
		t.Error("too few, or too many, islets that no tanks help:", none)
	}
}
