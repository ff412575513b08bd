package council_test

import (
	"fmt"
	"regexp"
	"strconv"
	"strings"

	"motu/api"
	"motu/bane"
	"motu/cell"
	"motu/fleet"
	"motu/land"
	"motu/lens"
	"motu/reef"
	"motu/ship"
)

// plain is a council that was written down a second time: it keeps the acts that were done alone, and finds all else out from these again and again.
type plain struct {
	atoll api.CouncilAtoll
	acts  []doing
}

// doing is an act: its word, and its numbers.
type doing struct {
	word    string
	numbers []int
}

func (d doing) line() string {
	line := d.word
	for _, n := range d.numbers {
		line += fmt.Sprint(" ", n)
	}
	return line
}

// fields returns how many numbers lines have.
func fields() (acts, others map[string]int) {
	acts = map[string]int{"tank": 0, "tell": 4, "close": 2, "reopen": 2, "guard": 1, "free": 1, "load": 1, "unload": 1, "panel": 0, "battery": 0, "bid": 5, "award": 0, "report": 2}
	others = map[string]int{"water": 0, "line": 1, "short": 0, "beetles": 0, "want": 1, "cooler": 0, "sale": 0, "cheat": 0, "money": 0}
	return acts, others
}

var form = regexp.MustCompile(`\A[a-z]+( (0|-?[1-9][0-9]{0,8}))*\z`)

// read returns the word of a line that has the form of one, and its numbers.
func read(line string) doing {
	words := strings.Split(line, " ")
	d := doing{word: words[0]}
	for _, word := range words[1:] {
		n, _ := strconv.Atoi(word)
		d.numbers = append(d.numbers, n)
	}
	return d
}

func (p *plain) do(line string) (string, api.Errno) {
	if len(line) > 200 {
		return "", api.ErrLong
	}
	if !form.MatchString(line) {
		return "", api.ErrText
	}
	d := read(line)
	acts, others := fields()
	if many, is := acts[d.word]; is && many == len(d.numbers) {
		return "", p.act(d)
	}
	if many, is := others[d.word]; is && many == len(d.numbers) {
		numbers, e := p.ask(d)
		if e != api.OK {
			return "", e
		}
		return strings.Trim(fmt.Sprint(numbers), "[]"), api.OK
	}
	return "", api.ErrText
}

func (p *plain) act(d doing) api.Errno {
	switch {
	case !p.isDefined(d):
		return api.ErrArg
	case len(p.acts) == 100 || !p.isReady(d):
		return api.ErrState
	case !p.isRight(d) || p.money() < p.cost(d):
		return api.ErrRule
	}
	p.acts = append(p.acts, d)
	return api.OK
}

func in(n, low, high int) bool { return n >= low && n <= high }

func (p *plain) isDefined(d doing) bool {
	n := append(d.numbers, 0, 0, 0, 0, 0)
	switch d.word {
	case "tell":
		last := len(p.atoll.Book.Events) - 1
		return in(n[0], 0, last) && in(n[1], 0, last) && n[0] != n[1] && in(n[2], -1000, n[3]) && in(n[3], n[2], 1000)
	case "close", "reopen":
		return in(n[0], 0, len(p.atoll.Reef.Places)-1) && in(n[1], 0, p.atoll.Reef.Seasons-1)
	case "guard", "free":
		return in(n[0], 0, len(p.atoll.Sea.Trips)-1)
	case "load", "unload":
		return in(n[0], 0, len(p.atoll.Store.Lots)-1)
	case "bid":
		sea := p.atoll.Fishing
		return in(n[0], 0, 9) && in(n[1], 0, len(sea.Zones)-1) && in(n[2], 0, sea.Days-1) && in(n[3], 1, sea.Days) && n[2]+n[3] <= sea.Days && in(n[4], 0, 1000000)
	case "report":
		return in(n[0], 0, p.atoll.Fishing.Days-1) && in(n[1], 1, 1<<p.atoll.Fishing.Cells-1)
	}
	return true
}

// count returns how often a kind of act was done.
func (p *plain) count(word string) int { return len(p.all(word)) }

// all returns the numbers of all acts of a kind, in the order in which they were done.
func (p *plain) all(word string) [][]int {
	var all [][]int
	for _, d := range p.acts {
		if d.word == word {
			all = append(all, d.numbers)
		}
	}
	return all
}

// is reports whether something is so that one kind of act makes so, and another one does not let be so any more.
func (p *plain) is(made, unmade string, numbers ...int) bool {
	is := false
	for _, d := range p.acts {
		switch d.line() {
		case doing{word: made, numbers: numbers}.line():
			is = true
		case doing{word: unmade, numbers: numbers}.line():
			is = false
		}
	}
	return is
}

func (p *plain) isReady(d doing) bool {
	switch d.word {
	case "tank":
		return p.count("tank") < 40
	case "tell":
		return len(p.memories()) < 10
	case "close", "reopen":
		return p.is("close", "reopen", d.numbers...) == (d.word == "reopen")
	case "guard", "free":
		return p.is("guard", "free", d.numbers...) == (d.word == "free")
	case "load", "unload":
		return p.is("load", "unload", d.numbers...) == (d.word == "unload")
	case "panel":
		return p.count("panel") < 12
	case "battery":
		return p.count("battery") < 8
	case "bid":
		return p.count("bid") < 10 && p.count("award") == 0
	case "award":
		return p.count("award") == 0
	default:
		return p.count("report") < 10
	}
}

func (p *plain) isRight(d doing) bool {
	switch d.word {
	case "tell":
		return haveTruth(len(p.atoll.Book.Events), append(p.memories(), toMemory(d.numbers)))
	case "load":
		weight := p.atoll.Store.Lots[d.numbers[0]].Weight
		for _, lot := range p.loaded() {
			weight += p.atoll.Store.Lots[lot].Weight
		}
		return weight <= p.atoll.Store.Hold
	}
	return true
}

func toMemory(n []int) api.LandMemory { return memory(n[0], n[1], n[2], n[3]) }

// haveTruth reports whether memories have a truth: events are moved to later years as far as a memory forces them, until none does.
func haveTruth(events int, memories []api.LandMemory) bool {
	years := make([]int, events)
	for moved := true; moved; {
		moved = false
		for _, m := range memories {
			if years[m.To] < years[m.From]+m.Years.Low {
				years[m.To], moved = years[m.From]+m.Years.Low, true
			}
			if years[m.From] < years[m.To]-m.Years.High {
				years[m.From], moved = years[m.To]-m.Years.High, true
			}
			if max(years[m.From], years[m.To]) > 1000 {
				return false
			}
		}
	}
	return true
}

func (p *plain) cost(d doing) int {
	switch d.word {
	case "tank":
		return p.atoll.Tank
	case "close":
		return p.atoll.Reef.Places[d.numbers[0]].Worth
	case "guard":
		return p.atoll.Sea.Trips[d.numbers[0]].Cost
	case "load":
		return p.atoll.Store.Lots[d.numbers[0]].Cost
	case "panel":
		return p.atoll.System.Panel
	case "battery":
		return p.atoll.System.Battery
	}
	return 0
}

func (p *plain) money() int {
	money := p.atoll.Money
	for _, d := range p.acts {
		money -= p.cost(d)
	}
	if p.count("award") > 0 {
		_, revenue := p.sale()
		money += revenue
	}
	return money
}

func (p *plain) memories() []api.LandMemory {
	all := append([]api.LandMemory{}, p.atoll.Book.Memories...)
	for _, n := range p.all("tell") {
		all = append(all, toMemory(n))
	}
	return all
}

// numbers returns the numbers of some things for which acts were done last that make something so.
func (p *plain) numbers(made, unmade string, things int) []int {
	var list []int
	for n := range things {
		if p.is(made, unmade, n) {
			list = append(list, n)
		}
	}
	return list
}

func (p *plain) guarded() []int { return p.numbers("guard", "free", len(p.atoll.Sea.Trips)) }

func (p *plain) loaded() []int { return p.numbers("load", "unload", len(p.atoll.Store.Lots)) }

func (p *plain) plan() []int {
	plan := make([]int, p.atoll.Reef.Seasons)
	for season := range plan {
		bit := 1
		for place := range p.atoll.Reef.Places {
			if p.is("close", "reopen", place, season) {
				plan[season] += bit
			}
			bit *= 2
		}
	}
	return plan
}

func (p *plain) bids() []api.FleetBid {
	var bids []api.FleetBid
	for _, n := range p.all("bid") {
		bids = append(bids, bid(n[0], n[1], n[2], n[3], n[4]))
	}
	return bids
}

func (p *plain) reports() []api.FleetReport {
	var reports []api.FleetReport
	for _, n := range p.all("report") {
		reports = append(reports, report(n[0], n[1]))
	}
	return reports
}

// sale goes through all sales of the bids.
func (p *plain) sale() (sale, revenue int) {
	bids := p.bids()
	for s := range 1 << len(bids) {
		if n := revenueOf(bids, s); n > revenue && isAllowed(p.atoll.Fishing, bids, s) {
			sale, revenue = s, n
		}
	}
	return sale, revenue
}

// sold returns the bids of a sale.
func sold(bids []api.FleetBid, sale int) []api.FleetBid {
	var some []api.FleetBid
	for _, b := range bids {
		if sale%2 == 1 {
			some = append(some, b)
		}
		sale /= 2
	}
	return some
}

func revenueOf(bids []api.FleetBid, sale int) int {
	sum := 0
	for _, b := range sold(bids, sale) {
		sum += b.Price
	}
	return sum
}

// isAllowed reports whether no zone has more boats than berths on any day.
func isAllowed(s api.FleetSea, bids []api.FleetBid, sale int) bool {
	for zone, berths := range s.Berths {
		for day := range s.Days {
			boats := 0
			for _, b := range sold(bids, sale) {
				if b.Zone == zone && in(day, b.From, b.From+b.Days-1) {
					boats++
				}
			}
			if boats > berths {
				return false
			}
		}
	}
	return true
}

// ask returns the numbers of a line that is no act's, which are those of the layers.
func (p *plain) ask(d doing) ([]int, api.Errno) {
	a := p.atoll
	switch d.word {
	case "water":
		f, e := lens.Fault(a.Islet, p.count("tank"))
		return append([]int{int(f.Rule), f.Month, f.Well}, ones(f.Drought...)...), e
	case "line":
		a.Book.Memories = p.memories()
		line, stranger, e := land.Line(a.Book, d.numbers[0])
		return append([]int{stranger}, line...), e
	case "short":
		place, fish, e := reef.Short(a.Reef, p.plan())
		return []int{place, fish}, e
	case "beetles":
		return bane.Catches(a.Sea, p.guarded())
	case "want":
		var numbers []int
		wants, e := ship.Want(a.Store, p.loaded(), d.numbers[0])
		for _, w := range wants {
			numbers = append(numbers, w.May, w.Must)
		}
		return numbers, e
	case "cooler":
		f, e := cell.Fault(a.System, p.count("panel"), p.count("battery"), 0)
		numbers := []int{f.Day, f.Load}
		for day := range len(f.Sky) {
			numbers = append(numbers, ones(f.Sky[day] == 'c')...)
		}
		return numbers, e
	case "sale":
		sale, revenue := p.sale()
		return []int{sale, revenue}, api.OK
	case "cheat":
		return fleet.Cheat(a.Fishing, p.reports())
	default:
		return []int{p.money()}, api.OK
	}
}

// ones returns 1 for each that is so, 0 for each that is not.
func ones(is ...bool) []int {
	var numbers []int
	for _, x := range is {
		numbers = append(numbers, map[bool]int{true: 1}[x])
	}
	return numbers
}

// journal returns the lines of all acts that were done.
func (p *plain) journal() string {
	text := ""
	for _, d := range p.acts {
		text += d.line() + "\n"
	}
	return text
}
