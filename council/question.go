package council

import (
	"motu/api"
	"motu/lists"
)

// question asks a council for numbers.
type question func(c *Council) ([]int, api.Errno)

// readQuestion returns the question of a line; false if it is no line of one.
func readQuestion(line string) (question, bool) {
	return read(map[string]func(reader) question{
		"water":   reader.water,
		"line":    reader.line,
		"short":   reader.short,
		"beetles": reader.beetles,
		"want":    reader.want,
		"cooler":  reader.cooler,
		"sale":    reader.sale,
		"cheat":   reader.cheat,
		"money":   reader.money,
	}, line)
}

func (r reader) water() question {
	r.numbers()
	return func(c *Council) ([]int, api.Errno) {
		f, e := c.Water()
		return copyOf([]int{int(f.Rule), f.Month, f.Well}, lists.Each(f.Drought, oneIf)...), e
	}
}

func (r reader) line() question {
	strip := r.number()
	return func(c *Council) ([]int, api.Errno) {
		line, stranger, e := c.Line(strip)
		return copyOf([]int{stranger}, line...), e
	}
}

func (r reader) short() question {
	r.numbers()
	return func(c *Council) ([]int, api.Errno) {
		place, fish, e := c.Short()
		return []int{place, fish}, e
	}
}

func (r reader) beetles() question {
	r.numbers()
	return (*Council).Beetles
}

func (r reader) want() question {
	days := r.number()
	return func(c *Council) ([]int, api.Errno) {
		var numbers []int
		wants, e := c.Want(days)
		for _, w := range wants {
			numbers = append(numbers, w.May, w.Must)
		}
		return numbers, e
	}
}

func (r reader) cooler() question {
	r.numbers()
	return func(c *Council) ([]int, api.Errno) {
		f, e := c.Cooler()
		numbers := []int{f.Day, f.Load}
		for _, letter := range f.Sky {
			numbers = append(numbers, oneIf(letter == 'c'))
		}
		return numbers, e
	}
}

func (r reader) sale() question {
	r.numbers()
	return func(c *Council) ([]int, api.Errno) {
		sale, revenue, e := c.Sale()
		return []int{sale, revenue}, e
	}
}

func (r reader) cheat() question {
	r.numbers()
	return (*Council).Cheat
}

func (r reader) money() question {
	r.numbers()
	return func(c *Council) ([]int, api.Errno) {
		money, e := c.Money()
		return []int{money}, e
	}
}

// oneIf returns 1 if something is so, 0 if it is not.
func oneIf(is bool) int {
	if is {
		return 1
	}
	return 0
}
