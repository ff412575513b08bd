package land

import (
	"iter"
	"math/bits"

	"motu/api"
	"motu/first"
)

// set is numbers of memories, as bits. The first memory is the highest bit, so that of two sets of one size the greater one comes first in lexicographic order.
type set int

func bitOf(memory int) set { return 1 << (api.LandMemories - 1 - memory) }

// allOf returns the set of the first memories, of some number.
func allOf(count int) set { return (1<<count - 1) << (api.LandMemories - count) }

func (s set) size() int { return bits.OnesCount(uint(s)) }

// last returns the greatest number of a set that is not empty.
func (s set) last() int { return api.LandMemories - 1 - bits.TrailingZeros(uint(s)) }

func (s set) numbers() []int {
	var list []int
	for memory := range api.LandMemories {
		if s&bitOf(memory) != 0 {
			list = append(list, memory)
		}
	}
	return list
}

// setsOf yields the sets of the first memories, of some number: smaller sets before greater ones, sets of one size in lexicographic order.
func setsOf(count int) iter.Seq[set] {
	return func(yield func(set) bool) {
		all := allOf(count)
		for size := range count + 1 {
			for s := all; s >= 0; s-- {
				if s&^all == 0 && s.size() == size && !yield(s) {
					return
				}
			}
		}
	}
}

// looked is a book that is looked at, with the tables that were found for sets of its memories.
type looked struct {
	api.LandBook
	found map[set]table
}

func lookAt(b api.LandBook) looked {
	return looked{LandBook: b, found: map[set]table{}}
}

// all returns the table of all memories.
func (l looked) all() table { return l.table(allOf(len(l.Memories))) }

// table returns the table of a set of memories. It takes the table of the set without its last memory, which has mostly been looked at before, and adds this memory alone.
func (l looked) table(s set) table {
	t, ok := l.found[s]
	if ok {
		return t
	}
	t = untold()
	if s != 0 {
		last := s.last()
		t = l.table(s &^ bitOf(last))
		if t.agrees() {
			t = t.with(l.Memories[last])
		}
	}
	l.found[s] = t
	return t
}

func (l looked) agree(s set) bool { return l.table(s).agrees() }

func (l looked) clash() (set, bool) {
	return first.Of(setsOf(len(l.Memories)), func(s set) bool { return !l.agree(s) })
}

func (l looked) drop() set {
	all := allOf(len(l.Memories))
	s, _ := first.Of(setsOf(len(l.Memories)), func(s set) bool { return l.agree(all &^ s) })
	return s
}
