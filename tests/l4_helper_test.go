package tests

import (
	"math"
	"slices"

	"loop.example/g01106/impl"
)

// badLevels are lists that are no levels.
func badLevels() [][]int {
	return [][]int{
		{1}, {-1}, {2}, {1, 1}, {0, 2}, {2, 0}, {0, -1}, {-1, 0}, {1, 2}, {0, 0, 2}, {0, 1, 3}, {3, 1, 0}, {0, 2, 2}, {1, 2, 3}, {-1, 0, 1}, {0, 1, 1, 3}, {0, 3, 3, 3},
		{0, 1, 2, 3, 4, 5, 6, 7, 8, 10}, {1, 2, 3, 4, 5, 6, 7, 8, 9, 10}, {0, 0, 0, 0, 0, 0, 0, 0, 0, 9}, {1, 1, 1, 1, 1, 1, 1, 1, 1, 1}, {0, 1, 2, 3, 5, 6, 7, 8, 9, 9},
		make([]int, 11), steps(11, 1), make([]int, 64), steps(64, 1), make([]int, 1000),
		{math.MaxInt}, {math.MinInt}, {0, math.MaxInt}, {0, math.MinInt}, {0, 64}, {0, 1 << 32}, {0, 1, 64, 65}, {0, 63},
	}
}

// areSlowLevels reports whether a list is levels.
func areSlowLevels(list []int) bool {
	for _, number := range list {
		if number < 0 || number > 0 && !slices.Contains(list, number-1) {
			return false
		}
	}
	return len(list) <= 10
}

// allLevels returns all levels of so many elements, in order.
func allLevels(n int) [][]int {
	var all [][]int
	for _, list := range listsOf(n, n) {
		if areSlowLevels(list) {
			all = append(all, list)
		}
	}
	return all
}

// levels returns levels of so many elements with numbers less than about limit.
func (n *numbers) levels(size, limit int) []int {
	list := make([]int, size)
	for i := range list {
		list[i] = n.below(limit)
	}
	used := slices.Compact(slices.Sorted(slices.Values(list)))
	for i, number := range list {
		list[i] = slices.Index(used, number)
	}
	return list
}

// someLevels returns levels of all sizes.
func someLevels() [][]int {
	n := numbers(61)
	lists := [][]int{nil, {}}
	for size := range impl.MaxSize + 1 {
		lists = append(lists, make([]int, size), steps(size, 1), n.shuffled(size))
		for limit := 1; limit <= 2*size; limit++ {
			lists = append(lists, n.levels(size, limit), n.levels(size, limit))
		}
	}
	return lists
}

// slowOrderOfLevels returns the order in which what has a greater number is better.
func slowOrderOfLevels(levels []int) impl.Order {
	o := rel(len(levels))
	for i := range levels {
		for j := range levels {
			if levels[j] > levels[i] {
				o.Above[i] |= 1 << j
			}
		}
	}
	return o
}

// firstTwoOne returns the first element, one above it, and one that is indifferent to both.
func firstTwoOne(o impl.Order) []int {
	g := gridFrom(o)
	for a := range g {
		for b := range g {
			for c := range g {
				if g[a][b] && areApart(g, a, c) && areApart(g, b, c) {
					return []int{a, b, c}
				}
			}
		}
	}
	return nil
}

// slowTraceOrder returns the relation in which j is better than i if the trace has it higher.
func slowTraceOrder(o impl.Order) impl.Order {
	g := gridFrom(o)
	trace := rel(o.Size)
	for i := range g {
		for j := range g {
			for k := range g {
				if g[k][j] && !g[k][i] || g[i][k] && !g[j][k] {
					trace.Above[i] |= 1 << j
				}
			}
		}
	}
	return trace
}

// slowLevelsOf returns levels with a given order, each the length of a longest chain up to it.
func slowLevelsOf(o impl.Order) []int {
	g := gridFrom(o)
	levels := make([]int, o.Size)
	for range o.Size {
		for i := range g {
			for j := range g {
				if g[i][j] {
					levels[j] = max(levels[j], levels[i]+1)
				}
			}
		}
	}
	return levels
}

// slowDistance adds up how differently pairs are told apart.
func slowDistance(o, p impl.Order) int {
	g, h := gridFrom(o), gridFrom(p)
	sum := 0
	for i := range g {
		for j := i + 1; j < len(g); j++ {
			switch {
			case g[i][j] && h[j][i], g[j][i] && h[i][j]:
				sum += 2
			case g[i][j] != h[i][j], g[j][i] != h[j][i]:
				sum++
			}
		}
	}
	return sum
}

// slowMajority returns the relation that more voters have than have the other way round.
func slowMajority(voters [][]int) impl.Order {
	o := rel(len(voters[0]))
	for i := range o.Size {
		for j := range o.Size {
			for_, against := 0, 0
			for _, levels := range voters {
				if levels[j] > levels[i] {
					for_++
				}
				if levels[i] > levels[j] {
					against++
				}
			}
			if for_ > against {
				o.Above[i] |= 1 << j
			}
		}
	}
	return o
}

// slowMean returns the levels of sums of levels.
func slowMean(voters [][]int) []int {
	sums := make([]int, len(voters[0]))
	for i := range sums {
		for _, levels := range voters {
			sums[i] += levels[i]
		}
	}
	return slowLevelsOf(slowOrderOfLevels(sums))
}

// spareLists returns a copy of lists with marked room behind the end of each one, and lists that are no levels behind the end of all.
func spareLists(lists [][]int) [][]int {
	if lists == nil {
		return nil
	}
	roomy := make([][]int, len(lists), len(lists)+2)
	for i, list := range lists {
		roomy[i] = spare(list)
	}
	for i := len(lists); i < cap(roomy); i++ {
		roomy[:cap(roomy)][i] = []int{777}
	}
	return roomy
}

// voters returns so many times the same levels.
func voters(count int, levels ...int) [][]int {
	lists := [][]int{}
	for range count {
		lists = append(lists, slices.Clone(levels))
	}
	return lists
}

// badVoters are values that are no voters, or too few or too many.
func badVoters() [][][]int {
	lists := [][][]int{
		nil, {}, voters(16, 0, 1), voters(16), voters(17, 0), voters(64, 0, 0, 1), voters(1000),
		{{0}, {}}, {{}, {0}}, {nil, {0}}, {{0, 1}, {0}}, {{0}, {0, 1}}, {{0, 1}, {0, 1, 2}}, {{0, 1, 2}, {0, 1, 1}, {0, 0}}, {{0, 0}, {0, 0}, {0, 0, 0}},
		append(voters(14, 0, 1), []int{0}), append(voters(14, 0, 1), []int{0, 2}), append(voters(14, 0, 1), nil),
	}
	for _, bad := range badLevels() {
		good := make([]int, len(bad))
		lists = append(lists, [][]int{bad}, [][]int{good, bad}, [][]int{bad, good}, [][]int{good, good, bad})
	}
	return lists
}
