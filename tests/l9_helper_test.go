package tests

import (
	"fmt"
	"math"
	"slices"
	"strings"

	"loop.example/g01106/impl"
)

// ord returns the relation with a text, without asking whether it is one.
func ord(text string) impl.Order {
	_, rows, _ := strings.Cut(text, ":")
	o := rel(0)
	if rows == "" {
		return o
	}
	for _, row := range strings.Split(rows, "/") {
		set := 0
		for j := range len(row) {
			if row[j] == '1' {
				set += 1 << j
			}
		}
		o.Above = append(o.Above, set)
		o.Size++
	}
	return o
}

// ringOf returns the relation in which each element is better than the one before it, and the first one than the last one.
func ringOf(size int) impl.Order {
	o := rel(size)
	for i := range size {
		o.Above[i] = 1 << ((i + 1) % size)
	}
	return o
}

// stepsOf returns the relation in which each element is better than the one before it only.
func stepsOf(size int) impl.Order {
	o := rel(size)
	for i := range size - 1 {
		o.Above[i] = 1 << (i + 1)
	}
	return o
}

// choices is a table for n, with its n.
type choices struct {
	n     int
	table []int
}

// tableOf returns the table that chooses what a function tells.
func tableOf(n int, choose func(set int) int) choices {
	c := choices{n: n}
	for set := range 1 << n {
		c.table = append(c.table, choose(set))
	}
	return c
}

// allChosen is the table that chooses all of each set.
func allChosen(n int) choices {
	return tableOf(n, func(set int) int { return set })
}

// leastChosen and greatestChosen are tables that choose one element of each set.
func leastChosen(n int) choices {
	return tableOf(n, func(set int) int { return set & -set })
}

func greatestChosen(n int) choices {
	return tableOf(n, func(set int) int {
		if set == 0 {
			return 0
		}
		return 1 << slices.Max(membersOf(set))
	})
}

// membersOf returns the elements of a set.
func membersOf(set int) []int {
	var list []int
	for i := 0; set > 0; i++ {
		if set%2 == 1 {
			list = append(list, i)
		}
		set /= 2
	}
	return list
}

func isIn(set, i int) bool {
	return set/(1<<i)%2 == 1
}

// joinedSet returns the set of all elements of one set or of another one.
func joinedSet(a, b int) int {
	set := 0
	for i := range 4 {
		if isIn(a, i) || isIn(b, i) {
			set += 1 << i
		}
	}
	return set
}

// partsOf returns what a table may choose of a set.
func partsOf(set int) []int {
	parts := []int{}
	for part := range set + 1 {
		if joinedSet(part, set) == set && (part > 0 || set == 0) {
			parts = append(parts, part)
		}
	}
	return parts
}

// allChoices returns all tables for n, at most 3.
func allChoices(n int) []choices {
	tables := [][]int{{}}
	for set := range 1 << n {
		var longer [][]int
		for _, table := range tables {
			for _, part := range partsOf(set) {
				longer = append(longer, append(slices.Clone(table), part))
			}
		}
		tables = longer
	}
	var all []choices
	for _, table := range tables {
		all = append(all, choices{n, table})
	}
	return all
}

// acyclic returns a relation in which about share of 10 pairs are better that a random list allows.
func (n *numbers) acyclic(size, share int) impl.Order {
	list := n.shuffled(size)
	o := rel(size)
	for b := range size {
		for a := range b {
			if n.below(10) < share {
				o.Above[list[a]] |= 1 << list[b]
			}
		}
	}
	return o
}

// relationsToChoose returns relations of all sizes, with and without rings; many of those without are not transitive.
func relationsToChoose() []impl.Order {
	n := numbers(910)
	all := someRelations()
	for size := range 11 {
		all = append(all, ringOf(size), stepsOf(size))
		for share := range 11 {
			o, p := n.acyclic(size, share), n.acyclic(size, share)
			all = append(all, o, p)
			// One pair more may close a ring.
			if size > 0 {
				q := rel(size)
				copy(q.Above, p.Above)
				q.Above[n.below(size)] |= 1 << n.below(size)
				all = append(all, q)
			}
		}
	}
	return all
}

// acyclicRelations returns all acyclic relations with so many elements, at most 4.
func acyclicRelations(size int) []impl.Order {
	var all []impl.Order
	for _, o := range allRelations(size) {
		if isSlowAcyclic(o) {
			all = append(all, o)
		}
	}
	return all
}

// joinedChoices returns all tables that choose of each set what is best in some of a few lists: these are the tables with no PathFails.
func joinedChoices(n int) []choices {
	var lines [][]int
	for _, names := range allNames(n) {
		lines = append(lines, slowChoices(renamed(chainOf(n), names)))
	}
	all := []choices{}
	known := map[string]bool{}
	add := func(table []int) {
		if text := fmt.Sprint(table); !known[text] {
			known[text] = true
			all = append(all, choices{n, table})
		}
	}
	for _, line := range lines {
		add(line)
	}
	for k := 0; k < len(all); k++ {
		for _, line := range lines {
			both := slices.Clone(line)
			for set, chosen := range all[k].table {
				both[set] |= chosen
			}
			add(both)
		}
	}
	return all
}

// choice returns a table; for a small share of 10, it chooses most of most sets.
func (n *numbers) choice(size, share int) choices {
	return tableOf(size, func(set int) int {
		chosen := 0
		for _, i := range membersOf(set) {
			if n.below(10) >= share {
				chosen |= 1 << i
			}
		}
		if chosen == 0 && set > 0 {
			list := membersOf(set)
			chosen = 1 << list[n.below(len(list))]
		}
		return chosen
	})
}

// changed returns a table in which another part of a set may be chosen.
func (n *numbers) changed(c choices) choices {
	table := slices.Clone(c.table)
	set := n.below(len(table))
	parts := partsOf(set)
	table[set] = parts[n.below(len(parts))]
	return choices{c.n, table}
}

// someChoices returns all tables for at most 3, and some for 4: of acyclic relations, of lists that are joined, such with one set or two changed, and others.
func someChoices() []choices {
	n := numbers(909)
	var all []choices
	for size := range 4 {
		all = append(all, allChoices(size)...)
	}
	told := joinedChoices(4)
	for _, o := range acyclicRelations(4) {
		told = append(told, choices{4, slowChoices(o)})
	}
	all = append(all, told...)
	for _, c := range told {
		for range 4 {
			once := n.changed(c)
			all = append(all, once, n.changed(once))
		}
	}
	for share := range 11 {
		for range 60 {
			all = append(all, n.choice(4, share))
		}
	}
	return append(all, allChosen(4), leastChosen(4), greatestChosen(4))
}

// badChoices are lists that are no tables for n.
func badChoices(n int) [][]int {
	good := allChosen(n).table
	lists := [][]int{nil, {}, good[:len(good)-1], append(slices.Clone(good), 0), append(slices.Clone(good), 1), allChosen(n + 1).table, make([]int, 1000), make([]int, 64), steps(32, 1)}
	if n > 0 {
		lists = append(lists, allChosen(n-1).table, make([]int, len(good)), slices.Repeat([]int{1}, len(good)))
	}
	for set := range good {
		for _, wrong := range []int{-1, -set, -set - 1, set + 1, 1 << n, set | 1<<n, 16, 32, 1 << 32, 1<<32 + set, math.MaxInt, math.MinInt, math.MinInt + set, 0, 1, 2, 4, 8, 3, 15} {
			if !slices.Contains(partsOf(set), wrong) {
				lists = append(lists, slices.Concat(good[:set], []int{wrong}, good[set+1:]))
			}
		}
	}
	return slices.DeleteFunc(lists, func(list []int) bool { return isSlowTable(n, list) })
}

// badSizes are no numbers of elements that choices may have.
func badSizes() []int {
	return []int{-1, -2, -4, 5, 6, 10, 11, 62, 63, 64, 65, 1 << 32, 1<<32 + 2, math.MaxInt, math.MinInt}
}

// badKinds are no kinds.
func badKinds() []int {
	return []int{-1, -4, 4, 5, 64, 1 << 32, 1<<32 + 1, math.MaxInt, math.MinInt}
}

// isSlowTable reports whether a list is a table for n.
func isSlowTable(n int, list []int) bool {
	if len(list) != len(listsOf(n, 2)) {
		return false
	}
	for set, part := range list {
		if !slices.Contains(partsOf(set), part) {
			return false
		}
	}
	return true
}

// slowChoice returns the elements of a set than which none of it is better.
func slowChoice(o impl.Order, set int) int {
	g := gridFrom(o)
	choice := 0
	for _, i := range membersOf(set) {
		if !slices.ContainsFunc(membersOf(set), func(j int) bool { return g[i][j] }) {
			choice += 1 << i
		}
	}
	return choice
}

func slowChoices(o impl.Order) []int {
	return tableOf(o.Size, func(set int) int { return slowChoice(o, set) }).table
}

// isSlowAcyclic strikes out elements than which none that is left is better, until there is none.
func isSlowAcyclic(o impl.Order) bool {
	left := 1<<o.Size - 1
	for left > 0 {
		best := slowChoice(o, left)
		if best == 0 {
			return false
		}
		left -= best
	}
	return true
}

// slowRevealed returns the relation of what is chosen alone of two elements.
func slowRevealed(c choices) impl.Order {
	var pairs [][2]int
	for i := range c.n {
		for j := range c.n {
			both := joinedSet(1<<i, 1<<j)
			if i != j && slices.Equal(membersOf(c.table[both]), []int{j}) {
				pairs = append(pairs, [2]int{i, j})
			}
		}
	}
	return rel(c.n, pairs...)
}

// refusal tells whether two sets refuse a table.
type refusal func(table []int, a, b int) bool

func slowShrink(table []int, a, b int) bool {
	if joinedSet(a, b) != a {
		return false
	}
	for _, i := range membersOf(b) {
		if isIn(table[a], i) && !isIn(table[b], i) {
			return true
		}
	}
	return false
}

func slowGrow(table []int, a, b int) bool {
	for i := range 4 {
		if isIn(table[a], i) && isIn(table[b], i) && !isIn(table[joinedSet(a, b)], i) {
			return true
		}
	}
	return false
}

func slowOutcast(table []int, a, b int) bool {
	if joinedSet(a, b) != a || joinedSet(b, table[a]) != b {
		return false
	}
	for i := range 4 {
		if isIn(table[b], i) && !isIn(table[a], i) {
			return true
		}
	}
	return false
}

func slowPath(table []int, a, b int) bool {
	return table[joinedSet(a, b)] != table[joinedSet(table[a], table[b])]
}

// firstRefusal returns the first two sets that refuse a table.
func firstRefusal(table []int, refuses refusal) []int {
	for a := range table {
		for b := range table {
			if refuses(table, a, b) {
				return []int{a, b}
			}
		}
	}
	return nil
}

// isSlowOfKind reports whether an order is of a kind.
func isSlowOfKind(o impl.Order, kind int) bool {
	switch kind {
	case 0:
		return firstTwoOne(o) == nil
	case 1:
		return isSlowSemiorder(o)
	case 2:
		return firstFour(o) == nil
	default:
		return kind == 3
	}
}

// slowOrdersOf returns for each kind all orders with so many elements, sorted.
func slowOrdersOf(size int) [4][]impl.Order {
	var all [4][]impl.Order
	relations := allRelations(size)
	slices.SortFunc(relations, func(o, p impl.Order) int { return slices.Compare(o.Above, p.Above) })
	for _, o := range relations {
		for kind := range all {
			if isOrderGrid(gridFrom(o)) && isSlowOfKind(o, kind) {
				all[kind] = append(all[kind], o)
			}
		}
	}
	return all
}

// slowApart counts the pairs that are better in just one of two relations.
func slowApart(o, p impl.Order) int {
	g, h := gridFrom(o), gridFrom(p)
	count := 0
	for i := range g {
		for j := range g {
			if g[i][j] != h[i][j] {
				count++
			}
		}
	}
	return count
}

// kindCounts are for each kind the numbers of orders with 0, 1, .. elements.
func kindCounts() [4][]int {
	return [4][]int{{1, 1, 3, 13, 75}, {1, 1, 3, 19, 183}, {1, 1, 3, 19, 207}, {1, 1, 3, 19, 219}}
}
