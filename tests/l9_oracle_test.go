package tests

import (
	"slices"
	"testing"

	"loop.example/g01106/impl"
)

// The functions of chapter 9 are compared with slow answers that follow the document word by word.

func TestChoicesWordByWord(t *testing.T) {
	n := numbers(901)
	kinds := [2]int{}
	for _, o := range relationsToChoose() {
		sets := []int{0, 1<<o.Size - 1}
		for i := range o.Size {
			sets = append(sets, 1<<i)
		}
		for range 30 {
			sets = append(sets, n.below(1<<o.Size))
		}
		for _, set := range sets {
			if got, ok := impl.ChoiceOf(o, set); got != slowChoice(o, set) || !ok {
				t.Fatal("choice", o, set, got, ok)
			}
		}
		acyclic := isSlowAcyclic(o)
		if got, ok := impl.IsAcyclic(o); got != acyclic || !ok {
			t.Fatal("acyclic", o, got, ok)
		}
		compareTable(t, o, acyclic)
		if acyclic {
			kinds[0]++
		} else {
			kinds[1]++
		}
		if set := 1<<o.Size - 1; acyclic && set > 0 && slowChoice(o, set) == 0 {
			t.Fatal("nothing is best", o)
		}
	}
	if slices.Min(kinds[:]) < 300 {
		t.Error("too few of a kind", kinds)
	}
	for _, o := range allRelations(4) {
		acyclic := isSlowAcyclic(o)
		if got, ok := impl.IsAcyclic(o); got != acyclic || !ok {
			t.Fatal("acyclic", o, got, ok)
		}
		compareTable(t, o, acyclic)
	}
}

func compareTable(t *testing.T, o impl.Order, acyclic bool) {
	t.Helper()
	good := acyclic && o.Size <= 4
	got, ok := impl.ChoiceTable(o)
	if ok != good || good && !slices.Equal(got, slowChoices(o)) || !good && len(got) > 0 {
		t.Fatal("table", o, got, ok)
	}
}

func TestTablesOfChoicesWordByWord(t *testing.T) {
	patterns := map[[4]bool]int{}
	empty := 0
	for _, c := range someChoices() {
		if is, ok := impl.IsChoiceTable(c.n, c.table); !is || !ok {
			t.Fatal("a table", c, is, ok)
		}
		revealed := slowRevealed(c)
		if got, ok := impl.RevealedOf(c.n, c.table); !sameOrder(got, revealed) || !ok {
			t.Fatal("revealed", c, got, ok)
		}
		rational := slices.Equal(slowChoices(revealed), c.table)
		if got, ok := impl.IsRational(c.n, c.table); got != rational || !ok {
			t.Fatal("rational", c, got, ok)
		}
		if rational && !isSlowAcyclic(revealed) {
			t.Fatal("nothing is chosen", c)
		}
		patterns[compareRefusals(t, c)]++
		if a, _, fails := impl.PathFails(c.n, c.table); fails && a == 0 {
			empty++
		}
		fitProperties(t, c)
	}
	// Path independence is that of shrinking and of outcasts together, so the other ways are alone, in twos and all together: 8 patterns.
	for pattern, count := range patterns {
		if count < 10 {
			t.Error("too few of a pattern", pattern, count)
		}
	}
	if len(patterns) != 8 || empty < 100 {
		t.Error("too few patterns", patterns, empty)
	}
}

// compareRefusals returns which of the four ways refuse a table.
func compareRefusals(t *testing.T, c choices) [4]bool {
	t.Helper()
	var refused [4]bool
	for k, way := range ways() {
		want := firstRefusal(c.table, way.slow)
		a, b, fails := way.fast(c.n, c.table)
		refused[k] = want != nil
		if fails != refused[k] || fails && !slices.Equal([]int{a, b}, want) || !fails && (a != 0 || b != 0) {
			t.Fatal(way.name, c, a, b, fails, want)
		}
	}
	return refused
}

// fitProperties is promise 9 for tables: which pairs of sets refuse a table tells whether it is rational and whether it is that of an order.
func fitProperties(t *testing.T, c choices) {
	t.Helper()
	_, _, shrink := impl.ShrinkFails(c.n, c.table)
	_, _, grow := impl.GrowFails(c.n, c.table)
	_, _, outcast := impl.OutcastFails(c.n, c.table)
	_, _, path := impl.PathFails(c.n, c.table)
	rational, _ := impl.IsRational(c.n, c.table)
	if rational != (!shrink && !grow) {
		t.Fatal("rational", c, shrink, grow)
	}
	revealed, _ := impl.RevealedOf(c.n, c.table)
	table, ok := impl.ChoiceTable(revealed)
	if rational != (ok && slices.Equal(table, c.table)) {
		t.Fatal("rational", c, table)
	}
	ordered := rational && impl.IsOrder(revealed)
	if ordered != (rational && !outcast) || ordered != (!grow && !path) {
		t.Fatal("that of an order", c, revealed, outcast, grow, path)
	}
	if path != (shrink || outcast) {
		t.Fatal("path", c, shrink, outcast, path)
	}
}

// TestTablesAreCounted counts tables by what refuses them: as many as there are acyclic relations, orders, and lists that are joined.
func TestTablesAreCounted(t *testing.T) {
	for size := range 4 {
		rational, ordered, joined := 0, 0, 0
		for _, c := range allChoices(size) {
			_, _, shrink := impl.ShrinkFails(size, c.table)
			_, _, grow := impl.GrowFails(size, c.table)
			_, _, outcast := impl.OutcastFails(size, c.table)
			_, _, path := impl.PathFails(size, c.table)
			if !shrink && !grow {
				rational++
			}
			if !shrink && !grow && !outcast {
				ordered++
			}
			if !path {
				joined++
			}
		}
		if rational != []int{1, 1, 3, 25}[size] || ordered != []int{1, 1, 3, 19}[size] || joined != []int{1, 1, 3, 22}[size] || joined != len(joinedChoices(size)) {
			t.Error("counts", size, rational, ordered, joined)
		}
	}
	joined := joinedChoices(4)
	for _, c := range joined {
		if a, b, fails := impl.PathFails(4, c.table); fails {
			t.Fatal("path", c, a, b)
		}
	}
	relations := acyclicRelations(4)
	for _, o := range relations {
		table, ok := impl.ChoiceTable(o)
		if is, _ := impl.IsRational(4, table); !is || !ok {
			t.Fatal("rational", o, table)
		}
		if back, ok := impl.RevealedOf(4, table); !sameOrder(back, o) || !ok {
			t.Fatal("revealed", o, table, back)
		}
	}
	if len(joined) != 485 || len(relations) != 543 {
		t.Error("counts", len(joined), len(relations))
	}
}

// TestListsThatAreTables asks for all short lists of a few numbers whether they are tables.
func TestListsThatAreTables(t *testing.T) {
	for length := range 6 {
		for _, list := range listsOf(length, 7) {
			for i := range list {
				list[i]--
			}
			for n := range 5 {
				if got, ok := impl.IsChoiceTable(n, list); got != isSlowTable(n, list) || !ok {
					t.Fatal("a table", n, list, got, ok)
				}
			}
		}
	}
	for n := range 5 {
		for _, list := range badChoices(n) {
			if got, ok := impl.IsChoiceTable(n, list); got || !ok {
				t.Fatal("no table", n, list, got, ok)
			}
		}
	}
}

// TestPairsApartWordByWord has relations of all sizes beside each other.
func TestPairsApartWordByWord(t *testing.T) {
	n := numbers(902)
	relations := someRelations()
	same := 0
	for range 60000 {
		o, p := relations[n.below(len(relations))], relations[n.below(len(relations))]
		got, ok := impl.PairsApart(o, p)
		if ok != (o.Size == p.Size) || ok && got != slowApart(o, p) || !ok && got != 0 {
			t.Fatal("apart", o, p, got, ok)
		}
		if ok {
			same++
		}
	}
	if same < 5000 {
		t.Error("too few of the same size", same)
	}
	for _, o := range relations {
		if got, ok := impl.PairsApart(o, o); got != 0 || !ok {
			t.Fatal("apart from itself", o, got, ok)
		}
		other := rel(o.Size)
		for i, set := range o.Above {
			other.Above[i] = 1<<o.Size - 1 - set
		}
		if got, ok := impl.PairsApart(o, other); got != o.Size*o.Size || !ok {
			t.Fatal("apart in all pairs", o, got, ok)
		}
	}
}

func TestOrdersOfKinds(t *testing.T) {
	for size := range 5 {
		want := slowOrdersOf(size)
		made := madeOrders(size)
		for kind, orders := range want {
			got, ok := impl.OrdersOf(size, kind)
			if !ok || !slices.EqualFunc(got, orders, sameOrder) {
				t.Fatal("orders", size, kind, got, ok)
			}
			if len(orders) != kindCounts()[kind][size] {
				t.Error("count of orders", size, kind, len(orders))
			}
			tables := map[[16]int]bool{}
			for _, o := range orders {
				var table [16]int
				copy(table[:], slowChoices(o))
				tables[table] = true
			}
			if got, ok := impl.CountChoices(size, kind); got != len(tables) || !ok {
				t.Error("count of tables", size, kind, got, ok)
			}
			if kind < 3 && !slices.EqualFunc(got, made[kind], sameOrder) {
				t.Error("orders of levels, places or intervals", size, kind, len(got), len(made[kind]))
			}
		}
	}
}

// madeOrders returns all orders of levels, of places and of intervals, sorted.
func madeOrders(size int) [3][]impl.Order {
	var made [3][]impl.Order
	for _, list := range listsOf(size, size) {
		made[0] = append(made[0], slowOrderOfLevels(list))
	}
	for _, list := range listsOf(size, 3*size) {
		made[1] = append(made[1], slowOrderOfPlaces(3, list))
	}
	for _, list := range allIntervals(size, max(0, size-1)) {
		made[2] = append(made[2], slowOrder(list))
	}
	for kind, orders := range made {
		slices.SortFunc(orders, func(o, p impl.Order) int { return slices.Compare(o.Above, p.Above) })
		made[kind] = slices.CompactFunc(orders, sameOrder)
	}
	return made
}

// TestNearestWordByWord is promise 9 for nearest orders: of all small relations, and of some of four elements.
func TestNearestWordByWord(t *testing.T) {
	for size := range 5 {
		all := slowOrdersOf(size)
		for k, o := range allRelations(size) {
			if size == 4 && k%17 != 0 {
				continue
			}
			for kind, orders := range all {
				compareNearest(t, o, kind, orders)
			}
		}
		for _, o := range all[3] {
			for kind, orders := range all {
				compareNearest(t, o, kind, orders)
			}
		}
	}
}

func compareNearest(t *testing.T, o impl.Order, kind int, orders []impl.Order) {
	t.Helper()
	want := orders[0]
	for _, p := range orders {
		if slowApart(o, p) < slowApart(o, want) {
			want = p
		}
	}
	got, apart, ok := impl.NearestOf(o, kind)
	if !sameOrder(got, want) || apart != slowApart(o, want) || !ok {
		t.Fatal("nearest", o, kind, got, apart, ok, want)
	}
	isSame := slices.ContainsFunc(orders, func(p impl.Order) bool { return sameOrder(o, p) })
	if isSame != (apart == 0) {
		t.Fatal("nearest to itself", o, kind, got, apart)
	}
}

// TestNearestByChanges changes pairs one by one, from all orders of a kind on, until all relations are met: then it is known how far away they are.
func TestNearestByChanges(t *testing.T) {
	for size := range 5 {
		for kind, orders := range slowOrdersOf(size) {
			far := changesTo(size, orders)
			for k, o := range allRelations(size) {
				if size == 4 && (k+kind)%11 != 0 {
					continue
				}
				nearest, apart, ok := impl.NearestOf(o, kind)
				if !ok || apart != far[pairBits(o)] || far[pairBits(nearest)] != 0 || slowApart(o, nearest) != apart {
					t.Fatal("nearest", o, kind, nearest, apart, ok)
				}
			}
		}
	}
}

// pairBits numbers the relations with so many elements.
func pairBits(o impl.Order) int {
	bits := 0
	for _, set := range o.Above {
		bits = bits<<o.Size + set
	}
	return bits
}

// changesTo returns for each relation how many pairs have to change to make it one of some orders.
func changesTo(size int, orders []impl.Order) map[int]int {
	far := map[int]int{}
	var work []int
	for _, o := range orders {
		far[pairBits(o)] = 0
		work = append(work, pairBits(o))
	}
	for len(work) > 0 {
		bits := work[0]
		work = work[1:]
		for pair := range size * size {
			other := bits ^ 1<<pair
			if _, met := far[other]; !met {
				far[other] = far[bits] + 1
				work = append(work, other)
			}
		}
	}
	return far
}
