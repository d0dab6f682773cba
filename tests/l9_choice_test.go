package tests

import (
	"math"
	"slices"
	"testing"

	"loop.example/g01106/impl"
)

// way is a function that tells which sets refuse a table, and a slow answer to it.
type way struct {
	name string
	fast func(n int, table []int) (int, int, bool)
	slow refusal
}

func ways() []way {
	return []way{{"shrink", impl.ShrinkFails, slowShrink}, {"grow", impl.GrowFails, slowGrow}, {"outcast", impl.OutcastFails, slowOutcast}, {"path", impl.PathFails, slowPath}}
}

// toldChoices is a table with what the functions tell of it, worked out by hand.
type toldChoices struct {
	table                       []int
	revealed                    string
	rational                    bool
	shrink, grow, outcast, path []int
}

func toldTablesOfChoices() []toldChoices {
	var none []int
	return []toldChoices{
		{[]int{0}, "0:", true, none, none, none, none},
		{[]int{0, 1}, "1:0", true, none, none, none, none},
		{[]int{0, 1, 2, 3}, "2:00/00", true, none, none, none, none},
		{[]int{0, 1, 2, 1}, "2:00/10", true, none, none, none, none},
		{[]int{0, 1, 2, 2}, "2:01/00", true, none, none, none, none},
		// All is chosen, or one element of each set.
		{[]int{0, 1, 2, 3, 4, 5, 6, 7}, "3:000/000/000", true, none, none, none, none},
		{[]int{0, 1, 2, 1, 4, 1, 2, 1}, "3:000/100/110", true, none, none, none, none},
		{[]int{0, 1, 2, 2, 4, 4, 4, 4}, "3:011/001/000", true, none, none, none, none},
		// The example of the document: without 1, which is not chosen, 0 is chosen beside 2.
		{[]int{0, 1, 2, 2, 4, 5, 4, 4}, "3:010/001/000", true, none, none, []int{7, 5}, []int{1, 6}},
		// 0 is chosen of all pairs with it, but not of all three.
		{[]int{0, 1, 2, 3, 4, 5, 6, 6}, "3:000/000/000", false, none, []int{3, 5}, none, none},
		// A ring of which all is chosen.
		{[]int{0, 1, 2, 2, 4, 1, 4, 7}, "3:010/001/100", false, []int{7, 3}, none, none, []int{1, 6}},
		// Rings of which one element is chosen.
		{[]int{0, 1, 2, 2, 4, 1, 4, 1}, "3:010/001/100", false, []int{7, 3}, none, []int{7, 3}, []int{2, 5}},
		{[]int{0, 1, 2, 2, 4, 1, 4, 4}, "3:010/001/100", false, []int{7, 5}, none, []int{7, 5}, []int{1, 6}},
		// What is chosen of all is not chosen of what is chosen: the empty set refuses with all.
		{[]int{0, 1, 2, 1, 4, 5, 6, 3}, "3:000/100/000", false, []int{7, 3}, []int{5, 6}, none, []int{0, 7}},
		{[]int{0, 1, 2, 3, 4, 5, 6, 4}, "3:000/000/000", false, none, []int{3, 5}, []int{7, 5}, []int{1, 7}},
		// 0 is chosen of all other sets with it, but not of all four; and then of all four, too.
		{[]int{0, 1, 2, 3, 4, 5, 6, 7, 8, 9, 10, 11, 12, 13, 14, 14}, "4:0000/0000/0000/0000", false, none, []int{3, 13}, none, none},
		{[]int{0, 1, 2, 3, 4, 5, 6, 7, 8, 9, 10, 11, 12, 13, 14, 15}, "4:0000/0000/0000/0000", true, none, none, none, none},
	}
}

func TestChoicesTold(t *testing.T) {
	for _, c := range toldTablesOfChoices() {
		n := len(membersOf(len(c.table) - 1))
		if got, ok := impl.IsChoiceTable(n, c.table); !got || !ok {
			t.Error("a table", c.table, got, ok)
		}
		if got, ok := impl.RevealedOf(n, c.table); !sameOrder(got, ord(c.revealed)) || !ok {
			t.Error("revealed", c.table, got, ok)
		}
		if got, ok := impl.IsRational(n, c.table); got != c.rational || !ok {
			t.Error("rational", c.table, got, ok)
		}
		if got, ok := impl.ChoiceTable(ord(c.revealed)); c.rational && (!slices.Equal(got, c.table) || !ok) {
			t.Error("choices", c.revealed, got, ok)
		}
		for k, want := range [][]int{c.shrink, c.grow, c.outcast, c.path} {
			w := ways()[k]
			a, b, ok := w.fast(n, c.table)
			if ok != (want != nil) || ok && !slices.Equal([]int{a, b}, want) || !ok && (a != 0 || b != 0) {
				t.Error(w.name, c.table, a, b, ok)
			}
		}
	}
}

func TestChoicesOfSets(t *testing.T) {
	cases := []struct {
		o         impl.Order
		set, want int
	}{
		{rel(0), 0, 0}, {rel(1), 0, 0}, {rel(1), 1, 1}, {rel(1, [2]int{0, 0}), 1, 0}, {rel(1, [2]int{0, 0}), 0, 0},
		{rel(3), 7, 7}, {rel(3), 5, 5}, {chainOf(3), 7, 4}, {chainOf(3), 3, 2}, {chainOf(3), 1, 1}, {ord("3:011/000/000"), 7, 6}, {ord("3:011/000/000"), 3, 2},
		{ord("3:010/001/000"), 7, 4}, {ord("3:010/001/000"), 5, 5}, {ord("3:010/001/000"), 3, 2}, {ord("3:010/001/000"), 6, 4}, {ord("3:010/001/000"), 0, 0},
		// What is better need not be chosen itself.
		{ringOf(3), 7, 0}, {ringOf(3), 3, 2}, {ringOf(3), 5, 1}, {ringOf(3), 6, 4}, {ord("2:01/10"), 3, 0}, {ord("2:01/10"), 1, 1}, {ord("2:01/10"), 2, 2}, {ord("2:01/01"), 3, 0}, {ord("2:10/00"), 3, 2}, {ord("2:10/00"), 1, 0}, {ord("2:11/11"), 3, 0},
		{chainOf(10), 1023, 512}, {chainOf(10), 511, 256}, {chainOf(10), 0, 0}, {rel(10), 1023, 1023}, {rel(10), 682, 682}, {ringOf(10), 1023, 0}, {ringOf(10), 1022, 512}, {ringOf(10), 341, 341}, {stepsOf(10), 1023, 512}, {stepsOf(10), 365, 329}, {crownOf(5), 1023, 992}, {crownOf(5), 33, 33}, {crownOf(5), 65, 64}, {fenceOf(10), 1023, 682}, {fenceOf(10), 3, 2}, {gridOf(2, 5), 511, 272},
	}
	for _, c := range cases {
		if got, ok := impl.ChoiceOf(c.o, c.set); got != c.want || !ok {
			t.Error("choice", c.o, c.set, got, ok)
		}
	}
	for size := range 11 {
		for _, o := range []impl.Order{rel(size), chainOf(size), ringOf(size)} {
			for _, set := range []int{-1, -2, 1 << size, 1<<size + 1, 1 << 10, 1 << 11, 1 << 62, 1 << 32, -1 << size, math.MaxInt, math.MinInt} {
				if got, ok := impl.ChoiceOf(o, set); got != 0 || ok {
					t.Error("no set", o, set, got)
				}
			}
			for _, set := range []int{0, 1<<size - 1} {
				if got, ok := impl.ChoiceOf(o, set); got != slowChoice(o, set) || !ok {
					t.Error("no elements, and all", o, set, got, ok)
				}
			}
			for i := range size {
				if got, ok := impl.ChoiceOf(o, 1<<i); got != slowChoice(o, 1<<i) || !ok {
					t.Error("one element", o, i, got, ok)
				}
			}
		}
	}
}

func TestCycles(t *testing.T) {
	cases := []struct {
		o    impl.Order
		want bool
	}{
		{rel(0), true}, {rel(1), true}, {rel(1, [2]int{0, 0}), false}, {rel(2), true}, {ord("2:01/10"), false}, {ord("2:01/01"), false}, {ord("2:11/00"), false}, {ord("2:01/00"), true}, {ord("2:00/10"), true}, {ord("2:11/11"), false},
		{stepsOf(3), true}, {ringOf(3), false}, {ord("3:011/000/010"), true}, {ord("3:010/001/000"), true}, {ord("3:000/100/010"), true}, {ord("3:000/000/001"), false}, {ord("3:010/100/000"), false}, {ord("3:001/000/100"), false}, {ord("3:000/001/010"), false}, {ord("3:001/100/010"), false},
		{stepsOf(4), true}, {ringOf(4), false}, {ord("4:0100/0010/0100/0000"), false}, {ord("4:0100/0010/0001/0100"), false}, {ord("4:0100/0000/0001/0000"), true},
		{stepsOf(5), true}, {ringOf(5), false}, {chainOf(10), true}, {rel(10), true}, {stepsOf(10), true}, {ringOf(10), false}, {crownOf(5), true}, {fenceOf(10), true}, {rel(10, [2]int{9, 9}), false}, {rel(10, [2]int{9, 0}, [2]int{0, 5}, [2]int{5, 9}), false}, {rel(10, [2]int{9, 0}, [2]int{0, 5}, [2]int{9, 5}), true}, {rel(10, [2]int{8, 9}, [2]int{9, 8}), false},
	}
	for _, c := range cases {
		if got, ok := impl.IsAcyclic(c.o); got != c.want || !ok {
			t.Error("acyclic", c.o, got, ok)
		}
		good := c.want && c.o.Size <= 4
		if got, ok := impl.ChoiceTable(c.o); ok != good || good && !slices.Equal(got, slowChoices(c.o)) || !good && len(got) > 0 {
			t.Error("table", c.o, got, ok)
		}
	}
	// As many elements as there may be, and one more.
	for _, build := range []func(int) impl.Order{chainOf, stepsOf, fenceOf, func(size int) impl.Order { return rel(size) }} {
		if got, ok := impl.ChoiceTable(build(4)); len(got) != 16 || !ok || !slices.Equal(got, slowChoices(build(4))) {
			t.Error("four elements", build(4), got, ok)
		}
		for size := 5; size <= 10; size++ {
			if got, ok := impl.ChoiceTable(build(size)); len(got) > 0 || ok {
				t.Error("too many elements", build(size), got)
			}
		}
	}
}

func TestChoiceTablesOfRelations(t *testing.T) {
	cases := []struct {
		text string
		want []int
	}{
		{"0:", []int{0}}, {"1:0", []int{0, 1}}, {"2:00/00", []int{0, 1, 2, 3}}, {"2:01/00", []int{0, 1, 2, 2}}, {"2:00/10", []int{0, 1, 2, 1}},
		{"3:011/000/000", []int{0, 1, 2, 2, 4, 4, 6, 6}}, {"3:000/000/110", []int{0, 1, 2, 3, 4, 1, 2, 3}}, {"3:010/000/000", []int{0, 1, 2, 2, 4, 5, 6, 6}}, {"3:010/001/000", []int{0, 1, 2, 2, 4, 5, 4, 4}}, {"3:000/101/000", []int{0, 1, 2, 1, 4, 5, 4, 5}},
		{"4:0111/0011/0001/0000", []int{0, 1, 2, 2, 4, 4, 4, 4, 8, 8, 8, 8, 8, 8, 8, 8}}, {"4:0100/0010/0001/0000", []int{0, 1, 2, 2, 4, 5, 4, 4, 8, 9, 10, 10, 8, 9, 8, 8}}, {"4:0100/0000/0001/0000", []int{0, 1, 2, 2, 4, 5, 6, 6, 8, 9, 10, 10, 8, 9, 10, 10}},
	}
	for _, c := range cases {
		got, ok := impl.ChoiceTable(ord(c.text))
		if !slices.Equal(got, c.want) || !ok {
			t.Error("table", c.text, got, ok)
		}
		n := ord(c.text).Size
		if back, ok := impl.RevealedOf(n, got); !sameOrder(back, ord(c.text)) || !ok {
			t.Error("revealed", c.text, back, ok)
		}
		if is, ok := impl.IsRational(n, got); !is || !ok {
			t.Error("rational", c.text, is, ok)
		}
	}
}

// TestWhatIsNoTableOfChoices gives each function on tables lists that are none, and sizes that there may not be.
func TestWhatIsNoTableOfChoices(t *testing.T) {
	for n := range 5 {
		for _, bad := range badChoices(n) {
			if is, ok := impl.IsChoiceTable(n, bad); is || !ok {
				t.Error("no table", n, bad, is, ok)
			}
			checkNoTable(t, n, bad)
		}
		for other := range 5 {
			if other == n {
				continue
			}
			if is, ok := impl.IsChoiceTable(n, allChosen(other).table); is || !ok {
				t.Error("a table of another size", n, other, is, ok)
			}
			checkNoTable(t, n, allChosen(other).table)
		}
	}
	for _, n := range badSizes() {
		for _, table := range [][]int{nil, {}, {0}, {0, 1}, allChosen(4).table, allChosen(5).table, allChosen(6).table, {1}} {
			if is, ok := impl.IsChoiceTable(n, table); is || ok {
				t.Error("no size", n, table, is, ok)
			}
			checkNoTable(t, n, table)
		}
	}
}

func checkNoTable(t *testing.T, n int, table []int) {
	t.Helper()
	for _, c := range choiceTableCalls(n, table) {
		if c.name != "IsChoiceTable" && isLastTrue(c) {
			t.Errorf("%s%v succeeds", c.name, c.args())
		}
	}
}

func TestKindsCounted(t *testing.T) {
	for kind, counts := range kindCounts() {
		for n, want := range counts {
			if got, ok := impl.CountChoices(n, kind); got != want || !ok {
				t.Error("count", n, kind, got, ok)
			}
			if got, ok := impl.OrdersOf(n, kind); len(got) != want || !ok {
				t.Error("orders", n, kind, len(got), ok)
			}
		}
	}
	if impl.KindWeak != 0 || impl.KindSemi != 1 || impl.KindInterval != 2 || impl.KindOrder != 3 || impl.MaxChoice != 4 {
		t.Error("constants")
	}
	sizes, kinds := append(badSizes(), 0, 1, 4), append(badKinds(), 0, 1, 2, 3)
	for _, n := range sizes {
		for _, kind := range kinds {
			if n >= 0 && n <= 4 && kind >= 0 && kind <= 3 {
				continue
			}
			if got, ok := impl.CountChoices(n, kind); got != 0 || ok {
				t.Error("no count", n, kind, got)
			}
			if got, ok := impl.OrdersOf(n, kind); len(got) > 0 || ok {
				t.Error("no orders", n, kind, got)
			}
		}
	}
}

// TestOrdersInOrder has the orders of each kind told by their lists Above.
func TestOrdersInOrder(t *testing.T) {
	weak := [][]int{{0, 0, 0}, {0, 0, 3}, {0, 1, 1}, {0, 1, 3}, {0, 5, 0}, {0, 5, 1}, {2, 0, 2}, {2, 0, 3}, {4, 4, 0}, {4, 5, 0}, {6, 0, 0}, {6, 0, 2}, {6, 4, 0}}
	all := [][]int{{0, 0, 0}, {0, 0, 1}, {0, 0, 2}, {0, 0, 3}, {0, 1, 0}, {0, 1, 1}, {0, 1, 3}, {0, 4, 0}, {0, 5, 0}, {0, 5, 1}, {2, 0, 0}, {2, 0, 2}, {2, 0, 3}, {4, 0, 0}, {4, 4, 0}, {4, 5, 0}, {6, 0, 0}, {6, 0, 2}, {6, 4, 0}}
	for kind := range 4 {
		told := [][][]int{{{}}, {{0}}, {{0, 0}, {0, 1}, {2, 0}}, all}
		if kind == impl.KindWeak {
			told[3] = weak
		}
		for n, want := range told {
			got, ok := impl.OrdersOf(n, kind)
			same := slices.EqualFunc(got, want, func(o impl.Order, above []int) bool { return o.Size == n && slices.Equal(o.Above, above) })
			if !ok || !same {
				t.Error("orders", n, kind, got, ok)
			}
		}
		got, ok := impl.OrdersOf(4, kind)
		if !ok || len(got) == 0 || !sameOrder(got[0], rel(4)) || !sameOrder(got[len(got)-1], chainOf(4)) {
			t.Error("first and last", kind, got, ok)
		}
	}
}

// TestKindsOfOrders has orders that are of some kinds only.
func TestKindsOfOrders(t *testing.T) {
	cases := []struct {
		o     impl.Order
		first int // of the kinds that it is of
	}{
		{rel(4), 0}, {chainOf(4), 0}, {ord("4:0111/0001/0001/0000"), 0}, {ord("3:010/000/000"), 1}, {ord("4:0100/0000/0000/0000"), 1}, {ord("4:0011/0001/0000/0000"), 1}, {threeOne(), 2}, {renamed(threeOne(), []int{2, 0, 3, 1}), 2}, {ord("4:0100/0000/0001/0000"), 3}, {ord("4:0001/0010/0000/0000"), 3},
	}
	for _, c := range cases {
		for kind := range 4 {
			orders, _ := impl.OrdersOf(c.o.Size, kind)
			if got := slices.ContainsFunc(orders, func(p impl.Order) bool { return sameOrder(c.o, p) }); got != (kind >= c.first) {
				t.Error("of a kind", c.o, kind, got)
			}
			if got, apart, ok := impl.NearestOf(c.o, kind); sameOrder(got, c.o) != (kind >= c.first) || (apart == 0) != (kind >= c.first) || !ok {
				t.Error("nearest", c.o, kind, got, apart, ok)
			}
		}
	}
}

func TestPairsApartTold(t *testing.T) {
	cases := []struct {
		o, p impl.Order
		want int
	}{
		{rel(0), rel(0), 0}, {rel(1), rel(1), 0}, {rel(1), ord("1:1"), 1}, {ord("1:1"), ord("1:1"), 0}, {ord("2:01/00"), ord("2:00/10"), 2}, {ord("2:01/00"), ord("2:01/10"), 1}, {ord("2:11/11"), rel(2), 4}, {ord("2:10/01"), ord("2:01/10"), 4},
		{ord("3:010/001/000"), ord("3:011/001/000"), 1}, {ringOf(3), chainOf(3), 2}, {ringOf(3), rel(3), 3}, {chainOf(10), rel(10), 45}, {chainOf(10), chainOf(10), 0}, {chainOf(10), ringOf(10), 37}, {ringOf(10), ringOf(10), 0},
	}
	for _, c := range cases {
		for _, pair := range [][2]impl.Order{{c.o, c.p}, {c.p, c.o}} {
			if got, ok := impl.PairsApart(pair[0], pair[1]); got != c.want || !ok {
				t.Error("apart", pair, got, ok)
			}
		}
	}
	for size := range 11 {
		for other := range 11 {
			if got, ok := impl.PairsApart(rel(size), chainOf(other)); ok != (size == other) || !ok && got != 0 {
				t.Error("apart", size, other, got, ok)
			}
		}
		mirror, _ := impl.MirrorOf(chainOf(size))
		if got, ok := impl.PairsApart(chainOf(size), mirror); got != size*(size-1) || !ok {
			t.Error("apart in all that orders tell", size, got, ok)
		}
		whole := impl.Order{Size: size, Above: slices.Repeat([]int{1<<size - 1}, size)}
		if got, ok := impl.PairsApart(whole, rel(size)); got != size*size || !ok {
			t.Error("apart in all", size, got, ok)
		}
	}
	for _, bad := range badRelations() {
		for _, pair := range [][2]impl.Order{{bad, bad}, {bad, rel(max(0, min(10, bad.Size)))}, {rel(max(0, min(10, bad.Size))), bad}, {rel(2), bad}, {bad, rel(2)}} {
			if got, ok := impl.PairsApart(pair[0], pair[1]); got != 0 || ok {
				t.Error("no relations", pair, got)
			}
		}
	}
}

// TestNearestTold has relations with the nearest order of each kind and how far away it is, worked out by hand.
func TestNearestTold(t *testing.T) {
	type near struct {
		text  string
		apart int
	}
	all := func(text string, apart int) [4]near {
		n := near{text, apart}
		return [4]near{n, n, n, n}
	}
	cases := []struct {
		text string
		want [4]near
	}{
		{"0:", all("0:", 0)}, {"1:0", all("1:0", 0)}, {"1:1", all("1:0", 1)}, {"2:00/00", all("2:00/00", 0)}, {"2:01/00", all("2:01/00", 0)},
		// Two are better than each other: of two orders that are equally near, the one with less above 0 is first.
		{"2:01/10", all("2:00/10", 1)}, {"2:11/11", all("2:00/10", 3)}, {"2:10/01", all("2:00/00", 2)}, {"2:11/00", all("2:01/00", 1)}, {"2:01/01", all("2:01/00", 1)},
		{"3:010/001/000", [4]near{{"3:011/001/000", 1}, {"3:000/001/000", 1}, {"3:000/001/000", 1}, {"3:000/001/000", 1}}}, {"3:100/010/001", all("3:000/000/000", 3)}, {"3:111/111/111", all("3:000/100/110", 6)},
		{"3:010/000/000", [4]near{{"3:000/000/000", 1}, {"3:010/000/000", 0}, {"3:010/000/000", 0}, {"3:010/000/000", 0}}},
		{"3:010/001/100", [4]near{{"3:000/101/100", 2}, {"3:000/000/100", 2}, {"3:000/000/100", 2}, {"3:000/000/100", 2}}},
		{"4:0110/0010/0000/0000", [4]near{{"4:0010/0010/0000/0010", 2}, {"4:0010/0010/0000/0000", 1}, {"4:0110/0010/0000/0000", 0}, {"4:0110/0010/0000/0000", 0}}},
		{"4:0100/0000/0001/0000", [4]near{{"4:0000/0000/0000/0000", 2}, {"4:0000/0000/0001/0000", 1}, {"4:0000/0000/0001/0000", 1}, {"4:0100/0000/0001/0000", 0}}},
		{"4:0111/0011/0001/0000", all("4:0111/0011/0001/0000", 0)}, {"4:0111/0111/0001/0000", all("4:0111/0011/0001/0000", 1)},
	}
	for _, c := range cases {
		for kind, want := range c.want {
			if got, apart, ok := impl.NearestOf(ord(c.text), kind); !sameOrder(got, ord(want.text)) || apart != want.apart || !ok {
				t.Error("nearest", c.text, kind, got, apart, ok)
			}
		}
		for _, kind := range badKinds() {
			if got, apart, ok := impl.NearestOf(ord(c.text), kind); !isZero(got) || apart != 0 || ok {
				t.Error("no kind", c.text, kind, got, apart)
			}
		}
	}
	for kind := range 4 {
		for size := 5; size <= 10; size++ {
			for _, o := range []impl.Order{rel(size), chainOf(size), ringOf(size)} {
				if got, apart, ok := impl.NearestOf(o, kind); !isZero(got) || apart != 0 || ok {
					t.Error("too many elements", o, kind, got, apart)
				}
			}
		}
		for _, bad := range badRelations() {
			if got, apart, ok := impl.NearestOf(bad, kind); !isZero(got) || apart != 0 || ok {
				t.Error("no relation", bad, kind, got, apart)
			}
		}
	}
}
