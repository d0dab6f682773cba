package tests

import (
	"math"
	"slices"
	"strings"
	"testing"

	"loop.example/g01106/impl"
)

// relationCalls are the functions of chapter 1 on a first relation, another one, a list and two numbers.
func relationCalls(o, p impl.Order, list []int, i, j int) []call {
	calls := []call{}
	add := func(name string, run func(o, p impl.Order, list []int) []any) {
		calls = append(calls, call{
			name: name,
			args: func() []any { return []any{spareOrder(o), spareOrder(p), spare(list), i, j} },
			run: func(args []any) []any {
				return run(args[0].(impl.Order), args[1].(impl.Order), args[2].([]int))
			},
		})
	}
	add("IsRelation", func(o, p impl.Order, list []int) []any { return []any{impl.IsRelation(o)} })
	add("IsOrder", func(o, p impl.Order, list []int) []any { return []any{impl.IsOrder(o)} })
	add("IsBetter", func(o, p impl.Order, list []int) []any { a, ok := impl.IsBetter(o, i, j); return []any{a, ok} })
	add("BelowOf", func(o, p impl.Order, list []int) []any { a, ok := impl.BelowOf(o, i); return []any{a, ok} })
	add("IndifferentTo", func(o, p impl.Order, list []int) []any { a, ok := impl.IndifferentTo(o, i); return []any{a, ok} })
	add("MirrorOf", func(o, p impl.Order, list []int) []any { a, ok := impl.MirrorOf(o); return []any{a, ok} })
	add("PartOf", func(o, p impl.Order, list []int) []any { a, ok := impl.PartOf(o, list); return []any{a, ok} })
	add("RenameOf", func(o, p impl.Order, list []int) []any { a, ok := impl.RenameOf(o, list); return []any{a, ok} })
	add("CloseRelation", func(o, p impl.Order, list []int) []any { a, ok := impl.CloseRelation(o); return []any{a, ok} })
	add("FindPattern", func(o, p impl.Order, list []int) []any { a, ok := impl.FindPattern(o, p); return []any{a, ok} })
	add("IsSameKind", func(o, p impl.Order, list []int) []any { a, ok := impl.IsSameKind(o, p); return []any{a, ok} })
	add("OrderText", func(o, p impl.Order, list []int) []any { a, ok := impl.OrderText(o); return []any{a, ok} })
	add("CoversOf", func(o, p impl.Order, list []int) []any { a, ok := impl.CoversOf(o); return []any{a, ok} })
	add("StackOrders", func(o, p impl.Order, list []int) []any { a, ok := impl.StackOrders(o, p); return []any{a, ok} })
	add("BesideOrders", func(o, p impl.Order, list []int) []any { a, ok := impl.BesideOrders(o, p); return []any{a, ok} })
	add("CountExtensions", func(o, p impl.Order, list []int) []any { a, ok := impl.CountExtensions(o); return []any{a, ok} })
	add("FirstExtension", func(o, p impl.Order, list []int) []any { a, ok := impl.FirstExtension(o); return []any{a, ok} })
	add("IsExtension", func(o, p impl.Order, list []int) []any { a, ok := impl.IsExtension(o, list); return []any{a, ok} })
	add("LongestChain", func(o, p impl.Order, list []int) []any { a, ok := impl.LongestChain(o); return []any{a, ok} })
	add("LargestAntichain", func(o, p impl.Order, list []int) []any { a, ok := impl.LargestAntichain(o); return []any{a, ok} })
	add("ChainNumbers", func(o, p impl.Order, list []int) []any { a, ok := impl.ChainNumbers(o); return []any{a, ok} })
	return calls
}

// needsOrder tells which functions fail for relations that are no orders.
func needsOrder(name string) bool {
	return slices.Contains([]string{"CoversOf", "StackOrders", "BesideOrders", "CountExtensions", "FirstExtension", "IsExtension", "LongestChain", "LargestAntichain", "ChainNumbers"}, name)
}

func needsTwo(name string) bool {
	return slices.Contains([]string{"FindPattern", "IsSameKind", "StackOrders", "BesideOrders"}, name)
}

func isLastTrue(c call) bool {
	results := c.run(c.args())
	return results[len(results)-1] == true
}

// TestWhatIsNoRelation gives each function a value that is no relation beside arguments that are right.
func TestWhatIsNoRelation(t *testing.T) {
	for _, bad := range badRelations() {
		for _, size := range []int{0, 1, 2, 3, 10} {
			list := []int{0, 1, 2, 3, 4, 5, 6, 7, 8, 9}[:size]
			for _, c := range relationCalls(bad, rel(1), list, 0, 0) {
				if isLastTrue(c) {
					t.Errorf("%s%v succeeds", c.name, c.args())
				}
			}
		}
		for _, c := range relationCalls(rel(1), bad, []int{0}, 0, 0) {
			if isLastTrue(c) == needsTwo(c.name) {
				t.Errorf("%s%v", c.name, c.args())
			}
		}
	}
}

// TestWhatIsNoOrder gives each function a relation that is no order: just those that need one fail.
func TestWhatIsNoOrder(t *testing.T) {
	for _, bad := range badOrders() {
		list := []int{0, 1, 2, 3, 4, 5, 6, 7, 8, 9}[:bad.Size]
		for _, c := range relationCalls(bad, rel(0), list, 0, 0) {
			if c.name == "IsSameKind" && bad.Size > impl.MaxPattern {
				continue
			}
			if isLastTrue(c) == (needsOrder(c.name) || c.name == "IsOrder") {
				t.Errorf("%s%v", c.name, c.args())
			}
		}
		for _, c := range relationCalls(rel(0), bad, nil, 0, 0) {
			if (c.name == "StackOrders" || c.name == "BesideOrders") && isLastTrue(c) {
				t.Errorf("%s%v succeeds", c.name, c.args())
			}
		}
	}
}

// TestOrdersTotal is promise 11 for chapter 1.
func TestOrdersTotal(t *testing.T) {
	n := numbers(19)
	relations := append(badRelations(), badOrders()...)
	relations = append(relations, impl.Order{}, impl.Order{Above: []int{}}, rel(1), chainOf(2), chainOf(3), gridOf(2, 3), fenceOf(6), crownOf(5), gridOf(2, 5), chainOf(10), rel(10), n.order(7, 2), n.relation(5, 5))
	lists := [][]int{nil, {}, {0}, {0, 1}, {1, 0}, {0, 1, 2}, {2, 1, 0}, {0, 0, 0}, {0, 1, 2, 3, 4, 5, 6, 7, 8, 9}, {9, 8, 7, 6, 5, 4, 3, 2, 1, 0},
		make([]int, 11), make([]int, 1000), {-1}, {0, -1, 2}, {64}, {0, 64}, {math.MaxInt, math.MinInt}, {math.MinInt, 0, math.MaxInt}}
	ints := []int{0, 1, 2, 9, -1, 10, 63, 64, -64, 1 << 40, math.MaxInt, math.MinInt}
	for _, o := range relations {
		for k, p := range relations {
			for _, c := range relationCalls(o, p, lists[k%len(lists)], ints[k%len(ints)], ints[k/2%len(ints)]) {
				if needsTwo(c.name) {
					checkTotal(t, c)
				}
			}
		}
		for k, list := range lists {
			for _, c := range relationCalls(o, rel(2), list, ints[k%len(ints)], ints[(k+5)%len(ints)]) {
				checkTotal(t, c)
			}
		}
		for _, i := range ints {
			for _, j := range ints {
				for _, c := range relationCalls(o, rel(2), nil, i, j) {
					if c.name == "IsBetter" || c.name == "BelowOf" || c.name == "IndifferentTo" {
						checkTotal(t, c)
					}
				}
			}
		}
	}
}

func TestTextsTotal(t *testing.T) {
	for _, s := range []string{"", ":", "0:", "1:0", "2:01/00", "3:01", "10:", "-1:", "\xff:\x00", "9223372036854775808:", strings.Repeat("/", 2000), "10:" + strings.Repeat("1111111111/", 9) + "1111111111"} {
		checkTotal(t, call{
			name: "ParseOrder",
			args: func() []any { return []any{s} },
			run:  func(args []any) []any { o, ok := impl.ParseOrder(args[0].(string)); return []any{o, ok} },
		})
	}
}
