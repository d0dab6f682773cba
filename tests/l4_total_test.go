package tests

import (
	"math"
	"slices"
	"testing"

	"loop.example/g01106/impl"
)

// orderCallsOfWeak are the functions of chapter 4 on orders.
func orderCallsOfWeak(o, p impl.Order) []call {
	calls := []call{}
	add := func(name string, run func(o, p impl.Order) []any) {
		calls = append(calls, call{
			name: name,
			args: func() []any { return []any{spareOrder(o), spareOrder(p)} },
			run:  func(args []any) []any { return run(args[0].(impl.Order), args[1].(impl.Order)) },
		})
	}
	add("TwoOneOf", func(o, p impl.Order) []any { a, ok := impl.TwoOneOf(o); return []any{a, ok} })
	add("IsWeak", func(o, p impl.Order) []any { a, ok := impl.IsWeak(o); return []any{a, ok} })
	add("WeakLevels", func(o, p impl.Order) []any { a, ok := impl.WeakLevels(o); return []any{a, ok} })
	add("TraceOf", func(o, p impl.Order) []any { a, ok := impl.TraceOf(o); return []any{a, ok} })
	add("DoesRefine", func(o, p impl.Order) []any { a, ok := impl.DoesRefine(o, p); return []any{a, ok} })
	add("MeetOrders", func(o, p impl.Order) []any { a, ok := impl.MeetOrders(o, p); return []any{a, ok} })
	add("PairDistance", func(o, p impl.Order) []any { a, ok := impl.PairDistance(o, p); return []any{a, ok} })
	return calls
}

// levelCalls are the functions of chapter 4 on levels.
func levelCalls(first, second []int) []call {
	calls := []call{}
	add := func(name string, run func(first, second []int) []any) {
		calls = append(calls, call{
			name: name,
			args: func() []any { return []any{spare(first), spare(second)} },
			run:  func(args []any) []any { return run(args[0].([]int), args[1].([]int)) },
		})
	}
	add("AreLevels", func(first, second []int) []any { return []any{impl.AreLevels(first)} })
	add("OrderOfLevels", func(first, second []int) []any { a, ok := impl.OrderOfLevels(first); return []any{a, ok} })
	add("RankLevels", func(first, second []int) []any { a, ok := impl.RankLevels(first); return []any{a, ok} })
	add("RefineLevels", func(first, second []int) []any { a, ok := impl.RefineLevels(first, second); return []any{a, ok} })
	add("MirrorLevels", func(first, second []int) []any { a, ok := impl.MirrorLevels(first); return []any{a, ok} })
	add("CountLinear", func(first, second []int) []any { a, ok := impl.CountLinear(first); return []any{a, ok} })
	return calls
}

// voterCalls are the functions of chapter 4 on voters.
func voterCalls(lists [][]int) []call {
	args := func() []any { return []any{spareLists(lists)} }
	return []call{
		{"MajorityOf", args, func(args []any) []any { a, ok := impl.MajorityOf(args[0].([][]int)); return []any{a, ok} }},
		{"MeanLevels", args, func(args []any) []any { a, ok := impl.MeanLevels(args[0].([][]int)); return []any{a, ok} }},
	}
}

// rankCalls are the functions of chapter 4 on numbers.
func rankCalls(n, rank int) []call {
	args := func() []any { return []any{n, rank} }
	return []call{
		{"CountWeak", args, func(args []any) []any { a, ok := impl.CountWeak(n); return []any{a, ok} }},
		{"LevelsWith", args, func(args []any) []any { a, ok := impl.LevelsWith(n, rank); return []any{a, ok} }},
	}
}

// TestWhatIsNoOrderWithLevels gives each function a value that is no order, alone, beside itself and beside an order of the same size.
func TestWhatIsNoOrderWithLevels(t *testing.T) {
	for _, bad := range append(badRelations(), badOrders()...) {
		good := rel(max(0, min(bad.Size, 10)))
		for _, pair := range [][2]impl.Order{{bad, bad}, {bad, good}, {bad, {}}, {good, bad}, {{}, bad}} {
			for _, c := range orderCallsOfWeak(pair[0], pair[1]) {
				takesTwo := slices.Contains([]string{"DoesRefine", "MeetOrders", "PairDistance"}, c.name)
				isFirst := !sameOrder(pair[0], good) && !sameOrder(pair[0], impl.Order{})
				if (takesTwo || isFirst) && isLastTrue(c) {
					t.Errorf("%s%v succeeds", c.name, c.args())
				}
			}
		}
	}
}

// TestWeakOrdersTotal is promise 11 for chapter 4 and orders.
func TestWeakOrdersTotal(t *testing.T) {
	orders := append(badRelations(), badOrders()...)
	orders = append(append(append(orders, refusedOrders()...), asideOrders()...), impl.Order{}, impl.Order{Above: []int{}}, rel(1), rel(2), rel(3), rel(10))
	orders = append(orders, chainOf(3), chainOf(10), bend(), gridOf(2, 3), fenceOf(4), slowOrderOfPlaces(5, steps(9, 1)))
	for _, o := range orders {
		for k, p := range orders {
			for _, c := range orderCallsOfWeak(o, p) {
				takesTwo := slices.Contains([]string{"DoesRefine", "MeetOrders", "PairDistance"}, c.name)
				if k == 0 || takesTwo {
					checkTotal(t, c)
				}
			}
		}
	}
}

// TestLevelsTotal is promise 11 for chapter 4 and levels, ranks and voters.
func TestLevelsTotal(t *testing.T) {
	lists := append(badLevels(), nil, []int{}, []int{0}, []int{0, 0}, []int{0, 1}, []int{1, 0}, []int{0, 1, 0}, []int{2, 0, 1}, make([]int, 6), steps(6, 1), make([]int, 10), steps(10, 1))
	for i, first := range lists {
		for k, second := range lists {
			for _, c := range levelCalls(first, second) {
				if k == 0 || c.name == "RefineLevels" && (i+k)%2 == 0 || i == k {
					checkTotal(t, c)
				}
			}
		}
	}
	groups := append(badVoters(), voters(1), voters(15), voters(1, 0), voters(15, 0, 1), voters(2, steps(10, 1)...), [][]int{{0, 1, 2}, {1, 2, 0}, {2, 0, 1}}, [][]int{nil, {}}, [][]int{{}, nil})
	for _, group := range groups {
		for _, c := range voterCalls(group) {
			checkTotal(t, c)
		}
	}
	extreme := []int{0, 1, 2, 3, 5, 6, 7, 10, 11, 12, 13, 74, 75, 4682, 4683, -1, 64, 1 << 40, math.MaxInt, math.MinInt}
	for _, n := range extreme {
		for _, rank := range extreme {
			for _, c := range rankCalls(n, rank) {
				checkTotal(t, c)
			}
		}
	}
}
