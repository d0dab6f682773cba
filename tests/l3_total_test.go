package tests

import (
	"fmt"
	"math"
	"slices"
	"testing"

	"loop.example/g01106/impl"
)

// semiCalls are the functions of chapter 3 on an order, a threshold, a list and a number.
func semiCalls(o impl.Order, threshold int, list []int, n int) []call {
	calls := []call{}
	add := func(name string, run func(o impl.Order, list []int) []any) {
		calls = append(calls, call{
			name: name,
			args: func() []any { return []any{spareOrder(o), threshold, spare(list), n} },
			run:  func(args []any) []any { return run(args[0].(impl.Order), args[2].([]int)) },
		})
	}
	add("ThreeOneOf", func(o impl.Order, list []int) []any { a, ok := impl.ThreeOneOf(o); return []any{a, ok} })
	add("IsSemiorder", func(o impl.Order, list []int) []any { a, ok := impl.IsSemiorder(o); return []any{a, ok} })
	add("IsPlaces", func(o impl.Order, list []int) []any {
		a, ok := impl.IsPlaces(o, threshold, list)
		return []any{a, ok}
	})
	add("OrderOfPlaces", func(o impl.Order, list []int) []any {
		a, ok := impl.OrderOfPlaces(threshold, list)
		return []any{a, ok}
	})
	add("LeastPlaces", func(o impl.Order, list []int) []any { a, ok := impl.LeastPlaces(o, threshold); return []any{a, ok} })
	add("DemandCycle", func(o impl.Order, list []int) []any { a, ok := impl.DemandCycle(o, threshold); return []any{a, ok} })
	add("IsDemandCycle", func(o impl.Order, list []int) []any {
		a, ok := impl.IsDemandCycle(o, threshold, list)
		return []any{a, ok}
	})
	add("LeastThreshold", func(o impl.Order, list []int) []any { a, ok := impl.LeastThreshold(o); return []any{a, ok} })
	add("SlackOf", func(o impl.Order, list []int) []any {
		a, ok := impl.SlackOf(o, threshold, list)
		return []any{a, ok}
	})
	add("TraceList", func(o impl.Order, list []int) []any { a, ok := impl.TraceList(o); return []any{a, ok} })
	add("StairOf", func(o impl.Order, list []int) []any { a, ok := impl.StairOf(o); return []any{a, ok} })
	add("IsStair", func(o impl.Order, list []int) []any { return []any{impl.IsStair(list)} })
	add("OrderOfStair", func(o impl.Order, list []int) []any { a, ok := impl.OrderOfStair(list); return []any{a, ok} })
	add("StairsOf", func(o impl.Order, list []int) []any { a, ok := impl.StairsOf(n); return []any{a, ok} })
	add("CountStairs", func(o impl.Order, list []int) []any { a, ok := impl.CountStairs(n); return []any{a, ok} })
	add("MirrorStair", func(o impl.Order, list []int) []any { a, ok := impl.MirrorStair(list); return []any{a, ok} })
	return calls
}

// needsThreshold tells which functions of chapter 3 have a threshold as an argument.
func needsThreshold(name string) bool {
	return slices.Contains([]string{"IsPlaces", "OrderOfPlaces", "LeastPlaces", "DemandCycle", "IsDemandCycle", "SlackOf"}, name)
}

// readsList tells which functions of chapter 3 have a list as an argument.
func readsList(name string) bool {
	return slices.Contains([]string{"IsPlaces", "OrderOfPlaces", "IsDemandCycle", "SlackOf", "IsStair", "OrderOfStair", "MirrorStair"}, name)
}

// readsSemiorder tells which functions of chapter 3 have an order as an argument.
func readsSemiorder(name string) bool {
	return !slices.Contains([]string{"OrderOfPlaces", "IsStair", "OrderOfStair", "StairsOf", "CountStairs", "MirrorStair"}, name)
}

// TestWhatIsNoThreshold gives each function a number that is no threshold beside arguments that are right.
func TestWhatIsNoThreshold(t *testing.T) {
	for _, bad := range badThresholds() {
		for _, o := range []impl.Order{{}, rel(2), chainOf(2), bend(), threeOne()} {
			for _, list := range [][]int{nil, {0, 0}, {0, 1}, {0, 1, 2}, {0, 2, 1}, {0, 1, 2, 3}} {
				for _, c := range semiCalls(o, bad, list, 2) {
					if needsThreshold(c.name) && isLastTrue(c) {
						t.Errorf("%s%v succeeds", c.name, c.args())
					}
				}
			}
		}
	}
}

// TestWhatIsNoOrderWithPlaces gives each function a value that is no order beside arguments that are right.
func TestWhatIsNoOrderWithPlaces(t *testing.T) {
	for _, bad := range append(badRelations(), badOrders()...) {
		for _, threshold := range []int{1, 2, 10} {
			for _, list := range [][]int{nil, {0}, {0, 1}, make([]int, max(0, min(bad.Size, 10))), {0, 1, 2}} {
				for _, c := range semiCalls(bad, threshold, list, 2) {
					if readsSemiorder(c.name) && isLastTrue(c) {
						t.Errorf("%s%v succeeds", c.name, c.args())
					}
				}
			}
		}
	}
}

// TestStairsShareNothing changes each stair of a list, and what is behind its end: the others stay as they are.
func TestStairsShareNothing(t *testing.T) {
	for n := range 7 {
		stairs, _ := impl.StairsOf(n)
		for k, stair := range stairs {
			before, after := fmt.Sprint(stairs[:k]), fmt.Sprint(stairs[k+1:])
			scribble([]any{stair})
			if fmt.Sprint(stairs[:k]) != before || fmt.Sprint(stairs[k+1:]) != after {
				t.Fatal("stairs share memory", n, k)
			}
		}
		want, _ := impl.CountStairs(n)
		if again, ok := impl.StairsOf(n); !ok || len(again) != want || !slices.EqualFunc(again, allStairs(n), slices.Equal) {
			t.Fatal("stairs are kept", n, again)
		}
	}
}

// TestSemiordersTotal is promise 11 for chapter 3.
func TestSemiordersTotal(t *testing.T) {
	orders := append(badRelations(), badOrders()...)
	orders = append(append(append(orders, refusedOrders()...), asideOrders()...), impl.Order{}, impl.Order{Above: []int{}}, rel(1), rel(2), rel(10))
	orders = append(orders, chainOf(3), chainOf(10), bend(), gridOf(2, 3), fenceOf(4), slowOrderOfPlaces(5, steps(9, 1)))
	lists := append(badStairs(), nil, []int{}, []int{0}, []int{0, 0}, []int{0, 1}, []int{1, 0}, []int{0, 2, 1}, []int{0, 1, 2}, []int{0, 1, 2, 3}, []int{0, 0, 1, 2})
	lists = append(lists, make([]int, 10), steps(10, 1), steps(10, 10), steps(10, 111), []int{1000}, []int{1001}, []int{math.MinInt, math.MaxInt}, []int{math.MaxInt, 0, math.MinInt})
	thresholds := append(badThresholds(), 1, 2, 3, 9, 10)
	for i, o := range orders {
		for _, threshold := range thresholds {
			for k, list := range lists {
				for _, c := range semiCalls(o, threshold, list, k) {
					once := k == 0 && (needsThreshold(c.name) || threshold == 1)
					if readsSemiorder(c.name) && (once || readsList(c.name) && (k+threshold)%3 == 0) || i == 0 && readsList(c.name) {
						checkTotal(t, c)
					}
				}
			}
		}
	}
	for _, n := range []int{0, 1, 2, 3, 6, 7, 10, 11, -1, 64, 1 << 40, math.MaxInt, math.MinInt} {
		for _, c := range semiCalls(impl.Order{}, 1, nil, n) {
			if c.name == "StairsOf" || c.name == "CountStairs" {
				checkTotal(t, c)
			}
		}
	}
}
