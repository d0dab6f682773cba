package tests

import (
	"math"
	"slices"
	"testing"

	"loop.example/g01106/impl"
)

// intervalCalls are the functions of chapter 2 on a list of intervals, an order, one more interval and two numbers.
func intervalCalls(list []impl.Interval, o impl.Order, x impl.Interval, at, by int) []call {
	calls := []call{}
	add := func(name string, run func(list []impl.Interval, o impl.Order) []any) {
		calls = append(calls, call{
			name: name,
			args: func() []any { return []any{spareIntervals(list), spareOrder(o), x, at, by} },
			run: func(args []any) []any {
				return run(args[0].([]impl.Interval), args[1].(impl.Order))
			},
		})
	}
	add("AreIntervals", func(list []impl.Interval, o impl.Order) []any { return []any{impl.AreIntervals(list)} })
	add("OrderOfIntervals", func(list []impl.Interval, o impl.Order) []any {
		a, ok := impl.OrderOfIntervals(list)
		return []any{a, ok}
	})
	add("IsIntervalOrder", func(list []impl.Interval, o impl.Order) []any { a, ok := impl.IsIntervalOrder(o); return []any{a, ok} })
	add("TwoTwoOf", func(list []impl.Interval, o impl.Order) []any { a, ok := impl.TwoTwoOf(o); return []any{a, ok} })
	add("LowerLevels", func(list []impl.Interval, o impl.Order) []any { a, ok := impl.LowerLevels(o); return []any{a, ok} })
	add("MagnitudeOf", func(list []impl.Interval, o impl.Order) []any { a, ok := impl.MagnitudeOf(o); return []any{a, ok} })
	add("EndsOf", func(list []impl.Interval, o impl.Order) []any { a, ok := impl.EndsOf(o); return []any{a, ok} })
	add("DoRepresent", func(list []impl.Interval, o impl.Order) []any {
		a, ok := impl.DoRepresent(list, o)
		return []any{a, ok}
	})
	add("AreLeastEnds", func(list []impl.Interval, o impl.Order) []any { a, ok := impl.AreLeastEnds(list); return []any{a, ok} })
	add("SetsAlong", func(list []impl.Interval, o impl.Order) []any { a, ok := impl.SetsAlong(o); return []any{a, ok} })
	add("InsertInterval", func(list []impl.Interval, o impl.Order) []any {
		a, ok := impl.InsertInterval(o, x)
		return []any{a, ok}
	})
	add("MirrorIntervals", func(list []impl.Interval, o impl.Order) []any {
		a, ok := impl.MirrorIntervals(list)
		return []any{a, ok}
	})
	add("StretchIntervals", func(list []impl.Interval, o impl.Order) []any {
		a, ok := impl.StretchIntervals(list, at, by)
		return []any{a, ok}
	})
	return calls
}

// needsIntervals tells which functions of chapter 2 fail for lists that are no intervals.
func needsIntervals(name string) bool {
	return slices.Contains([]string{"AreIntervals", "OrderOfIntervals", "DoRepresent", "AreLeastEnds", "MirrorIntervals", "StretchIntervals"}, name)
}

// readsOrder tells which functions of chapter 2 fail for relations that are no orders.
func readsOrder(name string) bool {
	return name == "DoRepresent" || !needsIntervals(name)
}

// TestWhatAreNoIntervals gives each function a list that is no intervals beside arguments that are right.
func TestWhatAreNoIntervals(t *testing.T) {
	for _, bad := range badIntervals() {
		for _, c := range intervalCalls(bad, rel(min(len(bad), 10)), impl.Interval{}, 1000, 0) {
			if needsIntervals(c.name) && isLastTrue(c) {
				t.Errorf("%s%v succeeds", c.name, c.args())
			}
		}
	}
}

// TestWhatIsNoOrderOfIntervals gives each function a value that is no order beside arguments that are right.
func TestWhatIsNoOrderOfIntervals(t *testing.T) {
	for _, bad := range append(badRelations(), badOrders()...) {
		for _, list := range [][]impl.Interval{nil, manyIntervals(max(0, min(bad.Size, 10))), mixed()} {
			for _, c := range intervalCalls(list, bad, impl.Interval{}, 0, 0) {
				if isLastTrue(c) == readsOrder(c.name) {
					t.Errorf("%s%v", c.name, c.args())
				}
			}
		}
	}
}

// TestIntervalsTotal is promise 11 for chapter 2.
func TestIntervalsTotal(t *testing.T) {
	n := numbers(37)
	orders := append(badRelations(), badOrders()...)
	orders = append(append(orders, refusedOrders()...), impl.Order{}, impl.Order{Above: []int{}}, rel(1), rel(9), rel(10), chainOf(3), chainOf(9), chainOf(10), gridOf(2, 3), slowOrder(mixed()))
	lists := append(badIntervals(), nil, []impl.Interval{}, mixed(), manyIntervals(1), manyIntervals(9), manyIntervals(10), ivs([2]int{-1000, 1000}), ivs([2]int{0, 0}, [2]int{1, 1}, [2]int{0, 1}))
	for range 20 {
		lists = append(lists, n.intervals(n.below(11), -4, 12))
		orders = append(orders, slowOrder(n.intervals(n.below(11), 0, 9)))
	}
	ints := []int{0, 1, -1, 2, 999, 1000, 1001, -1000, -1001, 64, 1 << 40, math.MaxInt, math.MinInt}
	for k, list := range lists {
		for i, o := range orders {
			x := impl.Interval{Left: ints[(i+k)%len(ints)], Right: ints[(i*2+k)%len(ints)]}
			for _, c := range intervalCalls(list, o, x, ints[k%len(ints)], ints[i%len(ints)]) {
				if c.name == "DoRepresent" || needsIntervals(c.name) && i < 2 || readsOrder(c.name) && k < 2 {
					checkTotal(t, c)
				}
			}
		}
		for _, at := range ints {
			for _, by := range ints {
				for _, c := range intervalCalls(list, orders[k%len(orders)], impl.Interval{Left: at, Right: by}, at, by) {
					if c.name == "StretchIntervals" || c.name == "InsertInterval" {
						checkTotal(t, c)
					}
				}
			}
		}
	}
}
