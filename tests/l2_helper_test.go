package tests

import (
	"math"
	"slices"

	"loop.example/g01106/impl"
)

// ivs returns the intervals from the first to the second number of each pair.
func ivs(pairs ...[2]int) []impl.Interval {
	list := []impl.Interval{}
	for _, p := range pairs {
		list = append(list, impl.Interval{Left: p[0], Right: p[1]})
	}
	return list
}

// manyIntervals returns so many intervals from 0 to 0.
func manyIntervals(count int) []impl.Interval {
	return make([]impl.Interval, count)
}

// badIntervals are values that are no intervals.
func badIntervals() [][]impl.Interval {
	return [][]impl.Interval{
		ivs([2]int{1, 0}), ivs([2]int{0, -1}), ivs([2]int{1000, -1000}), ivs([2]int{0, 0}, [2]int{5, 4}), ivs([2]int{5, 4}, [2]int{0, 0}),
		ivs([2]int{0, 1001}), ivs([2]int{-1001, 0}), ivs([2]int{-1001, 1001}), ivs([2]int{1001, 1001}), ivs([2]int{-1001, -1001}),
		ivs([2]int{0, 0}, [2]int{0, 0}, [2]int{1000, 1001}), ivs([2]int{-1001, -1000}, [2]int{0, 0}), ivs([2]int{1001, 0}), ivs([2]int{0, -1001}),
		ivs([2]int{math.MinInt, 0}), ivs([2]int{0, math.MaxInt}), ivs([2]int{math.MinInt, math.MaxInt}), ivs([2]int{math.MaxInt, math.MinInt}),
		ivs([2]int{math.MaxInt, math.MaxInt}), ivs([2]int{math.MinInt, math.MinInt}), ivs([2]int{1 << 32, 1 << 32}),
		manyIntervals(11), manyIntervals(64), manyIntervals(65), manyIntervals(1000),
	}
}

// refusedOrders are orders that are no interval orders.
func refusedOrders() []impl.Order {
	return []impl.Order{
		rel(4, [2]int{0, 1}, [2]int{2, 3}), rel(4, [2]int{3, 0}, [2]int{1, 2}), crownOf(3), crownOf(4), crownOf(5), fenceOf(5), fenceOf(6), fenceOf(10), gridOf(2, 4), gridOf(3, 3),
		rel(10, [2]int{9, 8}, [2]int{7, 6}), rel(6, [2]int{0, 1}, [2]int{2, 3}, [2]int{4, 5}),
	}
}

// intervals returns so many intervals, none with an end less than least or greater than least by spread.
func (n *numbers) intervals(count, least, spread int) []impl.Interval {
	list := []impl.Interval{}
	for range count {
		a, b := n.below(spread+1), n.below(spread+1)
		list = append(list, impl.Interval{Left: least + min(a, b), Right: least + max(a, b)})
	}
	return list
}

// someIntervals returns lists of intervals of all lengths.
func someIntervals() [][]impl.Interval {
	n := numbers(23)
	lists := [][]impl.Interval{nil, ivs([2]int{-1000, 1000}), ivs([2]int{-1000, -1000}, [2]int{1000, 1000})}
	for count := range impl.MaxSize + 1 {
		for _, spread := range []int{0, 1, 2, 3, 5, 9, 20, 1000, 2000} {
			for range 8 {
				lists = append(lists, n.intervals(count, n.below(2001-spread)-1000, spread), n.intervals(count, 0, min(spread, 1000)))
			}
		}
	}
	return lists
}

// allIntervals returns all lists of so many intervals with ends in 0..greatest.
func allIntervals(count, greatest int) [][]impl.Interval {
	lists := [][]impl.Interval{{}}
	for range count {
		var longer [][]impl.Interval
		for _, list := range lists {
			for left := range greatest + 1 {
				for right := left; right <= greatest; right++ {
					longer = append(longer, append(slices.Clone(list), impl.Interval{Left: left, Right: right}))
				}
			}
		}
		lists = longer
	}
	return lists
}

// slowOrder returns the order that intervals represent.
func slowOrder(list []impl.Interval) impl.Order {
	o := rel(len(list))
	for i := range list {
		for j := range list {
			if list[i].Right < list[j].Left {
				o.Above[i] |= 1 << j
			}
		}
	}
	return o
}

func spareIntervals(list []impl.Interval) []impl.Interval {
	if list == nil {
		return nil
	}
	roomy := make([]impl.Interval, len(list), len(list)+3)
	copy(roomy, list)
	for i := len(list); i < cap(roomy); i++ {
		roomy[:cap(roomy)][i] = impl.Interval{Left: 777, Right: 778}
	}
	return roomy
}
