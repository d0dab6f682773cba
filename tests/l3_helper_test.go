package tests

import (
	"math"
	"slices"

	"loop.example/g01106/impl"
)

// badThresholds are no thresholds.
func badThresholds() []int {
	return []int{0, 11, -1, 12, -10, 64, 1<<32 + 1, math.MaxInt, math.MinInt}
}

// badStairs are lists that are no stairs.
func badStairs() [][]int {
	return [][]int{
		{1}, {-1}, {0, 2}, {0, -1}, {0, 1, 0}, {0, 0, 3}, {0, 0, 2, 1}, {0, 1, 2, 4}, {1, 1}, {0, 0, -1}, {-1, 0}, {0, 1, 1, 0, 4}, {0, 0, 1, 2, 3, 4, 5, 6, 7, 10}, {0, 0, 1, 2, 3, 4, 5, 6, 7, 6},
		make([]int, 11), {0, 1, 2, 3, 4, 5, 6, 7, 8, 9, 10}, make([]int, 64), make([]int, 1000), {math.MaxInt}, {math.MinInt}, {0, math.MaxInt}, {0, math.MinInt}, {0, 1 << 32},
	}
}

// threeOne is the chain 0, 1, 2 beside the element 3.
func threeOne() impl.Order {
	return rel(4, [2]int{0, 1}, [2]int{1, 2}, [2]int{0, 2})
}

// asideOrders are interval orders that are no semiorders.
func asideOrders() []impl.Order {
	return []impl.Order{
		threeOne(), rel(4, [2]int{3, 2}, [2]int{2, 1}, [2]int{3, 1}), rel(4, [2]int{2, 0}, [2]int{0, 3}, [2]int{2, 3}), rel(10, [2]int{8, 9}, [2]int{9, 5}, [2]int{8, 5}),
		slowOrder(ivs([2]int{0, 0}, [2]int{1, 1}, [2]int{2, 2}, [2]int{3, 3}, [2]int{4, 4}, [2]int{0, 4})),
		slowOrder(ivs([2]int{0, 9}, [2]int{1, 1}, [2]int{2, 2}, [2]int{3, 3}, [2]int{4, 4}, [2]int{5, 5}, [2]int{6, 6}, [2]int{7, 7}, [2]int{8, 8}, [2]int{9, 9})),
	}
}

// allStairs returns all stairs of so many numbers, out of all lists of numbers that are low enough.
func allStairs(n int) [][]int {
	stairs := [][]int{{}}
	for i := range n {
		var longer [][]int
		for _, stair := range stairs {
			for number := range i + 1 {
				if i == 0 || number >= stair[i-1] {
					longer = append(longer, append(slices.Clone(stair), number))
				}
			}
		}
		stairs = longer
	}
	return stairs
}

// slowOrderOfPlaces returns the order of which a list is places.
func slowOrderOfPlaces(threshold int, places []int) impl.Order {
	o := rel(len(places))
	for i := range places {
		for j := range places {
			if places[j]-places[i] >= threshold {
				o.Above[i] |= 1 << j
			}
		}
	}
	return o
}

// someSemiorders returns semiorders of all sizes, with names in any order.
func someSemiorders() []impl.Order {
	n := numbers(43)
	orders := []impl.Order{{}}
	for size := range impl.MaxSize + 1 {
		for k := range 60 {
			places := make([]int, size)
			for i := range places {
				places[i] = n.below(1 + size*(1+k%5)/2)
			}
			orders = append(orders, slowOrderOfPlaces(1+k%4, places))
		}
	}
	return orders
}

// firstAside returns the first chain of three elements and an element that is indifferent to all of them.
func firstAside(o impl.Order) []int {
	g := gridFrom(o)
	for a := range g {
		for b := range g {
			for c := range g {
				for d := range g {
					if g[a][b] && g[b][c] && areApart(g, a, d) && areApart(g, b, d) && areApart(g, c, d) {
						return []int{a, b, c, d}
					}
				}
			}
		}
	}
	return nil
}

func areApart(g [][]bool, i, j int) bool {
	return i != j && !g[i][j] && !g[j][i]
}

// isSlowSemiorder looks for the pairs and the chains that a semiorder has not.
func isSlowSemiorder(o impl.Order) bool {
	g := gridFrom(o)
	for a := range g {
		for b := range g {
			for c := range g {
				for d := range g {
					if g[a][b] && g[c][d] && areApart(g, a, d) && areApart(g, c, b) {
						return false
					}
				}
			}
		}
	}
	return firstAside(o) == nil
}

// slowWeight returns the weight of the demand from i to j.
func slowWeight(o impl.Order, threshold, i, j int) (int, bool) {
	g := gridFrom(o)
	if g[i][j] {
		return threshold, true
	}
	if areApart(g, i, j) {
		return 1 - threshold, true
	}
	return 0, false
}

// slowLeastPlaces returns the greatest sums of weights on ways to each element; it fails if a way back to where it began has a sum greater than 0.
func slowLeastPlaces(o impl.Order, threshold int) ([]int, bool) {
	const none = -1 << 20
	far := make([][]int, o.Size)
	for i := range far {
		far[i] = make([]int, o.Size)
		for j := range far[i] {
			far[i][j] = none
			if weight, is := slowWeight(o, threshold, i, j); is {
				far[i][j] = weight
			}
		}
	}
	for k := range far {
		for i := range far {
			for j := range far {
				if far[i][k] > none/2 && far[k][j] > none/2 {
					far[i][j] = max(far[i][j], far[i][k]+far[k][j])
				}
			}
		}
		for i := range far {
			if far[i][i] > 0 {
				return nil, false
			}
		}
	}
	places := make([]int, o.Size)
	for j := range places {
		for i := range places {
			places[j] = max(places[j], far[i][j])
		}
	}
	return places, true
}

// slowCycle returns the demand cycle that the document tells.
func slowCycle(o impl.Order, threshold int) ([]int, bool) {
	place, reason := map[int]int{}, map[int]int{}
	last := -1
	for round := 1; round <= o.Size+1; round++ {
		changes := 0
		for j := 0; j < o.Size; j++ {
			for i := 0; i < o.Size; i++ {
				weight, is := slowWeight(o, threshold, i, j)
				if !is || place[j] >= place[i]+weight {
					continue
				}
				place[j] = place[i] + weight
				reason[j] = i
				last = j
				changes++
			}
		}
		if changes == 0 {
			return nil, false
		}
	}
	way := []int{last}
	for len(way) <= o.Size {
		before, has := reason[way[len(way)-1]]
		if !has {
			panic("an element on the way has no reason")
		}
		way = append(way, before)
	}
	cycle := []int{way[o.Size]}
	for before := reason[cycle[0]]; before != way[o.Size]; before = reason[cycle[0]] {
		cycle = append([]int{before}, cycle...)
	}
	for cycle[0] != slices.Min(cycle) {
		cycle = append(cycle[1:], cycle[0])
	}
	return cycle, true
}

// isSlowCycle reports whether a list is a demand cycle.
func isSlowCycle(o impl.Order, threshold int, list []int) bool {
	met := map[int]bool{}
	sum := 0
	for k, i := range list {
		j := list[0]
		if k+1 < len(list) {
			j = list[k+1]
		}
		if met[i] || i < 0 || j < 0 || i >= o.Size || j >= o.Size {
			return false
		}
		met[i] = true
		weight, is := slowWeight(o, threshold, i, j)
		if !is {
			return false
		}
		sum += weight
	}
	return len(list) >= 2 && sum > 0
}

// slowSlack returns by how much the least demand is exceeded by places; it fails without demands.
func slowSlack(o impl.Order, threshold int, places []int) (int, bool) {
	least, found := math.MaxInt, false
	for i := range places {
		for j := range places {
			if weight, is := slowWeight(o, threshold, i, j); is {
				least, found = min(least, places[j]-(places[i]+weight)), true
			}
		}
	}
	if !found {
		return 0, false
	}
	return least, true
}
