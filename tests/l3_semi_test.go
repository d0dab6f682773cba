package tests

import (
	"math"
	"slices"
	"testing"

	"loop.example/g01106/impl"
)

// steps are the places 0, step, 2 step, ..
func steps(count, step int) []int {
	list := make([]int, count)
	for i := range list {
		list[i] = i * step
	}
	return list
}

// bend is the order of the document's example.
func bend() impl.Order {
	return rel(3, [2]int{0, 1})
}

func TestThreeOneOf(t *testing.T) {
	good := []struct {
		o    impl.Order
		want []int
	}{
		{threeOne(), []int{0, 1, 2, 3}}, {rel(4, [2]int{3, 2}, [2]int{2, 1}, [2]int{3, 1}), []int{3, 2, 1, 0}}, {rel(4, [2]int{2, 0}, [2]int{0, 3}, [2]int{2, 3}), []int{2, 0, 3, 1}},
		{rel(10, [2]int{8, 9}, [2]int{9, 5}, [2]int{8, 5}), []int{8, 9, 5, 0}}, {asideOrders()[4], []int{0, 1, 2, 5}}, {asideOrders()[5], []int{1, 2, 3, 0}}, {gridOf(2, 4), []int{1, 2, 3, 4}},
		{rel(8, [2]int{4, 5}, [2]int{5, 6}, [2]int{4, 6}, [2]int{0, 1}, [2]int{1, 2}, [2]int{0, 2}), []int{0, 1, 2, 3}},
		{rel(6, [2]int{0, 1}, [2]int{1, 2}, [2]int{0, 2}, [2]int{1, 3}, [2]int{0, 3}, [2]int{0, 4}, [2]int{2, 4}, [2]int{1, 4}, [2]int{0, 5}, [2]int{1, 5}), nil},
		{rel(5, [2]int{0, 1}, [2]int{1, 2}, [2]int{0, 2}, [2]int{1, 3}, [2]int{0, 3}, [2]int{4, 2}), []int{0, 1, 3, 4}},
	}
	for _, c := range good {
		if got, ok := impl.ThreeOneOf(c.o); ok != (c.want != nil) || !slices.Equal(got, c.want) {
			t.Error("four", c.o, got, ok)
		}
	}
	for _, o := range []impl.Order{{}, rel(1), rel(3), rel(10), chainOf(3), chainOf(4), chainOf(10), bend(), rel(4, [2]int{0, 1}, [2]int{2, 3}), crownOf(5), fenceOf(10), gridOf(2, 2)} {
		if got, ok := impl.ThreeOneOf(o); ok || len(got) > 0 {
			t.Error("no four", o, got)
		}
	}
}

func TestIsSemiorder(t *testing.T) {
	for _, o := range append(refusedOrders(), asideOrders()...) {
		if is, ok := impl.IsSemiorder(o); is || !ok {
			t.Error("no semiorder", o, is, ok)
		}
	}
	told := slowOrderOfPlaces(10, []int{3, 7, 11, 14, 19, 23, 28, 31, 40, 44})
	for _, o := range []impl.Order{told, {}, {Above: []int{}}, rel(1), rel(2), rel(10), chainOf(3), chainOf(10), bend(), fenceOf(4), gridOf(2, 2), gridOf(2, 3), rel(10, [2]int{9, 0})} {
		if is, ok := impl.IsSemiorder(o); !is || !ok {
			t.Error("semiorder", o, is, ok)
		}
	}
}

func TestIsPlaces(t *testing.T) {
	cases := []struct {
		o         impl.Order
		threshold int
		places    []int
		want      bool
	}{
		{impl.Order{}, 1, nil, true}, {impl.Order{}, 10, []int{}, true}, {impl.Order{}, 1, []int{0}, false}, {rel(1), 1, []int{0}, true}, {rel(1), 10, []int{1000}, true},
		{rel(1), 1, nil, false}, {rel(1), 1, []int{0, 0}, false},
		{rel(1), 1, []int{-1}, false}, {rel(1), 10, []int{1001}, false}, {rel(1), 1, []int{math.MaxInt}, false}, {rel(1), 1, []int{math.MinInt}, false},
		{bend(), 2, []int{0, 2, 1}, true}, {bend(), 2, []int{998, 1000, 999}, true}, {bend(), 2, []int{999, 1001, 1000}, false}, {bend(), 2, []int{-1, 1, 0}, false},
		{bend(), 2, []int{0, 2, 2}, false}, {bend(), 2, []int{0, 3, 1}, false}, {bend(), 2, []int{0, 1, 1}, false}, {bend(), 1, []int{0, 2, 1}, false},
		{bend(), 3, []int{0, 3, 2}, true}, {bend(), 3, []int{0, 2, 1}, false}, {bend(), 2, []int{0, 2}, false}, {bend(), 2, []int{0, 2, 1, 1}, false},
		{chainOf(2), 1, []int{0, 1}, true}, {chainOf(2), 1, []int{1, 0}, false}, {chainOf(2), 1, []int{0, 0}, false}, {chainOf(2), 1, []int{0, 1000}, true},
		{chainOf(2), 10, []int{0, 10}, true}, {chainOf(2), 10, []int{0, 9}, false}, {chainOf(2), 10, []int{990, 1000}, true}, {rel(2), 10, []int{0, 9}, true},
		{rel(2), 10, []int{0, 10}, false}, {rel(2), 1, []int{5, 5}, true}, {rel(2), 1, []int{0, 1}, false},
		{chainOf(2), 1, []int{math.MinInt, math.MaxInt}, false}, {chainOf(2), 10, []int{math.MaxInt, math.MinInt}, false},
		{rel(2), 10, []int{math.MaxInt, math.MaxInt}, false}, {chainOf(10), 10, steps(10, 10), true}, {chainOf(10), 10, steps(10, 9), false},
		{chainOf(10), 1, steps(10, 111), true}, {chainOf(10), 1, steps(10, 112), false}, {chainOf(10), 1, make([]int, 1000), false}, {rel(10), 1, make([]int, 10), true},
		{rel(10), 1, make([]int, 11), false}, {threeOne(), 2, []int{0, 2, 4, 2}, false},
	}
	for _, c := range cases {
		if got, ok := impl.IsPlaces(c.o, c.threshold, c.places); !ok || got != c.want {
			t.Error("places", c.o, c.threshold, c.places, got, ok)
		}
	}
}

func TestOrderOfPlaces(t *testing.T) {
	cases := []struct {
		threshold int
		places    []int
		want      impl.Order
	}{
		{1, nil, impl.Order{}}, {10, []int{}, impl.Order{}}, {1, []int{1000}, rel(1)}, {2, []int{0, 2, 1}, bend()},
		{1, []int{0, 2, 1}, rel(3, [2]int{0, 1}, [2]int{0, 2}, [2]int{2, 1})}, {3, []int{0, 2, 1}, rel(3)}, {10, []int{990, 1000}, chainOf(2)},
		{10, []int{991, 1000}, rel(2)}, {1, []int{0, 1000}, chainOf(2)},
		{1, steps(10, 1), chainOf(10)}, {10, steps(10, 111), chainOf(10)}, {10, steps(10, 1), rel(10)}, {9, steps(10, 1), rel(10, [2]int{0, 9})},
		{10, make([]int, 10), rel(10)}, {4, []int{7, 3, 0, 11}, impl.Order{Size: 4, Above: []int{8, 9, 9, 0}}},
	}
	for _, c := range cases {
		if got, ok := impl.OrderOfPlaces(c.threshold, c.places); !ok || !sameOrder(got, c.want) {
			t.Error("order", c.threshold, c.places, got, ok)
		}
	}
	bad := [][]int{
		{-1}, {1001}, {0, -1}, {0, 1001}, {0, 1, 2, 3, 4, 5, 6, 7, 8, 1001}, make([]int, 11), make([]int, 64), make([]int, 1000),
		{math.MaxInt}, {math.MinInt}, {math.MinInt, math.MaxInt}, {1 << 32},
	}
	for _, places := range bad {
		if got, ok := impl.OrderOfPlaces(2, places); ok || !isZero(got) {
			t.Error("no places", places, got)
		}
	}
}

func TestLeastPlaces(t *testing.T) {
	late := slowOrderOfPlaces(5, steps(9, 1)) // has no places for a lesser threshold
	good := []struct {
		o         impl.Order
		threshold int
		want      []int
	}{
		{impl.Order{}, 1, nil}, {impl.Order{Above: []int{}}, 10, nil}, {rel(1), 1, []int{0}}, {rel(10), 10, make([]int, 10)}, {bend(), 2, []int{0, 2, 1}},
		{bend(), 3, []int{0, 3, 1}}, {bend(), 10, []int{0, 10, 1}}, {chainOf(2), 1, []int{0, 1}}, {chainOf(10), 1, steps(10, 1)}, {chainOf(10), 10, steps(10, 10)},
		{late, 5, steps(9, 1)},
		{rel(3, [2]int{2, 0}, [2]int{2, 1}), 1, []int{1, 1, 0}}, {rel(3, [2]int{2, 0}, [2]int{1, 0}), 10, []int{10, 0, 0}}, {fenceOf(4), 2, []int{1, 3, 0, 2}},
		{fenceOf(4), 10, []int{1, 11, 0, 10}},
	}
	for _, c := range good {
		if got, ok := impl.LeastPlaces(c.o, c.threshold); !ok || !slices.Equal(got, c.want) {
			t.Error("least places", c.o, c.threshold, got, ok)
		}
	}
	for threshold := 1; threshold <= impl.MaxThreshold; threshold++ {
		if got, ok := impl.LeastPlaces(late, threshold); ok != (threshold >= 5) || ok != (len(got) > 0) {
			t.Error("least places", late, threshold, got, ok)
		}
		for _, o := range append(refusedOrders(), asideOrders()...) {
			if got, ok := impl.LeastPlaces(o, threshold); ok || len(got) > 0 {
				t.Error("no places", o, threshold, got)
			}
		}
	}
	if got, ok := impl.LeastPlaces(bend(), 1); ok || len(got) > 0 {
		t.Error("no places", got)
	}
}

func TestDemandCycle(t *testing.T) {
	good := []struct {
		o         impl.Order
		threshold int
		want      []int
	}{
		{bend(), 1, []int{0, 1, 2}}, {rel(3, [2]int{1, 0}), 1, []int{0, 2, 1}}, {rel(3, [2]int{2, 0}), 1, []int{0, 1, 2}}, {threeOne(), 1, []int{0, 1, 2, 3}},
		{threeOne(), 10, []int{0, 1, 2, 3}}, {rel(4, [2]int{0, 1}, [2]int{2, 3}), 10, []int{0, 1, 2, 3}}, {rel(4, [2]int{3, 2}, [2]int{1, 0}), 2, []int{0, 3, 2, 1}},
	}
	for _, c := range good {
		got, ok := impl.DemandCycle(c.o, c.threshold)
		want, _ := slowCycle(c.o, c.threshold)
		if !ok || !slices.Equal(got, c.want) || !slices.Equal(got, want) {
			t.Error("cycle", c.o, c.threshold, got, want, ok)
		}
	}
	for _, o := range []impl.Order{{}, rel(1), rel(2), rel(10), chainOf(2), chainOf(10), rel(3, [2]int{2, 0}, [2]int{2, 1})} {
		for threshold := 1; threshold <= impl.MaxThreshold; threshold++ {
			if got, ok := impl.DemandCycle(o, threshold); ok || len(got) > 0 {
				t.Error("no cycle", o, threshold, got)
			}
		}
	}
	if got, ok := impl.DemandCycle(bend(), 2); ok || len(got) > 0 {
		t.Error("no cycle", got)
	}
}

func TestIsDemandCycle(t *testing.T) {
	pairs := rel(4, [2]int{0, 1}, [2]int{2, 3})
	cases := []struct {
		o         impl.Order
		threshold int
		list      []int
		want      bool
	}{
		{bend(), 1, []int{0, 1, 2}, true}, {bend(), 1, []int{1, 2, 0}, true}, {bend(), 1, []int{2, 0, 1}, true}, {bend(), 1, []int{0, 2, 1}, false},
		{bend(), 2, []int{0, 1, 2}, false}, {bend(), 10, []int{0, 1, 2}, false},
		{bend(), 1, []int{0, 2}, false}, {bend(), 1, []int{0, 1}, false}, {bend(), 1, []int{0, 1, 2, 0, 1, 2}, false}, {bend(), 1, []int{0, 1, 2, 1}, false},
		{bend(), 1, []int{0, 0, 1, 2}, false}, {bend(), 1, []int{0, 2, 0, 1, 2}, false},
		{bend(), 1, nil, false}, {bend(), 1, []int{0}, false}, {bend(), 1, []int{2}, false}, {bend(), 1, []int{0, 1, 3}, false}, {bend(), 1, []int{0, 1, -1}, false},
		{bend(), 1, []int{-1}, false}, {bend(), 1, []int{0, 1, 2, math.MaxInt}, false}, {bend(), 1, []int{math.MinInt, math.MaxInt}, false},
		{bend(), 1, []int{64, 65, 66}, false}, {bend(), 1, make([]int, 1000), false},
		{impl.Order{}, 1, nil, false}, {impl.Order{}, 10, []int{0}, false}, {rel(1), 1, []int{0}, false}, {rel(1), 1, []int{0, 0}, false}, {rel(2), 1, []int{0, 1}, false},
		{rel(2), 10, []int{1, 0}, false}, {chainOf(3), 1, []int{0, 1, 2}, false}, {chainOf(3), 1, []int{2, 1, 0}, false},
		{pairs, 10, []int{0, 1, 2, 3}, true}, {pairs, 10, []int{3, 0, 1, 2}, true}, {pairs, 10, []int{0, 3, 2, 1}, false}, {pairs, 10, []int{0, 1, 3, 2}, false},
		{pairs, 1, []int{0, 1, 2}, true}, {pairs, 2, []int{0, 1, 2}, false}, {threeOne(), 10, []int{0, 1, 2, 3}, true}, {threeOne(), 10, []int{0, 2, 3}, false},
		{threeOne(), 1, []int{0, 2, 3}, true}, {threeOne(), 10, []int{3, 0, 1, 2}, true},
		{rel(10, [2]int{0, 9}), 1, []int{0, 9, 8, 7, 6, 5, 4, 3, 2, 1}, true}, {rel(10, [2]int{0, 9}), 2, []int{0, 9, 8, 7, 6, 5, 4, 3, 2, 1}, false},
		{rel(10, [2]int{0, 9}), 1, []int{0, 9, 8, 7, 6, 5, 4, 3, 2, 1, 0}, false},
	}
	for _, c := range cases {
		if got, ok := impl.IsDemandCycle(c.o, c.threshold, c.list); !ok || got != c.want {
			t.Error("cycle", c.o, c.threshold, c.list, got, ok)
		}
	}
}

func TestLeastThreshold(t *testing.T) {
	good := []struct {
		o    impl.Order
		want int
	}{
		{impl.Order{}, 1}, {impl.Order{Above: []int{}}, 1}, {rel(1), 1}, {rel(10), 1}, {chainOf(10), 1}, {bend(), 2}, {rel(10, [2]int{9, 0}), 2}, {fenceOf(4), 2},
		{slowOrderOfPlaces(3, steps(5, 1)), 3}, {slowOrderOfPlaces(4, steps(7, 1)), 4}, {slowOrderOfPlaces(5, steps(9, 1)), 5}, {slowOrderOfPlaces(5, steps(10, 1)), 5},
		{rel(3, [2]int{2, 0}, [2]int{2, 1}), 1},
	}
	for _, c := range good {
		if got, ok := impl.LeastThreshold(c.o); !ok || got != c.want {
			t.Error("threshold", c.o, got, ok)
		}
	}
	for _, o := range append(refusedOrders(), asideOrders()...) {
		if got, ok := impl.LeastThreshold(o); ok || got != 0 {
			t.Error("no threshold", o, got)
		}
	}
}

func TestSlackOf(t *testing.T) {
	good := []struct {
		o         impl.Order
		threshold int
		places    []int
		want      int
	}{
		{bend(), 2, []int{0, 2, 1}, 0}, {bend(), 3, []int{0, 4, 2}, 0}, {bend(), 10, []int{0, 15, 7}, 1}, {bend(), 10, []int{0, 14, 7}, 2},
		{chainOf(2), 1, []int{0, 1000}, 999}, {chainOf(2), 10, []int{0, 1000}, 990}, {chainOf(2), 10, []int{990, 1000}, 0}, {chainOf(10), 1, steps(10, 111), 110},
		{rel(2), 10, []int{1000, 1000}, 9}, {rel(2), 10, []int{9, 0}, 0}, {rel(2), 10, []int{0, 7}, 2}, {rel(2), 1, []int{3, 3}, 0}, {rel(10), 10, make([]int, 10), 9},
		{chainOf(3), 2, []int{0, 100, 105}, 3},
	}
	for _, c := range good {
		if got, ok := impl.SlackOf(c.o, c.threshold, c.places); !ok || got != c.want {
			t.Error("slack", c.o, c.threshold, c.places, got, ok)
		}
	}
	bad := []struct {
		o         impl.Order
		threshold int
		places    []int
	}{
		{impl.Order{}, 1, nil}, {impl.Order{Above: []int{}}, 10, []int{}}, {rel(1), 1, []int{0}}, {rel(1), 10, []int{1000}}, {bend(), 1, []int{0, 2, 1}},
		{bend(), 2, []int{0, 1, 1}}, {bend(), 2, []int{0, 2, 2}}, {bend(), 2, []int{0, 2}}, {bend(), 2, []int{0, 2, 1, 1}}, {bend(), 2, nil},
		{bend(), 2, []int{999, 1001, 1000}}, {bend(), 2, []int{-1, 1, 0}}, {chainOf(2), 1, []int{0, 1001}}, {chainOf(2), 1, []int{math.MinInt, math.MaxInt}},
		{rel(2), 1, []int{math.MaxInt, math.MaxInt}}, {chainOf(2), 0, []int{0, 1}}, {rel(2), 11, []int{0, 0}},
	}
	for _, c := range bad {
		if got, ok := impl.SlackOf(c.o, c.threshold, c.places); ok || got != 0 {
			t.Error("no slack", c.o, c.threshold, c.places, got)
		}
	}
}

func TestTracesAndStairs(t *testing.T) {
	cases := []struct {
		o           impl.Order
		list, stair []int
	}{
		{impl.Order{}, nil, nil}, {impl.Order{Above: []int{}}, nil, nil}, {rel(1), []int{0}, []int{0}}, {rel(10), steps(10, 1), make([]int, 10)},
		{chainOf(10), steps(10, 1), steps(10, 1)}, {bend(), []int{0, 2, 1}, []int{0, 0, 1}}, {rel(2, [2]int{1, 0}), []int{1, 0}, []int{0, 1}},
		{rel(3, [2]int{2, 0}, [2]int{2, 1}), []int{2, 0, 1}, []int{0, 1, 1}}, {rel(3, [2]int{1, 0}, [2]int{2, 0}), []int{1, 2, 0}, []int{0, 0, 2}},
		{fenceOf(4), []int{2, 0, 3, 1}, []int{0, 0, 1, 2}}, {rel(4, [2]int{3, 1}), []int{3, 0, 2, 1}, []int{0, 0, 0, 1}},
		{slowOrderOfPlaces(2, []int{4, 3, 2, 1, 0}), []int{4, 3, 2, 1, 0}, []int{0, 0, 1, 2, 3}}, {gridOf(2, 3), []int{0, 1, 3, 2, 4, 5}, []int{0, 1, 1, 2, 3, 5}},
	}
	for _, c := range cases {
		if got, ok := impl.TraceList(c.o); !ok || !slices.Equal(got, c.list) {
			t.Error("trace", c.o, got, ok)
		}
		if got, ok := impl.StairOf(c.o); !ok || !slices.Equal(got, c.stair) {
			t.Error("stair", c.o, got, ok)
		}
	}
	for _, o := range append(refusedOrders(), asideOrders()...) {
		if got, ok := impl.TraceList(o); ok || len(got) > 0 {
			t.Error("no trace", o, got)
		}
		if got, ok := impl.StairOf(o); ok || len(got) > 0 {
			t.Error("no stair", o, got)
		}
	}
}

func TestStairs(t *testing.T) {
	cases := []struct {
		stair  []int
		o      impl.Order
		mirror []int
	}{
		{nil, impl.Order{}, nil}, {[]int{}, impl.Order{}, nil}, {[]int{0}, rel(1), []int{0}}, {[]int{0, 0}, rel(2), []int{0, 0}}, {[]int{0, 1}, chainOf(2), []int{0, 1}},
		{make([]int, 10), rel(10), make([]int, 10)}, {steps(10, 1), chainOf(10), steps(10, 1)},
		{[]int{0, 0, 1}, rel(3, [2]int{0, 2}), []int{0, 0, 1}}, {[]int{0, 1, 1}, rel(3, [2]int{0, 1}, [2]int{0, 2}), []int{0, 0, 2}},
		{[]int{0, 0, 2}, rel(3, [2]int{0, 2}, [2]int{1, 2}), []int{0, 1, 1}}, {[]int{0, 0, 0, 3}, impl.Order{Size: 4, Above: []int{8, 8, 8, 0}}, []int{0, 1, 1, 1}},
		{[]int{0, 0, 0, 0, 0, 0, 0, 0, 0, 9}, slowOrderOfPlaces(1, []int{0, 0, 0, 0, 0, 0, 0, 0, 0, 1}), []int{0, 1, 1, 1, 1, 1, 1, 1, 1, 1}},
	}
	for _, c := range cases {
		if !impl.IsStair(c.stair) {
			t.Error("stair", c.stair)
		}
		if got, ok := impl.OrderOfStair(c.stair); !ok || !sameOrder(got, c.o) {
			t.Error("order", c.stair, got, ok)
		}
		if got, ok := impl.MirrorStair(c.stair); !ok || !slices.Equal(got, c.mirror) {
			t.Error("mirror", c.stair, got, ok)
		}
	}
	for _, list := range badStairs() {
		if impl.IsStair(list) {
			t.Error("no stair", list)
		}
		if got, ok := impl.OrderOfStair(list); ok || !isZero(got) {
			t.Error("no order", list, got)
		}
		if got, ok := impl.MirrorStair(list); ok || len(got) > 0 {
			t.Error("no mirror", list, got)
		}
	}
}

func TestStairsOf(t *testing.T) {
	for n, want := range [][][]int{{{}}, {{0}}, {{0, 0}, {0, 1}}, {{0, 0, 0}, {0, 0, 1}, {0, 0, 2}, {0, 1, 1}, {0, 1, 2}}} {
		if got, ok := impl.StairsOf(n); !ok || !slices.EqualFunc(got, want, slices.Equal) {
			t.Error("stairs", n, got, ok)
		}
	}
	for n, want := range []int{1, 1, 2, 5, 14, 42, 132, 429, 1430, 4862, 16796} {
		if got, ok := impl.CountStairs(n); !ok || got != want || got != len(allStairs(n)) {
			t.Error("count", n, got, ok)
		}
		if got, ok := impl.StairsOf(n); ok != (n <= 6) || ok && len(got) != want || !ok && len(got) > 0 {
			t.Error("stairs", n, len(got), ok)
		}
	}
	for _, n := range []int{-1, 11, 12, 64, -64, math.MaxInt, math.MinInt} {
		if got, ok := impl.CountStairs(n); ok || got != 0 {
			t.Error("count", n, got)
		}
		if got, ok := impl.StairsOf(n); ok || len(got) > 0 {
			t.Error("stairs", n, got)
		}
	}
}
