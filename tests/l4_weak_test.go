package tests

import (
	"math"
	"slices"
	"testing"

	"loop.example/g01106/impl"
)

// notWeak are orders that are not weak, with the three elements that refuse them.
func notWeak() []struct {
	o    impl.Order
	want []int
} {
	return []struct {
		o    impl.Order
		want []int
	}{
		{bend(), []int{0, 1, 2}}, {rel(3, [2]int{2, 0}), []int{2, 0, 1}}, {rel(3, [2]int{1, 2}), []int{1, 2, 0}}, {rel(10, [2]int{9, 0}), []int{9, 0, 1}},
		{threeOne(), []int{0, 1, 3}}, {rel(4, [2]int{0, 1}, [2]int{2, 3}), []int{0, 1, 2}}, {fenceOf(4), []int{0, 1, 3}}, {gridOf(2, 3), []int{1, 2, 3}},
		{rel(4, [2]int{0, 1}, [2]int{0, 2}, [2]int{0, 3}, [2]int{1, 2}), []int{1, 2, 3}}, {crownOf(3), []int{0, 4, 1}},
		{rel(4, [2]int{0, 3}, [2]int{1, 3}, [2]int{0, 2}), []int{0, 2, 1}},
		{rel(5, [2]int{4, 3}, [2]int{4, 2}, [2]int{4, 1}, [2]int{4, 0}, [2]int{3, 2}, [2]int{1, 0}), []int{1, 0, 2}},
	}
}

func TestWeakOrders(t *testing.T) {
	cases := []struct {
		o      impl.Order
		levels []int
	}{
		{impl.Order{}, nil}, {impl.Order{Above: []int{}}, nil}, {rel(1), []int{0}}, {rel(2), []int{0, 0}}, {rel(10), make([]int, 10)}, {chainOf(10), steps(10, 1)},
		{rel(2, [2]int{1, 0}), []int{1, 0}}, {rel(3, [2]int{0, 1}, [2]int{2, 1}), []int{0, 1, 0}}, {rel(3, [2]int{1, 0}, [2]int{1, 2}), []int{1, 0, 1}}, {gridOf(2, 2), []int{0, 1, 1, 2}},
		{rel(3, [2]int{0, 1}, [2]int{0, 2}), []int{0, 1, 1}}, {rel(4, [2]int{0, 2}, [2]int{0, 3}, [2]int{1, 2}, [2]int{1, 3}), []int{0, 0, 1, 1}},
		{slowOrderOfLevels([]int{2, 0, 1, 2, 0, 1, 3, 0, 4, 2}), []int{2, 0, 1, 2, 0, 1, 3, 0, 4, 2}},
	}
	for _, c := range cases {
		if is, ok := impl.IsWeak(c.o); !is || !ok {
			t.Error("weak", c.o, is, ok)
		}
		if got, ok := impl.TwoOneOf(c.o); ok || len(got) > 0 {
			t.Error("no three", c.o, got)
		}
		if got, ok := impl.WeakLevels(c.o); !ok || !slices.Equal(got, c.levels) {
			t.Error("levels", c.o, got, ok)
		}
		if !impl.AreLevels(c.levels) {
			t.Error("levels", c.levels)
		}
		if got, ok := impl.OrderOfLevels(c.levels); !ok || !sameOrder(got, c.o) {
			t.Error("order", c.levels, got, ok)
		}
	}
	for _, c := range notWeak() {
		if is, ok := impl.IsWeak(c.o); is || !ok {
			t.Error("not weak", c.o, is, ok)
		}
		if got, ok := impl.TwoOneOf(c.o); !ok || !slices.Equal(got, c.want) {
			t.Error("three", c.o, got, ok)
		}
		if got, ok := impl.WeakLevels(c.o); ok || len(got) > 0 {
			t.Error("no levels", c.o, got)
		}
	}
	for _, list := range badLevels() {
		if impl.AreLevels(list) {
			t.Error("no levels", list)
		}
		if got, ok := impl.OrderOfLevels(list); ok || !isZero(got) {
			t.Error("no order", list, got)
		}
	}
}

func TestRanks(t *testing.T) {
	cases := []struct {
		levels []int
		rank   int
	}{
		{nil, 0}, {[]int{}, 0}, {[]int{0}, 0}, {[]int{0, 0}, 0}, {[]int{0, 1}, 1}, {[]int{1, 0}, 2}, {[]int{0, 0, 0}, 0}, {[]int{0, 0, 1}, 1}, {[]int{0, 1, 0}, 2},
		{[]int{0, 1, 1}, 3}, {[]int{0, 1, 2}, 4}, {[]int{0, 2, 1}, 5}, {[]int{1, 0, 0}, 6}, {[]int{1, 0, 1}, 7}, {[]int{1, 0, 2}, 8}, {[]int{1, 1, 0}, 9},
		{[]int{1, 2, 0}, 10}, {[]int{2, 0, 1}, 11}, {[]int{2, 1, 0}, 12}, {[]int{3, 2, 1, 0}, 74}, {[]int{4, 3, 2, 1, 0}, 540},
		{[]int{0, 0, 0, 0, 0, 0}, 0}, {[]int{0, 0, 0, 0, 0, 1}, 1}, {[]int{5, 4, 3, 2, 1, 0}, 4682}, {[]int{5, 4, 3, 2, 0, 1}, 4681},
	}
	for _, c := range cases {
		if got, ok := impl.RankLevels(c.levels); !ok || got != c.rank {
			t.Error("rank", c.levels, got, ok)
		}
		if got, ok := impl.LevelsWith(len(c.levels), c.rank); !ok || !slices.Equal(got, c.levels) {
			t.Error("levels", c.levels, got, ok)
		}
	}
	counts := []int{1, 1, 3, 13, 75, 541, 4683, 47293, 545835, 7087261, 102247563}
	for n, want := range counts {
		if got, ok := impl.CountWeak(n); !ok || got != want {
			t.Error("count", n, got, ok)
		}
		for _, rank := range []int{-1, want, want + 1, math.MinInt, math.MaxInt, 1 << 32} {
			if got, ok := impl.LevelsWith(n, rank); ok || len(got) > 0 {
				t.Error("no levels", n, rank, got)
			}
		}
		if n > impl.MaxLevelled {
			if got, ok := impl.LevelsWith(n, 0); ok || len(got) > 0 {
				t.Error("too many", n, got)
			}
		}
	}
	for _, n := range []int{-1, 11, 12, 64, -64, math.MaxInt, math.MinInt} {
		if got, ok := impl.CountWeak(n); ok || got != 0 {
			t.Error("count", n, got)
		}
		if got, ok := impl.LevelsWith(n, 0); ok || len(got) > 0 {
			t.Error("levels", n, got)
		}
	}
	for _, list := range append(badLevels(), make([]int, 7), steps(7, 1), make([]int, 10), steps(10, 1)) {
		if got, ok := impl.RankLevels(list); ok || got != 0 {
			t.Error("no rank", list, got)
		}
	}
}

func TestTraceOf(t *testing.T) {
	cases := []struct {
		o    impl.Order
		want []int
	}{
		{impl.Order{}, nil}, {impl.Order{Above: []int{}}, nil}, {rel(1), []int{0}}, {rel(10), make([]int, 10)}, {chainOf(10), steps(10, 1)}, {bend(), []int{0, 2, 1}},
		{rel(3, [2]int{2, 0}), []int{2, 1, 0}}, {fenceOf(4), []int{1, 3, 0, 2}}, {rel(10, [2]int{9, 0}), []int{2, 1, 1, 1, 1, 1, 1, 1, 1, 0}},
		{rel(3, [2]int{0, 1}, [2]int{0, 2}), []int{0, 1, 1}}, {rel(3, [2]int{0, 2}, [2]int{1, 2}), []int{0, 0, 1}}, {gridOf(2, 3), []int{0, 1, 3, 2, 4, 5}},
		{slowOrderOfPlaces(2, steps(10, 1)), steps(10, 1)}, {slowOrderOfPlaces(5, steps(9, 1)), []int{0, 1, 2, 3, 4, 5, 6, 7, 8}},
		{slowOrderOfPlaces(5, steps(7, 1)), []int{0, 1, 2, 2, 2, 3, 4}}, {rel(2, [2]int{1, 0}), []int{1, 0}},
	}
	for _, c := range cases {
		if got, ok := impl.TraceOf(c.o); !ok || !slices.Equal(got, c.want) {
			t.Error("trace", c.o, got, ok)
		}
	}
	for _, o := range append(refusedOrders(), asideOrders()...) {
		if got, ok := impl.TraceOf(o); ok || len(got) > 0 {
			t.Error("no trace", o, got)
		}
	}
}

func TestRefining(t *testing.T) {
	orders := []struct {
		o, p impl.Order
		want bool
	}{
		{impl.Order{}, impl.Order{Above: []int{}}, true}, {rel(1), rel(1), true}, {rel(2), rel(2), true}, {chainOf(2), rel(2), true}, {rel(2), chainOf(2), false},
		{chainOf(2), rel(2, [2]int{1, 0}), false}, {chainOf(3), bend(), true}, {bend(), chainOf(3), false}, {bend(), bend(), true}, {bend(), rel(3), true},
		{bend(), rel(3, [2]int{0, 2}), false}, {chainOf(10), rel(10, [2]int{0, 9}), true}, {chainOf(10), rel(10, [2]int{9, 0}), false}, {chainOf(6), gridOf(2, 3), true},
		{gridOf(2, 3), fenceOf(6), false},
	}
	for _, c := range orders {
		if got, ok := impl.DoesRefine(c.o, c.p); !ok || got != c.want {
			t.Error("refine", c.o, c.p, got, ok)
		}
	}
	levels := []struct{ first, second, want []int }{
		{nil, nil, nil}, {[]int{}, nil, nil}, {[]int{0}, []int{0}, []int{0}}, {[]int{0, 0}, []int{0, 0}, []int{0, 0}}, {[]int{0, 0}, []int{1, 0}, []int{1, 0}},
		{[]int{0, 1}, []int{1, 0}, []int{0, 1}}, {[]int{0, 0, 1}, []int{1, 0, 1}, []int{1, 0, 2}}, {[]int{0, 1, 0}, []int{0, 1, 2}, []int{0, 2, 1}}, {[]int{1, 0, 1}, []int{0, 0, 0}, []int{1, 0, 1}},
		{make([]int, 10), steps(10, 1), steps(10, 1)}, {steps(10, 1), make([]int, 10), steps(10, 1)}, {[]int{0, 0, 1, 1}, []int{0, 1, 1, 0}, []int{0, 1, 3, 2}},
		{[]int{2, 2, 1, 0, 0}, []int{0, 0, 1, 2, 1}, []int{3, 3, 2, 1, 0}},
	}
	for _, c := range levels {
		if got, ok := impl.RefineLevels(c.first, c.second); !ok || !slices.Equal(got, c.want) {
			t.Error("refine", c.first, c.second, got, ok)
		}
	}
	mirrored := []struct{ levels, want []int }{
		{nil, nil}, {[]int{}, nil}, {[]int{0}, []int{0}}, {[]int{0, 0}, []int{0, 0}}, {[]int{0, 1, 0}, []int{1, 0, 1}}, {[]int{2, 0, 1, 1}, []int{0, 2, 1, 1}},
		{make([]int, 10), make([]int, 10)}, {steps(10, 1), []int{9, 8, 7, 6, 5, 4, 3, 2, 1, 0}},
	}
	for _, c := range mirrored {
		if got, ok := impl.MirrorLevels(c.levels); !ok || !slices.Equal(got, c.want) {
			t.Error("mirror", c.levels, got, ok)
		}
	}
	for _, list := range badLevels() {
		same := make([]int, len(list))
		if got, ok := impl.MirrorLevels(list); ok || len(got) > 0 {
			t.Error("no mirror", list, got)
		}
		for _, pair := range [][2][]int{{list, list}, {list, same}, {same, list}, {list, nil}, {nil, list}} {
			if got, ok := impl.RefineLevels(pair[0], pair[1]); ok || len(got) > 0 {
				t.Error("no levels", pair, got)
			}
		}
	}
	for _, pair := range [][2][]int{{{0}, nil}, {nil, {0}}, {{0, 1}, {0}}, {{0, 0}, {0, 0, 0}}, {make([]int, 10), make([]int, 9)}, {make([]int, 9), make([]int, 10)}} {
		if got, ok := impl.RefineLevels(pair[0], pair[1]); ok || len(got) > 0 {
			t.Error("levels of different elements", pair, got)
		}
	}
}

func TestMeetsAndDistances(t *testing.T) {
	cases := []struct {
		o, p, want impl.Order
		distance   int
	}{
		{impl.Order{}, impl.Order{Above: []int{}}, impl.Order{}, 0}, {rel(1), rel(1), rel(1), 0}, {chainOf(2), chainOf(2), chainOf(2), 0}, {chainOf(2), rel(2), rel(2), 1},
		{chainOf(2), rel(2, [2]int{1, 0}), rel(2), 2}, {bend(), chainOf(3), bend(), 2}, {bend(), rel(3, [2]int{0, 2}), rel(3), 2}, {bend(), rel(3, [2]int{1, 0}), rel(3), 2},
		{chainOf(3), rel(3, [2]int{0, 2}, [2]int{2, 1}, [2]int{0, 1}), rel(3, [2]int{0, 1}, [2]int{0, 2}), 2}, {rel(10), chainOf(10), rel(10), 45}, {chainOf(10), chainOf(10), chainOf(10), 0},
		{chainOf(10), slowOrderOfLevels([]int{9, 8, 7, 6, 5, 4, 3, 2, 1, 0}), rel(10), 90},
	}
	for _, c := range cases {
		for _, pair := range [][2]impl.Order{{c.o, c.p}, {c.p, c.o}} {
			if got, ok := impl.MeetOrders(pair[0], pair[1]); !ok || !sameOrder(got, c.want) {
				t.Error("meet", pair, got, ok)
			}
			if got, ok := impl.PairDistance(pair[0], pair[1]); !ok || got != c.distance {
				t.Error("distance", pair, got, ok)
			}
		}
	}
}

// TestOrdersOfDifferentElements gives two orders that do not go together.
func TestOrdersOfDifferentElements(t *testing.T) {
	for _, pair := range [][2]impl.Order{{{}, rel(1)}, {rel(1), {}}, {rel(2), rel(3)}, {chainOf(10), chainOf(9)}, {chainOf(3), chainOf(2)}, {rel(9), rel(10)}} {
		if got, ok := impl.DoesRefine(pair[0], pair[1]); ok || got {
			t.Error("refine", pair, got)
		}
		if got, ok := impl.MeetOrders(pair[0], pair[1]); ok || !isZero(got) {
			t.Error("meet", pair, got)
		}
		if got, ok := impl.PairDistance(pair[0], pair[1]); ok || got != 0 {
			t.Error("distance", pair, got)
		}
	}
}

func TestCountLinear(t *testing.T) {
	cases := []struct {
		levels []int
		want   int
	}{
		{nil, 1}, {[]int{}, 1}, {[]int{0}, 1}, {[]int{0, 0}, 2}, {[]int{0, 1}, 1}, {[]int{1, 0}, 1}, {[]int{0, 0, 0}, 6}, {[]int{0, 1, 0}, 2}, {[]int{1, 1, 0, 0}, 4},
		{make([]int, 10), 3628800}, {steps(10, 1), 1}, {[]int{0, 1, 0, 1, 0, 1, 0, 1, 0, 1}, 14400}, {[]int{2, 2, 2, 0, 0, 1, 1, 1, 1, 1}, 1440},
	}
	for _, c := range cases {
		if got, ok := impl.CountLinear(c.levels); !ok || got != c.want {
			t.Error("count", c.levels, got, ok)
		}
	}
	for _, list := range badLevels() {
		if got, ok := impl.CountLinear(list); ok || got != 0 {
			t.Error("no count", list, got)
		}
	}
}

func TestVoters(t *testing.T) {
	cases := []struct {
		voters   [][]int
		majority impl.Order
		mean     []int
	}{
		{voters(1), impl.Order{}, nil}, {voters(15), impl.Order{}, nil}, {[][]int{nil, {}}, impl.Order{}, nil}, {voters(1, 0), rel(1), []int{0}}, {voters(1, 0, 1), chainOf(2), []int{0, 1}},
		{voters(15, 1, 0), rel(2, [2]int{1, 0}), []int{1, 0}}, {voters(3, 0, 0, 0), rel(3), []int{0, 0, 0}}, {[][]int{{0, 1}, {1, 0}}, rel(2), []int{0, 0}},
		{[][]int{{0, 1}, {1, 0}, {0, 0}}, rel(2), []int{0, 0}}, {[][]int{{0, 1}, {0, 0}, {0, 0}}, chainOf(2), []int{0, 1}}, {[][]int{{0, 1}, {0, 1}, {1, 0}}, chainOf(2), []int{0, 1}},
		{[][]int{{0, 1, 2}, {1, 2, 0}, {2, 0, 1}}, rel(3, [2]int{0, 1}, [2]int{1, 2}, [2]int{2, 0}), []int{0, 0, 0}}, // goes round
		{[][]int{{0, 1, 1}, {1, 1, 0}}, rel(3, [2]int{0, 1}, [2]int{2, 1}), []int{0, 1, 0}},
		{[][]int{{0, 0, 1}, {0, 1, 1}, {1, 0, 0}}, rel(3, [2]int{0, 2}, [2]int{1, 2}), []int{0, 0, 1}},
		{[][]int{{0, 1, 0}, {2, 1, 0}, {0, 1, 0}}, rel(3, [2]int{0, 1}, [2]int{2, 1}, [2]int{2, 0}), []int{1, 2, 0}},
		{[][]int{{3, 2, 1, 0}, {0, 1, 1, 1}, {0, 1, 1, 1}}, rel(4, [2]int{0, 1}, [2]int{0, 2}, [2]int{0, 3}, [2]int{3, 2}, [2]int{3, 1}, [2]int{2, 1}), []int{1, 2, 1, 0}},
		{append(voters(7, 0, 1), voters(8, 1, 0)...), rel(2, [2]int{1, 0}), []int{1, 0}}, {append(voters(8, 0, 1), voters(7, 1, 0)...), chainOf(2), []int{0, 1}},
		{append(voters(7, 0, 1), voters(7, 1, 0)...), rel(2), []int{0, 0}}, {voters(15, 0, 1, 2, 3, 4, 5, 6, 7, 8, 9), chainOf(10), steps(10, 1)},
	}
	for _, c := range cases {
		if got, ok := impl.MajorityOf(c.voters); !ok || !sameOrder(got, c.majority) {
			t.Error("majority", c.voters, got, ok)
		}
		if got, ok := impl.MeanLevels(c.voters); !ok || !slices.Equal(got, c.mean) {
			t.Error("mean", c.voters, got, ok)
		}
	}
	for _, lists := range badVoters() {
		if got, ok := impl.MajorityOf(lists); ok || !isZero(got) {
			t.Error("no majority", lists, got)
		}
		if got, ok := impl.MeanLevels(lists); ok || len(got) > 0 {
			t.Error("no mean", lists, got)
		}
	}
}
