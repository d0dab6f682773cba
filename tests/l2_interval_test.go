package tests

import (
	"math"
	"slices"
	"testing"

	"loop.example/g01106/impl"
)

// mixed are the intervals of the document's example.
func mixed() []impl.Interval {
	return ivs([2]int{0, 1}, [2]int{2, 2}, [2]int{1, 2})
}

func TestAreIntervals(t *testing.T) {
	for _, list := range badIntervals() {
		if impl.AreIntervals(list) {
			t.Error("no intervals", list)
		}
	}
	good := [][]impl.Interval{
		nil, {}, mixed(), manyIntervals(1), manyIntervals(10), ivs([2]int{5, 5}), ivs([2]int{-1000, 1000}), ivs([2]int{1000, 1000}), ivs([2]int{-1000, -1000}),
		ivs([2]int{-3, -2}, [2]int{-3, -2}), ivs([2]int{999, 1000}, [2]int{-1000, -999}),
	}
	for _, list := range good {
		if !impl.AreIntervals(list) {
			t.Error("intervals", list)
		}
	}
}

func TestOrderOfIntervals(t *testing.T) {
	ladder := manyIntervals(10)
	for i := range ladder {
		ladder[i] = impl.Interval{Left: i, Right: i}
	}
	cases := []struct {
		list []impl.Interval
		want impl.Order
	}{
		{nil, impl.Order{}}, {[]impl.Interval{}, impl.Order{}}, {ivs([2]int{7, 7}), rel(1)}, {mixed(), rel(3, [2]int{0, 1})},
		{manyIntervals(10), rel(10)}, {ladder, chainOf(10)}, {ivs([2]int{0, 1}, [2]int{1, 2}), rel(2)}, {ivs([2]int{1, 2}, [2]int{-1, 0}), rel(2, [2]int{1, 0})},
		{ivs([2]int{-1000, -1000}, [2]int{1000, 1000}, [2]int{-1000, 1000}), rel(3, [2]int{0, 1})},
		{ivs([2]int{999, 999}, [2]int{1000, 1000}, [2]int{-1000, -1000}, [2]int{-999, -999}), impl.Order{Size: 4, Above: []int{2, 0, 11, 3}}},
		{ivs([2]int{0, 0}, [2]int{0, 5}, [2]int{5, 5}, [2]int{6, 9}), impl.Order{Size: 4, Above: []int{12, 8, 8, 0}}},
	}
	for _, c := range cases {
		if got, ok := impl.OrderOfIntervals(c.list); !ok || !sameOrder(got, c.want) {
			t.Error("order", c.list, got, ok)
		}
	}
}

func TestIsIntervalOrder(t *testing.T) {
	for _, o := range refusedOrders() {
		if is, ok := impl.IsIntervalOrder(o); is || !ok {
			t.Error("refused", o, is, ok)
		}
	}
	threeOne := rel(4, [2]int{0, 1}, [2]int{1, 2}, [2]int{0, 2})
	for _, o := range []impl.Order{{}, {Above: []int{}}, rel(1), rel(10), chainOf(10), threeOne, fenceOf(4), gridOf(2, 2), gridOf(2, 3), rel(10, [2]int{9, 0})} {
		if is, ok := impl.IsIntervalOrder(o); !is || !ok {
			t.Error("interval order", o, is, ok)
		}
	}
}

func TestTwoTwoOf(t *testing.T) {
	good := []struct {
		o    impl.Order
		want []int
	}{
		{rel(4, [2]int{0, 1}, [2]int{2, 3}), []int{0, 1, 2, 3}}, {rel(4, [2]int{3, 0}, [2]int{1, 2}), []int{1, 2, 3, 0}}, {rel(4, [2]int{1, 0}, [2]int{3, 2}), []int{1, 0, 3, 2}},
		{crownOf(3), []int{0, 4, 1, 3}}, {crownOf(5), []int{0, 6, 1, 5}}, {fenceOf(6), []int{0, 1, 4, 3}}, {fenceOf(10), []int{0, 1, 4, 3}}, {gridOf(2, 4), []int{2, 3, 4, 5}},
		{rel(10, [2]int{9, 8}, [2]int{7, 6}), []int{7, 6, 9, 8}}, {rel(6, [2]int{4, 5}, [2]int{2, 3}, [2]int{0, 1}), []int{0, 1, 2, 3}},
		{rel(6, [2]int{0, 1}, [2]int{0, 2}, [2]int{3, 1}, [2]int{3, 4}), []int{0, 2, 3, 4}},
	}
	for _, c := range good {
		if got, ok := impl.TwoTwoOf(c.o); !ok || !slices.Equal(got, c.want) {
			t.Error("four", c.o, got, ok)
		}
	}
	for _, o := range []impl.Order{{}, rel(1), rel(10), chainOf(4), chainOf(10), fenceOf(4), gridOf(2, 3), rel(4, [2]int{0, 1}, [2]int{2, 3}, [2]int{0, 3})} {
		if got, ok := impl.TwoTwoOf(o); ok || len(got) > 0 {
			t.Error("no four", o, got)
		}
	}
}

func TestLevelsAndEnds(t *testing.T) {
	steps := ivs([2]int{0, 0}, [2]int{1, 1}, [2]int{2, 2}, [2]int{3, 3}, [2]int{4, 4}, [2]int{5, 5}, [2]int{6, 6}, [2]int{7, 7}, [2]int{8, 8}, [2]int{9, 9})
	cases := []struct {
		o    impl.Order
		ends []impl.Interval
		sets []int
	}{
		{impl.Order{}, nil, nil}, {impl.Order{Above: []int{}}, nil, nil}, {rel(1), manyIntervals(1), []int{1}}, {rel(10), manyIntervals(10), []int{1023}},
		{chainOf(10), steps, []int{1, 2, 4, 8, 16, 32, 64, 128, 256, 512}}, {rel(3, [2]int{0, 1}), ivs([2]int{0, 0}, [2]int{1, 1}, [2]int{0, 1}), []int{5, 6}},
		{rel(4, [2]int{0, 1}, [2]int{1, 2}, [2]int{0, 2}), ivs([2]int{0, 0}, [2]int{1, 1}, [2]int{2, 2}, [2]int{0, 2}), []int{9, 10, 12}},
		{rel(4, [2]int{2, 1}, [2]int{0, 1}, [2]int{2, 3}), ivs([2]int{0, 1}, [2]int{2, 2}, [2]int{0, 0}, [2]int{1, 2}), []int{5, 9, 10}},
		{rel(3, [2]int{2, 0}, [2]int{2, 1}), ivs([2]int{1, 1}, [2]int{1, 1}, [2]int{0, 0}), []int{4, 3}},
		{rel(5, [2]int{2, 1}, [2]int{2, 3}), ivs([2]int{0, 1}, [2]int{1, 1}, [2]int{0, 0}, [2]int{1, 1}, [2]int{0, 1}), []int{21, 27}},
	}
	for _, c := range cases {
		var levels []int
		for _, x := range c.ends {
			levels = append(levels, x.Left)
		}
		if got, ok := impl.LowerLevels(c.o); !ok || !slices.Equal(got, levels) {
			t.Error("levels", c.o, got, ok)
		}
		if got, ok := impl.EndsOf(c.o); !ok || !slices.Equal(got, c.ends) {
			t.Error("ends", c.o, got, ok)
		}
		if got, ok := impl.SetsAlong(c.o); !ok || !slices.Equal(got, c.sets) {
			t.Error("sets", c.o, got, ok)
		}
		if got, ok := impl.MagnitudeOf(c.o); !ok || got != len(c.sets) {
			t.Error("magnitude", c.o, got, ok)
		}
	}
}

func TestLevelsOfRefusedOrders(t *testing.T) {
	for _, o := range refusedOrders() {
		if got, ok := impl.LowerLevels(o); ok || len(got) > 0 {
			t.Error("levels", o, got)
		}
		if got, ok := impl.MagnitudeOf(o); ok || got != 0 {
			t.Error("magnitude", o, got)
		}
		if got, ok := impl.EndsOf(o); ok || len(got) > 0 {
			t.Error("ends", o, got)
		}
		if got, ok := impl.SetsAlong(o); ok || len(got) > 0 {
			t.Error("sets", o, got)
		}
		if got, ok := impl.InsertInterval(o, impl.Interval{}); ok || !isZero(got) {
			t.Error("inserted", o, got)
		}
	}
}

func TestDoRepresent(t *testing.T) {
	cases := []struct {
		list []impl.Interval
		o    impl.Order
		want bool
	}{
		{nil, impl.Order{}, true}, {nil, rel(1), false}, {manyIntervals(1), impl.Order{}, false}, {mixed(), rel(3, [2]int{0, 1}), true}, {mixed(), rel(3, [2]int{1, 0}), false},
		{mixed(), rel(3), false}, {mixed(), rel(2, [2]int{0, 1}), false}, {mixed(), rel(4, [2]int{0, 1}), false}, {mixed(), chainOf(3), false},
		{manyIntervals(10), rel(10), true}, {manyIntervals(10), rel(9), false}, {manyIntervals(9), rel(10), false}, {manyIntervals(4), refusedOrders()[0], false},
		{ivs([2]int{-1000, -1}, [2]int{0, 1000}), chainOf(2), true}, {ivs([2]int{-1000, 0}, [2]int{0, 1000}), chainOf(2), false}, {ivs([2]int{-1000, 0}, [2]int{0, 1000}), rel(2), true},
	}
	for _, c := range cases {
		if got, ok := impl.DoRepresent(c.list, c.o); !ok || got != c.want {
			t.Error("represent", c.list, c.o, got, ok)
		}
	}
}

func TestAreLeastEnds(t *testing.T) {
	least := [][]impl.Interval{nil, {}, manyIntervals(1), manyIntervals(10), ivs([2]int{0, 0}, [2]int{1, 1}, [2]int{0, 1}), ivs([2]int{1, 1}, [2]int{0, 0})}
	for _, list := range least {
		if got, ok := impl.AreLeastEnds(list); !got || !ok {
			t.Error("least", list, got, ok)
		}
	}
	greater := [][]impl.Interval{
		mixed(), ivs([2]int{1, 1}), ivs([2]int{-1, 0}), ivs([2]int{0, 1}), ivs([2]int{-1, -1}), ivs([2]int{1000, 1000}), ivs([2]int{-1000, 1000}),
		ivs([2]int{0, 0}, [2]int{2, 2}), ivs([2]int{0, 0}, [2]int{1, 2}), ivs([2]int{-1, 0}, [2]int{1, 1}), ivs([2]int{0, 0}, [2]int{0, 1}), ivs([2]int{0, 0}, [2]int{1, 1}, [2]int{0, 0}, [2]int{1, 2}),
	}
	for _, list := range greater {
		if got, ok := impl.AreLeastEnds(list); got || !ok {
			t.Error("not least", list, got, ok)
		}
	}
}

func TestInsertInterval(t *testing.T) {
	cases := []struct {
		o    impl.Order
		x    impl.Interval
		want impl.Order
	}{
		{impl.Order{}, impl.Interval{}, rel(1)}, {impl.Order{}, impl.Interval{Left: -1000, Right: 1000}, rel(1)}, {impl.Order{}, impl.Interval{Left: 1000, Right: 1000}, rel(1)},
		{chainOf(3), impl.Interval{Left: 1, Right: 1}, impl.Order{Size: 4, Above: []int{14, 4, 0, 4}}}, {chainOf(3), impl.Interval{Left: 0, Right: 2}, impl.Order{Size: 4, Above: []int{6, 4, 0, 0}}},
		{chainOf(3), impl.Interval{Left: 3, Right: 3}, chainOf(4)}, {chainOf(3), impl.Interval{Left: -1, Right: -1}, impl.Order{Size: 4, Above: []int{6, 4, 0, 7}}},
		{chainOf(3), impl.Interval{Left: -1000, Right: 1000}, impl.Order{Size: 4, Above: []int{6, 4, 0, 0}}}, {chainOf(3), impl.Interval{Left: 1, Right: 2}, impl.Order{Size: 4, Above: []int{14, 4, 0, 0}}},
		{rel(9), impl.Interval{Left: 1, Right: 1}, impl.Order{Size: 10, Above: []int{512, 512, 512, 512, 512, 512, 512, 512, 512, 0}}}, {chainOf(9), impl.Interval{Left: 9, Right: 9}, chainOf(10)},
		{rel(2), impl.Interval{Left: 1000, Right: 1000}, impl.Order{Size: 3, Above: []int{4, 4, 0}}}, {rel(2), impl.Interval{Left: -1000, Right: -1000}, impl.Order{Size: 3, Above: []int{0, 0, 3}}},
	}
	for _, c := range cases {
		if got, ok := impl.InsertInterval(c.o, c.x); !ok || !sameOrder(got, c.want) {
			t.Error("inserted", c.o, c.x, got, ok)
		}
	}
	for _, o := range []impl.Order{rel(10), chainOf(10), rel(10, [2]int{0, 1})} {
		if got, ok := impl.InsertInterval(o, impl.Interval{}); ok || !isZero(got) {
			t.Error("no room", o, got)
		}
	}
	for _, list := range badIntervals() {
		if len(list) == 1 {
			if got, ok := impl.InsertInterval(rel(2), list[0]); ok || !isZero(got) {
				t.Error("no interval", list, got)
			}
		}
	}
}

func TestMirrorIntervals(t *testing.T) {
	cases := [][2][]impl.Interval{
		{nil, nil}, {manyIntervals(10), manyIntervals(10)}, {mixed(), ivs([2]int{-1, 0}, [2]int{-2, -2}, [2]int{-2, -1})},
		{ivs([2]int{-1000, 1000}, [2]int{999, 1000}, [2]int{-1000, -1000}), ivs([2]int{-1000, 1000}, [2]int{-1000, -999}, [2]int{1000, 1000})}, {ivs([2]int{-7, 3}), ivs([2]int{-3, 7})},
	}
	for _, c := range cases {
		if got, ok := impl.MirrorIntervals(c[0]); !ok || !slices.Equal(got, c[1]) {
			t.Error("mirror", c, got, ok)
		}
	}
}

func TestStretchIntervals(t *testing.T) {
	cases := []struct {
		list   []impl.Interval
		at, by int
		want   []impl.Interval
	}{
		{nil, 0, 0, nil}, {nil, 1000, 1000, nil}, {nil, -1000, 1000, nil}, {mixed(), 1, 0, mixed()}, {mixed(), 1, 5, ivs([2]int{0, 1}, [2]int{7, 7}, [2]int{1, 7})},
		{mixed(), 0, 5, ivs([2]int{0, 6}, [2]int{7, 7}, [2]int{6, 7})}, {mixed(), -1, 5, ivs([2]int{5, 6}, [2]int{7, 7}, [2]int{6, 7})}, {mixed(), 2, 1000, mixed()},
		{mixed(), -1000, 998, ivs([2]int{998, 999}, [2]int{1000, 1000}, [2]int{999, 1000})}, {ivs([2]int{1000, 1000}), 1000, 1000, ivs([2]int{1000, 1000})},
		{ivs([2]int{-1000, -1000}), -1000, 1000, ivs([2]int{-1000, -1000})}, {ivs([2]int{-999, -999}), -1000, 1000, ivs([2]int{1, 1})}, {ivs([2]int{-1000, 0}), -500, 1000, ivs([2]int{-1000, 1000})},
		{ivs([2]int{1000, 1000}), 0, 0, ivs([2]int{1000, 1000})}, {manyIntervals(10), 0, 3, manyIntervals(10)},
	}
	for _, c := range cases {
		if got, ok := impl.StretchIntervals(c.list, c.at, c.by); !ok || !slices.Equal(got, c.want) {
			t.Error("stretched", c.list, c.at, c.by, got, ok)
		}
	}
	far := []struct {
		list   []impl.Interval
		at, by int
	}{
		{mixed(), -1000, 999}, {mixed(), 1, 999}, {ivs([2]int{1000, 1000}), 999, 1}, {ivs([2]int{-1000, 1}), 0, 1000}, {ivs([2]int{0, 0}, [2]int{0, 1000}), -1, 1}, {ivs([2]int{0, 1000}, [2]int{0, 0}), -1, 1000},
		{mixed(), 1001, 1}, {mixed(), -1001, 1}, {mixed(), 0, -1}, {mixed(), 0, 1001}, {nil, 1001, 0}, {nil, -1001, 0}, {nil, 0, -1}, {nil, 0, 1001}, {mixed(), 2, 1001}, {mixed(), 2, -1},
		{mixed(), math.MaxInt, 1}, {mixed(), math.MinInt, 1}, {mixed(), 0, math.MaxInt}, {mixed(), 0, math.MinInt}, {mixed(), -1, math.MaxInt - 1}, {nil, math.MinInt, math.MaxInt},
	}
	for _, c := range far {
		if got, ok := impl.StretchIntervals(c.list, c.at, c.by); ok || len(got) > 0 {
			t.Error("not stretched", c.list, c.at, c.by, got)
		}
	}
}
