package tests

import (
	"math"
	"slices"
	"testing"

	"loop.example/g01106/impl"
)

func TestAscents(t *testing.T) {
	cases := []struct {
		list []int
		want int
	}{
		{nil, 0}, {[]int{}, 0}, {[]int{0}, 0}, {[]int{0, 0}, 0}, {[]int{0, 1}, 1}, {[]int{0, 0, 0}, 0}, {[]int{0, 0, 1}, 1}, {[]int{0, 1, 0}, 1}, {[]int{0, 1, 1}, 1}, {[]int{0, 1, 2}, 2},
		{[]int{0, 1, 0, 1}, 2}, {[]int{0, 1, 0, 2}, 2}, {[]int{0, 1, 0, 2, 3}, 3}, {[]int{0, 1, 0, 1, 3}, 3}, {[]int{0, 1, 0, 1, 0, 1, 4}, 4}, {[]int{0, 1, 0, 1, 3, 1, 1, 2}, 4},
		{[]int{0, 1, 1, 2, 2, 0, 3, 3, 1, 1, 4, 5}, 5}, {make([]int, 12), 0}, {steps(12, 1), 11}, {turns(12), 6}, {append(turns(11), 6), 6}, {append(make([]int, 11), 1), 1},
	}
	for _, c := range cases {
		if !impl.IsAscent(c.list) {
			t.Error("an ascent sequence", c.list)
		}
		if got, ok := impl.AscentsOf(c.list); !ok || got != c.want {
			t.Error("ascents", c.list, got, ok)
		}
	}
	for _, list := range badAscents() {
		if impl.IsAscent(list) {
			t.Error("no ascent sequence", list)
		}
		if got, ok := impl.AscentsOf(list); ok || got != 0 {
			t.Error("no ascents", list, got)
		}
	}
}

func TestCountAscents(t *testing.T) {
	if len(ascentCounts()) != impl.MaxAscent+1 {
		t.Fatal("limit", impl.MaxAscent)
	}
	for n, want := range ascentCounts() {
		if got, ok := impl.CountAscents(n); !ok || got != want {
			t.Error("count", n, got, ok)
		}
		for _, rank := range []int{-1, want, want + 1, math.MinInt, math.MaxInt, 1 << 32} {
			if got, ok := impl.AscentWith(n, rank); ok || len(got) > 0 {
				t.Error("no ascent sequence", n, rank, got)
			}
		}
	}
	for _, n := range []int{-1, -2, 13, 14, 64, -64, 1 << 32, math.MaxInt, math.MinInt} {
		if got, ok := impl.CountAscents(n); ok || got != 0 {
			t.Error("count", n, got)
		}
		for _, rank := range []int{-1, 0, 1, math.MinInt, math.MaxInt} {
			if got, ok := impl.AscentWith(n, rank); ok || len(got) > 0 {
				t.Error("no ascent sequence", n, rank, got)
			}
		}
	}
}

func TestAscentRanks(t *testing.T) {
	cases := []struct {
		list []int
		rank int
	}{
		{nil, 0}, {[]int{}, 0}, {[]int{0}, 0}, {[]int{0, 0}, 0}, {[]int{0, 1}, 1}, {[]int{0, 0, 0}, 0}, {[]int{0, 0, 1}, 1}, {[]int{0, 1, 0}, 2}, {[]int{0, 1, 1}, 3}, {[]int{0, 1, 2}, 4},
		{[]int{0, 0, 1, 2}, 4}, {[]int{0, 1, 0, 0}, 5}, {[]int{0, 1, 0, 1}, 6}, {[]int{0, 1, 0, 2}, 7}, {[]int{0, 1, 1, 0}, 8}, {[]int{0, 1, 1, 1}, 9}, {[]int{0, 1, 1, 2}, 10},
		{[]int{0, 1, 2, 0}, 11}, {[]int{0, 1, 2, 3}, 14}, {steps(5, 1), 52}, {steps(6, 1), 216}, {steps(7, 1), 1013}, {make([]int, 12), 0}, {append(make([]int, 11), 1), 1}, {steps(12, 1), 10886502},
		{append(steps(11, 1), 10), 10886501}, {append(append(steps(10, 1), 9), 10), 10886490},
	}
	for _, c := range cases {
		if got, ok := impl.RankAscent(c.list); !ok || got != c.rank {
			t.Error("rank", c.list, got, ok)
		}
		if got, ok := impl.AscentWith(len(c.list), c.rank); !ok || !slices.Equal(got, c.list) {
			t.Error("ascent sequence", c.list, got, ok)
		}
	}
	for _, list := range badAscents() {
		if got, ok := impl.RankAscent(list); ok || got != 0 {
			t.Error("no rank", list, got)
		}
	}
}

func TestNextAscent(t *testing.T) {
	cases := []struct{ list, next []int }{
		{[]int{0, 0}, []int{0, 1}}, {[]int{0, 0, 0}, []int{0, 0, 1}}, {[]int{0, 0, 1}, []int{0, 1, 0}}, {[]int{0, 1, 0}, []int{0, 1, 1}}, {[]int{0, 1, 1}, []int{0, 1, 2}},
		{[]int{0, 0, 1, 2}, []int{0, 1, 0, 0}}, {[]int{0, 1, 0, 1, 3}, []int{0, 1, 0, 2, 0}}, {[]int{0, 1, 0, 2, 3, 4}, []int{0, 1, 1, 0, 0, 0}}, {[]int{0, 0, 1, 2, 3}, []int{0, 1, 0, 0, 0}},
		{[]int{0, 1, 1, 2, 3, 4}, []int{0, 1, 2, 0, 0, 0}}, {make([]int, 12), append(make([]int, 11), 1)}, {append(steps(11, 1), 10), steps(12, 1)},
		{append([]int{0}, steps(11, 1)...), append([]int{0, 1}, make([]int, 10)...)}, {turns(12), append(turns(11), 2)}, {append(turns(11), 6), append(turns(10), 1, 0)},
	}
	for _, c := range cases {
		if got, ok := impl.NextAscent(c.list); !ok || !slices.Equal(got, c.next) {
			t.Error("next", c.list, got, ok)
		}
	}
	lists := append(badAscents(), nil, []int{})
	for n := 1; n <= impl.MaxAscent; n++ {
		lists = append(lists, steps(n, 1))
	}
	for _, list := range lists {
		if got, ok := impl.NextAscent(list); ok || len(got) > 0 {
			t.Error("no next one", list, got)
		}
	}
}

func TestListAscents(t *testing.T) {
	wants := [][][]int{
		{{}}, {{0}}, {{0, 0}, {0, 1}}, {{0, 0, 0}, {0, 0, 1}, {0, 1, 0}, {0, 1, 1}, {0, 1, 2}},
		{
			{0, 0, 0, 0}, {0, 0, 0, 1}, {0, 0, 1, 0}, {0, 0, 1, 1}, {0, 0, 1, 2}, {0, 1, 0, 0}, {0, 1, 0, 1}, {0, 1, 0, 2},
			{0, 1, 1, 0}, {0, 1, 1, 1}, {0, 1, 1, 2}, {0, 1, 2, 0}, {0, 1, 2, 1}, {0, 1, 2, 2}, {0, 1, 2, 3},
		},
	}
	for n, want := range wants {
		if got, ok := impl.ListAscents(n); !ok || !slices.EqualFunc(got, want, slices.Equal) {
			t.Error("list", n, got, ok)
		}
	}
	for n := range impl.MaxListed + 1 {
		got, ok := impl.ListAscents(n)
		if !ok || len(got) != ascentCounts()[n] || len(got[0]) != n || slices.Max(append(got[0], 0)) > 0 || !slices.Equal(got[len(got)-1], steps(n, 1)) {
			t.Error("list", n, len(got), ok)
		}
	}
	for _, n := range []int{-1, -7, 8, 9, 12, 13, 64, 1 << 32, math.MaxInt, math.MinInt} {
		if got, ok := impl.ListAscents(n); ok || len(got) > 0 {
			t.Error("no list", n, len(got))
		}
	}
}

// modifiedAscents are ascent sequences with what modifying makes of them.
func modifiedAscents() []struct{ list, modified []int } {
	return []struct{ list, modified []int }{
		{nil, nil}, {[]int{}, nil}, {[]int{0}, []int{0}}, {[]int{0, 0}, []int{0, 0}}, {[]int{0, 1}, []int{0, 1}}, {[]int{0, 1, 0}, []int{0, 1, 0}}, {[]int{0, 1, 2, 1}, []int{0, 1, 2, 1}},
		{[]int{0, 1, 0, 1}, []int{0, 2, 0, 1}}, {[]int{0, 1, 0, 2}, []int{0, 1, 0, 2}}, {[]int{0, 1, 1, 0, 1}, []int{0, 2, 2, 0, 1}}, {[]int{0, 1, 2, 0, 1}, []int{0, 2, 3, 0, 1}},
		{[]int{0, 1, 2, 0, 2}, []int{0, 1, 3, 0, 2}}, {[]int{0, 1, 2, 1, 2}, []int{0, 1, 3, 1, 2}}, {[]int{0, 1, 0, 1, 0, 1}, []int{0, 3, 0, 2, 0, 1}}, {[]int{0, 1, 0, 1, 2}, []int{0, 3, 0, 1, 2}},
		{[]int{0, 1, 0, 1, 3}, []int{0, 2, 0, 1, 3}}, {[]int{0, 1, 0, 1, 3, 1, 1, 2}, []int{0, 3, 0, 1, 4, 1, 1, 2}},
		{make([]int, 12), make([]int, 12)}, {steps(12, 1), steps(12, 1)}, {turns(12), []int{0, 6, 0, 5, 0, 4, 0, 3, 0, 2, 0, 1}},
		{[]int{0, 1, 0, 1, 2, 0, 1, 2, 3, 0, 1, 2}, []int{0, 8, 0, 6, 7, 0, 3, 4, 5, 0, 1, 2}},
	}
}

func TestModifying(t *testing.T) {
	for _, c := range modifiedAscents() {
		if got, ok := impl.ModifyAscent(c.list); !ok || !slices.Equal(got, c.modified) {
			t.Error("modified", c.list, got, ok)
		}
		if got, ok := impl.UnmodifyAscent(c.modified); !ok || !slices.Equal(got, c.list) {
			t.Error("not modified", c.modified, got, ok)
		}
		if got, ok := impl.IsSteady(c.list); !ok || got != slices.Equal(c.list, c.modified) {
			t.Error("steady", c.list, got, ok)
		}
	}
	for _, list := range badAscents() {
		if got, ok := impl.ModifyAscent(list); ok || len(got) > 0 {
			t.Error("not to be modified", list, got)
		}
		if got, ok := impl.IsSteady(list); ok || got {
			t.Error("not steady", list, got)
		}
	}
}

// TestWhatIsNotModified gives lists that no ascent sequence becomes.
func TestWhatIsNotModified(t *testing.T) {
	lists := [][]int{
		{1}, {-1}, {0, 2}, {0, -1}, {-1, 0}, {1, 0}, {1, 2}, {0, 1, 3}, {0, 2, 0}, {0, 2, 2}, {0, 1, 0, 1}, {0, 3, 0, 1}, {0, 2, 0, 2}, {0, 1, 2, 0, 1}, {0, 2, 2, 0, 2}, {0, 2, 0, 1, 0, 1}, {0, 3, 0, 1, 0, 1},
		{0, 3, 0, 2, 0}, {0, 2, 0, 1, 4}, {0, 3, 0, 1, 2, 5}, {1, 3, 1, 2}, {0, 3, 1, 2}, {0, 2, 1}, {0, 1, -1, 2}, {0, 2, 0, 1, -1}, {-1, 1, -1, 0},
		turns(12), turns(4), make([]int, 13), steps(13, 1), {0, 7, 0, 6, 0, 5, 0, 4, 0, 3, 0, 2, 0, 1}, {0, 6, 0, 5, 0, 4, 0, 3, 0, 2, 0, 1, 0}, make([]int, 64), steps(64, 1), make([]int, 1000),
		{math.MaxInt}, {math.MinInt}, {0, math.MaxInt}, {0, math.MinInt}, {math.MinInt, math.MaxInt}, {math.MaxInt, math.MinInt}, {0, math.MaxInt, 0, 1}, {math.MinInt, 0}, {math.MinInt, math.MinInt + 1},
		{0, 2, math.MinInt, 1}, {0, 2, math.MinInt, math.MaxInt}, {math.MaxInt, math.MinInt, 0}, {0, 1 << 32, 0, 1}, {1 << 32},
	}
	for _, list := range lists {
		if got, ok := impl.UnmodifyAscent(list); ok || len(got) > 0 {
			t.Error("not modified", list, got)
		}
	}
}

func TestMergeEqual(t *testing.T) {
	cases := []struct{ list, merged, lengths []int }{
		{nil, nil, nil}, {[]int{}, nil, nil}, {[]int{0}, []int{0}, []int{1}}, {[]int{0, 0}, []int{0}, []int{2}}, {[]int{0, 1}, []int{0, 1}, []int{1, 1}}, {[]int{0, 0, 1, 1, 1, 0}, []int{0, 1, 0}, []int{2, 3, 1}},
		{[]int{0, 1, 0, 1}, []int{0, 1, 0, 1}, []int{1, 1, 1, 1}}, {[]int{0, 1, 1}, []int{0, 1}, []int{1, 2}}, {[]int{0, 0, 0, 1}, []int{0, 1}, []int{3, 1}}, {[]int{0, 1, 1, 0, 0, 2, 2, 2}, []int{0, 1, 0, 2}, []int{1, 2, 2, 3}},
		{make([]int, 12), []int{0}, []int{12}}, {steps(12, 1), steps(12, 1), []int{1, 1, 1, 1, 1, 1, 1, 1, 1, 1, 1, 1}}, {append(make([]int, 11), 1), []int{0, 1}, []int{11, 1}},
	}
	for _, c := range cases {
		merged, lengths, ok := impl.MergeEqual(c.list)
		if !ok || !slices.Equal(merged, c.merged) || !slices.Equal(lengths, c.lengths) {
			t.Error("merged", c.list, merged, lengths, ok)
		}
	}
	for _, list := range badAscents() {
		if merged, lengths, ok := impl.MergeEqual(list); ok || len(merged) > 0 || len(lengths) > 0 {
			t.Error("not merged", list, merged, lengths)
		}
	}
}

// builtIntervals are ascent sequences with their intervals, worked out by hand.
func builtIntervals() []struct {
	list []int
	want []impl.Interval
} {
	return []struct {
		list []int
		want []impl.Interval
	}{
		{nil, nil}, {[]int{}, nil}, {[]int{0}, ivs([2]int{0, 0})}, {[]int{0, 0}, ivs([2]int{0, 0}, [2]int{0, 0})}, {[]int{0, 1}, ivs([2]int{0, 0}, [2]int{1, 1})},
		{[]int{0, 1, 0}, ivs([2]int{0, 0}, [2]int{1, 1}, [2]int{0, 1})}, {[]int{0, 1, 1}, ivs([2]int{0, 0}, [2]int{1, 1}, [2]int{1, 1})}, {[]int{0, 1, 2}, ivs([2]int{0, 0}, [2]int{1, 1}, [2]int{2, 2})},
		{[]int{0, 1, 0, 0}, ivs([2]int{0, 0}, [2]int{1, 1}, [2]int{0, 1}, [2]int{0, 1})}, {[]int{0, 1, 0, 1}, ivs([2]int{0, 0}, [2]int{2, 2}, [2]int{0, 1}, [2]int{1, 2})},
		{[]int{0, 1, 0, 2}, ivs([2]int{0, 0}, [2]int{1, 1}, [2]int{0, 1}, [2]int{2, 2})}, {[]int{0, 1, 2, 1}, ivs([2]int{0, 0}, [2]int{1, 1}, [2]int{2, 2}, [2]int{1, 2})},
		{[]int{0, 1, 2, 0, 1}, ivs([2]int{0, 0}, [2]int{2, 2}, [2]int{3, 3}, [2]int{0, 1}, [2]int{1, 3})}, {[]int{0, 1, 2, 0, 2}, ivs([2]int{0, 0}, [2]int{1, 1}, [2]int{3, 3}, [2]int{0, 2}, [2]int{2, 3})},
		{[]int{0, 1, 2, 1, 2}, ivs([2]int{0, 0}, [2]int{1, 1}, [2]int{3, 3}, [2]int{1, 2}, [2]int{2, 3})}, {[]int{0, 1, 2, 1, 1}, ivs([2]int{0, 0}, [2]int{1, 1}, [2]int{2, 2}, [2]int{1, 2}, [2]int{1, 2})},
		{[]int{0, 1, 2, 1, 3}, ivs([2]int{0, 0}, [2]int{1, 1}, [2]int{2, 2}, [2]int{1, 2}, [2]int{3, 3})}, {[]int{0, 1, 0, 1, 1}, ivs([2]int{0, 0}, [2]int{2, 2}, [2]int{0, 1}, [2]int{1, 2}, [2]int{1, 2})},
		{[]int{0, 1, 0, 1, 2}, ivs([2]int{0, 0}, [2]int{3, 3}, [2]int{0, 1}, [2]int{1, 2}, [2]int{2, 3})}, {[]int{0, 1, 0, 1, 0, 1}, ivs([2]int{0, 0}, [2]int{3, 3}, [2]int{0, 2}, [2]int{2, 3}, [2]int{0, 1}, [2]int{1, 3})},
		{make([]int, 10), manyIntervals(10)}, {steps(3, 1), ivs([2]int{0, 0}, [2]int{1, 1}, [2]int{2, 2})},
	}
}

func TestIntervalsOfAscent(t *testing.T) {
	for _, c := range builtIntervals() {
		if got, ok := impl.IntervalsOfAscent(c.list); !ok || !slices.Equal(got, c.want) {
			t.Error("intervals", c.list, got, ok)
		}
		if got, ok := impl.OrderOfAscent(c.list); !ok || !sameOrder(got, slowOrder(c.want)) {
			t.Error("order", c.list, got, ok)
		}
	}
	if got, ok := impl.OrderOfAscent(steps(10, 1)); !ok || !sameOrder(got, chainOf(10)) {
		t.Error("chain", got, ok)
	}
	if got, ok := impl.OrderOfAscent([]int{0, 1, 0, 1}); !ok || !sameOrder(got, rel(4, [2]int{0, 1}, [2]int{0, 3}, [2]int{2, 1})) {
		t.Error("order", got, ok)
	}
	for _, list := range append(badAscents(), make([]int, 11), steps(11, 1), turns(11), make([]int, 12), steps(12, 1), turns(12)) {
		if got, ok := impl.IntervalsOfAscent(list); ok || len(got) > 0 {
			t.Error("no intervals", list, got)
		}
		if got, ok := impl.OrderOfAscent(list); ok || !isZero(got) {
			t.Error("no order", list, got)
		}
	}
}

func TestAscentTexts(t *testing.T) {
	cases := []struct {
		list []int
		text string
	}{
		{nil, ""}, {[]int{}, ""}, {[]int{0}, "0"}, {[]int{0, 0}, "0,0"}, {[]int{0, 1}, "0,1"}, {[]int{0, 1, 0, 2, 2, 3}, "0,1,0,2,2,3"}, {make([]int, 12), "0,0,0,0,0,0,0,0,0,0,0,0"},
		{steps(12, 1), "0,1,2,3,4,5,6,7,8,9,10,11"}, {[]int{0, 1, 2, 3, 4, 5, 6, 7, 8, 9, 10, 0}, "0,1,2,3,4,5,6,7,8,9,10,0"},
	}
	for _, c := range cases {
		if got, ok := impl.AscentText(c.list); !ok || got != c.text {
			t.Error("text", c.list, got, ok)
		}
		if got, ok := impl.ParseAscent(c.text); !ok || !slices.Equal(got, c.list) {
			t.Error("parsed", c.text, got, ok)
		}
	}
	for _, list := range badAscents() {
		if got, ok := impl.AscentText(list); ok || got != "" {
			t.Error("no text", list, got)
		}
	}
	for _, text := range badTexts() {
		if got, ok := impl.ParseAscent(text); ok || len(got) > 0 {
			t.Errorf("parsed %q %v", text, got)
		}
	}
}
