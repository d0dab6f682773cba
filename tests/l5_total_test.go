package tests

import (
	"fmt"
	"math"
	"slices"
	"strings"
	"testing"

	"loop.example/g01106/impl"
)

// ascentCalls are the functions of chapter 5 on a list.
func ascentCalls(list []int) []call {
	calls := []call{}
	add := func(name string, run func(list []int) []any) {
		calls = append(calls, call{
			name: name,
			args: func() []any { return []any{spare(list)} },
			run:  func(args []any) []any { return run(args[0].([]int)) },
		})
	}
	add("IsAscent", func(list []int) []any { return []any{impl.IsAscent(list)} })
	add("AscentsOf", func(list []int) []any { a, ok := impl.AscentsOf(list); return []any{a, ok} })
	add("RankAscent", func(list []int) []any { a, ok := impl.RankAscent(list); return []any{a, ok} })
	add("NextAscent", func(list []int) []any { a, ok := impl.NextAscent(list); return []any{a, ok} })
	add("ModifyAscent", func(list []int) []any { a, ok := impl.ModifyAscent(list); return []any{a, ok} })
	add("UnmodifyAscent", func(list []int) []any { a, ok := impl.UnmodifyAscent(list); return []any{a, ok} })
	add("IsSteady", func(list []int) []any { a, ok := impl.IsSteady(list); return []any{a, ok} })
	add("MergeEqual", func(list []int) []any { a, b, ok := impl.MergeEqual(list); return []any{a, b, ok} })
	add("IntervalsOfAscent", func(list []int) []any { a, ok := impl.IntervalsOfAscent(list); return []any{a, ok} })
	add("OrderOfAscent", func(list []int) []any { a, ok := impl.OrderOfAscent(list); return []any{a, ok} })
	add("AscentText", func(list []int) []any { a, ok := impl.AscentText(list); return []any{a, ok} })
	return calls
}

// ascentNumberCalls are the functions of chapter 5 on numbers.
func ascentNumberCalls(n, rank int) []call {
	args := func() []any { return []any{n, rank} }
	return []call{
		{"CountAscents", args, func(args []any) []any { a, ok := impl.CountAscents(n); return []any{a, ok} }},
		{"AscentWith", args, func(args []any) []any { a, ok := impl.AscentWith(n, rank); return []any{a, ok} }},
		{"ListAscents", args, func(args []any) []any { a, ok := impl.ListAscents(n); return []any{a, ok} }},
	}
}

// ascentTextCall is ParseAscent of a text.
func ascentTextCall(s string) call {
	return call{
		name: "ParseAscent",
		args: func() []any { return []any{s} },
		run:  func(args []any) []any { a, ok := impl.ParseAscent(args[0].(string)); return []any{a, ok} },
	}
}

// TestWhatIsNoAscent gives each function a list that is no ascent sequence.
func TestWhatIsNoAscent(t *testing.T) {
	for _, bad := range badAscents() {
		for _, c := range ascentCalls(bad) {
			if c.name != "UnmodifyAscent" && isLastTrue(c) {
				t.Errorf("%s%v succeeds", c.name, c.args())
			}
		}
	}
}

// TestListedAscentsShareNothing fills each ascent sequence of a list, and what is behind its end, with its own number: none of them may get into another one.
func TestListedAscentsShareNothing(t *testing.T) {
	for n := range impl.MaxListed + 1 {
		lists, _ := impl.ListAscents(n)
		for k, list := range lists {
			for i := range cap(list) {
				list[:cap(list)][i] = k
			}
		}
		for k, list := range lists {
			for _, number := range list[:cap(list)] {
				if number != k {
					t.Fatal("lists share memory", n, k, number)
				}
			}
		}
		if again, ok := impl.ListAscents(n); !ok || !slices.EqualFunc(again, allAscents(n), slices.Equal) {
			t.Fatal("lists are kept", n, again)
		}
	}
}

// TestMergedShareNothing changes one of the two lists of MergeEqual, and what is behind its end: the other one stays as it is.
func TestMergedShareNothing(t *testing.T) {
	for _, list := range someAscents() {
		merged, lengths, _ := impl.MergeEqual(list)
		before := fmt.Sprint(lengths)
		scribble([]any{merged})
		if fmt.Sprint(lengths) != before {
			t.Fatal("lists share memory", list)
		}
		merged, lengths, _ = impl.MergeEqual(list)
		before = fmt.Sprint(merged)
		scribble([]any{lengths})
		if fmt.Sprint(merged) != before {
			t.Fatal("lists share memory", list)
		}
	}
}

// TestAscentsTotal is promise 11 for chapter 5.
func TestAscentsTotal(t *testing.T) {
	lists := append(badAscents(), nil, []int{}, []int{0}, []int{0, 0}, []int{0, 1}, []int{0, 1, 0, 1}, []int{0, 2, 0, 1}, []int{0, 1, 1, 0, 2}, []int{0, 3, 0, 2, 0, 1})
	lists = append(lists, make([]int, 10), steps(10, 1), turns(10), make([]int, 11), steps(11, 1), make([]int, 12), steps(12, 1), turns(12), []int{math.MinInt, math.MaxInt, math.MinInt, math.MinInt + 1})
	lists = append(lists, someAscents()...)
	for _, list := range lists {
		for _, c := range ascentCalls(list) {
			checkTotal(t, c)
		}
	}
	texts := append(badTexts(), "", "0", "0,1", "0,1,0,2", "0,1,2,3,4,5,6,7,8,9,10,11", strings.Repeat("0,", 11)+"0")
	for _, text := range texts {
		checkTotal(t, ascentTextCall(text))
	}
	extreme := []int{0, 1, 2, 3, 4, 5, 6, 7, 8, 11, 12, 13, 1013, 1014, 10886502, 10886503, -1, 64, 1 << 40, math.MaxInt, math.MinInt}
	for _, n := range extreme {
		for k, rank := range extreme {
			for _, c := range ascentNumberCalls(n, rank) {
				if k == 0 || c.name == "AscentWith" {
					checkTotal(t, c)
				}
			}
		}
	}
}
