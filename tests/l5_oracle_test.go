package tests

import (
	"slices"
	"testing"

	"loop.example/g01106/impl"
)

// The functions of chapter 5 are compared with slow answers that follow the document word by word.

// TestAllShortLists tells ascent sequences, and modified ones, apart from all other lists of at most 6 numbers.
func TestAllShortLists(t *testing.T) {
	for length := range 7 {
		originals := map[string][]int{}
		for _, list := range allAscents(length) {
			originals[slowText(slowModified(list))] = list
		}
		if len(originals) != ascentCounts()[length] {
			t.Fatal("ascent sequences of the test", length, len(originals))
		}
		for _, list := range listsOf(length, length+2) {
			for i := range list {
				list[i]--
			}
			if is := isSlowAscent(list); impl.IsAscent(list) != is {
				t.Fatal("ascent sequence", list, !is)
			}
			original, is := originals[slowText(list)]
			if got, ok := impl.UnmodifyAscent(list); ok != is || !slices.Equal(got, original) {
				t.Fatal("not modified", list, got, original)
			}
		}
	}
}

// TestAscentsInOrder gives ranks to all ascent sequences with at most 8 numbers.
func TestAscentsInOrder(t *testing.T) {
	for n := range 9 {
		all := allAscents(n)
		if got, ok := impl.CountAscents(n); got != len(all) || !ok {
			t.Error("count", n, got, len(all))
		}
		if got, ok := impl.ListAscents(n); ok != (n <= 7) || ok && !slices.EqualFunc(got, all, slices.Equal) {
			t.Error("list", n, ok)
		}
		for rank, list := range all {
			if got, ok := impl.RankAscent(list); got != rank || !ok {
				t.Fatal("rank", list, got, rank)
			}
			if got, ok := impl.AscentWith(n, rank); !ok || !slices.Equal(got, list) {
				t.Fatal("ascent sequence", n, rank, got, list)
			}
			var want []int
			if rank+1 < len(all) {
				want = all[rank+1]
			}
			if got, ok := impl.NextAscent(list); ok != (want != nil) || !slices.Equal(got, want) {
				t.Fatal("next", list, got, want)
			}
		}
	}
}

// TestLongAscentsInOrder steps from some ranks to the next ones.
func TestLongAscentsInOrder(t *testing.T) {
	n := numbers(73)
	for length := 9; length <= impl.MaxAscent; length++ {
		count := ascentCounts()[length]
		for k := range 400 {
			rank := n.below(count)
			if k < 4 {
				rank = []int{0, 1, count - 2, count - 1}[k]
			}
			list, ok := impl.AscentWith(length, rank)
			if !ok || !isSlowAscent(list) || len(list) != length {
				t.Fatal("ascent sequence", length, rank, list)
			}
			if got, ok := impl.RankAscent(list); got != rank || !ok {
				t.Fatal("rank", list, got, rank)
			}
			next, ok := impl.NextAscent(list)
			if ok != (rank+1 < count) || ok && slices.Compare(list, next) >= 0 {
				t.Fatal("next", list, next)
			}
			if want, _ := impl.AscentWith(length, rank+1); !slices.Equal(next, want) {
				t.Fatal("next", list, next, want)
			}
		}
	}
}

func TestAscentsWordByWord(t *testing.T) {
	kinds := [2]int{}
	for _, list := range someAscents() {
		if got, ok := impl.AscentsOf(list); got != slowAscents(list) || !ok || !impl.IsAscent(list) {
			t.Fatal("ascents", list, got)
		}
		modified := slowModified(list)
		if got, ok := impl.ModifyAscent(list); !ok || !slices.Equal(got, modified) {
			t.Fatal("modified", list, got, modified)
		}
		if got, ok := impl.UnmodifyAscent(modified); !ok || !slices.Equal(got, list) {
			t.Fatal("not modified", modified, got, list)
		}
		steady := slices.Equal(list, modified)
		if got, ok := impl.IsSteady(list); got != steady || !ok {
			t.Fatal("steady", list, got)
		}
		if steady {
			kinds[0]++
		} else {
			kinds[1]++
		}
		if got, ok := impl.AscentText(list); got != slowText(list) || !ok {
			t.Fatal("text", list, got)
		}
		if got, ok := impl.ParseAscent(slowText(list)); !ok || !slices.Equal(got, list) {
			t.Fatal("parsed", list, got)
		}
		compareMerged(t, list)
		compareBuilt(t, list)
	}
	if slices.Min(kinds[:]) < 200 {
		t.Error("too few of a kind", kinds)
	}
}

// TestNearModified changes one number of modified lists.
func TestNearModified(t *testing.T) {
	n := numbers(79)
	kinds := [2]int{}
	for _, list := range someAscents() {
		if len(list) == 0 {
			continue
		}
		changed := slowModified(list)
		changed[n.below(len(changed))] += n.below(2)*2 - 1
		got, ok := impl.UnmodifyAscent(changed)
		if ok && (!isSlowAscent(got) || !slices.Equal(slowModified(got), changed)) || !ok && len(got) > 0 {
			t.Fatal("not modified", changed, got)
		}
		if ok {
			kinds[0]++
		} else {
			kinds[1]++
		}
	}
	if slices.Min(kinds[:]) < 200 {
		t.Error("too few of a kind", kinds)
	}
}

// compareMerged puts the runs together again.
func compareMerged(t *testing.T, list []int) {
	merged, lengths, ok := impl.MergeEqual(list)
	if !ok || len(merged) != len(lengths) || !isSlowAscent(merged) {
		t.Fatal("merged", list, merged, lengths)
	}
	var again []int
	for i, number := range merged {
		if lengths[i] < 1 || i > 0 && merged[i-1] == number {
			t.Fatal("merged", list, merged, lengths)
		}
		for range lengths[i] {
			again = append(again, number)
		}
	}
	if !slices.Equal(again, list) {
		t.Fatal("merged", list, merged, lengths)
	}
}

func compareBuilt(t *testing.T, list []int) {
	var want []impl.Interval
	o := impl.Order{}
	good := len(list) <= impl.MaxSize
	if good {
		want = slowIntervals(list)
		o = slowOrder(want)
	}
	if got, ok := impl.IntervalsOfAscent(list); ok != good || !slices.Equal(got, want) {
		t.Fatal("intervals", list, got, want)
	}
	if got, ok := impl.OrderOfAscent(list); ok != good || !sameOrder(got, o) {
		t.Fatal("order", list, got, o)
	}
	if !good {
		return
	}
	// They are ends; and their last Right is the number of ascents.
	if ends, magnitude := slowEnds(o); !slices.Equal(want, ends) || len(list) > 0 && magnitude != slowAscents(list)+1 {
		t.Fatal("ends", list, want, ends, magnitude)
	}
	if is, ok := impl.AreLeastEnds(want); !is || !ok {
		t.Fatal("ends", list, want)
	}
}

// TestAscentsAreOrders is promise 5 for intervals: they are ends, no two ascent sequences have the same ones but for their order, and each interval order has those of one.
func TestAscentsAreOrders(t *testing.T) {
	for n := range impl.MaxListed + 1 {
		lists, _ := impl.ListAscents(n)
		met := map[string][]int{}
		for _, list := range lists {
			built, ok := impl.IntervalsOfAscent(list)
			o, _ := impl.OrderOfAscent(list)
			if is, _ := impl.AreLeastEnds(built); !is || !ok {
				t.Fatal("ends", list, built)
			}
			if is, _ := impl.DoRepresent(built, o); !is {
				t.Fatal("order", list, built, o)
			}
			met[sortedEnds(built)] = list
		}
		if len(met) != ascentCounts()[n] {
			t.Error("orders", n, len(met))
		}
		if n > 5 {
			continue
		}
		for _, list := range allIntervals(n, max(n-1, 1)) {
			ends, ok := impl.EndsOf(slowOrder(list))
			if _, is := met[sortedEnds(ends)]; !is || !ok {
				t.Fatal("order of no ascent sequence", list, ends)
			}
		}
	}
}
