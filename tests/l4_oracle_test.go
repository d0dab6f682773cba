package tests

import (
	"slices"
	"testing"

	"loop.example/g01106/impl"
)

// The functions of chapter 4 are compared with slow answers that follow the document word by word.

func TestWeakOrdersWordByWord(t *testing.T) {
	orders := mixedOrders()
	for _, levels := range someLevels() {
		orders = append(orders, slowOrderOfLevels(levels))
	}
	kinds := [4]int{}
	for _, o := range orders {
		three := firstTwoOne(o)
		if got, ok := impl.TwoOneOf(o); ok != (three != nil) || !slices.Equal(got, three) {
			t.Fatal("three", o, got, three)
		}
		levels := slowLevelsOf(o)
		weak := sameOrder(slowOrderOfLevels(levels), o)
		if is, ok := impl.IsWeak(o); is != weak || !ok || weak != (three == nil) {
			t.Fatal("weak", o, is, ok)
		}
		if got, ok := impl.WeakLevels(o); ok != weak || ok && !slices.Equal(got, levels) || !ok && len(got) > 0 {
			t.Fatal("levels", o, got, levels)
		}
		semi := isSlowSemiorder(o)
		trace := slowTraceOrder(o)
		got, ok := impl.TraceOf(o)
		if ok != semi || ok && (!areSlowLevels(got) || !sameOrder(slowOrderOfLevels(got), trace)) || !ok && len(got) > 0 {
			t.Fatal("trace", o, got, trace)
		}
		if weak {
			kinds[0]++
		} else {
			kinds[1]++
		}
		if semi {
			kinds[2]++
		} else {
			kinds[3]++
		}
	}
	if slices.Min(kinds[:]) < 200 {
		t.Error("too few of a kind", kinds)
	}
}

// TestTracesRefine is promise 4 for traces: they refine their semiorders, and the trace of a weak order is its levels.
func TestTracesRefine(t *testing.T) {
	for _, o := range mixedOrders() {
		trace, ok := impl.TraceOf(o)
		if !ok {
			continue
		}
		traced, ok := impl.OrderOfLevels(trace)
		if !ok || !impl.AreLevels(trace) {
			t.Fatal("levels", o, trace)
		}
		if refines, ok := impl.DoesRefine(traced, o); !refines || !ok {
			t.Fatal("refine", o, trace)
		}
		weak, _ := impl.IsWeak(o)
		if refines, ok := impl.DoesRefine(o, traced); refines != weak || !ok {
			t.Fatal("weak", o, trace)
		}
		if levels, ok := impl.WeakLevels(o); ok != weak || ok && !slices.Equal(levels, trace) {
			t.Fatal("weak", o, trace, levels)
		}
		list, _ := impl.TraceList(o)
		for k := 1; k < len(list); k++ {
			if trace[list[k-1]] > trace[list[k]] {
				t.Fatal("list", o, trace, list)
			}
		}
	}
}

// TestAllLevels tells levels apart from all other lists of at most 5 numbers.
func TestAllLevels(t *testing.T) {
	for length := range 6 {
		count := 0
		for _, list := range listsOf(length, 7) {
			for i := range list {
				list[i]--
			}
			are := areSlowLevels(list)
			if impl.AreLevels(list) != are {
				t.Fatal("levels", list)
			}
			o, ok := impl.OrderOfLevels(list)
			if ok != are || ok && !sameOrder(o, slowOrderOfLevels(list)) || !ok && !isZero(o) {
				t.Fatal("order", list, o)
			}
			if are {
				count++
			}
		}
		if got, ok := impl.CountWeak(length); got != count || !ok {
			t.Error("count", length, got)
		}
	}
}

// TestRanksCount gives ranks to all levels that have one.
func TestRanksCount(t *testing.T) {
	for n := range impl.MaxLevelled + 1 {
		all := allLevels(n)
		if got, ok := impl.CountWeak(n); got != len(all) || !ok {
			t.Error("count", n, got, len(all))
		}
		for rank, levels := range all {
			if got, ok := impl.RankLevels(levels); got != rank || !ok {
				t.Fatal("rank", levels, got, rank)
			}
			if got, ok := impl.LevelsWith(n, rank); !ok || !slices.Equal(got, levels) {
				t.Fatal("levels", n, rank, got, levels)
			}
		}
		if got, ok := impl.LevelsWith(n, len(all)); ok || len(got) > 0 {
			t.Error("levels", n, got)
		}
	}
}

// TestLevelsWordByWord compares what is made of levels, of all small sizes and of some greater ones.
func TestLevelsWordByWord(t *testing.T) {
	n := numbers(67)
	lists := someLevels()
	for size := range 5 {
		lists = append(lists, allLevels(size)...)
	}
	for _, first := range lists {
		o := slowOrderOfLevels(first)
		if got, ok := impl.OrderOfLevels(first); !ok || !sameOrder(got, o) || !impl.AreLevels(first) {
			t.Fatal("order", first, got)
		}
		if back, ok := impl.WeakLevels(o); !ok || !slices.Equal(back, first) {
			t.Fatal("levels", first, back)
		}
		mirror, ok := impl.MirrorLevels(first)
		reversed, _ := impl.MirrorOf(o)
		if !ok || !sameOrder(slowOrderOfLevels(mirror), reversed) || !areSlowLevels(mirror) {
			t.Fatal("mirror", first, mirror)
		}
		for limit := range 4 {
			compareRefined(t, first, n.levels(len(first), 1+limit*(1+len(first)/4)))
		}
	}
	small := append(append(allLevels(2), allLevels(3)...), allLevels(4)...)
	for _, first := range small {
		for _, second := range small {
			if len(first) == len(second) {
				compareRefined(t, first, second)
			}
		}
	}
}

func compareRefined(t *testing.T, first, second []int) {
	both := make([]int, len(first))
	for i := range both {
		both[i] = 100*first[i] + second[i]
	}
	want := slowOrderOfLevels(both)
	got, ok := impl.RefineLevels(first, second)
	if !ok || !areSlowLevels(got) || !sameOrder(slowOrderOfLevels(got), want) {
		t.Fatal("refine", first, second, got)
	}
	if refines, ok := impl.DoesRefine(slowOrderOfLevels(got), slowOrderOfLevels(first)); !refines || !ok {
		t.Fatal("refine", first, second, got)
	}
}

// TestOrderPairsWordByWord compares what is told of two orders.
func TestOrderPairsWordByWord(t *testing.T) {
	n := numbers(71)
	kinds := [2]int{}
	pairs := [][2]impl.Order{}
	small := smallOrders()
	for _, o := range small {
		for _, p := range small {
			if o.Size == p.Size && (o.Size < 4 || n.below(6) == 0) {
				pairs = append(pairs, [2]impl.Order{o, p})
			}
		}
	}
	for _, o := range someOrders(impl.MaxSize) {
		part := n.order(o.Size, n.below(5))
		meet, _ := impl.MeetOrders(o, part)
		pairs = append(pairs, [2]impl.Order{o, part}, [2]impl.Order{o, meet}, [2]impl.Order{meet, o}, [2]impl.Order{o, o})
	}
	for _, pair := range pairs {
		o, p := pair[0], pair[1]
		both, refines := rel(o.Size), true
		for i := range both.Above {
			both.Above[i] = o.Above[i] & p.Above[i]
			refines = refines && both.Above[i] == p.Above[i]
		}
		if got, ok := impl.MeetOrders(o, p); !ok || !sameOrder(got, both) || !impl.IsOrder(got) {
			t.Fatal("meet", o, p, got)
		}
		if got, ok := impl.DoesRefine(o, p); !ok || got != refines {
			t.Fatal("refine", o, p, got)
		}
		if got, ok := impl.PairDistance(o, p); !ok || got != slowDistance(o, p) {
			t.Fatal("distance", o, p, got, slowDistance(o, p))
		}
		if refines {
			kinds[0]++
		} else {
			kinds[1]++
		}
	}
	if kinds[0] < 500 || kinds[1] < 500 {
		t.Error("too few of a kind", kinds)
	}
}

// TestLinearWordByWord counts the lists of all different numbers that refine levels.
func TestLinearWordByWord(t *testing.T) {
	for size := range 6 {
		for _, levels := range allLevels(size) {
			o := slowOrderOfLevels(levels)
			count := 0
			for _, linear := range allLevels(size) {
				if size > 0 && slices.Max(linear) < size-1 {
					continue
				}
				if refines, _ := impl.DoesRefine(slowOrderOfLevels(linear), o); refines {
					count++
				}
			}
			if got, ok := impl.CountLinear(levels); got != count || !ok {
				t.Fatal("count", levels, got, count)
			}
		}
	}
	for _, levels := range someLevels() {
		product := 1
		for i, level := range levels {
			same := 1
			for _, before := range levels[:i] {
				if before == level {
					same++
				}
			}
			product *= same
		}
		if got, ok := impl.CountLinear(levels); got != product || !ok {
			t.Fatal("count", levels, got, product)
		}
	}
}

// TestVotersWordByWord compares what voters tell together.
func TestVotersWordByWord(t *testing.T) {
	n := numbers(73)
	kinds := [2]int{}
	for count := 1; count <= impl.MaxVoters; count++ {
		for size := range impl.MaxSize + 1 {
			for k := range 12 {
				lists := [][]int{}
				for range count {
					lists = append(lists, n.levels(size, 1+k*size/4))
				}
				want := slowMajority(lists)
				if got, ok := impl.MajorityOf(lists); !ok || !sameOrder(got, want) {
					t.Fatal("majority", lists, got, want)
				}
				if isOrderGrid(gridFrom(want)) {
					kinds[0]++
				} else {
					kinds[1]++
				}
				mean := slowMean(lists)
				if got, ok := impl.MeanLevels(lists); !ok || !slices.Equal(got, mean) || !areSlowLevels(mean) {
					t.Fatal("mean", lists, got, mean)
				}
			}
		}
	}
	if kinds[0] < 300 || kinds[1] < 300 {
		t.Error("too few of a kind", kinds)
	}
}
