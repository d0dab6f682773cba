package tests

import (
	"fmt"
	"slices"
	"testing"

	"loop.example/g01106/impl"
)

// The functions of chapter 3 are compared with slow answers that follow the document word by word.

// mixedOrders returns orders of all sizes, semiorders and others.
func mixedOrders() []impl.Order {
	n := numbers(47)
	orders := append(smallOrders(), someOrders(impl.MaxSize)...)
	orders = append(append(orders, refusedOrders()...), asideOrders()...)
	for k := range 150 {
		orders = append(orders, n.order(5+k%6, 1+k%4), slowOrder(n.intervals(5+k%6, 0, 3+k%5)))
	}
	return append(orders, someSemiorders()...)
}

func TestSemiordersWordByWord(t *testing.T) {
	kinds := [2]int{}
	for _, o := range mixedOrders() {
		four := firstAside(o)
		if got, ok := impl.ThreeOneOf(o); ok != (four != nil) || !slices.Equal(got, four) {
			t.Fatal("four", o, got, four)
		}
		semi := isSlowSemiorder(o)
		if is, ok := impl.IsSemiorder(o); is != semi || !ok {
			t.Fatal("semiorder", o, is, ok)
		}
		list, stair := slowTrace(o)
		if !semi {
			list, stair = nil, nil
			kinds[1]++
		} else {
			kinds[0]++
		}
		if got, ok := impl.TraceList(o); ok != semi || !slices.Equal(got, list) {
			t.Fatal("trace", o, got, list)
		}
		if got, ok := impl.StairOf(o); ok != semi || !slices.Equal(got, stair) {
			t.Fatal("stair", o, got, stair)
		}
	}
	if kinds[0] < 300 || kinds[1] < 300 {
		t.Error("too few of a kind", kinds)
	}
}

// slowTrace returns all elements by how many are below them, above them and before them, and the first of these numbers.
func slowTrace(o impl.Order) (list, stair []int) {
	g := gridFrom(o)
	for below := range o.Size {
		for above := o.Size; above >= 0; above-- {
			for i := range g {
				counts := [2]int{}
				for j := range g {
					if g[j][i] {
						counts[0]++
					}
					if g[i][j] {
						counts[1]++
					}
				}
				if counts == [2]int{below, above} {
					list, stair = append(list, i), append(stair, below)
				}
			}
		}
	}
	return list, stair
}

// TestDemandsWordByWord compares for all thresholds, and sees that a threshold has either places or a demand cycle.
func TestDemandsWordByWord(t *testing.T) {
	n := numbers(53)
	for _, o := range mixedOrders() {
		least := 0
		for threshold := impl.MaxThreshold; threshold >= 1; threshold-- {
			places, good := slowLeastPlaces(o, threshold)
			if good {
				least = threshold
			}
			if got, ok := impl.LeastPlaces(o, threshold); ok != good || !slices.Equal(got, places) {
				t.Fatal("least places", o, threshold, got, places)
			}
			cycle, bad := slowCycle(o, threshold)
			if got, ok := impl.DemandCycle(o, threshold); ok != bad || bad == good || !slices.Equal(got, cycle) {
				t.Fatal("cycle", o, threshold, got, cycle)
			}
			if good {
				compareSlacks(t, o, threshold, places, &n)
			} else if is, ok := impl.IsDemandCycle(o, threshold, cycle); !is || !ok {
				t.Fatal("cycle", o, threshold, cycle)
			}
		}
		if got, ok := impl.LeastThreshold(o); got != least || ok != isSlowSemiorder(o) || ok != (least > 0) {
			t.Fatal("threshold", o, got, least)
		}
	}
}

// compareSlacks changes places a little and compares what is said of them.
func compareSlacks(t *testing.T, o impl.Order, threshold int, places []int, n *numbers) {
	for k := range 5 {
		changed := slices.Clone(places)
		for i := range changed {
			changed[i] = changed[i]*(1+k%3) + n.below(1+k/3)
		}
		are := sameOrder(slowOrderOfPlaces(threshold, changed), o)
		if got, ok := impl.IsPlaces(o, threshold, changed); got != are || !ok || k == 0 && !are {
			t.Fatal("places", o, threshold, changed, got)
		}
		slack, good := slowSlack(o, threshold, changed)
		if good && are != (slack >= 0) {
			t.Fatal("slack of the test", o, threshold, changed, slack)
		}
		if !are || !good {
			slack, good = 0, false
		}
		if got, ok := impl.SlackOf(o, threshold, changed); got != slack || ok != good {
			t.Fatal("slack", o, threshold, changed, got, slack)
		}
	}
}

// TestCyclesWordByWord tries all lists of at most 4 numbers, some of which are no elements, and some longer ones.
func TestCyclesWordByWord(t *testing.T) {
	n := numbers(59)
	var lists [][]int
	for length := range 5 {
		for _, list := range listsOf(length, 6) {
			for i := range list {
				list[i]--
			}
			lists = append(lists, list)
		}
	}
	for _, o := range []impl.Order{{}, rel(1), rel(2), bend(), chainOf(4), threeOne(), rel(4, [2]int{0, 1}, [2]int{2, 3}), fenceOf(4), fenceOf(5)} {
		for _, list := range lists {
			compareCycle(t, o, 1, list)
			compareCycle(t, o, 2+n.below(9), list)
		}
	}
	kinds := [2]int{}
	for _, o := range mixedOrders() {
		for range 20 {
			list := n.shuffled(o.Size)
			list = list[:n.below(o.Size+1)]
			if compareCycle(t, o, 1+n.below(3), list) {
				kinds[0]++
			} else {
				kinds[1]++
			}
		}
	}
	if kinds[0] < 300 || kinds[1] < 300 {
		t.Error("too few of a kind", kinds)
	}
}

func compareCycle(t *testing.T, o impl.Order, threshold int, list []int) bool {
	is := isSlowCycle(o, threshold, list)
	if got, ok := impl.IsDemandCycle(o, threshold, list); got != is || !ok {
		t.Fatal("cycle", o, threshold, list, got)
	}
	return is
}

// TestPlacesAreLeast is promise 3 for all orders of at most 4 elements: least places are the least ones of all lists that are places.
func TestPlacesAreLeast(t *testing.T) {
	orders := smallOrders()
	for size := range 5 {
		for threshold := 1; threshold <= impl.MaxThreshold && size*threshold <= 20; threshold++ {
			least := map[string][]int{}
			for _, places := range listsOf(size, max(0, size-1)*threshold+1) {
				o := slowOrderOfPlaces(threshold, places)
				if got, ok := impl.OrderOfPlaces(threshold, places); !ok || !sameOrder(got, o) {
					t.Fatal("order", threshold, places, got)
				}
				key := fmt.Sprint(o.Above)
				if least[key] == nil {
					least[key] = slices.Clone(places)
				}
				for i, place := range places {
					least[key][i] = min(least[key][i], place)
				}
			}
			for _, o := range orders {
				want, has := least[fmt.Sprint(o.Above)]
				if o.Size != size {
					continue
				}
				if got, ok := impl.LeastPlaces(o, threshold); ok != has || !slices.Equal(got, want) {
					t.Fatal("least places", o, threshold, got, want)
				}
			}
		}
	}
}

// TestSemiordersFitTogether is promise 3 for semiorders of all sizes.
func TestSemiordersFitTogether(t *testing.T) {
	for _, o := range someSemiorders() {
		for threshold := 1; threshold <= impl.MaxThreshold; threshold++ {
			places, found := impl.LeastPlaces(o, threshold)
			if !found {
				continue
			}
			if is, ok := impl.IsPlaces(o, threshold, places); !is || !ok {
				t.Fatal("places", o, threshold, places)
			}
			if told, ok := impl.OrderOfPlaces(threshold, places); !ok || !sameOrder(told, o) {
				t.Fatal("order", o, threshold, places, told)
			}
			if slack, ok := impl.SlackOf(o, threshold, places); slack < 0 || ok != (o.Size > 1) {
				t.Fatal("slack", o, threshold, places, slack)
			}
		}
		fitStair(t, o)
	}
}

// fitStair names the elements of a semiorder by its trace: it becomes the order of its stair.
func fitStair(t *testing.T, o impl.Order) {
	list, ok1 := impl.TraceList(o)
	stair, ok2 := impl.StairOf(o)
	names := make([]int, o.Size)
	for k, i := range list {
		names[i] = k
	}
	named, ok3 := impl.RenameOf(o, names)
	told, ok4 := impl.OrderOfStair(stair)
	if !ok1 || !ok2 || !ok3 || !ok4 || !sameOrder(named, told) {
		t.Fatal("stair", o, list, stair, told)
	}
	mirror, _ := impl.MirrorOf(o)
	want, _ := impl.StairOf(mirror)
	if got, ok := impl.MirrorStair(stair); !ok || !slices.Equal(got, want) {
		t.Fatal("mirror", o, stair, got, want)
	}
}

// TestStairsFitTogether goes through all stairs: each is that of one semiorder, which has a threshold.
func TestStairsFitTogether(t *testing.T) {
	for size := range impl.MaxSize + 1 {
		stairs := allStairs(size)
		if got, ok := impl.StairsOf(size); ok && !slices.EqualFunc(got, stairs, slices.Equal) {
			t.Fatal("stairs", size, got)
		}
		for _, stair := range stairs {
			o, ok := impl.OrderOfStair(stair)
			if !ok || !impl.IsStair(stair) || !impl.IsOrder(o) {
				t.Fatal("order", stair, o)
			}
			for j, number := range stair {
				if below, _ := impl.BelowOf(o, j); below != 1<<number-1 {
					t.Fatal("below", stair, j, below)
				}
			}
			if back, ok := impl.StairOf(o); !ok || !slices.Equal(back, stair) {
				t.Fatal("stair", stair, back)
			}
			if threshold, ok := impl.LeastThreshold(o); !ok || threshold < 1 || 2*threshold > size+2 {
				t.Fatal("threshold", stair, threshold)
			}
			fitMirroredStair(t, stair)
		}
	}
}

func fitMirroredStair(t *testing.T, stair []int) {
	mirrored := make([]int, len(stair))
	for k := range stair {
		for _, number := range stair {
			if number > len(stair)-1-k {
				mirrored[k]++
			}
		}
	}
	if got, ok := impl.MirrorStair(stair); !ok || !slices.Equal(got, mirrored) {
		t.Fatal("mirror", stair, got, mirrored)
	}
	if back, ok := impl.MirrorStair(mirrored); !ok || !slices.Equal(back, stair) {
		t.Fatal("mirror", stair, mirrored, back)
	}
}

// TestAllStairs tells stairs apart from all other lists of at most 5 numbers.
func TestAllStairs(t *testing.T) {
	for length := range 6 {
		count := 0
		for _, list := range listsOf(length, 7) {
			are := true
			for i := range list {
				list[i]--
				are = are && list[i] >= 0 && list[i] <= i && (i == 0 || list[i-1] <= list[i])
			}
			if impl.IsStair(list) != are {
				t.Fatal("stair", list)
			}
			if are {
				count++
			}
		}
		if got, ok := impl.CountStairs(length); got != count || !ok {
			t.Error("count", length, got)
		}
	}
}

// TestSemiordersCounted compares with the known numbers of semiorders with names.
func TestSemiordersCounted(t *testing.T) {
	counts := [5]int{}
	for _, o := range smallOrders() {
		is, _ := impl.IsSemiorder(o)
		_, has := impl.LeastThreshold(o)
		if is != has {
			t.Fatal("threshold", o, is, has)
		}
		if is {
			counts[o.Size]++
		}
	}
	if counts != [5]int{1, 1, 3, 19, 183} {
		t.Error("counts", counts)
	}
}
