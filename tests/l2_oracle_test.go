package tests

import (
	"fmt"
	"slices"
	"testing"

	"loop.example/g01106/impl"
)

// The functions of chapter 2 are compared with slow answers that follow the document word by word.

// firstFour returns the first four elements that refuse an interval order.
func firstFour(o impl.Order) []int {
	g := gridFrom(o)
	for a := range g {
		for b := range g {
			for c := range g {
				for d := range g {
					if g[a][b] && g[c][d] && !g[c][b] && !g[a][d] {
						return []int{a, b, c, d}
					}
				}
			}
		}
	}
	return nil
}

// slowEnds returns the ends of all elements, and the number of different levels.
func slowEnds(o impl.Order) ([]impl.Interval, int) {
	g := gridFrom(o)
	lower := make([]map[int]bool, len(g)) // the lower set of each element
	for i := range g {
		lower[i] = map[int]bool{}
		for j := range g {
			if g[j][i] {
				lower[i][j] = true
			}
		}
	}
	levels := make([]int, len(g))
	differentLevels := map[int]bool{}
	for i := range g {
		different := map[string]bool{}
		for k := range g {
			part := true
			for j := range lower[k] {
				part = part && lower[i][j]
			}
			if part && len(lower[k]) < len(lower[i]) {
				different[fmt.Sprint(lower[k])] = true
			}
		}
		levels[i] = len(different)
		differentLevels[levels[i]] = true
	}
	ends := []impl.Interval{}
	for i := range g {
		x := impl.Interval{Left: levels[i]}
		for j := range g {
			if !g[i][j] {
				x.Right = max(x.Right, levels[j])
			}
		}
		ends = append(ends, x)
	}
	return ends, len(differentLevels)
}

// intervalOrders returns interval orders of all sizes.
func intervalOrders() []impl.Order {
	var orders []impl.Order
	for _, list := range someIntervals() {
		orders = append(orders, slowOrder(list))
	}
	return orders
}

func TestIntervalOrdersWordByWord(t *testing.T) {
	n := numbers(41)
	kinds := [2]int{}
	orders := append(smallOrders(), someOrders(impl.MaxSize)...)
	orders = append(append(orders, refusedOrders()...), intervalOrders()...)
	for k := range 300 {
		orders = append(orders, n.order(6+k%5, 1+k%3))
	}
	for _, o := range orders {
		four := firstFour(o)
		if is, ok := impl.IsIntervalOrder(o); is != (four == nil) || !ok {
			t.Fatal("interval order", o, is, ok)
		}
		if got, ok := impl.TwoTwoOf(o); ok != (four != nil) || !slices.Equal(got, four) {
			t.Fatal("four", o, got, four)
		}
		if four != nil {
			kinds[1]++
			continue
		}
		kinds[0]++
		compareEnds(t, o)
	}
	if kinds[0] < 100 || kinds[1] < 100 {
		t.Error("too few of a kind", kinds)
	}
}

func compareEnds(t *testing.T, o impl.Order) {
	ends, magnitude := slowEnds(o)
	if got, ok := impl.EndsOf(o); !ok || !slices.Equal(got, ends) {
		t.Fatal("ends", o, got, ends)
	}
	if got, ok := impl.MagnitudeOf(o); !ok || got != magnitude {
		t.Fatal("magnitude", o, got, magnitude)
	}
	levels, ok := impl.LowerLevels(o)
	if !ok || len(levels) != o.Size {
		t.Fatal("levels", o, levels, ok)
	}
	sets := make([]int, magnitude)
	for i, x := range ends {
		if levels[i] != x.Left {
			t.Fatal("levels", o, levels, ends)
		}
		for at := range sets {
			if x.Left <= at && at <= x.Right {
				sets[at] |= 1 << i
			}
		}
	}
	if got, ok := impl.SetsAlong(o); !ok || !slices.Equal(got, sets) {
		t.Fatal("sets", o, got, sets)
	}
}

func TestIntervalsWordByWord(t *testing.T) {
	lists := someIntervals()
	for k, list := range lists {
		o := slowOrder(list)
		if got, ok := impl.OrderOfIntervals(list); !ok || !sameOrder(got, o) || !impl.AreIntervals(list) {
			t.Fatal("order", list, got, o)
		}
		ends, _ := slowEnds(o)
		if is, ok := impl.AreLeastEnds(list); is != slices.Equal(list, ends) || !ok {
			t.Fatal("least", list, is, ends)
		}
		if is, ok := impl.AreLeastEnds(ends); !is || !ok {
			t.Fatal("least", ends, is)
		}
		mirrored := []impl.Interval{}
		for _, x := range list {
			mirrored = append(mirrored, impl.Interval{Left: -x.Right, Right: -x.Left})
		}
		if got, ok := impl.MirrorIntervals(list); !ok || !slices.Equal(got, mirrored) {
			t.Fatal("mirror", list, got)
		}
		for _, other := range []impl.Order{o, slowOrder(lists[(k+1)%len(lists)]), slowOrder(lists[(k+8)%len(lists)])} {
			if is, ok := impl.DoRepresent(list, other); is != sameOrder(o, other) || !ok {
				t.Fatal("represent", list, other, is)
			}
		}
	}
}

func TestStretchedWordByWord(t *testing.T) {
	n := numbers(29)
	for _, list := range someIntervals() {
		for _, by := range []int{0, 1, 2, 10, 500, 1000} {
			at := n.below(2001) - 1000
			if len(list) > 0 && n.below(2) == 0 {
				at = list[n.below(len(list))].Left - n.below(2)
			}
			good := at >= -1000
			want := []impl.Interval{}
			for _, x := range list {
				if x.Left > at {
					x.Left += by
				}
				if x.Right > at {
					x.Right += by
				}
				good = good && x.Right <= 1000
				want = append(want, x)
			}
			if !good {
				want = nil
			}
			if got, ok := impl.StretchIntervals(list, at, by); ok != good || !slices.Equal(got, want) {
				t.Fatal("stretched", list, at, by, got, want)
			}
		}
	}
}

func TestInsertedWordByWord(t *testing.T) {
	n := numbers(31)
	for _, o := range append(smallOrders(), intervalOrders()...) {
		for _, x := range append(n.intervals(3, -2, o.Size+3), n.intervals(1, -1000, 2000)...) {
			ends, _ := slowEnds(o)
			want := slowOrder(append(ends, x))
			good := firstFour(o) == nil && o.Size < impl.MaxSize
			if !good {
				want = impl.Order{}
			}
			if got, ok := impl.InsertInterval(o, x); ok != good || !sameOrder(got, want) {
				t.Fatal("inserted", o, x, got, want)
			}
		}
	}
}

// TestEndsAreLeast is promise 2 for all orders of at most 4 elements and all interval orders of 5: ends are the least ones of all intervals, and four elements refuse just the orders that no intervals represent.
func TestEndsAreLeast(t *testing.T) {
	orders := smallOrders()
	for size, count := range []int{1, 1, 3, 19, 207, 3451} {
		least := map[string][]impl.Interval{}
		told := map[string]impl.Order{}
		for _, list := range allIntervals(size, max(size-1, 1)) {
			o := slowOrder(list)
			key := fmt.Sprint(o.Above)
			told[key] = o
			if _, met := least[key]; !met {
				least[key] = slices.Clone(list)
			}
			for i, x := range list {
				least[key][i].Left = min(least[key][i].Left, x.Left)
				least[key][i].Right = min(least[key][i].Right, x.Right)
			}
		}
		if len(told) != count {
			t.Error("orders", size, len(told))
		}
		for key, o := range told {
			if got, ok := impl.EndsOf(o); !ok || !slices.Equal(got, least[key]) {
				t.Fatal("ends", o, got, least[key])
			}
		}
		for _, o := range orders {
			if o.Size != size {
				continue
			}
			_, represented := told[fmt.Sprint(o.Above)]
			if is, ok := impl.IsIntervalOrder(o); is != represented || !ok {
				t.Fatal("interval order", o, is)
			}
			if _, refused := impl.TwoTwoOf(o); refused == represented {
				t.Fatal("four", o, refused)
			}
		}
	}
}

// TestEndsFitTogether is promise 2 for orders of all sizes.
func TestEndsFitTogether(t *testing.T) {
	for _, list := range someIntervals() {
		o, _ := impl.OrderOfIntervals(list)
		ends, ok := impl.EndsOf(o)
		if is, _ := impl.DoRepresent(ends, o); !ok || !is {
			t.Fatal("represent", o, ends)
		}
		if is, _ := impl.AreLeastEnds(ends); !is {
			t.Fatal("least", o, ends)
		}
		for i, x := range list {
			least := slices.MinFunc(list, func(x, y impl.Interval) int { return x.Left - y.Left }).Left
			if ends[i].Left > x.Left-least || ends[i].Right > x.Right-least || ends[i].Left < 0 {
				t.Fatal("less", list, ends)
			}
		}
		fitMirror(t, list, o, ends)
		fitAntichains(t, o)
	}
}

func fitMirror(t *testing.T, list []impl.Interval, o impl.Order, ends []impl.Interval) {
	mirror, _ := impl.MirrorOf(o)
	mirrored, _ := impl.MirrorIntervals(list)
	if is, ok := impl.DoRepresent(mirrored, mirror); !is || !ok {
		t.Fatal("mirror", list, mirrored)
	}
	if back, ok := impl.MirrorIntervals(mirrored); !ok || !slices.Equal(back, list) {
		t.Fatal("mirror", list, mirrored)
	}
	magnitude, _ := impl.MagnitudeOf(o)
	other, ok := impl.EndsOf(mirror)
	for i, x := range ends {
		if !ok || other[i].Left != magnitude-1-x.Right || other[i].Right != magnitude-1-x.Left {
			t.Fatal("mirrored ends", o, ends, other)
		}
	}
	if stretched, ok := impl.StretchIntervals(list, 0, 7); ok {
		if is, _ := impl.DoRepresent(stretched, o); !is {
			t.Fatal("stretched", list, stretched)
		}
	}
}

// fitAntichains compares the sets along the line with all antichains to which no element can be added.
func fitAntichains(t *testing.T, o impl.Order) {
	if o.Size == 0 {
		return // the empty set is one, but there is no number less than the magnitude 0
	}
	var full []int
	for set := range 1 << o.Size {
		together := 1<<o.Size - 1 // what is indifferent to all of the set, or the only element of the set that is not
		for i := range o.Size {
			if set>>i&1 == 1 {
				apart, _ := impl.IndifferentTo(o, i)
				together &= apart | 1<<i
			}
		}
		if together == set {
			full = append(full, set)
		}
	}
	sets, ok := impl.SetsAlong(o)
	slices.Sort(sets)
	if !ok || !slices.Equal(sets, full) {
		t.Fatal("antichains", o, sets, full)
	}
}
