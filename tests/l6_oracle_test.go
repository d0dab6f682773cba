package tests

import (
	"fmt"
	"slices"
	"testing"

	"loop.example/g01106/impl"
)

// The functions of chapter 6 are compared with slow answers that follow the document word by word.

// TestAllSmallRows tells matrices apart from all other rows with numbers in -1..2, and from larger ones.
func TestAllSmallRows(t *testing.T) {
	for d := range 4 {
		least, limit := -1, 4
		if d == 3 {
			least, limit = 0, 3
		}
		for _, list := range listsOf(d*d, limit) {
			m := zeroMatrix(d)
			for k, number := range list {
				m.Rows[k/d][k%d] = number + least
			}
			if is := isSlowMatrix(m); impl.IsMatrix(m) != is {
				t.Fatal("matrix", m, !is)
			}
		}
	}
}

// TestNearMatrices changes one number of matrices.
func TestNearMatrices(t *testing.T) {
	n := numbers(89)
	kinds := [2]int{}
	for _, m := range someMatrices() {
		if len(m.Rows) == 0 {
			continue
		}
		changed := mat(slowMatrixText(m))
		changed.Rows[n.below(len(m.Rows))][n.below(len(m.Rows))] += n.below(2)*2 - 1
		is := isSlowMatrix(changed)
		if impl.IsMatrix(changed) != is {
			t.Fatal("matrix", changed, !is)
		}
		if _, ok := impl.SumOfMatrix(changed); ok != is {
			t.Fatal("sum", changed, ok)
		}
		if is {
			kinds[0]++
		} else {
			kinds[1]++
		}
	}
	if slices.Min(kinds[:]) < 200 {
		t.Error("too few of a kind", kinds)
	}
}

// TestAllGrown is promise 6: each matrix with a sum of at most 7 comes of growing just one matrix by one number, and shrinking tells both.
func TestAllGrown(t *testing.T) {
	before := []impl.Matrix{{}}
	for sum := 1; sum <= impl.MaxListed; sum++ {
		all := allMatrices(sum)
		grownFrom := map[string]int{}
		for _, m := range before {
			for x := range len(m.Rows) + 1 {
				want := slowGrown(m, x)
				got, ok := impl.GrowMatrix(m, x)
				if !sameMatrix(got, want) || !ok {
					t.Fatal("grown", slowMatrixText(m), x, slowMatrixText(got), ok)
				}
				back, number, ok := impl.ShrinkMatrix(got)
				if !sameMatrix(back, m) || number != x || !ok {
					t.Fatal("shrunk", slowMatrixText(got), slowMatrixText(back), number, ok)
				}
				grownFrom[slowMatrixText(got)]++
			}
		}
		if len(all) != ascentCounts()[sum] || len(grownFrom) != len(all) {
			t.Fatal("matrices", sum, len(all), len(grownFrom))
		}
		for _, m := range all {
			if grownFrom[slowMatrixText(m)] != 1 {
				t.Fatal("not grown once", slowMatrixText(m))
			}
		}
		before = all
	}
}

// TestListedAreAll finds each matrix of a sum once in the list, in the order of ascent sequences.
func TestListedAreAll(t *testing.T) {
	for n := range impl.MaxListed + 1 {
		listed, ok := impl.ListMatrices(n)
		lists := allAscents(n)
		if !ok || len(listed) != len(lists) {
			t.Fatal("list", n, len(listed), ok)
		}
		place := map[string]int{}
		for i, m := range listed {
			if !sameMatrix(m, slowMatrix(lists[i])) {
				t.Fatal("list", n, i, slowMatrixText(m))
			}
			place[slowMatrixText(m)] = i
		}
		flat := 0
		for _, m := range allMatrices(n) {
			if _, is := place[slowMatrixText(m)]; !is {
				t.Fatal("not listed", n, slowMatrixText(m))
			}
			if sameMatrix(m, slowFlat(m)) {
				flat++
			}
		}
		if got, ok := impl.CountFlat(n); got != flat || !ok {
			t.Error("flat", n, got, flat)
		}
	}
}

// TestFlatCountsFit puts numbers greater than 1 into flat matrices: this gives all matrices.
func TestFlatCountsFit(t *testing.T) {
	ways := []int{1} // in which n comes of so many numbers greater than 0, at first for n = 1
	for n := 1; n <= impl.MaxAscent; n++ {
		sum := 0
		for k, count := range ways {
			flat, ok := impl.CountFlat(k + 1)
			if !ok {
				t.Fatal("flat", k+1)
			}
			sum += count * flat
		}
		if all, _ := impl.CountAscents(n); sum != all {
			t.Error("all matrices", n, sum, all)
		}
		more := append(slices.Clone(ways), 0)
		for k, count := range ways {
			more[k+1] += count
		}
		ways = more
	}
}

func TestMatricesWordByWord(t *testing.T) {
	for _, m := range someMatrices() {
		text := slowMatrixText(m)
		if !isSlowMatrix(m) || !impl.IsMatrix(m) {
			t.Fatal("matrix", text)
		}
		if got, ok := impl.SumOfMatrix(m); got != slowSum(m) || !ok {
			t.Fatal("sum", text, got, ok)
		}
		if got, ok := impl.TopOfMatrix(m); got != max(slowTop(m), 0) || ok != (len(m.Rows) > 0) {
			t.Fatal("top", text, got, ok)
		}
		if got, ok := impl.DualMatrix(m); !sameMatrix(got, slowDual(m)) || !ok {
			t.Fatal("dual", text, slowMatrixText(got), ok)
		}
		if got, ok := impl.FlattenMatrix(m); !sameMatrix(got, slowFlat(m)) || !ok {
			t.Fatal("flat", text, slowMatrixText(got), ok)
		}
		if got, ok := impl.MatrixText(m); got != text || !ok {
			t.Fatal("text", text, got, ok)
		}
		if got, ok := impl.ParseMatrix(text); !sameMatrix(got, m) || !ok {
			t.Fatal("parsed", text, slowMatrixText(got), ok)
		}
		compareRowSums(t, m)
		compareGrown(t, m)
		compareMatrixAscent(t, m)
		compareMatrixOrder(t, m)
	}
}

func compareRowSums(t *testing.T, m impl.Matrix) {
	rows, columns := make([]int, len(m.Rows)), make([]int, len(m.Rows))
	for i, row := range m.Rows {
		for j, number := range row {
			rows[i] += number
			columns[j] += number
		}
	}
	gotRows, gotColumns, ok := impl.RowSums(m)
	if !slices.Equal(gotRows, rows) || !slices.Equal(gotColumns, columns) || !ok {
		t.Fatal("sums", slowMatrixText(m), gotRows, gotColumns, ok)
	}
}

// compareGrown grows a matrix by all numbers and beyond, and shrinks it.
func compareGrown(t *testing.T, m impl.Matrix) {
	text, d := slowMatrixText(m), len(m.Rows)
	for x := -1; x <= d+1; x++ {
		want := impl.Matrix{}
		good := x >= 0 && x <= d && slowSum(m) < impl.MaxAscent
		if good {
			want = slowGrown(m, x)
		}
		if got, ok := impl.GrowMatrix(m, x); !sameMatrix(got, want) || ok != good {
			t.Fatal("grown", text, x, slowMatrixText(got), ok)
		}
	}
	less, x, ok := impl.ShrinkMatrix(m)
	if ok != (d > 0) {
		t.Fatal("shrunk", text, ok)
	}
	if d > 0 && (!isSlowMatrix(less) || x < 0 || x > len(less.Rows) || !sameMatrix(slowGrown(less, x), m)) {
		t.Fatal("shrunk", text, slowMatrixText(less), x)
	}
}

func compareMatrixAscent(t *testing.T, m impl.Matrix) {
	list, ok := impl.AscentOfMatrix(m)
	if !ok || !isSlowAscent(list) || !sameMatrix(slowMatrix(list), m) {
		t.Fatal("ascent sequence", slowMatrixText(m), list, ok)
	}
	if got, ok := impl.MatrixOfAscent(list); !ok || !sameMatrix(got, m) {
		t.Fatal("matrix", list, slowMatrixText(got), ok)
	}
	if d := len(m.Rows); d > 0 && d != slowAscents(list)+1 {
		t.Fatal("rows", slowMatrixText(m), list)
	}
}

func compareMatrixOrder(t *testing.T, m impl.Matrix) {
	text := slowMatrixText(m)
	good := slowSum(m) <= impl.MaxSize
	want := impl.Order{}
	list := []impl.Interval{}
	if good {
		for i, row := range m.Rows {
			for j, number := range row {
				for ; number > 0; number-- {
					list = append(list, impl.Interval{Left: i, Right: j})
				}
			}
		}
		want = slowOrder(list)
	}
	o, ok := impl.OrderOfMatrix(m)
	if ok != good || !sameOrder(o, want) {
		t.Fatal("order", text, o, ok)
	}
	if !good {
		return
	}
	if ends, magnitude := slowEnds(want); !slices.Equal(ends, list) || magnitude != len(m.Rows) {
		t.Fatal("ends", text, ends, list)
	}
	if got, ok := impl.MatrixOfOrder(want); !ok || !sameMatrix(got, m) {
		t.Fatal("matrix", text, slowMatrixText(got), ok)
	}
	mirror, _ := impl.MirrorOf(want)
	if got, ok := impl.MatrixOfOrder(mirror); !ok || !sameMatrix(got, slowDual(m)) {
		t.Fatal("mirror", text, slowMatrixText(got), ok)
	}
	compareOrderAscent(t, m, want)
}

// compareOrderAscent asks for the ascent sequence of an order, whose intervals are those of the order.
func compareOrderAscent(t *testing.T, m impl.Matrix, o impl.Order) {
	list, ok := impl.AscentOfOrder(o)
	if !ok || !sameMatrix(slowMatrix(list), m) {
		t.Fatal("ascent sequence", o, list, ok)
	}
	built, _ := impl.OrderOfAscent(list)
	if is, ok := impl.AreAlike(o, built); !is || !ok {
		t.Fatal("alike", o, built, list)
	}
	ends, _ := slowEnds(o)
	if sortedEnds(slowIntervals(list)) != sortedEnds(ends) {
		t.Fatal("intervals", o, list)
	}
}

// TestOrdersOfAllKinds asks for matrices of orders, many of which are no interval orders.
func TestOrdersOfAllKinds(t *testing.T) {
	kinds := [2]int{}
	for _, o := range slices.Concat(smallOrders(), someOrders(impl.MaxSize)) {
		refused := firstFour(o) != nil
		want := impl.Matrix{}
		if !refused {
			ends, magnitude := slowEnds(o)
			want = zeroMatrix(magnitude)
			for _, x := range ends {
				want.Rows[x.Left][x.Right]++
			}
			kinds[0]++
		} else {
			kinds[1]++
		}
		if got, ok := impl.MatrixOfOrder(o); ok == refused || !sameMatrix(got, want) {
			t.Fatal("matrix", o, slowMatrixText(got), ok)
		}
		if got, ok := impl.AscentOfOrder(o); ok == refused || ok && !sameMatrix(slowMatrix(got), want) || !ok && len(got) > 0 {
			t.Fatal("ascent sequence", o, got, ok)
		}
		if is, ok := impl.AreAlike(o, o); is == refused || ok == refused {
			t.Fatal("alike", o, is, ok)
		}
	}
	if slices.Min(kinds[:]) < 12 {
		t.Error("too few of a kind", kinds)
	}
}

// TestAlikeByNames compares small orders with each other under all names, and larger ones under some.
func TestAlikeByNames(t *testing.T) {
	orders := smallOrders()
	for _, o := range orders {
		named := map[string]bool{}
		for _, names := range allNames(o.Size) {
			named[fmt.Sprint(renamed(o, names))] = true
		}
		for _, p := range orders {
			good := firstFour(o) == nil && firstFour(p) == nil
			if got, ok := impl.AreAlike(o, p); ok != good || got != (good && named[fmt.Sprint(p)]) {
				t.Fatal("alike", o, p, got, ok)
			}
		}
	}
	n := numbers(97)
	for _, o := range intervalOrders() {
		if is, ok := impl.AreAlike(o, renamed(o, n.shuffled(o.Size))); !is || !ok {
			t.Fatal("alike", o, is, ok)
		}
	}
}
