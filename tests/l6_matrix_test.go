package tests

import (
	"math"
	"slices"
	"testing"

	"loop.example/g01106/impl"
)

// toldMatrices are matrices with what the functions tell of them, worked out by hand.
func toldMatrices() []struct {
	text          string
	sum, top      int
	rows, columns []int
	flat, dual    string
	ascent        []int
} {
	return []struct {
		text          string
		sum, top      int
		rows, columns []int
		flat, dual    string
		ascent        []int
	}{
		{"1", 1, 0, []int{1}, []int{1}, "1", "1", []int{0}},
		{"3", 3, 0, []int{3}, []int{3}, "1", "3", []int{0, 0, 0}},
		{"12", 12, 0, []int{12}, []int{12}, "1", "12", make([]int, 12)},
		{"1,0/0,1", 2, 1, []int{1, 1}, []int{1, 1}, "1,0/0,1", "1,0/0,1", []int{0, 1}},
		{"1,1/0,1", 3, 0, []int{2, 1}, []int{1, 2}, "1,1/0,1", "1,1/0,1", []int{0, 1, 0}},
		{"1,0/0,2", 3, 1, []int{1, 2}, []int{1, 2}, "1,0/0,1", "2,0/0,1", []int{0, 1, 1}},
		{"2,0/0,1", 3, 1, []int{2, 1}, []int{2, 1}, "1,0/0,1", "1,0/0,2", []int{0, 0, 1}},
		{"4,1/0,7", 12, 0, []int{5, 7}, []int{4, 8}, "1,1/0,1", "7,1/0,4", []int{0, 0, 0, 0, 1, 1, 1, 1, 1, 1, 1, 0}},
		{"1,1,0/0,0,1/0,0,1", 4, 1, []int{2, 1, 1}, []int{1, 1, 2}, "1,1,0/0,0,1/0,0,1", "1,1,0/0,0,1/0,0,1", []int{0, 1, 0, 1}},
		{"1,0,1/0,1,0/0,0,1", 4, 0, []int{2, 1, 1}, []int{1, 1, 2}, "1,0,1/0,1,0/0,0,1", "1,0,1/0,1,0/0,0,1", []int{0, 1, 2, 0}},
		{"1,2,0/0,0,3/0,0,4", 10, 1, []int{3, 3, 4}, []int{1, 2, 7}, "1,1,0/0,0,1/0,0,1", "4,3,0/0,0,2/0,0,1", []int{0, 1, 1, 1, 1, 0, 0, 1, 1, 1}},
		{"1,0,2/0,1,0/0,0,3", 7, 0, []int{3, 1, 3}, []int{1, 1, 5}, "1,0,1/0,1,0/0,0,1", "3,0,2/0,1,0/0,0,1", []int{0, 1, 2, 2, 2, 0, 0}},
		{"1,1,0,0/0,0,1,0/0,0,0,1/0,0,0,1", 5, 2, []int{2, 1, 1, 1}, []int{1, 1, 1, 2}, "1,1,0,0/0,0,1,0/0,0,0,1/0,0,0,1", "1,1,0,0/0,0,1,0/0,0,0,1/0,0,0,1", []int{0, 1, 0, 1, 2}},
	}
}

func TestMatrixTold(t *testing.T) {
	for _, c := range toldMatrices() {
		m := mat(c.text)
		if !impl.IsMatrix(m) {
			t.Error("a matrix", c.text)
		}
		if got, ok := impl.SumOfMatrix(m); got != c.sum || !ok {
			t.Error("sum", c.text, got, ok)
		}
		if got, ok := impl.TopOfMatrix(m); got != c.top || !ok {
			t.Error("top", c.text, got, ok)
		}
		if rows, columns, ok := impl.RowSums(m); !slices.Equal(rows, c.rows) || !slices.Equal(columns, c.columns) || !ok {
			t.Error("sums", c.text, rows, columns, ok)
		}
		if got, ok := impl.FlattenMatrix(m); !sameMatrix(got, mat(c.flat)) || !ok {
			t.Error("flat", c.text, got, ok)
		}
		if got, ok := impl.DualMatrix(m); !sameMatrix(got, mat(c.dual)) || !ok {
			t.Error("dual", c.text, got, ok)
		}
		if got, ok := impl.AscentOfMatrix(m); !slices.Equal(got, c.ascent) || !ok {
			t.Error("ascent sequence", c.text, got, ok)
		}
		if got, ok := impl.MatrixOfAscent(c.ascent); !sameMatrix(got, m) || !ok {
			t.Error("matrix", c.ascent, got, ok)
		}
		if got, ok := impl.MatrixText(m); got != c.text || !ok {
			t.Error("text", c.text, got, ok)
		}
		if got, ok := impl.ParseMatrix(c.text); !sameMatrix(got, m) || !ok {
			t.Error("parsed", c.text, got, ok)
		}
	}
}

func TestMatrixWithoutRows(t *testing.T) {
	for _, m := range []impl.Matrix{{}, {Rows: [][]int{}}, {Rows: make([][]int, 0, 4)}, {Rows: [][]int{{1}}[:0]}} {
		if !impl.IsMatrix(m) {
			t.Error("a matrix")
		}
		if got, ok := impl.SumOfMatrix(m); got != 0 || !ok {
			t.Error("sum", got, ok)
		}
		if got, ok := impl.GrowMatrix(m, 0); !sameMatrix(got, mat("1")) || !ok {
			t.Error("grown", got, ok)
		}
		for _, x := range []int{1, -1, 2, math.MaxInt, math.MinInt} {
			if got, ok := impl.GrowMatrix(m, x); len(got.Rows) > 0 || ok {
				t.Error("not grown", x, got, ok)
			}
		}
		if got, x, ok := impl.ShrinkMatrix(m); len(got.Rows) > 0 || x != 0 || ok {
			t.Error("not shrunk", got, x, ok)
		}
		if got, ok := impl.AscentOfMatrix(m); len(got) > 0 || !ok {
			t.Error("ascent sequence", got, ok)
		}
		if got, ok := impl.OrderOfMatrix(m); !sameOrder(got, rel(0)) || !ok {
			t.Error("order", got, ok)
		}
		if got, ok := impl.DualMatrix(m); len(got.Rows) > 0 || !ok {
			t.Error("dual", got, ok)
		}
		if rows, columns, ok := impl.RowSums(m); len(rows) > 0 || len(columns) > 0 || !ok {
			t.Error("sums", rows, columns, ok)
		}
		if got, ok := impl.TopOfMatrix(m); got != 0 || ok {
			t.Error("no top", got, ok)
		}
		if got, ok := impl.FlattenMatrix(m); len(got.Rows) > 0 || !ok {
			t.Error("flat", got, ok)
		}
		if got, ok := impl.MatrixText(m); got != "" || !ok {
			t.Error("text", got, ok)
		}
	}
	for name, make := range map[string]func() (impl.Matrix, bool){
		"ascent": func() (impl.Matrix, bool) { return impl.MatrixOfAscent(nil) },
		"order":  func() (impl.Matrix, bool) { return impl.MatrixOfOrder(rel(0)) },
		"text":   func() (impl.Matrix, bool) { return impl.ParseMatrix("") },
	} {
		if got, ok := make(); len(got.Rows) > 0 || !ok {
			t.Error(name, got, ok)
		}
	}
	if got, ok := impl.AscentOfOrder(rel(0)); len(got) > 0 || !ok {
		t.Error("ascent sequence", got, ok)
	}
}

func TestWhatIsNoMatrix(t *testing.T) {
	for _, bad := range badMatrices() {
		if impl.IsMatrix(bad) {
			t.Error("no matrix", bad)
		}
		for _, x := range []int{-1, 0, 1, 2, 13} {
			for _, c := range matrixCalls(bad, x) {
				if isLastTrue(c) {
					t.Errorf("%s%v succeeds", c.name, c.args())
				}
			}
		}
	}
}

// grownMatrices are matrices that grow, with what comes of it.
func grownMatrices() []struct {
	text string
	x    int
	want string
} {
	return []struct {
		text string
		x    int
		want string
	}{
		{"1", 0, "2"}, {"1", 1, "1,0/0,1"}, {"3", 0, "4"}, {"3", 1, "3,0/0,1"}, {"11", 0, "12"}, {"11", 1, "11,0/0,1"},
		{"1,0/0,1", 0, "1,1/0,1"}, {"1,0/0,1", 1, "1,0/0,2"}, {"1,0/0,1", 2, "1,0,0/0,1,0/0,0,1"},
		// The new column is between, or the last one.
		{"1,1/0,1", 0, "1,2/0,1"}, {"1,1/0,1", 1, "1,1,0/0,0,1/0,0,1"}, {"1,1/0,1", 2, "1,1,0/0,1,0/0,0,1"},
		{"2,5/0,3", 0, "2,6/0,3"}, {"2,5/0,3", 1, "2,5,0/0,0,1/0,0,3"}, {"2,5/0,3", 2, "2,5,0/0,3,0/0,0,1"},
		{"1,1,0/0,0,1/0,0,1", 0, "1,1,1/0,0,1/0,0,1"}, {"1,1,0/0,0,1/0,0,1", 1, "1,1,0/0,0,2/0,0,1"},
		{"1,1,0/0,0,1/0,0,1", 2, "1,1,0,0/0,0,1,0/0,0,0,1/0,0,0,1"}, {"1,1,0/0,0,1/0,0,1", 3, "1,1,0,0/0,0,1,0/0,0,1,0/0,0,0,1"},
		// Zeros of the last column stay in their place.
		{"1,0,2/0,1,0/0,0,3", 0, "1,0,3/0,1,0/0,0,3"}, {"1,0,2/0,1,0/0,0,3", 1, "1,2,0,0/0,0,0,1/0,0,1,0/0,0,0,3"},
		{"1,0,2/0,1,0/0,0,3", 2, "1,0,2,0/0,1,0,0/0,0,0,1/0,0,0,3"}, {"1,0,2/0,1,0/0,0,3", 3, "1,0,2,0/0,1,0,0/0,0,3,0/0,0,0,1"},
		{"1,1,0,2/0,1,1,0/0,0,1,1/0,0,0,1", 3, "1,1,0,2,0/0,1,1,0,0/0,0,1,1,0/0,0,0,0,1/0,0,0,0,1"}, {"1,1,0,2/0,1,1,0/0,0,1,1/0,0,0,1", 1, "1,2,1,0,0/0,0,0,0,1/0,0,1,1,0/0,0,0,1,1/0,0,0,0,1"},
		{"1,1,0,2/0,1,1,0/0,0,1,1/0,0,0,1", 2, "1,1,2,0,0/0,1,0,1,0/0,0,0,0,1/0,0,0,1,1/0,0,0,0,1"}, {"1,1,0,2/0,1,1,0/0,0,1,1/0,0,0,1", 4, "1,1,0,2,0/0,1,1,0,0/0,0,1,1,0/0,0,0,1,0/0,0,0,0,1"},
		// A number of the last column before the top becomes 1 again.
		{"1,1,0,0/0,1,1,0/0,0,1,1/0,0,0,1", 0, "1,1,0,1/0,1,1,0/0,0,1,1/0,0,0,1"}, {"1,1,0,0/0,1,1,0/0,0,1,1/0,0,0,1", 1, "1,1,0,0/0,1,1,1/0,0,1,1/0,0,0,1"}, {"1,1,0,0/0,1,1,0/0,0,1,1/0,0,0,1", 2, "1,1,0,0/0,1,1,0/0,0,1,2/0,0,0,1"},
		{"5,5/0,1", 0, "5,6/0,1"}, {"5,5/0,1", 1, "5,5,0/0,0,1/0,0,1"}, {"5,5/0,1", 2, "5,5,0/0,1,0/0,0,1"},
	}
}

func TestGrowingAndShrinking(t *testing.T) {
	for _, c := range grownMatrices() {
		if got, ok := impl.GrowMatrix(mat(c.text), c.x); !sameMatrix(got, mat(c.want)) || !ok {
			t.Error("grown", c.text, c.x, slowMatrixText(got), ok)
		}
		if got, x, ok := impl.ShrinkMatrix(mat(c.want)); !sameMatrix(got, mat(c.text)) || x != c.x || !ok {
			t.Error("shrunk", c.want, slowMatrixText(got), x, ok)
		}
	}
	if got, ok := impl.GrowMatrix(unitMatrix(11, 1), 11); !sameMatrix(got, unitMatrix(12, 1)) || !ok {
		t.Error("grown", got, ok)
	}
	if got, x, ok := impl.ShrinkMatrix(mat("1")); len(got.Rows) > 0 || x != 0 || !ok {
		t.Error("shrunk", got, x, ok)
	}
	if got, x, ok := impl.ShrinkMatrix(unitMatrix(12, 1)); !sameMatrix(got, unitMatrix(11, 1)) || x != 11 || !ok {
		t.Error("shrunk", got, x, ok)
	}
}

func TestWhatDoesNotGrow(t *testing.T) {
	for _, c := range toldMatrices() {
		m := mat(c.text)
		d := len(m.Rows)
		for _, x := range []int{-1, -2, -d, -d - 1, d + 1, d + 2, 13, 64, 1 << 32, math.MaxInt, math.MinInt} {
			if got, ok := impl.GrowMatrix(m, x); len(got.Rows) > 0 || ok {
				t.Error("not grown", c.text, x, got)
			}
		}
	}
	for _, full := range []impl.Matrix{mat("12"), unitMatrix(12, 1), unitMatrix(6, 2), mat("4,1/0,7"), mat("1,2,0/0,0,3/0,0,6"), mat("6,0,0/0,1,4/0,0,1")} {
		for x := -1; x <= 13; x++ {
			if got, ok := impl.GrowMatrix(full, x); len(got.Rows) > 0 || ok {
				t.Error("not grown", full, x, got)
			}
		}
	}
}

func TestMatricesOfAscents(t *testing.T) {
	cases := []struct {
		list []int
		text string
	}{
		{[]int{0, 0}, "2"}, {[]int{0, 1, 2}, "1,0,0/0,1,0/0,0,1"}, {[]int{0, 1, 2, 1}, "1,0,0/0,1,1/0,0,1"}, {[]int{0, 1, 0, 2}, "1,1,0/0,1,0/0,0,1"}, {[]int{0, 1, 0, 0}, "1,2/0,1"},
		{[]int{0, 1, 2, 0, 1}, "1,1,0,0/0,0,0,1/0,0,1,0/0,0,0,1"}, {[]int{0, 1, 2, 0, 2}, "1,0,1,0/0,1,0,0/0,0,0,1/0,0,0,1"}, {[]int{0, 1, 0, 1, 0, 1}, "1,1,1,0/0,0,0,1/0,0,0,1/0,0,0,1"},
		{[]int{0, 0, 1, 1, 0, 0, 1, 1, 2, 2, 3, 3}, "2,2,0,0,0/0,0,2,0,0/0,0,0,2,0/0,0,0,0,2/0,0,0,0,2"}, {[]int{0, 1, 2, 3, 0, 1, 2, 0, 0, 3, 1, 1}, "1,1,0,2,0,0,0/0,0,1,0,0,0,2/0,0,0,1,0,0,0/0,0,0,0,0,0,1/0,0,0,0,1,0,0/0,0,0,0,0,1,0/0,0,0,0,0,0,1"},
	}
	for _, c := range cases {
		if got, ok := impl.MatrixOfAscent(c.list); !sameMatrix(got, mat(c.text)) || !ok {
			t.Error("matrix", c.list, slowMatrixText(got), ok)
		}
		if got, ok := impl.AscentOfMatrix(mat(c.text)); !slices.Equal(got, c.list) || !ok {
			t.Error("ascent sequence", c.text, got, ok)
		}
	}
	for n := range impl.MaxAscent + 1 {
		if got, ok := impl.MatrixOfAscent(steps(n, 1)); !sameMatrix(got, unitMatrix(n, 1)) || !ok {
			t.Error("matrix", n, got, ok)
		}
		if got, ok := impl.AscentOfMatrix(unitMatrix(n, 1)); !slices.Equal(got, steps(n, 1)) || !ok {
			t.Error("ascent sequence", n, got, ok)
		}
	}
	for _, list := range badAscents() {
		if got, ok := impl.MatrixOfAscent(list); len(got.Rows) > 0 || ok {
			t.Error("no matrix", list, got)
		}
	}
}

func TestMatricesOfOrders(t *testing.T) {
	cases := []struct {
		o    impl.Order
		text string
		list []int
	}{
		{rel(1), "1", []int{0}}, {rel(2), "2", []int{0, 0}}, {rel(10), "10", make([]int, 10)}, {chainOf(2), "1,0/0,1", []int{0, 1}}, {chainOf(10), slowMatrixText(unitMatrix(10, 1)), steps(10, 1)},
		{rel(3, [2]int{0, 1}, [2]int{0, 2}), "1,0/0,2", []int{0, 1, 1}}, {rel(3, [2]int{0, 2}, [2]int{1, 2}), "2,0/0,1", []int{0, 0, 1}}, {rel(3, [2]int{0, 1}), "1,1/0,1", []int{0, 1, 0}}, {rel(3, [2]int{2, 1}), "1,1/0,1", []int{0, 1, 0}},
		{threeOne(), "1,0,1/0,1,0/0,0,1", []int{0, 1, 2, 0}}, {rel(4, [2]int{0, 2}, [2]int{0, 3}, [2]int{1, 3}), "1,1,0/0,0,1/0,0,1", []int{0, 1, 0, 1}}, {rel(4, [2]int{3, 0}, [2]int{3, 2}, [2]int{1, 0}), "1,1,0/0,0,1/0,0,1", []int{0, 1, 0, 1}},
		{rel(4, [2]int{2, 0}), "1,2/0,1", []int{0, 1, 0, 0}}, {fenceOf(4), "1,1,0/0,0,1/0,0,1", []int{0, 1, 0, 1}}, {rel(4, [2]int{0, 1}, [2]int{0, 2}), "1,1/0,2", []int{0, 1, 1, 0}}, {slowOrder(ivs([2]int{0, 0}, [2]int{0, 1}, [2]int{0, 1}, [2]int{1, 2}, [2]int{1, 2}, [2]int{1, 2}, [2]int{2, 2}, [2]int{2, 2}, [2]int{2, 2}, [2]int{2, 2})), "1,2,0/0,0,3/0,0,4", []int{0, 1, 1, 1, 1, 0, 0, 1, 1, 1}},
	}
	for _, c := range cases {
		if got, ok := impl.MatrixOfOrder(c.o); !sameMatrix(got, mat(c.text)) || !ok {
			t.Error("matrix", c.o, slowMatrixText(got), ok)
		}
		if got, ok := impl.AscentOfOrder(c.o); !slices.Equal(got, c.list) || !ok {
			t.Error("ascent sequence", c.o, got, ok)
		}
	}
	for _, bad := range slices.Concat(refusedOrders(), badOrders(), badRelations()) {
		if got, ok := impl.MatrixOfOrder(bad); len(got.Rows) > 0 || ok {
			t.Error("no matrix", bad, got)
		}
		if got, ok := impl.AscentOfOrder(bad); len(got) > 0 || ok {
			t.Error("no ascent sequence", bad, got)
		}
	}
}

func TestOrdersOfMatrices(t *testing.T) {
	cases := []struct {
		text string
		want impl.Order
	}{
		{"1", rel(1)}, {"3", rel(3)}, {"10", rel(10)}, {"1,0/0,1", chainOf(2)}, {"1,1/0,1", rel(3, [2]int{0, 2})}, {"1,0/0,2", rel(3, [2]int{0, 1}, [2]int{0, 2})}, {"2,0/0,1", rel(3, [2]int{0, 2}, [2]int{1, 2})},
		{"1,2/0,1", rel(4, [2]int{0, 3})}, {"1,1,0/0,0,1/0,0,1", rel(4, [2]int{0, 2}, [2]int{0, 3}, [2]int{1, 3})}, {"1,0,1/0,1,0/0,0,1", rel(4, [2]int{0, 2}, [2]int{0, 3}, [2]int{2, 3})}, {slowMatrixText(unitMatrix(10, 1)), chainOf(10)},
		{"1,2,0/0,0,3/0,0,4", slowOrder(ivs([2]int{0, 0}, [2]int{0, 1}, [2]int{0, 1}, [2]int{1, 2}, [2]int{1, 2}, [2]int{1, 2}, [2]int{2, 2}, [2]int{2, 2}, [2]int{2, 2}, [2]int{2, 2}))},
	}
	for _, c := range cases {
		if got, ok := impl.OrderOfMatrix(mat(c.text)); !sameOrder(got, c.want) || !ok {
			t.Error("order", c.text, got, ok)
		}
	}
	for _, m := range []impl.Matrix{mat("11"), mat("12"), mat("5,1/0,5"), mat("4,1/0,7"), unitMatrix(11, 1), unitMatrix(12, 1), mat("1,2,0/0,0,3/0,0,5"), mat("1,0,0/0,9,0/0,0,1")} {
		if got, ok := impl.OrderOfMatrix(m); !isZero(got) || ok {
			t.Error("no order", m, got)
		}
	}
}

func TestAlike(t *testing.T) {
	v, peak := rel(3, [2]int{0, 1}, [2]int{0, 2}), rel(3, [2]int{0, 2}, [2]int{1, 2})
	cases := []struct {
		o, p impl.Order
		want bool
	}{
		{rel(0), rel(0), true}, {rel(1), rel(1), true}, {rel(0), rel(1), false}, {rel(2), rel(3), false}, {rel(10), rel(10), true}, {rel(10), rel(9), false}, {chainOf(10), chainOf(10), true}, {chainOf(10), rel(10), false}, {chainOf(2), rel(2), false},
		{v, v, true}, {v, rel(3, [2]int{1, 0}, [2]int{1, 2}), true}, {v, rel(3, [2]int{2, 0}, [2]int{2, 1}), true}, {v, peak, false}, {peak, v, false}, {peak, rel(3, [2]int{1, 0}, [2]int{2, 0}), true}, {v, rel(4, [2]int{0, 1}, [2]int{0, 2}), false},
		{threeOne(), rel(4, [2]int{3, 2}, [2]int{2, 1}, [2]int{3, 1}), true}, {threeOne(), rel(4, [2]int{0, 2}, [2]int{0, 3}, [2]int{1, 3}), false}, {fenceOf(4), rel(4, [2]int{0, 2}, [2]int{0, 3}, [2]int{1, 3}), true}, {rel(4, [2]int{0, 1}), rel(4, [2]int{3, 2}), true},
	}
	for _, c := range cases {
		if got, ok := impl.AreAlike(c.o, c.p); got != c.want || !ok {
			t.Error("alike", c.o, c.p, got, ok)
		}
	}
	good := []impl.Order{rel(0), rel(1), rel(4), chainOf(4), chainOf(10), threeOne()}
	for _, bad := range slices.Concat(refusedOrders(), badOrders(), badRelations()) {
		for _, o := range append(good, bad) {
			if got, ok := impl.AreAlike(o, bad); got || ok {
				t.Error("not asked", o, bad, got, ok)
			}
			if got, ok := impl.AreAlike(bad, o); got || ok {
				t.Error("not asked", bad, o, got, ok)
			}
		}
	}
}

// TestFlat has matrices that are flat, and numbers of all sizes.
func TestFlat(t *testing.T) {
	cases := []struct{ text, want string }{
		{"2", "1"}, {"11", "1"}, {"1,0/0,11", "1,0/0,1"}, {"1,1/0,1", "1,1/0,1"}, {"2,3/0,4", "1,1/0,1"}, {"1,0,2/0,3,0/0,0,1", "1,0,1/0,1,0/0,0,1"}, {"2,0,0/0,2,0/0,0,2", "1,0,0/0,1,0/0,0,1"},
	}
	for _, c := range cases {
		if got, ok := impl.FlattenMatrix(mat(c.text)); !sameMatrix(got, mat(c.want)) || !ok {
			t.Error("flat", c.text, got, ok)
		}
	}
}

func TestDual(t *testing.T) {
	cases := []struct{ text, want string }{
		{"1,2/0,3", "3,2/0,1"}, {"3,2/0,3", "3,2/0,3"}, {"1,2,0/0,0,1/0,0,3", "3,1,0/0,0,2/0,0,1"}, {"1,0,3/0,2,0/0,0,1", "1,0,3/0,2,0/0,0,1"}, {"1,2,0/0,1,0/0,0,3", "3,0,0/0,1,2/0,0,1"},
		{"1,2,0,0/0,0,1,0/0,0,0,1/0,0,0,3", "3,1,0,0/0,0,1,0/0,0,0,2/0,0,0,1"}, {"1,1,1,0/0,0,0,1/0,0,0,1/0,0,0,1", "1,1,1,0/0,0,0,1/0,0,0,1/0,0,0,1"}, {"1,1,0,2/0,0,1,0/0,0,1,0/0,0,0,1", "1,0,0,2/0,1,1,0/0,0,0,1/0,0,0,1"},
	}
	for _, c := range cases {
		if got, ok := impl.DualMatrix(mat(c.text)); !sameMatrix(got, mat(c.want)) || !ok {
			t.Error("dual", c.text, slowMatrixText(got), ok)
		}
	}
}

// flatCounts are the numbers of flat matrices with the sum 0, 1, ..
func flatCounts() []int {
	return []int{1, 1, 1, 2, 5, 16, 61, 271, 1372, 7795, 49093, 339386, 2554596}
}

func TestCountFlat(t *testing.T) {
	if len(flatCounts()) != impl.MaxAscent+1 {
		t.Fatal("limit", impl.MaxAscent)
	}
	for n, want := range flatCounts() {
		if got, ok := impl.CountFlat(n); got != want || !ok {
			t.Error("flat", n, got, ok)
		}
	}
	for _, n := range []int{-1, -2, 13, 14, 64, -64, 1 << 32, math.MaxInt, math.MinInt} {
		if got, ok := impl.CountFlat(n); got != 0 || ok {
			t.Error("flat", n, got, ok)
		}
	}
}

func TestListMatrices(t *testing.T) {
	wants := [][]string{
		{""}, {"1"}, {"2", "1,0/0,1"}, {"3", "2,0/0,1", "1,1/0,1", "1,0/0,2", "1,0,0/0,1,0/0,0,1"},
		{
			"4", "3,0/0,1", "2,1/0,1", "2,0/0,2", "2,0,0/0,1,0/0,0,1", "1,2/0,1", "1,1,0/0,0,1/0,0,1", "1,1,0/0,1,0/0,0,1",
			"1,1/0,2", "1,0/0,3", "1,0,0/0,2,0/0,0,1", "1,0,1/0,1,0/0,0,1", "1,0,0/0,1,1/0,0,1", "1,0,0/0,1,0/0,0,2", "1,0,0,0/0,1,0,0/0,0,1,0/0,0,0,1",
		},
	}
	for n, want := range wants {
		got, ok := impl.ListMatrices(n)
		if !ok || len(got) != len(want) {
			t.Fatal("list", n, len(got), ok)
		}
		for i, text := range want {
			if !sameMatrix(got[i], mat(text)) {
				t.Error("list", n, i, slowMatrixText(got[i]), text)
			}
		}
	}
	if got, ok := impl.ListMatrices(7); !ok || len(got) != 1014 || !sameMatrix(got[0], mat("7")) || !sameMatrix(got[1013], unitMatrix(7, 1)) {
		t.Error("list", len(got), ok)
	}
	for _, n := range []int{-1, -7, 8, 9, 12, 13, 64, 1 << 32, math.MaxInt, math.MinInt} {
		if got, ok := impl.ListMatrices(n); len(got) > 0 || ok {
			t.Error("no list", n, len(got), ok)
		}
	}
}

func TestMatrixTexts(t *testing.T) {
	for _, m := range []impl.Matrix{unitMatrix(11, 1), unitMatrix(12, 1), mat("11"), mat("1,0/0,11"), mat("1,10/0,1")} {
		text := slowMatrixText(m)
		if got, ok := impl.MatrixText(m); got != text || !ok {
			t.Error("text", text, got, ok)
		}
		if got, ok := impl.ParseMatrix(text); !sameMatrix(got, m) || !ok {
			t.Error("parsed", text, got, ok)
		}
	}
	for _, text := range badMatrixTexts() {
		if got, ok := impl.ParseMatrix(text); len(got.Rows) > 0 || ok {
			t.Errorf("parsed %.80q %v", text, got)
		}
	}
}
