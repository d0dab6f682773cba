package tests

import (
	"fmt"
	"math"
	"slices"
	"strings"
	"testing"

	"loop.example/g01106/impl"
)

// spareMatrix returns a copy of m with marked room behind its rows and behind each of them.
func spareMatrix(m impl.Matrix) impl.Matrix {
	if m.Rows == nil {
		return m
	}
	rows := make([][]int, len(m.Rows), len(m.Rows)+2)
	for i, row := range m.Rows {
		rows[i] = spare(row)
	}
	for i := len(rows); i < cap(rows); i++ {
		rows[:cap(rows)][i] = []int{555, 556}
	}
	return impl.Matrix{Rows: rows}
}

// cutMatrix returns a copy of m with rows that are parts of one list, each with the later ones behind its end.
func cutMatrix(m impl.Matrix) impl.Matrix {
	whole := append(slices.Concat(m.Rows...), 777)
	cut := impl.Matrix{}
	at := 0
	for _, row := range m.Rows {
		cut.Rows = append(cut.Rows, whole[at:at+len(row)])
		at += len(row)
	}
	return cut
}

// matrixCalls are the functions of chapter 6 on a matrix, and on a number for growing.
func matrixCalls(m impl.Matrix, x int) []call {
	calls := []call{}
	add := func(name string, run func(m impl.Matrix) []any) {
		for _, form := range []func(impl.Matrix) impl.Matrix{spareMatrix, cutMatrix} {
			calls = append(calls, call{
				name: name,
				args: func() []any { return []any{form(m)} },
				run:  func(args []any) []any { return run(args[0].(impl.Matrix)) },
			})
		}
	}
	add(fmt.Sprint("GrowMatrix by ", x, " of "), func(m impl.Matrix) []any { a, ok := impl.GrowMatrix(m, x); return []any{a, ok} })
	add("IsMatrix", func(m impl.Matrix) []any { return []any{impl.IsMatrix(m)} })
	add("SumOfMatrix", func(m impl.Matrix) []any { a, ok := impl.SumOfMatrix(m); return []any{a, ok} })
	add("ShrinkMatrix", func(m impl.Matrix) []any { a, x, ok := impl.ShrinkMatrix(m); return []any{a, x, ok} })
	add("AscentOfMatrix", func(m impl.Matrix) []any { a, ok := impl.AscentOfMatrix(m); return []any{a, ok} })
	add("OrderOfMatrix", func(m impl.Matrix) []any { a, ok := impl.OrderOfMatrix(m); return []any{a, ok} })
	add("DualMatrix", func(m impl.Matrix) []any { a, ok := impl.DualMatrix(m); return []any{a, ok} })
	add("RowSums", func(m impl.Matrix) []any { a, b, ok := impl.RowSums(m); return []any{a, b, ok} })
	add("TopOfMatrix", func(m impl.Matrix) []any { a, ok := impl.TopOfMatrix(m); return []any{a, ok} })
	add("FlattenMatrix", func(m impl.Matrix) []any { a, ok := impl.FlattenMatrix(m); return []any{a, ok} })
	add("MatrixText", func(m impl.Matrix) []any { a, ok := impl.MatrixText(m); return []any{a, ok} })
	return calls
}

// matrixOrderCalls are the functions of chapter 6 on orders.
func matrixOrderCalls(o, p impl.Order) []call {
	one := func() []any { return []any{spareOrder(o)} }
	two := func() []any { return []any{spareOrder(o), spareOrder(p)} }
	return []call{
		{"MatrixOfOrder", one, func(args []any) []any { a, ok := impl.MatrixOfOrder(args[0].(impl.Order)); return []any{a, ok} }},
		{"AscentOfOrder", one, func(args []any) []any { a, ok := impl.AscentOfOrder(args[0].(impl.Order)); return []any{a, ok} }},
		{"AreAlike", two, func(args []any) []any {
			is, ok := impl.AreAlike(args[0].(impl.Order), args[1].(impl.Order))
			return []any{is, ok}
		}},
	}
}

// matrixNumberCalls are the functions of chapter 6 on a number.
func matrixNumberCalls(n int) []call {
	args := func() []any { return []any{n} }
	return []call{
		{"ListMatrices", args, func(args []any) []any { a, ok := impl.ListMatrices(n); return []any{a, ok} }},
		{"CountFlat", args, func(args []any) []any { a, ok := impl.CountFlat(n); return []any{a, ok} }},
	}
}

// TestMatricesTotal is promise 11 for chapter 6.
func TestMatricesTotal(t *testing.T) {
	matrices := append(badMatrices(), someMatrices()...)
	for k, m := range matrices {
		if k > 800 && k%7 > 0 {
			continue
		}
		for _, x := range []int{0, 1, k % 13} {
			for _, c := range matrixCalls(m, x) {
				if x == 0 || strings.HasPrefix(c.name, "GrowMatrix") {
					checkTotal(t, c)
				}
			}
		}
	}
	extreme := []int{-1, -2, 2, 3, 12, 13, 14, 63, 64, 1 << 32, math.MaxInt, math.MinInt, math.MinInt + 1}
	for _, m := range append(badMatrices(), impl.Matrix{}, mat("1"), mat("12"), mat("1,1/0,1"), unitMatrix(12, 1)) {
		for _, x := range extreme {
			checkTotal(t, matrixCalls(m, x)[0])
		}
	}
	for _, n := range append(extreme, 0, 1, 4, 5, 6, 7, 8, 9, 10, 11) {
		for _, c := range matrixNumberCalls(n) {
			checkTotal(t, c)
		}
	}
}

// TestMatrixFormsTotal is promise 11 for what matrices come from.
func TestMatrixFormsTotal(t *testing.T) {
	for _, list := range append(badAscents(), someAscents()...) {
		checkTotal(t, call{
			name: "MatrixOfAscent",
			args: func() []any { return []any{spare(list)} },
			run:  func(args []any) []any { a, ok := impl.MatrixOfAscent(args[0].([]int)); return []any{a, ok} },
		})
	}
	for _, text := range append(badMatrixTexts(), "", "1", "12", "1,0/0,1", "1,1,0/0,0,1/0,0,1", "1,0/0,11", slowMatrixText(unitMatrix(12, 1))) {
		checkTotal(t, call{
			name: "ParseMatrix",
			args: func() []any { return []any{text} },
			run:  func(args []any) []any { a, ok := impl.ParseMatrix(args[0].(string)); return []any{a, ok} },
		})
	}
	orders := slices.Concat(badRelations(), badOrders(), refusedOrders(), smallOrders(), someOrders(impl.MaxSize), intervalOrders())
	for k, o := range orders {
		for _, c := range matrixOrderCalls(o, orders[(k*31+7)%len(orders)]) {
			checkTotal(t, c)
		}
	}
}

// lists are results of one call that must not share memory.
type lists struct {
	name string
	rows [][]int
}

// matrixLists returns the rows of all matrices that come of m.
func matrixLists(m impl.Matrix) []lists {
	text := slowMatrixText(m)
	all := []lists{}
	add := func(name string, m impl.Matrix, ok bool) {
		if ok {
			all = append(all, lists{name + " " + text, m.Rows})
		}
	}
	for x := range len(m.Rows) + 1 {
		grown, ok := impl.GrowMatrix(m, x)
		add("grown", grown, ok)
	}
	shrunk, _, ok := impl.ShrinkMatrix(m)
	add("shrunk", shrunk, ok)
	dual, ok := impl.DualMatrix(m)
	add("dual", dual, ok)
	flat, ok := impl.FlattenMatrix(m)
	add("flat", flat, ok)
	parsed, ok := impl.ParseMatrix(text)
	add("parsed", parsed, ok)
	list, _ := impl.AscentOfMatrix(m)
	built, ok := impl.MatrixOfAscent(list)
	add("built", built, ok)
	o, _ := impl.OrderOfMatrix(m)
	ordered, ok := impl.MatrixOfOrder(o)
	add("ordered", ordered, ok)
	rows, columns, ok := impl.RowSums(m)
	add("sums", impl.Matrix{Rows: [][]int{rows, columns}}, ok)
	return all
}

// TestRowsShareNothing fills each row of a result, and what is behind its end, with its own number: none of them may get into another one.
func TestRowsShareNothing(t *testing.T) {
	for _, m := range someMatrices() {
		for _, result := range append(matrixLists(spareMatrix(m)), matrixLists(cutMatrix(m))...) {
			checkApart(t, result)
		}
	}
	for n := range impl.MaxListed + 1 {
		listed, _ := impl.ListMatrices(n)
		all := lists{name: fmt.Sprint("list ", n)}
		for _, m := range listed {
			all.rows = append(all.rows, m.Rows...)
		}
		checkApart(t, all)
		again, ok := impl.ListMatrices(n)
		if !ok || len(again) != ascentCounts()[n] || n > 0 && again[0].Rows[0][0] != n {
			t.Fatal("lists are kept", n)
		}
		for i, m := range again {
			for k := range cap(m.Rows) {
				m.Rows[:cap(m.Rows)][k] = []int{i}
			}
		}
		for i, m := range again {
			for _, row := range m.Rows {
				if row[0] != i {
					t.Fatal("matrices share rows", n, i)
				}
			}
		}
	}
}

func checkApart(t *testing.T, result lists) {
	t.Helper()
	for k, row := range result.rows {
		for i := range cap(row) {
			row[:cap(row)][i] = k
		}
	}
	for k, row := range result.rows {
		for _, number := range row[:cap(row)] {
			if number != k {
				t.Fatal("rows share memory", result.name)
			}
		}
	}
}
