package tests

import (
	"fmt"
	"math"
	"slices"
	"strings"
	"testing"

	"loop.example/g01106/impl"
)

// spareTable returns a copy of a table with marked room behind its rows.
func spareTable(t impl.Table) impl.Table {
	return impl.Table{Rows: t.Rows, Columns: t.Columns, Marks: spare(t.Marks)}
}

// tableCalls are the functions of chapter 8 on a table, another one, a list of cells and a number of parts.
func tableCalls(x, y impl.Table, cells []int, parts int) []call {
	calls := []call{}
	add := func(name string, run func(x, y impl.Table, cells []int) []any) {
		calls = append(calls, call{
			name: name,
			args: func() []any { return []any{spareTable(x), spareTable(y), spare(cells), parts} },
			run: func(args []any) []any {
				return run(args[0].(impl.Table), args[1].(impl.Table), args[2].([]int))
			},
		})
	}
	add("IsTable", func(x, y impl.Table, cells []int) []any { return []any{impl.IsTable(x)} })
	add("FourCells", func(x, y impl.Table, cells []int) []any { a, ok := impl.FourCells(x); return []any{a, ok} })
	add("IsBiorder", func(x, y impl.Table, cells []int) []any { a, ok := impl.IsBiorder(x); return []any{a, ok} })
	add("ScalesOf", func(x, y impl.Table, cells []int) []any { a, b, ok := impl.ScalesOf(x); return []any{a, b, ok} })
	add("MirrorTable", func(x, y impl.Table, cells []int) []any { a, ok := impl.MirrorTable(x); return []any{a, ok} })
	add("OppositeTable", func(x, y impl.Table, cells []int) []any { a, ok := impl.OppositeTable(x); return []any{a, ok} })
	add("MeetTables", func(x, y impl.Table, cells []int) []any { a, ok := impl.MeetTables(x, y); return []any{a, ok} })
	add("EmptyCells", func(x, y impl.Table, cells []int) []any { a, ok := impl.EmptyCells(x); return []any{a, ok} })
	add("FreeOrder", func(x, y impl.Table, cells []int) []any { a, ok := impl.FreeOrder(x, cells); return []any{a, ok} })
	add("CoverOf", func(x, y impl.Table, cells []int) []any { a, ok := impl.CoverOf(x, cells); return []any{a, ok} })
	add("SplitCells", func(x, y impl.Table, cells []int) []any { a, ok := impl.SplitCells(x, parts); return []any{a, ok} })
	add("LeastParts", func(x, y impl.Table, cells []int) []any { a, ok := impl.LeastParts(x); return []any{a, ok} })
	add("MeetOfBiorders", func(x, y impl.Table, cells []int) []any { a, ok := impl.MeetOfBiorders(x); return []any{a, ok} })
	add("TableText", func(x, y impl.Table, cells []int) []any { a, ok := impl.TableText(x); return []any{a, ok} })
	return calls
}

// tableListCalls are the functions of chapter 8 on an order and two lists.
func tableListCalls(o impl.Order, rows, columns []int) []call {
	args := func() []any { return []any{spareOrder(o), spare(rows), spare(columns)} }
	return []call{
		{"TableOfOrder", args, func(args []any) []any {
			a, ok := impl.TableOfOrder(args[0].(impl.Order), args[1].([]int), args[2].([]int))
			return []any{a, ok}
		}},
		{"TableOfScales", args, func(args []any) []any {
			a, ok := impl.TableOfScales(args[1].([]int), args[2].([]int))
			return []any{a, ok}
		}},
	}
}

// TestTablesTotal is promise 11 for chapter 8.
func TestTablesTotal(t *testing.T) {
	tables := slices.Concat(badTables(), someTables(), splitTables())
	for k, x := range tables {
		y := tables[(k*31+7)%len(tables)]
		parts := k%4 + 1
		lists := [][]int{nil, {}, {0}, {k % 36}, {0, k % 36}}
		if impl.IsTable(x) {
			bad := badCells(x)
			lists = append(lists, slowEmpty(x), bad[k%len(bad)], bad[(k*7+3)%len(bad)])
		}
		for _, c := range tableCalls(x, y, lists[k%len(lists)], parts) {
			checkTotal(t, c)
		}
		for _, cells := range lists {
			for _, c := range tableCalls(x, x, cells, parts) {
				if c.name == "FreeOrder" || c.name == "CoverOf" || c.name == "MeetTables" {
					checkTotal(t, c)
				}
			}
		}
	}
	for _, x := range []impl.Table{{}, tab("1"), tab("10/01"), diagonal(6, "0", "1"), sameRows("000000", 6)} {
		for _, parts := range append(badParts(), 1, 2, 3, 4) {
			for _, c := range tableCalls(x, x, nil, parts) {
				if c.name == "SplitCells" {
					checkTotal(t, c)
				}
			}
		}
	}
}

// TestTableFormsTotal is promise 11 for what tables come from.
func TestTableFormsTotal(t *testing.T) {
	lists := slices.Concat(badElementLists(), badScales(), [][]int{{0}, {0, 1}, {0, 9}, {1, 3, 5}, {99}, {99, 0}, {5, 5, 5}, steps(6, 1), {4, 5, 6, 7, 8, 9}})
	orders := append(append(badRelations(), badOrders()...), rel(0), rel(1), chainOf(2), rel(6), fenceOf(6), gridOf(2, 5), crownOf(5), chainOf(10), rel(10))
	for k, o := range orders {
		for i, rows := range lists {
			for _, c := range tableListCalls(o, rows, lists[(k+i*i)%len(lists)]) {
				checkTotal(t, c)
			}
			for _, c := range tableListCalls(o, rows, []int{0, 1}) {
				checkTotal(t, c)
			}
		}
	}
	extreme := []int{0, 1, 2, 5, 6, 7, 8, 63, 64, -1, -2, 1 << 32, math.MaxInt, math.MinInt, math.MinInt + 1}
	for _, rows := range extreme {
		for _, columns := range extreme {
			checkTotal(t, call{
				name: "CountBiorders",
				args: func() []any { return []any{rows, columns} },
				run:  func(args []any) []any { a, ok := impl.CountBiorders(rows, columns); return []any{a, ok} },
			})
		}
	}
	for _, text := range append(badTableTexts(), "1", "0", "10/01", "111111", "0/0/0/0/0/0", strings.Repeat("101010/", 5)+"010101") {
		checkTotal(t, call{
			name: "ParseTable",
			args: func() []any { return []any{text} },
			run:  func(args []any) []any { a, ok := impl.ParseTable(args[0].(string)); return []any{a, ok} },
		})
	}
}

// TestTablesShareNothing fills each list of a result, and what is behind its end, with its own number: none of them may get into another one.
func TestTablesShareNothing(t *testing.T) {
	for _, x := range append(someTables(), splitTables()...) {
		text := tableText(marks(x))
		rows, columns, _ := impl.ScalesOf(x)
		checkApart(t, lists{"scales " + text, [][]int{rows, columns}})
		biorders, _ := impl.MeetOfBiorders(x)
		told := fmt.Sprint(biorders)
		all := lists{name: "biorders " + text}
		for _, biorder := range biorders {
			all.rows = append(all.rows, biorder.Marks)
		}
		checkApart(t, all)
		if again, _ := impl.MeetOfBiorders(x); fmt.Sprint(again) != told {
			t.Fatal("biorders are kept", text)
		}
	}
}

// TestEqualTablesAreOthers has functions whose result is the argument itself: changing the result changes nothing else.
func TestEqualTablesAreOthers(t *testing.T) {
	for _, text := range []string{"1", "11/01", "111/111", "000000/000111", "010/010/010"} {
		x := tab(text)
		meet, _ := impl.MeetTables(x, x)
		cover, _ := impl.CoverOf(x, slowEmpty(x))
		biorders, _ := impl.MeetOfBiorders(x)
		if !sameTable(meet, x) || !sameTable(cover, x) || len(biorders) != 1 || !sameTable(biorders[0], x) {
			t.Error("not the same", text)
		}
		scribble([]any{meet, cover, biorders})
		if !sameTable(x, tab(text)) {
			t.Error("shared", text, x)
		}
	}
}
