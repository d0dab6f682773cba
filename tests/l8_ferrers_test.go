package tests

import (
	"fmt"
	"math"
	"slices"
	"strings"
	"testing"

	"loop.example/g01106/impl"
)

// toldTable is a table with what the functions tell of it, worked out by hand; it has four cells or scales, and the free order, if any, is that of all empty cells.
type toldTable struct {
	text             string
	four             []int
	rows, columns    []int
	mirror, opposite string
	empty, free      []int
	split            []int
	biorders         []string
}

func toldTables() []toldTable {
	var none []int
	return []toldTable{
		{"1", none, []int{0}, []int{0}, "1", "0", none, []int{0}, none, []string{"1"}},
		{"0", none, []int{0}, []int{1}, "0", "1", []int{0}, []int{0}, []int{0}, []string{"0"}},
		{"101", none, []int{0}, []int{0, 1, 0}, "1/0/1", "010", []int{1}, []int{0}, []int{0}, []string{"101"}},
		{"0/1/1/0", none, []int{0, 1, 1, 0}, []int{1}, "0110", "1/0/0/1", []int{0, 3}, []int{0, 3, 1, 2}, []int{0, 0}, []string{"0/1/1/0"}},
		{"000/000", none, []int{0, 0}, []int{1, 1, 1}, "00/00/00", "111/111", []int{0, 1, 2, 3, 4, 5}, []int{0, 1}, []int{0, 0, 0, 0, 0, 0}, []string{"000/000"}},
		{"111/111", none, []int{0, 0}, []int{0, 0, 0}, "11/11/11", "000/000", none, []int{0, 1}, none, []string{"111/111"}},
		{"010/010/010", none, []int{0, 0, 0}, []int{1, 0, 1}, "000/111/000", "101/101/101", []int{0, 2, 3, 5, 6, 8}, []int{0, 1, 2}, []int{0, 0, 0, 0, 0, 0}, []string{"010/010/010"}},
		{"11/01", none, []int{1, 0}, []int{1, 0}, "10/11", "00/10", []int{2}, []int{1, 0}, []int{0}, []string{"11/01"}},
		{"110/000/111/110", none, []int{1, 0, 2, 1}, []int{1, 1, 2}, "1011/1011/0010", "001/111/000/001", []int{2, 3, 4, 5, 11}, []int{1, 0, 3, 2}, []int{0, 0, 0, 0, 0}, []string{"110/000/111/110"}},
		{"10/01", []int{0, 0, 1, 1}, none, none, "10/01", "01/10", []int{1, 2}, none, []int{0, 1}, []string{"10/11", "11/01"}},
		{"01/10", []int{0, 1, 1, 0}, none, none, "01/10", "10/01", []int{0, 3}, none, []int{0, 1}, []string{"01/11", "11/10"}},
		{"11/10/01", []int{1, 0, 2, 1}, none, none, "110/101", "00/01/10", []int{3, 4}, none, []int{0, 1}, []string{"11/10/11", "11/11/01"}},
		// Several fours refuse: the first row decides first, and then its column.
		{"0110/1001", []int{0, 1, 1, 0}, none, none, "01/10/10/01", "1001/0110", []int{0, 3, 5, 6}, none, []int{0, 0, 1, 1}, []string{"0110/1111", "1111/1001"}},
		{"100/010/001", []int{0, 0, 1, 1}, none, none, "100/010/001", "011/101/110", []int{1, 2, 3, 5, 6, 7}, none, []int{0, 0, 1, 0, 1, 1}, []string{"100/110/111", "111/011/001"}},
		{"110/011/101", []int{0, 0, 1, 2}, none, none, "101/110/011", "001/100/010", []int{2, 3, 7}, none, []int{0, 1, 2}, []string{"110/111/111", "111/011/111", "111/111/101"}},
		{"0111/1011/1101/1110", []int{0, 1, 1, 0}, none, none, "0111/1011/1101/1110", "1000/0100/0010/0001", []int{0, 5, 10, 15}, none, []int{0, 1, 2, 3}, []string{"0111/1111/1111/1111", "1111/1011/1111/1111", "1111/1111/1101/1111", "1111/1111/1111/1110"}},
		// Four parts are not enough.
		{"01111/10111/11011/11101/11110", []int{0, 1, 1, 0}, none, none, "01111/10111/11011/11101/11110", "10000/01000/00100/00010/00001", []int{0, 6, 12, 18, 24}, none, none, nil},
		{"011111/101111/110111/111011/111101/111110", []int{0, 1, 1, 0}, none, none, "011111/101111/110111/111011/111101/111110", "100000/010000/001000/000100/000010/000001", []int{0, 7, 14, 21, 28, 35}, none, none, nil},
	}
}

func TestTableTold(t *testing.T) {
	for _, c := range toldTables() {
		x := tab(c.text)
		if !impl.IsTable(x) {
			t.Error("a table", c.text)
		}
		if got, ok := impl.FourCells(x); !slices.Equal(got, c.four) || ok != (c.four != nil) {
			t.Error("four cells", c.text, got, ok)
		}
		if got, ok := impl.IsBiorder(x); got != (c.four == nil) || !ok {
			t.Error("is a biorder", c.text, got, ok)
		}
		if rows, columns, ok := impl.ScalesOf(x); !slices.Equal(rows, c.rows) || !slices.Equal(columns, c.columns) || ok != (c.four == nil) {
			t.Error("scales", c.text, rows, columns, ok)
		}
		if got, ok := impl.TableOfScales(c.rows, c.columns); c.four == nil && (!sameTable(got, x) || !ok) {
			t.Error("table of scales", c.text, got, ok)
		}
		if got, ok := impl.MirrorTable(x); !sameTable(got, tab(c.mirror)) || !ok {
			t.Error("mirror", c.text, got, ok)
		}
		if got, ok := impl.OppositeTable(x); !sameTable(got, tab(c.opposite)) || !ok {
			t.Error("opposite", c.text, got, ok)
		}
		if got, ok := impl.EmptyCells(x); !slices.Equal(got, c.empty) || !ok {
			t.Error("empty cells", c.text, got, ok)
		}
		if got, ok := impl.FreeOrder(x, c.empty); !slices.Equal(got, c.free) || ok != (c.free != nil) {
			t.Error("free order", c.text, got, ok)
		}
		if got, ok := impl.CoverOf(x, c.empty); c.free != nil && !sameTable(got, x) || ok != (c.free != nil) {
			t.Error("cover", c.text, got, ok)
		}
		if got, ok := impl.TableText(x); got != c.text || !ok {
			t.Error("text", c.text, got, ok)
		}
		if got, ok := impl.ParseTable(c.text); !sameTable(got, x) || !ok {
			t.Error("parsed", c.text, got, ok)
		}
		checkParts(t, x, c.split, c.biorders)
	}
}

// checkParts has a table with the numbers of its empty cells in as few parts as there are biorders.
func checkParts(t *testing.T, x impl.Table, split []int, biorders []string) {
	t.Helper()
	least := len(biorders)
	if got, ok := impl.LeastParts(x); got != least || ok != (least > 0) {
		t.Error("least parts", x, got, ok)
	}
	for parts := 1; parts <= 4; parts++ {
		good := least > 0 && parts >= least
		if got, ok := impl.SplitCells(x, parts); ok != good || !good && len(got) > 0 || parts == least && !slices.Equal(got, split) {
			t.Error("split", x, parts, got, ok)
		}
	}
	got, ok := impl.MeetOfBiorders(x)
	if len(got) != least || ok != (least > 0) {
		t.Error("biorders", x, got, ok)
		return
	}
	for number, text := range biorders {
		if !sameTable(got[number], tab(text)) {
			t.Error("biorder", x, number, got[number])
		}
	}
}

// TestFreeCells has the table in which each row is marked in a column of its own, so that the cell of a row and a column asks the one to stand before the other.
func TestFreeCells(t *testing.T) {
	cases := []struct {
		cells, order []int
		cover        string
	}{
		{nil, []int{0, 1, 2}, "100/110/111"}, {[]int{}, []int{0, 1, 2}, "100/110/111"},
		{[]int{1}, []int{0, 1, 2}, "100/110/111"}, {[]int{2}, []int{0, 1, 2}, "100/110/111"}, {[]int{5}, []int{0, 1, 2}, "100/110/111"}, {[]int{1, 2, 5}, []int{0, 1, 2}, "100/110/111"},
		{[]int{3}, []int{1, 0, 2}, "110/010/111"}, {[]int{7}, []int{0, 2, 1}, "100/111/101"}, {[]int{1, 7}, []int{0, 2, 1}, "100/111/101"},
		// The row 1 need not stand first, nor need 2 stand before it.
		{[]int{6}, []int{1, 2, 0}, "111/010/011"}, {[]int{6, 7}, []int{2, 0, 1}, "101/111/001"}, {[]int{3, 6}, []int{1, 2, 0}, "111/010/011"}, {[]int{3, 6, 7}, []int{2, 1, 0}, "111/011/001"}, {[]int{1, 6}, []int{2, 0, 1}, "101/111/001"}, {[]int{5, 6}, []int{1, 2, 0}, "111/010/011"}, {[]int{3, 5}, []int{1, 0, 2}, "110/010/111"},
		// Two cells, or three of which any two are free, ask too much.
		{[]int{1, 3}, nil, ""}, {[]int{2, 6}, nil, ""}, {[]int{5, 7}, nil, ""}, {[]int{1, 5, 6}, nil, ""}, {[]int{2, 3, 7}, nil, ""}, {[]int{1, 2, 3, 5, 6, 7}, nil, ""},
	}
	x := tab("100/010/001")
	for _, c := range cases {
		if got, ok := impl.FreeOrder(x, c.cells); !slices.Equal(got, c.order) || ok != (c.order != nil) {
			t.Error("free order", c.cells, got, ok)
		}
		got, ok := impl.CoverOf(x, c.cells)
		if ok != (c.order != nil) || ok && !sameTable(got, tab(c.cover)) || !ok && !sameTable(got, impl.Table{}) {
			t.Error("cover", c.cells, got, ok)
		}
	}
}

// TestManyFreeCells has more empty cells than there may be to split.
func TestManyFreeCells(t *testing.T) {
	x := diagonal(6, "1", "0")
	var upper, lower, rows []int
	for cell := range 36 {
		switch {
		case cell/6 < cell%6:
			upper = append(upper, cell)
		case cell/6 > cell%6:
			lower = append(lower, cell)
		}
	}
	if got, ok := impl.FreeOrder(x, upper); !slices.Equal(got, steps(6, 1)) || !ok {
		t.Error("upper", got, ok)
	}
	if got, ok := impl.CoverOf(x, upper); !sameTable(got, tab("100000/110000/111000/111100/111110/111111")) || !ok {
		t.Error("upper cover", got, ok)
	}
	if got, ok := impl.FreeOrder(x, lower); !slices.Equal(got, []int{5, 4, 3, 2, 1, 0}) || !ok {
		t.Error("lower", got, ok)
	}
	if got, ok := impl.CoverOf(x, lower); !sameTable(got, tab("111111/011111/001111/000111/000011/000001")) || !ok {
		t.Error("lower cover", got, ok)
	}
	// Each row before the next one and the last one before the first one: free without any of these cells.
	for r := range 6 {
		rows = append(rows, r*6+(r+1)%6)
	}
	if got, ok := impl.FreeOrder(x, rows); len(got) > 0 || ok {
		t.Error("round", got, ok)
	}
	for r := range rows {
		cells := slices.Delete(slices.Clone(rows), r, r+1)
		want := append(steps(6, 1)[(r+1)%6:], steps(6, 1)[:(r+1)%6]...)
		if got, ok := impl.FreeOrder(x, cells); !slices.Equal(got, want) || !ok {
			t.Error("round without", r, got, ok)
		}
	}
	checkNoParts(t, x)
	nothing := impl.Table{Rows: 6, Columns: 6, Marks: make([]int, 6)}
	if got, ok := impl.EmptyCells(nothing); !slices.Equal(got, steps(36, 1)) || !ok {
		t.Error("empty cells", got, ok)
	}
	if got, ok := impl.FreeOrder(nothing, steps(36, 1)); !slices.Equal(got, steps(6, 1)) || !ok {
		t.Error("all empty", got, ok)
	}
	if got, ok := impl.CoverOf(nothing, steps(36, 1)); !sameTable(got, nothing) || !ok {
		t.Error("cover of all empty", got, ok)
	}
	checkNoParts(t, nothing)
}

func TestWhatAreNoEmptyCells(t *testing.T) {
	for _, x := range someTables() {
		for _, cells := range badCells(x) {
			if got, ok := impl.FreeOrder(x, cells); len(got) > 0 || ok {
				t.Error("free order", x, cells, got)
			}
			if got, ok := impl.CoverOf(x, cells); !sameTable(got, impl.Table{}) || ok {
				t.Error("cover", x, cells, got)
			}
		}
	}
}

// TestSplitLimit has as many empty cells as there may be to split, and one more.
func TestSplitLimit(t *testing.T) {
	cases := []struct {
		text     string
		split    []int
		biorders []string
	}{
		{"000/000/000", make([]int, 9), []string{"000/000/000"}},
		{"000000/000111", make([]int, 9), []string{"000000/000111"}},
		{"00/00/00/00/01", make([]int, 9), []string{"00/00/00/00/01"}},
		{"1000/0100/0010/1111", []int{0, 0, 0, 1, 0, 0, 1, 1, 0}, []string{"1000/1100/1110/1111", "1110/0110/0010/1111"}},
		{"01100/10100/11000", []int{0, 0, 0, 1, 0, 0, 2, 0, 0}, []string{"01100/11100/11100", "11100/10100/11100", "11100/11100/11000"}},
		{"01110/10110/11010/11100/11110", []int{0, 0, 1, 0, 2, 0, 3, 0, 0}, []string{"01110/11110/11110/11110/11110", "11110/10110/11110/11110/11110", "11110/11110/11010/11110/11110", "11110/11110/11110/11100/11110"}},
		{"011110/101110/110110/111010/111101", nil, nil},
	}
	for _, c := range cases {
		if empty := slowEmpty(tab(c.text)); len(empty) != 9 {
			t.Error("not at the limit", c.text)
		}
		checkParts(t, tab(c.text), c.split, c.biorders)
	}
	for _, text := range []string{"000000/000011", "00/00/00/00/00", "0000/0000/0011/1111", "00000/00000", "0000/0100/0010/1111", "01100/10100/10000", "01110/10110/11010/11100/11100", "011110/101110/110110/111010/111100"} {
		if empty := slowEmpty(tab(text)); len(empty) != 10 {
			t.Error("not above the limit", text)
		}
		checkNoParts(t, tab(text))
	}
	checkNoParts(t, tab("000000/000000/111111"))
}

// TestParts has tables for which more parts than needed do not change the numbers, and numbers of parts that there may not be.
func TestParts(t *testing.T) {
	cases := []struct {
		text string
		want [4][]int
	}{
		{"111/111", [4][]int{{}, {}, {}, {}}}, {"0", [4][]int{{0}, {0}, {0}, {0}}}, {"10/01", [4][]int{nil, {0, 1}, {0, 1}, {0, 1}}},
		{"100/010/001", [4][]int{nil, {0, 0, 1, 0, 1, 1}, {0, 0, 1, 0, 1, 1}, {0, 0, 1, 0, 1, 1}}}, {"110/011/101", [4][]int{nil, nil, {0, 1, 2}, {0, 1, 2}}}, {"0111/1011/1101/1110", [4][]int{nil, nil, nil, {0, 1, 2, 3}}}, {"01111/10111/11011/11101/11110", [4][]int{}},
	}
	for _, c := range cases {
		for i, want := range c.want {
			if got, ok := impl.SplitCells(tab(c.text), i+1); !slices.Equal(got, want) || ok != (want != nil) {
				t.Error("split", c.text, i+1, got, ok)
			}
		}
		for _, parts := range badParts() {
			if got, ok := impl.SplitCells(tab(c.text), parts); len(got) > 0 || ok {
				t.Error("no parts", c.text, parts, got)
			}
		}
	}
}

// badParts are no numbers of parts.
func badParts() []int {
	return []int{0, -1, -4, 5, 6, 9, 64, 1<<32 + 2, math.MaxInt, math.MinInt}
}

func TestTablesOfScales(t *testing.T) {
	cases := []struct {
		rows, columns []int
		want          string
	}{
		{[]int{0}, []int{0}, "1"}, {[]int{0}, []int{1}, "0"}, {[]int{1}, []int{0}, "1"}, {[]int{99}, []int{99}, "1"}, {[]int{98}, []int{99}, "0"}, {[]int{0}, []int{99}, "0"}, {[]int{99}, []int{0}, "1"},
		{[]int{0, 99}, []int{99, 0}, "01/11"}, {[]int{5, 5}, []int{5, 5}, "11/11"}, {[]int{5, 5}, []int{6, 6, 6}, "000/000"}, {[]int{3, 1, 2}, []int{2, 3}, "11/00/10"}, {[]int{0, 0, 0, 0, 0, 0}, []int{0, 0, 0, 0, 0, 0}, "111111/111111/111111/111111/111111/111111"},
		{[]int{0, 1, 2, 3, 4, 5}, []int{0, 1, 2, 3, 4, 5}, "100000/110000/111000/111100/111110/111111"}, {[]int{50, 40, 30, 20, 10, 0}, []int{25}, "1/1/1/0/0/0"}, {[]int{25}, []int{50, 40, 30, 20, 10, 0}, "000111"},
	}
	for _, c := range cases {
		if got, ok := impl.TableOfScales(c.rows, c.columns); !sameTable(got, tab(c.want)) || !ok {
			t.Error("table of scales", c.rows, c.columns, got, ok)
		}
	}
	for _, bad := range badScales() {
		for _, good := range [][]int{{0}, {0, 1}, {99, 0, 50, 50, 1, 98}} {
			for _, pair := range [][2][]int{{bad, good}, {good, bad}, {bad, bad}} {
				if got, ok := impl.TableOfScales(pair[0], pair[1]); !sameTable(got, impl.Table{}) || ok {
					t.Error("no scales", pair, got)
				}
			}
		}
	}
}

// badScales are no numbers, too many of them, and some that are out of range.
func badScales() [][]int {
	return [][]int{nil, {}, {-1}, {100}, {101}, {0, -1}, {-1, 0}, {99, 100}, {100, 0}, {0, 1, 2, 3, 4, 100}, {-1, 1, 2, 3, 4, 5}, {0, 0, -99}, {math.MaxInt}, {math.MinInt}, {0, math.MinInt}, {1 << 32}, {1<<32 + 1, 0}, make([]int, 7), steps(7, 1), make([]int, 64), make([]int, 1000)}
}

func TestMeetsOfTables(t *testing.T) {
	cases := [][3]string{
		{"1", "0", "0"}, {"1", "1", "1"}, {"10/11", "11/01", "10/01"}, {"110/011", "011/110", "010/010"}, {"101010/010101", "111000/000111", "101000/000101"}, {"1/0/1", "0/1/1", "0/0/1"}, {"111111/111111", "010101/000000", "010101/000000"},
	}
	for _, c := range cases {
		for _, pair := range [][2]string{{c[0], c[1]}, {c[1], c[0]}} {
			if got, ok := impl.MeetTables(tab(pair[0]), tab(pair[1])); !sameTable(got, tab(c[2])) || !ok {
				t.Error("meet", pair, got, ok)
			}
		}
	}
	for _, pair := range [][2]string{{"1", "11"}, {"1", "1/1"}, {"11", "1/1"}, {"11/11", "111/111"}, {"11/11", "11/11/11"}, {"111/111", "11/11/11"}, {"000000", "00000"}, {"00/00", "00"}} {
		for _, tables := range [][2]string{pair, {pair[1], pair[0]}} {
			if got, ok := impl.MeetTables(tab(tables[0]), tab(tables[1])); !sameTable(got, impl.Table{}) || ok {
				t.Error("meet of other sizes", tables, got)
			}
		}
	}
}

func TestTablesOfOrders(t *testing.T) {
	fork := rel(3, [2]int{0, 1}, [2]int{0, 2})
	cases := []struct {
		o             impl.Order
		rows, columns []int
		want          string
	}{
		{fork, []int{0, 1, 2}, []int{0, 1, 2}, "011/000/000"}, {fork, []int{0}, []int{1, 2}, "11"}, {fork, []int{1, 2}, []int{0}, "0/0"}, {fork, []int{0, 1}, []int{1, 2}, "11/00"}, {fork, []int{0, 2}, []int{0, 1}, "01/00"}, {fork, []int{0}, []int{0}, "0"}, {rel(1), []int{0}, []int{0}, "0"},
		{chainOf(10), []int{0, 2, 4, 6, 8}, []int{1, 3, 5, 7, 9}, "11111/01111/00111/00011/00001"}, {chainOf(10), []int{4, 5, 6, 7, 8, 9}, []int{4, 5, 6, 7, 8, 9}, "011111/001111/000111/000011/000001/000000"}, {chainOf(10), []int{9}, steps(6, 1), "000000"}, {chainOf(10), steps(6, 1), []int{9}, "1/1/1/1/1/1"}, {rel(10), []int{0, 9}, []int{3, 4, 9}, "000/000"},
		{rel(4, [2]int{0, 1}, [2]int{2, 3}), []int{0, 2}, []int{1, 3}, "10/01"}, {fenceOf(6), []int{0, 2, 4}, []int{1, 3, 5}, "100/110/011"}, {crownOf(5), []int{0, 1, 2, 3, 4}, []int{5, 6, 7, 8, 9}, "01111/10111/11011/11101/11110"},
	}
	for _, c := range cases {
		if got, ok := impl.TableOfOrder(c.o, c.rows, c.columns); !sameTable(got, tab(c.want)) || !ok {
			t.Error("table of an order", c.o, c.rows, c.columns, got, ok)
		}
	}
	// An order of no elements has none to tell.
	for _, list := range [][]int{nil, {}, {0}} {
		if got, ok := impl.TableOfOrder(rel(0), list, list); !sameTable(got, impl.Table{}) || ok {
			t.Error("no elements", list, got)
		}
	}
}

// badElementLists are no elements of an order of ten elements, strictly increasing, or too few or too many of them.
func badElementLists() [][]int {
	return [][]int{nil, {}, {-1}, {10}, {0, 0}, {1, 0}, {0, 2, 1}, {0, 1, 1}, {9, 10}, {-1, 0}, {0, 9, 8}, {5, 4, 3}, {64}, {0, 64}, {math.MaxInt}, {math.MinInt}, {math.MinInt, 0}, {0, math.MaxInt}, {1 << 32}, {0, 1 << 32}, steps(7, 1), steps(10, 1), make([]int, 6), make([]int, 7), steps(1000, 1)}
}

func TestNoTablesOfOrders(t *testing.T) {
	for _, bad := range badElementLists() {
		for _, good := range [][]int{{0}, {3, 7}, {0, 1, 2, 3, 4, 9}} {
			for _, pair := range [][2][]int{{bad, good}, {good, bad}, {bad, bad}} {
				if got, ok := impl.TableOfOrder(chainOf(10), pair[0], pair[1]); !sameTable(got, impl.Table{}) || ok {
					t.Error("no elements", pair, got)
				}
			}
		}
	}
	for _, bad := range append(badRelations(), badOrders()...) {
		if got, ok := impl.TableOfOrder(bad, []int{0}, []int{0}); !sameTable(got, impl.Table{}) || ok {
			t.Error("no order", bad, got)
		}
	}
	for size := range 4 {
		if got, ok := impl.TableOfOrder(chainOf(size), []int{0}, []int{size}); ok {
			t.Error("no element", size, got)
		}
	}
}

func TestCountsOfBiorders(t *testing.T) {
	for rows, counts := range biorderCounts() {
		for columns, want := range counts {
			if got, ok := impl.CountBiorders(rows+1, columns+1); got != want || !ok {
				t.Error("count", rows+1, columns+1, got, ok)
			}
		}
	}
	for _, bad := range []int{0, -1, -6, 7, 8, 10, 64, 1 << 32, 1<<32 + 1, math.MaxInt, math.MinInt} {
		for _, good := range []int{1, 2, 6} {
			for _, pair := range [][2]int{{bad, good}, {good, bad}, {bad, bad}} {
				if got, ok := impl.CountBiorders(pair[0], pair[1]); got != 0 || ok {
					t.Error("no count", pair, got)
				}
			}
		}
	}
}

// TestTableLimits has tables with as many rows and columns as there may be, and with one of them only.
func TestTableLimits(t *testing.T) {
	for _, shape := range shapes() {
		rows, columns := shape[0], shape[1]
		full, empty := sameRows(strings.Repeat("1", columns), rows), sameRows(strings.Repeat("0", columns), rows)
		for k, x := range []impl.Table{full, empty} {
			if is, ok := impl.IsBiorder(x); !impl.IsTable(x) || !is || !ok {
				t.Error("a biorder", x)
			}
			if r, c, ok := impl.ScalesOf(x); !slices.Equal(r, make([]int, rows)) || !slices.Equal(c, slices.Repeat([]int{k}, columns)) || !ok {
				t.Error("scales", x, r, c, ok)
			}
			if got, ok := impl.OppositeTable(x); !sameTable(got, []impl.Table{empty, full}[k]) || !ok {
				t.Error("opposite", x, got, ok)
			}
			if got, ok := impl.EmptyCells(x); !slices.Equal(got, steps(k*rows*columns, 1)) || !ok {
				t.Error("empty cells", x, got, ok)
			}
		}
		if got, ok := impl.MeetOfBiorders(full); len(got) != 1 || !sameTable(got[0], full) || !ok {
			t.Error("biorders", full, got, ok)
		}
		if got, ok := impl.CoverOf(full, nil); !sameTable(got, full) || !ok {
			t.Error("cover", full, got, ok)
		}
	}
	x := tab("111111/110111/110101/110101/010001/000000")
	rows, columns, ok := impl.ScalesOf(x)
	if !slices.Equal(rows, []int{4, 3, 2, 2, 1, 0}) || !slices.Equal(columns, []int{2, 1, 4, 2, 3, 1}) || !ok {
		t.Error("scales", rows, columns, ok)
	}
	if got, ok := impl.FourCells(tab("111111/111111/111111/111111/111110/000001")); !slices.Equal(got, []int{4, 0, 5, 5}) || !ok {
		t.Error("last four cells", got, ok)
	}
}

func TestWhatIsNoTable(t *testing.T) {
	good := tab("10/01")
	for _, bad := range badTables() {
		for _, parts := range []int{1, 2, 3, 4} {
			for _, c := range append(tableCalls(bad, good, nil, parts), tableCalls(bad, bad, []int{0}, parts)...) {
				if isLastTrue(c) {
					t.Errorf("%s%v succeeds", c.name, c.args())
				}
			}
		}
		if got, ok := impl.MeetTables(good, bad); ok || !sameTable(got, impl.Table{}) {
			t.Error("meet", bad, got)
		}
	}
}

func TestTableTexts(t *testing.T) {
	for _, text := range badTableTexts() {
		if got, ok := impl.ParseTable(text); !sameTable(got, impl.Table{}) || ok {
			t.Error("no table", fmt.Sprintf("%q", text), got)
		}
	}
	for _, text := range []string{"1", "0", "01", "0/1", "111111", "1/1/1/1/1/1", "000000/000000/000000/000000/000000/000000", "100000/010000/001000/000100/000010/000001", "000001"} {
		if got, ok := impl.ParseTable(text); !sameTable(got, tab(text)) || !ok {
			t.Error("parsed", text, got, ok)
		}
	}
	// One character changed in the longest text: it is another table, or none.
	longest := tableText(marks(diagonal(6, "1", "0")))
	for at := range len(longest) {
		for _, put := range []string{"", "0", "1", "/", "2", " ", "00", "//", "\x00"} {
			text := longest[:at] + put + longest[at+1:]
			good := (put == "0" || put == "1") && longest[at] != '/' || put == longest[at:at+1]
			if got, ok := impl.ParseTable(text); ok != good || good && !sameTable(got, tab(text)) || !good && !sameTable(got, impl.Table{}) {
				t.Error("changed", text, got, ok)
			}
		}
	}
}
