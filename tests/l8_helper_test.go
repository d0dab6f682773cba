package tests

import (
	"math"
	"slices"
	"strings"

	"loop.example/g01106/impl"
)

// tab returns the table with a text, without asking whether it is one.
func tab(text string) impl.Table {
	rows := strings.Split(text, "/")
	t := impl.Table{Rows: len(rows), Columns: len(rows[0])}
	for _, row := range rows {
		set := 0
		for c := range len(row) {
			if row[c] == '1' {
				set += int(math.Pow(2, float64(c)))
			}
		}
		t.Marks = append(t.Marks, set)
	}
	return t
}

// sameRows returns a table whose rows all have the same text.
func sameRows(row string, count int) impl.Table {
	return tab(strings.Repeat(row+"/", count-1) + row)
}

// diagonal returns the table with one character on its diagonal and another one elsewhere.
func diagonal(size int, on, off string) impl.Table {
	var rows []string
	for r := range size {
		rows = append(rows, strings.Repeat(off, r)+on+strings.Repeat(off, size-1-r))
	}
	return tab(strings.Join(rows, "/"))
}

// marks returns for each row and column whether there is a mark.
func marks(t impl.Table) [][]bool {
	g := make([][]bool, t.Rows)
	for r := range g {
		g[r] = make([]bool, t.Columns)
		for c := range g[r] {
			g[r][c] = t.Marks[r]/int(math.Pow(2, float64(c)))%2 == 1
		}
	}
	return g
}

// tableText returns the text of rows and columns of marks.
func tableText(g [][]bool) string {
	var rows []string
	for _, row := range g {
		text := ""
		for _, marked := range row {
			text += map[bool]string{true: "1", false: "0"}[marked]
		}
		rows = append(rows, text)
	}
	return strings.Join(rows, "/")
}

func sameTable(t, u impl.Table) bool {
	return t.Rows == u.Rows && t.Columns == u.Columns && slices.Equal(t.Marks, u.Marks)
}

// shapes are all numbers of rows and columns that a table may have.
func shapes() [][2]int {
	var all [][2]int
	for rows := 1; rows <= 6; rows++ {
		for columns := 1; columns <= 6; columns++ {
			all = append(all, [2]int{rows, columns})
		}
	}
	return all
}

// allTables returns all tables with so many rows and columns.
func allTables(rows, columns int) []impl.Table {
	var all []impl.Table
	for _, list := range listsOf(rows, 1<<columns) {
		all = append(all, impl.Table{Rows: rows, Columns: columns, Marks: list})
	}
	return all
}

// smallTables returns all tables with at most 6 cells, and all with three rows and three columns.
func smallTables() []impl.Table {
	all := allTables(3, 3)
	for _, shape := range shapes() {
		if shape[0]*shape[1] <= 6 {
			all = append(all, allTables(shape[0], shape[1])...)
		}
	}
	return all
}

// table returns a table in which about share of 10 cells are marked.
func (n *numbers) table(rows, columns, share int) impl.Table {
	t := impl.Table{Rows: rows, Columns: columns, Marks: make([]int, rows)}
	for r := range rows {
		for c := range columns {
			if n.below(10) < share {
				t.Marks[r] |= 1 << c
			}
		}
	}
	return t
}

// biorder returns a biorder; for a small limit, many rows and columns are equal.
func (n *numbers) biorder(rows, columns, limit int) impl.Table {
	t := impl.Table{Rows: rows, Columns: columns, Marks: make([]int, rows)}
	places := make([]int, columns)
	for c := range places {
		places[c] = n.below(limit + 1)
	}
	for r := range rows {
		own := n.below(limit)
		for c, place := range places {
			if own >= place {
				t.Marks[r] |= 1 << c
			}
		}
	}
	return t
}

// holed returns a table with marks in all cells but for some, at most so many.
func (n *numbers) holed(rows, columns, holes int) impl.Table {
	t := n.table(rows, columns, 10)
	for range holes {
		t.Marks[n.below(rows)] &^= 1 << n.below(columns)
	}
	return t
}

// someTables returns small tables, and some of all shapes: of all densities, biorders and such with one cell changed.
func someTables() []impl.Table {
	n := numbers(808)
	tables := smallTables()
	for _, shape := range shapes() {
		rows, columns := shape[0], shape[1]
		for share := range 11 {
			tables = append(tables, n.table(rows, columns, share), n.holed(rows, columns, share))
		}
		for limit := range 6 {
			t, u := n.biorder(rows, columns, limit+1), n.biorder(rows, columns, limit+2)
			u.Marks[n.below(rows)] ^= 1 << n.below(columns)
			tables = append(tables, t, u)
		}
	}
	for size := 2; size <= 6; size++ {
		tables = append(tables, diagonal(size, "1", "0"), diagonal(size, "0", "1"))
	}
	return tables
}

// splitTables returns tables with at most 9 empty cells, some of them one more.
func splitTables() []impl.Table {
	n := numbers(99)
	var tables []impl.Table
	for _, t := range someTables() {
		if len(slowEmpty(t)) <= 10 {
			tables = append(tables, t)
		}
	}
	for size := 3; size <= 6; size++ {
		for range 12 {
			// Cells on the diagonal ask for many parts.
			t := n.holed(size, size, 9-size)
			for r := range size {
				if n.below(12) > 0 {
					t.Marks[r] &^= 1 << r
				}
			}
			tables = append(tables, t)
		}
	}
	return tables
}

// badTables are values that are no tables.
func badTables() []impl.Table {
	tables := []impl.Table{
		{}, {Marks: []int{}}, {Marks: []int{0}}, {Rows: 1}, {Columns: 1}, {Rows: 1, Marks: []int{0}}, {Columns: 1, Marks: []int{}}, {Columns: 6}, {Rows: 6, Marks: make([]int, 6)},
		{Rows: 1, Columns: 1}, {Rows: 1, Columns: 1, Marks: []int{}}, {Rows: 1, Columns: 1, Marks: []int{0, 0}}, {Rows: 2, Columns: 1, Marks: []int{0}}, {Rows: 2, Columns: 2, Marks: []int{1, 2, 0}}, {Rows: 2, Columns: 2, Marks: []int{3}},
		{Rows: 6, Columns: 6, Marks: make([]int, 5)}, {Rows: 6, Columns: 6, Marks: make([]int, 7)}, {Rows: 5, Columns: 6, Marks: make([]int, 6)}, {Rows: 3, Columns: 3, Marks: make([]int, 1000)},
		{Rows: 7, Columns: 1, Marks: make([]int, 7)}, {Rows: 7, Columns: 7, Marks: make([]int, 7)}, {Rows: 1, Columns: 7, Marks: make([]int, 1)}, {Rows: 6, Columns: 7, Marks: make([]int, 6)}, {Rows: 7, Columns: 6, Marks: make([]int, 7)}, {Rows: 1000, Columns: 2, Marks: make([]int, 1000)},
		{Rows: 1, Columns: 10, Marks: []int{1}}, {Rows: 1, Columns: 63, Marks: []int{1}}, {Rows: 1, Columns: 64, Marks: []int{1}}, {Rows: 1, Columns: 65, Marks: []int{1}}, {Rows: 2, Columns: 1 << 32, Marks: []int{0, 1}},
		{Rows: -1, Columns: 1}, {Rows: -1, Columns: 1, Marks: []int{0}}, {Rows: 1, Columns: -1, Marks: []int{0}}, {Rows: -1, Columns: -1}, {Rows: 2, Columns: -2, Marks: []int{0, 0}}, {Rows: 1, Columns: -64, Marks: []int{0}},
		{Rows: math.MinInt, Columns: 1}, {Rows: 1, Columns: math.MinInt, Marks: []int{0}}, {Rows: math.MaxInt, Columns: 1, Marks: []int{0}}, {Rows: 1, Columns: math.MaxInt, Marks: []int{0}}, {Rows: 1<<32 + 1, Columns: 1, Marks: []int{0}}, {Rows: math.MinInt, Columns: math.MinInt},
	}
	for _, shape := range shapes() {
		rows, full := shape[0], 1<<shape[1]-1
		for _, wrong := range []int{-1, full + 1, -full - 1, full + 2, math.MaxInt, math.MinInt, 1 << 32, 64 * 64} {
			for _, r := range slices.Compact([]int{0, rows / 2, rows - 1}) {
				t := impl.Table{Rows: rows, Columns: shape[1], Marks: slices.Repeat([]int{full}, rows)}
				t.Marks[r] = wrong
				tables = append(tables, t)
			}
		}
	}
	return tables
}

// badTableTexts are texts that no table has.
func badTableTexts() []string {
	return []string{
		"", "/", "//", "1/", "/1", "/1/", "1//1", "10//01", "10/01/", "/10/01", "0/", "/0", "1/0/", "//1", "1//", "11//", "///", "//////",
		"1/11", "11/1", "10/1", "1/01", "10/01/1", "10/01/111", "1/10/01", "111/11/111", "11/111/11", "111/1111/11", "1/001", "100/1", "000000/00000/000000", "00000/000000", "0/0/0/0/0/00", "00/0/0/0/0/0",
		" ", " 1", "1 ", "1 0", "1/ 0", "1 /0", "1 / 0", " 10/01", "10/01 ", "10 01", "10\n01", "1\n", "\n", "10/01\n", "\n10/01", "10/0\n1", "1\t", "\r1", "10\r/01\r", "1\x00", "\x00", "1/\x00", "\x001",
		"2", "12", "1/2", "20/01", "10/02", "10/0a", "a", "x", "1x", "-1", "+1", "1-", "1,0", "1,0/0,1", "1.0", "10;01", "10|01", "10\\01", "10:01", "2:10/01", "2x2:10/01", "1:1", "[1]", "\"1\"", "10/0.", "O1/10", "l0/0l", "10/01.", "10-01", "1０", "１", "１０/01", "10／01", "١٠", "é", "1é", "é1", "\xff", "1\xff", "10/\xff1", "\xff\xff", "nil", "true", "世/界",
		"1111111", "0000000", "0000000/0000000", "0/0/0/0/0/0/0", "1/1/1/1/1/1/1", "111111/111111/111111/111111/111111/111111/111111", "1111111/1111111/1111111/1111111/1111111/1111111", "1111111/1111111/1111111/1111111/1111111/1111111/1111111", "111111/111111/111111/111111/111111/111111/", "/111111/111111/111111/111111/111111/111111", "111111/111111/111111/111111/111111/1111111", "1111111/111111/111111/111111/111111/111111",
		strings.Repeat("1", 64), strings.Repeat("0", 1000), strings.Repeat("1/", 1000), strings.Repeat("/", 1000), strings.Repeat("10/", 5000) + "10", strings.Repeat("0", 5000) + "/" + strings.Repeat("0", 5000), strings.Repeat("0", 41), strings.Repeat("/", 5), strings.Repeat("/", 41),
	}
}

// badCells are lists that are no empty cells of a table, strictly increasing.
func badCells(t impl.Table) [][]int {
	all := t.Rows * t.Columns
	lists := [][]int{{-1}, {all}, {all + 1}, {36}, {64}, {math.MaxInt}, {math.MinInt}, {1 << 32}, {math.MinInt, math.MaxInt}, make([]int, 40), steps(40, 1), {-2, -1}}
	empty := slowEmpty(t)
	for cell := range all {
		if !slices.Contains(empty, cell) {
			lists = append(lists, []int{cell})
		}
	}
	for i, cell := range empty {
		lists = append(lists, []int{cell, cell}, []int{cell, all}, []int{-1, cell}, slices.Insert(slices.Clone(empty), i, cell))
		if i > 0 {
			lists = append(lists, []int{cell, empty[i-1]}, []int{cell, empty[0]})
		}
	}
	if len(empty) > 1 {
		backwards := slices.Clone(empty)
		slices.Reverse(backwards)
		lists = append(lists, backwards, append(slices.Clone(empty), empty[0]))
	}
	if len(empty) < all {
		lists = append(lists, steps(all, 1))
	}
	return append(lists, append(slices.Clone(empty), all), append([]int{-1}, empty...))
}
