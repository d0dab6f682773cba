package tests

import (
	"slices"

	"loop.example/g01106/impl"
)

// slowFour goes through all lists of four cells, in order.
func slowFour(t impl.Table) []int {
	g := marks(t)
	for r := range g {
		for c := range g[r] {
			for s := range g {
				for d := range g[r] {
					if g[r][c] && !g[r][d] && g[s][d] && !g[s][c] {
						return []int{r, c, s, d}
					}
				}
			}
		}
	}
	return nil
}

// isSlowBiorder reports whether of two rows, one always has all marks of the other one.
func isSlowBiorder(t impl.Table) bool {
	for _, x := range t.Marks {
		for _, y := range t.Marks {
			if x|y != x && x|y != y {
				return false
			}
		}
	}
	return true
}

// slowScales counts for each row the numbers of marks, less than its own, that rows of a biorder have.
func slowScales(t impl.Table) ([]int, []int) {
	g := marks(t)
	counts := make([]int, t.Rows)
	for r, row := range g {
		for _, marked := range row {
			if marked {
				counts[r]++
			}
		}
	}
	different := slices.Compact(slices.Sorted(slices.Values(counts)))
	rows, columns := make([]int, t.Rows), make([]int, t.Columns)
	for r, count := range counts {
		rows[r] = slices.Index(different, count)
	}
	for c := range columns {
		columns[c] = len(different)
		for r := range g {
			if g[r][c] && rows[r] < columns[c] {
				columns[c] = rows[r]
			}
		}
	}
	return rows, columns
}

// slowMirrored, slowOpposite and slowMeet change what marks are shown.
func slowMirrored(t impl.Table) impl.Table {
	g := marks(t)
	var columns [][]bool
	for c := range t.Columns {
		var column []bool
		for r := range t.Rows {
			column = append(column, g[r][c])
		}
		columns = append(columns, column)
	}
	return tab(tableText(columns))
}

func slowOpposite(t impl.Table) impl.Table {
	g := marks(t)
	for r, row := range g {
		for c, marked := range row {
			g[r][c] = !marked
		}
	}
	return tab(tableText(g))
}

func slowMeet(t, u impl.Table) impl.Table {
	g, h := marks(t), marks(u)
	for r, row := range g {
		for c, marked := range row {
			g[r][c] = marked && h[r][c]
		}
	}
	return tab(tableText(g))
}

// slowPart returns the table of elements of an order.
func slowPart(o impl.Order, rows, columns []int) impl.Table {
	better := gridFrom(o)
	var g [][]bool
	for _, i := range rows {
		var row []bool
		for _, j := range columns {
			row = append(row, better[i][j])
		}
		g = append(g, row)
	}
	return tab(tableText(g))
}

func slowEmpty(t impl.Table) []int {
	var cells []int
	cell := 0
	for _, row := range marks(t) {
		for _, marked := range row {
			if !marked {
				cells = append(cells, cell)
			}
			cell++
		}
	}
	return cells
}

// doesShow reports whether in an order of the rows, the row of each cell stands before all rows that are marked in its column.
func doesShow(t impl.Table, cells, order []int) bool {
	g := marks(t)
	for _, cell := range cells {
		r, c := cell/t.Columns, cell%t.Columns
		for s := range g {
			if g[s][c] && slices.Index(order, r) >= slices.Index(order, s) {
				return false
			}
		}
	}
	return true
}

// rowOrders returns for each number of rows all orders of them.
func rowOrders() [7][][]int {
	var orders [7][][]int
	for rows := 1; rows <= 6; rows++ {
		orders[rows] = allNames(rows)
	}
	return orders
}

// slowFreeOrder goes through orders of the rows, in lexicographic order.
func slowFreeOrder(t impl.Table, cells []int, orders [][]int) []int {
	for _, order := range orders {
		if doesShow(t, cells, order) {
			return order
		}
	}
	return nil
}

// isSlowFree strikes out rows that may stand last, until there is none.
func isSlowFree(t impl.Table, cells []int) bool {
	g := marks(t)
	left := steps(t.Rows, 1)
	isLast := func(r int) bool {
		for _, cell := range cells {
			if cell/t.Columns != r {
				continue
			}
			for _, s := range left {
				if g[s][cell%t.Columns] {
					return false
				}
			}
		}
		return true
	}
	for len(left) > 0 {
		at := slices.IndexFunc(left, isLast)
		if at < 0 {
			return false
		}
		left = slices.Delete(left, at, at+1)
	}
	return true
}

// slowCover gives each row the marks of the rows up to it in an order.
func slowCover(t impl.Table, order []int) impl.Table {
	g, cover := marks(t), marks(t)
	for at, r := range order {
		for _, s := range order[:at] {
			for c, marked := range g[s] {
				if marked {
					cover[r][c] = true
				}
			}
		}
	}
	return tab(tableText(cover))
}

// splitting goes through all lists of numbers for the empty cells of a table.
type splitting struct {
	free  []bool // for each set of indices of empty cells
	cells int
}

func splittingOf(t impl.Table) splitting {
	empty := slowEmpty(t)
	s := splitting{cells: len(empty)}
	for set := range 1 << len(empty) {
		var cells []int
		for i, cell := range empty {
			if set>>i&1 == 1 {
				cells = append(cells, cell)
			}
		}
		s.free = append(s.free, isSlowFree(t, cells))
	}
	return s
}

// first returns the first list of numbers less than parts in which the cells with each number are free.
func (s splitting) first(parts int) ([]int, bool) {
	list := make([]int, s.cells)
	for {
		sets := make([]int, parts)
		for i, number := range list {
			sets[number] |= 1 << i
		}
		if !slices.ContainsFunc(sets, func(set int) bool { return !s.free[set] }) {
			return list, true
		}
		at := s.cells - 1
		for at >= 0 && list[at] == parts-1 {
			list[at] = 0
			at--
		}
		if at < 0 {
			return nil, false
		}
		list[at]++
	}
}

// leastMeets returns for each table with so many rows and columns, told by the bits of its cells, of how many biorders it is the meet, at the least.
func leastMeets(rows, columns int) []int {
	var biorders []int
	least := make([]int, 1<<(rows*columns))
	for cells := range least {
		if isSlowBiorder(tableOfCells(rows, columns, cells)) {
			biorders = append(biorders, cells)
			least[cells] = 1
		}
	}
	last := biorders
	for parts := 2; len(last) > 0; parts++ {
		var next []int
		for _, cells := range last {
			for _, others := range biorders {
				if meet := cells & others; least[meet] == 0 {
					least[meet] = parts
					next = append(next, meet)
				}
			}
		}
		last = next
	}
	return least
}

func tableOfCells(rows, columns, cells int) impl.Table {
	t := impl.Table{Rows: rows, Columns: columns}
	for range rows {
		t.Marks = append(t.Marks, cells%(1<<columns))
		cells >>= columns
	}
	return t
}

// slowBiorders counts biorders row by row: rows that come later have to be in a chain with all that are there.
func slowBiorders(rows, columns int) int {
	known := map[string]int{}
	var count func(chain []int, left int) int
	count = func(chain []int, left int) int {
		if left == 0 {
			return 1
		}
		key := string(rune('0' + left))
		for _, set := range chain {
			key += string(rune('0' + set))
		}
		if all, met := known[key]; met {
			return all
		}
		all := 0
		for set := range 1 << columns {
			if slices.ContainsFunc(chain, func(other int) bool { return set|other != set && set|other != other }) {
				continue
			}
			longer := slices.Compact(slices.Sorted(slices.Values(append(slices.Clone(chain), set))))
			all += count(longer, left-1)
		}
		known[key] = all
		return all
	}
	return count(nil, rows)
}

// biorderCounts are the numbers of biorders with 1, 2, .. rows and, in each list, 1, 2, .. columns.
func biorderCounts() [][]int {
	return [][]int{
		{2, 4, 8, 16, 32, 64},
		{4, 14, 46, 146, 454, 1394},
		{8, 46, 230, 1066, 4718, 20266},
		{16, 146, 1066, 6902, 41506, 237686},
		{32, 454, 4718, 41506, 329462, 2441314},
		{64, 1394, 20266, 237686, 2441314, 22934774},
	}
}
