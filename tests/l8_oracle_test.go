package tests

import (
	"slices"
	"testing"

	"loop.example/g01106/impl"
)

// TestTablesWordByWord is promise 8 for tables: what the functions tell of them is what slow answers are.
func TestTablesWordByWord(t *testing.T) {
	kinds := [2]int{}
	for _, x := range someTables() {
		text := tableText(marks(x))
		if !impl.IsTable(x) {
			t.Fatal("a table", text)
		}
		four := slowFour(x)
		if got, ok := impl.FourCells(x); ok != (four != nil) || !slices.Equal(got, four) {
			t.Fatal("four cells", text, got, ok)
		}
		good := isSlowBiorder(x)
		if good != (four == nil) {
			t.Fatal("refused", text, four)
		}
		kinds[len(four)/4]++
		if got, ok := impl.IsBiorder(x); !ok || got != good {
			t.Fatal("is a biorder", text, got, ok)
		}
		if got, ok := impl.EmptyCells(x); !ok || !slices.Equal(got, slowEmpty(x)) {
			t.Fatal("empty cells", text, got, ok)
		}
		if got, ok := impl.TableText(x); !ok || got != text {
			t.Fatal("text", text, got, ok)
		}
		if got, ok := impl.ParseTable(text); !ok || !sameTable(got, x) {
			t.Fatal("parsed", text, got, ok)
		}
		compareScales(t, x, good)
		compareChanged(t, x)
	}
	if slices.Min(kinds[:]) < 300 {
		t.Error("too few of a kind", kinds)
	}
}

func compareScales(t *testing.T, x impl.Table, good bool) {
	text := tableText(marks(x))
	rows, columns, ok := impl.ScalesOf(x)
	if ok != good || !good && len(rows)+len(columns) > 0 {
		t.Fatal("scales", text, rows, columns, ok)
	}
	if !good {
		return
	}
	wantRows, wantColumns := slowScales(x)
	if !slices.Equal(rows, wantRows) || !slices.Equal(columns, wantColumns) {
		t.Fatal("scales", text, rows, columns)
	}
	if back, ok := impl.TableOfScales(rows, columns); !ok || !sameTable(back, x) {
		t.Fatal("table of scales", text, back, ok)
	}
}

func compareChanged(t *testing.T, x impl.Table) {
	text := tableText(marks(x))
	mirror, ok := impl.MirrorTable(x)
	if !ok || !sameTable(mirror, slowMirrored(x)) {
		t.Fatal("mirror", text, mirror, ok)
	}
	if back, ok := impl.MirrorTable(mirror); !ok || !sameTable(back, x) {
		t.Fatal("mirrored twice", text, back, ok)
	}
	opposite, ok := impl.OppositeTable(x)
	if !ok || !sameTable(opposite, slowOpposite(x)) {
		t.Fatal("opposite", text, opposite, ok)
	}
	if back, ok := impl.OppositeTable(opposite); !ok || !sameTable(back, x) {
		t.Fatal("opposite twice", text, back, ok)
	}
	if got, ok := impl.MeetTables(x, x); !ok || !sameTable(got, x) {
		t.Fatal("meet with itself", text, got, ok)
	}
	nothing := impl.Table{Rows: x.Rows, Columns: x.Columns, Marks: make([]int, x.Rows)}
	if got, ok := impl.MeetTables(x, opposite); !ok || !sameTable(got, nothing) {
		t.Fatal("meet with its opposite", text, got, ok)
	}
	if got, ok := impl.MeetTables(x, mirror); ok != (x.Rows == x.Columns) || ok && !sameTable(got, slowMeet(x, mirror)) {
		t.Fatal("meet with its mirror", text, got, ok)
	}
	is, _ := impl.IsBiorder(x)
	for _, other := range []impl.Table{mirror, opposite} {
		if got, ok := impl.IsBiorder(other); !ok || got != is {
			t.Fatal("a biorder, changed", text, got, ok)
		}
	}
}

// TestPairsOfTables has tables of all shapes meet.
func TestPairsOfTables(t *testing.T) {
	n := numbers(11)
	tables := someTables()
	met := 0
	for range 40000 {
		x, y := tables[n.below(len(tables))], tables[n.below(len(tables))]
		good := x.Rows == y.Rows && x.Columns == y.Columns
		got, ok := impl.MeetTables(x, y)
		if ok != good || good && !sameTable(got, slowMeet(x, y)) || !good && !sameTable(got, impl.Table{}) {
			t.Fatal("meet", x, y, got, ok)
		}
		if good {
			met++
		}
	}
	if met < 1000 {
		t.Error("too few meets", met)
	}
}

// TestScalesWordByWord makes tables of numbers that are no scales of them.
func TestScalesWordByWord(t *testing.T) {
	n := numbers(12)
	for _, shape := range shapes() {
		for _, limit := range []int{1, 2, 4, 10, 100} {
			for range 6 {
				rows, columns := make([]int, shape[0]), make([]int, shape[1])
				for _, list := range [][]int{rows, columns} {
					for i := range list {
						list[i] = n.below(limit)
					}
				}
				got, ok := impl.TableOfScales(rows, columns)
				if !ok || got.Rows != shape[0] || got.Columns != shape[1] || !impl.IsTable(got) || !isSlowBiorder(got) {
					t.Fatal("table of scales", rows, columns, got, ok)
				}
				g := marks(got)
				for r, row := range rows {
					for c, column := range columns {
						if g[r][c] != (row >= column) {
							t.Fatal("table of scales", rows, columns, got)
						}
					}
				}
			}
		}
	}
}

// TestElementsAsTables has all lists of elements of small orders, and some of greater ones, as rows and columns.
func TestElementsAsTables(t *testing.T) {
	n := numbers(13)
	for _, o := range append(smallOrders(), someOrders(impl.MaxSize)...) {
		for range 30 {
			rows, columns := n.part(o.Size), n.part(o.Size)
			good := len(rows) >= 1 && len(rows) <= 6 && len(columns) >= 1 && len(columns) <= 6
			got, ok := impl.TableOfOrder(o, rows, columns)
			if ok != good || good && !sameTable(got, slowPart(o, rows, columns)) || !good && !sameTable(got, impl.Table{}) {
				t.Fatal("table of an order", o, rows, columns, got, ok)
			}
		}
		// With all elements as rows and columns, the table of an order is a biorder exactly for interval orders.
		all := steps(o.Size, 1)
		x, ok := impl.TableOfOrder(o, all, all)
		if ok != (o.Size >= 1 && o.Size <= 6) {
			t.Fatal("table of all elements", o, x, ok)
		}
		if is, _ := impl.IsBiorder(x); ok && is != (firstFour(o) == nil) {
			t.Fatal("biorder of all elements", o, x, is)
		}
	}
}

// part returns some of so many elements, in order.
func (n *numbers) part(size int) []int {
	var list []int
	share := n.below(11)
	for i := range size {
		if n.below(10) < share {
			list = append(list, i)
		}
	}
	return list
}

// TestFreeCellsWordByWord goes through the orders of the rows.
func TestFreeCellsWordByWord(t *testing.T) {
	n := numbers(14)
	orders := rowOrders()
	kinds := [2]int{}
	for _, x := range someTables() {
		empty := slowEmpty(x)
		lists := [][]int{nil, empty}
		for _, cell := range empty {
			lists = append(lists, []int{cell})
		}
		for range 6 {
			var some []int
			for _, i := range n.part(len(empty)) {
				some = append(some, empty[i])
			}
			lists = append(lists, some)
		}
		for _, cells := range lists {
			want := slowFreeOrder(x, cells, orders[x.Rows])
			got, ok := impl.FreeOrder(x, cells)
			if ok != (want != nil) || !slices.Equal(got, want) || ok != isSlowFree(x, cells) {
				t.Fatal("free order", tableText(marks(x)), cells, got, ok)
			}
			kinds[min(1, len(want))]++
			compareCover(t, x, cells, want)
		}
	}
	if slices.Min(kinds[:]) < 500 {
		t.Error("too few of a kind", kinds)
	}
}

func compareCover(t *testing.T, x impl.Table, cells, order []int) {
	text := tableText(marks(x))
	got, ok := impl.CoverOf(x, cells)
	if ok != (order != nil) || !ok && !sameTable(got, impl.Table{}) {
		t.Fatal("cover", text, cells, got, ok)
	}
	if !ok {
		return
	}
	if !sameTable(got, slowCover(x, order)) {
		t.Fatal("cover", text, cells, got)
	}
	if !isSlowBiorder(got) || !sameTable(slowMeet(got, x), x) {
		t.Fatal("cover of marks", text, cells, got)
	}
	for _, cell := range cells {
		if !slices.Contains(slowEmpty(got), cell) {
			t.Fatal("cover of cells", text, cells, got)
		}
	}
}

// TestPartsWordByWord goes through all lists of numbers for the empty cells.
func TestPartsWordByWord(t *testing.T) {
	orders := rowOrders()
	kinds := [5]int{}
	for _, x := range splitTables() {
		text := tableText(marks(x))
		cells := slowEmpty(x)
		if len(cells) > 9 {
			checkNoParts(t, x)
			continue
		}
		all := splittingOf(x)
		least := 0
		var split []int
		for parts := 1; parts <= 4; parts++ {
			want, found := all.first(parts)
			if got, ok := impl.SplitCells(x, parts); ok != found || !slices.Equal(got, want) {
				t.Fatal("split", text, parts, got, ok)
			}
			if found && least == 0 {
				least, split = parts, want
			}
		}
		kinds[least]++
		if least == 0 {
			if got, ok := impl.LeastParts(x); got != 0 || ok {
				t.Fatal("least parts", text, got, ok)
			}
			if got, ok := impl.MeetOfBiorders(x); len(got) > 0 || ok {
				t.Fatal("biorders", text, got, ok)
			}
			continue
		}
		if got, ok := impl.LeastParts(x); got != least || !ok {
			t.Fatal("least parts", text, got, ok)
		}
		compareBiorders(t, x, split, least, orders[x.Rows])
	}
	if slices.Min(kinds[:]) < 5 {
		t.Error("too few of a kind", kinds)
	}
}

// checkNoParts has a table with too many empty cells.
func checkNoParts(t *testing.T, x impl.Table) {
	t.Helper()
	for parts := 1; parts <= 4; parts++ {
		if got, ok := impl.SplitCells(x, parts); len(got) > 0 || ok {
			t.Error("too many cells to split", x, parts, got)
		}
	}
	if got, ok := impl.LeastParts(x); got != 0 || ok {
		t.Error("too many cells for parts", x, got)
	}
	if got, ok := impl.MeetOfBiorders(x); len(got) > 0 || ok {
		t.Error("too many cells for biorders", x, got)
	}
}

func compareBiorders(t *testing.T, x impl.Table, split []int, least int, orders [][]int) {
	text := tableText(marks(x))
	got, ok := impl.MeetOfBiorders(x)
	if len(got) != least || !ok {
		t.Fatal("biorders", text, got, ok)
	}
	meet := got[0]
	for number, biorder := range got {
		var cells []int
		for i, cell := range slowEmpty(x) {
			if split[i] == number {
				cells = append(cells, cell)
			}
		}
		if !sameTable(biorder, slowCover(x, slowFreeOrder(x, cells, orders))) {
			t.Fatal("biorder", text, number, biorder)
		}
		meet = slowMeet(meet, biorder)
	}
	if !sameTable(meet, x) {
		t.Fatal("meet of biorders", text, meet)
	}
}

// TestLeastParts has all tables of some shapes meet, to find of how many biorders each one is the meet at the least.
func TestLeastParts(t *testing.T) {
	for _, shape := range [][2]int{{1, 1}, {1, 5}, {5, 1}, {2, 2}, {2, 3}, {3, 2}, {2, 4}, {4, 2}, {3, 3}, {3, 4}, {4, 3}, {5, 2}, {2, 5}} {
		for cells, want := range leastMeets(shape[0], shape[1]) {
			x := tableOfCells(shape[0], shape[1], cells)
			if len(slowEmpty(x)) > 9 {
				want = 0
			}
			if got, ok := impl.LeastParts(x); got != want || ok != (want > 0) {
				t.Fatal("least parts", tableText(marks(x)), got, ok)
			}
		}
	}
}

func TestBiordersCounted(t *testing.T) {
	for _, shape := range shapes() {
		rows, columns := shape[0], shape[1]
		got, ok := impl.CountBiorders(rows, columns)
		if !ok || got != biorderCounts()[rows-1][columns-1] || got != slowBiorders(rows, columns) {
			t.Error("count", rows, columns, got, ok)
		}
		if rows*columns > 12 {
			continue
		}
		all := 0
		for _, x := range allTables(rows, columns) {
			if is, _ := impl.IsBiorder(x); is {
				all++
			}
		}
		if got != all {
			t.Error("count of tables", rows, columns, got, all)
		}
	}
}

// TestAllTableTexts asks for all short texts of a few characters whether they are those of tables.
func TestAllTableTexts(t *testing.T) {
	known := map[string]impl.Table{}
	for _, x := range smallTables() {
		known[tableText(marks(x))] = x
	}
	for length := range 8 {
		for _, list := range listsOf(length, 4-length/7) {
			text := ""
			for _, k := range list {
				text += "10/2"[k : k+1]
			}
			want, good := known[text]
			if got, ok := impl.ParseTable(text); ok != good || !sameTable(got, want) {
				t.Fatal("parsed", text, got, ok)
			}
		}
	}
}
