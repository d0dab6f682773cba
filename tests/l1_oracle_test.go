package tests

import (
	"slices"
	"strconv"
	"testing"

	"loop.example/g01106/impl"
)

// The functions of chapter 1 are compared with slow answers that follow the document word by word.

// someRelations returns all relations with at most 3 elements, and some of each other size.
func someRelations() []impl.Order {
	n := numbers(3)
	var all []impl.Order
	for size := range 4 {
		all = append(all, allRelations(size)...)
	}
	for size := 4; size <= impl.MaxSize; size++ {
		for share := range 10 {
			for range 3 {
				all = append(all, n.relation(size, share))
			}
		}
	}
	return append(all, someOrders(impl.MaxSize)...)
}

func TestRelationsWordByWord(t *testing.T) {
	n := numbers(5)
	for _, o := range someRelations() {
		g := gridFrom(o)
		if p, ok := impl.CloseRelation(o); !ok || !sameOrder(p, fromGrid(paths(g))) {
			t.Fatal("closed", o, p, ok)
		}
		if impl.IsOrder(o) != isOrderGrid(g) {
			t.Fatal("order", o)
		}
		turned := rel(o.Size)
		for i := range g {
			below, apart := 0, 0
			for j := range g {
				if g[j][i] {
					below |= 1 << j
					turned.Above[i] |= 1 << j
				}
				if j != i && !g[i][j] && !g[j][i] {
					apart |= 1 << j
				}
				if better, ok := impl.IsBetter(o, i, j); better != g[i][j] || !ok {
					t.Fatal("better", o, i, j)
				}
			}
			if got, ok := impl.BelowOf(o, i); got != below || !ok {
				t.Fatal("below", o, i, got)
			}
			if got, ok := impl.IndifferentTo(o, i); got != apart || !ok {
				t.Fatal("indifferent", o, i, got)
			}
		}
		if p, ok := impl.MirrorOf(o); !ok || !sameOrder(p, turned) {
			t.Fatal("mirror", o, p)
		}
		comparePartAndNames(t, o, &n)
		compareTexts(t, o)
	}
}

func comparePartAndNames(t *testing.T, o impl.Order, n *numbers) {
	g := gridFrom(o)
	var list []int
	for i := range o.Size {
		if n.below(2) == 0 {
			list = append(list, i)
		}
	}
	part := rel(len(list))
	for a, i := range list {
		for b, j := range list {
			if g[i][j] {
				part.Above[a] |= 1 << b
			}
		}
	}
	if p, ok := impl.PartOf(o, list); !ok || !sameOrder(p, part) {
		t.Fatal("part", o, list, p)
	}
	names := n.shuffled(o.Size)
	named := rel(o.Size)
	for i := range g {
		for j := range g {
			if g[i][j] {
				named.Above[names[i]] |= 1 << names[j]
			}
		}
	}
	if p, ok := impl.RenameOf(o, names); !ok || !sameOrder(p, named) {
		t.Fatal("renamed", o, names, p)
	}
}

// slowOrderText returns the text of a relation, row by row.
func slowOrderText(o impl.Order) string {
	text := strconv.Itoa(o.Size) + ":"
	for i, row := range gridFrom(o) {
		if i > 0 {
			text += "/"
		}
		for _, better := range row {
			text += map[bool]string{false: "0", true: "1"}[better]
		}
	}
	return text
}

func compareTexts(t *testing.T, o impl.Order) {
	text := slowOrderText(o)
	if got, ok := impl.OrderText(o); got != text || !ok {
		t.Fatal("text", o, got)
	}
	if got, ok := impl.ParseOrder(text); !ok || !sameOrder(got, o) {
		t.Fatal("parsed", text, got)
	}
}

// TestTextsChanged changes each byte of some texts: what is parsed has just this text.
func TestTextsChanged(t *testing.T) {
	for _, o := range []impl.Order{{}, rel(1), chainOf(2), rel(3), chainOf(10)} {
		text, _ := impl.OrderText(o)
		for at := range len(text) + 1 {
			for letter := range 256 {
				changes := []string{text[:at] + string([]byte{byte(letter)}) + text[at:]}
				if at < len(text) {
					changes = append(changes, text[:at]+string([]byte{byte(letter)})+text[at+1:], text[:at]+text[at+1:])
				}
				for _, s := range changes {
					p, ok := impl.ParseOrder(s)
					back, _ := impl.OrderText(p)
					if ok && back != s || !ok && !isZero(p) {
						t.Fatalf("parsed %q as %v", s, p)
					}
				}
			}
		}
	}
}

func TestPatternsWordByWord(t *testing.T) {
	var pairs [][2]impl.Order
	for size := range 3 {
		for _, p := range allRelations(size) {
			for greater := range 4 {
				for _, o := range allRelations(greater) {
					pairs = append(pairs, [2]impl.Order{o, p})
				}
			}
		}
	}
	n := numbers(11)
	for k := range 600 {
		size := 3 + k%3
		pairs = append(pairs, [2]impl.Order{n.relation(4+k%3, 1+k%8), n.relation(3, 1+k%8)}, [2]impl.Order{n.order(size+1, k%7), n.order(size, k%7)})
		o := n.order(size, k%7)
		p, _ := impl.RenameOf(o, n.shuffled(size))
		pairs = append(pairs, [2]impl.Order{o, p})
	}
	for _, c := range pairs {
		want, found := firstPattern(gridFrom(c[0]), gridFrom(c[1]))
		if got, ok := impl.FindPattern(c[0], c[1]); ok != found || !slices.Equal(got, want) {
			t.Fatal("pattern", c, got, want)
		}
		if same, ok := impl.IsSameKind(c[0], c[1]); !ok || same != (found && c[0].Size == c[1].Size) {
			t.Fatal("kind", c, same)
		}
	}
}

func firstPattern(o, p [][]bool) ([]int, bool) {
	for _, list := range listsOf(len(p), len(o)) {
		fits := true
		for a, i := range list {
			for b, j := range list {
				if (i == j) != (a == b) || o[i][j] != p[a][b] {
					fits = false
				}
			}
		}
		if fits {
			return list, true
		}
	}
	return nil, false
}

func TestOrdersWordByWord(t *testing.T) {
	orders := append(smallOrders(), someOrders(6)...)
	for _, o := range orders {
		g := gridFrom(o)
		covers := rel(o.Size)
		for i := range g {
			for j := range g {
				between := false
				for k := range g {
					between = between || g[i][k] && g[k][j]
				}
				if g[i][j] && !between {
					covers.Above[i] |= 1 << j
				}
			}
		}
		if p, ok := impl.CoversOf(o); !ok || !sameOrder(p, covers) {
			t.Fatal("covers", o, p)
		}
		compareExtensions(t, o)
		compareNumbers(t, o)
	}
	for _, o := range append(orders, someOrders(impl.MaxSize)...) {
		compareLists(t, o)
	}
}

func compareExtensions(t *testing.T, o impl.Order) {
	g := gridFrom(o)
	count := 0
	var first []int
	for _, list := range listsOf(o.Size, o.Size) {
		right := true
		for a := range list {
			for b := a + 1; b < len(list); b++ {
				right = right && list[a] != list[b] && !g[list[b]][list[a]]
			}
		}
		if right && count == 0 {
			first = list
		}
		if right {
			count++
		}
		if o.Size <= 4 {
			if got, ok := impl.IsExtension(o, list); got != right || !ok {
				t.Fatal("extension", o, list, got)
			}
		}
	}
	if got, ok := impl.CountExtensions(o); got != count || !ok {
		t.Fatal("count", o, got, count)
	}
	if got, ok := impl.FirstExtension(o); !slices.Equal(got, first) || !ok {
		t.Fatal("first", o, got, first)
	}
}

// compareLists compares the longest chain and the largest antichain with all sets of elements.
func compareLists(t *testing.T, o impl.Order) {
	g := gridFrom(o)
	var chain, antichain []int
	for set := range 1 << o.Size {
		var list []int
		for i := range o.Size {
			if set>>i&1 == 1 {
				list = append(list, i)
			}
		}
		related, apart := true, true
		for a, i := range list {
			for _, j := range list[:a] {
				related = related && (g[i][j] || g[j][i])
				apart = apart && !g[i][j] && !g[j][i]
			}
		}
		if apart && isFirstOfLongest(list, antichain) {
			antichain = list
		}
		sorted := slices.SortedFunc(slices.Values(list), func(i, j int) int {
			if g[i][j] {
				return -1
			}
			return 1
		})
		if related && isFirstOfLongest(sorted, chain) {
			chain = sorted
		}
	}
	if got, ok := impl.LongestChain(o); !slices.Equal(got, chain) || !ok {
		t.Fatal("chain", o, got, chain)
	}
	if got, ok := impl.LargestAntichain(o); !slices.Equal(got, antichain) || !ok {
		t.Fatal("antichain", o, got, antichain)
	}
}

func isFirstOfLongest(list, best []int) bool {
	return len(list) > len(best) || len(list) == len(best) && slices.Compare(list, best) < 0
}

func compareNumbers(t *testing.T, o impl.Order) {
	g := gridFrom(o)
	antichain, _ := impl.LargestAntichain(o)
	for _, list := range listsOf(o.Size, len(antichain)) {
		right := true
		for i := range list {
			for j := range i {
				right = right && (list[i] != list[j] || g[i][j] || g[j][i])
			}
		}
		if right {
			if got, ok := impl.ChainNumbers(o); !slices.Equal(got, list) || !ok {
				t.Fatal("numbers", o, got, list)
			}
			return
		}
	}
	t.Fatal("no numbers", o)
}

// TestOrdersFitTogether is promise 1 for orders of all sizes.
func TestOrdersFitTogether(t *testing.T) {
	n := numbers(13)
	for _, o := range append(smallOrders(), someOrders(impl.MaxSize)...) {
		covers, _ := impl.CoversOf(o)
		if closed, ok := impl.CloseRelation(covers); !ok || !sameOrder(closed, o) {
			t.Fatal("closed covers", o, closed)
		}
		if closed, ok := impl.CloseRelation(o); !ok || !sameOrder(closed, o) {
			t.Fatal("closed order", o, closed)
		}
		count, _ := impl.CountExtensions(o)
		first, _ := impl.FirstExtension(o)
		if is, ok := impl.IsExtension(o, first); !is || !ok || count < 1 {
			t.Fatal("first extension", o, first, count)
		}
		mirror, _ := impl.MirrorOf(o)
		if back, ok := impl.MirrorOf(mirror); !ok || !sameOrder(back, o) {
			t.Fatal("mirror", o, mirror)
		}
		slices.Reverse(first)
		if is, ok := impl.IsExtension(mirror, first); !is || !ok {
			t.Fatal("mirrored extension", o, first)
		}
		named, _ := impl.RenameOf(o, n.shuffled(o.Size))
		for _, p := range []impl.Order{mirror, named} {
			if other, ok := impl.CountExtensions(p); other != count || !ok {
				t.Fatal("count", o, p, count, other)
			}
		}
		fitChains(t, o, named)
	}
}

func fitChains(t *testing.T, o, named impl.Order) {
	chain, _ := impl.LongestChain(o)
	antichain, _ := impl.LargestAntichain(o)
	chain2, _ := impl.LongestChain(named)
	antichain2, _ := impl.LargestAntichain(named)
	if len(chain) != len(chain2) || len(antichain) != len(antichain2) || len(chain)*len(antichain) < o.Size {
		t.Fatal("lengths", o, chain, chain2, antichain, antichain2)
	}
	number, ok := impl.ChainNumbers(o)
	if !ok || len(number) != o.Size {
		t.Fatal("numbers", o, number)
	}
	for i, x := range number {
		apart, _ := impl.IndifferentTo(o, i)
		for j, y := range number {
			if x == y && apart>>j&1 == 1 || x < 0 || x >= len(antichain) {
				t.Fatal("numbers", o, number)
			}
		}
	}
}

func TestStackedAndBesideFitTogether(t *testing.T) {
	n := numbers(17)
	for k := range 300 {
		o, p := n.order(k%6, k%7), n.order(n.below(6), k%8)
		stacked, ok1 := impl.StackOrders(o, p)
		beside, ok2 := impl.BesideOrders(o, p)
		if !ok1 || !ok2 || !impl.IsOrder(stacked) || !impl.IsOrder(beside) {
			t.Fatal("two orders", o, p, stacked, beside)
		}
		for i := range o.Size + p.Size {
			for j := range o.Size + p.Size {
				want := i < o.Size && j < o.Size && o.Above[i]>>j&1 == 1 || i >= o.Size && j >= o.Size && p.Above[i-o.Size]>>(j-o.Size)&1 == 1
				if better, _ := impl.IsBetter(beside, i, j); better != want {
					t.Fatal("beside", o, p, i, j)
				}
				if better, _ := impl.IsBetter(stacked, i, j); better != (want || i < o.Size && j >= o.Size) {
					t.Fatal("stacked", o, p, i, j)
				}
			}
		}
		a, _ := impl.CountExtensions(o)
		b, _ := impl.CountExtensions(p)
		both, _ := impl.CountExtensions(stacked)
		mixed, _ := impl.CountExtensions(beside)
		ways := 1 // of choosing the places of o among those of both
		for i := range o.Size {
			ways = ways * (p.Size + 1 + i) / (i + 1)
		}
		if both != a*b || mixed != a*b*ways {
			t.Fatal("counts", o, p, a, b, both, mixed)
		}
	}
}
