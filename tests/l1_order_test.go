package tests

import (
	"math"
	"slices"
	"strings"
	"testing"

	"loop.example/g01106/impl"
)

func TestIsRelation(t *testing.T) {
	for _, o := range badRelations() {
		if impl.IsRelation(o) || impl.IsOrder(o) {
			t.Error("no relation", o)
		}
	}
	for _, o := range append(badOrders(), impl.Order{}, impl.Order{Above: []int{}}, rel(1), chainOf(10), rel(10)) {
		if !impl.IsRelation(o) {
			t.Error("relation", o)
		}
	}
	full := rel(10)
	for i := range full.Above {
		full.Above[i] = 1023
	}
	if !impl.IsRelation(full) {
		t.Error("relation", full)
	}
}

func TestIsOrder(t *testing.T) {
	for _, o := range badOrders() {
		if impl.IsOrder(o) {
			t.Error("no order", o)
		}
	}
	for _, o := range []impl.Order{{}, {Above: []int{}}, rel(1), rel(10), chainOf(10), gridOf(2, 5), fenceOf(10), crownOf(5), rel(2, [2]int{1, 0})} {
		if !impl.IsOrder(o) {
			t.Error("order", o)
		}
	}
	for size := range 5 {
		for _, o := range allRelations(size) {
			if impl.IsOrder(o) != isOrderGrid(gridFrom(o)) {
				t.Fatal("order", o)
			}
		}
	}
}

func TestIsBetterAndSetsOfElements(t *testing.T) {
	o := rel(4, [2]int{0, 1}, [2]int{0, 2}, [2]int{3, 3})
	for i := range 4 {
		for j := range 4 {
			want := i == 0 && (j == 1 || j == 2) || i == 3 && j == 3
			if got, ok := impl.IsBetter(o, i, j); got != want || !ok {
				t.Error("better", i, j, got, ok)
			}
		}
	}
	for i, want := range []int{0, 1, 1, 8} {
		if got, ok := impl.BelowOf(o, i); got != want || !ok {
			t.Error("below", i, got, ok)
		}
	}
	for i, want := range []int{8, 12, 10, 7} {
		if got, ok := impl.IndifferentTo(o, i); got != want || !ok {
			t.Error("indifferent", i, got, ok)
		}
	}
	if got, ok := impl.IndifferentTo(rel(10), 9); got != 511 || !ok {
		t.Error("indifferent", got, ok)
	}
	if got, ok := impl.BelowOf(chainOf(10), 9); got != 511 || !ok {
		t.Error("below", got, ok)
	}
}

func TestElementsThatAreNone(t *testing.T) {
	for _, o := range []impl.Order{{}, rel(1), rel(3, [2]int{0, 1}), chainOf(10)} {
		for _, i := range badElements(o.Size) {
			if i >= 0 && i < o.Size {
				continue
			}
			if got, ok := impl.IsBetter(o, i, 0); got || ok {
				t.Error("better", o, i)
			}
			if got, ok := impl.IsBetter(o, 0, i); got || ok {
				t.Error("better", o, i)
			}
			if got, ok := impl.BelowOf(o, i); got != 0 || ok {
				t.Error("below", o, i)
			}
			if got, ok := impl.IndifferentTo(o, i); got != 0 || ok {
				t.Error("indifferent", o, i)
			}
		}
	}
}

func TestMirrorOf(t *testing.T) {
	o := rel(3, [2]int{0, 1}, [2]int{0, 2}, [2]int{2, 2})
	if m, ok := impl.MirrorOf(o); !ok || !sameOrder(m, rel(3, [2]int{1, 0}, [2]int{2, 0}, [2]int{2, 2})) {
		t.Error("mirror", m, ok)
	}
	if m, ok := impl.MirrorOf(impl.Order{}); !ok || !sameOrder(m, impl.Order{}) {
		t.Error("mirror of nothing", m, ok)
	}
}

func TestPartOf(t *testing.T) {
	o := rel(5, [2]int{0, 2}, [2]int{2, 4}, [2]int{4, 0}, [2]int{1, 1}, [2]int{3, 4})
	good := []struct {
		list []int
		want impl.Order
	}{
		{nil, impl.Order{}}, {[]int{}, impl.Order{}}, {[]int{1}, rel(1, [2]int{0, 0})}, {[]int{0, 1, 2, 3, 4}, o},
		{[]int{0, 2, 4}, rel(3, [2]int{0, 1}, [2]int{1, 2}, [2]int{2, 0})}, {[]int{1, 3, 4}, rel(3, [2]int{0, 0}, [2]int{1, 2})},
	}
	for _, c := range good {
		if p, ok := impl.PartOf(o, c.list); !ok || !sameOrder(p, c.want) {
			t.Error("part", c.list, p, ok)
		}
	}
	for _, list := range [][]int{{1, 0}, {0, 0}, {5}, {-1}, {0, 5}, {-1, 0}, {3, 4, 5}, {0, 1, 1}, {0, 2, 1}, {0, 1, 2, 3, 4, 5}, {math.MinInt}, {math.MaxInt}, {0, 64}} {
		if p, ok := impl.PartOf(o, list); ok || !isZero(p) {
			t.Error("no part", list, p)
		}
	}
	if p, ok := impl.PartOf(impl.Order{}, nil); !ok || p.Size != 0 {
		t.Error("part of nothing", p, ok)
	}
	if _, ok := impl.PartOf(impl.Order{}, []int{0}); ok {
		t.Error("part of nothing")
	}
}

func TestRenameOf(t *testing.T) {
	o := rel(3, [2]int{0, 1}, [2]int{1, 1})
	good := []struct {
		names []int
		want  impl.Order
	}{
		{[]int{0, 1, 2}, o}, {[]int{1, 2, 0}, rel(3, [2]int{1, 2}, [2]int{2, 2})}, {[]int{2, 0, 1}, rel(3, [2]int{2, 0}, [2]int{0, 0})},
	}
	for _, c := range good {
		if p, ok := impl.RenameOf(o, c.names); !ok || !sameOrder(p, c.want) {
			t.Error("renamed", c.names, p, ok)
		}
	}
	for _, names := range [][]int{nil, {0, 1}, {0, 1, 2, 3}, {0, 0, 1}, {0, 1, 1}, {0, 1, 3}, {-1, 1, 2}, {0, 1, -1}, {0, 1, 64}, {1, 2, 3}, {0, 1, math.MaxInt}, {math.MinInt, 0, 1}} {
		if p, ok := impl.RenameOf(o, names); ok || !isZero(p) {
			t.Error("not renamed", names, p)
		}
	}
	if p, ok := impl.RenameOf(impl.Order{}, nil); !ok || p.Size != 0 {
		t.Error("nothing renamed", p, ok)
	}
	names := []int{9, 8, 7, 6, 5, 4, 3, 2, 1, 0}
	back, _ := impl.MirrorOf(chainOf(10))
	if p, ok := impl.RenameOf(chainOf(10), names); !ok || !sameOrder(p, back) {
		t.Error("renamed", p, ok)
	}
}

func TestCloseRelation(t *testing.T) {
	cases := []struct{ o, want impl.Order }{
		{impl.Order{}, impl.Order{}}, {rel(1), rel(1)}, {rel(1, [2]int{0, 0}), rel(1, [2]int{0, 0})},
		{rel(2, [2]int{0, 1}, [2]int{1, 0}), impl.Order{Size: 2, Above: []int{3, 3}}},
		{rel(3, [2]int{2, 1}, [2]int{1, 0}), rel(3, [2]int{2, 1}, [2]int{1, 0}, [2]int{2, 0})},
		{rel(4, [2]int{0, 1}, [2]int{1, 2}, [2]int{2, 1}, [2]int{2, 3}), impl.Order{Size: 4, Above: []int{14, 14, 14, 0}}},
		{chainOf(10), chainOf(10)},
	}
	ring := rel(10)
	for i := range 10 {
		ring.Above[i] = 1 << ((i + 3) % 10)
	}
	full := rel(10)
	for i := range 10 {
		full.Above[i] = 1023
	}
	cases = append(cases, struct{ o, want impl.Order }{ring, full})
	for _, c := range cases {
		if p, ok := impl.CloseRelation(c.o); !ok || !sameOrder(p, c.want) {
			t.Error("closed", c.o, p, ok)
		}
	}
}

func TestCoversOf(t *testing.T) {
	cases := []struct{ o, want impl.Order }{
		{impl.Order{}, impl.Order{}}, {rel(3), rel(3)}, {fenceOf(9), fenceOf(9)},
		{chainOf(4), rel(4, [2]int{0, 1}, [2]int{1, 2}, [2]int{2, 3})},
		{gridOf(2, 3), rel(6, [2]int{0, 1}, [2]int{1, 2}, [2]int{3, 4}, [2]int{4, 5}, [2]int{0, 3}, [2]int{1, 4}, [2]int{2, 5})},
	}
	for _, c := range cases {
		if p, ok := impl.CoversOf(c.o); !ok || !sameOrder(p, c.want) {
			t.Error("covers", c.o, p, ok)
		}
	}
}

func TestFindPattern(t *testing.T) {
	twoTwo := rel(4, [2]int{0, 1}, [2]int{2, 3})
	good := []struct {
		o, p impl.Order
		want []int
	}{
		{impl.Order{}, impl.Order{}, nil}, {chainOf(10), impl.Order{}, nil}, {chainOf(10), chainOf(6), []int{0, 1, 2, 3, 4, 5}},
		{rel(10), rel(6), []int{0, 1, 2, 3, 4, 5}}, {rel(3, [2]int{2, 0}), chainOf(2), []int{2, 0}},
		{rel(3, [2]int{1, 2}), rel(2), []int{0, 1}}, {rel(3, [2]int{0, 1}), rel(2), []int{0, 2}},
		{rel(3, [2]int{0, 0}, [2]int{1, 1}), rel(1), []int{2}}, {rel(3, [2]int{1, 1}), rel(1, [2]int{0, 0}), []int{1}},
		{rel(3, [2]int{1, 1}), rel(2, [2]int{1, 1}), []int{0, 1}}, {rel(3, [2]int{0, 1}, [2]int{1, 0}), rel(2, [2]int{0, 1}, [2]int{1, 0}), []int{0, 1}},
		{crownOf(5), twoTwo, []int{0, 6, 1, 5}}, {rel(3, [2]int{0, 2}, [2]int{1, 2}), rel(3, [2]int{1, 0}, [2]int{2, 0}), []int{2, 0, 1}},
	}
	for _, c := range good {
		if got, ok := impl.FindPattern(c.o, c.p); !ok || !slices.Equal(got, c.want) {
			t.Error("pattern", c.o, c.p, got, ok)
		}
	}
	bad := [][2]impl.Order{
		{chainOf(10), chainOf(7)}, {rel(10), rel(7)}, {chainOf(2), chainOf(3)}, {rel(5), chainOf(2)}, {chainOf(10), rel(2)}, {fenceOf(4), twoTwo},
		{impl.Order{}, rel(1)}, {rel(3), rel(1, [2]int{0, 0})}, {rel(1, [2]int{0, 0}), rel(1)}, {chainOf(10), rel(2, [2]int{0, 1}, [2]int{1, 0})}, {rel(5), rel(6)},
	}
	for _, c := range bad {
		if got, ok := impl.FindPattern(c[0], c[1]); ok || len(got) > 0 {
			t.Error("no pattern", c, got)
		}
	}
}

func TestIsSameKind(t *testing.T) {
	cases := []struct {
		o, p     impl.Order
		same, ok bool
	}{
		{impl.Order{}, impl.Order{}, true, true}, {impl.Order{}, rel(1), false, true}, {rel(1), impl.Order{}, false, true},
		{chainOf(6), rel(6, [2]int{5, 4}), false, true}, {chainOf(3), rel(3, [2]int{2, 0}, [2]int{0, 1}, [2]int{2, 1}), true, true},
		{chainOf(3), chainOf(2), false, true}, {chainOf(2), chainOf(3), false, true}, {chainOf(7), chainOf(7), false, false},
		{chainOf(7), chainOf(6), false, false}, {chainOf(6), chainOf(7), false, false}, {chainOf(6), chainOf(6), true, true},
		{rel(10), rel(10), false, false}, {rel(2, [2]int{0, 0}), rel(2, [2]int{1, 1}), true, true}, {rel(2, [2]int{0, 0}), rel(2), false, true},
	}
	for _, c := range cases {
		if same, ok := impl.IsSameKind(c.o, c.p); same != c.same || ok != c.ok {
			t.Error("kind", c.o, c.p, same, ok)
		}
	}
}

func TestStackAndBeside(t *testing.T) {
	v := rel(3, [2]int{0, 1}, [2]int{0, 2})
	cases := []struct{ o, p, stacked, beside impl.Order }{
		{impl.Order{}, impl.Order{}, impl.Order{}, impl.Order{}}, {impl.Order{}, v, v, v}, {v, impl.Order{}, v, v},
		{v, chainOf(2), impl.Order{Size: 5, Above: []int{30, 24, 24, 16, 0}}, impl.Order{Size: 5, Above: []int{6, 0, 0, 16, 0}}},
		{chainOf(2), v, impl.Order{Size: 5, Above: []int{30, 28, 24, 0, 0}}, impl.Order{Size: 5, Above: []int{2, 0, 24, 0, 0}}},
		{chainOf(10), impl.Order{}, chainOf(10), chainOf(10)}, {impl.Order{}, rel(10), rel(10), rel(10)},
		{chainOf(4), chainOf(6), chainOf(10), impl.Order{Size: 10, Above: []int{14, 12, 8, 0, 992, 960, 896, 768, 512, 0}}},
	}
	for _, c := range cases {
		if got, ok := impl.StackOrders(c.o, c.p); !ok || !sameOrder(got, c.stacked) {
			t.Error("stacked", c.o, c.p, got, ok)
		}
		if got, ok := impl.BesideOrders(c.o, c.p); !ok || !sameOrder(got, c.beside) {
			t.Error("beside", c.o, c.p, got, ok)
		}
	}
	for _, c := range [][2]impl.Order{{chainOf(5), chainOf(6)}, {chainOf(10), rel(1)}, {rel(1), chainOf(10)}, {rel(10), rel(10)}} {
		if got, ok := impl.StackOrders(c[0], c[1]); ok || !isZero(got) {
			t.Error("too great", c, got)
		}
		if got, ok := impl.BesideOrders(c[0], c[1]); ok || !isZero(got) {
			t.Error("too great", c, got)
		}
	}
}

func TestCountAndFirstExtension(t *testing.T) {
	cases := []struct {
		o     impl.Order
		count int
		first []int
	}{
		{impl.Order{}, 1, nil}, {rel(1), 1, []int{0}}, {rel(3, [2]int{0, 1}, [2]int{0, 2}), 2, []int{0, 1, 2}},
		{rel(10), 3628800, []int{0, 1, 2, 3, 4, 5, 6, 7, 8, 9}}, {chainOf(10), 1, []int{0, 1, 2, 3, 4, 5, 6, 7, 8, 9}},
		{gridOf(2, 5), 42, []int{0, 1, 2, 3, 4, 5, 6, 7, 8, 9}}, {fenceOf(10), 50521, []int{0, 2, 1, 4, 3, 6, 5, 8, 7, 9}},
		{rel(4, [2]int{3, 0}, [2]int{2, 1}), 6, []int{2, 1, 3, 0}}, {rel(3, [2]int{2, 0}), 3, []int{1, 2, 0}},
	}
	for _, c := range cases {
		if got, ok := impl.CountExtensions(c.o); got != c.count || !ok {
			t.Error("count", c.o, got, ok)
		}
		if got, ok := impl.FirstExtension(c.o); !slices.Equal(got, c.first) || !ok {
			t.Error("first", c.o, got, ok)
		}
	}
}

func TestIsExtension(t *testing.T) {
	v := rel(3, [2]int{0, 1}, [2]int{0, 2})
	for _, list := range [][]int{{0, 1, 2}, {0, 2, 1}} {
		if got, ok := impl.IsExtension(v, list); !got || !ok {
			t.Error("extension", list, got, ok)
		}
	}
	for _, list := range [][]int{nil, {0}, {0, 1}, {1, 0, 2}, {1, 2, 0}, {2, 0, 1}, {0, 1, 1}, {0, 0, 1}, {0, 1, 2, 2}, {0, 1, 2, 3}, {0, 1, 3}, {0, 1, -1}, {-1, 0, 1},
		{0, 1, math.MaxInt}, {math.MinInt, 0, 1}, {0, 1, 64}, make([]int, 100)} {
		if got, ok := impl.IsExtension(v, list); got || !ok {
			t.Error("no extension", list, got, ok)
		}
	}
	if got, ok := impl.IsExtension(impl.Order{}, nil); !got || !ok {
		t.Error("extension of nothing", got, ok)
	}
	if got, ok := impl.IsExtension(impl.Order{}, []int{0}); got || !ok {
		t.Error("extension of nothing", got, ok)
	}
	if got, ok := impl.IsExtension(rel(10), []int{9, 8, 7, 6, 5, 4, 3, 2, 1, 0}); !got || !ok {
		t.Error("extension", got, ok)
	}
}

func TestChainsAndAntichains(t *testing.T) {
	all := []int{0, 1, 2, 3, 4, 5, 6, 7, 8, 9}
	back, _ := impl.MirrorOf(chainOf(4))
	cases := []struct {
		o                        impl.Order
		chain, antichain, number []int
	}{
		{impl.Order{}, nil, nil, nil}, {rel(1), []int{0}, []int{0}, []int{0}}, {rel(10), []int{0}, all, all},
		{chainOf(10), all, []int{0}, make([]int, 10)}, {back, []int{3, 2, 1, 0}, []int{0}, make([]int, 4)},
		{rel(3, [2]int{0, 1}, [2]int{0, 2}), []int{0, 1}, []int{1, 2}, []int{0, 0, 1}},
		{gridOf(2, 5), []int{0, 1, 2, 3, 4, 9}, []int{1, 5}, []int{0, 0, 0, 0, 0, 1, 1, 1, 1, 0}},
		{crownOf(5), []int{0, 6}, []int{0, 1, 2, 3, 4}, []int{0, 1, 2, 3, 4, 1, 0, 3, 4, 2}},
		{rel(4, [2]int{0, 3}, [2]int{1, 2}), []int{0, 3}, []int{0, 1}, []int{0, 1, 1, 0}},
	}
	for _, c := range cases {
		if got, ok := impl.LongestChain(c.o); !slices.Equal(got, c.chain) || !ok {
			t.Error("chain", c.o, got, ok)
		}
		if got, ok := impl.LargestAntichain(c.o); !slices.Equal(got, c.antichain) || !ok {
			t.Error("antichain", c.o, got, ok)
		}
		if got, ok := impl.ChainNumbers(c.o); !slices.Equal(got, c.number) || !ok {
			t.Error("numbers", c.o, got, ok)
		}
	}
}

func TestOrderTexts(t *testing.T) {
	cases := []struct {
		text string
		o    impl.Order
	}{
		{"0:", impl.Order{}}, {"1:0", rel(1)}, {"1:1", rel(1, [2]int{0, 0})}, {"2:01/00", chainOf(2)}, {"2:00/10", rel(2, [2]int{1, 0})},
		{"3:011/000/000", rel(3, [2]int{0, 1}, [2]int{0, 2})}, {"3:010/001/100", rel(3, [2]int{0, 1}, [2]int{1, 2}, [2]int{2, 0})},
		{"10:" + strings.Repeat("0000000000/", 9) + "0000000001", rel(10, [2]int{9, 9})},
	}
	for _, c := range cases {
		if got, ok := impl.OrderText(c.o); got != c.text || !ok {
			t.Error("text", c.o, got, ok)
		}
		if got, ok := impl.ParseOrder(c.text); !sameOrder(got, c.o) || !ok {
			t.Error("parsed", c.text, got, ok)
		}
	}
}

func TestTextsOfNoOrder(t *testing.T) {
	bad := []string{
		"", ":", "0", "1", "0:0", "0:/", "00:", "01:0", "+1:0", "-1:", "-0:", " 1:0", "1: 0", "1:0 ", "1:", "1:2", "1:/", "1:00", "1:0/", "1:0/0", "1:0\n", "1:\x00", "1;0", "1:0:",
		"2:0100", "2:01/0", "2:01/000", "2:01:00", "2:01//0", "2:0/100", "2:010/0", "2:010000", "2:01/00/", "2:/01/00", "2:01/02", "2:01/0a", "2:0//00", "2:////0", "2:01 00", "2:01000", "2:01100",
		"2:01/00/00", "3:01/00", "3:011/000", "3:011/000/00", "3:011/000/0000", "3:011/0000000", "3:011000/000", "3:0111000/000", "3:011/00/0000", "2:\xff1/00", "x2:01/00", "2x:01/00", "1:\u0660",
		"10:" + strings.Repeat("0000000000/", 10), "10:" + strings.Repeat("0000000000/", 8) + "0000000000", "11:" + strings.Repeat("00000000000/", 10) + "00000000000",
		"99999999999999999999:0", "1:" + strings.Repeat("0", 100000), strings.Repeat("1", 100000),
	}
	for _, s := range bad {
		if got, ok := impl.ParseOrder(s); ok || !isZero(got) {
			t.Errorf("parsed %.40q %v", s, got)
		}
	}
}
