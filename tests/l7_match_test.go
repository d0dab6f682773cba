package tests

import (
	"fmt"
	"math"
	"slices"
	"testing"

	"loop.example/g01106/impl"
)

// toldMatching is a matching with what the functions tell of it, worked out by hand.
type toldMatching struct {
	text            string
	p               []int
	near, runs      []int
	tidy, matrix    string
	mirror          string
	crossed, nested int
	order           impl.Order
}

func toldMatchings() []toldMatching {
	none := []int{}
	return []toldMatching{
		{"aa", []int{1, 0}, none, []int{1, 1}, "aa", "1", "aa", 0, 0, rel(1)},
		{"aabb", []int{1, 0, 3, 2}, none, []int{1, 1, 1, 1}, "aabb", "1,0/0,1", "aabb", 0, 0, chainOf(2)},
		{"abab", []int{2, 3, 0, 1}, none, []int{2, 2}, "abab", "2", "abab", 1, 0, rel(2)},
		{"abba", []int{3, 2, 1, 0}, []int{0, 2}, []int{2, 2}, "abab", "2", "abba", 0, 1, rel(2)},
		{"aabbcc", []int{1, 0, 3, 2, 5, 4}, none, []int{1, 1, 1, 1, 1, 1}, "aabbcc", "1,0,0/0,1,0/0,0,1", "aabbcc", 0, 0, chainOf(3)},
		{"abcabc", []int{3, 4, 5, 0, 1, 2}, none, []int{3, 3}, "abcabc", "3", "abcabc", 3, 0, rel(3)},
		{"abccba", []int{5, 4, 3, 2, 1, 0}, []int{0, 1, 3, 4}, []int{3, 3}, "abcabc", "3", "abccba", 0, 3, rel(3)},
		{"abcacb", []int{3, 5, 4, 0, 2, 1}, []int{1, 4}, []int{3, 3}, "abcabc", "3", "abcbac", 2, 1, rel(3)},
		{"abcbac", []int{4, 3, 5, 1, 0, 2}, []int{0, 3}, []int{3, 3}, "abcabc", "3", "abcacb", 2, 1, rel(3)},
		{"abcbca", []int{5, 3, 4, 1, 2, 0}, []int{0, 4}, []int{3, 3}, "abcabc", "3", "abcbca", 1, 2, rel(3)},
		{"abacbc", []int{2, 4, 0, 5, 1, 3}, none, []int{2, 1, 1, 2}, "abacbc", "1,1/0,1", "abacbc", 2, 0, rel(3, [2]int{0, 2})},
		{"abaccb", []int{2, 5, 0, 4, 3, 1}, []int{4}, []int{2, 1, 1, 2}, "abacbc", "1,1/0,1", "abbcac", 1, 1, rel(3, [2]int{0, 2})},
		{"abbcac", []int{4, 2, 1, 5, 0, 3}, []int{0}, []int{2, 1, 1, 2}, "abacbc", "1,1/0,1", "abaccb", 1, 1, rel(3, [2]int{1, 2})},
		{"abbcca", []int{5, 2, 1, 4, 3, 0}, []int{0, 4}, []int{2, 1, 1, 2}, "abacbc", "1,1/0,1", "abbcca", 0, 2, rel(3, [2]int{1, 2})},
		{"aabccb", []int{1, 0, 5, 4, 3, 2}, []int{2, 4}, []int{1, 1, 2, 2}, "aabcbc", "1,0/0,2", "abbacc", 0, 1, rel(3, [2]int{0, 1}, [2]int{0, 2})},
		{"aabcbc", []int{1, 0, 4, 5, 2, 3}, none, []int{1, 1, 2, 2}, "aabcbc", "1,0/0,2", "ababcc", 1, 0, rel(3, [2]int{0, 1}, [2]int{0, 2})},
		{"abbacc", []int{3, 2, 1, 0, 5, 4}, []int{0, 2}, []int{2, 2, 1, 1}, "ababcc", "2,0/0,1", "aabccb", 0, 1, rel(3, [2]int{0, 2}, [2]int{1, 2})},
		// A run of openers meets two runs of closers, and the other way round.
		{"abcacdbd", []int{3, 6, 4, 0, 2, 7, 1, 5}, []int{1}, []int{3, 2, 1, 2}, "abcabdcd", "2,1/0,1", "abacdcbd", 3, 1, rel(4, [2]int{0, 3}, [2]int{2, 3})},
		{"abacdcbd", []int{2, 6, 0, 5, 7, 3, 1, 4}, []int{5}, []int{2, 1, 2, 3}, "abacdbcd", "1,1/0,2", "abcacdbd", 3, 1, rel(4, [2]int{0, 2}, [2]int{0, 3})},
		// Neighbours that are nested, but not in one run.
		{"abbacddc", []int{3, 2, 1, 0, 7, 6, 5, 4}, []int{0, 2, 4, 6}, []int{2, 2, 2, 2}, "ababcdcd", "2,0/0,2", "abbacddc", 0, 2, rel(4, [2]int{0, 2}, [2]int{0, 3}, [2]int{1, 2}, [2]int{1, 3})},
		{"abacbdcd", []int{2, 4, 0, 6, 1, 7, 3, 5}, none, []int{2, 1, 1, 1, 1, 2}, "abacbdcd", "1,1,0/0,0,1/0,0,1", "abacbdcd", 3, 0, rel(4, [2]int{0, 2}, [2]int{0, 3}, [2]int{1, 3})},
		{"abaccbdd", []int{2, 5, 0, 4, 3, 1, 7, 6}, []int{4}, []int{2, 1, 1, 2, 1, 1}, "abacbcdd", "1,1,0/0,1,0/0,0,1", "aabccdbd", 1, 1, rel(4, [2]int{0, 2}, [2]int{0, 3}, [2]int{1, 3}, [2]int{2, 3})},
		{"abaccddb", []int{2, 7, 0, 4, 3, 6, 5, 1}, []int{6}, []int{2, 1, 1, 1, 1, 2}, "abaccdbd", "1,0,1/0,1,0/0,0,1", "abbccdad", 1, 2, rel(4, [2]int{0, 2}, [2]int{0, 3}, [2]int{2, 3})},
	}
}

func TestMatchingTold(t *testing.T) {
	for _, c := range toldMatchings() {
		p := c.p
		if !impl.IsMatching(p) {
			t.Error("a matching", c.text)
		}
		if got, ok := impl.NearNestings(p); !slices.Equal(got, c.near) || !ok {
			t.Error("near nestings", c.text, got, ok)
		}
		if got, ok := impl.IsTidy(p); got != (c.text == c.tidy) || !ok {
			t.Error("is tidy", c.text, got, ok)
		}
		if got, ok := impl.RunsOf(p); !slices.Equal(got, c.runs) || !ok {
			t.Error("runs", c.text, got, ok)
		}
		if got, ok := impl.OrderOfArcs(p); !sameOrder(got, c.order) || !ok {
			t.Error("order", c.text, got, ok)
		}
		if got, ok := impl.TidyMatching(p); !slices.Equal(got, joined(c.tidy)) || !ok {
			t.Error("tidy", c.text, got, ok)
		}
		if got, ok := impl.MatrixOfMatching(p); !sameMatrix(got, mat(c.matrix)) || !ok {
			t.Error("matrix", c.text, got, ok)
		}
		if got, ok := impl.MatchingOfMatrix(mat(c.matrix)); !slices.Equal(got, joined(c.tidy)) || !ok {
			t.Error("matching", c.matrix, got, ok)
		}
		if got, ok := impl.MirrorMatching(p); !slices.Equal(got, joined(c.mirror)) || !ok {
			t.Error("mirror", c.text, got, ok)
		}
		if crossed, nested, ok := impl.CrossingsOf(p); crossed != c.crossed || nested != c.nested || !ok {
			t.Error("crossings", c.text, crossed, nested, ok)
		}
		if got, ok := impl.MatchingText(p); got != c.text || !ok {
			t.Error("text", c.text, got, ok)
		}
		if got, ok := impl.ParseMatching(c.text); !slices.Equal(got, p) || !ok {
			t.Error("parsed", c.text, got, ok)
		}
	}
}

func TestMatchingWithoutPoints(t *testing.T) {
	for _, p := range [][]int{nil, {}, make([]int, 0, 4), []int{7, 7}[:0]} {
		if !impl.IsMatching(p) {
			t.Error("a matching")
		}
		if got, ok := impl.NearNestings(p); len(got) > 0 || !ok {
			t.Error("near nestings", got, ok)
		}
		if got, ok := impl.IsTidy(p); !got || !ok {
			t.Error("is tidy", got, ok)
		}
		if got, ok := impl.RunsOf(p); len(got) > 0 || !ok {
			t.Error("runs", got, ok)
		}
		if got, ok := impl.ArcsOf(p); len(got) > 0 || !ok {
			t.Error("arcs", got, ok)
		}
		if got, ok := impl.OrderOfArcs(p); !sameOrder(got, rel(0)) || !ok {
			t.Error("order", got, ok)
		}
		if got, ok := impl.TidyMatching(p); len(got) > 0 || !ok {
			t.Error("tidy", got, ok)
		}
		if got, ok := impl.MatrixOfMatching(p); len(got.Rows) > 0 || !ok {
			t.Error("matrix", got, ok)
		}
		if got, ok := impl.MirrorMatching(p); len(got) > 0 || !ok {
			t.Error("mirror", got, ok)
		}
		if crossed, nested, ok := impl.CrossingsOf(p); crossed != 0 || nested != 0 || !ok {
			t.Error("crossings", crossed, nested, ok)
		}
		if got, ok := impl.MatchingText(p); got != "" || !ok {
			t.Error("text", got, ok)
		}
	}
	for _, m := range []impl.Matrix{{}, {Rows: [][]int{}}} {
		if got, ok := impl.MatchingOfMatrix(m); len(got) > 0 || !ok {
			t.Error("matching", got, ok)
		}
		if got, ok := impl.NamedCount(m); got != 1 || !ok {
			t.Error("named", got, ok)
		}
	}
	if got, ok := impl.ParseMatching(""); len(got) > 0 || !ok {
		t.Error("parsed", got, ok)
	}
	if got, ok := impl.ListTidy(0); len(got) != 1 || len(got[0]) > 0 || !ok {
		t.Error("list", got, ok)
	}
	if got, ok := impl.CountNamed(0); got != 1 || !ok {
		t.Error("count", got, ok)
	}
}

func TestWhatIsNoMatching(t *testing.T) {
	for _, bad := range badMatchings() {
		for _, c := range matchingCalls(bad) {
			if isLastTrue(c) {
				t.Errorf("%s%v succeeds", c.name, c.args())
			}
		}
	}
	for _, bad := range badMatrices() {
		for _, c := range matchedMatrixCalls(bad) {
			if isLastTrue(c) {
				t.Errorf("%s%v succeeds", c.name, c.args())
			}
		}
	}
}

// TestManyArcs has arcs that are all nested, that all cross, and that lie one before the other, up to the greatest number of them.
func TestManyArcs(t *testing.T) {
	for arcs := 1; arcs <= impl.MaxAscent; arcs++ {
		pairs, twice := arcs*(arcs-1)/2, slices.Repeat([]int{1}, 2*arcs)
		nested, crossed, separate := joined(nestedText(arcs)), joined(crossedText(arcs)), joined(separateText(arcs))
		if !impl.IsMatching(nested) || !impl.IsMatching(crossed) || !impl.IsMatching(separate) {
			t.Error("matchings", arcs)
		}
		near := append(steps(arcs-1, 1), steps(arcs-1, 1)...)
		for i := range arcs - 1 {
			near[arcs-1+i] += arcs
		}
		if got, ok := impl.NearNestings(nested); !slices.Equal(got, near) || !ok {
			t.Error("near nestings", arcs, got, ok)
		}
		checkSides := func(name string, p []int, runs []int, m impl.Matrix, tidy string, cross, nest int) {
			t.Helper()
			if got, ok := impl.RunsOf(p); !slices.Equal(got, runs) || !ok {
				t.Error("runs", name, arcs, got, ok)
			}
			if got, ok := impl.MatrixOfMatching(p); !sameMatrix(got, m) || !ok {
				t.Error("matrix", name, arcs, got, ok)
			}
			if got, ok := impl.TidyMatching(p); !slices.Equal(got, joined(tidy)) || !ok {
				t.Error("tidy", name, arcs, got, ok)
			}
			if got, ok := impl.IsTidy(p); got != slices.Equal(p, joined(tidy)) || !ok {
				t.Error("is tidy", name, arcs, got, ok)
			}
			if a, b, ok := impl.CrossingsOf(p); a != cross || b != nest || !ok {
				t.Error("crossings", name, arcs, a, b, ok)
			}
			if got, ok := impl.MirrorMatching(p); !slices.Equal(got, p) || !ok {
				t.Error("mirror", name, arcs, got, ok)
			}
		}
		checkSides("nested", nested, []int{arcs, arcs}, unitMatrix(1, arcs), crossedText(arcs), 0, pairs)
		checkSides("crossed", crossed, []int{arcs, arcs}, unitMatrix(1, arcs), crossedText(arcs), pairs, 0)
		checkSides("separate", separate, twice, unitMatrix(arcs, 1), separateText(arcs), 0, 0)
		for _, text := range []string{nestedText(arcs), crossedText(arcs), separateText(arcs)} {
			if got, ok := impl.MatchingText(joined(text)); got != text || !ok {
				t.Error("text", text, got, ok)
			}
			if got, ok := impl.ParseMatching(text); !slices.Equal(got, joined(text)) || !ok {
				t.Error("parsed", text, got, ok)
			}
		}
	}
}

func TestArcs(t *testing.T) {
	cases := []struct {
		text string
		want []impl.Interval
	}{
		{"aa", ivs([2]int{0, 1})}, {"aabb", ivs([2]int{0, 1}, [2]int{2, 3})}, {"abab", ivs([2]int{0, 2}, [2]int{1, 3})}, {"abba", ivs([2]int{0, 3}, [2]int{1, 2})},
		{"abcacdbd", ivs([2]int{0, 3}, [2]int{1, 6}, [2]int{2, 4}, [2]int{5, 7})}, {"abbcca", ivs([2]int{0, 5}, [2]int{1, 2}, [2]int{3, 4})},
	}
	for _, c := range cases {
		if got, ok := impl.ArcsOf(joined(c.text)); !slices.Equal(got, c.want) || !ok {
			t.Error("arcs", c.text, got, ok)
		}
	}
	for arcs := 1; arcs <= impl.MaxAscent; arcs++ {
		good := arcs <= 10
		for kind, text := range []string{nestedText(arcs), crossedText(arcs), separateText(arcs)} {
			var list []impl.Interval
			var o impl.Order
			for k := range arcs {
				list = append(list, ivs([2]int{k, 2*arcs - 1 - k}, [2]int{k, arcs + k}, [2]int{2 * k, 2*k + 1})[kind])
			}
			if good && kind < 2 {
				o = rel(arcs)
			} else if good {
				o = chainOf(arcs)
			} else {
				list = nil
			}
			if got, ok := impl.ArcsOf(joined(text)); !slices.Equal(got, list) || ok != good {
				t.Error("arcs", text, got, ok)
			}
			if got, ok := impl.OrderOfArcs(joined(text)); !sameOrder(got, o) || ok != good {
				t.Error("order", text, got, ok)
			}
		}
	}
}

func TestMatchingsOfMatrices(t *testing.T) {
	cases := []struct{ matrix, text string }{
		{"5", "abcdeabcde"}, {"2,0/0,3", "ababcdecde"}, {"2,1/0,1", "abcabdcd"}, {"1,2/0,1", "abcadbcd"}, {"2,2/0,2", "abcdabefcdef"}, {"1,1,1/0,1,1/0,0,1", "abcadebdfcef"}, {"1,0,2/0,1,0/0,0,3", "abcaddefgbcefg"}, {"2,1,1/0,2,1/0,0,1", "abcdabefgcefhdgh"},
		{"1,2,0/0,0,3/0,0,4", "abcadefbcghijdefghij"}, {"1,1,0,0/0,0,1,0/0,0,0,1/0,0,0,1", "abacbdcede"}, {"12", crossedText(12)}, {"6,0/0,6", "abcdefabcdefghijklghijkl"}, {"4,1/0,7", "abcdeabcdfghijklefghijkl"}, {slowMatrixText(unitMatrix(12, 1)), separateText(12)}, {"3,3,0/0,0,3/0,0,3", "abcdefabcghidefjklghijkl"},
	}
	for _, c := range cases {
		p, ok := impl.MatchingOfMatrix(mat(c.matrix))
		if !slices.Equal(p, joined(c.text)) || !ok {
			t.Error("matching", c.matrix, slowMatchingText(p), ok)
		}
		if got, ok := impl.IsTidy(joined(c.text)); !got || !ok {
			t.Error("is tidy", c.text, got, ok)
		}
		if got, ok := impl.MatrixOfMatching(joined(c.text)); !sameMatrix(got, mat(c.matrix)) || !ok {
			t.Error("matrix", c.text, slowMatrixText(got), ok)
		}
	}
}

// TestSameMatrix has matchings with the same matrix, and some with the same runs whose matrices differ.
func TestSameMatrix(t *testing.T) {
	same := []string{"abcabdcd", "abcacdbd", "abccadbd", "abccbdad", "abcbcdad", "abcbadcd", "abcabddc", "abccaddb"}
	for _, text := range same {
		if got, ok := impl.MatrixOfMatching(joined(text)); !sameMatrix(got, mat("2,1/0,1")) || !ok {
			t.Error("matrix", text, slowMatrixText(got), ok)
		}
		if got, ok := impl.TidyMatching(joined(text)); !slices.Equal(got, joined(same[0])) || !ok {
			t.Error("tidy", text, slowMatchingText(got), ok)
		}
		if got, ok := impl.IsTidy(joined(text)); got != (text == same[0]) || !ok {
			t.Error("is tidy", text, got, ok)
		}
	}
	// All of these have the runs 2, 1, 2, 1, 1 and 3.
	for text, want := range map[string]string{"abacdbecde": "1,1,0/0,0,2/0,0,1", "abacdcebde": "1,0,1/0,1,1/0,0,1", "abacddebce": "1,0,1/0,1,1/0,0,1", "abbcdcedea": "1,0,1/0,1,1/0,0,1", "abbcdaeced": "1,1,0/0,0,2/0,0,1"} {
		if got, ok := impl.MatrixOfMatching(joined(text)); !sameMatrix(got, mat(want)) || !ok {
			t.Error("matrix", text, slowMatrixText(got), ok)
		}
	}
}

func TestTidyListed(t *testing.T) {
	cases := [][]string{
		{""}, {"aa"}, {"abab", "aabb"}, {"abcabc", "ababcc", "abacbc", "aabcbc", "aabbcc"},
	}
	for n, want := range cases {
		got, ok := impl.ListTidy(n)
		if len(got) != len(want) || !ok {
			t.Fatal("list", n, got, ok)
		}
		for k, p := range got {
			if !slices.Equal(p, joined(want[k])) {
				t.Error("list", n, k, p)
			}
		}
	}
	for n, count := range ascentCounts()[:impl.MaxListed+1] {
		if got, ok := impl.ListTidy(n); len(got) != count || !ok {
			t.Error("list", n, len(got), ok)
		}
	}
	for _, n := range []int{-1, -2, -7, impl.MaxListed + 1, 9, 12, 13, 64, 1 << 32, math.MaxInt, math.MinInt} {
		if got, ok := impl.ListTidy(n); len(got) > 0 || ok {
			t.Error("no list", n, len(got))
		}
		if got, ok := impl.CountNamed(n); got != 0 || ok {
			t.Error("no count", n, got)
		}
	}
}

func TestNamed(t *testing.T) {
	cases := []struct {
		m    impl.Matrix
		want int
	}{
		{mat("1"), 1}, {mat("2"), 1}, {mat("12"), 1}, {mat("1,0/0,1"), 2}, {mat("1,1/0,1"), 6}, {mat("2,0/0,1"), 3}, {mat("1,0/0,2"), 3}, {mat("1,2/0,1"), 12}, {mat("2,2/0,2"), 90}, {mat("1,1,0/0,0,1/0,0,1"), 24}, {mat("1,0,1/0,1,0/0,0,1"), 24},
		{mat("6,0/0,6"), 924}, {mat("4,1/0,7"), 3960}, {mat("4,4/0,4"), 34650}, {mat("11,0/0,1"), 12}, {mat("3,3,0/0,0,3/0,0,3"), 369600}, {unitMatrix(11, 1), 39916800}, {unitMatrix(12, 1), 479001600}, {unitMatrix(6, 2), 7484400}, {mat("1,2,0/0,0,3/0,0,4"), 12600}, {mat("5,1/0,1"), 42},
	}
	for _, c := range cases {
		if got, ok := impl.NamedCount(c.m); got != c.want || !ok {
			t.Error("named", slowMatrixText(c.m), got, ok)
		}
	}
	for n, want := range namedCounts() {
		if got, ok := impl.CountNamed(n); got != want || !ok {
			t.Error("count", n, got, ok)
		}
	}
}

func TestMatchingTexts(t *testing.T) {
	for _, text := range badMatchingTexts() {
		if got, ok := impl.ParseMatching(text); len(got) > 0 || ok {
			t.Error("no matching", fmt.Sprintf("%q", text), got)
		}
	}
	// All short texts of a few letters: a text is one if it is that of what it joins.
	for length := range 9 {
		for _, list := range listsOf(length, min(4, 9-length)) {
			text := ""
			for _, k := range list {
				text += string(rune('a' + k))
			}
			p := joined(text)
			good := isSlowMatching(p) && slowMatchingText(p) == text
			if got, ok := impl.ParseMatching(text); ok != good || good && !slices.Equal(got, p) || !good && len(got) > 0 {
				t.Error("parsed", text, got, ok)
			}
		}
	}
}

func TestMirrors(t *testing.T) {
	own, other := 0, 0
	for _, c := range toldMatchings() {
		if c.mirror == c.text {
			own++
		} else {
			other++
		}
		if got, ok := impl.MirrorMatching(joined(c.mirror)); !slices.Equal(got, c.p) || !ok {
			t.Error("mirror", c.mirror, got, ok)
		}
	}
	if own < 5 || other < 5 {
		t.Error("too few of a kind", own, other)
	}
	if got, ok := impl.MirrorMatching(joined("abcdefghijklabcdefghijlk")); !slices.Equal(got, joined("abcdefghijklbacdefghijkl")) || !ok {
		t.Error("mirror", slowMatchingText(got), ok)
	}
}
