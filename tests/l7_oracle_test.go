package tests

import (
	"fmt"
	"slices"
	"testing"

	"loop.example/g01106/impl"
)

// TestMatchingsBySlowAnswers is promise 7 for matchings: what the functions tell of them is what slow answers are.
func TestMatchingsBySlowAnswers(t *testing.T) {
	matchings := slices.Concat(someMatchings(), allMatchings(5))
	tidy := [2]int{}
	for _, p := range matchings {
		text := slowMatchingText(p)
		if !impl.IsMatching(p) {
			t.Fatal("a matching", text)
		}
		near := slowNear(p)
		if got, ok := impl.NearNestings(p); !ok || !slices.Equal(got, near) {
			t.Fatal("near nestings", text, got, ok)
		}
		if got, ok := impl.IsTidy(p); !ok || got != (len(near) == 0) {
			t.Fatal("is tidy", text, got, ok)
		}
		tidy[min(1, len(near))]++
		if got, ok := impl.RunsOf(p); !ok || !slices.Equal(got, slowRuns(p)) {
			t.Fatal("runs", text, got, ok)
		}
		if got, ok := impl.MirrorMatching(p); !ok || !slices.Equal(got, slowMirror(p)) {
			t.Fatal("mirror", text, got, ok)
		}
		if got, ok := impl.MatchingText(p); !ok || got != text {
			t.Fatal("text", text, got, ok)
		}
		if got, ok := impl.ParseMatching(text); !ok || !slices.Equal(got, p) {
			t.Fatal("parsed", text, got, ok)
		}
		compareArcs(t, p)
		compareTidy(t, p)
	}
	if slices.Min(tidy[:]) < 300 {
		t.Error("too few of a kind", tidy)
	}
}

func compareArcs(t *testing.T, p []int) {
	text := slowMatchingText(p)
	arcs := slowArcs(p)
	want, crossed, nested := slowArcOrder(p)
	if a, b, ok := impl.CrossingsOf(p); !ok || a != crossed || b != nested {
		t.Fatal("crossings", text, a, b, ok)
	}
	good := len(arcs) <= 10
	if !good {
		arcs, want = nil, impl.Order{}
	}
	if got, ok := impl.ArcsOf(p); ok != good || !slices.Equal(got, arcs) {
		t.Fatal("arcs", text, got, ok)
	}
	o, ok := impl.OrderOfArcs(p)
	if ok != good || !sameOrder(o, want) {
		t.Fatal("order", text, o, ok)
	}
	if !good {
		return
	}
	// The ends of an arc in its order are the runs that it leads from and to.
	ends, _ := slowEnds(want)
	for k, arc := range arcs {
		if ends[k].Left != runOf(p, arc.Left)/2 || ends[k].Right != runOf(p, arc.Right)/2 {
			t.Fatal("ends", text, ends)
		}
	}
	if m, ok := impl.MatrixOfOrder(o); !ok || !sameMatrix(m, slowMatrixOf(p)) {
		t.Fatal("matrix of the order", text, slowMatrixText(m), ok)
	}
}

func compareTidy(t *testing.T, p []int) {
	text := slowMatchingText(p)
	m := slowMatrixOf(p)
	if got, ok := impl.MatrixOfMatching(p); !ok || !sameMatrix(got, m) {
		t.Fatal("matrix", text, slowMatrixText(got), ok)
	}
	tidy := slowTidy(p)
	if got, ok := impl.TidyMatching(p); !ok || !slices.Equal(got, tidy) {
		t.Fatal("tidy", text, slowMatchingText(got), ok)
	}
	if kinds(tidy) != kinds(p) || len(slowNear(tidy)) > 0 || !sameMatrix(slowMatrixOf(tidy), m) {
		t.Fatal("tidy", text, slowMatchingText(tidy))
	}
	if got, ok := impl.MatchingOfMatrix(m); !ok || !slices.Equal(got, tidy) {
		t.Fatal("matching", slowMatrixText(m), slowMatchingText(got), ok)
	}
	mirror, _ := impl.MirrorMatching(p)
	dual, _ := impl.DualMatrix(m)
	if got, ok := impl.MatrixOfMatching(mirror); !ok || !sameMatrix(got, dual) {
		t.Fatal("matrix of the mirror", text, slowMatrixText(got), ok)
	}
}

// TestTidyAmongAll looks for the tidy matching among all matchings with the same openers and closers and the same matrix: there is just one.
func TestTidyAmongAll(t *testing.T) {
	for arcs := range 6 {
		found := map[string][]int{}
		all := allMatchings(arcs)
		for _, p := range all {
			if len(slowNear(p)) > 0 {
				continue
			}
			key := kinds(p) + " " + slowMatrixText(slowMatrixOf(p))
			if found[key] != nil {
				t.Fatal("two tidy matchings", key, found[key], p)
			}
			found[key] = p
		}
		if len(found) != ascentCounts()[arcs] {
			t.Fatal("tidy matchings", arcs, len(found))
		}
		for _, p := range all {
			want := found[kinds(p)+" "+slowMatrixText(slowMatrixOf(p))]
			if got, ok := impl.TidyMatching(p); !ok || !slices.Equal(got, want) {
				t.Fatal("tidy", p, got, ok)
			}
		}
	}
}

// TestMatricesAreTidyMatchings is promise 7 for matrices: these and tidy matchings are carried to each other.
func TestMatricesAreTidyMatchings(t *testing.T) {
	matrices := append(someMatrices(), allMatrices(6)...)
	for _, m := range matrices {
		text := slowMatrixText(m)
		want := slowMatching(m)
		p, ok := impl.MatchingOfMatrix(m)
		if !ok || !slices.Equal(p, want) || !isSlowMatching(p) || len(slowNear(p)) > 0 {
			t.Fatal("matching", text, p, ok)
		}
		if got, ok := impl.MatrixOfMatching(want); !ok || !sameMatrix(got, m) {
			t.Fatal("matrix", text, slowMatrixText(got), ok)
		}
		rows, columns, _ := impl.RowSums(m)
		runs, ok := impl.RunsOf(want)
		if !ok || len(runs) != 2*len(rows) {
			t.Fatal("runs", text, runs, ok)
		}
		for i := range rows {
			if runs[2*i] != rows[i] || runs[2*i+1] != columns[i] {
				t.Fatal("runs", text, runs)
			}
		}
		if got, ok := impl.NamedCount(m); !ok || got != manyNamed(m) {
			t.Fatal("named", text, got, ok)
		}
	}
}

func TestTidyInOrder(t *testing.T) {
	for n := range impl.MaxListed + 1 {
		lists := allAscents(n)
		got, ok := impl.ListTidy(n)
		if !ok || len(got) != len(lists) {
			t.Fatal("list", n, len(got), ok)
		}
		met := map[string]bool{}
		for k, p := range got {
			if !slices.Equal(p, slowMatching(slowMatrix(lists[k]))) || met[fmt.Sprint(p)] {
				t.Fatal("list", n, k, p)
			}
			met[fmt.Sprint(p)] = true
		}
	}
}

// TestNamedByNames gives all names to small orders.
func TestNamedByNames(t *testing.T) {
	for sum := range 6 {
		for _, m := range allMatrices(sum) {
			o, _ := impl.OrderOfMatrix(m)
			if got, ok := impl.NamedCount(m); !ok || got != slowNamed(o) {
				t.Fatal("named", slowMatrixText(m), got, ok)
			}
		}
	}
	counts := [5]int{}
	for _, o := range smallOrders() {
		if firstFour(o) == nil {
			counts[o.Size]++
		}
	}
	for size, want := range counts {
		if got, ok := impl.CountNamed(size); !ok || got != want || want != namedCounts()[size] {
			t.Fatal("count", size, got, ok)
		}
	}
	for sum := range impl.MaxListed + 1 {
		all := 0
		for _, m := range allMatrices(sum) {
			all += manyNamed(m)
		}
		if got, ok := impl.CountNamed(sum); !ok || got != all {
			t.Fatal("count", sum, got, ok)
		}
	}
}

// TestListsOfSmallNumbers asks for all short lists of small numbers whether they are matchings.
func TestListsOfSmallNumbers(t *testing.T) {
	for length := range 7 {
		for _, list := range listsOf(length, min(length+2, 6)) {
			p := make([]int, length)
			for i, number := range list {
				p[i] = number - 1 + length/5
			}
			good := isSlowMatching(p)
			if got := impl.IsMatching(p); got != good {
				t.Fatal("a matching", p, got)
			}
			if _, ok := impl.RunsOf(p); ok != good {
				t.Fatal("runs", p, ok)
			}
		}
	}
}

func TestBadMatchingsAreBad(t *testing.T) {
	for _, bad := range badMatchings() {
		if isSlowMatching(bad) {
			t.Error("a matching", bad)
		}
	}
}
