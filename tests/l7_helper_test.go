package tests

import (
	"math"
	"slices"
	"strings"

	"loop.example/g01106/impl"
)

// joined returns the list that joins the points with the same letter, without asking whether it is a matching.
func joined(text string) []int {
	p := make([]int, len(text))
	for point := range len(text) {
		letter := text[point : point+1]
		p[point] = strings.Index(text, letter) + strings.LastIndex(text, letter) - point
	}
	return p
}

// nestedText, crossedText and separateText are the texts of so many arcs that are all nested, that all cross, and that lie one before the other.
func nestedText(arcs int) string {
	text := ""
	for k := arcs - 1; k >= 0; k-- {
		text = string(rune('a'+k)) + text + string(rune('a'+k))
	}
	return sameLetters(text)
}

func crossedText(arcs int) string {
	letters := "abcdefghijklmnopqrstuvwxyz"[:arcs]
	return letters + letters
}

func separateText(arcs int) string {
	text := ""
	for k := range arcs {
		text += strings.Repeat(string(rune('a'+k)), 2)
	}
	return text
}

// sameLetters names the letters of a text anew, in the order in which they come.
func sameLetters(text string) string {
	named := ""
	names := map[rune]string{}
	for _, letter := range text {
		if names[letter] == "" {
			names[letter] = string(rune('a' + len(names)))
		}
		named += names[letter]
	}
	return named
}

// badMatchings are lists that are no matchings.
func badMatchings() [][]int {
	lists := [][]int{
		// Odd lengths.
		{0}, {1}, {-1}, {1, 0, 2}, {1, 0, 0}, {1, 0, 1}, {2, 1, 0}, {1, 2, 0}, {0, 2, 1}, {1, 0, 3}, {1, 0, 3, 2, 4}, {1, 0, 3, 2, 5}, {4, 3, 2, 1, 0}, {1, 0, 3, 2, 0}, make([]int, 25),
		// Points that are their own partners.
		{0, 1}, {0, 0}, {1, 1}, {1, 0, 2, 3}, {0, 1, 3, 2}, {0, 2, 1, 3}, {3, 1, 2, 0}, {2, 1, 0, 3}, {0, 1, 2, 3}, {5, 1, 3, 2, 4, 0},
		// Partners out of range.
		{2, 0}, {1, 2}, {-1, 0}, {1, -1}, {2, 1}, {-1, -2}, {3, 2}, {1, 0, 4, 2}, {1, 0, 3, 4}, {1, 0, 3, -1}, {4, 2, 1, 0}, {-1, 2, 1, 0}, {3, 2, 1, 4}, {3, 2, 1, -3}, {1, 0, -1, -1}, {-2, -1},
		{math.MaxInt, 0}, {1, math.MaxInt}, {math.MinInt, 0}, {1, math.MinInt}, {math.MinInt, math.MaxInt}, {math.MaxInt, math.MaxInt}, {1 << 32, 0}, {1, 1 << 32}, {1<<32 + 1, 1 << 32}, {1 << 62, 1 << 62}, {1, 0, 1<<32 + 3, 1<<32 + 2}, {3, 2, math.MinInt + 1, 0},
		// Partners that have other partners.
		{1, 2, 3, 0}, {3, 0, 1, 2}, {1, 0, 1, 0}, {1, 0, 0, 1}, {2, 3, 1, 0}, {1, 0, 3, 0}, {1, 0, 1, 2}, {3, 2, 0, 1}, {2, 2, 0, 0}, {3, 3, 0, 0}, {3, 3, 3, 0}, {3, 0, 0, 0}, {1, 3, 0, 2}, {2, 0, 3, 1}, {1, 0, 4, 5, 3, 2}, {1, 0, 3, 4, 5, 2}, {1, 2, 0, 4, 5, 3}, {5, 4, 3, 2, 0, 1}, make([]int, 2), make([]int, 4), make([]int, 24),
		// Too many points.
		make([]int, 26), make([]int, 1000), joined(nestedText(13)), joined(crossedText(13)), joined(separateText(13)), joined(nestedText(14)), joined(separateText(26)),
	}
	long := make([]int, 1000)
	for point := range long {
		long[point] = point ^ 1
	}
	lists = append(lists, long)
	for _, longest := range []string{nestedText(12), crossedText(12), separateText(12)} {
		for _, point := range []int{0, 1, 11, 12, 22, 23} {
			for _, wrong := range []int{-1, 24, point, (joined(longest)[point] + 1) % 24} {
				p := joined(longest)
				p[point] = wrong
				lists = append(lists, p)
			}
		}
		lists = append(lists, joined(longest)[:23], joined(longest)[1:])
	}
	return append(lists, joined(nestedText(12))[:22], joined(crossedText(12))[:22], joined(nestedText(12))[1:23], joined(separateText(12))[2:])
}

// isSlowMatching reports whether each point is in just one pair of partners.
func isSlowMatching(p []int) bool {
	pairs := make([]int, len(p))
	for i := range p {
		for j := range i {
			if p[i] == j && p[j] == i {
				pairs[i]++
				pairs[j]++
			}
		}
	}
	return len(p) <= 24 && !slices.ContainsFunc(pairs, func(count int) bool { return count != 1 })
}

// allMatchings returns all matchings of so many arcs.
func allMatchings(arcs int) [][]int {
	all := [][]int{{}}
	for k := range arcs {
		var more [][]int
		for _, p := range all {
			// A new last point, with a partner put in somewhere.
			for at := range 2*k + 1 {
				q := []int{}
				for _, partner := range p {
					if partner >= at {
						partner++
					}
					q = append(q, partner)
				}
				more = append(more, append(slices.Insert(q, at, 2*k+1), at))
			}
		}
		all = more
	}
	return all
}

// matching returns a matching of so many arcs; for a small spread, partners are near to each other.
func (n *numbers) matching(arcs, spread int) []int {
	p := make([]int, 2*arcs)
	free := steps(2*arcs, 1)
	for len(free) > 0 {
		k := 1 + n.below(min(spread, len(free)-1))
		p[free[0]], p[free[k]] = free[k], free[0]
		free = slices.Delete(free, k, k+1)[1:]
	}
	return p
}

// someMatchings returns all matchings of at most 4 arcs, and some of each greater number.
func someMatchings() [][]int {
	matchings := [][]int{nil}
	for arcs := range 5 {
		matchings = append(matchings, allMatchings(arcs)...)
	}
	n := numbers(101)
	for arcs := 5; arcs <= impl.MaxAscent; arcs++ {
		matchings = append(matchings, joined(nestedText(arcs)), joined(crossedText(arcs)), joined(separateText(arcs)))
		for spread := range 2 * arcs {
			for range 12 {
				matchings = append(matchings, n.matching(arcs, spread+1))
			}
		}
		for share := range 10 {
			for range 5 {
				matchings = append(matchings, slowMatching(slowMatrix(n.ascent(arcs, share))))
			}
		}
	}
	return matchings
}

// kinds returns an o for each opener and a c for each closer.
func kinds(p []int) string {
	text := ""
	for point, partner := range p {
		if slices.Index(p, point) != partner {
			panic("no matching")
		}
		if point < partner {
			text += "o"
		} else {
			text += "c"
		}
	}
	return text
}

// slowNear returns the near nestings.
func slowNear(p []int) []int {
	near := []int{}
	text := kinds(p)
	for point := 1; point < len(p); point++ {
		if text[point-1] == text[point] && p[point] < p[point-1] {
			near = append(near, point-1)
		}
	}
	return near
}

// slowRuns returns the lengths of the runs.
func slowRuns(p []int) []int {
	lengths := []int{}
	text := kinds(p)
	for text != "" {
		rest := strings.TrimLeft(text, text[:1])
		lengths = append(lengths, len(text)-len(rest))
		text = rest
	}
	return lengths
}

// runOf returns the number of the run of a point, from 0 on.
func runOf(p []int, point int) int {
	run := 0
	text := kinds(p)
	for at := 1; at <= point; at++ {
		if text[at] != text[at-1] {
			run++
		}
	}
	return run
}

// slowTidy exchanges the partners of points that are near nestings for as long as there are any; that changes neither the kinds of the points nor the runs that arcs lead from and to.
func slowTidy(p []int) []int {
	tidy := slices.Clone(p)
	for near := slowNear(tidy); len(near) > 0; near = slowNear(tidy) {
		first, second := near[0], near[0]+1
		a, b := tidy[first], tidy[second]
		tidy[first], tidy[b] = b, first
		tidy[second], tidy[a] = a, second
	}
	return tidy
}

// slowMatrixOf counts the arcs between runs.
func slowMatrixOf(p []int) impl.Matrix {
	m := zeroMatrix(len(slowRuns(p)) / 2)
	for opener, closer := range p {
		if opener < closer {
			m.Rows[runOf(p, opener)/2][runOf(p, closer)/2]++
		}
	}
	return m
}

// slowMatching joins the points of runs, as the numbers of a matrix tell, from behind, and makes that tidy.
func slowMatching(m impl.Matrix) []int {
	p := []int{}
	openers, closers := [][]int{}, [][]int{}
	take := func(count int) []int {
		points := []int{}
		for range count {
			points = append(points, len(p))
			p = append(p, -1)
		}
		return points
	}
	for i := range m.Rows {
		opened, closed := 0, 0
		for k := range m.Rows {
			opened += m.Rows[i][k]
			closed += m.Rows[k][i]
		}
		openers, closers = append(openers, take(opened)), append(closers, take(closed))
	}
	for i, row := range m.Rows {
		for j, number := range row {
			for range number {
				a, b := openers[i][len(openers[i])-1], closers[j][0]
				openers[i], closers[j] = openers[i][:len(openers[i])-1], closers[j][1:]
				p[a], p[b] = b, a
			}
		}
	}
	return slowTidy(p)
}

// slowArcs returns the arcs.
func slowArcs(p []int) []impl.Interval {
	arcs := []impl.Interval{}
	for a := range p {
		for b := a + 1; b < len(p); b++ {
			if p[a] == b {
				arcs = append(arcs, impl.Interval{Left: a, Right: b})
			}
		}
	}
	return arcs
}

// endsBetween counts the ends of y between those of x.
func endsBetween(x, y impl.Interval) int {
	count := 0
	for _, end := range []int{y.Left, y.Right} {
		if x.Left < end && end < x.Right {
			count++
		}
	}
	return count
}

// slowArcOrder returns the order of the arcs, for any number of them that fits, and the numbers of pairs that cross and that are nested.
func slowArcOrder(p []int) (impl.Order, int, int) {
	arcs := slowArcs(p)
	o := rel(len(arcs))
	crossed, nested := 0, 0
	for i, x := range arcs {
		for j, y := range arcs {
			switch {
			case i == j:
			case endsBetween(x, y) == 1 && i < j:
				crossed++
			case endsBetween(x, y) == 2:
				nested++
			case endsBetween(x, y) == 0 && endsBetween(y, x) == 0 && x.Left < y.Left:
				o.Above[i] |= 1 << j
			}
		}
	}
	return o, crossed, nested
}

// slowMirror numbers the points the other way round.
func slowMirror(p []int) []int {
	mirrored := []int{}
	for _, partner := range p {
		mirrored = append(mirrored, len(p)-1-partner)
	}
	slices.Reverse(mirrored)
	return mirrored
}

// slowMatchingText gives the letters of the alphabet to the openers, in order, and then to their partners.
func slowMatchingText(p []int) string {
	text, letters := "", "abcdefghijklmnopqrstuvwxyz"
	for point, partner := range p {
		if partner > point {
			text, letters = text+letters[:1], letters[1:]
		} else {
			text += text[partner : partner+1]
		}
	}
	return text
}

// badMatchingTexts are texts that no matching has.
func badMatchingTexts() []string {
	return []string{
		// One letter of a kind, or three and more.
		"a", "ab", "aab", "abb", "aba", "abc", "aabc", "abac", "abbc", "abcc", "abca", "aabbc", "aabcd", "aaa", "aaaa", "aaab", "abaa", "aabaa", "abbb", "aabbb", "ababab", "ababa", "aabaab", "aaabbb", "aabbaa", "aabbab", "aaaaaa", "abcabcabc", "abababab",
		// Letters that are not in the order of the arcs.
		"b", "bb", "baba", "bbaa", "baab", "cc", "zz", "aacc", "ccaa", "acac", "acca", "aaccbb", "acbacb", "abdabd", "acbabc", "bcabca", "cbaabc", "aabbdd", "bbcc", "aazz", "ll", "mm", "aamm",
		// Other characters.
		"A", "AA", "aA", "Aa", "ABAB", "aaB", "aaBB", "AbAb", "abAB", "Aabb", " ", "  ", " aa", "aa ", "a a", " aa ", " a a", "aa  ", "aa bb", "a b a b", "\taa", "aa\n", "aa\n\n", "\n\n", "a\na\n", "aa\r", "\x00", "\x00\x00", "a\x00a\x00", "aa\x00", "aa\x00\x00",
		"11", "00", "0101", "aa11", "a1a1", "1a1a", "a,a", "a,a,", "aa,,", ",,", "aa/bb", "//", "[aa]", "(aa)", "\"aa\"", "--", "``", "``aa", "{{", "@@", "a`a`", "aa{{", "__", "..", "::",
		"éé", "aéaé", "ää", "šš", "aašš", "ššŢŢ", "aaŢŢ", "ａａ", "аа", "aaбб", "世世", "\xff", "\xff\xff", "aa\xff\xff", "a\xffa\xff", "\xe1\xe1", "\xc3\xa9", "\xc3\xc3", "\u0301\u0301", "aa\u0301", "\U0001f600\U0001f600", "\ufffd\ufffd", "aa\ufffd\ufffd", "\ufffd\xff", "\u2028\u2028",
		// More letters than there may be.
		nestedText(13), crossedText(13), separateText(13), nestedText(26), separateText(26), crossedText(26), separateText(12) + "a", separateText(12) + "aa", separateText(12) + "m", separateText(12) + "l", crossedText(12) + "mm", crossedText(12) + "ll", crossedText(12) + " ", crossedText(12)[:23], crossedText(12)[1:], nestedText(12)[:23], nestedText(12)[1:], "m" + crossedText(12), separateText(11) + "mm", crossedText(11) + "kk", crossedText(11) + "jj",
		strings.Repeat("a", 24), strings.Repeat("a", 26), strings.Repeat("ab", 12), strings.Repeat("a", 5000), strings.Repeat("aabb", 2000), strings.Repeat("é", 5000), strings.Repeat("\xff", 5000), strings.Repeat(" ", 24), strings.Repeat("é", 12), strings.Repeat("世", 8), everyLetter(),
		"abab ", " abab", "abab\n", "ababA", "abab,", "nil",
	}
}

// everyLetter is a long text in which letters go on behind z.
func everyLetter() string {
	text := ""
	for k := range 400 {
		text += string(rune('a' + k))
	}
	return text + text
}

// slowNamed returns the number of different names of an order, found by giving it all of them.
func slowNamed(o impl.Order) int {
	different := map[string]bool{}
	for _, names := range allNames(o.Size) {
		different[slowText(renamed(o, names).Above)] = true
	}
	return len(different)
}

// manyNamed returns the number of ways to give names to the numbers of a matrix, one number after the other.
func manyNamed(m impl.Matrix) int {
	ways, left := 1, slowSum(m)
	for _, row := range m.Rows {
		for _, number := range row {
			ways *= chosen(left, number)
			left -= number
		}
	}
	return ways
}

// chosen returns the number of ways to choose some of many.
func chosen(many, some int) int {
	if some == 0 || some == many {
		return 1
	}
	return chosen(many-1, some-1) + chosen(many-1, some)
}

// namedCounts are the numbers of interval orders of 0, 1, .. elements.
func namedCounts() []int {
	return []int{1, 1, 3, 19, 207, 3451, 81663, 2602699}
}
