package tests

import (
	"fmt"
	"regexp"
	"slices"
	"strconv"
	"strings"
	"sync"

	"loop.example/g01106/impl"
)

// slowRow is a row of the document's table: the lines that it is about, and what they do.
type slowRow struct {
	lines *regexp.Regexp
	run   func(o impl.Order, words []string) (impl.Order, string)
}

const (
	aNumber = `(?:0|[1-9][0-9]{0,5})`
	aList   = `(?:-|` + aNumber + `(?:,` + aNumber + `)*)`
)

// slowRows returns the document's table; the functions that it names are slow ones.
func slowRows() []slowRow {
	var rows []slowRow
	change := func(lines string, run func(o impl.Order, words []string) (impl.Order, bool)) {
		rows = append(rows, slowRow{regexp.MustCompile(`^` + lines + `$`), func(o impl.Order, words []string) (impl.Order, string) {
			next, ok := run(o, words)
			if !ok {
				return o, "no"
			}
			return next, "ok"
		}})
	}
	ask := func(lines string, run func(o impl.Order, words []string) (any, bool)) {
		rows = append(rows, slowRow{regexp.MustCompile(`^` + lines + `$`), func(o impl.Order, words []string) (impl.Order, string) {
			answer, ok := run(o, words)
			list, is := answer.([]int)
			switch {
			case !ok:
				return o, "no"
			case is && len(list) == 0:
				return o, "-"
			case is:
				return o, slowText(list)
			default:
				return o, fmt.Sprint(answer)
			}
		}})
	}
	change(`order [^ ]*`, func(o impl.Order, words []string) (impl.Order, bool) { return slowParsed(words[1]) })
	change(`stair `+aList, func(o impl.Order, words []string) (impl.Order, bool) { return slowOrderOfStair(listIn(words[1])) })
	change(`levels `+aList, func(o impl.Order, words []string) (impl.Order, bool) {
		list := listIn(words[1])
		return slowOrderOfLevels(list), areSlowLevels(list)
	})
	change(`add `+aNumber+` `+aNumber, func(o impl.Order, words []string) (impl.Order, bool) {
		return slowAdded(o, numberIn(words[1]), numberIn(words[2]))
	})
	change(`mirror`, func(o impl.Order, words []string) (impl.Order, bool) { return slowTurned(o), true })
	ask(`text`, func(o impl.Order, words []string) (any, bool) { return slowOrderText(o), true })
	ask(`kind`, func(o impl.Order, words []string) (any, bool) { return slowKind(o), true })
	ask(`refuse`, func(o impl.Order, words []string) (any, bool) { return slowRefusal(o) })
	ask(`places `+aNumber, func(o impl.Order, words []string) (any, bool) {
		if !isSlowThreshold(words[1]) {
			return nil, false
		}
		return slowLeastPlaces(o, numberIn(words[1]))
	})
	ask(`cycle `+aNumber, func(o impl.Order, words []string) (any, bool) {
		if !isSlowThreshold(words[1]) {
			return nil, false
		}
		return slowCycle(o, numberIn(words[1]))
	})
	ask(`least`, func(o impl.Order, words []string) (any, bool) { return slowLeast(o) })
	ask(`trace`, func(o impl.Order, words []string) (any, bool) {
		return slowLevelsOf(slowTraceOrder(o)), isSlowSemiorder(o)
	})
	ask(`steps`, func(o impl.Order, words []string) (any, bool) {
		_, stair := slowTrace(o)
		return stair, isSlowSemiorder(o)
	})
	ask(`choose `+aNumber, func(o impl.Order, words []string) (any, bool) {
		set := numberIn(words[1])
		if set >= 1<<o.Size {
			return nil, false
		}
		return slowChoice(o, set), true
	})
	ask(`near `+aNumber, func(o impl.Order, words []string) (any, bool) { return slowNearText(o, numberIn(words[1])) })
	ask(`count`, func(o impl.Order, words []string) (any, bool) {
		return slowCount(gridFrom(o), 1<<o.Size-1, map[int]int{0: 1}), true
	})
	return rows
}

// slowLine executes a line as the first row of the table does that is about it.
func slowLine(rows []slowRow, o impl.Order, line string) (impl.Order, string) {
	for _, row := range rows {
		if row.lines.MatchString(line) {
			return row.run(o, strings.Split(line, " "))
		}
	}
	return o, "what"
}

// scriptResult is what comes of a script.
type scriptResult struct {
	replies []string
	desk    impl.Order
	failed  []int
	ok      bool
}

func slowScript(rows []slowRow, s string) scriptResult {
	lines := strings.SplitAfter(s, "\n")
	last := len(lines) - 1
	if len(s) > 3000 || lines[last] != "" || last > 50 {
		return scriptResult{}
	}
	result := scriptResult{desk: rel(3), ok: true}
	for k, line := range lines[:last] {
		var reply string
		result.desk, reply = slowLine(rows, result.desk, line[:len(line)-1])
		result.replies = append(result.replies, reply)
		if reply == "no" || reply == "what" {
			result.failed = append(result.failed, k+1)
		}
	}
	return result
}

// scriptCalls returns what the functions on scripts tell, and whether all of them succeed or all fail.
func scriptCalls(s string) (scriptResult, bool) {
	replies, ok := impl.RunScript(s)
	desk, deskOk := impl.DeskAfter(s)
	failed, failedOk := impl.FailedLines(s)
	return scriptResult{replies, desk, failed, ok}, ok == deskOk && ok == failedOk
}

func sameResult(x, y scriptResult) bool {
	return slices.Equal(x.replies, y.replies) && sameOrder(x.desk, y.desk) && slices.Equal(x.failed, y.failed) && x.ok == y.ok
}

func numberIn(word string) int {
	number, err := strconv.Atoi(word)
	if err != nil {
		panic(err)
	}
	return number
}

func listIn(word string) []int {
	var list []int
	if word == "-" {
		return list
	}
	for _, part := range strings.Split(word, ",") {
		list = append(list, numberIn(part))
	}
	return list
}

func isSlowThreshold(word string) bool {
	return numberIn(word) >= 1 && numberIn(word) <= 10
}

// slowParsed returns the order that has a text.
func slowParsed(text string) (impl.Order, bool) {
	o := ord(text)
	return o, o.Size <= 10 && slowOrderText(o) == text && isOrderGrid(gridFrom(o))
}

func slowOrderOfStair(list []int) (impl.Order, bool) {
	if len(list) > 10 || !slices.IsSorted(list) {
		return impl.Order{}, false
	}
	o := rel(len(list))
	for j, number := range list {
		if number > j {
			return impl.Order{}, false
		}
		for i := range number {
			o.Above[i] |= 1 << j
		}
	}
	return o, true
}

func slowAdded(o impl.Order, i, j int) (impl.Order, bool) {
	if i >= o.Size || j >= o.Size {
		return impl.Order{}, false
	}
	g := gridFrom(o)
	g[i][j] = true
	g = paths(g)
	return fromGrid(g), isOrderGrid(g)
}

func slowTurned(o impl.Order) impl.Order {
	g := gridFrom(o)
	turned := rel(o.Size)
	for i := range g {
		for j := range g {
			if g[j][i] {
				turned.Above[i] |= 1 << j
			}
		}
	}
	return turned
}

func slowKind(o impl.Order) string {
	kind := 0
	for !isSlowOfKind(o, kind) {
		kind++
	}
	return []string{"weak", "semi", "interval", "order"}[kind]
}

func slowRefusal(o impl.Order) ([]int, bool) {
	switch slowKind(o) {
	case "semi":
		return firstTwoOne(o), true
	case "interval":
		return firstAside(o), true
	default:
		return nil, false
	}
}

func slowLeast(o impl.Order) (int, bool) {
	for threshold := 1; threshold <= 10; threshold++ {
		if _, ok := slowLeastPlaces(o, threshold); ok {
			return threshold, true
		}
	}
	return 0, false
}

// knownOrders has for each number of elements the orders of each kind.
var knownOrders = sync.OnceValue(func() [][4][]impl.Order {
	var known [][4][]impl.Order
	for size := range 5 {
		known = append(known, slowOrdersOf(size))
	}
	return known
})

func slowNearText(o impl.Order, kind int) (string, bool) {
	if o.Size > 4 || kind > 3 {
		return "", false
	}
	orders := knownOrders()[o.Size][kind]
	nearest := orders[0]
	for _, p := range orders {
		if slowApart(o, p) < slowApart(o, nearest) {
			nearest = p
		}
	}
	return fmt.Sprint(slowOrderText(nearest), " ", slowApart(o, nearest)), true
}

// slowCount counts the lists of the elements that are left, none of which stands before one below it; known are the counts for some of the sets that are left.
func slowCount(g [][]bool, left int, known map[int]int) int {
	if count, met := known[left]; met {
		return count
	}
	count := 0
	for _, i := range membersOf(left) {
		if !slices.ContainsFunc(membersOf(left), func(j int) bool { return g[j][i] }) {
			count += slowCount(g, left-1<<i, known)
		}
	}
	known[left] = count
	return count
}

// noNumbers are words that are no numbers as a line has them; none has a blank or a comma.
func noNumbers() []string {
	return []string{
		"", "-", "--", "+", "00", "01", "007", "000001", "0000000", "0000001", "+0", "+1", "+01", "-0", "-1", "-999999", "--1", "1000000", "1000001", "9999999", "9223372036854775807", "9223372036854775808", "-9223372036854775808",
		"4294967296", "4294967297", "18446744073709551616", "18446744073709551617", "-18446744073709551615", "100000000000000000000000000000", strings.Repeat("0", 500), strings.Repeat("1", 500),
		"a", "A", "x", "O", "l", "one", "1a", "a1", "0x1", "0b1", "0o1", "1_0", "0_1", "_1", "1e0", "1.0", "1.", ".1", "0.", "1/1", "1:", "1;", "#1", "'1'", "\"1\"", "(1)", "[1]", "\t1", "1\t", "1\r", "\r", "\t", "\x00", "1\x00", "\x001", "1\xff", "\xff", "１", "١", "²", "1\u00a0", "\u00a01",
	}
}

// someNumbers are words that are numbers.
func someNumbers() []string {
	return []string{"0", "1", "2", "3", "4", "5", "6", "7", "8", "9", "10", "11", "12", "15", "16", "63", "64", "65", "100", "511", "1023", "1024", "99999", "100000", "999998", "999999"}
}

// goodLines are lines of each row of the table, on an order of at least 2 elements.
func goodLines() []string {
	return []string{"order 2:01/00", "stair 0,1", "levels 1,0", "add 0 1", "mirror", "text", "kind", "refuse", "places 2", "cycle 1", "least", "trace", "steps", "choose 3", "near 0", "count"}
}

// spoiltLines are lines that are none of the table, but nearly so.
func spoiltLines() []string {
	lines := []string{"", " ", "  ", "   ", "fly", "ok", "no", "what", "-", "0", "1 2", "0 1 2", "order", "stair", "levels", "add", "places", "cycle", "choose", "near", "order  ", "add 0", "add 0 ", "add  0", "add   ", "add 0,1", "add 0,1 1", "add - -", "add 0 1 2", "desk", "quit", "help", "?", "\t", "\r", "\x00", "\xff", "#text"}
	for _, good := range goodLines() {
		name, rest, _ := strings.Cut(good, " ")
		behind := strings.TrimPrefix(good, name)
		lines = append(lines,
			" "+good, "  "+good, good+"  ", good+" 0", good+" 0 0", good+" x", good+" "+good, good+","+good, good+";", good+"\t", good+"\r", "\t"+good, "\r"+good, good+"\x00", "\x00"+good, "\ufeff"+good,
			name+"  "+rest, name+"\t"+rest, name+rest, name+","+rest, name+"_"+rest, name+" - -", name+" 0 0 0",
			strings.ToUpper(name)+behind, strings.ToUpper(name[:1])+name[1:]+behind, name[:len(name)-1]+behind, name[1:]+behind, name[:1]+behind, name+"s"+behind, name+name+behind, name+"\x00"+behind, name+":"+behind,
		)
		if name != "order" {
			lines = append(lines, name+" ", name+" x", name+" 2:01/00", good+" ")
		} else {
			lines = append(lines, good+" ")
		}
	}
	return slices.DeleteFunc(lines, func(line string) bool {
		// Whatever is the second word of two, it is what the order should be read from.
		return slices.Contains(goodLines(), line) || strings.HasPrefix(line, "order ") && strings.Count(line, " ") == 1
	})
}

// lineOf returns a line, most often one of the table.
func (n *numbers) line(size int) string {
	number := func() string { return strconv.Itoa(n.below(size + 1 + n.below(2)*n.below(3))) }
	pick := func(words ...string) string { return words[n.below(len(words))] }
	switch n.below(14) {
	case 0:
		return "order " + slowOrderText(n.order(n.below(11), 1+n.below(3)))
	case 1:
		return "order " + slowOrderText(n.relation(n.below(5), n.below(5)))
	case 2:
		list := make([]int, n.below(11))
		for i := range list {
			list[i] = n.below(i + 1)
		}
		slices.Sort(list)
		return "stair " + listWord(list)
	case 3:
		return "levels " + listWord(n.levels(n.below(11), 1+n.below(6)))
	case 4, 5, 6, 7:
		return "add " + number() + " " + number()
	case 8:
		return pick("places ", "cycle ") + strconv.Itoa(n.below(12))
	case 9:
		return "choose " + strconv.Itoa(n.below(2<<size))
	case 10:
		return "near " + strconv.Itoa(n.below(5))
	case 11:
		return pick(spoiltLines()...)
	case 12:
		return pick("add ", "places ", "stair ", "levels ", "choose ", "near ") + pick(noNumbers()...)
	default:
		return pick("mirror", "text", "kind", "refuse", "least", "trace", "steps", "count")
	}
}

// listWord returns a list as a line has it.
func listWord(list []int) string {
	if len(list) == 0 {
		return "-"
	}
	return slowText(list)
}

// consoleDesks are orders of all kinds and sizes.
func consoleDesks() []impl.Order {
	n := numbers(1010)
	desks := slices.Concat(smallOrders(), asideOrders(), refusedOrders(), []impl.Order{{}, {Above: []int{}}})
	for size := range 11 {
		desks = append(desks, rel(size), chainOf(size), n.order(size, 2), n.order(size, 4), slowOrder(n.intervals(size, 0, 4)), slowOrderOfPlaces(3, n.shuffled(size)), slowOrderOfLevels(n.levels(size, 4)))
	}
	return desks
}
