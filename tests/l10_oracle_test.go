package tests

import (
	"fmt"
	"slices"
	"strconv"
	"strings"
	"testing"

	"loop.example/g01106/impl"
)

// The functions of chapter 10 are compared with a table of the document's lines, on slow functions.

// linesToTry are lines of all rows of the table, and others.
func linesToTry() []string {
	lines := slices.Concat(goodLines(), []string{"", "fly", "order ", "order 3:010/001/000", "order 3:011/000/000", "stair -", "stair 0,0,1,1,3", "levels -", "levels 1,0,2,0", "choose 0", "choose 1023", "near 1", "near 2", "near 3", "near 4", "add 1 0", "add 2 0", "add 0 2", "add 1 1", "add 3 2", "add 9 4", "add 0 x"})
	for number := range 13 {
		lines = append(lines, fmt.Sprint("places ", number), fmt.Sprint("cycle ", number))
	}
	return lines
}

// TestLinesWordByWord executes lines on orders of all kinds and sizes.
func TestLinesWordByWord(t *testing.T) {
	rows := slowRows()
	met := map[string]int{}
	for _, desk := range consoleDesks() {
		for _, line := range linesToTry() {
			after, want := slowLine(rows, desk, line)
			o, reply, ok := impl.DeskLine(desk, line)
			if reply != want || !sameOrder(o, after) || !ok {
				t.Fatalf("line %q on %v: %v %q %v, and not %v %q", line, desk, o, reply, ok, after, want)
			}
			if (reply == "no" || reply == "what") && !sameOrder(o, desk) {
				t.Fatalf("line %q changes %v: %v", line, desk, o)
			}
			met[strings.Split(line, " ")[0]+" "+map[bool]string{true: "no"}[reply == "no"]]++
		}
	}
	for _, good := range goodLines() {
		name := strings.Split(good, " ")[0]
		never := slices.Contains([]string{"mirror", "text", "kind", "count"}, name)
		if met[name+" "] < 5 || !never && name != "stair" && name != "levels" && met[name+" no"] < 5 {
			t.Error("too few of a kind", name, met)
		}
	}
}

// TestScriptsWordByWord executes scripts of random lines.
func TestScriptsWordByWord(t *testing.T) {
	rows := slowRows()
	n := numbers(1020)
	for range 1500 {
		script := ""
		size := 3
		for range n.below(30) {
			longer := script + n.line(size) + "\n"
			if len(longer) > 3000 {
				break
			}
			script = longer
			size = slowScript(rows, script).desk.Size
		}
		want := slowScript(rows, script)
		if got, agree := scriptCalls(script); !sameResult(got, want) || !agree {
			t.Fatalf("script %q: %v, and not %v", script, got, want)
		}
		compareParts(t, script)
	}
}

// compareParts executes a script line by line, and cuts it in two.
func compareParts(t *testing.T, script string) {
	whole, _ := scriptCalls(script)
	desk := impl.FirstDesk()
	lines := strings.SplitAfter(script, "\n")
	for k, line := range lines[:len(lines)-1] {
		after, reply, ok := impl.DeskLine(desk, strings.TrimSuffix(line, "\n"))
		failed := reply == "no" || reply == "what"
		if reply != whole.replies[k] || slices.Contains(whole.failed, k+1) != failed || failed && !sameOrder(after, desk) || !ok {
			t.Fatalf("line %q of %q: %v %q %v", line, script, after, reply, ok)
		}
		desk = after
	}
	if !sameOrder(desk, whole.desk) {
		t.Fatalf("desk behind %q: %v", script, desk)
	}
	for k := range lines {
		first, agree := scriptCalls(strings.Join(lines[:k], ""))
		if !agree || !first.ok || !slices.Equal(first.replies, whole.replies[:k]) {
			t.Fatalf("first %d lines of %q: %v", k, script, first)
		}
		// The order behind the first lines is the first one of the others.
		rest := "order " + slowOrderText(first.desk) + "\n" + strings.Join(lines[k:], "")
		if len(rest) > 3000 {
			continue
		}
		second, agree := scriptCalls(rest)
		if !agree || !second.ok || !slices.Equal(second.replies[1:], whole.replies[k:]) || !sameOrder(second.desk, whole.desk) {
			t.Fatalf("lines behind %d of %q: %v", k, script, second)
		}
	}
}

// TestScriptEndsWordByWord cuts and doubles scripts near their limits.
func TestScriptEndsWordByWord(t *testing.T) {
	rows := slowRows()
	for lines := range 60 {
		for _, line := range []string{"", "text", "add 0 1", strings.Repeat("x", 58), strings.Repeat("x", 59), strings.Repeat("x", 60), strings.Repeat("x", 3000/max(1, lines)-1)} {
			script := strings.Repeat(line+"\n", lines)
			for _, s := range []string{script, script + "x", script + "\n", script + "text\n", strings.TrimSuffix(script, "\n"), "\n" + script, "x" + script, " \n" + script} {
				want := slowScript(rows, s)
				if got, agree := scriptCalls(s); !sameResult(got, want) || !agree {
					t.Fatalf("script %q: %v, and not %v", s, got, want)
				}
			}
		}
	}
}

// toldReply is the reply to a line that asks what a function returns.
func toldReply(answer any, ok bool) string {
	list, is := answer.([]int)
	switch {
	case !ok:
		return "no"
	case is:
		return listWord(list)
	default:
		return fmt.Sprint(answer)
	}
}

// TestLinesAreCalls is promise 10 for the lines that ask: each one replies what the function tells that it names.
func TestLinesAreCalls(t *testing.T) {
	ask := func(o impl.Order, line string, want string) {
		t.Helper()
		if after, reply, ok := impl.DeskLine(o, line); reply != want || !sameOrder(after, o) || !ok {
			t.Errorf("line %q on %v: %v %q %v, and not %q", line, o, after, reply, ok, want)
		}
	}
	for _, o := range append(consoleDesks(), mixedOrders()...) {
		text, ok := impl.OrderText(o)
		ask(o, "text", toldReply(text, ok))
		number, ok := impl.LeastThreshold(o)
		ask(o, "least", toldReply(number, ok))
		number, ok = impl.CountExtensions(o)
		ask(o, "count", toldReply(number, ok))
		list, ok := impl.TraceOf(o)
		ask(o, "trace", toldReply(list, ok))
		list, ok = impl.StairOf(o)
		ask(o, "steps", toldReply(list, ok))
		for threshold := range 12 {
			list, ok = impl.LeastPlaces(o, threshold)
			ask(o, fmt.Sprint("places ", threshold), toldReply(list, ok))
			list, ok = impl.DemandCycle(o, threshold)
			ask(o, fmt.Sprint("cycle ", threshold), toldReply(list, ok))
		}
		for _, set := range []int{0, 1, 1<<o.Size - 1, 1 << o.Size, 341, 999999} {
			number, ok = impl.ChoiceOf(o, set)
			ask(o, fmt.Sprint("choose ", set), toldReply(number, ok))
		}
		kind, refusal := toldKind(o)
		ask(o, "kind", kind)
		ask(o, "refuse", refusal)
	}
	for _, o := range consoleDesks() {
		for kind := range 6 {
			nearest, apart, ok := impl.NearestOf(o, kind)
			ask(o, fmt.Sprint("near ", kind), toldReply(slowOrderText(nearest)+" "+strconv.Itoa(apart), ok))
		}
	}
}

// toldKind returns the name of the kind of an order, and what refuses the one before it.
func toldKind(o impl.Order) (string, string) {
	if weak, _ := impl.IsWeak(o); weak {
		return "weak", "no"
	}
	if semi, _ := impl.IsSemiorder(o); semi {
		three, ok := impl.TwoOneOf(o)
		return "semi", toldReply(three, ok)
	}
	if interval, _ := impl.IsIntervalOrder(o); interval {
		four, ok := impl.ThreeOneOf(o)
		return "interval", toldReply(four, ok)
	}
	return "order", "no"
}

// TestChangesAreCalls is promise 10 for the lines that change the order.
func TestChangesAreCalls(t *testing.T) {
	change := func(o impl.Order, line string, want impl.Order, good bool) {
		t.Helper()
		reply := "ok"
		if !good {
			want, reply = o, "no"
		}
		if after, got, ok := impl.DeskLine(o, line); got != reply || !sameOrder(after, want) || !ok {
			t.Errorf("line %q on %v: %v %q %v, and not %v %q", line, o, after, got, ok, want, reply)
		}
	}
	desks := consoleDesks()
	for k, o := range desks {
		mirror, ok := impl.MirrorOf(o)
		change(o, "mirror", mirror, ok)
		other := desks[len(desks)-1-k]
		change(o, "order "+slowOrderText(other), other, true)
		for i := range o.Size + 2 {
			for j := range o.Size + 2 {
				good := i < o.Size && j < o.Size
				var wider impl.Order
				if good {
					wider = impl.Order{Size: o.Size, Above: slices.Clone(o.Above)}
					wider.Above[i] |= 1 << j
					wider, _ = impl.CloseRelation(wider)
				}
				change(o, fmt.Sprint("add ", i, " ", j), wider, good && impl.IsOrder(wider))
			}
		}
	}
	for _, bad := range append(badOrders(), allRelations(2)...) {
		change(chainOf(3), "order "+slowOrderText(bad), bad, impl.IsOrder(bad))
	}
	lists := slices.Concat(someLevels(), listsOf(3, 4), listsOf(4, 3), listsOf(0, 1), listsOf(1, 3))
	for size := range 7 {
		stairs, _ := impl.StairsOf(size)
		lists = append(lists, stairs...)
	}
	for _, list := range lists {
		o, ok := impl.OrderOfStair(list)
		change(chainOf(3), "stair "+listWord(list), o, ok)
		o, ok = impl.OrderOfLevels(list)
		change(chainOf(3), "levels "+listWord(list), o, ok)
	}
}
