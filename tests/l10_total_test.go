package tests

import (
	"fmt"
	"slices"
	"strings"
	"testing"

	"loop.example/g01106/impl"
)

// lineCall is DeskLine on a desk and a line.
func lineCall(o impl.Order, line string) call {
	return call{
		name: "DeskLine",
		args: func() []any { return []any{spareOrder(o), line} },
		run: func(args []any) []any {
			a, b, ok := impl.DeskLine(args[0].(impl.Order), args[1].(string))
			return []any{a, b, ok}
		},
	}
}

// consoleCalls are the functions of chapter 10 on scripts.
func consoleCalls(s string) []call {
	args := func() []any { return []any{s} }
	return []call{
		{"RunScript", args, func(args []any) []any { a, ok := impl.RunScript(args[0].(string)); return []any{a, ok} }},
		{"DeskAfter", args, func(args []any) []any { a, ok := impl.DeskAfter(args[0].(string)); return []any{a, ok} }},
		{"FailedLines", args, func(args []any) []any { a, ok := impl.FailedLines(args[0].(string)); return []any{a, ok} }},
	}
}

// oddTexts are texts of all bytes, and long ones.
func oddTexts() []string {
	texts := []string{"", "\x00", "\xff\xfe", "é", "text\x00", "order \xff:\x00", "stair \xff", strings.Repeat("\xff", 3000), strings.Repeat("1", 3000), "places " + strings.Repeat("9", 2993), "stair " + strings.Repeat("9,", 1496), "levels " + strings.Repeat("-,", 1496), "order 10:" + strings.Repeat("1", 2990), "order " + strings.Repeat("/", 2994), strings.Repeat("x", 3001), strings.Repeat("text\n", 20000), strings.Repeat(" ", 100000), "order " + strings.Repeat("1", 100000), "near -1", "choose -1", "add -1 -1", "add 9223372036854775808 0", "places -9223372036854775808"}
	for b := range 256 {
		texts = append(texts, string([]byte{byte(b)}), "text"+string([]byte{byte(b)}), "add 0"+string([]byte{byte(b)})+"1")
	}
	return texts
}

// TestLinesTotal is promise 11 for lines.
func TestLinesTotal(t *testing.T) {
	desks := slices.Concat(badRelations(), badOrders(), asideOrders(), refusedOrders(), smallOrders()[:40])
	for size := range 11 {
		desks = append(desks, rel(size), chainOf(size), ringOf(size))
	}
	lines := slices.Concat(linesToTry(), []string{"add 0 0", "text\n", "\n", " text", "text ", "order 0:", "order 1:1"})
	for _, o := range desks {
		for _, line := range lines {
			checkTotal(t, lineCall(o, line))
		}
	}
	for _, line := range slices.Concat(oddTexts(), spoiltLines()) {
		checkTotal(t, lineCall(rel(3), line))
		checkTotal(t, lineCall(impl.Order{Size: 2, Above: []int{3, 3}}, line))
	}
}

// TestScriptsTotal is promise 11 for scripts.
func TestScriptsTotal(t *testing.T) {
	for _, text := range slices.Concat(oddTexts(), linesToTry(), spoiltLines()) {
		for _, s := range []string{text, text + "\n", "add 0 1\n" + text + "\n" + text + "\nkind\n"} {
			for _, c := range consoleCalls(s) {
				checkTotal(t, c)
			}
		}
	}
}

// TestDesksAreOthers has lines behind which the order is the same: changing it, or what is behind its end, changes nothing else.
func TestDesksAreOthers(t *testing.T) {
	lines := []string{"", "fly", "text", "kind", "refuse", "places 2", "cycle 1", "least", "trace", "steps", "choose 0", "near 0", "count", "add 0 0", "order x", "stair 5", "levels 5", "stair x", "add 0 x", "mirror", "add 0 1"}
	for _, o := range consoleDesks() {
		for _, line := range lines {
			desk := spareOrder(o)
			before := fmt.Sprint(desk, numbersIn([]any{desk}))
			first, _, _ := impl.DeskLine(desk, line)
			second, _, _ := impl.DeskLine(desk, line)
			told := fmt.Sprint(second)
			scribble([]any{first})
			if now := fmt.Sprint(desk, numbersIn([]any{desk})); now != before || fmt.Sprint(second) != told {
				t.Fatalf("line %q on %v shares memory: %v %v", line, o, now, second)
			}
			third, _, _ := impl.DeskLine(second, line)
			told = fmt.Sprint(third)
			scribble([]any{second})
			if fmt.Sprint(third) != told {
				t.Fatalf("line %q on %v hands its order on", line, o)
			}
		}
	}
}

// TestConsoleKeepsNothing overwrites all results: the next calls tell the same.
func TestConsoleKeepsNothing(t *testing.T) {
	for range 3 {
		first := impl.FirstDesk()
		if !sameOrder(first, rel(3)) {
			t.Fatal("the first desk is kept", first)
		}
		scribble([]any{first})
		for _, script := range []string{"", "add 0 1\ntext\n", "text\nfly\nadd 0 0\n"} {
			want := slowScript(slowRows(), script)
			got, _ := scriptCalls(script)
			if !sameResult(got, want) {
				t.Fatalf("script %q: %v", script, got)
			}
			for k := range cap(got.replies) {
				got.replies[:cap(got.replies)][k] = "gone"
			}
			scribble([]any{got.desk, got.failed})
		}
	}
}
