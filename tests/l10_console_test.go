package tests

import (
	"fmt"
	"slices"
	"strings"
	"testing"

	"loop.example/g01106/impl"
)

// toldLine is a line with the text of the order before it and behind it, which is empty if nothing changes, and its reply, all worked out by hand.
type toldLine struct {
	desk, line, after, reply string
}

const (
	noneBetter  = "3:000/000/000"
	bentText    = "3:010/000/000"
	risingText  = "3:011/001/000"
	twoBestText = "3:011/000/000"
	asideText   = "4:0110/0010/0000/0000" // a chain of three, and an element that is indifferent to all of them
	pairsText   = "4:0100/0000/0001/0000" // two pairs
)

// flatText and highText are the texts of the orders of ten elements none of which is better than another one, and each of which is better than those before it.
func flatText() string {
	return "10:" + strings.Repeat("0000000000/", 9) + "0000000000"
}

func highText() string {
	return "10:0111111111/0011111111/0001111111/0000111111/0000011111/0000001111/0000000111/0000000011/0000000001/0000000000"
}

func ordersTold() []toldLine {
	return []toldLine{
		{noneBetter, "order 2:01/00", "2:01/00", "ok"}, {noneBetter, "order 0:", "0:", "ok"}, {"0:", "order 1:0", "1:0", "ok"}, {"0:", "order 0:", "", "ok"}, {noneBetter, "order " + flatText(), flatText(), "ok"}, {"1:0", "order " + highText(), highText(), "ok"}, {highText(), "order " + pairsText, pairsText, "ok"}, {bentText, "order 3:000/000/110", "3:000/000/110", "ok"},
		// Relations that are no orders.
		{noneBetter, "order 1:1", "", "no"}, {bentText, "order 2:01/10", "", "no"}, {"0:", "order 3:010/001/000", "", "no"}, {bentText, "order 3:010/001/100", "", "no"}, {noneBetter, "order 2:11/00", "", "no"}, {noneBetter, "order 10:" + strings.Repeat("0000000000/", 9) + "0000000001", "", "no"},
		// Texts of nothing.
		{noneBetter, "order ", "", "no"}, {bentText, "order -", "", "no"}, {bentText, "order 0", "", "no"}, {bentText, "order 3", "", "no"}, {bentText, "order 3:", "", "no"}, {bentText, "order x", "", "no"}, {bentText, "order 3:000/000", "", "no"}, {bentText, "order 3:000/000/000/", "", "no"}, {bentText, "order 3:000/000/002", "", "no"}, {bentText, "order 03:000/000/000", "", "no"},
		{bentText, "order 11:" + strings.Repeat("00000000000/", 10) + "00000000000", "", "no"}, {bentText, "order -1:", "", "no"}, {bentText, "order 3:000,000,000", "", "no"}, {bentText, "order 3:000/000/000\t", "", "no"}, {bentText, "order \t3:000/000/000", "", "no"}, {bentText, "order 3:000/000/000\r", "", "no"}, {bentText, "order \x00", "", "no"}, {bentText, "order \xff", "", "no"}, {bentText, "order order", "", "no"}, {bentText, "order kind", "", "no"},
		// Words too few and too many.
		{bentText, "order", "", "what"}, {bentText, "order  ", "", "what"}, {bentText, "order  2:01/00", "", "what"}, {bentText, "order 2:01/00 ", "", "what"}, {bentText, "order 2:01/00 2:01/00", "", "what"}, {bentText, "order 2: 01/00", "", "what"}, {bentText, "order x y", "", "what"}, {bentText, " order 2:01/00", "", "what"},
	}
}

func listsTold() []toldLine {
	zeros := strings.TrimSuffix(strings.Repeat("0,", 10), ",")
	return []toldLine{
		{noneBetter, "stair -", "0:", "ok"}, {noneBetter, "stair 0", "1:0", "ok"}, {noneBetter, "stair 0,0", "2:00/00", "ok"}, {noneBetter, "stair 0,1", "2:01/00", "ok"}, {highText(), "stair 0,0,1", "3:001/000/000", "ok"}, {"0:", "stair 0,0,2", "3:001/001/000", "ok"}, {"0:", "stair 0,1,1", twoBestText, "ok"}, {"0:", "stair 0,1,2", risingText, "ok"}, {"0:", "stair 0,1,2,3,4,5,6,7,8,9", highText(), "ok"}, {"0:", "stair " + zeros, flatText(), "ok"},
		{bentText, "stair 1", "", "no"}, {bentText, "stair 0,2", "", "no"}, {bentText, "stair 0,1,0", "", "no"}, {bentText, "stair 0,0,3", "", "no"}, {bentText, "stair 999999", "", "no"}, {bentText, "stair 0,999999", "", "no"}, {bentText, "stair " + zeros + ",0", "", "no"}, {bentText, "stair 0,1,2,3,4,5,6,7,8,9,10", "", "no"}, {bentText, "stair 0,1,2,3,4,5,6,7,8,10", "", "no"}, {bentText, "stair 0" + strings.Repeat(",0", 1000), "", "no"},
		{noneBetter, "levels -", "0:", "ok"}, {noneBetter, "levels 0", "1:0", "ok"}, {noneBetter, "levels 1,0", "2:00/10", "ok"}, {noneBetter, "levels 0,1,0", "3:010/000/010", "ok"}, {noneBetter, "levels 0,1,1", twoBestText, "ok"}, {noneBetter, "levels 0,1,2", risingText, "ok"}, {noneBetter, "levels 2,0,1", "3:000/101/100", "ok"}, {"0:", "levels 0,1,2,3,4,5,6,7,8,9", highText(), "ok"}, {"0:", "levels " + zeros, flatText(), "ok"},
		{bentText, "levels 1", "", "no"}, {bentText, "levels 0,2", "", "no"}, {bentText, "levels 1,1", "", "no"}, {bentText, "levels 999999", "", "no"}, {bentText, "levels 0,999999", "", "no"}, {bentText, "levels " + zeros + ",0", "", "no"}, {bentText, "levels 0,1,2,3,4,5,6,7,8,9,10", "", "no"}, {bentText, "levels 0" + strings.Repeat(",0", 1000), "", "no"},
		{bentText, "stair", "", "what"}, {bentText, "stair ", "", "what"}, {bentText, "stair  ", "", "what"}, {bentText, "stair 0 0", "", "what"}, {bentText, "stair 0 1", "", "what"}, {bentText, "stair 0,1 ", "", "what"}, {bentText, "stair  0,1", "", "what"}, {bentText, "stair 0, 1", "", "what"}, {bentText, "stair - ", "", "what"}, {bentText, "stair  -", "", "what"}, {bentText, "stair - -", "", "what"},
		{bentText, "levels", "", "what"}, {bentText, "levels ", "", "what"}, {bentText, "levels  ", "", "what"}, {bentText, "levels 0 0", "", "what"}, {bentText, "levels 0 1", "", "what"}, {bentText, "levels 0,1 ", "", "what"}, {bentText, "levels  0,1", "", "what"}, {bentText, "levels 0, 1", "", "what"}, {bentText, "levels - ", "", "what"}, {bentText, "levels  -", "", "what"}, {bentText, "levels - -", "", "what"},
		// What makes no list comes before what makes no stair or no levels.
		{bentText, "stair 5,x", "", "what"}, {bentText, "levels 5,x", "", "what"}, {bentText, "stair " + zeros + ",0,", "", "what"}, {bentText, "levels " + zeros + ",0,01", "", "what"},
	}
}

func addedTold() []toldLine {
	nine := "10:" + strings.Repeat("0000000000/", 9) + "1000000000"
	return []toldLine{
		{noneBetter, "add 0 1", bentText, "ok"}, {noneBetter, "add 1 0", "3:000/100/000", "ok"}, {noneBetter, "add 2 1", "3:000/000/010", "ok"}, {bentText, "add 0 2", twoBestText, "ok"}, {"2:00/00", "add 0 1", "2:01/00", "ok"}, {flatText(), "add 9 0", nine, "ok"},
		// A pair that is there already.
		{bentText, "add 0 1", "", "ok"}, {highText(), "add 0 9", "", "ok"}, {nine, "add 9 0", "", "ok"}, {risingText, "add 0 2", "", "ok"},
		// A pair whose closure has more pairs.
		{bentText, "add 1 2", risingText, "ok"}, {bentText, "add 2 0", "3:010/000/110", "ok"}, {pairsText, "add 1 2", "4:0111/0011/0001/0000", "ok"}, {pairsText, "add 3 0", "4:0100/0000/1101/1100", "ok"}, {asideText, "add 2 3", "4:0111/0011/0001/0000", "ok"}, {asideText, "add 3 1", "4:0110/0010/0000/0110", "ok"},
		// A ring.
		{bentText, "add 1 0", "", "no"}, {risingText, "add 2 0", "", "no"}, {highText(), "add 9 0", "", "no"}, {nine, "add 0 9", "", "no"}, {noneBetter, "add 0 0", "", "no"}, {noneBetter, "add 2 2", "", "no"}, {bentText, "add 0 0", "", "no"}, {bentText, "add 1 1", "", "no"}, {"1:0", "add 0 0", "", "no"}, {flatText(), "add 9 9", "", "no"},
		// No elements.
		{noneBetter, "add 0 3", "", "no"}, {noneBetter, "add 3 0", "", "no"}, {noneBetter, "add 3 3", "", "no"}, {noneBetter, "add 2 4", "", "no"}, {noneBetter, "add 0 999999", "", "no"}, {noneBetter, "add 999999 0", "", "no"}, {noneBetter, "add 64 1", "", "no"}, {noneBetter, "add 0 65", "", "no"}, {"0:", "add 0 0", "", "no"}, {"0:", "add 0 1", "", "no"}, {"1:0", "add 0 1", "", "no"}, {"1:0", "add 1 0", "", "no"}, {flatText(), "add 0 10", "", "no"}, {flatText(), "add 10 0", "", "no"}, {bentText, "add 1 3", "", "no"},
		// No numbers come before no elements.
		{noneBetter, "add 0 1000000", "", "what"}, {noneBetter, "add 1000000 0", "", "what"}, {noneBetter, "add 9 x", "", "what"}, {noneBetter, "add x 9", "", "what"}, {noneBetter, "add 0 -", "", "what"}, {noneBetter, "add - 0", "", "what"}, {noneBetter, "add 0 01", "", "what"}, {noneBetter, "add 00 1", "", "what"}, {noneBetter, "add 0 -1", "", "what"}, {noneBetter, "add 0 0,1", "", "what"}, {noneBetter, "add 0,1 1", "", "what"},
		{noneBetter, "add", "", "what"}, {noneBetter, "add ", "", "what"}, {noneBetter, "add 0", "", "what"}, {noneBetter, "add 0,1", "", "what"}, {noneBetter, "add 0 ", "", "what"}, {noneBetter, "add  0", "", "what"}, {noneBetter, "add  ", "", "what"}, {noneBetter, "add  0 1", "", "what"}, {noneBetter, "add 0  1", "", "what"}, {noneBetter, "add 0 1 ", "", "what"}, {noneBetter, "add 0 1 2", "", "what"}, {noneBetter, " add 0 1", "", "what"}, {noneBetter, "sum 0 1", "", "what"}, {noneBetter, "Add 0 1", "", "what"}, {noneBetter, " 0 1", "", "what"},
	}
}

func kindsTold() []toldLine {
	return []toldLine{
		{noneBetter, "mirror", "", "ok"}, {"0:", "mirror", "", "ok"}, {"1:0", "mirror", "", "ok"}, {bentText, "mirror", "3:000/100/000", "ok"}, {twoBestText, "mirror", "3:000/100/100", "ok"}, {risingText, "mirror", "3:000/100/110", "ok"}, {flatText(), "mirror", "", "ok"}, {"3:000/000/010", "mirror", "3:000/001/000", "ok"},
		{noneBetter, "text", "", noneBetter}, {"0:", "text", "", "0:"}, {"1:0", "text", "", "1:0"}, {bentText, "text", "", bentText}, {highText(), "text", "", highText()}, {flatText(), "text", "", flatText()}, {pairsText, "text", "", pairsText},
		{noneBetter, "kind", "", "weak"}, {"0:", "kind", "", "weak"}, {"1:0", "kind", "", "weak"}, {risingText, "kind", "", "weak"}, {twoBestText, "kind", "", "weak"}, {highText(), "kind", "", "weak"}, {flatText(), "kind", "", "weak"}, {bentText, "kind", "", "semi"}, {"4:0011/0001/0000/0000", "kind", "", "semi"}, {asideText, "kind", "", "interval"}, {"5:01110/00110/00010/00000/00000", "kind", "", "interval"}, {pairsText, "kind", "", "order"}, {"4:0001/0010/0000/0000", "kind", "", "order"}, {"6:010000/000000/000100/000000/000001/000000", "kind", "", "order"},
		// A chain of three and an element aside, beside two pairs.
		{"5:01100/00100/00000/00001/00000", "kind", "", "order"}, {"5:01100/00100/00000/00001/00000", "refuse", "", "no"},
		{noneBetter, "refuse", "", "no"}, {"0:", "refuse", "", "no"}, {risingText, "refuse", "", "no"}, {highText(), "refuse", "", "no"}, {bentText, "refuse", "", "0,1,2"}, {"3:000/000/100", "refuse", "", "2,0,1"}, {"4:0011/0001/0000/0000", "refuse", "", "0,2,1"}, {asideText, "refuse", "", "0,1,2,3"}, {"5:01110/00110/00010/00000/00000", "refuse", "", "0,1,2,4"}, {"4:0000/0001/0101/0000", "refuse", "", "2,1,3,0"}, {"4:0000/0011/0001/0000", "refuse", "", "1,2,3,0"}, {pairsText, "refuse", "", "no"},
		{bentText, "least", "", "2"}, {noneBetter, "least", "", "1"}, {"0:", "least", "", "1"}, {highText(), "least", "", "1"}, {twoBestText, "least", "", "1"}, {"4:0011/0001/0000/0000", "least", "", "2"}, {asideText, "least", "", "no"}, {pairsText, "least", "", "no"},
		{bentText, "trace", "", "0,2,1"}, {noneBetter, "trace", "", "0,0,0"}, {"0:", "trace", "", "-"}, {"1:0", "trace", "", "0"}, {twoBestText, "trace", "", "0,1,1"}, {"4:0011/0001/0000/0000", "trace", "", "0,1,2,3"}, {highText(), "trace", "", "0,1,2,3,4,5,6,7,8,9"}, {asideText, "trace", "", "no"}, {pairsText, "trace", "", "no"},
		{bentText, "steps", "", "0,0,1"}, {noneBetter, "steps", "", "0,0,0"}, {"0:", "steps", "", "-"}, {"1:0", "steps", "", "0"}, {twoBestText, "steps", "", "0,1,1"}, {"3:000/100/100", "steps", "", "0,0,2"}, {highText(), "steps", "", "0,1,2,3,4,5,6,7,8,9"}, {asideText, "steps", "", "no"}, {pairsText, "steps", "", "no"},
		{noneBetter, "count", "", "6"}, {"0:", "count", "", "1"}, {"1:0", "count", "", "1"}, {bentText, "count", "", "3"}, {twoBestText, "count", "", "2"}, {risingText, "count", "", "1"}, {pairsText, "count", "", "6"}, {asideText, "count", "", "4"}, {flatText(), "count", "", "3628800"}, {highText(), "count", "", "1"},
	}
}

func numbersTold() []toldLine {
	return []toldLine{
		// Thresholds that are too small, too great, with places and without.
		{bentText, "places 2", "", "0,2,1"}, {bentText, "places 3", "", "0,3,1"}, {bentText, "places 10", "", "0,10,1"}, {bentText, "places 1", "", "no"}, {bentText, "places 0", "", "no"}, {bentText, "places 11", "", "no"}, {bentText, "places 999999", "", "no"}, {noneBetter, "places 1", "", "0,0,0"}, {twoBestText, "places 1", "", "0,1,1"}, {asideText, "places 2", "", "no"}, {asideText, "places 10", "", "no"}, {pairsText, "places 5", "", "no"},
		{"0:", "places 1", "", "-"}, {"0:", "places 10", "", "-"}, {"0:", "places 0", "", "no"}, {"0:", "places 11", "", "no"}, {"1:0", "places 4", "", "0"}, {highText(), "places 10", "", "0,10,20,30,40,50,60,70,80,90"}, {highText(), "places 11", "", "no"},
		{bentText, "cycle 1", "", "0,1,2"}, {bentText, "cycle 2", "", "no"}, {bentText, "cycle 0", "", "no"}, {bentText, "cycle 11", "", "no"}, {bentText, "cycle 999999", "", "no"}, {bentText, "cycle 10", "", "no"}, {"0:", "cycle 1", "", "no"}, {noneBetter, "cycle 1", "", "no"}, {highText(), "cycle 1", "", "no"}, {asideText, "cycle 11", "", "no"}, {pairsText, "cycle 1", "", "0,1,2,3"}, {pairsText, "cycle 10", "", "0,1,2,3"}, {asideText, "cycle 2", "", "0,1,2,3"},
		// Sets with all and with other elements.
		{noneBetter, "choose 0", "", "0"}, {noneBetter, "choose 7", "", "7"}, {noneBetter, "choose 5", "", "5"}, {noneBetter, "choose 8", "", "no"}, {noneBetter, "choose 9", "", "no"}, {noneBetter, "choose 999999", "", "no"}, {bentText, "choose 3", "", "2"}, {bentText, "choose 7", "", "6"}, {bentText, "choose 5", "", "5"}, {"0:", "choose 0", "", "0"}, {"0:", "choose 1", "", "no"}, {"1:0", "choose 1", "", "1"}, {"1:0", "choose 2", "", "no"}, {highText(), "choose 1023", "", "512"}, {highText(), "choose 1024", "", "no"}, {flatText(), "choose 682", "", "682"},
		{bentText, "near 0", "", "3:000/000/000 1"}, {bentText, "near 1", "", "3:010/000/000 0"}, {bentText, "near 2", "", "3:010/000/000 0"}, {bentText, "near 3", "", "3:010/000/000 0"}, {bentText, "near 4", "", "no"}, {bentText, "near 5", "", "no"}, {bentText, "near 999999", "", "no"}, {"0:", "near 0", "", "0: 0"}, {"0:", "near 3", "", "0: 0"}, {"0:", "near 4", "", "no"}, {"1:0", "near 0", "", "1:0 0"}, {asideText, "near 1", "", "4:0010/0010/0000/0000 1"}, {asideText, "near 2", "", asideText + " 0"}, {pairsText, "near 2", "", "4:0000/0000/0001/0000 1"}, {pairsText, "near 3", "", pairsText + " 0"},
		{"5:00000/00000/00000/00000/00000", "near 0", "", "no"}, {"5:00000/00000/00000/00000/00000", "near 3", "", "no"}, {highText(), "near 0", "", "no"},
	}
}

// TestLinesTold has lines of each row of the table, alone and in a script.
func TestLinesTold(t *testing.T) {
	told := slices.Concat(ordersTold(), listsTold(), addedTold(), kindsTold(), numbersTold())
	for _, c := range told {
		after := c.after
		if after == "" {
			after = c.desk
		}
		if o, reply, ok := impl.DeskLine(ord(c.desk), c.line); reply != c.reply || !sameOrder(o, ord(after)) || !ok {
			t.Errorf("line %.60q on %s: %v %q %v", c.line, c.desk, o, reply, ok)
		}
		script := "order " + c.desk + "\n" + c.line + "\ntext\n"
		want := scriptResult{replies: []string{"ok", c.reply, after}, desk: ord(after), ok: true}
		if c.reply == "no" || c.reply == "what" {
			want.failed = []int{2}
		}
		if got, agree := scriptCalls(script); !sameResult(got, want) || !agree {
			t.Errorf("script %.60q: %v", script, got)
		}
	}
}

func TestFirstDesk(t *testing.T) {
	if o := impl.FirstDesk(); !sameOrder(o, rel(3)) {
		t.Error("first desk", o)
	}
	if impl.MaxScript != 3000 || impl.MaxLines != 50 {
		t.Error("limits")
	}
}

// TestScriptsTold has scripts with all that comes of them.
func TestScriptsTold(t *testing.T) {
	cases := []struct {
		script string
		want   scriptResult
	}{
		{"", scriptResult{nil, rel(3), nil, true}},
		{"\n", scriptResult{[]string{"what"}, rel(3), []int{1}, true}},
		{" \n", scriptResult{[]string{"what"}, rel(3), []int{1}, true}},
		{"\n\n \n", scriptResult{[]string{"what", "what", "what"}, rel(3), []int{1, 2, 3}, true}},
		{"text\n", scriptResult{[]string{noneBetter}, rel(3), nil, true}},
		{"text\r\n", scriptResult{[]string{"what"}, rel(3), []int{1}, true}},
		{"add 0 1\nkind\nrefuse\nplaces 2\nsteps\nfly\n", scriptResult{[]string{"ok", "semi", "0,1,2", "0,2,1", "0,0,1", "what"}, ord(bentText), []int{6}, true}},
		{"add 0 1\nadd 1 0\nadd 1 2\n\ntext\nadd 2 0\nmirror\ntext\n", scriptResult{[]string{"ok", "no", "ok", "what", risingText, "no", "ok", "3:000/100/110"}, ord("3:000/100/110"), []int{2, 4, 6}, true}},
		{"order 0:\ntrace\nsteps\nplaces 1\nchoose 0\nnear 0\ncount\nleast\nkind\nrefuse\ncycle 1\nmirror\ntext\nadd 0 0\n", scriptResult{[]string{"ok", "-", "-", "-", "0", "0: 0", "1", "1", "weak", "no", "no", "ok", "0:", "no"}, rel(0), []int{10, 11, 14}, true}},
		{"stair 0,0,1,1\nkind\nlevels 1,0\ntext\nstair 1\nlevels 1\nstair 0,x\nlevels 0,\ntext\nlevels -\nstair -\n", scriptResult{[]string{"ok", "semi", "ok", "2:00/10", "no", "no", "what", "what", "2:00/10", "ok", "ok"}, rel(0), []int{5, 6, 7, 8}, true}},
		// A ring that is refused, and a demand cycle that one more pair undoes.
		{"levels 0,1,2,3\nnear 0\nchoose 15\nadd 3 0\nadd 0 3\ncount\norder 4:0100/0000/0001/0000\nkind\ncycle 3\nadd 1 2\nkind\nleast\n", scriptResult{[]string{"ok", "4:0111/0011/0001/0000 0", "8", "no", "ok", "1", "ok", "order", "0,1,2,3", "ok", "weak", "1"}, chainOf(4), []int{4}, true}},
	}
	for _, c := range cases {
		if got, agree := scriptCalls(c.script); !sameResult(got, c.want) || !agree {
			t.Errorf("script %q: %v", c.script, got)
		}
	}
}

func TestWhatIsNoScript(t *testing.T) {
	exact := strings.Repeat(strings.Repeat("x", 59)+"\n", 50)
	bad := []string{
		"text", " ", "x", "add 0 1\nkind", "add 0 1\nkind\nrefuse\nplaces 2\nsteps\nfly", "\n ", "\n\nx", "\r", "text\r", "text\n\r", "text\n\x00",
		strings.Repeat("\n", 51), strings.Repeat("text\n", 51), strings.Repeat("text\n", 50) + "text", strings.Repeat("text\n", 50) + "\n", strings.Repeat("text\n", 60), strings.Repeat("\n", 3000), strings.Repeat("\n", 3001),
		strings.Repeat("x", 3000) + "\n", strings.Repeat("x", 3000), strings.Repeat("x", 2999), strings.Repeat("x", 3001) + "\n", strings.Repeat("x", 100000), "x" + exact, exact + "\n", exact[1:] + "x", exact[:2999], exact + exact, "text\n" + strings.Repeat("x", 2995) + "\n", "text\n" + strings.Repeat("x", 2995),
	}
	for _, s := range bad {
		if got, agree := scriptCalls(s); !sameResult(got, scriptResult{}) || !agree {
			t.Errorf("script %.60q: %v", s, got)
		}
	}
}

// TestScriptLimits has scripts that just meet the limits.
func TestScriptLimits(t *testing.T) {
	all := []int{}
	for k := range 50 {
		all = append(all, k+1)
	}
	exact := strings.Repeat(strings.Repeat("x", 59)+"\n", 50)
	cases := []struct {
		script string
		want   scriptResult
	}{
		{strings.Repeat("\n", 50), scriptResult{slices.Repeat([]string{"what"}, 50), rel(3), all, true}},
		{strings.Repeat("text\n", 50), scriptResult{slices.Repeat([]string{noneBetter}, 50), rel(3), nil, true}},
		{strings.Repeat("text\n", 49), scriptResult{slices.Repeat([]string{noneBetter}, 49), rel(3), nil, true}},
		{exact, scriptResult{slices.Repeat([]string{"what"}, 50), rel(3), all, true}},
		{exact[1:], scriptResult{slices.Repeat([]string{"what"}, 50), rel(3), all, true}},
		{strings.Repeat("x", 2999) + "\n", scriptResult{[]string{"what"}, rel(3), []int{1}, true}},
		{"order " + strings.Repeat("x", 2993) + "\n", scriptResult{[]string{"no"}, rel(3), []int{1}, true}},
		{"stair 0" + strings.Repeat(",0", 1496) + "\n", scriptResult{[]string{"no"}, rel(3), []int{1}, true}},
		{"text\n" + strings.Repeat(" ", 2994) + "\n", scriptResult{[]string{noneBetter, "what"}, rel(3), []int{2}, true}},
		{strings.Repeat("x", 2944) + "\n" + strings.Repeat("\n", 48) + "text\n", scriptResult{append(slices.Repeat([]string{"what"}, 49), noneBetter), rel(3), all[:49], true}},
		{strings.Repeat("levels 0,1,0\n", 49) + "mirror\n", scriptResult{slices.Repeat([]string{"ok"}, 50), ord("3:000/101/000"), nil, true}},
	}
	for _, c := range cases {
		if got, agree := scriptCalls(c.script); !sameResult(got, c.want) || !agree {
			t.Errorf("script %.60q: %v", c.script, got)
		}
	}
	// A line may be as long as a script.
	lines := []struct {
		line, reply string
	}{
		{strings.Repeat("x", 2999), "what"}, {strings.Repeat("x", 3000), "what"}, {strings.Repeat(" ", 3000), "what"}, {"order " + strings.Repeat("x", 2994), "no"}, {"stair 00" + strings.Repeat(",0", 1496), "what"}, {"stair 10" + strings.Repeat(",0", 1496), "no"}, {"text" + strings.Repeat(" ", 2996), "what"}, {strings.Repeat("\x00", 3000), "what"},
	}
	for _, c := range lines {
		if o, reply, ok := impl.DeskLine(chainOf(4), c.line); reply != c.reply || !sameOrder(o, chainOf(4)) || !ok {
			t.Errorf("line %.60q: %v %q %v", c.line, o, reply, ok)
		}
	}
	for _, line := range []string{strings.Repeat("x", 3001), strings.Repeat(" ", 3001), "order " + strings.Repeat("x", 2995), "order 1:0" + strings.Repeat(" ", 2992), strings.Repeat("\n", 3001), strings.Repeat("x", 6000), strings.Repeat("x", 100000)} {
		checkNoLine(t, chainOf(4), line)
	}
}

// checkNoLine reports if a line is executed on a desk.
func checkNoLine(t *testing.T, desk impl.Order, line string) {
	t.Helper()
	if o, reply, ok := impl.DeskLine(desk, line); !isZero(o) || reply != "" || ok {
		t.Errorf("line %.60q on %v: %v %q %v", line, desk, o, reply, ok)
	}
}

func TestWhatIsNoLine(t *testing.T) {
	for _, line := range append(goodLines(), "", "fly", "order ", "add 0 0", strings.Repeat("x", 2999)) {
		for _, broken := range []string{line + "\n", "\n" + line, line + "\n" + line, line + "\n ", line + "\r\n"} {
			checkNoLine(t, rel(3), broken)
			checkNoLine(t, rel(0), broken)
		}
	}
	checkNoLine(t, rel(3), "te\nxt")
	checkNoLine(t, rel(3), "add\n0 1")
	checkNoLine(t, rel(3), strings.Repeat("\n", 3000))
	for _, line := range slices.Concat(goodLines(), spoiltLines(), []string{"order ", "order x", "add 0 0", "places 0", strings.Repeat("x", 3001), "\n"}) {
		for _, bad := range slices.Concat(badRelations(), badOrders()) {
			checkNoLine(t, bad, line)
		}
	}
}

// TestWordsOfLines has lines that are nearly some of the table, and those that they nearly are.
func TestWordsOfLines(t *testing.T) {
	for _, line := range goodLines() {
		if _, reply, ok := impl.DeskLine(ord(bentText), line); reply == "what" || !ok {
			t.Errorf("good line %q: %q %v", line, reply, ok)
		}
	}
	for _, line := range spoiltLines() {
		for _, desk := range []impl.Order{rel(0), rel(3), ord(bentText), chainOf(10)} {
			if o, reply, ok := impl.DeskLine(desk, line); reply != "what" || !sameOrder(o, desk) || !ok {
				t.Errorf("spoilt line %q: %v %q %v", line, o, reply, ok)
			}
		}
		if got, ok := impl.RunScript(line + "\n"); !slices.Equal(got, []string{"what"}) || !ok {
			t.Errorf("spoilt line %q in a script: %q %v", line, got, ok)
		}
	}
}

// TestNumbersOfLines has good and bad words in each place of a number.
func TestNumbersOfLines(t *testing.T) {
	single := []string{"places %", "cycle %", "choose %", "near %", "add % 0", "add 0 %", "add % %"}
	listed := []string{"stair %", "levels %", "stair 0,%", "levels 0,%", "stair %,0", "levels %,0", "stair 0,%,1", "levels 0,%,1", "stair %,%", "levels %,%"}
	for _, place := range slices.Concat(single, listed) {
		for _, word := range someNumbers() {
			line := strings.ReplaceAll(place, "%", word)
			if _, reply, ok := impl.DeskLine(chainOf(3), line); reply == "what" || !ok {
				t.Errorf("good line %q: %q %v", line, reply, ok)
			}
		}
		bad := noNumbers()
		if slices.Contains(single, place) {
			bad = append(bad, "0,1", "1,", ",1", ",", "1,1,1", "-,1")
		} else {
			bad = append(bad, ",", "0,", ",0", "0,,1", "-,0", "0,-", "0,01", "0,1000000", "0;1", "[0,1]", "0,+1", "0,-1", "0,1,", ",0,1")
		}
		for _, word := range bad {
			line := strings.ReplaceAll(place, "%", word)
			if line == "stair -" || line == "levels -" {
				continue
			}
			if o, reply, ok := impl.DeskLine(chainOf(3), line); reply != "what" || !sameOrder(o, chainOf(3)) || !ok {
				t.Errorf("bad line %.60q: %v %q %v", line, o, reply, ok)
			}
		}
	}
}

// TestListsOfLines has lists of all lengths, with and without room for them.
func TestListsOfLines(t *testing.T) {
	for length := range 13 {
		for _, c := range []struct {
			name string
			list []int
			want impl.Order
		}{
			{"stair ", make([]int, length), rel(min(length, 10))}, {"levels ", make([]int, length), rel(min(length, 10))}, {"stair ", steps(length, 1), chainOf(min(length, 10))}, {"levels ", steps(length, 1), chainOf(min(length, 10))},
		} {
			line := c.name + listWord(c.list)
			want := "ok"
			if length > 10 {
				c.want, want = ord(bentText), "no"
			}
			if o, reply, ok := impl.DeskLine(ord(bentText), line); reply != want || !sameOrder(o, c.want) || !ok {
				t.Error(fmt.Sprint("line ", line), o, reply, ok)
			}
		}
	}
}
