package tests

import (
	"fmt"
	"math"
	"slices"
	"strings"

	"loop.example/g01106/impl"
)

// ascentCounts are the numbers of ascent sequences with 0, 1, .. numbers.
func ascentCounts() []int {
	return []int{1, 1, 2, 5, 15, 53, 217, 1014, 5335, 31240, 201608, 1422074, 10886503}
}

// turns returns 0, 1, 0, 1, .. with so many numbers.
func turns(length int) []int {
	list := make([]int, length)
	for i := range list {
		list[i] = i % 2
	}
	return list
}

// badAscents are lists that are no ascent sequences.
func badAscents() [][]int {
	lists := [][]int{
		{1}, {-1}, {2}, {12}, {1, 0}, {1, 2}, {1, 1}, {-1, 0}, {2, 0, 1}, {0, 2}, {0, -1}, {0, 0, 2}, {0, 0, -1}, {0, 1, 3}, {0, 1, 1, 3}, {0, 1, 0, 3}, {0, 1, -1, 2}, {0, -1, 0, 1},
		{0, 1, 0, 1, 4}, {0, 1, 2, 1, 4}, {0, 1, 2, 2, 1, 0, 4}, {0, 0, 1, 1, 2, 2, 4}, {0, 1, 2, 4}, {0, 1, 2, 3, 5, 4}, {0, 3, 1, 0}, {0, 1, 0, 2, 4, 0}, {0, 2, 1}, {0, 1, 3, 0},
		make([]int, 13), steps(13, 1), turns(13), make([]int, 14), make([]int, 64), steps(64, 1), make([]int, 1000),
		{math.MaxInt}, {math.MinInt}, {0, math.MaxInt}, {0, math.MinInt}, {0, 1, math.MaxInt}, {0, 1, math.MinInt}, {0, 1 << 32}, {1 << 32}, {0, 1, 1 << 32}, {0, 1, 0, 64},
	}
	for _, longest := range [][]int{make([]int, 12), steps(12, 1), turns(12)} {
		ascents := 0
		for i := range 11 {
			if i > 0 && longest[i-1] < longest[i] {
				ascents++
			}
		}
		for _, last := range []int{-1, ascents + 2, ascents + 3} {
			lists = append(lists, append(slices.Clone(longest[:11]), last))
		}
		lists = append(lists, append([]int{1}, longest[1:]...), append([]int{-1}, longest[1:]...))
	}
	return lists
}

// slowAscents counts the ascents of any list.
func slowAscents(list []int) int {
	count := 0
	for i := range list {
		if i+1 < len(list) && list[i] < list[i+1] {
			count++
		}
	}
	return count
}

// isSlowAscent reports whether a list is an ascent sequence.
func isSlowAscent(list []int) bool {
	for i, number := range list {
		if number < 0 || i == 0 && number != 0 || i > 0 && number > 1+slowAscents(list[:i]) {
			return false
		}
	}
	return len(list) <= 12
}

// allAscents returns all ascent sequences with so many numbers, in order.
func allAscents(n int) [][]int {
	lists := [][]int{{}}
	for range n {
		var longer [][]int
		for _, list := range lists {
			for number := range len(list) + 1 {
				if more := append(slices.Clone(list), number); isSlowAscent(more) {
					longer = append(longer, more)
				}
			}
		}
		lists = longer
	}
	return lists
}

// ascent returns an ascent sequence with so many numbers, which seldom rises for a small share.
func (n *numbers) ascent(length, share int) []int {
	list := []int{}
	for range length {
		greatest := 0
		if len(list) > 0 {
			greatest = 1 + slowAscents(list)
		}
		switch {
		case n.below(10) < share:
			list = append(list, greatest)
		case n.below(3) == 0 && len(list) > 0:
			list = append(list, list[len(list)-1])
		default:
			list = append(list, n.below(greatest+1))
		}
	}
	return list
}

// someAscents returns all ascent sequences with at most 6 numbers, and some of each greater length.
func someAscents() [][]int {
	n := numbers(71)
	lists := [][]int{nil}
	for length := range 7 {
		lists = append(lists, allAscents(length)...)
	}
	for length := 7; length <= impl.MaxAscent; length++ {
		lists = append(lists, make([]int, length), steps(length, 1), turns(length))
		for share := range 10 {
			for range 30 {
				lists = append(lists, n.ascent(length, share))
			}
		}
	}
	return lists
}

// slowModified returns a modified list, found by looking at one ascent after the other.
func slowModified(list []int) []int {
	modified := append([]int{}, list...)
	for place := 0; place+1 < len(list); place++ {
		if list[place] >= list[place+1] {
			continue
		}
		x := list[place+1]
		for before := 0; before <= place; before++ {
			if modified[before] >= x {
				modified[before] = modified[before] + 1
			}
		}
	}
	return modified
}

// slowIntervals builds the intervals of an ascent sequence as the document says it.
func slowIntervals(list []int) []impl.Interval {
	there := []impl.Interval{}
	for _, m := range list {
		if len(there) == 0 {
			there = ivs([2]int{0, 0})
			continue
		}
		different := map[int]bool{}
		for _, x := range there {
			different[x.Left] = true
		}
		k, d := len(different), math.MaxInt
		for _, x := range there {
			if x.Right == k-1 && x.Left < d {
				d = x.Left
			}
		}
		if m <= d {
			there = append(there, impl.Interval{Left: m, Right: k - 1})
			continue
		}
		var changed []impl.Interval
		for _, x := range there {
			y := x
			if x.Right >= m {
				y.Right = x.Right + 1
				if x.Right == k-1 && x.Left < m {
					y.Right = m
				}
			}
			if x.Left >= m {
				y.Left = x.Left + 1
			}
			changed = append(changed, y)
		}
		there = append(changed, impl.Interval{Left: m, Right: k})
	}
	return there
}

// sortedEnds returns intervals as a text that tells how often there is each one.
func sortedEnds(list []impl.Interval) string {
	texts := []string{}
	for _, x := range list {
		texts = append(texts, fmt.Sprint(x.Left, "-", x.Right))
	}
	slices.Sort(texts)
	return strings.Join(texts, " ")
}

// slowText returns numbers with commas between them.
func slowText(list []int) string {
	return strings.ReplaceAll(strings.Trim(fmt.Sprint(list), "[]"), " ", ",")
}

// badTexts are texts that no ascent sequence has.
func badTexts() []string {
	texts := []string{
		",", "0,", ",0", "0,,1", ",,", "0,1,", "0,1,,", ",0,1", "00", "0,01", "0,00", "0,1,002", "000", "+0", "-0", "0,+1", "0,-1", "0,-0", "-", "+", "0,-", "0,+", "--0",
		" ", " 0", "0 ", "0, 1", "0 ,1", "0 1", "0\t,1", "0,1 ", "0\n", "\n", "0,1\n", "0\r", "0\x00", "\x00", "0,1\x00", "a", "0,a", "0,1a", "0,1,x", "0x0", "0,0x1", "0b0", "0,1_0", "0_0", "0,_1",
		"0.0", "0,1.0", "0,1e0", "0;1", "0/1", "0:1", "[0,1]", "(0)", "\"0\"", "0,١", "0\xff", "\xff", "０", "0，1", "０,1", "nil", "0,1,2,3,4,5,6,7,8,9,0a", "0,1,2,3,4,5,6,7,8,9,010",
		"9223372036854775807", "9223372036854775808", "0,9223372036854775808", "0,18446744073709551616", "0,18446744073709551617", "18446744073709551616", "0,4294967296", "4294967296", "0,-9223372036854775808", "0,-18446744073709551615",
		strings.Repeat("0,", 13) + "0", strings.Repeat("0,", 12), strings.Repeat("0,", 12) + "0", strings.Repeat("0,", 5000) + "0", strings.Repeat(",", 12), "0," + strings.Repeat("0", 5000) + "1", strings.Repeat("1", 5000),
		"012", "0 1 2", "0,1,2;3",
	}
	for _, bad := range badAscents() {
		texts = append(texts, slowText(bad))
	}
	return texts
}
