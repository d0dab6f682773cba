package tests

import (
	"fmt"
	"math"
	"slices"
	"testing"

	"loop.example/g01106/impl"
)

// matchingCalls are the functions of chapter 7 on a matching.
func matchingCalls(p []int) []call {
	calls := []call{}
	add := func(name string, run func(p []int) []any) {
		calls = append(calls, call{
			name: name,
			args: func() []any { return []any{spare(p)} },
			run:  func(args []any) []any { return run(args[0].([]int)) },
		})
	}
	add("IsMatching", func(p []int) []any { return []any{impl.IsMatching(p)} })
	add("NearNestings", func(p []int) []any { a, ok := impl.NearNestings(p); return []any{a, ok} })
	add("IsTidy", func(p []int) []any { a, ok := impl.IsTidy(p); return []any{a, ok} })
	add("RunsOf", func(p []int) []any { a, ok := impl.RunsOf(p); return []any{a, ok} })
	add("ArcsOf", func(p []int) []any { a, ok := impl.ArcsOf(p); return []any{a, ok} })
	add("OrderOfArcs", func(p []int) []any { a, ok := impl.OrderOfArcs(p); return []any{a, ok} })
	add("TidyMatching", func(p []int) []any { a, ok := impl.TidyMatching(p); return []any{a, ok} })
	add("MatrixOfMatching", func(p []int) []any { a, ok := impl.MatrixOfMatching(p); return []any{a, ok} })
	add("MirrorMatching", func(p []int) []any { a, ok := impl.MirrorMatching(p); return []any{a, ok} })
	add("CrossingsOf", func(p []int) []any { a, b, ok := impl.CrossingsOf(p); return []any{a, b, ok} })
	add("MatchingText", func(p []int) []any { a, ok := impl.MatchingText(p); return []any{a, ok} })
	return calls
}

// matchedMatrixCalls are the functions of chapter 7 on a matrix.
func matchedMatrixCalls(m impl.Matrix) []call {
	calls := []call{}
	for _, form := range []func(impl.Matrix) impl.Matrix{spareMatrix, cutMatrix} {
		args := func() []any { return []any{form(m)} }
		calls = append(calls,
			call{"MatchingOfMatrix", args, func(args []any) []any { a, ok := impl.MatchingOfMatrix(args[0].(impl.Matrix)); return []any{a, ok} }},
			call{"NamedCount", args, func(args []any) []any { a, ok := impl.NamedCount(args[0].(impl.Matrix)); return []any{a, ok} }})
	}
	return calls
}

// matchingNumberCalls are the functions of chapter 7 on a number.
func matchingNumberCalls(n int) []call {
	args := func() []any { return []any{n} }
	return []call{
		{"ListTidy", args, func(args []any) []any { a, ok := impl.ListTidy(n); return []any{a, ok} }},
		{"CountNamed", args, func(args []any) []any { a, ok := impl.CountNamed(n); return []any{a, ok} }},
	}
}

// TestMatchingsTotal is promise 11 for chapter 7.
func TestMatchingsTotal(t *testing.T) {
	for _, p := range append(badMatchings(), someMatchings()...) {
		for _, c := range matchingCalls(p) {
			checkTotal(t, c)
		}
	}
	for _, m := range append(badMatrices(), someMatrices()...) {
		for _, c := range matchedMatrixCalls(m) {
			checkTotal(t, c)
		}
	}
	for _, n := range []int{0, 1, 2, 3, 4, 5, 6, 7, 8, 9, 12, 13, 63, 64, -1, -2, 1 << 32, math.MaxInt, math.MinInt, math.MinInt + 1} {
		for _, c := range matchingNumberCalls(n) {
			checkTotal(t, c)
		}
	}
	for _, text := range append(badMatchingTexts(), "", "aa", "abab", "abba", "abaccb", nestedText(12), crossedText(12), separateText(12)) {
		checkTotal(t, call{
			name: "ParseMatching",
			args: func() []any { return []any{text} },
			run:  func(args []any) []any { a, ok := impl.ParseMatching(args[0].(string)); return []any{a, ok} },
		})
	}
}

// TestMatchingsShareNothing fills each list of a result, and what is behind its end, with its own number: none of them may get into another one.
func TestMatchingsShareNothing(t *testing.T) {
	for n := range impl.MaxListed + 1 {
		tidy, _ := impl.ListTidy(n)
		told := fmt.Sprint(tidy)
		checkApart(t, lists{fmt.Sprint("tidy ", n), tidy})
		if again, ok := impl.ListTidy(n); !ok || fmt.Sprint(again) != told {
			t.Fatal("lists are kept", n)
		}
	}
	for _, p := range someMatchings() {
		m, _ := impl.MatrixOfMatching(p)
		checkApart(t, lists{fmt.Sprint("matrix of ", p), m.Rows})
	}
}

// TestTidyIsAnotherList has matchings that are tidy already and some that are their own mirrors: changing the result changes nothing else.
func TestTidyIsAnotherList(t *testing.T) {
	for _, text := range []string{"aa", "abab", "abacbc", crossedText(12), separateText(12)} {
		p := joined(text)
		tidy, _ := impl.TidyMatching(p)
		mirror, _ := impl.MirrorMatching(p)
		near, _ := impl.NearNestings(p)
		if len(near) > 0 {
			t.Error("near nestings", text, near)
		}
		scribble([]any{tidy, mirror})
		if !slices.Equal(p, joined(text)) {
			t.Error("shared", text, p)
		}
	}
}
