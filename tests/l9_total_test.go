package tests

import (
	"fmt"
	"slices"
	"testing"

	"loop.example/g01106/impl"
)

// choiceCalls are the functions of chapter 9 on relations, a set and a kind.
func choiceCalls(o, p impl.Order, set, kind int) []call {
	calls := []call{}
	add := func(name string, run func(o, p impl.Order) []any) {
		calls = append(calls, call{
			name: name,
			args: func() []any { return []any{spareOrder(o), spareOrder(p), set, kind} },
			run:  func(args []any) []any { return run(args[0].(impl.Order), args[1].(impl.Order)) },
		})
	}
	add("ChoiceOf", func(o, p impl.Order) []any { a, ok := impl.ChoiceOf(o, set); return []any{a, ok} })
	add("ChoiceTable", func(o, p impl.Order) []any { a, ok := impl.ChoiceTable(o); return []any{a, ok} })
	add("IsAcyclic", func(o, p impl.Order) []any { a, ok := impl.IsAcyclic(o); return []any{a, ok} })
	add("PairsApart", func(o, p impl.Order) []any { a, ok := impl.PairsApart(o, p); return []any{a, ok} })
	add("NearestOf", func(o, p impl.Order) []any { a, b, ok := impl.NearestOf(o, kind); return []any{a, b, ok} })
	return calls
}

// choiceTableCalls are the functions of chapter 9 on tables.
func choiceTableCalls(n int, table []int) []call {
	calls := []call{}
	add := func(name string, run func(table []int) []any) {
		calls = append(calls, call{
			name: name,
			args: func() []any { return []any{n, spare(table)} },
			run:  func(args []any) []any { return run(args[1].([]int)) },
		})
	}
	add("IsChoiceTable", func(table []int) []any { a, ok := impl.IsChoiceTable(n, table); return []any{a, ok} })
	add("RevealedOf", func(table []int) []any { a, ok := impl.RevealedOf(n, table); return []any{a, ok} })
	add("IsRational", func(table []int) []any { a, ok := impl.IsRational(n, table); return []any{a, ok} })
	for _, w := range ways() {
		add(w.name, func(table []int) []any { a, b, ok := w.fast(n, table); return []any{a, b, ok} })
	}
	return calls
}

// choiceNumberCalls are the functions of chapter 9 on numbers.
func choiceNumberCalls(n, kind int) []call {
	args := func() []any { return []any{n, kind} }
	return []call{
		{"CountChoices", args, func(args []any) []any { a, ok := impl.CountChoices(n, kind); return []any{a, ok} }},
		{"OrdersOf", args, func(args []any) []any { a, ok := impl.OrdersOf(n, kind); return []any{a, ok} }},
	}
}

func TestWhatIsNoRelationToChoose(t *testing.T) {
	for _, bad := range badRelations() {
		for _, c := range append(choiceCalls(bad, rel(1), 0, 0), choiceCalls(bad, bad, 1, 3)...) {
			if isLastTrue(c) {
				t.Errorf("%s%v succeeds", c.name, c.args())
			}
		}
	}
}

// TestChoicesTotal is promise 11 for chapter 9 and relations.
func TestChoicesTotal(t *testing.T) {
	relations := slices.Concat(badRelations(), badOrders(), refusedOrders(), asideOrders(), smallOrders())
	for size := range 11 {
		relations = append(relations, rel(size), chainOf(size), ringOf(size), stepsOf(size), impl.Order{Size: size, Above: slices.Repeat([]int{1<<size - 1}, size)})
	}
	sets := append(badElements(3), 0, 1, 2, 3, 5, 7, 8, 15, 512, 1023, 1024)
	kinds := append(badKinds(), 0, 1, 2, 3)
	for k, o := range relations {
		for i, set := range sets {
			for _, c := range choiceCalls(o, relations[(k*31+i)%len(relations)], set, kinds[(k+i)%len(kinds)]) {
				checkTotal(t, c)
			}
		}
		for _, kind := range kinds {
			for _, c := range choiceCalls(o, o, 0, kind) {
				checkTotal(t, c)
			}
		}
	}
}

// TestChoiceTablesTotal is promise 11 for chapter 9 and tables.
func TestChoiceTablesTotal(t *testing.T) {
	for k, c := range someChoices() {
		if k%5 > 0 && c.n == 4 {
			continue
		}
		for n := range 5 {
			if n == c.n || k%10 == 0 {
				for _, x := range choiceTableCalls(n, c.table) {
					checkTotal(t, x)
				}
			}
		}
	}
	for n := range 5 {
		for _, bad := range badChoices(n) {
			for _, x := range choiceTableCalls(n, bad) {
				checkTotal(t, x)
			}
		}
	}
	for _, n := range badSizes() {
		for _, table := range [][]int{nil, {}, {0}, {0, 1}, allChosen(4).table, allChosen(5).table} {
			for _, x := range choiceTableCalls(n, table) {
				checkTotal(t, x)
			}
		}
	}
	for _, n := range append(badSizes(), 0, 1, 2, 3, 4) {
		for _, kind := range append(badKinds(), 0, 1, 2, 3) {
			for _, x := range choiceNumberCalls(n, kind) {
				checkTotal(t, x)
			}
		}
	}
}

// TestOrdersShareNothing fills each list of a result, and what is behind its end, with its own number: none of them may get into another one.
func TestOrdersShareNothing(t *testing.T) {
	for n := range 5 {
		for kind := range 4 {
			orders, _ := impl.OrdersOf(n, kind)
			told := fmt.Sprint(orders)
			all := lists{name: fmt.Sprint("orders ", n, kind)}
			for _, o := range orders {
				all.rows = append(all.rows, o.Above)
			}
			checkApart(t, all)
			if again, _ := impl.OrdersOf(n, kind); fmt.Sprint(again) != told {
				t.Fatal("orders are kept", n, kind)
			}
		}
	}
}

// TestEqualOrdersAreOthers has functions whose result equals their argument: changing the result changes nothing else.
func TestEqualOrdersAreOthers(t *testing.T) {
	for _, o := range smallOrders() {
		text := fmt.Sprint(o)
		nearest, apart, ok := impl.NearestOf(o, impl.KindOrder)
		if !sameOrder(nearest, o) || apart != 0 || !ok {
			t.Fatal("not the same", o, nearest, apart, ok)
		}
		table, _ := impl.ChoiceTable(o)
		revealed, _ := impl.RevealedOf(o.Size, table)
		chosen := fmt.Sprint(table)
		scribble([]any{nearest, revealed})
		if fmt.Sprint(o) != text || fmt.Sprint(table) != chosen {
			t.Fatal("shared", text, o, table)
		}
	}
}
