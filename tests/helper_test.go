package tests

import (
	"fmt"
	"math"
	"reflect"
	"slices"
	"testing"

	"loop.example/g01106/impl"
)

// rel returns the relation in which, for each pair, the second element is better than the first one.
func rel(size int, pairs ...[2]int) impl.Order {
	o := impl.Order{Size: size, Above: make([]int, size)}
	for _, p := range pairs {
		o.Above[p[0]] |= 1 << p[1]
	}
	return o
}

// chainOf returns the order 0, 1, .. in which each element is better than all before it.
func chainOf(size int) impl.Order {
	o := rel(size)
	for i := range size {
		o.Above[i] = (1<<size - 1) &^ (1<<(i+1) - 1)
	}
	return o
}

// gridOf returns the order of pairs in which one is better than another if none of its parts is less; pairs are numbered row by row.
func gridOf(rows, columns int) impl.Order {
	o := rel(rows * columns)
	for i := range o.Size {
		for j := range o.Size {
			if i != j && i/columns <= j/columns && i%columns <= j%columns {
				o.Above[i] |= 1 << j
			}
		}
	}
	return o
}

// fenceOf returns the order in which each even element is below its neighbours only.
func fenceOf(size int) impl.Order {
	o := rel(size)
	for i := 0; i < size; i += 2 {
		for _, j := range []int{i - 1, i + 1} {
			if j >= 0 && j < size {
				o.Above[i] |= 1 << j
			}
		}
	}
	return o
}

// crownOf returns the order of 2 n elements in which the element n + k is better than each i < n but k.
func crownOf(n int) impl.Order {
	o := rel(2 * n)
	for i := range n {
		for k := range n {
			if i != k {
				o.Above[i] |= 1 << (n + k)
			}
		}
	}
	return o
}

// numbers is a short repeatable sequence, so that a failure can be met again.
type numbers uint64

func (n *numbers) below(limit int) int {
	*n = *n*6364136223846793005 + 1442695040888963407
	return int(uint64(*n) >> 33 % uint64(limit))
}

func (n *numbers) shuffled(size int) []int {
	list := make([]int, size)
	for i := range list {
		list[i] = i
	}
	for i := size - 1; i > 0; i-- {
		k := n.below(i + 1)
		list[i], list[k] = list[k], list[i]
	}
	return list
}

// relation returns a relation in which about share of 10 pairs are better.
func (n *numbers) relation(size, share int) impl.Order {
	o := rel(size)
	for i := range size {
		for j := range size {
			if n.below(10) < share {
				o.Above[i] |= 1 << j
			}
		}
	}
	return o
}

// order returns an order: a random part of the pairs that a random list allows, closed by paths.
func (n *numbers) order(size, share int) impl.Order {
	list := n.shuffled(size)
	o := rel(size)
	for a := range size {
		for b := a + 1; b < size; b++ {
			if n.below(10) < share {
				o.Above[list[a]] |= 1 << list[b]
			}
		}
	}
	return fromGrid(paths(gridFrom(o)))
}

// gridFrom returns for each i and j whether j is better than i.
func gridFrom(o impl.Order) [][]bool {
	g := make([][]bool, o.Size)
	for i := range g {
		g[i] = make([]bool, o.Size)
		for j := range g[i] {
			g[i][j] = o.Above[i]>>j&1 == 1
		}
	}
	return g
}

func fromGrid(g [][]bool) impl.Order {
	o := rel(len(g))
	for i := range g {
		for j := range g[i] {
			if g[i][j] {
				o.Above[i] |= 1 << j
			}
		}
	}
	return o
}

// paths returns what is reached from each element in one step or more.
func paths(g [][]bool) [][]bool {
	reached := make([][]bool, len(g))
	for i := range g {
		reached[i] = make([]bool, len(g))
		work := []int{i}
		for len(work) > 0 {
			k := work[0]
			work = work[1:]
			for j := range g {
				if g[k][j] && !reached[i][j] {
					reached[i][j] = true
					work = append(work, j)
				}
			}
		}
	}
	return reached
}

func isOrderGrid(g [][]bool) bool {
	for i := range g {
		for j := range g {
			for k := range g {
				if g[i][i] || g[i][j] && g[j][k] && !g[i][k] {
					return false
				}
			}
		}
	}
	return true
}

// allRelations returns all relations with so many elements, at most 4.
func allRelations(size int) []impl.Order {
	var all []impl.Order
	for bits := range 1 << (size * size) {
		o := rel(size)
		for i := range size {
			o.Above[i] = bits >> (i * size) & (1<<size - 1)
		}
		all = append(all, o)
	}
	return all
}

// smallOrders returns all orders with at most 4 elements.
func smallOrders() []impl.Order {
	var orders []impl.Order
	for size := range 5 {
		for _, o := range allRelations(size) {
			if isOrderGrid(gridFrom(o)) {
				orders = append(orders, o)
			}
		}
	}
	return orders
}

// someOrders returns orders of each size from 5 up to a greatest one.
func someOrders(greatest int) []impl.Order {
	n := numbers(7)
	var orders []impl.Order
	for size := 5; size <= greatest; size++ {
		for share := range 8 {
			for range 4 {
				orders = append(orders, n.order(size, share))
			}
		}
	}
	return orders
}

// listsOf returns all lists of so many numbers less than limit, in lexicographic order.
func listsOf(length, limit int) [][]int {
	lists := [][]int{{}}
	for range length {
		var longer [][]int
		for _, list := range lists {
			for x := range limit {
				longer = append(longer, append(slices.Clone(list), x))
			}
		}
		lists = longer
	}
	return lists
}

func sameOrder(o, p impl.Order) bool {
	return o.Size == p.Size && slices.Equal(o.Above, p.Above)
}

// badRelations are values that are no relations.
func badRelations() []impl.Order {
	return []impl.Order{
		{Size: -1}, {Size: -1, Above: []int{0}}, {Size: math.MinInt}, {Size: math.MaxInt},
		{Size: 11, Above: make([]int, 11)}, {Size: 64, Above: make([]int, 64)},
		{Size: 2}, {Size: 2, Above: []int{}}, {Size: 2, Above: []int{0}}, {Size: 2, Above: []int{0, 0, 0}},
		{Size: 0, Above: []int{0}}, {Size: 1}, {Size: 10, Above: make([]int, 9)}, {Size: 10, Above: make([]int, 11)},
		{Size: 2, Above: []int{4, 0}}, {Size: 2, Above: []int{0, 4}}, {Size: 2, Above: []int{-1, 0}}, {Size: 2, Above: []int{0, -2}},
		{Size: 1, Above: []int{2}}, {Size: 3, Above: []int{2, 8, 0}}, {Size: 2, Above: []int{math.MaxInt, 0}}, {Size: 2, Above: []int{0, math.MinInt}},
		{Size: 10, Above: []int{0, 0, 0, 0, 0, 0, 0, 0, 0, 1024}}, {Size: 2, Above: []int{1 << 32, 0}},
	}
}

// badOrders are relations that are no orders.
func badOrders() []impl.Order {
	return []impl.Order{
		rel(1, [2]int{0, 0}), rel(2, [2]int{0, 1}, [2]int{1, 0}), rel(2, [2]int{0, 1}, [2]int{1, 1}),
		rel(2, [2]int{0, 0}, [2]int{0, 1}, [2]int{1, 0}, [2]int{1, 1}), rel(3, [2]int{0, 1}, [2]int{1, 2}),
		rel(3, [2]int{2, 1}, [2]int{1, 0}), rel(3, [2]int{0, 1}, [2]int{1, 2}, [2]int{2, 0}), rel(3, [2]int{2, 2}),
		rel(10, [2]int{9, 8}, [2]int{8, 7}), rel(10, [2]int{9, 9}), rel(4, [2]int{0, 1}, [2]int{1, 2}, [2]int{2, 3}, [2]int{0, 2}, [2]int{1, 3}),
	}
}

// badElements are no elements of a relation with so many elements.
func badElements(size int) []int {
	return []int{-1, size, size + 1, 10, 11, 63, 64, 65, -64, math.MaxInt, math.MinInt, 1 << 32}
}

// spare returns a copy of a list with marked room behind its end.
func spare(list []int) []int {
	if list == nil {
		return nil
	}
	roomy := make([]int, len(list), len(list)+3)
	copy(roomy, list)
	for i := len(list); i < cap(roomy); i++ {
		roomy[:cap(roomy)][i] = 777
	}
	return roomy
}

func spareOrder(o impl.Order) impl.Order {
	return impl.Order{Size: o.Size, Above: spare(o.Above)}
}

// visitNumbers calls visit for each number in slices of a value, and behind their ends up to their capacity.
func visitNumbers(v reflect.Value, visit func(reflect.Value)) {
	switch v.Kind() {
	case reflect.Interface:
		visitNumbers(v.Elem(), visit)
	case reflect.Slice:
		for whole, i := v.Slice(0, v.Cap()), 0; i < whole.Len(); i++ {
			visitNumbers(whole.Index(i), visit)
		}
	case reflect.Struct:
		for i := range v.NumField() {
			visitNumbers(v.Field(i), visit)
		}
	case reflect.Int:
		if v.CanSet() {
			visit(v)
		}
	}
}

func numbersIn(values []any) []int64 {
	var all []int64
	visitNumbers(reflect.ValueOf(values), func(v reflect.Value) { all = append(all, v.Int()) })
	return all
}

func scribble(values []any) {
	visitNumbers(reflect.ValueOf(values), func(v reflect.Value) { v.SetInt(v.Int() ^ 0x5a5a) })
}

// isZero reports whether a value is a zero value; an empty slice is one.
func isZero(value any) bool {
	v := reflect.ValueOf(value)
	if v.Kind() == reflect.Slice {
		return v.Len() == 0
	}
	if o, ok := value.(impl.Order); ok {
		return o.Size == 0 && len(o.Above) == 0
	}
	return v.IsZero()
}

// call is a function of the package on arguments that are given anew for each use.
type call struct {
	name string
	args func() []any
	run  func(args []any) []any
}

// checkTotal runs a call and reports a panic, a changed argument, memory that is shared, state that is kept, and a result beside a failure.
func checkTotal(t *testing.T, c call) {
	t.Helper()
	defer func() {
		if r := recover(); r != nil {
			t.Errorf("%s%v panics: %v", c.name, c.args(), r)
		}
	}()
	args := c.args()
	before := fmt.Sprint(args, numbersIn(args))
	results := c.run(args)
	if after := fmt.Sprint(args, numbersIn(args)); after != before {
		t.Errorf("%s%v changes its arguments: %s", c.name, c.args(), after)
	}
	told := fmt.Sprint(results)
	scribble(args)
	if now := fmt.Sprint(results); now != told {
		t.Errorf("%s%v shares memory with its arguments", c.name, c.args())
	}
	args = c.args()
	again := c.run(args)
	scribble(again)
	if now := fmt.Sprint(args, numbersIn(args)); now != before {
		t.Errorf("%s%v hands out memory of its arguments", c.name, c.args())
	}
	if now := fmt.Sprint(c.run(c.args())); now != told {
		t.Errorf("%s%v is %s at first and then %s", c.name, c.args(), told, now)
	}
	if results[len(results)-1] == false {
		for _, r := range results {
			if !isZero(r) {
				t.Errorf("%s%v fails with %s", c.name, c.args(), told)
			}
		}
	}
}
