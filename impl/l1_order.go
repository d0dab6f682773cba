package impl

import (
	"slices"
	"strconv"
	"strings"
)

const MaxSize = 10
const MaxPattern = 6

type Order struct {
	Size  int
	Above []int
}

// IsRelation reports whether o is a relation.
func IsRelation(o Order) bool {
	return o.Size >= 0 && o.Size <= MaxSize && len(o.Above) == o.Size && areSets(o.Above, o.Size)
}

// IsOrder reports whether o is an order.
func IsOrder(o Order) bool {
	if !IsRelation(o) {
		return false
	}
	for i, set := range o.Above {
		if hasElement(set, i) || aboveAny(o, set)&^set != 0 {
			return false
		}
	}
	return true
}

// IsBetter reports whether j is better than i.
func IsBetter(o Order, i int, j int) (bool, bool) {
	if !IsRelation(o) || !isElement(o, i) || !isElement(o, j) {
		return false, false
	}
	return hasElement(o.Above[i], j), true
}

// BelowOf returns the set of all elements below i.
func BelowOf(o Order, i int) (int, bool) {
	if !IsRelation(o) || !isElement(o, i) {
		return 0, false
	}
	return belowSet(o, i), true
}

// IndifferentTo returns the set of all elements other than i none of which is better than i, and than none of which i is better.
func IndifferentTo(o Order, i int) (int, bool) {
	if !IsRelation(o) || !isElement(o, i) {
		return 0, false
	}
	return indifferentSet(o, i), true
}

// MirrorOf returns the relation in which j is better than i exactly if i is better than j in o.
func MirrorOf(o Order) (Order, bool) {
	if !IsRelation(o) {
		return Order{}, false
	}
	return Order{Size: o.Size, Above: belowSets(o)}, true
}

// PartOf returns the relation of only some elements, a strictly increasing list, numbered anew in order.
func PartOf(o Order, elements []int) (Order, bool) {
	if !IsRelation(o) || !areIncreasingElements(o, elements) {
		return Order{}, false
	}
	above := make([]int, len(elements))
	for a, i := range elements {
		for b, j := range elements {
			if hasElement(o.Above[i], j) {
				above[a] |= 1 << b
			}
		}
	}
	return Order{Size: len(elements), Above: above}, true
}

// RenameOf returns the relation in which the element i of o is called names[i]; names has each element once.
func RenameOf(o Order, names []int) (Order, bool) {
	if !IsRelation(o) || !hasEachOnce(o, names) {
		return Order{}, false
	}
	above := make([]int, o.Size)
	for i, set := range o.Above {
		for j, name := range names {
			if hasElement(set, j) {
				above[names[i]] |= 1 << name
			}
		}
	}
	return Order{Size: o.Size, Above: above}, true
}

// CloseRelation returns the relation in which j is better than i if there is a list that begins with i, goes on with one element or more, each of which is better than the one before it, and ends with j.
func CloseRelation(o Order) (Order, bool) {
	if !IsRelation(o) {
		return Order{}, false
	}
	above := slices.Clone(o.Above)
	for between := range above {
		for i := range above {
			if hasElement(above[i], between) {
				above[i] |= above[between]
			}
		}
	}
	return Order{Size: o.Size, Above: above}, true
}

// CoversOf returns the relation in which j is better than i if it is so in o and nothing is better than i and worse than j.
func CoversOf(o Order) (Order, bool) {
	if !IsOrder(o) {
		return Order{}, false
	}
	above := make([]int, o.Size)
	for i, set := range o.Above {
		above[i] = set &^ aboveAny(o, set)
	}
	return Order{Size: o.Size, Above: above}, true
}

// FindPattern returns the first list of as many different elements as p has, at most MaxPattern, such that the element with the index b is better than that with the index a exactly if b is better than a in p. It fails if there is none.
func FindPattern(o Order, p Order) ([]int, bool) {
	if !IsRelation(o) || !IsRelation(p) || p.Size > MaxPattern {
		return nil, false
	}
	return completePattern(o, p, make([]int, 0, p.Size))
}

// IsSameKind reports whether o and p, of at most MaxPattern elements each, have the same Size, and FindPattern of p in o is told.
func IsSameKind(o Order, p Order) (bool, bool) {
	if !IsRelation(o) || !IsRelation(p) || o.Size > MaxPattern || p.Size > MaxPattern {
		return false, false
	}
	if o.Size != p.Size {
		return false, true
	}
	_, found := FindPattern(o, p)
	return found, true
}

// StackOrders returns the order with the elements of o and then those of p, numbered on, in which all of p are better than all of o.
func StackOrders(o Order, p Order) (Order, bool) {
	both, ok := BesideOrders(o, p)
	if !ok {
		return Order{}, false
	}
	upper := fullSet(both.Size) &^ fullSet(o.Size)
	for i := range o.Size {
		both.Above[i] |= upper
	}
	return both, true
}

// BesideOrders returns the same without these.
func BesideOrders(o Order, p Order) (Order, bool) {
	if !IsOrder(o) || !IsOrder(p) || o.Size+p.Size > MaxSize {
		return Order{}, false
	}
	above := make([]int, 0, o.Size+p.Size)
	above = append(above, o.Above...)
	for _, set := range p.Above {
		above = append(above, set<<o.Size)
	}
	return Order{Size: len(above), Above: above}, true
}

// CountExtensions returns the number of lists that IsExtension accepts.
func CountExtensions(o Order) (int, bool) {
	if !IsOrder(o) {
		return 0, false
	}
	below := belowSets(o)
	lists := map[int]int{0: 1} // for a set, how many beginnings of extensions have just its elements
	for set := range fullSet(o.Size) {
		count, reached := lists[set]
		if !reached {
			continue
		}
		// Sets that go on from this one are greater numbers, so it is not needed again.
		delete(lists, set)
		for i := range o.Size {
			if !hasElement(set, i) && below[i]&^set == 0 {
				lists[set|1<<i] += count
			}
		}
	}
	return lists[fullSet(o.Size)], true
}

// FirstExtension returns the first such list.
func FirstExtension(o Order) ([]int, bool) {
	if !IsOrder(o) {
		return nil, false
	}
	below := belowSets(o)
	list := make([]int, 0, o.Size)
	placed := 0
	for range o.Size {
		next := 0
		for hasElement(placed, next) || below[next]&^placed != 0 {
			next++
		}
		list = append(list, next)
		placed |= 1 << next
	}
	return list, true
}

// IsExtension reports whether a list has each element once, and none before an element below it. Its numbers may be any.
func IsExtension(o Order, list []int) (bool, bool) {
	if !IsOrder(o) {
		return false, false
	}
	if !hasEachOnce(o, list) {
		return false, true
	}
	placed := 0
	for _, i := range list {
		if belowSet(o, i)&^placed != 0 {
			return false, true
		}
		placed |= 1 << i
	}
	return true, true
}

// LongestChain returns the first one of the longest chains.
func LongestChain(o Order) ([]int, bool) {
	if !IsOrder(o) {
		return nil, false
	}
	return longestList(fullSet(o.Size), o.Above), true
}

// LargestAntichain returns the first one of the largest antichains.
func LargestAntichain(o Order) ([]int, bool) {
	if !IsOrder(o) {
		return nil, false
	}
	later := make([]int, o.Size)
	for i := range later {
		later[i] = indifferentSet(o, i) &^ fullSet(i)
	}
	return longestList(fullSet(o.Size), later), true
}

// ChainNumbers returns the first list of numbers, one for each element, each less than the number of elements of LargestAntichain, in which no two indifferent elements have the same number.
func ChainNumbers(o Order) ([]int, bool) {
	antichain, ok := LargestAntichain(o)
	if !ok {
		return nil, false
	}
	return completeNumbers(o.Size, len(antichain), make([]int, 0, o.Size), func(numbers []int) bool {
		return isLastApart(o, numbers)
	})
}

// OrderText returns the Size, a :, and for each element a 1 for each element that is better than it and a 0 for each other one, in order; rows have a / between them.
func OrderText(o Order) (string, bool) {
	if !IsRelation(o) {
		return "", false
	}
	return strconv.Itoa(o.Size) + ":" + setsText(o.Above, o.Size), true
}

// ParseOrder returns the relation with an OrderText. It fails if there is none.
func ParseOrder(s string) (Order, bool) {
	for size := range MaxSize + 1 {
		rows, found := strings.CutPrefix(s, strconv.Itoa(size)+":")
		if !found {
			continue
		}
		if above, ok := parseSets(rows, size, size); ok {
			return Order{Size: size, Above: above}, true
		}
	}
	return Order{}, false
}

// setsText returns for each set a 1 for each element less than size that is in it and a 0 for each other one, in order; there is a / between sets.
func setsText(sets []int, size int) string {
	var text strings.Builder
	for k, set := range sets {
		if k > 0 {
			text.WriteByte('/')
		}
		for i := range size {
			if hasElement(set, i) {
				text.WriteByte('1')
			} else {
				text.WriteByte('0')
			}
		}
	}
	return text.String()
}

// parseSets reads what setsText writes of so many sets.
func parseSets(s string, count int, size int) ([]int, bool) {
	width := size + 1 // of a set and the slash behind it, which the last set has not
	if len(s) != max(0, count*width-1) {
		return nil, false
	}
	sets := make([]int, count)
	for at := range len(s) {
		k, i := at/width, at%width
		switch {
		case i == size && s[at] == '/', i < size && s[at] == '0':
		case i < size && s[at] == '1':
			sets[k] |= 1 << i
		default:
			return nil, false
		}
	}
	return sets, true
}

// fullSet returns the set of the elements less than size.
func fullSet(size int) int {
	return 1<<size - 1
}

// isSet reports whether a set has only elements less than size.
func isSet(set int, size int) bool {
	return set >= 0 && set <= fullSet(size)
}

// areSets reports whether all sets have only elements less than size.
func areSets(sets []int, size int) bool {
	for _, set := range sets {
		if !isSet(set, size) {
			return false
		}
	}
	return true
}

func hasElement(set int, i int) bool {
	return set>>i&1 == 1
}

func isElement(o Order, i int) bool {
	return i >= 0 && i < o.Size
}

// aboveAny returns the set of all elements above some element of a set.
func aboveAny(o Order, set int) int {
	above := 0
	for i := range o.Size {
		if hasElement(set, i) {
			above |= o.Above[i]
		}
	}
	return above
}

func belowSet(o Order, i int) int {
	below := 0
	for j, set := range o.Above {
		if hasElement(set, i) {
			below |= 1 << j
		}
	}
	return below
}

func belowSets(o Order) []int {
	below := make([]int, o.Size)
	for i := range below {
		below[i] = belowSet(o, i)
	}
	return below
}

func indifferentSet(o Order, i int) int {
	return fullSet(o.Size) &^ (o.Above[i] | belowSet(o, i) | 1<<i)
}

func areIncreasingElements(o Order, list []int) bool {
	least := 0
	for _, i := range list {
		if i < least || !isElement(o, i) {
			return false
		}
		least = i + 1
	}
	return true
}

func hasEachOnce(o Order, list []int) bool {
	return len(list) == o.Size && areDifferentElements(o, list)
}

// areDifferentElements reports whether a list has only elements, and none twice.
func areDifferentElements(o Order, list []int) bool {
	seen := 0
	for _, i := range list {
		if !isElement(o, i) || hasElement(seen, i) {
			return false
		}
		seen |= 1 << i
	}
	return true
}

// completePattern returns the first list that begins with the given one, which fits p so far, and fits p.
func completePattern(o Order, p Order, list []int) ([]int, bool) {
	if len(list) == p.Size {
		return list, true
	}
	for i := range o.Size {
		longer := append(list, i)
		if slices.Contains(list, i) || !fitsPattern(o, p, longer) {
			continue
		}
		if found, ok := completePattern(o, p, longer); ok {
			return found, true
		}
	}
	return nil, false
}

// fitsPattern reports whether the last element of a list is, to itself and to those before it, as in p.
func fitsPattern(o Order, p Order, list []int) bool {
	b := len(list) - 1
	for a, i := range list {
		if hasElement(o.Above[i], list[b]) != hasElement(p.Above[a], b) ||
			hasElement(o.Above[list[b]], i) != hasElement(p.Above[b], a) {
			return false
		}
	}
	return true
}

// longestList returns the first one of the longest lists of allowed elements; behind i, only elements of follow[i] stay allowed.
func longestList(allowed int, follow []int) []int {
	var longest []int
	for i := range follow {
		if !hasElement(allowed, i) {
			continue
		}
		// A list that is only as long comes later, so it does not replace the first one.
		if rest := longestList(allowed&follow[i], follow); len(rest) >= len(longest) {
			longest = append([]int{i}, rest...)
		}
	}
	return longest
}

// completeNumbers returns the first list of so many numbers less than limit that begins with the given one and in which each longer beginning fits. What fits must not depend on which numbers are used, only on which of them are equal.
func completeNumbers(length int, limit int, list []int, fits func(numbers []int) bool) ([]int, bool) {
	if len(list) == length {
		return list, true
	}
	// What a greater unused number allows, the least unused one allows too, and earlier.
	unused := 0
	for _, number := range list {
		unused = max(unused, number+1)
	}
	for number := range min(limit, unused+1) {
		longer := append(list, number)
		if !fits(longer) {
			continue
		}
		if found, ok := completeNumbers(length, limit, longer, fits); ok {
			return found, true
		}
	}
	return nil, false
}

// isLastApart reports whether no element before the last one of a list of numbers has its number and is indifferent to it.
func isLastApart(o Order, numbers []int) bool {
	last := len(numbers) - 1
	indifferent := indifferentSet(o, last)
	for i, number := range numbers[:last] {
		if number == numbers[last] && hasElement(indifferent, i) {
			return false
		}
	}
	return true
}
