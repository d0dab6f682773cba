package tests

import (
	"fmt"
	"math"
	"slices"
	"strconv"
	"strings"

	"loop.example/g01106/impl"
)

// mat returns the matrix with the numbers of a text, without asking whether it is one.
func mat(text string) impl.Matrix {
	m := impl.Matrix{}
	for _, line := range strings.FieldsFunc(text, func(r rune) bool { return r == '/' }) {
		var row []int
		for _, word := range strings.Split(line, ",") {
			number, err := strconv.Atoi(word)
			if err != nil {
				panic(err)
			}
			row = append(row, number)
		}
		m.Rows = append(m.Rows, row)
	}
	return m
}

// slowMatrixText returns the numbers of any rows as a text.
func slowMatrixText(m impl.Matrix) string {
	text := ""
	for i, row := range m.Rows {
		if i > 0 {
			text += "/"
		}
		for j, number := range row {
			if j > 0 {
				text += ","
			}
			text += fmt.Sprint(number)
		}
	}
	return text
}

func sameMatrix(m, n impl.Matrix) bool {
	return slices.EqualFunc(m.Rows, n.Rows, slices.Equal)
}

// unitMatrix returns the matrix of so many rows with a number in its diagonal only.
func unitMatrix(d, number int) impl.Matrix {
	m := zeroMatrix(d)
	for i := range d {
		m.Rows[i][i] = number
	}
	return m
}

// zeroMatrix returns so many rows of zeros, which are no matrix.
func zeroMatrix(d int) impl.Matrix {
	m := impl.Matrix{}
	for range d {
		m.Rows = append(m.Rows, make([]int, d))
	}
	return m
}

// badMatrices are values that are no matrices.
func badMatrices() []impl.Matrix {
	const half = 1 << 62
	all := []impl.Matrix{
		// Rows too long or too short.
		{Rows: [][]int{nil}}, {Rows: [][]int{{}}}, {Rows: [][]int{{1}, nil}}, {Rows: [][]int{nil, {1}}}, {Rows: [][]int{nil, nil}}, {Rows: [][]int{{1, 1}, {0, 1}, nil}}, {Rows: make([][]int, 13)}, {Rows: make([][]int, 1000)},
		mat("1,0"), mat("1,1"), mat("0,1"), mat("1/1"), mat("1/0"), mat("1,0/1"), mat("1/0,1"), mat("1,0,0/0,1,0"), mat("1,0/0,1/0,0"), mat("1,0,0/0,1,0/0,0"), mat("1,0/0,1,0/0,0,1"), mat("1,0,0/0,1/0,0,1"), mat("1,0,0,0/0,1,0/0,0,1"), mat("1,1/0,1,0"), mat("1,1,0/0,1"),
		// Numbers below the diagonal.
		mat("1,0/1,1"), mat("0,1/1,0"), mat("1,1/1,1"), mat("1,0/2,1"), mat("1,1/-1,1"), mat("1,0/-1,2"), mat("1,0,0/0,1,0/1,0,1"), mat("1,0,0/0,1,0/0,1,1"), mat("1,0,0/1,1,0/0,0,1"), mat("0,0,1/0,1,0/1,0,0"), mat("1,0,0/0,0,1/0,1,0"),
		// Negative numbers.
		mat("-1"), mat("-12"), mat("-13"), mat("1,-1/0,1"), mat("2,-1/0,2"), mat("1,1/0,-1"), mat("-1,1/0,1"), mat("-1,2/0,1"), mat("13,-1/0,0"), mat("13,-1/0,1"), mat("12,-1/0,1"), mat("1,-1,1/0,1,0/0,0,1"), mat("2,0,0/0,2,-1/0,0,2"), mat("-1,-1/0,-1"),
		// A row or a column with zeros only.
		mat("0"), mat("0,0/0,0"), mat("1,0/0,0"), mat("0,0/0,1"), mat("0,1/0,0"), mat("0,1/0,1"), mat("1,1/0,0"), mat("1,1,0/0,0,0/0,0,1"), mat("1,0,0/0,0,1/0,0,1"), mat("1,0,0/0,0,0/0,0,1"), mat("0,1,0/0,1,0/0,0,1"), mat("1,0,0/0,1,1/0,0,0"), mat("1,1,1/0,0,1/0,0,0"), mat("0,1,1/0,1,0/0,0,1"),
		mat("1,1,0/0,1,0/0,0,0"), mat("1,0,0,0/0,0,1,0/0,0,1,0/0,0,0,1"), mat("1,0,0,0/0,1,1,0/0,0,0,0/0,0,0,1"),
		// Sums above the limit.
		mat("13"), mat("14"), mat("12,0/0,1"), mat("1,0/0,12"), mat("1,11/0,1"), mat("6,6/0,1"), mat("7,0/0,6"), mat("5,0,0/0,4,0/0,0,4"), mat("4,4,4/0,4,4/0,0,4"), unitMatrix(13, 1), unitMatrix(14, 1), unitMatrix(64, 1), unitMatrix(12, 2), zeroMatrix(12), zeroMatrix(13), zeroMatrix(40),
		// Sums that overflow, some of them to what a matrix may have.
		{Rows: [][]int{{math.MaxInt}}}, {Rows: [][]int{{math.MinInt}}}, {Rows: [][]int{{1 << 32}}}, {Rows: [][]int{{1<<32 + 1}}}, {Rows: [][]int{{math.MaxInt, math.MaxInt}, {0, 3}}}, {Rows: [][]int{{math.MaxInt, 1}, {0, math.MinInt}}},
		{Rows: [][]int{{math.MaxInt, 0}, {0, math.MaxInt}}}, {Rows: [][]int{{1, math.MaxInt}, {0, 1}}}, {Rows: [][]int{{math.MinInt, math.MinInt}, {0, 5}}}, {Rows: [][]int{{1, 0}, {math.MinInt, 1}}}, {Rows: [][]int{{1, math.MinInt}, {0, 1}}},
		{Rows: [][]int{{half, half, half}, {0, half, 0}, {0, 0, 5}}}, {Rows: [][]int{{half, half, half, half, 1}, {0, 1, 0, 0, 0}, {0, 0, 1, 0, 0}, {0, 0, 0, 1, 0}, {0, 0, 0, 0, 1}}},
		{Rows: [][]int{{1, 0, 0, half}, {0, 1, 0, half}, {0, 0, 1, half}, {0, 0, 0, half}}}, {Rows: [][]int{{half, 0, 0, 0}, {0, half, 0, 0}, {0, 0, half, 0}, {0, 0, 0, half + 4}}},
	}
	return all
}

// isSlowMatrix reports whether rows are a matrix; its numbers must be small.
func isSlowMatrix(m impl.Matrix) bool {
	d := len(m.Rows)
	if d > 12 {
		return false
	}
	sum := 0
	columns := map[int]int{}
	for i := range d {
		if len(m.Rows[i]) != d {
			return false
		}
		whole := 0
		for j, number := range m.Rows[i] {
			if number < 0 || j < i && number != 0 {
				return false
			}
			whole += number
			columns[j] += number
		}
		if whole == 0 {
			return false
		}
		sum += whole
	}
	for j := range d {
		if columns[j] == 0 {
			return false
		}
	}
	return sum <= 12
}

func slowSum(m impl.Matrix) int {
	sum := 0
	for _, row := range m.Rows {
		for _, number := range row {
			sum += number
		}
	}
	return sum
}

// slowTop returns the least row with something in the last column, or -1 without rows.
func slowTop(m impl.Matrix) int {
	top := -1
	for i := len(m.Rows) - 1; i >= 0; i-- {
		if m.Rows[i][len(m.Rows)-1] != 0 {
			top = i
		}
	}
	return top
}

// slowGrown grows a matrix: it tells for each number where it comes to stand.
func slowGrown(m impl.Matrix, x int) impl.Matrix {
	d := len(m.Rows)
	if d > 0 && x <= slowTop(m) {
		grown := mat(slowMatrixText(m))
		grown.Rows[x][d-1] += 1
		return grown
	}
	grown := zeroMatrix(d + 1)
	behind := func(i int) int {
		if i >= x {
			return i + 1
		}
		return i
	}
	for i, row := range m.Rows {
		for j, number := range row {
			to := behind(j)
			if j == d-1 && i < x && x < d {
				to = x
			}
			grown.Rows[behind(i)][to] += number
		}
	}
	grown.Rows[x][d] = 1
	return grown
}

// slowMatrix grows the matrix of an ascent sequence.
func slowMatrix(list []int) impl.Matrix {
	m := impl.Matrix{}
	for _, x := range list {
		m = slowGrown(m, x)
	}
	return m
}

// slowDual mirrors a matrix number by number.
func slowDual(m impl.Matrix) impl.Matrix {
	d := len(m.Rows)
	dual := zeroMatrix(d)
	for i := range d {
		for j := range d {
			dual.Rows[i][j] = m.Rows[d-1-j][d-1-i]
		}
	}
	return dual
}

// slowFlat puts a 1 where there is something.
func slowFlat(m impl.Matrix) impl.Matrix {
	flat := zeroMatrix(len(m.Rows))
	for i, row := range m.Rows {
		for j, number := range row {
			if number != 0 {
				flat.Rows[i][j] = 1
			}
		}
	}
	return flat
}

// allMatrices returns all matrices with a sum, filled number by number.
func allMatrices(sum int) []impl.Matrix {
	var all []impl.Matrix
	for d := range sum + 1 {
		m := zeroMatrix(d)
		fillMatrix(m, 0, 0, sum, &all)
	}
	return all
}

// fillMatrix goes on behind the numbers before the row i and the column j, with so much left.
func fillMatrix(m impl.Matrix, i, j, left int, all *[]impl.Matrix) {
	d := len(m.Rows)
	if i == d {
		if left == 0 && isSlowMatrix(m) {
			*all = append(*all, mat(slowMatrixText(m)))
		}
		return
	}
	if j == d {
		if slices.Max(m.Rows[i]) > 0 && left >= d-1-i {
			fillMatrix(m, i+1, i+1, left, all)
		}
		return
	}
	for number := range left + 1 {
		m.Rows[i][j] = number
		fillMatrix(m, i, j+1, left-number, all)
	}
	m.Rows[i][j] = 0
}

// someMatrices returns all matrices with a sum of at most 5, and some with each greater one.
func someMatrices() []impl.Matrix {
	matrices := []impl.Matrix{{}, {Rows: [][]int{}}}
	for sum := range 6 {
		matrices = append(matrices, allMatrices(sum)...)
	}
	n := numbers(83)
	for sum := 6; sum <= impl.MaxAscent; sum++ {
		matrices = append(matrices, unitMatrix(1, sum), unitMatrix(sum, 1))
		for share := range 10 {
			for range 20 {
				matrices = append(matrices, slowMatrix(n.ascent(sum, share)))
			}
		}
		for d := 2; d < sum; d++ {
			for range 10 {
				matrices = append(matrices, n.matrix(d, sum))
			}
		}
	}
	return matrices
}

// matrix returns a matrix of so many rows, at least 2, whose sum is near the given one.
func (n *numbers) matrix(d, sum int) impl.Matrix {
	for {
		m := zeroMatrix(d)
		for i, row := range m.Rows {
			row[i+n.below(2)*n.below(d-i)]++
		}
		for j := range d {
			if isColumnEmpty(m, j) {
				m.Rows[n.below(j+1)][j]++
			}
		}
		for slowSum(m) < sum {
			i := n.below(d)
			m.Rows[i][i+n.below(d-i)]++
		}
		if slowSum(m) <= impl.MaxAscent {
			return m
		}
	}
}

func isColumnEmpty(m impl.Matrix, j int) bool {
	for _, row := range m.Rows {
		if row[j] != 0 {
			return false
		}
	}
	return true
}

// renamed returns an order with other names.
func renamed(o impl.Order, names []int) impl.Order {
	other := rel(o.Size)
	for i, set := range o.Above {
		for j := range o.Size {
			if set>>j&1 == 1 {
				other.Above[names[i]] |= 1 << names[j]
			}
		}
	}
	return other
}

// allNames returns all lists that have each of so many numbers once.
func allNames(size int) [][]int {
	var all [][]int
	for _, list := range listsOf(size, size) {
		if slices.Equal(slices.Compact(slices.Sorted(slices.Values(list))), steps(size, 1)) {
			all = append(all, list)
		}
	}
	return all
}

// badMatrixTexts are texts that no matrix has.
func badMatrixTexts() []string {
	texts := []string{
		"/", "//", ",", "1,", ",1", "1/", "/1", "1//", "1,1", "0,1", "1,0/0,1/", "/1,0/0,1", "1,0//0,1", "1,0/0,1,", "1,0,/0,1", ",1,0/0,1", "1,0/,0,1", "1,,0/0,1", "1,0/0,,1", "1,/0,1", "1,0/,1", "1,0/0,", "1,0,0,1", "1,0/0", "1,0/", "1/1", "1,1/1", "1/0,1",
		"01", "00", "001", "1,00/0,1", "01,0/0,1", "1,0/00,1", "1,0/0,01", "+1", "-0", "-1", "1,+0/0,1", "1,-0/0,1", "1,0/-0,1", "1,0/0,+1", "1,0/0,-1", "1,-1/0,1", "1,1/-1,1", "+", "-", "1,-/0,1", "1,0/+,1",
		" ", " 1", "1 ", "1, 0/0,1", "1 ,0/0,1", "1,0 /0,1", "1,0/ 0,1", "1,0/0,1 ", " 1,0/0,1", "1 0/0 1", "1,0\n0,1", "1,0/0,1\n", "1\n", "\n", "1\r", "1\t", "\t1", "1\x00", "\x00", "1,0/0,1\x00",
		"a", "1a", "a1", "1,a/0,1", "x", "0x1", "1,0x0/0,1", "0b1", "1_0", "1,0_0/0,1", "1.0", "1e0", "1,0/0,1e0", "1;0/0;1", "1,0;0,1", "1,0|0,1", "1,0\\0,1", "1:1", "1:", "[1]", "[[1]]", "(1)", "\"1\"", "１", "1，0/0，1", "1,0／0,1", "١", "\xff", "1\xff", "nil",
		"13", "012", "1,11/0,1", "4294967297", "9223372036854775807", "9223372036854775808", "-9223372036854775808", "-9223372036854775807", "18446744073709551616", "18446744073709551617", "1,18446744073709551616/0,1", "-18446744073709551615",
		strings.Repeat("1", 5000), strings.Repeat("0", 5000) + "1", strings.Repeat("1/", 5000), strings.Repeat("/", 5000), strings.Repeat(",", 5000), strings.Repeat("0,", 5000) + "1", strings.Repeat("1,0/", 500) + "1,0",
	}
	for _, bad := range badMatrices() {
		if text := slowMatrixText(bad); text != "" {
			texts = append(texts, text)
		}
	}
	return texts
}
