package tests

import (
	"math"
	"slices"
	"testing"

	"loop.example/sidescross/impl"
)

type board struct {
	rows, columns int
}

func (b board) cells() int {
	return b.rows * b.columns
}

// allBoards is written out, so that no test takes from BoardOk which boards there are.
func allBoards() []board {
	return []board{
		{1, 1}, {1, 2}, {1, 3}, {1, 4},
		{2, 1}, {2, 2}, {2, 3}, {2, 4},
		{3, 1}, {3, 2}, {3, 3},
		{4, 1}, {4, 2},
	}
}

// badBoards have sides out of 1..MaxRows, too many cells, or a product that is small only because of two signs or of wraparound.
func badBoards() []board {
	return []board{
		{0, 0}, {0, 1}, {1, 0}, {0, 3}, {3, 0}, {-1, 1}, {1, -1}, {-1, -1}, {-3, -3}, {-2, -2},
		{3, 4}, {4, 3}, {4, 4}, {5, 1}, {1, 5}, {9, 1}, {1, 9}, {5, 5},
		{math.MinInt, 1}, {1, math.MaxInt}, {math.MinInt, math.MinInt}, {math.MaxInt, math.MaxInt},
		{1 << 32, 1 << 32}, {1 << 62, 4}, {4, 1 << 62}, {math.MinInt, 2}, {-1, math.MinInt},
	}
}

// eachPosition calls visit with every position of a board, each in memory of its own.
func eachPosition(b board, visit func(position []int)) {
	count := 1
	for range b.cells() {
		count *= 3
	}
	for number := range count {
		position := make([]int, b.cells())
		for cell := range position {
			position[cell] = number % 3
			number /= 3
		}
		visit(position)
	}
}

// badPosition is a position that is none of the board named with it.
type badPosition struct {
	board
	position []int
}

func badPositions() []badPosition {
	list := []badPosition{
		{board{1, 1}, []int{-1}}, {board{1, 1}, []int{3}}, {board{1, 1}, []int{math.MinInt}}, {board{1, 1}, []int{math.MaxInt}},
		{board{1, 2}, []int{3, 0}}, {board{1, 2}, []int{0, -1}}, {board{2, 1}, []int{0, 3}}, {board{2, 1}, []int{4, 1}},
		{board{2, 2}, []int{0, 1, 2, 256}}, {board{2, 2}, []int{1 << 32, 0, 0, 0}},
		{board{3, 3}, []int{0, 0, 0, 0, 3, 0, 0, 0, 0}}, {board{3, 3}, []int{0, 0, 0, 0, 0, 0, 0, 0, -2}},
	}
	for _, b := range allBoards() {
		list = append(list, badPosition{b, nil}, badPosition{b, make([]int, b.cells()-1)}, badPosition{b, make([]int, b.cells()+1)}, badPosition{b, make([]int, 2*b.cells())})
	}
	for _, b := range badBoards() {
		list = append(list, badPosition{b, nil}, badPosition{b, []int{0}}, badPosition{b, make([]int, 9)})
		if b.rows >= 0 && b.rows < 10 && b.columns >= 0 && b.columns < 10 {
			list = append(list, badPosition{b, make([]int, b.cells())})
		}
	}
	return list
}

func badCells(b board) []int {
	return []int{-1, -b.cells(), b.cells(), b.cells() + 1, math.MinInt, math.MaxInt, 1 << 32}
}

func wantList(t *testing.T, what string, got []int, want ...int) {
	t.Helper()
	if !slices.Equal(got, want) {
		t.Fatalf("%s: %v instead of %v", what, got, want)
	}
}

func wantAscending(t *testing.T, list []int) {
	t.Helper()
	for i := 1; i < len(list); i++ {
		if list[i-1] >= list[i] {
			t.Fatalf("not ascending: %v", list)
		}
	}
}

// wantNewResult checks that a result is made anew by each call, and that no call writes to its position or keeps it.
func wantNewResult(t *testing.T, position []int, call func(position []int) []int) {
	t.Helper()
	before := slices.Clone(position)
	first, second := call(position), call(position)
	wanted := slices.Clone(first)
	overwrite(first)
	if !slices.Equal(position, before) {
		t.Fatalf("the argument %v is %v now", before, position)
	}
	if !slices.Equal(second, wanted) {
		t.Fatalf("two results share memory: %v instead of %v", second, wanted)
	}
	overwrite(position)
	if !slices.Equal(second, wanted) {
		t.Fatalf("a result shares memory with the argument: %v instead of %v", second, wanted)
	}
}

// overwrite changes all of a list, its spare capacity too.
func overwrite(list []int) {
	list = list[:cap(list)]
	for i := range list {
		list[i] = 77
	}
}

// halfTurnedCell and mirroredCell are computed from rows and columns alone, so that they do not depend on the program.
func halfTurnedCell(b board, cell int) int {
	row, column := cell/b.columns, cell%b.columns
	return (b.rows-1-row)*b.columns + b.columns - 1 - column
}

func mirroredCell(b board, cell int) int {
	row, column := cell/b.columns, cell%b.columns
	return column*b.rows + row
}

func countOf(list []int, what int) int {
	count := 0
	for _, x := range list {
		if x == what {
			count++
		}
	}
	return count
}

func near(b board, cell int) []int {
	return impl.NearCells(b.rows, b.columns, cell)
}
