package tests

import (
	"math"
	"slices"
	"testing"

	"loop.example/sidescross/impl"
)

func TestConstants(t *testing.T) {
	if impl.MaxRows != 4 || impl.MaxCells != 9 || impl.Free != 0 || impl.First != 1 || impl.Second != 2 {
		t.Fatal("a constant differs from the table of the document")
	}
}

func TestP1BoardsAreTurned(t *testing.T) {
	if !impl.BoardOk(1, 1) {
		t.Fatal("one cell is no board")
	}
	for rows := -20; rows <= 20; rows++ {
		for columns := -20; columns <= 20; columns++ {
			want := slices.Contains(allBoards(), board{rows, columns})
			if impl.BoardOk(rows, columns) != want || impl.BoardOk(columns, rows) != want {
				t.Fatal(rows, columns, want)
			}
		}
	}
}

func TestP1NoBoards(t *testing.T) {
	for _, b := range badBoards() {
		if impl.BoardOk(b.rows, b.columns) || impl.BoardOk(b.columns, b.rows) {
			t.Fatal(b)
		}
	}
}

func TestP2NeighboursByHand(t *testing.T) {
	for _, x := range []struct {
		rows, columns, cell int
		want                []int
	}{
		{1, 1, 0, nil},
		{1, 4, 0, []int{1}}, {1, 4, 1, []int{0, 2}}, {1, 4, 2, []int{1, 3}}, {1, 4, 3, []int{2}},
		{4, 1, 0, []int{1}}, {4, 1, 1, []int{0, 2}}, {4, 1, 2, []int{1, 3}}, {4, 1, 3, []int{2}},
		{2, 2, 0, []int{1, 2}}, {2, 2, 1, []int{0, 2, 3}}, {2, 2, 2, []int{0, 1, 3}}, {2, 2, 3, []int{1, 2}},
		{2, 4, 0, []int{1, 4}}, {2, 4, 2, []int{1, 3, 5, 6}}, {2, 4, 3, []int{2, 6, 7}}, {2, 4, 4, []int{0, 1, 5}}, {2, 4, 7, []int{3, 6}},
		{4, 2, 1, []int{0, 2, 3}}, {4, 2, 2, []int{0, 1, 3, 4}}, {4, 2, 3, []int{1, 2, 4, 5}}, {4, 2, 7, []int{5, 6}},
		{3, 3, 0, []int{1, 3}}, {3, 3, 2, []int{1, 4, 5}}, {3, 3, 3, []int{0, 1, 4, 6}}, {3, 3, 4, []int{1, 2, 3, 5, 6, 7}}, {3, 3, 6, []int{3, 4, 7}}, {3, 3, 8, []int{5, 7}},
	} {
		wantList(t, "neighbours", impl.NearCells(x.rows, x.columns, x.cell), x.want...)
	}
}

// isNear tells the neighbours by the differences of the rows and the columns, as the document's words do.
func isNear(b board, cell int, other int) bool {
	down := other/b.columns - cell/b.columns
	right := other%b.columns - cell%b.columns
	switch down {
	case 0:
		return right == 1 || right == -1
	case -1:
		return right == 0 || right == 1
	case 1:
		return right == 0 || right == -1
	}
	return false
}

func TestP2NeighboursAreSoBothWays(t *testing.T) {
	for _, b := range allBoards() {
		for cell := range b.cells() {
			list := near(b, cell)
			wantAscending(t, list)
			if len(list) > 6 || slices.Contains(list, cell) {
				t.Fatal(b, cell, list)
			}
			for other := range b.cells() {
				among := slices.Contains(list, other)
				if among != isNear(b, cell, other) || among != slices.Contains(near(b, other), cell) {
					t.Fatal(b, cell, other)
				}
			}
		}
	}
}

func TestP2NeighboursAreTurned(t *testing.T) {
	for _, b := range allBoards() {
		for cell := range b.cells() {
			var turned []int
			for _, other := range near(b, cell) {
				turned = append(turned, halfTurnedCell(b, other))
			}
			slices.Sort(turned)
			wantList(t, "turned", near(b, halfTurnedCell(b, cell)), turned...)
		}
	}
}

func TestP2NoNeighbours(t *testing.T) {
	for _, b := range allBoards() {
		for _, cell := range badCells(b) {
			wantList(t, "no cell", near(b, cell))
		}
	}
	for _, b := range badBoards() {
		for cell := -1; cell <= 16; cell++ {
			wantList(t, "no board", near(b, cell))
		}
	}
}

func TestP2NeighboursAreNew(t *testing.T) {
	for _, b := range allBoards() {
		for cell := range b.cells() {
			wantNewResult(t, nil, func([]int) []int { return near(b, cell) })
		}
	}
}

func TestP3FreeBoardsArePositions(t *testing.T) {
	for _, b := range allBoards() {
		if !impl.PositionOk(b.rows, b.columns, make([]int, b.cells())) {
			t.Fatal(b)
		}
	}
}

func without(position []int, player int) []int {
	left := slices.Clone(position)
	for cell, what := range left {
		if what == player {
			left[cell] = impl.Free
		}
	}
	return left
}

func TestP3WithoutStonesOfAPlayerItIsAPosition(t *testing.T) {
	for _, b := range allBoards() {
		eachPosition(b, func(position []int) {
			before := slices.Clone(position)
			if !impl.PositionOk(b.rows, b.columns, position) {
				t.Fatal(b, position)
			}
			for _, player := range []int{impl.First, impl.Second} {
				if !impl.PositionOk(b.rows, b.columns, without(position, player)) {
					t.Fatal(b, position, player)
				}
			}
			wantList(t, "written to", position, before...)
		})
	}
}

func TestP3NoPositions(t *testing.T) {
	for _, x := range badPositions() {
		if impl.PositionOk(x.rows, x.columns, x.position) {
			t.Fatal(x)
		}
	}
}

func TestP3EachNumberIsLookedAt(t *testing.T) {
	for _, b := range allBoards() {
		for cell := range b.cells() {
			for _, what := range []int{-1, 3, math.MinInt, math.MaxInt, 1 << 32} {
				position := make([]int, b.cells())
				position[cell] = what
				if impl.PositionOk(b.rows, b.columns, position) {
					t.Fatal(b, position)
				}
			}
		}
	}
}

func TestP4CellsByHand(t *testing.T) {
	position := []int{1, 0, 0, 2, 2, 1, 0, 0, 1}
	wantList(t, "free", impl.CellsOf(3, 3, position, impl.Free), 1, 2, 6, 7)
	wantList(t, "first", impl.CellsOf(3, 3, position, impl.First), 0, 5, 8)
	wantList(t, "second", impl.CellsOf(3, 3, position, impl.Second), 3, 4)
	wantList(t, "one cell", impl.CellsOf(1, 1, []int{2}, impl.Second), 0)
	wantList(t, "one cell", impl.CellsOf(1, 1, []int{2}, impl.Free))
	wantList(t, "one row", impl.CellsOf(1, 4, []int{0, 1, 0, 2}, impl.Free), 0, 2)
	wantList(t, "one column", impl.CellsOf(4, 1, []int{0, 1, 0, 2}, impl.Second), 3)
}

func TestP4EachCellIsOfOneKind(t *testing.T) {
	for _, b := range allBoards() {
		eachPosition(b, func(position []int) {
			var all []int
			for what := impl.Free; what <= impl.Second; what++ {
				list := impl.CellsOf(b.rows, b.columns, position, what)
				wantAscending(t, list)
				for _, cell := range list {
					if position[cell] != what {
						t.Fatal(b, position, what, list)
					}
				}
				all = append(all, list...)
			}
			slices.Sort(all)
			wantAscending(t, all)
			if len(all) != b.cells() {
				t.Fatal(b, position, all)
			}
		})
	}
}

func TestP4NoCells(t *testing.T) {
	for _, x := range badPositions() {
		for what := impl.Free; what <= impl.Second; what++ {
			wantList(t, "no position", impl.CellsOf(x.rows, x.columns, x.position, what))
		}
		for _, what := range x.position {
			wantList(t, "no position", impl.CellsOf(x.rows, x.columns, x.position, what))
		}
	}
	for _, b := range allBoards() {
		for _, what := range []int{-1, 3, math.MinInt, math.MaxInt} {
			wantList(t, "no kind", impl.CellsOf(b.rows, b.columns, make([]int, b.cells()), what))
		}
	}
}

func TestP4CellsAreNew(t *testing.T) {
	eachPosition(board{2, 2}, func(position []int) {
		for what := impl.Free; what <= impl.Second; what++ {
			wantNewResult(t, slices.Clone(position), func(p []int) []int { return impl.CellsOf(2, 2, p, what) })
		}
	})
}

func TestP5HalfTurnsByHand(t *testing.T) {
	wantList(t, "one cell", impl.HalfTurned(1, 1, []int{2}), 2)
	wantList(t, "one row", impl.HalfTurned(1, 4, []int{1, 0, 2, 2}), 2, 2, 0, 1)
	wantList(t, "one column", impl.HalfTurned(4, 1, []int{1, 1, 0, 2}), 2, 0, 1, 1)
	wantList(t, "two rows", impl.HalfTurned(2, 3, []int{1, 0, 2, 0, 1, 1}), 1, 1, 0, 2, 0, 1)
}

func TestP5TurnedTwiceItIsAsBefore(t *testing.T) {
	for _, b := range allBoards() {
		eachPosition(b, func(position []int) {
			turned := impl.HalfTurned(b.rows, b.columns, position)
			if !impl.PositionOk(b.rows, b.columns, turned) {
				t.Fatal(b, position, turned)
			}
			for cell, what := range position {
				if turned[halfTurnedCell(b, cell)] != what {
					t.Fatal(b, position, turned)
				}
			}
			for what := impl.Free; what <= impl.Second; what++ {
				if len(impl.CellsOf(b.rows, b.columns, turned, what)) != countOf(position, what) {
					t.Fatal(b, position, turned, what)
				}
			}
			wantList(t, "turned twice", impl.HalfTurned(b.rows, b.columns, turned), position...)
		})
	}
}

func TestP5NoHalfTurns(t *testing.T) {
	for _, x := range badPositions() {
		wantList(t, "no position", impl.HalfTurned(x.rows, x.columns, x.position))
	}
}

func TestP5HalfTurnsAreNew(t *testing.T) {
	for _, b := range []board{{1, 1}, {1, 3}, {2, 2}} {
		eachPosition(b, func(position []int) {
			wantNewResult(t, position, func(p []int) []int { return impl.HalfTurned(b.rows, b.columns, p) })
		})
	}
}

func TestP6MirrorsByHand(t *testing.T) {
	wantList(t, "one cell", impl.Mirrored(1, 1, []int{1}), 2)
	wantList(t, "one free cell", impl.Mirrored(1, 1, []int{0}), 0)
	wantList(t, "one row", impl.Mirrored(1, 4, []int{1, 0, 2, 2}), 2, 0, 1, 1)
	wantList(t, "one column", impl.Mirrored(4, 1, []int{1, 1, 0, 2}), 2, 2, 0, 1)
	wantList(t, "two rows", impl.Mirrored(2, 3, []int{1, 0, 2, 0, 1, 1}), 2, 0, 0, 2, 1, 2)
	wantList(t, "three rows", impl.Mirrored(3, 2, []int{1, 0, 2, 0, 1, 1}), 2, 1, 2, 0, 0, 2)
}

func TestP6MirroredTwiceItIsAsBefore(t *testing.T) {
	stones := map[int]int{impl.Free: impl.Free, impl.First: impl.Second, impl.Second: impl.First}
	for _, b := range allBoards() {
		eachPosition(b, func(position []int) {
			mirrored := impl.Mirrored(b.rows, b.columns, position)
			if !impl.PositionOk(b.columns, b.rows, mirrored) {
				t.Fatal(b, position, mirrored)
			}
			for cell, what := range position {
				if mirrored[mirroredCell(b, cell)] != stones[what] {
					t.Fatal(b, position, mirrored)
				}
			}
			for what, exchanged := range stones {
				if len(impl.CellsOf(b.columns, b.rows, mirrored, exchanged)) != countOf(position, what) {
					t.Fatal(b, position, mirrored, what)
				}
			}
			wantList(t, "mirrored twice", impl.Mirrored(b.columns, b.rows, mirrored), position...)
		})
	}
}

func TestP6NoMirrors(t *testing.T) {
	for _, x := range badPositions() {
		wantList(t, "no position", impl.Mirrored(x.rows, x.columns, x.position))
	}
}

func TestP6MirrorsAreNew(t *testing.T) {
	for _, b := range []board{{1, 1}, {1, 3}, {2, 2}} {
		eachPosition(b, func(position []int) {
			wantNewResult(t, position, func(p []int) []int { return impl.Mirrored(b.rows, b.columns, p) })
		})
	}
}

func TestP7StepsByHand(t *testing.T) {
	for _, x := range []struct {
		rows, columns, a, b, want int
	}{
		{1, 1, 0, 0, 0},
		{1, 4, 0, 3, 3}, {1, 4, 2, 1, 1}, {1, 4, 3, 3, 0},
		{4, 1, 0, 3, 3}, {4, 1, 3, 1, 2},
		{2, 2, 0, 3, 2}, {2, 2, 1, 2, 1},
		{2, 4, 0, 7, 4}, {2, 4, 3, 4, 3}, {4, 2, 0, 7, 4}, {4, 2, 1, 6, 3},
		{3, 3, 0, 8, 4}, {3, 3, 2, 6, 2}, {3, 3, 2, 3, 2}, {3, 3, 4, 4, 0},
	} {
		if got := impl.CellsFar(x.rows, x.columns, x.a, x.b); got != x.want {
			t.Fatal(x, got)
		}
	}
}

// stepsFar needs no search: one step changes both the row and the column just if the one grows and the other one shrinks.
func stepsFar(b board, a int, c int) int {
	down := c/b.columns - a/b.columns
	right := c%b.columns - a%b.columns
	if down*right < 0 {
		return max(down, -down, right, -right)
	}
	return max(down, -down) + max(right, -right)
}

func TestP7NeighboursAreOneStepApart(t *testing.T) {
	for _, b := range allBoards() {
		for a := range b.cells() {
			for c := range b.cells() {
				far := impl.CellsFar(b.rows, b.columns, a, c)
				if far != stepsFar(b, a, c) || far != impl.CellsFar(b.rows, b.columns, c, a) {
					t.Fatal(b, a, c, far)
				}
				if (far == 1) != slices.Contains(near(b, a), c) || (far == 0) != (a == c) {
					t.Fatal(b, a, c, far)
				}
				wantOneMoreThanNearest(t, b, a, c, far)
			}
		}
	}
}

func wantOneMoreThanNearest(t *testing.T, b board, a int, c int, far int) {
	t.Helper()
	if a == c {
		return
	}
	nearest := math.MaxInt - 1
	for _, other := range near(b, a) {
		nearest = min(nearest, impl.CellsFar(b.rows, b.columns, other, c))
	}
	if far != nearest+1 {
		t.Fatal(b, a, c, far, nearest)
	}
}

func TestP7NoSteps(t *testing.T) {
	for _, b := range allBoards() {
		for _, bad := range badCells(b) {
			for cell := range b.cells() {
				if impl.CellsFar(b.rows, b.columns, bad, cell) != -1 || impl.CellsFar(b.rows, b.columns, cell, bad) != -1 {
					t.Fatal(b, bad, cell)
				}
			}
			if impl.CellsFar(b.rows, b.columns, bad, bad) != -1 {
				t.Fatal(b, bad)
			}
		}
	}
	for _, b := range badBoards() {
		for _, cell := range []int{0, 1, -1, 8, 9} {
			if impl.CellsFar(b.rows, b.columns, 0, cell) != -1 || impl.CellsFar(b.rows, b.columns, cell, cell) != -1 {
				t.Fatal(b, cell)
			}
		}
	}
}

func TestP8AllNeighboursAreCounted(t *testing.T) {
	for _, b := range allBoards() {
		count := 0
		for cell := range b.cells() {
			count += len(near(b, cell))
		}
		pairs := b.rows*(b.columns-1) + b.columns*(b.rows-1) + (b.rows-1)*(b.columns-1)
		if count != 2*pairs {
			t.Fatal(b, count, pairs)
		}
	}
}
