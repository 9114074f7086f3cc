package tests

import (
	"math"
	"slices"
	"testing"

	"loop.example/sidescross/impl"
)

func players() []int {
	return []int{impl.First, impl.Second}
}

func badPlayers() []int {
	return []int{impl.Free, -1, 3, math.MinInt, math.MaxInt, 1<<32 + 1}
}

func joins(b board, position []int, player int) bool {
	return impl.Joins(b.rows, b.columns, position, player)
}

func groupOf(b board, position []int, cell int) []int {
	return impl.GroupOf(b.rows, b.columns, position, cell)
}

func gapOf(b board, position []int, player int) int {
	return impl.GapOf(b.rows, b.columns, position, player)
}

func gapCells(b board, position []int, player int) []int {
	return impl.GapCells(b.rows, b.columns, position, player)
}

// eachSide calls visit with each position of each board, and each player.
func eachSide(visit func(b board, position []int, player int)) {
	for _, b := range allBoards() {
		eachPosition(b, func(position []int) {
			for _, player := range players() {
				visit(b, position, player)
			}
		})
	}
}

// laid returns a position with a stone on one cell, in memory of its own.
func laid(position []int, cell int, player int) []int {
	next := slices.Clone(position)
	next[cell] = player
	return next
}

func freeCells(position []int) []int {
	var cells []int
	for cell, what := range position {
		if what == impl.Free {
			cells = append(cells, cell)
		}
	}
	return cells
}

// lineOf returns the row of a cell for First, and its column for Second, and the last such line of the board.
func lineOf(b board, cell int, player int) (int, int) {
	if player == impl.First {
		return cell / b.columns, b.rows - 1
	}
	return cell % b.columns, b.columns - 1
}

// marked walks from stone to stone by isNear alone, and returns for each cell whether one comes to it from a cell.
func marked(b board, position []int, cell int) []bool {
	seen := make([]bool, b.cells())
	var walk func(from int)
	walk = func(from int) {
		seen[from] = true
		for other := range b.cells() {
			if !seen[other] && position[other] == position[cell] && isNear(b, from, other) {
				walk(other)
			}
		}
	}
	walk(cell)
	return seen
}

// wantJoined tells by marked alone whether a player has joined the own sides.
func wantJoined(b board, position []int, player int) bool {
	for cell, what := range position {
		if line, _ := lineOf(b, cell, player); what != player || line != 0 {
			continue
		}
		for other, seen := range marked(b, position, cell) {
			if line, last := lineOf(b, other, player); seen && line == last {
				return true
			}
		}
	}
	return false
}

// wantGap tries all sets of free cells: it returns the least size of those that join, and all cells of such ones of this size.
func wantGap(b board, position []int, player int) (int, []int) {
	free := freeCells(position)
	least, union := -1, 0
	for set := range 1 << len(free) {
		next, size := slices.Clone(position), 0
		for i, cell := range free {
			if set>>i&1 == 1 {
				next[cell] = player
				size++
			}
		}
		if least >= 0 && size > least || !wantJoined(b, next, player) {
			continue
		}
		if size != least {
			least, union = size, 0
		}
		union |= set
	}
	var cells []int
	for i, cell := range free {
		if union>>i&1 == 1 {
			cells = append(cells, cell)
		}
	}
	return least, cells
}

func TestP9JoinsByHand(t *testing.T) {
	for _, x := range []struct {
		b             board
		position      []int
		first, second bool
	}{
		{board{1, 1}, []int{0}, false, false}, {board{1, 1}, []int{1}, true, false}, {board{1, 1}, []int{2}, false, true},
		{board{1, 4}, []int{0, 0, 0, 1}, true, false}, {board{1, 4}, []int{2, 2, 2, 0}, false, false}, {board{1, 4}, []int{2, 2, 2, 2}, false, true}, {board{1, 4}, []int{2, 2, 1, 2}, true, false},
		{board{4, 1}, []int{0, 0, 0, 2}, false, true}, {board{4, 1}, []int{1, 1, 1, 0}, false, false}, {board{4, 1}, []int{1, 1, 1, 1}, true, false}, {board{4, 1}, []int{1, 2, 1, 1}, false, true},
		{board{2, 2}, []int{1, 2, 2, 1}, false, true}, {board{2, 2}, []int{2, 1, 1, 2}, true, false}, {board{2, 2}, []int{1, 0, 0, 1}, false, false},
		{board{3, 3}, []int{1, 0, 2, 1, 1, 2, 0, 1, 0}, true, false}, {board{3, 3}, []int{1, 1, 1, 2, 2, 2, 1, 1, 1}, false, true}, {board{3, 3}, []int{1, 0, 0, 0, 1, 0, 0, 0, 1}, false, false},
		{board{3, 3}, []int{2, 1, 1, 1, 2, 1, 1, 2, 1}, true, false}, {board{3, 3}, []int{1, 1, 2, 1, 2, 1, 2, 1, 1}, false, true},
	} {
		if joins(x.b, x.position, impl.First) != x.first || joins(x.b, x.position, impl.Second) != x.second {
			t.Fatal(x)
		}
	}
}

func TestP9JoinedIsWhoComesAcross(t *testing.T) {
	eachSide(func(b board, position []int, player int) {
		before := slices.Clone(position)
		if joins(b, position, player) != wantJoined(b, position, player) {
			t.Fatal(b, position, player)
		}
		wantList(t, "written to", position, before...)
	})
}

func TestP9OnAFullBoardExactlyOneHasJoined(t *testing.T) {
	for _, b := range allBoards() {
		eachPosition(b, func(position []int) {
			first, second := joins(b, position, impl.First), joins(b, position, impl.Second)
			if first && second || len(freeCells(position)) == 0 && first == second {
				t.Fatal(b, position, first, second)
			}
			for _, player := range players() {
				full := impl.Filled(b.rows, b.columns, position, player)
				if joins(b, full, impl.First) == joins(b, full, impl.Second) {
					t.Fatal(b, position, player, full)
				}
			}
		})
	}
}

func TestP9TurnedAndMirrored(t *testing.T) {
	eachSide(func(b board, position []int, player int) {
		joined := joins(b, position, player)
		if joins(b, impl.HalfTurned(b.rows, b.columns, position), player) != joined {
			t.Fatal("turned", b, position, player)
		}
		mirrored := impl.Mirrored(b.rows, b.columns, position)
		if joins(board{b.columns, b.rows}, mirrored, impl.First+impl.Second-player) != joined {
			t.Fatal("mirrored", b, position, player)
		}
	})
}

func TestP9NobodyHasJoined(t *testing.T) {
	for _, x := range badPositions() {
		for _, player := range players() {
			if joins(x.board, x.position, player) {
				t.Fatal(x, player)
			}
		}
	}
	for _, b := range allBoards() {
		for _, player := range badPlayers() {
			for what := impl.Free; what <= impl.Second; what++ {
				if joins(b, slices.Repeat([]int{what}, b.cells()), player) {
					t.Fatal(b, player, what)
				}
			}
		}
	}
}

func TestP9StonesOfABadNumberDoNotJoin(t *testing.T) {
	for _, b := range allBoards() {
		for _, player := range badPlayers() {
			if joins(b, slices.Repeat([]int{player}, b.cells()), player) {
				t.Fatal(b, player)
			}
		}
	}
}

func TestP10GroupsByHand(t *testing.T) {
	position := []int{1, 0, 2, 1, 1, 2, 0, 1, 0}
	for _, cell := range []int{0, 3, 4, 7} {
		wantList(t, "first", groupOf(board{3, 3}, position, cell), 0, 3, 4, 7)
	}
	wantList(t, "second", groupOf(board{3, 3}, position, 2), 2, 5)
	wantList(t, "one cell", groupOf(board{1, 1}, []int{2}, 0), 0)
	wantList(t, "one row", groupOf(board{1, 4}, []int{1, 1, 2, 1}, 1), 0, 1)
	wantList(t, "one row", groupOf(board{1, 4}, []int{1, 1, 2, 1}, 3), 3)
	wantList(t, "one column", groupOf(board{4, 1}, []int{2, 1, 1, 1}, 3), 1, 2, 3)
	wantList(t, "no neighbours", groupOf(board{2, 2}, []int{1, 2, 2, 1}, 3), 3)
	wantList(t, "neighbours", groupOf(board{2, 2}, []int{1, 2, 2, 1}, 2), 1, 2)
	wantList(t, "full", groupOf(board{2, 4}, []int{1, 1, 1, 1, 1, 1, 1, 1}, 5), 0, 1, 2, 3, 4, 5, 6, 7)
}

func TestP10GroupsAreThoseOfAllTheirStones(t *testing.T) {
	for _, b := range allBoards() {
		eachPosition(b, func(position []int) {
			for cell, what := range position {
				if what != impl.Free {
					wantGroup(t, b, position, cell)
				}
			}
		})
	}
}

func wantGroup(t *testing.T, b board, position []int, cell int) {
	t.Helper()
	group := groupOf(b, position, cell)
	wantAscending(t, group)
	if !slices.Contains(group, cell) {
		t.Fatal(b, position, cell, group)
	}
	for other, seen := range marked(b, position, cell) {
		if seen != slices.Contains(group, other) {
			t.Fatal(b, position, cell, group)
		}
	}
	for _, stone := range group {
		if position[stone] != position[cell] || !slices.Equal(groupOf(b, position, stone), group) {
			t.Fatal(b, position, cell, stone, group)
		}
		for _, other := range near(b, stone) {
			if position[other] == position[cell] && !slices.Contains(group, other) {
				t.Fatal(b, position, cell, other, group)
			}
		}
	}
}

func TestP10NoGroups(t *testing.T) {
	for _, b := range allBoards() {
		eachPosition(b, func(position []int) {
			for _, cell := range freeCells(position) {
				wantList(t, "free cell", groupOf(b, position, cell))
			}
		})
		for _, cell := range badCells(b) {
			for what := impl.Free; what <= impl.Second; what++ {
				wantList(t, "no cell", groupOf(b, slices.Repeat([]int{what}, b.cells()), cell))
			}
		}
	}
	for _, x := range badPositions() {
		for cell := -1; cell <= 9; cell++ {
			wantList(t, "no position", groupOf(x.board, x.position, cell))
		}
	}
	for _, b := range badBoards() {
		for _, cells := range []int{1, 2, 5, 9, 12, 16} {
			wantList(t, "no board", groupOf(b, slices.Repeat([]int{impl.First}, cells), 0))
		}
	}
}

func TestP10GroupsAreNew(t *testing.T) {
	for _, b := range []board{{1, 1}, {1, 3}, {3, 1}, {2, 2}} {
		eachPosition(b, func(position []int) {
			for cell := range position {
				wantNewResult(t, slices.Clone(position), func(p []int) []int { return groupOf(b, p, cell) })
			}
		})
	}
}

func TestP11GapsByHand(t *testing.T) {
	for _, x := range []struct {
		b             board
		position      []int
		first, second int
	}{
		{board{1, 1}, []int{0}, 1, 1}, {board{1, 1}, []int{1}, 0, -1}, {board{1, 1}, []int{2}, -1, 0},
		{board{1, 4}, []int{0, 0, 0, 0}, 1, 4}, {board{1, 4}, []int{2, 0, 2, 0}, 1, 2}, {board{1, 4}, []int{2, 0, 1, 0}, 0, -1}, {board{1, 4}, []int{2, 2, 2, 2}, -1, 0},
		{board{4, 1}, []int{0, 0, 0, 0}, 4, 1}, {board{4, 1}, []int{1, 0, 1, 0}, 2, 1}, {board{4, 1}, []int{1, 0, 2, 0}, -1, 0}, {board{4, 1}, []int{1, 1, 1, 1}, 0, -1},
		{board{2, 2}, []int{1, 0, 0, 0}, 1, 2}, {board{2, 2}, []int{2, 0, 0, 0}, 2, 1}, {board{2, 2}, []int{1, 2, 0, 0}, 1, 1},
		{board{3, 3}, []int{0, 0, 0, 2, 2, 0, 0, 0, 0}, 3, 1}, {board{3, 3}, []int{1, 0, 2, 1, 1, 2, 0, 1, 0}, 0, -1}, {board{3, 3}, []int{0, 0, 1, 0, 0, 0, 1, 0, 0}, 1, 3},
		{board{3, 3}, []int{2, 2, 0, 1, 0, 0, 0, 0, 2}, 3, 1}, {board{3, 3}, []int{1, 2, 2, 2, 0, 1, 1, 1, 2}, -1, 0}, {board{3, 3}, []int{1, 1, 2, 2, 0, 1, 1, 1, 2}, 1, 1},
		{board{2, 4}, []int{0, 2, 2, 0, 1, 1, 0, 1}, 1, 2},
	} {
		if first, second := gapOf(x.b, x.position, impl.First), gapOf(x.b, x.position, impl.Second); first != x.first || second != x.second {
			t.Fatal(x, first, second)
		}
	}
}

func TestP11GapsAndTheirCellsAreThoseOfAllSets(t *testing.T) {
	eachSide(func(b board, position []int, player int) {
		before := slices.Clone(position)
		gap, cells := wantGap(b, position, player)
		if got := gapOf(b, position, player); got != gap {
			t.Fatal(b, position, player, got, gap)
		}
		wantList(t, "cells of gaps", gapCells(b, position, player), cells...)
		wantList(t, "written to", position, before...)
	})
}

func TestP11GapsAreClosedJustIfTheOtherOneHasJoined(t *testing.T) {
	eachSide(func(b board, position []int, player int) {
		gap, other := gapOf(b, position, player), impl.First+impl.Second-player
		if (gap == 0) != joins(b, position, player) || (gap == -1) != joins(b, position, other) {
			t.Fatal(b, position, player, gap)
		}
	})
}

func TestP11WithAStoneMoreAGapIsAsGreatOrOneLess(t *testing.T) {
	eachSide(func(b board, position []int, player int) {
		free := freeCells(position)
		if len(free) == 0 {
			return
		}
		gap, next := gapOf(b, position, player), gapOf(b, laid(position, free[0], player), player)
		if next != gap && (gap <= 0 || next != gap-1) {
			t.Fatal(b, position, player, gap, next)
		}
	})
}

func TestP11NoGaps(t *testing.T) {
	for _, x := range badPositions() {
		for _, player := range players() {
			if gapOf(x.board, x.position, player) != -1 {
				t.Fatal(x, player)
			}
		}
	}
	for _, b := range allBoards() {
		for _, player := range badPlayers() {
			for what := impl.Free; what <= impl.Second; what++ {
				if gapOf(b, slices.Repeat([]int{what}, b.cells()), player) != -1 {
					t.Fatal(b, player, what)
				}
			}
		}
	}
}

func TestP12FilledByHand(t *testing.T) {
	wantList(t, "one cell", impl.Filled(1, 1, []int{0}, impl.Second), 2)
	wantList(t, "one full cell", impl.Filled(1, 1, []int{1}, impl.Second), 1)
	wantList(t, "one row", impl.Filled(1, 3, []int{0, 1, 0}, impl.Second), 2, 1, 2)
	wantList(t, "one column", impl.Filled(4, 1, []int{0, 1, 2, 0}, impl.First), 1, 1, 2, 1)
	wantList(t, "two rows", impl.Filled(2, 3, []int{0, 1, 2, 0, 2, 0}, impl.First), 1, 1, 2, 1, 2, 1)
	wantList(t, "full", impl.Filled(2, 2, []int{2, 1, 1, 2}, impl.First), 2, 1, 1, 2)
}

func TestP12FilledBoardsAreFull(t *testing.T) {
	eachSide(func(b board, position []int, player int) {
		before := slices.Clone(position)
		full := impl.Filled(b.rows, b.columns, position, player)
		if !impl.PositionOk(b.rows, b.columns, full) || len(impl.CellsOf(b.rows, b.columns, full, impl.Free)) != 0 {
			t.Fatal(b, position, player, full)
		}
		for cell, what := range before {
			if what != impl.Free && full[cell] != what || what == impl.Free && full[cell] != player {
				t.Fatal(b, position, player, full)
			}
		}
		if joins(b, full, player) != (gapOf(b, position, player) != -1) {
			t.Fatal(b, position, player, full)
		}
		wantList(t, "written to", position, before...)
	})
}

func TestP12NothingIsFilled(t *testing.T) {
	for _, x := range badPositions() {
		for _, player := range players() {
			wantList(t, "no position", impl.Filled(x.rows, x.columns, x.position, player))
		}
	}
	for _, b := range allBoards() {
		for _, player := range badPlayers() {
			for what := impl.Free; what <= impl.Second; what++ {
				wantList(t, "no player", impl.Filled(b.rows, b.columns, slices.Repeat([]int{what}, b.cells()), player))
			}
		}
	}
}

func TestP12FilledBoardsAreNew(t *testing.T) {
	for _, b := range []board{{1, 1}, {1, 3}, {3, 1}, {2, 2}} {
		eachPosition(b, func(position []int) {
			for _, player := range players() {
				wantNewResult(t, slices.Clone(position), func(p []int) []int { return impl.Filled(b.rows, b.columns, p, player) })
			}
		})
	}
}

func TestP13GapCellsByHand(t *testing.T) {
	wantList(t, "one cell", gapCells(board{1, 1}, []int{0}, impl.First), 0)
	wantList(t, "one full cell", gapCells(board{1, 1}, []int{1}, impl.First))
	wantList(t, "one closed cell", gapCells(board{1, 1}, []int{1}, impl.Second))
	wantList(t, "one row", gapCells(board{1, 4}, []int{2, 0, 0, 2}, impl.First), 1, 2)
	wantList(t, "along one row", gapCells(board{1, 4}, []int{2, 0, 0, 2}, impl.Second), 1, 2)
	wantList(t, "joined in one row", gapCells(board{1, 4}, []int{1, 0, 0, 2}, impl.First))
	wantList(t, "one column", gapCells(board{4, 1}, []int{0, 1, 1, 0}, impl.First), 0, 3)
	wantList(t, "across one column", gapCells(board{4, 1}, []int{0, 1, 1, 0}, impl.Second), 0, 3)
	wantList(t, "two rows", gapCells(board{2, 2}, []int{1, 0, 0, 0}, impl.First), 2)
	wantList(t, "a bridge", gapCells(board{3, 3}, []int{0, 1, 0, 0, 0, 0, 1, 0, 0}, impl.First), 3, 4)
	wantList(t, "free", gapCells(board{3, 3}, make([]int, 9), impl.First), 0, 1, 2, 3, 4, 5, 6, 7, 8)
	wantList(t, "joined", gapCells(board{3, 3}, []int{1, 0, 2, 1, 1, 2, 0, 1, 0}, impl.First))
	wantList(t, "closed", gapCells(board{3, 3}, []int{1, 0, 2, 1, 1, 2, 0, 1, 0}, impl.Second))
}

func TestP13EachStepClosesAGapByOne(t *testing.T) {
	eachSide(func(b board, position []int, player int) {
		gap, cells := gapOf(b, position, player), gapCells(b, position, player)
		wantAscending(t, cells)
		if gap > 0 && len(cells) < gap || gap <= 0 && len(cells) > 0 {
			t.Fatal(b, position, player, gap, cells)
		}
		for _, cell := range cells {
			if position[cell] != impl.Free {
				t.Fatal(b, position, player, cells)
			}
		}
		for _, cell := range freeCells(position) {
			want := gap
			if slices.Contains(cells, cell) {
				want--
			}
			if next := gapOf(b, laid(position, cell, player), player); next != want {
				t.Fatal(b, position, player, cell, next, want)
			}
		}
	})
}

func TestP13NoGapCells(t *testing.T) {
	for _, x := range badPositions() {
		for _, player := range players() {
			wantList(t, "no position", gapCells(x.board, x.position, player))
		}
	}
	for _, b := range allBoards() {
		for _, player := range badPlayers() {
			for what := impl.Free; what <= impl.Second; what++ {
				wantList(t, "no player", gapCells(b, slices.Repeat([]int{what}, b.cells()), player))
			}
		}
	}
}

func TestP13GapCellsAreNew(t *testing.T) {
	for _, b := range []board{{1, 1}, {1, 3}, {3, 1}, {2, 2}} {
		eachPosition(b, func(position []int) {
			for _, player := range players() {
				wantNewResult(t, slices.Clone(position), func(p []int) []int { return gapCells(b, p, player) })
			}
		})
	}
}

func TestP14OnAFreeBoardGapsAreAsWideAsTheBoard(t *testing.T) {
	for _, b := range allBoards() {
		free := make([]int, b.cells())
		if gapOf(b, free, impl.First) != b.rows || gapOf(b, free, impl.Second) != b.columns {
			t.Fatal(b)
		}
	}
}

func TestP14MirroredGapsAreExchanged(t *testing.T) {
	eachSide(func(b board, position []int, player int) {
		mirrored, other := impl.Mirrored(b.rows, b.columns, position), impl.First+impl.Second-player
		if gap := gapOf(b, position, player); gapOf(board{b.columns, b.rows}, mirrored, other) != gap {
			t.Fatal(b, position, player, gap)
		}
	})
}

func TestP15SidesAreJoinedByOneGroup(t *testing.T) {
	eachSide(func(b board, position []int, player int) {
		across := false
		for cell, what := range position {
			if what == player && touchesBoth(b, groupOf(b, position, cell), player) {
				across = true
			}
		}
		if joins(b, position, player) != across {
			t.Fatal(b, position, player, across)
		}
	})
}

func touchesBoth(b board, group []int, player int) bool {
	onFirst, onLast := false, false
	for _, cell := range group {
		line, last := lineOf(b, cell, player)
		onFirst = onFirst || line == 0
		onLast = onLast || line == last
	}
	return onFirst && onLast
}

func TestP15OneStoneJoinsBoardsOfOneLine(t *testing.T) {
	for size := 1; size <= impl.MaxRows; size++ {
		for cell := range size {
			position := make([]int, size)
			position[cell] = impl.First
			if !joins(board{1, size}, position, impl.First) || joins(board{size, 1}, position, impl.First) != (size == 1) {
				t.Fatal("first", size, cell)
			}
			position[cell] = impl.Second
			if !joins(board{size, 1}, position, impl.Second) || joins(board{1, size}, position, impl.Second) != (size == 1) {
				t.Fatal("second", size, cell)
			}
		}
	}
}
