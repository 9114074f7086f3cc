package tests

import (
	"math"
	"slices"
	"testing"

	"loop.example/sidescross/impl"
)

func mattersAt(b board, position []int, cell int) bool {
	return impl.MattersAt(b.rows, b.columns, position, cell)
}

func deadCells(b board, position []int) []int {
	return impl.DeadCells(b.rows, b.columns, position)
}

func fillCount(b board, position []int, player int) int {
	return impl.FillCount(b.rows, b.columns, position, player)
}

func pivotCount(b board, position []int, cell int) int {
	return impl.PivotCount(b.rows, b.columns, position, cell)
}

// eachFilling calls visit with every filling of the free cells of a position, all in the same memory.
func eachFilling(position []int, visit func(full []int)) {
	full, free := slices.Clone(position), freeCells(position)
	for number := range 1 << len(free) {
		for i, cell := range free {
			full[cell] = impl.First + number>>i&1
		}
		visit(full)
	}
}

// joinedFull tells for each full position of a board who has joined in it, by numberOf.
type joinedFull map[int]int

// wantJoinedFull walks from stone to stone for both players, and takes from no theorem that just one of them has joined.
func wantJoinedFull(t *testing.T, b board) joinedFull {
	t.Helper()
	joined := joinedFull{}
	eachFilling(freePosition(b), func(full []int) {
		first, second := wantJoined(b, full, impl.First), wantJoined(b, full, impl.Second)
		switch {
		case first == second:
			t.Fatal(b, full, first, second)
		case first:
			joined[numberOf(full)] = impl.First
		default:
			joined[numberOf(full)] = impl.Second
		}
	})
	return joined
}

func (joined joinedFull) wantFillCount(position []int, player int) int {
	count := 0
	eachFilling(position, func(full []int) {
		if joined[numberOf(full)] == player {
			count++
		}
	})
	return count
}

func (joined joinedFull) wantPivotCount(position []int, cell int) int {
	count := 0
	eachFilling(laid(position, cell, impl.First), func(full []int) {
		without := laid(full, cell, impl.Second)
		if joined[numberOf(full)] == impl.First && joined[numberOf(without)] != impl.First {
			count++
		}
	})
	return count
}

// eachFill calls visit with each position of each board, and who has joined in the full positions of the board.
func eachFill(t *testing.T, visit func(b board, position []int, joined joinedFull)) {
	t.Helper()
	for _, b := range allBoards() {
		joined := wantJoinedFull(t, b)
		eachPosition(b, func(position []int) { visit(b, position, joined) })
	}
}

// fillCase is a position with all that is asked about its fillings, found by hand.
type fillCase struct {
	b             board
	position      []int
	first, second int
	pivots        []int // for each cell, -1 if it is not free
	dead          []int
}

func fillCases() []fillCase {
	return []fillCase{
		{board{1, 1}, []int{0}, 1, 1, []int{1}, nil},
		{board{1, 1}, []int{1}, 1, 0, []int{-1}, nil},
		{board{1, 1}, []int{2}, 0, 1, []int{-1}, nil},
		{board{1, 2}, []int{0, 0}, 3, 1, []int{1, 1}, nil},
		{board{2, 1}, []int{0, 0}, 1, 3, []int{1, 1}, nil},
		{board{1, 3}, []int{2, 0, 2}, 1, 1, []int{-1, 1, -1}, nil},
		{board{1, 4}, []int{0, 0, 0, 0}, 15, 1, []int{1, 1, 1, 1}, nil},
		{board{1, 4}, []int{2, 0, 0, 2}, 3, 1, []int{-1, 1, 1, -1}, nil},
		{board{1, 4}, []int{0, 0, 1, 0}, 8, 0, []int{0, 0, -1, 0}, []int{0, 1, 3}},
		{board{4, 1}, []int{1, 0, 0, 1}, 1, 3, []int{-1, 1, 1, -1}, nil},
		{board{4, 1}, []int{0, 2, 0, 0}, 0, 8, []int{0, -1, 0, 0}, []int{0, 2, 3}},
		{board{2, 2}, []int{0, 0, 0, 0}, 8, 8, []int{2, 4, 4, 2}, nil},
		{board{2, 2}, []int{1, 0, 0, 0}, 5, 3, []int{-1, 1, 3, 1}, nil},
		{board{2, 2}, []int{0, 1, 0, 0}, 6, 2, []int{0, -1, 2, 2}, []int{0}},
		{board{2, 2}, []int{1, 0, 1, 0}, 4, 0, []int{-1, 0, -1, 0}, []int{1, 3}},
		{board{2, 2}, []int{2, 2, 0, 0}, 0, 4, []int{-1, -1, 0, 0}, []int{2, 3}},
		{board{2, 2}, []int{1, 2, 0, 1}, 1, 1, []int{-1, -1, 1, -1}, nil},
		{board{2, 2}, []int{0, 1, 2, 1}, 2, 0, []int{0, -1, -1, -1}, []int{0}},
		{board{2, 2}, []int{1, 2, 2, 1}, 0, 1, []int{-1, -1, -1, -1}, nil},
		{board{3, 3}, []int{2, 1, 1, 2, 1, 2, 2, 1, 0}, 2, 0, []int{-1, -1, -1, -1, -1, -1, -1, -1, 0}, []int{8}},
	}
}

// eachNoFill calls visit with positions that are none, of boards that are none among them.
func eachNoFill(visit func(b board, position []int)) {
	for _, x := range badPositions() {
		visit(x.board, x.position)
	}
	for _, b := range badBoards() {
		for _, cells := range []int{1, 2, 5, 9, 12, 16} {
			for what := impl.Free; what <= impl.Second; what++ {
				visit(b, slices.Repeat([]int{what}, cells))
			}
		}
	}
}

// eachNotFree calls visit with each position of each board, and cells that are not free, or none of the board.
func eachNotFree(visit func(b board, position []int, cell int)) {
	for _, b := range allBoards() {
		eachPosition(b, func(position []int) {
			for cell, what := range position {
				if what != impl.Free {
					visit(b, position, cell)
				}
			}
			for _, cell := range badCells(b) {
				visit(b, position, cell)
			}
		})
	}
}

func TestP27MattersByHand(t *testing.T) {
	for _, x := range fillCases() {
		for cell, pivots := range x.pivots {
			if mattersAt(x.b, x.position, cell) != (pivots > 0) {
				t.Fatal(x, cell)
			}
		}
	}
}

func TestP27CellsThatMatterAreThoseOfAllFillings(t *testing.T) {
	eachFill(t, func(b board, position []int, joined joinedFull) {
		before := slices.Clone(position)
		for _, cell := range freeCells(before) {
			if mattersAt(b, position, cell) != (joined.wantPivotCount(before, cell) > 0) {
				t.Fatal(b, before, cell)
			}
		}
		wantList(t, "written to", position, before...)
	})
}

func TestP27WhatMattersMattersForBoth(t *testing.T) {
	for _, b := range allBoards() {
		eachPosition(b, func(position []int) {
			mirrored := impl.Mirrored(b.rows, b.columns, position)
			for cell := range position {
				if mattersAt(b, position, cell) != mattersAt(board{b.columns, b.rows}, mirrored, mirroredCell(b, cell)) {
					t.Fatal(b, position, cell)
				}
			}
		})
	}
}

func TestP27IfSomebodyHasJoinedNoCellMatters(t *testing.T) {
	for _, b := range allBoards() {
		eachPosition(b, func(position []int) {
			over, free := won(b, position), freeCells(position)
			for _, cell := range free {
				matters := mattersAt(b, position, cell)
				if over && matters {
					t.Fatal("somebody has joined", b, position, cell)
				}
				// The last free cell decides if nobody has joined: somebody has in the end.
				if len(free) == 1 && matters == over {
					t.Fatal("one free cell", b, position, cell)
				}
			}
		})
	}
}

func TestP27NothingMatters(t *testing.T) {
	eachNoFill(func(b board, position []int) {
		for cell := -1; cell <= 9; cell++ {
			if mattersAt(b, position, cell) {
				t.Fatal(b, position, cell)
			}
		}
	})
	eachNotFree(func(b board, position []int, cell int) {
		if mattersAt(b, position, cell) {
			t.Fatal(b, position, cell)
		}
	})
}

func TestP28DeadCellsByHand(t *testing.T) {
	for _, x := range fillCases() {
		wantList(t, "dead", deadCells(x.b, x.position), x.dead...)
	}
	wantList(t, "cut off", deadCells(board{3, 3}, []int{2, 0, 0, 2, 0, 0, 0, 1, 0}), 6, 8)
	for _, b := range allBoards() {
		wantList(t, "free board", deadCells(b, freePosition(b)))
	}
}

func TestP28DeadCellsAreThoseOfAllFillings(t *testing.T) {
	eachFill(t, func(b board, position []int, joined joinedFull) {
		before := slices.Clone(position)
		var want []int
		for _, cell := range freeCells(before) {
			if joined.wantPivotCount(before, cell) == 0 {
				want = append(want, cell)
			}
		}
		wantList(t, "dead", deadCells(b, position), want...)
		wantList(t, "written to", position, before...)
	})
}

func TestP28IfSomebodyHasJoinedAllFreeCellsAreDead(t *testing.T) {
	for _, b := range allBoards() {
		eachPosition(b, func(position []int) {
			if won(b, position) {
				wantList(t, "won", deadCells(b, position), freeCells(position)...)
			}
		})
	}
}

func TestP28StonesOnDeadCellsChangeNothing(t *testing.T) {
	eachSide(func(b board, position []int, player int) {
		dead := deadCells(b, position)
		if len(dead) == 0 || len(freeCells(position)) == 1 && !won(b, position) {
			return
		}
		var winners [impl.Second + 1]int
		for _, turn := range players() {
			winners[turn] = winnerOf(b, position, turn)
		}
		for _, cell := range dead {
			next := laid(position, cell, player)
			for _, turn := range players() {
				if winnerOf(b, next, turn) != winners[turn] {
					t.Fatal(b, position, player, cell, turn)
				}
			}
			stay := deadCells(b, next)
			for _, other := range dead {
				if other != cell && !slices.Contains(stay, other) {
					t.Fatal(b, position, player, cell, other, stay)
				}
			}
		}
	})
}

func TestP28NoDeadCells(t *testing.T) {
	eachNoFill(func(b board, position []int) {
		wantList(t, "no position", deadCells(b, position))
	})
	for _, b := range allBoards() {
		for _, player := range players() {
			wantList(t, "full", deadCells(b, slices.Repeat([]int{player}, b.cells())))
		}
	}
}

func TestP28DeadCellsAreNew(t *testing.T) {
	for _, b := range smallBoards() {
		eachPosition(b, func(position []int) {
			wantNewResult(t, slices.Clone(position), func(p []int) []int { return deadCells(b, p) })
		})
	}
}

func TestP29FillCountsByHand(t *testing.T) {
	cases := append(fillCases(),
		fillCase{b: board{2, 3}, position: make([]int, 6), first: 43, second: 21},
		fillCase{b: board{3, 2}, position: make([]int, 6), first: 21, second: 43},
		fillCase{b: board{3, 3}, position: make([]int, 9), first: 256, second: 256},
	)
	for _, x := range cases {
		if first, second := fillCount(x.b, x.position, impl.First), fillCount(x.b, x.position, impl.Second); first != x.first || second != x.second {
			t.Fatal(x, first, second)
		}
	}
}

func TestP29FillCountsAreThoseOfAllFillings(t *testing.T) {
	eachFill(t, func(b board, position []int, joined joinedFull) {
		before := slices.Clone(position)
		for _, player := range players() {
			if count := fillCount(b, position, player); count != joined.wantFillCount(before, player) {
				t.Fatal(b, before, player, count)
			}
		}
		wantList(t, "written to", position, before...)
	})
}

func TestP29EachFillingIsWonByOne(t *testing.T) {
	eachSide(func(b board, position []int, player int) {
		count, free := fillCount(b, position, player), freeCells(position)
		if count < 0 || count+fillCount(b, position, otherOf(player)) != 1<<len(free) {
			t.Fatal(b, position, player, count)
		}
		if len(free) == 0 {
			return
		}
		own := fillCount(b, laid(position, free[0], player), player)
		other := fillCount(b, laid(position, free[0], otherOf(player)), player)
		if own+other != count || own < other {
			t.Fatal(b, position, player, count, own, other)
		}
	})
}

func TestP29NoFillings(t *testing.T) {
	eachBadPlay(func(b board, position []int, player int) {
		if count := fillCount(b, position, player); count != -1 {
			t.Fatal(b, position, player, count)
		}
	})
}

func TestP30PivotCountsByHand(t *testing.T) {
	for _, x := range fillCases() {
		for cell, want := range x.pivots {
			if pivots := pivotCount(x.b, x.position, cell); pivots != want {
				t.Fatal(x, cell, pivots)
			}
		}
	}
}

func TestP30PivotCountsAreThoseOfAllFillings(t *testing.T) {
	eachFill(t, func(b board, position []int, joined joinedFull) {
		before := slices.Clone(position)
		for _, cell := range freeCells(before) {
			if pivots := pivotCount(b, position, cell); pivots != joined.wantPivotCount(before, cell) {
				t.Fatal(b, before, cell, pivots)
			}
		}
		wantList(t, "written to", position, before...)
	})
}

func TestP30WhatAStoneDecidesIsWhatItAdds(t *testing.T) {
	for _, b := range allBoards() {
		eachPosition(b, func(position []int) {
			for _, cell := range freeCells(position) {
				with := fillCount(b, laid(position, cell, impl.First), impl.First)
				without := fillCount(b, laid(position, cell, impl.Second), impl.First)
				pivots := pivotCount(b, position, cell)
				if pivots != with-without || (pivots > 0) != mattersAt(b, position, cell) {
					t.Fatal(b, position, cell, pivots, with, without)
				}
			}
		})
	}
}

func TestP30NothingIsDecided(t *testing.T) {
	eachNoFill(func(b board, position []int) {
		for cell := -1; cell <= 9; cell++ {
			if pivots := pivotCount(b, position, cell); pivots != -1 {
				t.Fatal(b, position, cell, pivots)
			}
		}
	})
	eachNotFree(func(b board, position []int, cell int) {
		if pivots := pivotCount(b, position, cell); pivots != -1 {
			t.Fatal(b, position, cell, pivots)
		}
	})
	for _, cell := range []int{math.MinInt + 1, 1 << 62, -1 << 32} {
		if pivots := pivotCount(board{3, 3}, make([]int, 9), cell); pivots != -1 {
			t.Fatal(cell, pivots)
		}
	}
}

func TestP31TurnedACellDecidesAsMuch(t *testing.T) {
	for _, b := range allBoards() {
		eachPosition(b, func(position []int) {
			turned := impl.HalfTurned(b.rows, b.columns, position)
			mirrored := impl.Mirrored(b.rows, b.columns, position)
			for cell := range position {
				pivots := pivotCount(b, position, cell)
				if pivotCount(b, turned, halfTurnedCell(b, cell)) != pivots {
					t.Fatal("turned", b, position, cell, pivots)
				}
				if pivotCount(board{b.columns, b.rows}, mirrored, mirroredCell(b, cell)) != pivots {
					t.Fatal("mirrored", b, position, cell, pivots)
				}
			}
		})
	}
}

func TestP32MirroredTheOtherPlayerHasAsManyFillings(t *testing.T) {
	eachSide(func(b board, position []int, player int) {
		mirrored := impl.Mirrored(b.rows, b.columns, position)
		if fillCount(board{b.columns, b.rows}, mirrored, otherOf(player)) != fillCount(b, position, player) {
			t.Fatal(b, position, player)
		}
	})
}

func TestP32OnASquareBoardEachPlayerWinsHalfOfAllFillings(t *testing.T) {
	for _, x := range []struct {
		side, half int
	}{{1, 1}, {2, 8}, {3, 256}} {
		b := board{x.side, x.side}
		for _, player := range players() {
			if count := fillCount(b, freePosition(b), player); count != x.half {
				t.Fatal(b, player, count)
			}
		}
	}
}
