package tests

import (
	"math"
	"slices"
	"testing"

	"loop.example/sidescross/impl"
)

func reverseWinner(b board, position []int, turn int) int {
	return impl.ReverseWinner(b.rows, b.columns, position, turn)
}

func safeCells(b board, position []int, player int) []int {
	return impl.SafeCells(b.rows, b.columns, position, player)
}

// wantReverseWinners is wantWinners of the reverse game.
func wantReverseWinners(b board) [impl.Second + 1][]int {
	return wantSolved(b, otherOf)
}

func TestP50ReverseWinnersByHand(t *testing.T) {
	for _, x := range []struct {
		b             board
		position      []int
		first, second int // who wins if First is to move, and if Second is
	}{
		{board{1, 1}, []int{0}, 2, 1}, {board{1, 1}, []int{1}, 2, 2}, {board{1, 1}, []int{2}, 1, 1},
		{board{1, 2}, []int{0, 0}, 2, 2}, {board{1, 2}, []int{2, 0}, 2, 1}, {board{1, 2}, []int{1, 0}, 2, 2}, {board{1, 2}, []int{2, 2}, 1, 1}, {board{1, 2}, []int{2, 1}, 2, 2},
		{board{1, 3}, []int{0, 0, 0}, 2, 2}, {board{1, 3}, []int{2, 0, 2}, 2, 1},
		{board{1, 4}, []int{0, 0, 0, 0}, 2, 2}, {board{1, 4}, []int{2, 0, 0, 2}, 2, 2}, {board{1, 4}, []int{2, 2, 0, 2}, 2, 1}, {board{1, 4}, []int{2, 2, 2, 2}, 1, 1},
		{board{2, 1}, []int{0, 0}, 1, 1}, {board{2, 1}, []int{0, 1}, 2, 1}, {board{2, 1}, []int{2, 0}, 1, 1}, {board{2, 1}, []int{1, 1}, 2, 2},
		{board{4, 1}, []int{0, 0, 0, 0}, 1, 1}, {board{4, 1}, []int{1, 0, 0, 1}, 1, 1}, {board{4, 1}, []int{1, 0, 1, 1}, 2, 1}, {board{4, 1}, []int{1, 1, 1, 2}, 1, 1},
		{board{2, 2}, []int{0, 0, 0, 0}, 1, 2}, {board{2, 2}, []int{1, 0, 0, 0}, 2, 1}, {board{2, 2}, []int{0, 1, 0, 0}, 2, 2}, {board{2, 2}, []int{1, 0, 0, 2}, 1, 2},
		{board{2, 2}, []int{1, 2, 0, 1}, 2, 1}, {board{2, 2}, []int{1, 0, 1, 0}, 2, 2}, {board{2, 2}, []int{2, 2, 0, 0}, 1, 1}, {board{2, 2}, []int{1, 2, 2, 1}, 1, 1}, {board{2, 2}, []int{2, 1, 1, 2}, 2, 2},
		{board{3, 3}, make([]int, 9), 2, 1}, {board{3, 3}, []int{1, 0, 2, 1, 1, 2, 0, 1, 0}, 2, 2}, {board{3, 3}, []int{1, 1, 1, 2, 2, 2, 1, 1, 1}, 1, 1},
	} {
		if first, second := reverseWinner(x.b, x.position, impl.First), reverseWinner(x.b, x.position, impl.Second); first != x.first || second != x.second {
			t.Fatal(x, first, second)
		}
	}
}

func TestP50ReverseWinnersAreThoseOfAllGames(t *testing.T) {
	eachSolvedBy(wantReverseWinners, func(b board, position []int, turn int, winners [impl.Second + 1][]int) {
		before := slices.Clone(position)
		if winner := reverseWinner(b, position, turn); winner != winners[turn][numberOf(before)] {
			t.Fatal(b, position, turn, winner)
		}
		wantList(t, "written to", position, before...)
	})
}

func TestP50WhoHasJoinedHasLost(t *testing.T) {
	eachSide(func(b board, position []int, turn int) {
		for _, player := range players() {
			if joins(b, position, player) && reverseWinner(b, position, turn) != otherOf(player) {
				t.Fatal(b, position, turn, player)
			}
		}
	})
}

func TestP50TurnedAndMirroredItIsTheSameGame(t *testing.T) {
	eachSide(func(b board, position []int, turn int) {
		winner := reverseWinner(b, position, turn)
		if winner != impl.First && winner != impl.Second {
			t.Fatal(b, position, turn, winner)
		}
		if reverseWinner(b, impl.HalfTurned(b.rows, b.columns, position), turn) != winner {
			t.Fatal("turned", b, position, turn)
		}
		mirrored := impl.Mirrored(b.rows, b.columns, position)
		if reverseWinner(board{b.columns, b.rows}, mirrored, otherOf(turn)) != otherOf(winner) {
			t.Fatal("mirrored", b, position, turn)
		}
	})
}

func TestP50NobodyWinsTheReverseGame(t *testing.T) {
	eachBadPlay(func(b board, position []int, player int) {
		if winner := reverseWinner(b, position, player); winner != impl.Free {
			t.Fatal(b, position, player, winner)
		}
	})
}

func TestP51SafeCellsByHand(t *testing.T) {
	wantList(t, "one cell", safeCells(board{1, 1}, []int{0}, impl.First))
	wantList(t, "one cell", safeCells(board{1, 1}, []int{0}, impl.Second))
	wantList(t, "one full cell", safeCells(board{1, 1}, []int{1}, impl.Second))
	wantList(t, "one row", safeCells(board{1, 3}, []int{0, 0, 0}, impl.First))
	wantList(t, "along one row", safeCells(board{1, 3}, []int{0, 0, 0}, impl.Second), 0, 1, 2)
	wantList(t, "two of one row", safeCells(board{1, 4}, []int{2, 0, 0, 2}, impl.Second), 1, 2)
	wantList(t, "the last of one row", safeCells(board{1, 3}, []int{2, 0, 2}, impl.Second))
	wantList(t, "one column", safeCells(board{3, 1}, []int{0, 1, 0}, impl.Second))
	wantList(t, "along one column", safeCells(board{3, 1}, []int{0, 1, 0}, impl.First), 0, 2)
	wantList(t, "the last of one column", safeCells(board{3, 1}, []int{1, 0, 1}, impl.First))
	wantList(t, "free", safeCells(board{2, 2}, make([]int, 4), impl.First), 0, 3)
	wantList(t, "free", safeCells(board{2, 2}, make([]int, 4), impl.Second), 0, 3)
	wantList(t, "answers", safeCells(board{2, 2}, []int{0, 1, 0, 0}, impl.Second), 0)
	wantList(t, "no answers", safeCells(board{2, 2}, []int{1, 0, 0, 0}, impl.Second))
	wantList(t, "one free cell", safeCells(board{2, 2}, []int{1, 2, 0, 1}, impl.Second))
	wantList(t, "lost", safeCells(board{2, 2}, []int{1, 0, 1, 0}, impl.First))
	wantList(t, "won", safeCells(board{2, 2}, []int{1, 0, 1, 0}, impl.Second))
	wantList(t, "full", safeCells(board{2, 2}, []int{2, 1, 1, 2}, impl.Second))
	wantList(t, "three rows", safeCells(board{3, 3}, make([]int, 9), impl.First))
}

func TestP51SafeCellsAreThoseOfAllGames(t *testing.T) {
	eachSolvedBy(wantReverseWinners, func(b board, position []int, player int, winners [impl.Second + 1][]int) {
		before := slices.Clone(position)
		cells := safeCells(b, position, player)
		if won(b, before) {
			wantList(t, "won", cells)
		} else {
			wantList(t, "safe cells", cells, wantWinning(before, player, winners)...)
		}
		wantList(t, "written to", position, before...)
	})
}

func TestP51ThereAreSafeCellsJustForWhoWins(t *testing.T) {
	eachSide(func(b board, position []int, player int) {
		cells := safeCells(b, position, player)
		wantAscending(t, cells)
		wins := reverseWinner(b, position, player) == player && !won(b, position)
		if (len(cells) > 0) != wins {
			t.Fatal(b, position, player, cells)
		}
		for cell := range position {
			next, ok := played(b, position, cell, player)
			if (ok && reverseWinner(b, next, otherOf(player)) == player) != slices.Contains(cells, cell) {
				t.Fatal(b, position, player, cell, cells)
			}
		}
	})
}

func TestP51NoSafeCells(t *testing.T) {
	eachBadPlay(func(b board, position []int, player int) {
		wantList(t, "no play", safeCells(b, position, player))
	})
}

func TestP51SafeCellsAreNew(t *testing.T) {
	for _, b := range smallBoards() {
		eachPosition(b, func(position []int) {
			for _, player := range players() {
				wantNewResult(t, slices.Clone(position), func(p []int) []int { return safeCells(b, p, player) })
			}
		})
	}
}

func TestP52WhoMovesFirstWinsJustOnEvenBoards(t *testing.T) {
	for side, want := range map[int]int{1: impl.Second, 2: impl.First, 3: impl.Second} {
		if winner := impl.SquareReverse(side); winner != want {
			t.Fatal(side, winner)
		}
		b := board{side, side}
		if reverseWinner(b, freePosition(b), impl.First) != want || reverseWinner(b, freePosition(b), impl.Second) != otherOf(want) {
			t.Fatal("free", side)
		}
	}
}

func TestP52NoSquareBoards(t *testing.T) {
	for _, side := range []int{0, -1, -2, -3, 4, 5, 9, math.MinInt, math.MaxInt, 1 << 32, 1<<32 + 1, 1<<32 + 2} {
		if winner := impl.SquareReverse(side); winner != impl.Free {
			t.Fatal(side, winner)
		}
	}
}

func TestP53WhoMustFillTheLastCellLoses(t *testing.T) {
	lost := map[board]int{}
	eachSide(func(b board, position []int, player int) {
		if won(b, position) || len(freeCells(position)) != 1 {
			return
		}
		lost[b]++
		if reverseWinner(b, position, player) != otherOf(player) || winnerOf(b, position, player) != player {
			t.Fatal(b, position, player)
		}
		wantList(t, "last cell", safeCells(b, position, player))
	})
	// On each board there is such a position, for both players.
	for _, b := range allBoards() {
		if lost[b] < 2 {
			t.Fatal(b, lost[b])
		}
	}
}
