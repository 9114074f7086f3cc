package tests

import (
	"slices"
	"testing"

	"loop.example/sidescross/impl"
)

func moveOk(b board, position []int, cell int, player int) bool {
	return impl.MoveOk(b.rows, b.columns, position, cell, player)
}

func played(b board, position []int, cell int, player int) ([]int, bool) {
	return impl.Played(b.rows, b.columns, position, cell, player)
}

func winnerOf(b board, position []int, turn int) int {
	return impl.WinnerOf(b.rows, b.columns, position, turn)
}

func winningCells(b board, position []int, player int) []int {
	return impl.WinningCells(b.rows, b.columns, position, player)
}

func linePlayed(b board, position []int, turn int) []int {
	return impl.LinePlayed(b.rows, b.columns, position, turn)
}

func otherOf(player int) int {
	return impl.First + impl.Second - player
}

// won reports by wantJoined alone whether somebody has joined.
func won(b board, position []int) bool {
	return wantJoined(b, position, impl.First) || wantJoined(b, position, impl.Second)
}

// numberOf is the place of a position in the order of eachPosition.
func numberOf(position []int) int {
	number := 0
	for _, what := range slices.Backward(position) {
		number = 3*number + what
	}
	return number
}

// wantWinners solves all positions of a board; it returns who wins by the player to move and by numberOf.
func wantWinners(b board) [impl.Second + 1][]int {
	return wantSolved(b, func(joined int) int { return joined })
}

// wantSolved solves all positions of a board from the full ones back, by the rules alone, if wins says who wins once a player has joined.
func wantSolved(b board, wins func(joined int) int) [impl.Second + 1][]int {
	var positions [][]int
	eachPosition(b, func(position []int) { positions = append(positions, position) })
	var winners [impl.Second + 1][]int
	for _, player := range players() {
		winners[player] = make([]int, len(positions))
	}
	// A move makes the number of a position greater: so what is behind it is solved already.
	for number, position := range slices.Backward(positions) {
		for _, turn := range players() {
			winners[turn][number] = wantWinner(b, position, turn, winners, wins)
		}
	}
	return winners
}

func wantWinner(b board, position []int, turn int, winners [impl.Second + 1][]int, wins func(joined int) int) int {
	for _, player := range players() {
		if wantJoined(b, position, player) {
			return wins(player)
		}
	}
	if len(wantWinning(position, turn, winners)) > 0 {
		return turn
	}
	return otherOf(turn)
}

// wantWinning returns the cells to which a player moves and wins then, in a position in which nobody has joined.
func wantWinning(position []int, player int, winners [impl.Second + 1][]int) []int {
	var cells []int
	for _, cell := range freeCells(position) {
		if winners[otherOf(player)][numberOf(laid(position, cell, player))] == player {
			cells = append(cells, cell)
		}
	}
	return cells
}

// wantLine plays by the rules and by solved positions.
func wantLine(b board, position []int, turn int, winners [impl.Second + 1][]int) []int {
	var moves []int
	for !won(b, position) {
		choices := wantWinning(position, turn, winners)
		if len(choices) == 0 {
			choices = freeCells(position)
		}
		moves = append(moves, choices[0])
		position, turn = laid(position, choices[0], turn), otherOf(turn)
	}
	return moves
}

// eachSolved calls visit with each position of each board, each player to move, and the solved positions of the board.
func eachSolved(visit func(b board, position []int, turn int, winners [impl.Second + 1][]int)) {
	eachSolvedBy(wantWinners, visit)
}

func eachSolvedBy(solve func(b board) [impl.Second + 1][]int, visit func(b board, position []int, turn int, winners [impl.Second + 1][]int)) {
	for _, b := range allBoards() {
		winners := solve(b)
		eachPosition(b, func(position []int) {
			for _, turn := range players() {
				visit(b, position, turn, winners)
			}
		})
	}
}

// eachBadPlay calls visit with positions that are none, and with players that are none.
func eachBadPlay(visit func(b board, position []int, player int)) {
	for _, x := range badPositions() {
		for _, player := range append(players(), badPlayers()...) {
			visit(x.board, x.position, player)
		}
	}
	for _, b := range badBoards() {
		for _, cells := range []int{1, 2, 5, 9, 12, 16} {
			for _, player := range players() {
				visit(b, make([]int, cells), player)
			}
		}
	}
	for _, b := range allBoards() {
		for _, player := range badPlayers() {
			for what := impl.Free; what <= impl.Second; what++ {
				visit(b, slices.Repeat([]int{what}, b.cells()), player)
			}
		}
	}
}

// smallBoards are those on which all positions are few enough to be looked at more than once.
func smallBoards() []board {
	return []board{{1, 1}, {1, 2}, {1, 3}, {3, 1}, {2, 2}}
}

func TestP16MovesByHand(t *testing.T) {
	for _, x := range []struct {
		b        board
		position []int
		cell     int
		want     bool
	}{
		{board{1, 1}, []int{0}, 0, true}, {board{1, 1}, []int{1}, 0, false}, {board{1, 1}, []int{2}, 0, false}, {board{1, 1}, []int{0}, 1, false},
		{board{1, 3}, []int{2, 0, 2}, 1, true}, {board{1, 3}, []int{2, 0, 2}, 0, false}, {board{1, 3}, []int{1, 0, 0}, 1, false}, {board{1, 3}, []int{0, 0, 0}, 3, false},
		{board{3, 1}, []int{1, 0, 1}, 1, true}, {board{3, 1}, []int{2, 0, 0}, 1, false}, {board{3, 1}, []int{0, 0, 0}, -1, false},
		{board{2, 2}, []int{1, 0, 0, 0}, 1, true}, {board{2, 2}, []int{1, 0, 0, 0}, 0, false}, {board{2, 2}, []int{1, 0, 1, 0}, 1, false}, {board{2, 2}, []int{2, 2, 0, 0}, 3, false}, {board{2, 2}, []int{1, 0, 0, 1}, 2, true},
		{board{3, 3}, []int{1, 0, 2, 1, 1, 2, 0, 1, 0}, 8, false}, {board{3, 3}, []int{1, 0, 2, 1, 0, 2, 0, 1, 0}, 8, true},
	} {
		for _, player := range players() {
			if moveOk(x.b, x.position, x.cell, player) != x.want {
				t.Fatal(x, player)
			}
		}
	}
}

func TestP16WhoMayMoveTheOtherOneMay(t *testing.T) {
	eachSide(func(b board, position []int, player int) {
		before, over := slices.Clone(position), won(b, position)
		for cell, what := range before {
			want := what == impl.Free && !over
			if moveOk(b, position, cell, player) != want || moveOk(b, position, cell, otherOf(player)) != want {
				t.Fatal(b, position, cell, player, want)
			}
		}
		wantList(t, "written to", position, before...)
	})
}

func TestP16NoMoves(t *testing.T) {
	eachBadPlay(func(b board, position []int, player int) {
		for cell := -1; cell <= 9; cell++ {
			if moveOk(b, position, cell, player) {
				t.Fatal(b, position, cell, player)
			}
		}
	})
	for _, b := range allBoards() {
		for _, cell := range badCells(b) {
			for _, player := range players() {
				if moveOk(b, make([]int, b.cells()), cell, player) {
					t.Fatal(b, cell, player)
				}
			}
		}
	}
}

func wantPlayed(t *testing.T, b board, position []int, cell int, player int, want ...int) {
	t.Helper()
	if next, ok := played(b, position, cell, player); !ok || !slices.Equal(next, want) {
		t.Fatal(b, position, cell, player, next, ok)
	}
}

func wantNotPlayed(t *testing.T, b board, position []int, cell int, player int) {
	t.Helper()
	if next, ok := played(b, position, cell, player); ok || len(next) != 0 {
		t.Fatal(b, position, cell, player, next, ok)
	}
}

func TestP17MovesMadeByHand(t *testing.T) {
	wantPlayed(t, board{1, 1}, []int{0}, 0, impl.First, 1)
	wantPlayed(t, board{1, 1}, []int{0}, 0, impl.Second, 2)
	wantPlayed(t, board{1, 4}, []int{2, 0, 0, 2}, 2, impl.First, 2, 0, 1, 2)
	wantPlayed(t, board{4, 1}, []int{1, 0, 0, 1}, 1, impl.First, 1, 1, 0, 1)
	wantPlayed(t, board{2, 2}, []int{1, 0, 0, 0}, 3, impl.Second, 1, 0, 0, 2)
	wantPlayed(t, board{2, 2}, []int{1, 0, 2, 1}, 1, impl.Second, 1, 2, 2, 1)
	wantNotPlayed(t, board{1, 1}, []int{1}, 0, impl.First)
	wantNotPlayed(t, board{1, 2}, []int{1, 0}, 1, impl.Second)
	wantNotPlayed(t, board{2, 2}, []int{1, 0, 0, 0}, 0, impl.Second)
	wantNotPlayed(t, board{2, 2}, []int{1, 0, 1, 0}, 1, impl.Second)
	wantNotPlayed(t, board{2, 2}, []int{1, 2, 2, 1}, 0, impl.First)
}

func TestP17AMoveLaysOneStone(t *testing.T) {
	eachSide(func(b board, position []int, player int) {
		before := slices.Clone(position)
		for cell := range before {
			if !moveOk(b, position, cell, player) {
				wantNotPlayed(t, b, position, cell, player)
				continue
			}
			wantPlayed(t, b, position, cell, player, laid(before, cell, player)...)
			next, _ := played(b, position, cell, player)
			if !impl.PositionOk(b.rows, b.columns, next) || joins(b, next, otherOf(player)) {
				t.Fatal(b, position, cell, player, next)
			}
			free := impl.CellsOf(b.rows, b.columns, position, impl.Free)
			left := slices.DeleteFunc(free, func(other int) bool { return other == cell })
			wantList(t, "free cells", impl.CellsOf(b.rows, b.columns, next, impl.Free), left...)
		}
		wantList(t, "written to", position, before...)
	})
}

func TestP17NothingIsPlayed(t *testing.T) {
	eachBadPlay(func(b board, position []int, player int) {
		for cell := -1; cell <= 9; cell++ {
			wantNotPlayed(t, b, position, cell, player)
		}
	})
	for _, b := range allBoards() {
		for _, cell := range badCells(b) {
			for _, player := range players() {
				wantNotPlayed(t, b, make([]int, b.cells()), cell, player)
			}
		}
	}
}

func TestP17PlayedPositionsAreNew(t *testing.T) {
	for _, b := range smallBoards() {
		eachPosition(b, func(position []int) {
			for cell := range position {
				wantNewResult(t, slices.Clone(position), func(p []int) []int {
					next, _ := played(b, p, cell, impl.First)
					return next
				})
			}
		})
	}
}

func TestP18WinnersByHand(t *testing.T) {
	for _, x := range []struct {
		b             board
		position      []int
		first, second int // who wins if First is to move, and if Second is
	}{
		{board{1, 1}, []int{0}, 1, 2}, {board{1, 1}, []int{1}, 1, 1}, {board{1, 1}, []int{2}, 2, 2},
		{board{1, 2}, []int{0, 0}, 1, 1}, {board{1, 2}, []int{2, 0}, 1, 2}, {board{1, 2}, []int{2, 2}, 2, 2}, {board{1, 4}, []int{0, 0, 0, 0}, 1, 1}, {board{1, 4}, []int{2, 1, 2, 2}, 1, 1}, {board{1, 4}, []int{2, 0, 0, 2}, 1, 1},
		{board{2, 1}, []int{0, 0}, 2, 2}, {board{2, 1}, []int{0, 1}, 1, 2}, {board{4, 1}, []int{0, 0, 0, 0}, 2, 2}, {board{4, 1}, []int{1, 1, 1, 1}, 1, 1},
		{board{2, 2}, []int{0, 0, 0, 0}, 1, 2}, {board{2, 2}, []int{0, 1, 0, 0}, 1, 1}, {board{2, 2}, []int{1, 0, 0, 0}, 1, 2}, {board{2, 2}, []int{1, 0, 1, 0}, 1, 1}, {board{2, 2}, []int{2, 2, 0, 0}, 2, 2}, {board{2, 2}, []int{1, 2, 2, 1}, 2, 2}, {board{2, 2}, []int{2, 1, 1, 2}, 1, 1},
		{board{2, 3}, make([]int, 6), 1, 1}, {board{3, 2}, make([]int, 6), 2, 2}, {board{2, 4}, make([]int, 8), 1, 1}, {board{4, 2}, make([]int, 8), 2, 2},
		{board{3, 3}, make([]int, 9), 1, 2}, {board{3, 3}, []int{0, 0, 0, 0, 1, 0, 0, 0, 0}, 1, 1}, {board{3, 3}, []int{1, 0, 0, 0, 0, 0, 0, 0, 0}, 1, 2}, {board{3, 3}, []int{1, 0, 2, 1, 1, 2, 0, 1, 0}, 1, 1}, {board{3, 3}, []int{1, 1, 1, 2, 2, 2, 1, 1, 1}, 2, 2},
	} {
		if first, second := winnerOf(x.b, x.position, impl.First), winnerOf(x.b, x.position, impl.Second); first != x.first || second != x.second {
			t.Fatal(x, first, second)
		}
	}
}

func TestP18WinnersAreThoseOfAllGames(t *testing.T) {
	eachSolved(func(b board, position []int, turn int, winners [impl.Second + 1][]int) {
		before := slices.Clone(position)
		if winner := winnerOf(b, position, turn); winner != winners[turn][numberOf(before)] {
			t.Fatal(b, position, turn, winner)
		}
		wantList(t, "written to", position, before...)
	})
}

func TestP18AStoneMoreNeverHarms(t *testing.T) {
	eachSide(func(b board, position []int, turn int) {
		winner := winnerOf(b, position, turn)
		if winner != impl.First && winner != impl.Second {
			t.Fatal(b, position, turn, winner)
		}
		if free := freeCells(position); len(free) > 0 && winnerOf(b, laid(position, free[0], winner), turn) != winner {
			t.Fatal("a stone more", b, position, turn, winner)
		}
		if winnerOf(b, position, winner) != winner {
			t.Fatal("to move", b, position, turn, winner)
		}
	})
}

func TestP18TurnedAndMirrored(t *testing.T) {
	eachSide(func(b board, position []int, turn int) {
		winner := winnerOf(b, position, turn)
		if winnerOf(b, impl.HalfTurned(b.rows, b.columns, position), turn) != winner {
			t.Fatal("turned", b, position, turn)
		}
		mirrored := impl.Mirrored(b.rows, b.columns, position)
		if winnerOf(board{b.columns, b.rows}, mirrored, otherOf(turn)) != otherOf(winner) {
			t.Fatal("mirrored", b, position, turn)
		}
	})
}

func TestP18NobodyWins(t *testing.T) {
	eachBadPlay(func(b board, position []int, player int) {
		if winner := winnerOf(b, position, player); winner != impl.Free {
			t.Fatal(b, position, player, winner)
		}
	})
}

func TestP19WinningCellsByHand(t *testing.T) {
	wantList(t, "one cell", winningCells(board{1, 1}, []int{0}, impl.First), 0)
	wantList(t, "one cell", winningCells(board{1, 1}, []int{0}, impl.Second), 0)
	wantList(t, "one full cell", winningCells(board{1, 1}, []int{1}, impl.First))
	wantList(t, "one row", winningCells(board{1, 3}, []int{0, 0, 0}, impl.First), 0, 1, 2)
	wantList(t, "along one row", winningCells(board{1, 3}, []int{0, 0, 0}, impl.Second))
	wantList(t, "the last of one row", winningCells(board{1, 3}, []int{2, 0, 2}, impl.Second), 1)
	wantList(t, "one column", winningCells(board{3, 1}, []int{0, 1, 0}, impl.Second), 0, 2)
	wantList(t, "along one column", winningCells(board{3, 1}, []int{1, 0, 1}, impl.First), 1)
	wantList(t, "free", winningCells(board{2, 2}, make([]int, 4), impl.First), 1, 2)
	wantList(t, "free", winningCells(board{2, 2}, make([]int, 4), impl.Second), 1, 2)
	wantList(t, "behind", winningCells(board{2, 2}, []int{0, 1, 0, 0}, impl.Second))
	wantList(t, "ahead", winningCells(board{2, 2}, []int{0, 1, 0, 0}, impl.First), 0, 2, 3)
	wantList(t, "won", winningCells(board{2, 2}, []int{1, 0, 1, 0}, impl.First))
	wantList(t, "lost", winningCells(board{2, 2}, []int{1, 0, 1, 0}, impl.Second))
	wantList(t, "full", winningCells(board{2, 2}, []int{2, 1, 1, 2}, impl.First))
	wantList(t, "wider", winningCells(board{2, 3}, make([]int, 6), impl.Second))
}

func TestP19WinningCellsAreThoseOfAllGames(t *testing.T) {
	eachSolved(func(b board, position []int, player int, winners [impl.Second + 1][]int) {
		before := slices.Clone(position)
		cells := winningCells(b, position, player)
		if won(b, before) {
			wantList(t, "won", cells)
		} else {
			wantList(t, "winning cells", cells, wantWinning(before, player, winners)...)
		}
		wantList(t, "written to", position, before...)
	})
}

func TestP19ThereAreWinningCellsJustForWhoWins(t *testing.T) {
	eachSide(func(b board, position []int, player int) {
		cells := winningCells(b, position, player)
		wantAscending(t, cells)
		wins := winnerOf(b, position, player) == player && !won(b, position)
		if (len(cells) > 0) != wins {
			t.Fatal(b, position, player, cells)
		}
		for cell := range position {
			next, ok := played(b, position, cell, player)
			if (ok && winnerOf(b, next, otherOf(player)) == player) != slices.Contains(cells, cell) {
				t.Fatal(b, position, player, cell, cells)
			}
		}
	})
}

func TestP19NoWinningCells(t *testing.T) {
	eachBadPlay(func(b board, position []int, player int) {
		wantList(t, "no play", winningCells(b, position, player))
	})
}

func TestP19WinningCellsAreNew(t *testing.T) {
	for _, b := range smallBoards() {
		eachPosition(b, func(position []int) {
			for _, player := range players() {
				wantNewResult(t, slices.Clone(position), func(p []int) []int { return winningCells(b, p, player) })
			}
		})
	}
}

func TestP20LinesByHand(t *testing.T) {
	wantList(t, "one cell", linePlayed(board{1, 1}, []int{0}, impl.Second), 0)
	wantList(t, "one full cell", linePlayed(board{1, 1}, []int{2}, impl.First))
	wantList(t, "one row", linePlayed(board{1, 3}, []int{0, 0, 0}, impl.First), 0)
	wantList(t, "along one row", linePlayed(board{1, 3}, []int{0, 0, 0}, impl.Second), 0, 1)
	wantList(t, "along one column", linePlayed(board{4, 1}, []int{1, 0, 0, 0}, impl.First), 1, 2)
	wantList(t, "free", linePlayed(board{2, 2}, make([]int, 4), impl.First), 1, 0, 2)
	wantList(t, "behind", linePlayed(board{2, 2}, []int{0, 1, 0, 0}, impl.Second), 0, 2)
	wantList(t, "won", linePlayed(board{2, 2}, []int{1, 0, 1, 0}, impl.Second))
	wantList(t, "full", linePlayed(board{2, 2}, []int{1, 2, 2, 1}, impl.First))
}

func TestP20LinesAreThoseOfWinningCells(t *testing.T) {
	eachSolved(func(b board, position []int, turn int, winners [impl.Second + 1][]int) {
		before := slices.Clone(position)
		wantList(t, "line", linePlayed(b, position, turn), wantLine(b, before, turn, winners)...)
		wantList(t, "written to", position, before...)
	})
}

func TestP20PlayedOnWhoWinsHasJoinedInTheEnd(t *testing.T) {
	eachSide(func(b board, position []int, turn int) {
		winner, next, player := winnerOf(b, position, turn), position, turn
		for _, cell := range linePlayed(b, position, turn) {
			after, ok := played(b, next, cell, player)
			if !ok {
				t.Fatal(b, position, turn, cell)
			}
			next, player = after, otherOf(player)
		}
		if !joins(b, next, winner) {
			t.Fatal(b, position, turn, winner, next)
		}
	})
}

func TestP20NoLines(t *testing.T) {
	eachBadPlay(func(b board, position []int, player int) {
		wantList(t, "no play", linePlayed(b, position, player))
	})
}

func TestP20LinesAreNew(t *testing.T) {
	for _, b := range smallBoards() {
		eachPosition(b, func(position []int) {
			for _, turn := range players() {
				wantNewResult(t, slices.Clone(position), func(p []int) []int { return linePlayed(b, p, turn) })
			}
		})
	}
}

func TestP21WhoWinsMovingSecondHasAnAnswerToEachMove(t *testing.T) {
	eachSide(func(b board, position []int, player int) {
		if won(b, position) || winnerOf(b, position, otherOf(player)) != player {
			return
		}
		for _, cell := range freeCells(position) {
			next, ok := played(b, position, cell, otherOf(player))
			if !ok || winnerOf(b, next, player) != player {
				t.Fatal(b, position, player, cell)
			}
		}
	})
}

func TestP22WithAStoneMoreWinningCellsStay(t *testing.T) {
	eachSide(func(b board, position []int, player int) {
		free := freeCells(position)
		if len(free) == 0 {
			return
		}
		next := laid(position, free[0], player)
		if won(b, next) {
			return
		}
		more := winningCells(b, next, player)
		for _, cell := range winningCells(b, position, player) {
			if cell != free[0] && !slices.Contains(more, cell) {
				t.Fatal(b, position, player, cell, more)
			}
		}
	})
}
