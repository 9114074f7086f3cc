package tests

import (
	"math"
	"slices"
	"testing"

	"loop.example/sidescross/impl"
)

func openings(b board, player int) []int {
	return impl.Openings(b.rows, b.columns, player)
}

func pairCell(b board, cell int) int {
	return impl.PairCell(b.rows, b.columns, cell)
}

func pairFilled(b board, choices int) []int {
	return impl.PairFilled(b.rows, b.columns, choices)
}

func freePosition(b board) []int {
	return make([]int, b.cells())
}

// pairing is a board with more columns than rows, with the partner of each of its cells, -1 where there is none.
type pairing struct {
	board
	partners []int
}

// allPairings is written out by hand: the partner is the cell mirrored about the line between the columns r and r + 1 of the row r.
func allPairings() []pairing {
	return []pairing{
		{board{1, 2}, []int{
			1, 0,
		}},
		{board{1, 3}, []int{
			1, 0, -1,
		}},
		{board{1, 4}, []int{
			1, 0, -1, -1,
		}},
		{board{2, 3}, []int{
			1, 0, 3,
			2, 5, 4,
		}},
		{board{2, 4}, []int{
			1, 0, 4, -1,
			2, 6, 5, -1,
		}},
	}
}

// pairs returns the pairs of cells, the lesser one first, in the order of the lesser cells.
func (x pairing) pairs() [][2]int {
	var list [][2]int
	for cell, partner := range x.partners {
		if partner > cell {
			list = append(list, [2]int{cell, partner})
		}
	}
	return list
}

// wantFilled gives each pair to both players by the written pairs alone.
func (x pairing) wantFilled(choices int) []int {
	filled := slices.Repeat([]int{impl.Second}, x.cells())
	for i, pair := range x.pairs() {
		if choices>>i&1 == 1 {
			filled[pair[0]] = impl.First
		} else {
			filled[pair[1]] = impl.First
		}
	}
	return filled
}

// boardsNotWider have as many columns as rows, or fewer.
func boardsNotWider() []board {
	return []board{{1, 1}, {2, 1}, {2, 2}, {3, 1}, {3, 2}, {3, 3}, {4, 1}, {4, 2}}
}

func TestP23OpeningsByHand(t *testing.T) {
	for _, x := range []struct {
		b             board
		first, second []int
	}{
		{board{1, 1}, []int{0}, []int{0}},
		{board{2, 2}, []int{1, 2}, []int{1, 2}},
		{board{3, 3}, []int{2, 3, 4, 5, 6}, []int{1, 2, 4, 6, 7}},
		{board{1, 3}, []int{0, 1, 2}, nil}, {board{3, 1}, nil, []int{0, 1, 2}},
		{board{2, 3}, []int{0, 1, 2, 3, 4, 5}, nil}, {board{3, 2}, nil, []int{0, 1, 2, 3, 4, 5}},
	} {
		wantList(t, "of First", openings(x.b, impl.First), x.first...)
		wantList(t, "of Second", openings(x.b, impl.Second), x.second...)
	}
}

func TestP23OpeningsAreThoseOfAllGames(t *testing.T) {
	for _, b := range allBoards() {
		winners := wantWinners(b)
		for _, player := range players() {
			wantList(t, "openings", openings(b, player), wantWinning(freePosition(b), player, winners)...)
			wantList(t, "winning cells", openings(b, player), winningCells(b, freePosition(b), player)...)
		}
	}
}

func TestP23OnSquareBoardsWhoMovesFirstWins(t *testing.T) {
	for _, b := range []board{{1, 1}, {2, 2}, {3, 3}} {
		for _, player := range players() {
			if len(openings(b, player)) == 0 || winnerOf(b, freePosition(b), player) != player {
				t.Fatal(b, player)
			}
		}
	}
}

func TestP23OpeningsMirroredAndTurned(t *testing.T) {
	for _, b := range allBoards() {
		for _, player := range players() {
			cells := openings(b, player)
			wantAscending(t, cells)
			var mirrored, turned []int
			for _, cell := range cells {
				mirrored = append(mirrored, mirroredCell(b, cell))
				turned = append(turned, halfTurnedCell(b, cell))
			}
			slices.Sort(mirrored)
			slices.Sort(turned)
			wantList(t, "mirrored", openings(board{b.columns, b.rows}, otherOf(player)), mirrored...)
			wantList(t, "turned", cells, turned...)
		}
	}
}

func TestP23NoOpenings(t *testing.T) {
	for _, b := range badBoards() {
		for _, player := range append(players(), badPlayers()...) {
			wantList(t, "no board", openings(b, player))
		}
	}
	for _, b := range allBoards() {
		for _, player := range badPlayers() {
			wantList(t, "no player", openings(b, player))
		}
	}
}

func TestP23OpeningsAreNew(t *testing.T) {
	for _, b := range allBoards() {
		for _, player := range players() {
			wantNewResult(t, nil, func([]int) []int { return openings(b, player) })
		}
	}
}

func TestP24PartnersByHand(t *testing.T) {
	for _, x := range allPairings() {
		for cell, want := range x.partners {
			if partner := pairCell(x.board, cell); partner != want {
				t.Fatal(x.board, cell, partner, want)
			}
		}
	}
}

func TestP24PartnersAreSoBothWays(t *testing.T) {
	for _, x := range allPairings() {
		alone := 0
		for cell := range x.cells() {
			partner := pairCell(x.board, cell)
			if partner == -1 {
				alone++
				continue
			}
			if partner < 0 || partner >= x.cells() || partner == cell || pairCell(x.board, partner) != cell {
				t.Fatal(x.board, cell, partner)
			}
		}
		// Just the columns behind the one numbered as the rows have no partners: none, with one column more than rows.
		if alone != x.rows*(x.columns-x.rows-1) {
			t.Fatal(x.board, alone)
		}
	}
}

func TestP24NoPartners(t *testing.T) {
	for _, b := range append(boardsNotWider(), badBoards()...) {
		for cell := -1; cell <= 20; cell++ {
			if partner := pairCell(b, cell); partner != -1 {
				t.Fatal("no wider board", b, cell, partner)
			}
		}
	}
	for _, b := range allBoards() {
		for _, cell := range badCells(b) {
			if partner := pairCell(b, cell); partner != -1 {
				t.Fatal("no cell", b, cell, partner)
			}
		}
	}
}

func TestP25PairsSharedByHand(t *testing.T) {
	wantList(t, "lesser", pairFilled(board{1, 2}, 1), 1, 2)
	wantList(t, "greater", pairFilled(board{1, 2}, 0), 2, 1)
	wantList(t, "lesser of three", pairFilled(board{1, 3}, 1), 1, 2, 2)
	wantList(t, "greater of four", pairFilled(board{1, 4}, 0), 2, 1, 2, 2)
	wantList(t, "all greater", pairFilled(board{2, 3}, 0), 2, 1, 2, 1, 2, 1)
	wantList(t, "the first lesser", pairFilled(board{2, 3}, 1), 1, 2, 2, 1, 2, 1)
	wantList(t, "the last lesser", pairFilled(board{2, 3}, 4), 2, 1, 2, 1, 1, 2)
	wantList(t, "all lesser", pairFilled(board{2, 3}, 7), 1, 2, 1, 2, 1, 2)
	wantList(t, "the second lesser", pairFilled(board{2, 4}, 2), 2, 1, 1, 2, 2, 2, 1, 2)
	wantList(t, "with a bit that no pair takes", pairFilled(board{2, 4}, 13), 1, 2, 2, 2, 1, 1, 2, 2)
}

func TestP25PairsAreSharedByBits(t *testing.T) {
	for _, x := range allPairings() {
		choices := []int{math.MaxInt, math.MaxInt - 1, math.MaxInt - 2, 1 << 62, 1 << 32}
		for choice := range 1 << (len(x.pairs()) + 3) {
			choices = append(choices, choice)
		}
		for _, choice := range choices {
			wantList(t, "shared", pairFilled(x.board, choice), x.wantFilled(choice)...)
		}
	}
}

func TestP25HoweverPairsAreSharedTheFirstPlayerHasJoined(t *testing.T) {
	for _, x := range allPairings() {
		for choices := range 1 << len(x.pairs()) {
			filled := pairFilled(x.board, choices)
			if !impl.PositionOk(x.rows, x.columns, filled) || len(impl.CellsOf(x.rows, x.columns, filled, impl.Free)) != 0 {
				t.Fatal("not full", x.board, choices, filled)
			}
			if countOf(filled, impl.First) != len(x.pairs()) {
				t.Fatal("not shared", x.board, choices, filled)
			}
			if !wantJoined(x.board, filled, impl.First) || !joins(x.board, filled, impl.First) || joins(x.board, filled, impl.Second) {
				t.Fatal("not joined", x.board, choices, filled)
			}
		}
		for _, turn := range players() {
			if winnerOf(x.board, freePosition(x.board), turn) != impl.First {
				t.Fatal(x.board, turn)
			}
		}
	}
}

func TestP25NothingIsShared(t *testing.T) {
	for _, b := range append(boardsNotWider(), badBoards()...) {
		for _, choices := range []int{0, 1, 2, 7, -1, math.MaxInt, math.MinInt} {
			wantList(t, "no wider board", pairFilled(b, choices))
		}
	}
	for _, x := range allPairings() {
		for _, choices := range []int{-1, -2, -8, math.MinInt, math.MinInt + 1, -1 << 32} {
			wantList(t, "below 0", pairFilled(x.board, choices))
		}
	}
}

func TestP25SharedPairsAreNew(t *testing.T) {
	for _, x := range allPairings() {
		for choices := range 1 << len(x.pairs()) {
			wantNewResult(t, nil, func([]int) []int { return pairFilled(x.board, choices) })
		}
	}
}

func TestP26OnWiderBoardsTheFirstPlayerWins(t *testing.T) {
	for _, x := range allPairings() {
		every := make([]int, x.cells())
		for cell := range every {
			every[cell] = cell
		}
		for _, turn := range players() {
			if winner := winnerOf(x.board, freePosition(x.board), turn); winner != impl.First {
				t.Fatal(x.board, turn, winner)
			}
		}
		wantList(t, "of Second", openings(x.board, impl.Second))
		// Who wins moving second wins behind each own move as well: a stone more never harms.
		wantList(t, "of First", openings(x.board, impl.First), every...)
		higher := board{x.columns, x.rows}
		wantList(t, "of First on the higher board", openings(higher, impl.First))
		wantList(t, "of Second on the higher board", openings(higher, impl.Second), every...)
	}
}
