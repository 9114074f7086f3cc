package tests

import (
	"math"
	"math/bits"
	"slices"
	"testing"

	"loop.example/sidescross/impl"
)

func gamesFrom(b board, position []int, turn int) int {
	return impl.GamesFrom(b.rows, b.columns, position, turn)
}

func gamesWon(b board, position []int, turn int, player int) int {
	return impl.GamesWon(b.rows, b.columns, position, turn, player)
}

func movesLeft(b board, position []int, turn int) int {
	return impl.MovesLeft(b.rows, b.columns, position, turn)
}

func stonesNeeded(b board, position []int, player int) int {
	return impl.StonesNeeded(b.rows, b.columns, position, player)
}

func openingMap(b board) []int {
	return impl.OpeningMap(b.rows, b.columns)
}

// toldGames is what is told about a position with a player to move.
type toldGames struct {
	winner int
	games  [impl.Second + 1]int // how many each player wins
	moves  int
}

// wantTold tells it for all positions of a board, by the player to move and by numberOf, from the full ones back, by the rules alone.
func wantTold(b board) [impl.Second + 1][]toldGames {
	var positions [][]int
	eachPosition(b, func(position []int) { positions = append(positions, position) })
	var told [impl.Second + 1][]toldGames
	for _, player := range players() {
		told[player] = make([]toldGames, len(positions))
	}
	// A move makes the number of a position greater: so what is behind it is told already.
	for number, position := range slices.Backward(positions) {
		for _, turn := range players() {
			told[turn][number] = toldOf(b, position, turn, told)
		}
	}
	return told
}

func toldOf(b board, position []int, turn int, told [impl.Second + 1][]toldGames) toldGames {
	for _, player := range players() {
		if wantJoined(b, position, player) {
			over := toldGames{winner: player}
			over.games[player] = 1
			return over
		}
	}
	now := toldGames{winner: otherOf(turn)}
	shortest, longest := math.MaxInt, 0
	for _, cell := range freeCells(position) {
		next := told[otherOf(turn)][numberOf(laid(position, cell, turn))]
		for player, count := range next.games {
			now.games[player] += count
		}
		longest = max(longest, next.moves)
		if next.winner == turn {
			now.winner = turn
			shortest = min(shortest, next.moves)
		}
	}
	now.moves = 1 + longest
	if now.winner == turn {
		now.moves = 1 + shortest
	}
	return now
}

// wantStones tries all sets of free cells for stones of a player; it returns the least size of those with which the player wins, -1 if there are none.
func wantStones(position []int, player int, told [impl.Second + 1][]toldGames) int {
	free, least := freeCells(position), -1
	for set := range 1 << len(free) {
		next := slices.Clone(position)
		for i, cell := range free {
			if inSet(set, i) {
				next[cell] = player
			}
		}
		size := bits.OnesCount(uint(set))
		if (least < 0 || size < least) && told[otherOf(player)][numberOf(next)].winner == player {
			least = size
		}
	}
	return least
}

// eachTold calls visit with each position of each board, each player to move, and what is told about the positions of the board.
func eachTold(visit func(b board, position []int, turn int, told [impl.Second + 1][]toldGames)) {
	for _, b := range allBoards() {
		told := wantTold(b)
		eachPosition(b, func(position []int) {
			for _, turn := range players() {
				visit(b, position, turn, told)
			}
		})
	}
}

// eachCounted calls visit with each position of at most 6 free cells, and each player.
func eachCounted(visit func(b board, position []int, player int)) {
	eachSide(func(b board, position []int, player int) {
		if len(freeCells(position)) <= 6 {
			visit(b, position, player)
		}
	})
}

// eachUncounted calls visit with positions of more than 6 free cells, with positions that are none, and with players that are none.
func eachUncounted(visit func(b board, position []int, player int)) {
	eachSide(func(b board, position []int, player int) {
		if len(freeCells(position)) > 6 {
			visit(b, position, player)
		}
	})
	eachBadPlay(visit)
}

// gameCase is a position with what is told about its games if First is to move, and if Second is, and how many stones either player needs, all found by hand.
type gameCase struct {
	b             board
	position      []int
	first, second handGames
	stones        [2]int
}

// handGames has the games that First wins, those that Second wins, and the moves that are left.
type handGames struct {
	first, second, moves int
}

func gameCases() []gameCase {
	return []gameCase{
		// One cell.
		{board{1, 1}, []int{0}, handGames{1, 0, 1}, handGames{0, 1, 1}, [2]int{1, 1}},
		{board{1, 1}, []int{1}, handGames{1, 0, 0}, handGames{1, 0, 0}, [2]int{0, -1}},
		{board{1, 1}, []int{2}, handGames{0, 1, 0}, handGames{0, 1, 0}, [2]int{-1, 0}},
		// One row, and one column.
		{board{1, 2}, []int{0, 0}, handGames{2, 0, 1}, handGames{2, 0, 2}, [2]int{0, 2}},
		{board{1, 2}, []int{2, 0}, handGames{1, 0, 1}, handGames{0, 1, 1}, [2]int{1, 1}},
		{board{1, 3}, []int{0, 0, 0}, handGames{3, 0, 1}, handGames{6, 0, 2}, [2]int{0, 3}},
		{board{1, 3}, []int{0, 1, 0}, handGames{1, 0, 0}, handGames{1, 0, 0}, [2]int{0, -1}},
		{board{1, 4}, []int{0, 0, 0, 0}, handGames{4, 0, 1}, handGames{12, 0, 2}, [2]int{0, 4}},
		{board{1, 4}, []int{2, 0, 0, 2}, handGames{2, 0, 1}, handGames{2, 0, 2}, [2]int{0, 2}},
		{board{2, 1}, []int{0, 0}, handGames{0, 2, 2}, handGames{0, 2, 1}, [2]int{2, 0}},
		{board{4, 1}, []int{0, 0, 0, 0}, handGames{0, 12, 2}, handGames{0, 4, 1}, [2]int{4, 0}},
		{board{4, 1}, []int{1, 1, 1, 0}, handGames{1, 0, 1}, handGames{0, 1, 1}, [2]int{1, 1}},
		{board{4, 1}, []int{1, 1, 1, 1}, handGames{1, 0, 0}, handGames{1, 0, 0}, [2]int{0, -1}},
		// Two rows and columns.
		{board{2, 2}, []int{0, 0, 0, 0}, handGames{12, 12, 3}, handGames{12, 12, 3}, [2]int{1, 1}},
		{board{2, 2}, []int{1, 0, 0, 0}, handGames{5, 0, 1}, handGames{2, 4, 3}, [2]int{1, 1}},
		{board{2, 2}, []int{0, 1, 0, 0}, handGames{4, 0, 1}, handGames{4, 2, 2}, [2]int{0, 2}},
		{board{2, 2}, []int{1, 0, 0, 2}, handGames{1, 1, 1}, handGames{1, 1, 1}, [2]int{1, 1}},
		// One free cell.
		{board{2, 2}, []int{1, 2, 0, 1}, handGames{1, 0, 1}, handGames{0, 1, 1}, [2]int{1, 1}},
		{board{3, 3}, []int{1, 2, 1, 1, 0, 2, 2, 1, 1}, handGames{1, 0, 1}, handGames{0, 1, 1}, [2]int{1, 1}},
		// Won, with free cells and without.
		{board{2, 2}, []int{1, 0, 1, 0}, handGames{1, 0, 0}, handGames{1, 0, 0}, [2]int{0, -1}},
		{board{2, 2}, []int{2, 2, 0, 0}, handGames{0, 1, 0}, handGames{0, 1, 0}, [2]int{-1, 0}},
		{board{2, 2}, []int{1, 2, 2, 1}, handGames{0, 1, 0}, handGames{0, 1, 0}, [2]int{-1, 0}},
		{board{3, 3}, []int{0, 1, 0, 0, 1, 0, 0, 1, 0}, handGames{1, 0, 0}, handGames{1, 0, 0}, [2]int{0, -1}},
		{board{2, 4}, []int{1, 0, 0, 0, 1, 0, 0, 0}, handGames{1, 0, 0}, handGames{1, 0, 0}, [2]int{0, -1}},
		// Three rows, with two ways to the last one.
		{board{3, 3}, []int{2, 1, 2, 2, 1, 2, 0, 0, 1}, handGames{2, 0, 1}, handGames{2, 0, 2}, [2]int{0, 2}},
	}
}

func (x gameCase) told(turn int) handGames {
	if turn == impl.First {
		return x.first
	}
	return x.second
}

func TestP81GamesByHand(t *testing.T) {
	for _, x := range gameCases() {
		for _, turn := range players() {
			want := x.told(turn)
			if games := gamesFrom(x.b, x.position, turn); games != want.first+want.second {
				t.Fatal(x, turn, games)
			}
		}
	}
}

func TestP81GamesAreThoseOfTheRules(t *testing.T) {
	eachTold(func(b board, position []int, turn int, told [impl.Second + 1][]toldGames) {
		before, want := slices.Clone(position), -1
		if len(freeCells(before)) <= 6 {
			games := told[turn][numberOf(before)].games
			want = games[impl.First] + games[impl.Second]
		}
		if games := gamesFrom(b, position, turn); games != want {
			t.Fatal(b, before, turn, games, want)
		}
		wantList(t, "written to", position, before...)
	})
}

// wantOrders plays all orders of the free cells of a position; it returns for each player how many there are by the moves that were not made, as somebody had joined.
func wantOrders(b board, position []int, turn int) [impl.Second + 1][7]int {
	var orders [impl.Second + 1][7]int
	var order func(position []int, turn int, winner int, unused int)
	order = func(position []int, turn int, winner int, unused int) {
		for _, player := range players() {
			if winner == impl.Free && wantJoined(b, position, player) {
				winner, unused = player, len(freeCells(position))
			}
		}
		free := freeCells(position)
		if len(free) == 0 {
			orders[winner][unused]++
		}
		for _, cell := range free {
			order(laid(position, cell, turn), otherOf(turn), winner, unused)
		}
	}
	order(position, turn, impl.Free, 0)
	return orders
}

func TestP81GamesAreOrdersWithoutTheMovesThatAreNotMade(t *testing.T) {
	// How many orders there are of what is left.
	ways := [7]int{1, 1, 2, 6, 24, 120, 720}
	seen := 0
	eachCounted(func(b board, position []int, turn int) {
		seen++
		if free := len(freeCells(position)); free > 4 && seen%41 != 0 {
			return
		}
		for player, orders := range wantOrders(b, position, turn) {
			want := 0
			for unused, count := range orders {
				want += count / ways[unused]
			}
			if player != impl.Free && gamesWon(b, position, turn, player) != want {
				t.Fatal(b, position, turn, player, want)
			}
		}
	})
}

func TestP81AllGamesAreThoseAfterEachFirstMove(t *testing.T) {
	eachCounted(func(b board, position []int, turn int) {
		games := gamesFrom(b, position, turn)
		if games != gamesWon(b, position, turn, impl.First)+gamesWon(b, position, turn, impl.Second) {
			t.Fatal("won by one", b, position, turn)
		}
		if won(b, position) {
			if games != 1 {
				t.Fatal("won", b, position, turn, games)
			}
			return
		}
		sum := 0
		for cell := range position {
			if next, ok := played(b, position, cell, turn); ok {
				sum += gamesFrom(b, next, otherOf(turn))
			}
		}
		if games != sum {
			t.Fatal(b, position, turn, games, sum)
		}
	})
}

func TestP81OfOneFreeCellThereIsOneGame(t *testing.T) {
	lastCells := map[board]int{}
	eachCounted(func(b board, position []int, turn int) {
		if len(freeCells(position)) != 1 {
			return
		}
		if games := gamesFrom(b, position, turn); games != 1 {
			t.Fatal(b, position, turn, games)
		}
		if won(b, position) {
			return
		}
		lastCells[b]++
		if gamesWon(b, position, turn, turn) != 1 || gamesWon(b, position, turn, otherOf(turn)) != 0 || movesLeft(b, position, turn) != 1 || stonesNeeded(b, position, turn) != 1 {
			t.Fatal("last cell", b, position, turn)
		}
	})
	// On each board there is such a position, for both players.
	for _, b := range allBoards() {
		if lastCells[b] < 2 {
			t.Fatal(b, lastCells[b])
		}
	}
}

func TestP81NoGames(t *testing.T) {
	eachUncounted(func(b board, position []int, turn int) {
		if games := gamesFrom(b, position, turn); games != -1 {
			t.Fatal(b, position, turn, games)
		}
	})
}

func TestP82WonGamesByHand(t *testing.T) {
	for _, x := range gameCases() {
		for _, turn := range players() {
			want := x.told(turn)
			first, second := gamesWon(x.b, x.position, turn, impl.First), gamesWon(x.b, x.position, turn, impl.Second)
			if first != want.first || second != want.second {
				t.Fatal(x, turn, first, second)
			}
		}
	}
}

func TestP82WonGamesAreThoseOfTheRules(t *testing.T) {
	eachTold(func(b board, position []int, turn int, told [impl.Second + 1][]toldGames) {
		before := slices.Clone(position)
		for _, player := range players() {
			want := -1
			if len(freeCells(before)) <= 6 {
				want = told[turn][numberOf(before)].games[player]
			}
			if games := gamesWon(b, position, turn, player); games != want {
				t.Fatal(b, before, turn, player, games, want)
			}
		}
		wantList(t, "written to", position, before...)
	})
}

func TestP82WhoWinsWhateverIsPlayedHasNoOtherGames(t *testing.T) {
	every, none := 0, 0
	eachCounted(func(b board, position []int, turn int) {
		all := gamesFrom(b, position, turn)
		turned := impl.HalfTurned(b.rows, b.columns, position)
		for _, player := range players() {
			games := gamesWon(b, position, turn, player)
			if games < 0 || games > all || gamesWon(b, turned, turn, player) != games {
				t.Fatal(b, position, turn, player, games)
			}
			if games == all && winnerOf(b, position, turn) != player {
				t.Fatal("all games", b, position, turn, player)
			}
			switch {
			case games == all && !won(b, position):
				every++
			case games == 0 && !won(b, position):
				none++
			}
		}
	})
	if every == 0 || none != every {
		t.Fatal(every, none)
	}
}

func TestP82NoWonGames(t *testing.T) {
	eachUncounted(func(b board, position []int, turn int) {
		for _, player := range append(players(), badPlayers()...) {
			if games := gamesWon(b, position, turn, player); games != -1 {
				t.Fatal(b, position, turn, player, games)
			}
		}
	})
	for _, b := range allBoards() {
		for what := impl.Free; what <= impl.Second; what++ {
			position := slices.Repeat([]int{what}, b.cells())
			for _, player := range badPlayers() {
				for _, turn := range players() {
					if games := gamesWon(b, position, turn, player); games != -1 {
						t.Fatal("no player", b, position, turn, player, games)
					}
				}
			}
		}
	}
}

func TestP83MovesLeftByHand(t *testing.T) {
	for _, x := range gameCases() {
		for _, turn := range players() {
			if moves := movesLeft(x.b, x.position, turn); moves != x.told(turn).moves {
				t.Fatal(x, turn, moves)
			}
		}
	}
}

func TestP83MovesLeftAreThoseOfTheRules(t *testing.T) {
	lengths := map[int]int{}
	eachTold(func(b board, position []int, turn int, told [impl.Second + 1][]toldGames) {
		before, want := slices.Clone(position), -1
		if len(freeCells(before)) <= 6 {
			want = told[turn][numberOf(before)].moves
		}
		moves := movesLeft(b, position, turn)
		if moves != want {
			t.Fatal(b, before, turn, moves, want)
		}
		lengths[moves]++
		wantList(t, "written to", position, before...)
	})
	// Up to the last free cell, games of each length are met.
	for moves := -1; moves <= 6; moves++ {
		if lengths[moves] == 0 {
			t.Fatal(moves, lengths)
		}
	}
}

func TestP83WhoWinsToMoveMakesTheLastMove(t *testing.T) {
	eachCounted(func(b board, position []int, turn int) {
		moves := movesLeft(b, position, turn)
		if (moves == 0) != won(b, position) || moves < 0 || moves > len(freeCells(position)) {
			t.Fatal(b, position, turn, moves)
		}
		if !won(b, position) && (moves%2 == 1) != (winnerOf(b, position, turn) == turn) {
			t.Fatal("the last move", b, position, turn, moves)
		}
	})
}

func TestP83TheWinnerHurriesAndTheOtherOneDelays(t *testing.T) {
	eachCounted(func(b board, position []int, turn int) {
		if won(b, position) {
			return
		}
		cells := winningCells(b, position, turn)
		choose := func(a int, c int) int { return min(a, c) }
		if len(cells) == 0 {
			cells = freeCells(position)
			choose = func(a int, c int) int { return max(a, c) }
		}
		next, _ := played(b, position, cells[0], turn)
		best := movesLeft(b, next, otherOf(turn))
		for _, cell := range cells {
			next, _ := played(b, position, cell, turn)
			best = choose(best, movesLeft(b, next, otherOf(turn)))
		}
		if moves := movesLeft(b, position, turn); moves != best+1 {
			t.Fatal(b, position, turn, moves, best)
		}
	})
}

func TestP83NoMovesLeft(t *testing.T) {
	eachUncounted(func(b board, position []int, turn int) {
		if moves := movesLeft(b, position, turn); moves != -1 {
			t.Fatal(b, position, turn, moves)
		}
	})
}

func TestP84StonesNeededByHand(t *testing.T) {
	for _, x := range gameCases() {
		for i, player := range players() {
			if stones := stonesNeeded(x.b, x.position, player); stones != x.stones[i] {
				t.Fatal(x, player, stones)
			}
		}
	}
	for _, x := range []struct {
		b      board
		stones [2]int
	}{
		// On wider boards First wins moving second, on higher ones Second does.
		{board{2, 3}, [2]int{0, 2}}, {board{3, 2}, [2]int{2, 0}}, {board{3, 1}, [2]int{3, 0}},
	} {
		for i, player := range players() {
			if stones := stonesNeeded(x.b, freePosition(x.b), player); stones != x.stones[i] {
				t.Fatal(x, player, stones)
			}
		}
	}
}

func TestP84StonesNeededAreThoseOfAllSets(t *testing.T) {
	counts := map[int]int{}
	eachTold(func(b board, position []int, player int, told [impl.Second + 1][]toldGames) {
		before, want := slices.Clone(position), -1
		if len(freeCells(before)) <= 6 {
			want = wantStones(before, player, told)
		}
		stones := stonesNeeded(b, position, player)
		if stones != want {
			t.Fatal(b, before, player, stones, want)
		}
		counts[stones]++
		wantList(t, "written to", position, before...)
	})
	for stones := -1; stones <= 4; stones++ {
		if counts[stones] == 0 {
			t.Fatal(stones, counts)
		}
	}
}

func TestP84WhoIsNoGapBehindNeedsNoStones(t *testing.T) {
	eachCounted(func(b board, position []int, player int) {
		stones, gap := stonesNeeded(b, position, player), gapOf(b, position, player)
		if (stones == 0) != (winnerOf(b, position, otherOf(player)) == player) {
			t.Fatal("none", b, position, player, stones)
		}
		if stones > gap || (stones >= 0) != (gap >= 0) || stones < -1 {
			t.Fatal("gap", b, position, player, stones, gap)
		}
	})
}

func TestP84NoStonesNeeded(t *testing.T) {
	eachUncounted(func(b board, position []int, player int) {
		if stones := stonesNeeded(b, position, player); stones != -1 {
			t.Fatal(b, position, player, stones)
		}
	})
}

func TestP85OpeningMapsByHand(t *testing.T) {
	for _, x := range []struct {
		b    board
		want []int
	}{
		{board{1, 1}, []int{1}},
		{board{1, 2}, []int{1, 1}}, {board{1, 3}, []int{1, 1, 1}}, {board{1, 4}, []int{1, 1, 1, 1}},
		{board{2, 1}, []int{2, 2}}, {board{3, 1}, []int{2, 2, 2}}, {board{4, 1}, []int{2, 2, 2, 2}},
		{board{2, 2}, []int{2, 1, 1, 2}},
		{board{2, 3}, []int{1, 1, 1, 1, 1, 1}}, {board{3, 2}, []int{2, 2, 2, 2, 2, 2}},
	} {
		wantList(t, "map", openingMap(x.b), x.want...)
	}
}

func TestP85OpeningMapsAreThoseOfAllGames(t *testing.T) {
	for _, b := range allBoards() {
		if b.cells() > 6 {
			continue
		}
		winners := wantWinners(b)
		var want []int
		for cell := range b.cells() {
			want = append(want, winners[impl.Second][numberOf(laid(freePosition(b), cell, impl.First))])
		}
		wantList(t, "map", openingMap(b), want...)
	}
}

func TestP85OpeningsAreTurned(t *testing.T) {
	for _, b := range allBoards() {
		if b.cells() > 6 {
			continue
		}
		winners := openingMap(b)
		if len(winners) != b.cells() {
			t.Fatal(b, winners)
		}
		var cells []int
		for cell, winner := range winners {
			if winner == impl.First {
				cells = append(cells, cell)
			}
			if winner != impl.First && winner != impl.Second || winners[halfTurnedCell(b, cell)] != winner {
				t.Fatal(b, winners, cell)
			}
		}
		wantList(t, "openings", cells, openings(b, impl.First)...)
	}
}

func TestP85NoOpeningMaps(t *testing.T) {
	for _, b := range append(badBoards(), board{2, 4}, board{4, 2}, board{3, 3}) {
		wantList(t, "no small board", openingMap(b))
	}
}

func TestP85OpeningMapsAreNew(t *testing.T) {
	for _, b := range allBoards() {
		wantNewResult(t, nil, func([]int) []int { return openingMap(b) })
	}
}

func TestP86MirroredGamesAreAsMany(t *testing.T) {
	eachCounted(func(b board, position []int, turn int) {
		other, mirrored := board{b.columns, b.rows}, impl.Mirrored(b.rows, b.columns, position)
		if gamesFrom(other, mirrored, otherOf(turn)) != gamesFrom(b, position, turn) {
			t.Fatal("games", b, position, turn)
		}
		for _, player := range players() {
			if gamesWon(other, mirrored, otherOf(turn), otherOf(player)) != gamesWon(b, position, turn, player) {
				t.Fatal("won", b, position, turn, player)
			}
		}
		if movesLeft(other, mirrored, otherOf(turn)) != movesLeft(b, position, turn) {
			t.Fatal("moves", b, position, turn)
		}
		if stonesNeeded(other, mirrored, otherOf(turn)) != stonesNeeded(b, position, turn) {
			t.Fatal("stones", b, position, turn)
		}
	})
}

func TestP86MirroredGamesByHand(t *testing.T) {
	for _, x := range gameCases() {
		other, mirrored := board{x.b.columns, x.b.rows}, make([]int, x.b.cells())
		for cell, what := range x.position {
			if what != impl.Free {
				what = otherOf(what)
			}
			mirrored[mirroredCell(x.b, cell)] = what
		}
		for _, turn := range players() {
			want := x.told(turn)
			if games := gamesFrom(other, mirrored, otherOf(turn)); games != want.first+want.second {
				t.Fatal("games", x, turn, games)
			}
			if games := gamesWon(other, mirrored, otherOf(turn), impl.Second); games != want.first {
				t.Fatal("won", x, turn, games)
			}
			if moves := movesLeft(other, mirrored, otherOf(turn)); moves != want.moves {
				t.Fatal("moves", x, turn, moves)
			}
		}
	}
}
