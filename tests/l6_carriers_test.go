package tests

import (
	"math"
	"math/bits"
	"slices"
	"testing"

	"loop.example/sidescross/impl"
)

func carrierOk(b board, position []int, player int, set int) bool {
	return impl.CarrierOk(b.rows, b.columns, position, player, set)
}

func threatOk(b board, position []int, player int, set int) bool {
	return impl.ThreatOk(b.rows, b.columns, position, player, set)
}

func leastCarrier(b board, position []int, player int) int {
	return impl.LeastCarrier(b.rows, b.columns, position, player)
}

func leastThreat(b board, position []int, player int) int {
	return impl.LeastThreat(b.rows, b.columns, position, player)
}

func bridgesOf(b board, cell int) []int {
	return impl.BridgesOf(b.rows, b.columns, cell)
}

func mustCells(b board, position []int, player int) []int {
	return impl.MustCells(b.rows, b.columns, position, player)
}

// setWith returns the set of some cells, each told by its power of 2.
func setWith(cells ...int) int {
	set := 0
	for _, cell := range cells {
		set += 1 << cell
	}
	return set
}

func inSet(set int, cell int) bool {
	return set>>cell&1 == 1
}

func allCells(b board) int {
	return 1<<b.cells() - 1
}

// wantWithin tells by solved positions whether a player wins with stones of the other one on all free cells outside of a set.
func wantWithin(position []int, player int, turn int, set int, winners [impl.Second + 1][]int) bool {
	filled := slices.Clone(position)
	for _, cell := range freeCells(position) {
		if !inSet(set, cell) {
			filled[cell] = otherOf(player)
		}
	}
	return winners[turn][numberOf(filled)] == player
}

// wantLeast tries all sets of free cells from the least number on: it returns the first one of those with the fewest cells.
func wantLeast(b board, position []int, player int, turn int, winners [impl.Second + 1][]int) int {
	free, least := setWith(freeCells(position)...), -1
	for set := range allCells(b) + 1 {
		if set&^free == 0 && (least < 0 || bits.OnesCount(uint(set)) < bits.OnesCount(uint(least))) && wantWithin(position, player, turn, set, winners) {
			least = set
		}
	}
	return least
}

// setsOf returns all sets of cells on small boards, and on others that of no cells, that of all, those of the free cells and of the others, and some that differ from position to position.
func setsOf(b board, position []int) []int {
	all := allCells(b)
	if b.cells() <= 6 {
		sets := make([]int, all+1)
		for set := range sets {
			sets[set] = set
		}
		return sets
	}
	free, number := setWith(freeCells(position)...), numberOf(position)
	return []int{0, all, free, all &^ free, number & all, number * 77 & all}
}

// eachSet calls visit with each position of each board, each player, and the sets of setsOf.
func eachSet(visit func(b board, position []int, player int, set int)) {
	eachSide(func(b board, position []int, player int) {
		for _, set := range setsOf(b, position) {
			visit(b, position, player, set)
		}
	})
}

// badSets have a cell that the board has not, or are no numbers of sets.
func badSets(b board) []int {
	all := allCells(b)
	return []int{-1, -all, -all - 1, all + 1, all + 2, 2*all + 1, 1 << 9, 1 << 32, 1 << 62, math.MinInt, math.MinInt + 1, math.MaxInt}
}

// eachBadSet calls visit with positions, players and sets, of which at least one is none.
func eachBadSet(visit func(b board, position []int, player int, set int)) {
	eachBadPlay(func(b board, position []int, player int) {
		for _, set := range []int{0, 1, 3, 15, 511, -1, math.MaxInt} {
			visit(b, position, player, set)
		}
	})
	eachSide(func(b board, position []int, player int) {
		for _, set := range badSets(b) {
			visit(b, position, player, set)
		}
	})
}

// carryCase is a position with the sets of free cells that carry a player, or are a threat, found by hand: those with these cells, and those with more.
type carryCase struct {
	b        board
	position []int
	player   int
	carriers []int
	threats  []int
}

func carryCases() []carryCase {
	return []carryCase{
		{board{1, 1}, []int{0}, 1, nil, []int{setWith(0)}},
		{board{1, 1}, []int{0}, 2, nil, []int{setWith(0)}},
		{board{1, 1}, []int{1}, 1, []int{0}, []int{0}},
		{board{1, 1}, []int{1}, 2, nil, nil},
		{board{1, 1}, []int{2}, 1, nil, nil},
		{board{1, 1}, []int{2}, 2, []int{0}, []int{0}},
		{board{1, 3}, []int{0, 0, 0}, 1, []int{setWith(0, 1), setWith(0, 2), setWith(1, 2)}, []int{setWith(0), setWith(1), setWith(2)}},
		{board{1, 3}, []int{0, 0, 0}, 2, nil, nil},
		{board{1, 3}, []int{2, 0, 2}, 1, nil, []int{setWith(1)}},
		{board{1, 3}, []int{2, 0, 2}, 2, nil, []int{setWith(1)}},
		{board{1, 3}, []int{2, 0, 0}, 1, []int{setWith(1, 2)}, []int{setWith(1), setWith(2)}},
		{board{1, 3}, []int{0, 1, 0}, 1, []int{0}, []int{0}},
		{board{1, 3}, []int{0, 1, 0}, 2, nil, nil},
		{board{4, 1}, []int{1, 0, 0, 1}, 1, nil, nil},
		{board{4, 1}, []int{1, 0, 0, 1}, 2, []int{setWith(1, 2)}, []int{setWith(1), setWith(2)}},
		{board{4, 1}, []int{1, 1, 1, 0}, 1, nil, []int{setWith(3)}},
		{board{4, 1}, []int{1, 1, 1, 0}, 2, nil, []int{setWith(3)}},
		{board{2, 2}, []int{0, 0, 0, 0}, 1, nil, []int{setWith(0, 1, 2), setWith(1, 2, 3)}},
		{board{2, 2}, []int{0, 0, 0, 0}, 2, nil, []int{setWith(0, 1, 2), setWith(1, 2, 3)}},
		{board{2, 2}, []int{0, 1, 0, 0}, 1, []int{setWith(2, 3)}, []int{setWith(2), setWith(3)}},
		{board{2, 2}, []int{0, 1, 0, 0}, 2, nil, nil},
		{board{2, 2}, []int{1, 0, 0, 0}, 1, nil, []int{setWith(2)}},
		{board{2, 2}, []int{1, 0, 0, 0}, 2, nil, []int{setWith(1, 2, 3)}},
		{board{2, 2}, []int{1, 0, 1, 0}, 1, []int{0}, []int{0}},
		{board{2, 2}, []int{1, 0, 1, 0}, 2, nil, nil},
		{board{2, 2}, []int{1, 2, 2, 1}, 1, nil, nil},
		{board{2, 2}, []int{1, 2, 2, 1}, 2, []int{0}, []int{0}},
		{board{3, 3}, []int{0, 0, 0, 2, 1, 2, 0, 0, 0}, 1, []int{setWith(1, 2, 6, 7)}, []int{setWith(1, 2, 6), setWith(1, 2, 7), setWith(1, 6, 7), setWith(2, 6, 7)}},
	}
}

// isWith reports whether a set has all cells of one of some sets.
func isWith(sets []int, set int) bool {
	return slices.ContainsFunc(sets, func(part int) bool { return part&^set == 0 })
}

func TestP33CarriersByHand(t *testing.T) {
	for _, x := range carryCases() {
		for set := range allCells(x.b) + 1 {
			if carrierOk(x.b, x.position, x.player, set) != isWith(x.carriers, set) {
				t.Fatal(x, set)
			}
		}
	}
}

func TestP33CarriersAreThoseOfSolvedPositions(t *testing.T) {
	eachSolved(func(b board, position []int, player int, winners [impl.Second + 1][]int) {
		before := slices.Clone(position)
		for _, set := range setsOf(b, before) {
			if carrierOk(b, position, player, set) != wantWithin(before, player, otherOf(player), set, winners) {
				t.Fatal(b, before, player, set)
			}
		}
		wantList(t, "written to", position, before...)
	})
}

func TestP33WithMoreCellsItCarriesStill(t *testing.T) {
	eachSide(func(b board, position []int, player int) {
		all := carrierOk(b, position, player, allCells(b))
		if all != (winnerOf(b, position, otherOf(player)) == player) {
			t.Fatal("all cells", b, position, player)
		}
		for _, set := range setsOf(b, position) {
			if carrierOk(b, position, player, set) && (!all || !threatOk(b, position, player, set)) {
				t.Fatal(b, position, player, set)
			}
		}
	})
}

func TestP33NoCellsCarryJustWhoHasJoined(t *testing.T) {
	eachSide(func(b board, position []int, player int) {
		if carrierOk(b, position, player, 0) != wantJoined(b, position, player) {
			t.Fatal(b, position, player)
		}
	})
}

func TestP33InWonPositionsEachSetCarriesTheWinner(t *testing.T) {
	eachSet(func(b board, position []int, player int, set int) {
		if won(b, position) && carrierOk(b, position, player, set) != wantJoined(b, position, player) {
			t.Fatal(b, position, player, set)
		}
	})
}

func TestP33NoCarriers(t *testing.T) {
	eachBadSet(func(b board, position []int, player int, set int) {
		if carrierOk(b, position, player, set) {
			t.Fatal(b, position, player, set)
		}
	})
}

func TestP34ThreatsByHand(t *testing.T) {
	for _, x := range carryCases() {
		for set := range allCells(x.b) + 1 {
			if threatOk(x.b, x.position, x.player, set) != isWith(x.threats, set) {
				t.Fatal(x, set)
			}
		}
	}
}

func TestP34ThreatsAreThoseOfSolvedPositions(t *testing.T) {
	eachSolved(func(b board, position []int, player int, winners [impl.Second + 1][]int) {
		before := slices.Clone(position)
		for _, set := range setsOf(b, before) {
			if threatOk(b, position, player, set) != wantWithin(before, player, player, set, winners) {
				t.Fatal(b, before, player, set)
			}
		}
		wantList(t, "written to", position, before...)
	})
}

func TestP34ThreatsMustBeMetInThem(t *testing.T) {
	eachSide(func(b board, position []int, player int) {
		if threatOk(b, position, player, allCells(b)) != (winnerOf(b, position, player) == player) {
			t.Fatal("all cells", b, position, player)
		}
		meet := setWith(winningCells(b, position, otherOf(player))...)
		for _, set := range setsOf(b, position) {
			if threatOk(b, position, player, set) && meet&^set != 0 {
				t.Fatal(b, position, player, set, meet)
			}
		}
	})
}

func TestP34NoCellsAreAThreatJustOfWhoHasJoined(t *testing.T) {
	eachSide(func(b board, position []int, player int) {
		if threatOk(b, position, player, 0) != wantJoined(b, position, player) {
			t.Fatal(b, position, player)
		}
	})
}

func TestP34InWonPositionsEachSetIsAThreatOfTheWinner(t *testing.T) {
	eachSet(func(b board, position []int, player int, set int) {
		if won(b, position) && threatOk(b, position, player, set) != wantJoined(b, position, player) {
			t.Fatal(b, position, player, set)
		}
	})
}

func TestP34NoThreats(t *testing.T) {
	eachBadSet(func(b board, position []int, player int, set int) {
		if threatOk(b, position, player, set) {
			t.Fatal(b, position, player, set)
		}
	})
}

// leastOf returns the first set of a case, as each case has them in their order; -1 if it has none.
func leastOf(sets []int) int {
	if len(sets) == 0 {
		return -1
	}
	return sets[0]
}

func TestP35LeastCarriersByHand(t *testing.T) {
	for _, x := range carryCases() {
		if set := leastCarrier(x.b, x.position, x.player); set != leastOf(x.carriers) {
			t.Fatal(x, set)
		}
	}
	for _, x := range []struct {
		position []int
		player   int
		want     int
	}{
		{[]int{0, 0, 0, 0, 1, 0, 0, 0, 0}, 1, setWith(1, 2, 6, 7)},
		{[]int{0, 0, 0, 0, 1, 0, 0, 0, 0}, 2, -1},
		{[]int{0, 0, 0, 0, 2, 0, 0, 0, 0}, 2, setWith(2, 3, 5, 6)},
		{[]int{0, 1, 0, 0, 1, 0, 0, 0, 0}, 1, setWith(6, 7)},
		{make([]int, 9), 1, -1},
		{make([]int, 9), 2, -1},
	} {
		if set := leastCarrier(board{3, 3}, x.position, x.player); set != x.want {
			t.Fatal(x, set)
		}
	}
}

func TestP35LeastCarriersAreThoseOfAllSets(t *testing.T) {
	eachSolved(func(b board, position []int, player int, winners [impl.Second + 1][]int) {
		before := slices.Clone(position)
		if set := leastCarrier(b, position, player); set != wantLeast(b, before, player, otherOf(player), winners) {
			t.Fatal(b, before, player, set)
		}
		wantList(t, "written to", position, before...)
	})
}

// wantNeeded checks that a set has free cells alone, and that it holds, and without any one of its cells does not.
func wantNeeded(t *testing.T, position []int, set int, holds func(set int) bool) {
	t.Helper()
	if !holds(set) || set&^setWith(freeCells(position)...) != 0 {
		t.Fatal(position, set)
	}
	for _, cell := range freeCells(position) {
		if inSet(set, cell) && holds(set-1<<cell) {
			t.Fatal(position, set, cell)
		}
	}
}

func TestP35LeastCarriersNeedEachOfTheirCells(t *testing.T) {
	eachSide(func(b board, position []int, player int) {
		set := leastCarrier(b, position, player)
		if (set >= 0) != (winnerOf(b, position, otherOf(player)) == player) {
			t.Fatal(b, position, player, set)
		}
		if set >= 0 {
			wantNeeded(t, position, set, func(set int) bool { return carrierOk(b, position, player, set) })
		}
	})
}

func TestP35LeastCarriersOfWonPositionsHaveNoCells(t *testing.T) {
	eachSide(func(b board, position []int, player int) {
		if set := leastCarrier(b, position, player); (set == 0) != wantJoined(b, position, player) {
			t.Fatal(b, position, player, set)
		}
	})
}

func TestP35NoLeastCarriers(t *testing.T) {
	eachBadPlay(func(b board, position []int, player int) {
		if set := leastCarrier(b, position, player); set != -1 {
			t.Fatal(b, position, player, set)
		}
	})
}

func TestP36LeastThreatsByHand(t *testing.T) {
	for _, x := range carryCases() {
		if set := leastThreat(x.b, x.position, x.player); set != leastOf(x.threats) {
			t.Fatal(x, set)
		}
	}
	for _, x := range []struct {
		position []int
		player   int
		want     int
	}{
		{[]int{0, 0, 0, 0, 1, 0, 0, 0, 0}, 1, setWith(1, 2, 6)},
		{[]int{0, 0, 0, 0, 2, 0, 0, 0, 0}, 2, setWith(2, 3, 5)},
		{[]int{0, 1, 0, 0, 1, 0, 0, 0, 0}, 1, setWith(6)},
		{[]int{2, 0, 0, 0, 0, 0, 0, 0, 1}, 1, setWith(1, 2, 4, 5, 6)},
		{[]int{1, 0, 2, 2, 2, 0, 1, 1, 0}, 1, -1},
		{[]int{1, 0, 2, 2, 2, 0, 1, 1, 0}, 2, 0},
	} {
		if set := leastThreat(board{3, 3}, x.position, x.player); set != x.want {
			t.Fatal(x, set)
		}
	}
}

func TestP36LeastThreatsAreThoseOfAllSets(t *testing.T) {
	eachSolved(func(b board, position []int, player int, winners [impl.Second + 1][]int) {
		before := slices.Clone(position)
		if set := leastThreat(b, position, player); set != wantLeast(b, before, player, player, winners) {
			t.Fatal(b, before, player, set)
		}
		wantList(t, "written to", position, before...)
	})
}

func TestP36LeastThreatsNeedEachOfTheirCells(t *testing.T) {
	eachSide(func(b board, position []int, player int) {
		set, carrier := leastThreat(b, position, player), leastCarrier(b, position, player)
		if (set >= 0) != (winnerOf(b, position, player) == player) {
			t.Fatal(b, position, player, set)
		}
		if set >= 0 {
			wantNeeded(t, position, set, func(set int) bool { return threatOk(b, position, player, set) })
		}
		if carrier >= 0 && (set < 0 || bits.OnesCount(uint(set)) > bits.OnesCount(uint(carrier))) {
			t.Fatal(b, position, player, set, carrier)
		}
	})
}

func TestP36LeastThreatsOfWonPositionsHaveNoCells(t *testing.T) {
	eachSide(func(b board, position []int, player int) {
		if set := leastThreat(b, position, player); (set == 0) != wantJoined(b, position, player) {
			t.Fatal(b, position, player, set)
		}
	})
}

func TestP36NoLeastThreats(t *testing.T) {
	eachBadPlay(func(b board, position []int, player int) {
		if set := leastThreat(b, position, player); set != -1 {
			t.Fatal(b, position, player, set)
		}
	})
}

func TestP37TwoThreatsByHand(t *testing.T) {
	for _, x := range []struct {
		b        board
		position []int
		player   int
		a, c     int
		want     bool
	}{
		{board{2, 2}, []int{0, 1, 0, 0}, 1, setWith(2), setWith(3), true},
		{board{2, 2}, []int{0, 1, 0, 0}, 1, setWith(1, 2), setWith(1, 3), true},
		{board{2, 2}, []int{0, 1, 0, 0}, 1, setWith(0, 2), setWith(2), false},
		{board{2, 2}, []int{0, 0, 0, 0}, 2, setWith(0, 1, 2), setWith(1, 2, 3), false},
		{board{3, 3}, []int{0, 0, 0, 0, 1, 0, 0, 1, 0}, 1, setWith(1), setWith(2), true},
		{board{3, 3}, []int{0, 0, 0, 0, 1, 0, 0, 0, 0}, 1, setWith(1, 2, 6), setWith(1, 2, 7), true},
		{board{2, 2}, []int{1, 0, 1, 0}, 1, 0, 0, true},
	} {
		if !threatOk(x.b, x.position, x.player, x.a) || !threatOk(x.b, x.position, x.player, x.c) {
			t.Fatal("no threats", x)
		}
		if carrierOk(x.b, x.position, x.player, x.a|x.c) != x.want {
			t.Fatal(x)
		}
	}
}

// threatsOf returns all sets of free cells that are a threat of a player.
func threatsOf(b board, position []int, player int) []int {
	free := setWith(freeCells(position)...)
	var threats []int
	for set := range allCells(b) + 1 {
		if set&^free == 0 && threatOk(b, position, player, set) {
			threats = append(threats, set)
		}
	}
	return threats
}

func TestP37TwoThreatsWithoutACommonCellCarryTogether(t *testing.T) {
	pairs := 0
	eachSide(func(b board, position []int, player int) {
		if b.cells() > 6 {
			return
		}
		// Cells that are not free may be in common.
		taken := allCells(b) &^ setWith(freeCells(position)...)
		threats := threatsOf(b, position, player)
		for _, a := range threats {
			for _, c := range threats {
				if a&c != 0 {
					continue
				}
				pairs++
				if !threatOk(b, position, player, a|taken) || !carrierOk(b, position, player, a|c) || !carrierOk(b, position, player, a|c|taken) {
					t.Fatal(b, position, player, a, c)
				}
			}
		}
	})
	if pairs == 0 {
		t.Fatal("no threats without a common cell")
	}
}

func TestP37AThreatOutsideOfTheLeastOneCarriesWithIt(t *testing.T) {
	pairs := 0
	eachSide(func(b board, position []int, player int) {
		least := leastThreat(b, position, player)
		if least < 0 {
			return
		}
		for _, set := range setsOf(b, position) {
			if outside := set &^ least; threatOk(b, position, player, outside) {
				pairs++
				if !carrierOk(b, position, player, least|outside) {
					t.Fatal(b, position, player, least, outside)
				}
			}
		}
	})
	if pairs == 0 {
		t.Fatal("no threats without a common cell")
	}
}

func TestP38BridgesByHand(t *testing.T) {
	for _, x := range []struct {
		b    board
		cell int
		want []int
	}{
		{board{1, 1}, 0, nil},
		{board{1, 4}, 0, nil}, {board{1, 4}, 1, nil}, {board{4, 1}, 0, nil}, {board{4, 1}, 3, nil},
		{board{2, 2}, 0, []int{3}}, {board{2, 2}, 1, nil}, {board{2, 2}, 2, nil}, {board{2, 2}, 3, []int{0}},
		{board{2, 4}, 0, []int{5}}, {board{2, 4}, 1, []int{6}}, {board{2, 4}, 2, []int{4, 7}}, {board{2, 4}, 3, []int{5}},
		{board{2, 4}, 4, []int{2}}, {board{2, 4}, 5, []int{0, 3}}, {board{2, 4}, 6, []int{1}}, {board{2, 4}, 7, []int{2}},
		{board{3, 3}, 0, []int{4}}, {board{3, 3}, 1, []int{5, 6}}, {board{3, 3}, 2, []int{3, 7}}, {board{3, 3}, 4, []int{0, 8}}, {board{3, 3}, 8, []int{4}},
	} {
		wantList(t, "bridges", bridgesOf(x.b, x.cell), x.want...)
	}
}

// wantBridge tells a bridge by isNear alone.
func wantBridge(b board, cell int, other int) bool {
	common := 0
	for between := range b.cells() {
		if isNear(b, cell, between) && isNear(b, other, between) {
			common++
		}
	}
	return other != cell && !isNear(b, cell, other) && common == 2
}

func TestP38BridgesAreSoBothWays(t *testing.T) {
	for _, b := range allBoards() {
		for cell := range b.cells() {
			bridges := bridgesOf(b, cell)
			wantAscending(t, bridges)
			for other := range b.cells() {
				is := slices.Contains(bridges, other)
				if is != wantBridge(b, cell, other) || is != slices.Contains(bridgesOf(b, other), cell) {
					t.Fatal(b, cell, other, bridges)
				}
			}
			for _, other := range bridges {
				if other == cell || slices.Contains(near(b, cell), other) {
					t.Fatal(b, cell, bridges)
				}
			}
		}
	}
}

func TestP38NoBridges(t *testing.T) {
	for _, b := range badBoards() {
		for cell := -1; cell <= 9; cell++ {
			wantList(t, "no board", bridgesOf(b, cell))
		}
	}
	for _, b := range allBoards() {
		for _, cell := range badCells(b) {
			wantList(t, "no cell", bridgesOf(b, cell))
		}
	}
}

func TestP38BridgesAreNew(t *testing.T) {
	for _, b := range allBoards() {
		for cell := range b.cells() {
			wantNewResult(t, nil, func([]int) []int { return bridgesOf(b, cell) })
		}
	}
}

func TestP39MustCellsByHand(t *testing.T) {
	for _, x := range []struct {
		b        board
		position []int
		player   int
		want     []int
	}{
		{board{1, 1}, []int{0}, 1, []int{0}}, {board{1, 1}, []int{0}, 2, []int{0}},
		{board{1, 1}, []int{1}, 1, nil}, {board{1, 1}, []int{1}, 2, nil},
		{board{1, 3}, []int{0, 0, 0}, 1, []int{0, 1, 2}}, {board{1, 3}, []int{0, 0, 0}, 2, nil},
		{board{1, 3}, []int{2, 0, 0}, 1, []int{1, 2}}, {board{1, 3}, []int{2, 0, 0}, 2, nil},
		{board{1, 3}, []int{1, 0, 0}, 1, []int{1, 2}}, {board{1, 3}, []int{1, 0, 0}, 2, nil},
		{board{1, 3}, []int{2, 0, 2}, 1, []int{1}}, {board{1, 3}, []int{2, 0, 2}, 2, []int{1}},
		{board{2, 2}, []int{0, 0, 0, 0}, 1, []int{1, 2}}, {board{2, 2}, []int{0, 0, 0, 0}, 2, []int{1, 2}},
		{board{2, 2}, []int{1, 0, 0, 0}, 2, []int{2}}, {board{2, 2}, []int{1, 0, 0, 0}, 1, []int{1, 2, 3}},
		{board{2, 2}, []int{0, 1, 0, 0}, 2, nil}, {board{2, 2}, []int{0, 1, 0, 0}, 1, []int{0, 2, 3}},
		{board{2, 2}, []int{1, 0, 1, 0}, 2, nil}, {board{2, 2}, []int{1, 0, 1, 0}, 1, []int{1, 3}},
		{board{2, 2}, []int{1, 2, 2, 1}, 1, nil}, {board{2, 2}, []int{1, 2, 2, 1}, 2, nil},
		{board{3, 3}, []int{1, 2, 0, 0, 1, 0, 0, 2, 0}, 2, []int{2, 3, 6}},
	} {
		wantList(t, "must", mustCells(x.b, x.position, x.player), x.want...)
	}
}

// wantMust takes the free cells that are in each of all sets of free cells that are a threat of the other player.
func wantMust(b board, position []int, player int, winners [impl.Second + 1][]int) []int {
	free := setWith(freeCells(position)...)
	missed := 0
	for set := range allCells(b) + 1 {
		if set&^free == 0 && wantWithin(position, otherOf(player), otherOf(player), set, winners) {
			missed |= free &^ set
		}
	}
	return slices.DeleteFunc(freeCells(position), func(cell int) bool { return inSet(missed, cell) })
}

func TestP39MustCellsAreInAllThreats(t *testing.T) {
	eachSolved(func(b board, position []int, player int, winners [impl.Second + 1][]int) {
		before := slices.Clone(position)
		if len(freeCells(before)) <= 6 {
			wantList(t, "must", mustCells(b, position, player), wantMust(b, before, player, winners)...)
		} else {
			wantList(t, "more than 6 free cells", mustCells(b, position, player))
		}
		wantList(t, "written to", position, before...)
	})
}

func TestP39WinningCellsMeetAllThreats(t *testing.T) {
	eachSide(func(b board, position []int, player int) {
		if len(freeCells(position)) > 6 {
			return
		}
		must := mustCells(b, position, player)
		for _, cell := range winningCells(b, position, player) {
			if !slices.Contains(must, cell) {
				t.Fatal(b, position, player, must, cell)
			}
		}
		if len(must) == 0 && !won(b, position) && winnerOf(b, position, player) != otherOf(player) {
			t.Fatal(b, position, player)
		}
	})
}

func TestP39InWonPositionsTheWinnerMustNothing(t *testing.T) {
	eachSide(func(b board, position []int, player int) {
		free := freeCells(position)
		switch {
		case len(free) > 6 || !won(b, position):
		case wantJoined(b, position, player):
			wantList(t, "no threats", mustCells(b, position, player), free...)
		default:
			wantList(t, "a threat of no cells", mustCells(b, position, player))
		}
	})
}

func TestP39NoMustCells(t *testing.T) {
	eachBadPlay(func(b board, position []int, player int) {
		wantList(t, "no position", mustCells(b, position, player))
	})
}

func TestP39MustCellsAreNew(t *testing.T) {
	for _, b := range smallBoards() {
		eachPosition(b, func(position []int) {
			for _, player := range players() {
				wantNewResult(t, slices.Clone(position), func(p []int) []int { return mustCells(b, p, player) })
			}
		})
	}
}

func TestP40OneCellMoreCarriesStill(t *testing.T) {
	eachSet(func(b board, position []int, player int, set int) {
		carries, threat := carrierOk(b, position, player, set), threatOk(b, position, player, set)
		if !carries && !threat {
			return
		}
		for cell := range b.cells() {
			if inSet(set, cell) {
				continue
			}
			more := set | 1<<cell
			if carries && !carrierOk(b, position, player, more) {
				t.Fatal("no carrier", b, position, player, set, more)
			}
			if threat && !threatOk(b, position, player, more) {
				t.Fatal("no threat", b, position, player, set, more)
			}
		}
	})
}

func TestP40LeastSetsWithDrawnCellsMoreHoldStill(t *testing.T) {
	eachSide(func(b board, position []int, player int) {
		carrier, threat := leastCarrier(b, position, player), leastThreat(b, position, player)
		for _, set := range setsOf(b, position) {
			if carrier >= 0 && !carrierOk(b, position, player, carrier|set) {
				t.Fatal("no carrier", b, position, player, carrier, set)
			}
			if threat >= 0 && !threatOk(b, position, player, threat|set) {
				t.Fatal("no threat", b, position, player, threat, set)
			}
		}
	})
}

func TestP40CellsThatAreNotFreeChangeNothing(t *testing.T) {
	eachSet(func(b board, position []int, player int, set int) {
		free := set & setWith(freeCells(position)...)
		if free == set {
			return
		}
		if carrierOk(b, position, player, set) != carrierOk(b, position, player, free) {
			t.Fatal("carrier", b, position, player, set)
		}
		if threatOk(b, position, player, set) != threatOk(b, position, player, free) {
			t.Fatal("threat", b, position, player, set)
		}
	})
}
