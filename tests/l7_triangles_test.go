package tests

import (
	"math"
	"slices"
	"testing"

	"loop.example/sidescross/impl"
)

// triangleSizes has the number of cells for each number of rows, from 0 on.
func triangleSizes() []int {
	return []int{0, 1, 3, 6, 10}
}

func triangleSides() []int {
	return []int{1, 2, 3, 4}
}

// badSides are out of 1..MaxSide; -2 to -5 have as many cells as triangles by the product of their rows, and others wrap around in it.
func badSides() []int {
	return []int{0, -1, -2, -3, -4, -5, 5, 6, 9, 1 << 31, 1 << 32, 1 << 33, 1 << 62, -1 << 32, math.MinInt, math.MinInt + 1, math.MaxInt, math.MaxInt - 1}
}

// triangleNears is written out by hand for four rows, as all cells of a triangle of fewer rows are the first ones of these:
//
//	   0
//	  1 2
//	 3 4 5
//	6 7 8 9
func triangleNears() [][]int {
	return [][]int{
		{1, 2},
		{0, 2, 3, 4}, {0, 1, 4, 5},
		{1, 4, 6, 7}, {1, 2, 3, 5, 7, 8}, {2, 4, 8, 9},
		{3, 7}, {3, 4, 6, 8}, {4, 5, 7, 9}, {5, 8},
	}
}

// wantTriangleNear leaves out of the written neighbours those that a triangle has not.
func wantTriangleNear(side int, cell int) []int {
	var near []int
	for _, other := range triangleNears()[cell] {
		if other < triangleSizes()[side] {
			near = append(near, other)
		}
	}
	return near
}

// triangleEdges returns the cells of the three sides, written out by hand: first cells of rows, last cells of rows, and cells of the last row.
func triangleEdges(side int) [3][]int {
	switch side {
	case 1:
		return [3][]int{{0}, {0}, {0}}
	case 2:
		return [3][]int{{0, 1}, {0, 2}, {1, 2}}
	case 3:
		return [3][]int{{0, 1, 3}, {0, 2, 5}, {3, 4, 5}}
	}
	return [3][]int{{0, 1, 3, 6}, {0, 2, 5, 9}, {6, 7, 8, 9}}
}

// triangleCorners are the first cell, and those at both ends of the last row.
func triangleCorners(side int) []int {
	return [][]int{nil, {0}, {0, 1, 2}, {0, 3, 5}, {0, 6, 9}}[side]
}

// triangleTurn returns for each cell the one from which a turn by a third takes what it was, written out by hand: rows become lines from the last row up.
func triangleTurn(side int) []int {
	return [][]int{
		nil,
		{0},
		{1, 2, 0},
		{3, 4, 1, 5, 2, 0},
		{6, 7, 3, 8, 4, 1, 9, 5, 2, 0},
	}[side]
}

// triangleTouching returns for each cell of a triangle of one row less the three that touch each other there, written out by hand for four rows.
func triangleTouching() [][3]int {
	return [][3]int{
		{0, 1, 2},
		{1, 3, 4}, {2, 4, 5},
		{3, 6, 7}, {4, 7, 8}, {5, 8, 9},
	}
}

// eachTriangle calls visit with each full triangle, each in memory of its own.
func eachTriangle(visit func(side int, filling []int)) {
	for _, side := range triangleSides() {
		size := triangleSizes()[side]
		for number := range 1 << size {
			filling := make([]int, size)
			for cell := range filling {
				filling[cell] = impl.First + number>>cell&1
			}
			visit(side, filling)
		}
	}
}

// eachNoTriangle calls visit with fillings that are none of the triangle of so many rows, or of no triangle.
func eachNoTriangle(visit func(side int, filling []int)) {
	for _, player := range players() {
		for _, side := range badSides() {
			for size := range 22 {
				visit(side, slices.Repeat([]int{player}, size))
			}
		}
		for _, side := range triangleSides() {
			visit(side, nil)
			for size := range 22 {
				if size != triangleSizes()[side] {
					visit(side, slices.Repeat([]int{player}, size))
				}
			}
			for cell := range triangleSizes()[side] {
				for _, stone := range badPlayers() {
					visit(side, laid(slices.Repeat([]int{player}, triangleSizes()[side]), cell, stone))
				}
			}
		}
	}
}

func exchangedFilling(filling []int) []int {
	other := make([]int, len(filling))
	for cell, stone := range filling {
		other[cell] = otherOf(stone)
	}
	return other
}

func touches(marks []bool, edge []int) bool {
	return slices.ContainsFunc(edge, func(cell int) bool { return marks[cell] })
}

// triangleGroup walks from a stone to all stones of its player, by the written neighbours.
func triangleGroup(side int, filling []int, cell int) []bool {
	marks := make([]bool, len(filling))
	marks[cell] = true
	for list := []int{cell}; len(list) > 0; list = list[1:] {
		for _, other := range wantTriangleNear(side, list[0]) {
			if !marks[other] && filling[other] == filling[cell] {
				marks[other] = true
				list = append(list, other)
			}
		}
	}
	return marks
}

// wantJoinsAll looks at the group of each stone of a player.
func wantJoinsAll(side int, filling []int, player int) bool {
	edges := triangleEdges(side)
	for cell, stone := range filling {
		if stone != player {
			continue
		}
		group := triangleGroup(side, filling, cell)
		if touches(group, edges[0]) && touches(group, edges[1]) && touches(group, edges[2]) {
			return true
		}
	}
	return false
}

func wantTriangleWinner(t *testing.T, side int, filling []int) int {
	t.Helper()
	first, second := wantJoinsAll(side, filling, impl.First), wantJoinsAll(side, filling, impl.Second)
	if first == second {
		t.Fatal("not just one", side, filling)
	}
	if first {
		return impl.First
	}
	return impl.Second
}

// wantShrunk counts the stones of each three cells.
func wantShrunk(side int, filling []int) []int {
	var shrunk []int
	for _, cells := range triangleTouching()[:triangleSizes()[side-1]] {
		firsts := countOf([]int{filling[cells[0]], filling[cells[1]], filling[cells[2]]}, impl.First)
		if firsts >= 2 {
			shrunk = append(shrunk, impl.First)
		} else {
			shrunk = append(shrunk, impl.Second)
		}
	}
	return shrunk
}

func TestP41TrianglesByHand(t *testing.T) {
	if impl.MaxSide != 4 {
		t.Fatal(impl.MaxSide)
	}
	for _, x := range []struct {
		side    int
		filling []int
		want    bool
	}{
		{1, []int{1}, true}, {1, []int{2}, true}, {1, []int{0}, false}, {1, []int{3}, false}, {1, nil, false}, {1, []int{1, 2}, false},
		{2, []int{1, 2, 1}, true}, {2, []int{2, 2, 2}, true}, {2, []int{1, 2}, false}, {2, []int{1, 2, 1, 2}, false}, {2, []int{1, 0, 2}, false}, {2, []int{1, 2, -1}, false},
		{3, []int{2, 1, 2, 1, 1, 1}, true}, {3, []int{2, 1, 2, 1, 1}, false}, {3, []int{2, 1, 2, 1, 1, 1, 1}, false}, {3, []int{0, 1, 2, 1, 1, 1}, false},
		{4, []int{1, 2, 1, 2, 1, 2, 1, 2, 1, 2}, true}, {4, []int{1, 2, 1, 2, 1, 2, 1, 2, 1}, false}, {4, []int{1, 2, 1, 2, 1, 2, 1, 2, 1, 3}, false},
		{5, slices.Repeat([]int{1}, 15), false}, {0, nil, false}, {-1, nil, false}, {-2, []int{1}, false}, {-5, slices.Repeat([]int{2}, 10), false},
	} {
		if impl.TriangleOk(x.side, x.filling) != x.want {
			t.Fatal(x)
		}
	}
}

func TestP41WithThePlayersExchangedItIsATriangle(t *testing.T) {
	eachTriangle(func(side int, filling []int) {
		before := slices.Clone(filling)
		if !impl.TriangleOk(side, filling) || !impl.TriangleOk(side, exchangedFilling(filling)) {
			t.Fatal(side, before)
		}
		wantList(t, "written to", filling, before...)
	})
}

func TestP41NoTriangles(t *testing.T) {
	eachNoTriangle(func(side int, filling []int) {
		if impl.TriangleOk(side, filling) {
			t.Fatal(side, filling)
		}
	})
}

func TestP42NeighboursInTrianglesByHand(t *testing.T) {
	for _, side := range triangleSides() {
		for cell := range triangleSizes()[side] {
			wantList(t, "near", impl.TriangleNear(side, cell), wantTriangleNear(side, cell)...)
		}
	}
	wantList(t, "one cell", impl.TriangleNear(1, 0))
	wantList(t, "two rows", impl.TriangleNear(2, 1), 0, 2)
	wantList(t, "last row of three", impl.TriangleNear(3, 4), 1, 2, 3, 5)
	wantList(t, "third row of four", impl.TriangleNear(4, 4), 1, 2, 3, 5, 7, 8)
}

func TestP42NeighboursAreSoBothWays(t *testing.T) {
	for _, side := range triangleSides() {
		for cell := range triangleSizes()[side] {
			cells := impl.TriangleNear(side, cell)
			wantAscending(t, cells)
			if len(cells) > 6 || slices.Contains(cells, cell) {
				t.Fatal(side, cell, cells)
			}
			for _, other := range cells {
				if !slices.Contains(impl.TriangleNear(side, other), cell) {
					t.Fatal(side, cell, other)
				}
			}
			corner := slices.Contains(triangleCorners(side), cell)
			if side > 1 && corner && len(cells) != 2 || !corner && len(cells) < 4 {
				t.Fatal(side, cell, cells)
			}
		}
	}
}

func TestP42NoNeighboursInTriangles(t *testing.T) {
	for _, side := range badSides() {
		for cell := -1; cell < 22; cell++ {
			wantList(t, "no triangle", impl.TriangleNear(side, cell))
		}
		wantList(t, "no triangle", impl.TriangleNear(side, math.MinInt))
		wantList(t, "no triangle", impl.TriangleNear(side, math.MaxInt))
	}
	for _, side := range triangleSides() {
		size := triangleSizes()[side]
		for _, cell := range []int{-1, -2, -size, size, size + 1, size + side, 2 * size, 1 << 32, 1 << 62, math.MinInt, math.MaxInt} {
			wantList(t, "no cell", impl.TriangleNear(side, cell))
		}
	}
}

func TestP42NeighboursInTrianglesAreNew(t *testing.T) {
	for _, side := range triangleSides() {
		for cell := range triangleSizes()[side] {
			wantNewResult(t, nil, func([]int) []int { return impl.TriangleNear(side, cell) })
		}
	}
}

// joinCase is a full triangle with who has joined all sides of it, found by hand.
type joinCase struct {
	side    int
	filling []int
	winner  int
}

func joinCases() []joinCase {
	return []joinCase{
		// One cell is on all sides.
		{1, []int{1}, 1}, {1, []int{2}, 2},
		// Each corner touches two sides: any two cells of three do all.
		{2, []int{1, 1, 2}, 1}, {2, []int{1, 2, 1}, 1}, {2, []int{2, 1, 1}, 1}, {2, []int{1, 2, 2}, 2}, {2, []int{2, 2, 2}, 2},
		// A corner and a way to the side across it, or an edge from corner to corner.
		{3, []int{1, 1, 2, 2, 1, 2}, 1}, {3, []int{2, 1, 2, 1, 1, 1}, 1}, {3, []int{1, 1, 2, 1, 2, 2}, 1}, {4, []int{1, 1, 2, 1, 2, 2, 1, 2, 2, 2}, 1},
		// A group without corners, one cell in the middle of which has a way to each side in the last ones.
		{3, []int{2, 1, 1, 2, 1, 2}, 1}, {3, []int{1, 2, 2, 1, 2, 1}, 2}, {4, []int{2, 1, 2, 2, 1, 1, 2, 1, 2, 2}, 1}, {4, []int{1, 1, 2, 2, 2, 2, 1, 1, 2, 1}, 2},
		// First touches all three sides, but with corners that are no neighbours.
		{3, []int{1, 2, 2, 1, 2, 2}, 2}, {3, []int{1, 2, 2, 2, 2, 1}, 2}, {4, []int{1, 2, 2, 1, 2, 2, 1, 1, 2, 1}, 2},
		// First has a group that touches two sides alone, ahead of the one that touches all.
		{3, []int{1, 2, 2, 1, 1, 1}, 1}, {4, []int{1, 2, 2, 1, 1, 1, 2, 1, 2, 2}, 1},
	}
}

func TestP43JoinedAllSidesByHand(t *testing.T) {
	for _, x := range joinCases() {
		for _, player := range players() {
			if impl.JoinsAll(x.side, x.filling, player) != (player == x.winner) {
				t.Fatal(x, player)
			}
			// With the players exchanged the other one has joined.
			if impl.JoinsAll(x.side, exchangedFilling(x.filling), player) != (player != x.winner) {
				t.Fatal("exchanged", x, player)
			}
		}
	}
}

func TestP43JoinedAllSidesFromStoneToStone(t *testing.T) {
	eachTriangle(func(side int, filling []int) {
		before := slices.Clone(filling)
		for _, player := range players() {
			if impl.JoinsAll(side, filling, player) != wantJoinsAll(side, before, player) {
				t.Fatal(side, before, player)
			}
		}
		wantList(t, "written to", filling, before...)
	})
}

func TestP43ExactlyOneJoinsAllThreeSides(t *testing.T) {
	eachTriangle(func(side int, filling []int) {
		turned := impl.TurnedTriangle(side, filling)
		for _, player := range players() {
			joined := impl.JoinsAll(side, filling, player)
			if joined == impl.JoinsAll(side, filling, otherOf(player)) {
				t.Fatal("not just one", side, filling)
			}
			if joined != impl.JoinsAll(side, turned, player) {
				t.Fatal("turned", side, filling, player)
			}
		}
	})
}

func TestP43NobodyJoinsAll(t *testing.T) {
	eachNoTriangle(func(side int, filling []int) {
		for _, player := range append(players(), badPlayers()...) {
			if impl.JoinsAll(side, filling, player) {
				t.Fatal(side, filling, player)
			}
		}
	})
	eachTriangle(func(side int, filling []int) {
		for _, player := range badPlayers() {
			if impl.JoinsAll(side, filling, player) {
				t.Fatal(side, filling, player)
			}
		}
	})
}

func TestP44ShrunkByHand(t *testing.T) {
	wantList(t, "two rows", impl.Shrunk(2, []int{1, 2, 2}), 2)
	wantList(t, "two rows", impl.Shrunk(2, []int{2, 1, 1}), 1)
	wantList(t, "two rows", impl.Shrunk(2, []int{1, 1, 2}), 1)
	wantList(t, "two rows", impl.Shrunk(2, []int{2, 1, 2}), 2)
	wantList(t, "all of one", impl.Shrunk(2, []int{2, 2, 2}), 2)
	wantList(t, "three rows", impl.Shrunk(3, []int{2, 1, 2, 1, 1, 1}), 2, 1, 1)
	wantList(t, "three rows", impl.Shrunk(3, []int{1, 2, 1, 2, 1, 2}), 1, 2, 1)
	wantList(t, "four rows", impl.Shrunk(4, []int{1, 2, 2, 1, 2, 1, 1, 2, 2, 1}), 2, 2, 2, 1, 2, 1)
	wantList(t, "one row", impl.Shrunk(1, []int{1}))
	wantList(t, "one row", impl.Shrunk(1, []int{2}))
}

func TestP44ShrunkTrianglesHaveTheSameWinner(t *testing.T) {
	eachTriangle(func(side int, filling []int) {
		if side == 1 {
			wantList(t, "one row", impl.Shrunk(side, filling))
			return
		}
		before := slices.Clone(filling)
		shrunk := impl.Shrunk(side, filling)
		wantList(t, "counted", shrunk, wantShrunk(side, before)...)
		wantList(t, "written to", filling, before...)
		if !impl.TriangleOk(side-1, shrunk) {
			t.Fatal("none of one row less", side, filling, shrunk)
		}
		for _, player := range players() {
			if impl.JoinsAll(side-1, shrunk, player) != impl.JoinsAll(side, filling, player) {
				t.Fatal(side, filling, player)
			}
		}
		wantList(t, "exchanged", impl.Shrunk(side, exchangedFilling(filling)), exchangedFilling(shrunk)...)
	})
}

func TestP44NothingIsShrunk(t *testing.T) {
	eachNoTriangle(func(side int, filling []int) {
		wantList(t, "no triangle", impl.Shrunk(side, filling))
	})
}

func TestP44ShrunkTrianglesAreNew(t *testing.T) {
	eachTriangle(func(side int, filling []int) {
		wantNewResult(t, filling, func(f []int) []int { return impl.Shrunk(side, f) })
	})
}

func TestP45LastCellsByHand(t *testing.T) {
	for _, x := range joinCases() {
		if last := impl.LastCell(x.side, x.filling); last != x.winner {
			t.Fatal(x, last)
		}
	}
}

func TestP45TheLastCellTellsWhoHasJoined(t *testing.T) {
	eachTriangle(func(side int, filling []int) {
		before := slices.Clone(filling)
		last := impl.LastCell(side, filling)
		wantList(t, "written to", filling, before...)
		if last != wantTriangleWinner(t, side, before) || !impl.JoinsAll(side, filling, last) {
			t.Fatal(side, filling, last)
		}
		if cell := slices.Index(filling, otherOf(last)); cell >= 0 && impl.LastCell(side, laid(filling, cell, last)) != last {
			t.Fatal("with a stone more", side, filling, last)
		}
	})
}

func TestP45NoLastCell(t *testing.T) {
	eachNoTriangle(func(side int, filling []int) {
		if last := impl.LastCell(side, filling); last != impl.Free {
			t.Fatal(side, filling, last)
		}
	})
}

func TestP46TurnedTrianglesByHand(t *testing.T) {
	wantList(t, "one cell", impl.TurnedTriangle(1, []int{1}), 1)
	wantList(t, "one cell", impl.TurnedTriangle(1, []int{2}), 2)
	wantList(t, "two rows", impl.TurnedTriangle(2, []int{1, 2, 1}), 2, 1, 1)
	wantList(t, "two rows", impl.TurnedTriangle(2, []int{2, 1, 1}), 1, 1, 2)
	wantList(t, "three rows", impl.TurnedTriangle(3, []int{1, 1, 2, 1, 1, 2}), 1, 1, 1, 2, 2, 1)
	wantList(t, "four rows", impl.TurnedTriangle(4, []int{2, 1, 1, 1, 1, 1, 1, 1, 2, 2}), 1, 1, 1, 2, 1, 1, 2, 1, 1, 2)
}

func TestP46TurnedThreeTimesItIsAsBefore(t *testing.T) {
	eachTriangle(func(side int, filling []int) {
		before := slices.Clone(filling)
		turned := impl.TurnedTriangle(side, filling)
		wantList(t, "written to", filling, before...)
		if !impl.TriangleOk(side, turned) {
			t.Fatal("no triangle", side, filling, turned)
		}
		for cell, from := range triangleTurn(side) {
			if turned[cell] != before[from] {
				t.Fatal(side, filling, turned, cell)
			}
		}
		twice := impl.TurnedTriangle(side, turned)
		wantList(t, "three times", impl.TurnedTriangle(side, twice), before...)
		if side > 1 {
			shrunk := impl.Shrunk(side, filling)
			wantList(t, "shrunk", impl.Shrunk(side, turned), impl.TurnedTriangle(side-1, shrunk)...)
		}
	})
}

func TestP46NothingIsTurned(t *testing.T) {
	eachNoTriangle(func(side int, filling []int) {
		wantList(t, "no triangle", impl.TurnedTriangle(side, filling))
	})
}

func TestP46TurnedTrianglesAreNew(t *testing.T) {
	eachTriangle(func(side int, filling []int) {
		wantNewResult(t, filling, func(f []int) []int { return impl.TurnedTriangle(side, f) })
	})
}

// waysToChoose returns how many sets of so many cells there are, by the sums of Pascal's triangle.
func waysToChoose(cells int, chosen int) int {
	row := []int{1}
	for range cells {
		next := []int{1}
		for i := 1; i < len(row); i++ {
			next = append(next, row[i-1]+row[i])
		}
		row = append(next, 1)
	}
	return row[chosen]
}

func TestP47TriangleWinsByHand(t *testing.T) {
	for side, wins := range [][]int{
		nil,
		{0, 1},
		{0, 0, 3, 1},
		{0, 0, 0, 10, 15, 6, 1},
		{0, 0, 0, 0, 32, 126, 178, 120, 45, 10, 1},
	} {
		for firsts, want := range wins {
			if got := impl.TriangleWins(side, firsts); got != want {
				t.Fatal(side, firsts, got, want)
			}
		}
	}
}

func TestP47TriangleWinsAreThoseOfAllTriangles(t *testing.T) {
	wins := map[[2]int]int{}
	eachTriangle(func(side int, filling []int) {
		if wantJoinsAll(side, filling, impl.First) {
			wins[[2]int{side, countOf(filling, impl.First)}]++
		}
	})
	for _, side := range triangleSides() {
		for firsts := range triangleSizes()[side] + 1 {
			if got := impl.TriangleWins(side, firsts); got != wins[[2]int{side, firsts}] {
				t.Fatal(side, firsts, got)
			}
		}
	}
}

func TestP47WhatOneDoesNotWinTheOtherOneWins(t *testing.T) {
	for _, side := range triangleSides() {
		size := triangleSizes()[side]
		for firsts := range size + 1 {
			wins := impl.TriangleWins(side, firsts)
			if wins < 0 || wins+impl.TriangleWins(side, size-firsts) != waysToChoose(size, firsts) {
				t.Fatal(side, firsts, wins)
			}
			if firsts < side && wins != 0 {
				t.Fatal("fewer stones than rows", side, firsts, wins)
			}
		}
	}
}

func TestP47NoTriangleWins(t *testing.T) {
	for _, side := range badSides() {
		for _, firsts := range []int{0, 1, 2, 3, 4, 6, 10, 15, -1, math.MinInt, math.MaxInt} {
			if wins := impl.TriangleWins(side, firsts); wins != -1 {
				t.Fatal("no triangle", side, firsts, wins)
			}
		}
	}
	for _, side := range triangleSides() {
		size := triangleSizes()[side]
		for _, firsts := range []int{-1, -2, -size, size + 1, size + 2, 2 * size, 1 << 32, math.MinInt, math.MaxInt} {
			if wins := impl.TriangleWins(side, firsts); wins != -1 {
				t.Fatal("no number of stones", side, firsts, wins)
			}
		}
	}
}

func TestP48EachPlayerWinsHalfOfAllTriangles(t *testing.T) {
	for side, half := range []int{0, 1, 4, 32, 512} {
		if side == 0 {
			continue
		}
		size, all := triangleSizes()[side], 0
		for firsts := range size + 1 {
			all += impl.TriangleWins(side, firsts)
		}
		if all != half {
			t.Fatal(side, all, half)
		}
		if wins := impl.TriangleWins(side, size); wins != 1 {
			t.Fatal("all stones", side, wins)
		}
		if wins := impl.TriangleWins(side, 0); wins != 0 {
			t.Fatal("no stones", side, wins)
		}
	}
}

func TestP49AStoneMoreJoinsNoWorse(t *testing.T) {
	eachTriangle(func(side int, filling []int) {
		for _, player := range players() {
			if !impl.JoinsAll(side, filling, player) {
				continue
			}
			for cell, stone := range filling {
				if stone != player && !impl.JoinsAll(side, laid(filling, cell, player), player) {
					t.Fatal(side, filling, player, cell)
				}
			}
		}
	})
}
