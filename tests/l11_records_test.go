package tests

import (
	"fmt"
	"math"
	"regexp"
	"slices"
	"strconv"
	"strings"
	"testing"

	"loop.example/sidescross/impl"
)

func cellText(b board, cell int) string {
	return impl.CellText(b.rows, b.columns, cell)
}

func readCell(b board, s string) (int, bool) {
	return impl.ReadCell(b.rows, b.columns, s)
}

func recordOk(b board, moves []int) bool {
	return impl.RecordOk(b.rows, b.columns, moves)
}

func endOf(b board, moves []int) ([]int, int) {
	return impl.EndOf(b.rows, b.columns, moves)
}

func recordText(b board, moves []int) string {
	return impl.RecordText(b.rows, b.columns, moves)
}

func slipsOf(b board, moves []int) []int {
	return impl.SlipsOf(b.rows, b.columns, moves)
}

func bestRecord(b board) []int {
	return impl.BestRecord(b.rows, b.columns)
}

// namesOf returns the names of the cells of a board, written out row by row.
func namesOf(b board) []string {
	return strings.Fields(map[board]string{
		{1, 1}: "a1",
		{1, 2}: "a1 b1",
		{1, 3}: "a1 b1 c1",
		{1, 4}: "a1 b1 c1 d1",
		{2, 1}: "a1  a2",
		{2, 2}: "a1 b1  a2 b2",
		{2, 3}: "a1 b1 c1  a2 b2 c2",
		{2, 4}: "a1 b1 c1 d1  a2 b2 c2 d2",
		{3, 1}: "a1  a2  a3",
		{3, 2}: "a1 b1  a2 b2  a3 b3",
		{3, 3}: "a1 b1 c1  a2 b2 c2  a3 b3 c3",
		{4, 1}: "a1  a2  a3  a4",
		{4, 2}: "a1 b1  a2 b2  a3 b3  a4 b4",
	}[b])
}

// wantRecord plays moves by the rules alone; it returns the position behind them, who is to move then, and whether they are a record.
func wantRecord(b board, moves []int) ([]int, int, bool) {
	if !slices.Contains(allBoards(), b) {
		return nil, impl.Free, false
	}
	position, turn := freePosition(b), impl.First
	for _, cell := range moves {
		if won(b, position) || !slices.Contains(freeCells(position), cell) {
			return nil, impl.Free, false
		}
		position, turn = laid(position, cell, turn), otherOf(turn)
	}
	return position, turn, true
}

// wantText writes moves with the names of namesOf.
func wantText(b board, moves []int) string {
	text := strconv.Itoa(b.rows) + "x" + strconv.Itoa(b.columns) + ":"
	for _, cell := range moves {
		text += " " + namesOf(b)[cell]
	}
	return text
}

var recordShape = regexp.MustCompile(`\A([1-4])x([1-4]):((?: [a-d][1-4])*)\z`)

// wantRead reads a text by its shape, by namesOf and by the rules.
func wantRead(s string) (board, []int, bool) {
	parts := recordShape.FindStringSubmatch(s)
	if parts == nil {
		return board{}, nil, false
	}
	b := board{int(parts[1][0] - '0'), int(parts[2][0] - '0')}
	var moves []int
	for _, name := range strings.Fields(parts[3]) {
		moves = append(moves, slices.Index(namesOf(b), name))
	}
	_, _, ok := wantRecord(b, moves)
	return b, moves, ok
}

// wantSlips returns the places of the moves behind which another player wins, by solved positions.
func wantSlips(b board, moves []int, winners [impl.Second + 1][]int) []int {
	var slips []int
	position, turn := freePosition(b), impl.First
	for place, cell := range moves {
		next := laid(position, cell, turn)
		if winners[turn][numberOf(position)] != winners[otherOf(turn)][numberOf(next)] {
			slips = append(slips, place)
		}
		position, turn = next, otherOf(turn)
	}
	return slips
}

// eachRecordOf calls visit with all records of a board of at most 6 cells, and of a larger one all of up to three moves and some of those of more.
func eachRecordOf(b board, visit func(moves []int)) {
	var walk func(moves []int, position []int, turn int)
	walk = func(moves []int, position []int, turn int) {
		visit(slices.Clone(moves))
		if won(b, position) {
			return
		}
		choices := freeCells(position)
		if b.cells() > 6 && len(moves) >= 3 {
			at := (moves[0] + 2*moves[1] + len(moves)) % len(choices)
			choices = slices.Compact([]int{choices[at], choices[(at+1)%len(choices)]})
		}
		for _, cell := range choices {
			walk(append(slices.Clone(moves), cell), laid(position, cell, turn), otherOf(turn))
		}
	}
	walk(nil, freePosition(b), impl.First)
}

func eachRecord(visit func(b board, moves []int)) {
	for _, b := range allBoards() {
		eachRecordOf(b, func(moves []int) { visit(b, moves) })
	}
}

// eachList calls visit with all lists of cells, and of the numbers just beside them, that are one longer than a board of at most 4 cells or shorter.
func eachList(visit func(b board, moves []int)) {
	for _, b := range allBoards() {
		if b.cells() > 4 {
			continue
		}
		var walk func(moves []int)
		walk = func(moves []int) {
			visit(b, slices.Clone(moves))
			if len(moves) > b.cells() {
				return
			}
			for cell := -1; cell <= b.cells(); cell++ {
				walk(append(slices.Clone(moves), cell))
			}
		}
		walk(nil)
	}
}

// eachNoRecord calls visit with boards that are none, and with moves that cannot be made: out of the board, to taken cells, and behind the end.
func eachNoRecord(visit func(b board, moves []int)) {
	for _, b := range badBoards() {
		for _, moves := range [][]int{nil, {}, {0}, {0, 1}, {1, 0, 2}, {-1}} {
			visit(b, moves)
		}
	}
	seen := 0
	eachRecord(func(b board, moves []int) {
		// On larger boards a part of the records shows the same.
		seen++
		if b.cells() > 6 && seen%101 != 0 {
			return
		}
		for _, cell := range badCells(b) {
			visit(b, append(slices.Clone(moves), cell))
			visit(b, append([]int{cell}, moves...))
		}
		for _, cell := range moves {
			visit(b, append(slices.Clone(moves), cell))
		}
		position, _, _ := wantRecord(b, moves)
		if !won(b, position) {
			return
		}
		for _, cell := range freeCells(position) {
			visit(b, append(slices.Clone(moves), cell))
		}
	})
}

// recordCase is a record with its text, the places of its slips on a board of at most 6 cells, and who has joined at its end, all found by hand.
type recordCase struct {
	board
	moves  []int
	text   string
	slips  []int
	joined int
}

func recordCases() []recordCase {
	return []recordCase{
		// Without moves.
		{board{1, 1}, nil, "1x1:", nil, impl.Free},
		{board{3, 1}, nil, "3x1:", nil, impl.Free},
		{board{2, 3}, nil, "2x3:", nil, impl.Free},
		{board{3, 3}, nil, "3x3:", nil, impl.Free},
		// Of one cell, of one row and of one column.
		{board{1, 1}, []int{0}, "1x1: a1", nil, impl.First},
		{board{1, 2}, []int{1}, "1x2: b1", nil, impl.First},
		{board{1, 4}, []int{3}, "1x4: d1", nil, impl.First},
		{board{2, 1}, []int{1}, "2x1: a2", nil, impl.Free},
		{board{2, 1}, []int{1, 0}, "2x1: a2 a1", nil, impl.Second},
		{board{4, 1}, []int{2, 3}, "4x1: a3 a4", nil, impl.Second},
		// Of two rows and columns: all winning cells for First are b1 and a2 at first.
		{board{2, 2}, []int{1}, "2x2: b1", nil, impl.Free},
		{board{2, 2}, []int{3}, "2x2: b2", []int{0}, impl.Free},
		{board{2, 2}, []int{1, 0, 3}, "2x2: b1 a1 b2", nil, impl.First},
		{board{2, 2}, []int{2, 1, 0}, "2x2: a2 b1 a1", nil, impl.First},
		{board{2, 2}, []int{0, 3, 2}, "2x2: a1 b2 a2", []int{0, 1}, impl.First},
		{board{2, 2}, []int{0, 2, 1, 3}, "2x2: a1 a2 b1 b2", []int{0}, impl.Second},
		{board{2, 2}, []int{1, 2, 0, 3}, "2x2: b1 a2 a1 b2", []int{2}, impl.Second},
		{board{2, 2}, []int{0, 3, 1, 2}, "2x2: a1 b2 b1 a2", []int{0, 1, 2}, impl.Second},
		// First lets Second win, and that one First again.
		{board{2, 3}, []int{0, 3, 1, 5, 4}, "2x3: a1 a2 b1 c2 b2", []int{2, 3}, impl.First},
		{board{3, 2}, []int{0, 1, 2, 4, 3, 5}, "3x2: a1 b1 a2 a3 b2 b3", nil, impl.Second},
		// Of more than 6 cells: two fill the board.
		{board{3, 3}, []int{0, 1, 2, 3, 6, 5, 8, 7, 4}, "3x3: a1 b1 c1 a2 a3 c2 c3 b3 b2", nil, impl.First},
		{board{3, 3}, []int{4, 0, 2, 1, 6}, "3x3: b2 a1 c1 b1 a3", nil, impl.First},
		{board{2, 4}, []int{0, 7, 4}, "2x4: a1 d2 a2", nil, impl.First},
		{board{4, 2}, []int{1, 0, 5, 2, 7, 4, 6, 3}, "4x2: b1 a1 b3 a2 b4 a3 a4 b2", nil, impl.Second},
	}
}

func TestP72NamesByHand(t *testing.T) {
	for _, b := range allBoards() {
		if len(namesOf(b)) != b.cells() {
			t.Fatal(b, namesOf(b))
		}
		for cell, name := range namesOf(b) {
			if text := cellText(b, cell); text != name {
				t.Fatal(b, cell, text)
			}
		}
	}
}

func TestP72NamesOfCellsAreRead(t *testing.T) {
	for _, b := range allBoards() {
		for cell, name := range namesOf(b) {
			if read, ok := readCell(b, name); !ok || read != cell {
				t.Fatal("by hand", b, cell, read, ok)
			}
			if read, ok := readCell(b, cellText(b, cell)); !ok || read != cell {
				t.Fatal(b, cell, read, ok)
			}
		}
	}
}

func TestP72NoNames(t *testing.T) {
	for _, b := range allBoards() {
		for _, cell := range badCells(b) {
			if text := cellText(b, cell); text != "" {
				t.Fatal(b, cell, text)
			}
		}
	}
	for _, b := range badBoards() {
		for _, cell := range []int{0, 1, 2, 8, 9, 15, -1, math.MinInt, math.MaxInt} {
			if text := cellText(b, cell); text != "" {
				t.Fatal("no board", b, cell, text)
			}
		}
	}
}

// wantCellRead checks that of a text just what namesOf has is read.
func wantCellRead(t *testing.T, b board, s string) {
	t.Helper()
	want := slices.Index(namesOf(b), s)
	if cell, ok := readCell(b, s); cell != want || ok != (want >= 0) {
		t.Fatalf("%v %q: %d %t instead of %d", b, s, cell, ok, want)
	}
}

func TestP73ReadNamesAreCanonical(t *testing.T) {
	for _, b := range allBoards() {
		read := 0
		for first := range 256 {
			for second := range 256 {
				s := string([]byte{byte(first), byte(second)})
				cell, ok := readCell(b, s)
				if !ok {
					continue
				}
				read++
				if names := namesOf(b); cell < 0 || cell >= len(names) || names[cell] != s || cellText(b, cell) != s {
					t.Fatalf("%v %q: %d", b, s, cell)
				}
			}
		}
		if read != b.cells() {
			t.Fatal(b, read)
		}
	}
}

func TestP73NamesWithAFurtherByteAreRefused(t *testing.T) {
	for _, b := range allBoards() {
		for further := range 256 {
			wantCellRead(t, b, string([]byte{byte(further)}))
			for _, name := range namesOf(b) {
				for at := range len(name) + 1 {
					wantCellRead(t, b, name[:at]+string([]byte{byte(further)})+name[at:])
				}
			}
		}
	}
}

func TestP73NoCellsAreRead(t *testing.T) {
	texts := []string{"", " ", "a", "1", "a0", "A1", "B2", "a10", "a11", "a01", "1a", "aa", "11", "a-1", "a+1", "a 1", " a1", "a1 ", "a1\n", "a1a1", "a1 b1", "e1", "a5", "z1", "a9", "`1", "\x001", "a\x00", "\xff\xff", "ä1", "a１", "none", "-1", strings.Repeat("a1", 1000)}
	for _, b := range allBoards() {
		for _, s := range texts {
			if cell, ok := readCell(b, s); ok || cell != -1 {
				t.Fatalf("%v %q: %d %t", b, s, cell, ok)
			}
		}
		// Names of other boards, the letters and rows behind the board among them.
		for _, other := range allBoards() {
			for _, name := range namesOf(other) {
				wantCellRead(t, b, name)
			}
		}
	}
	for _, b := range badBoards() {
		for _, s := range append(texts, "a1", "b1", "a2", "c3", "d4") {
			if cell, ok := readCell(b, s); ok || cell != -1 {
				t.Fatalf("no board %v %q: %d %t", b, s, cell, ok)
			}
		}
	}
}

func TestP74RecordsByHand(t *testing.T) {
	for _, x := range recordCases() {
		if !recordOk(x.board, x.moves) {
			t.Fatal(x)
		}
	}
	for _, x := range []struct {
		b     board
		moves []int
	}{
		{board{1, 1}, []int{1}}, {board{1, 1}, []int{0, 0}}, {board{1, 1}, []int{-1}},
		// Behind the end, though cells are free.
		{board{1, 3}, []int{0, 1}}, {board{3, 1}, []int{0, 1, 2}}, {board{2, 2}, []int{1, 0, 3, 2}}, {board{2, 3}, []int{0, 1, 3, 2}}, {board{3, 3}, []int{4, 0, 2, 1, 6, 3}},
		// To a taken cell, of the own and of the other player.
		{board{2, 2}, []int{1, 1}}, {board{2, 2}, []int{1, 0, 1}}, {board{2, 3}, []int{5, 4, 5}}, {board{3, 3}, []int{0, 1, 2, 3, 6, 5, 8, 7, 4, 4}},
		// To no cell, at the beginning, within and at the end.
		{board{2, 2}, []int{4, 0}}, {board{2, 2}, []int{0, -1, 1}}, {board{3, 3}, []int{0, 1, 9}},
	} {
		if recordOk(x.b, x.moves) {
			t.Fatal("none", x)
		}
	}
}

func TestP74RecordsArePlayedByTheRules(t *testing.T) {
	check := func(b board, moves []int) {
		before := slices.Clone(moves)
		if _, _, want := wantRecord(b, before); recordOk(b, moves) != want {
			t.Fatal(b, moves, want)
		}
		wantList(t, "written to", moves, before...)
	}
	eachList(check)
	eachRecord(check)
	eachNoRecord(check)
}

func TestP74EachBeginningOfARecordIsOne(t *testing.T) {
	check := func(b board, moves []int) {
		if !recordOk(b, moves) {
			return
		}
		for length := range moves {
			if !recordOk(b, moves[:length]) {
				t.Fatal(b, moves, length)
			}
			if slices.Contains(moves[:length], moves[length]) {
				t.Fatal("twice", b, moves, length)
			}
		}
	}
	eachList(check)
	eachRecord(check)
}

func TestP74NoRecords(t *testing.T) {
	eachNoRecord(func(b board, moves []int) {
		if recordOk(b, moves) {
			t.Fatal(b, moves)
		}
	})
}

func TestP75EndsByHand(t *testing.T) {
	for _, x := range []struct {
		b        board
		moves    []int
		position []int
		turn     int
	}{
		{board{1, 1}, nil, []int{0}, impl.First},
		{board{1, 1}, []int{0}, []int{1}, impl.Second},
		{board{1, 4}, []int{2}, []int{0, 0, 1, 0}, impl.Second},
		{board{4, 1}, []int{2, 0}, []int{2, 0, 1, 0}, impl.First},
		{board{2, 2}, nil, []int{0, 0, 0, 0}, impl.First},
		{board{2, 2}, []int{1, 0, 3}, []int{2, 1, 0, 1}, impl.Second},
		{board{2, 2}, []int{0, 2, 1, 3}, []int{1, 1, 2, 2}, impl.First},
		{board{3, 3}, []int{0, 1, 2, 3, 6, 5, 8, 7, 4}, []int{1, 2, 1, 2, 1, 2, 1, 2, 1}, impl.Second},
	} {
		position, turn := endOf(x.b, x.moves)
		wantList(t, "end", position, x.position...)
		if turn != x.turn {
			t.Fatal(x, turn)
		}
	}
	for _, x := range recordCases() {
		position, _ := endOf(x.board, x.moves)
		for _, player := range players() {
			if joins(x.board, position, player) != (player == x.joined) {
				t.Fatal(x, player)
			}
		}
	}
}

func TestP75EndsAreThoseOfTheRules(t *testing.T) {
	check := func(b board, moves []int) {
		before := slices.Clone(moves)
		position, turn := endOf(b, moves)
		want, wantTurn, _ := wantRecord(b, before)
		wantList(t, "end", position, want...)
		if turn != wantTurn {
			t.Fatal(b, moves, turn)
		}
		wantList(t, "written to", moves, before...)
	}
	eachList(check)
	eachRecord(check)
}

func TestP75BehindARecordThereAreAsManyStonesAsMoves(t *testing.T) {
	full, joined := 0, 0
	eachRecord(func(b board, moves []int) {
		position, turn := endOf(b, moves)
		if !impl.PositionOk(b.rows, b.columns, position) {
			t.Fatal(b, moves, position)
		}
		first := len(impl.CellsOf(b.rows, b.columns, position, impl.First))
		second := len(impl.CellsOf(b.rows, b.columns, position, impl.Second))
		wantTurn := impl.First
		if first == second+1 {
			wantTurn = impl.Second
		}
		if first+second != len(moves) || first-second < 0 || first-second > 1 || turn != wantTurn || joins(b, position, turn) {
			t.Fatal(b, moves, position, turn)
		}
		if joins(b, position, otherOf(turn)) {
			joined++
			if len(moves) == b.cells() {
				full++
			}
		} else if len(moves) == b.cells() {
			t.Fatal("full, and nobody has joined", b, moves)
		}
	})
	if full == 0 || joined <= full {
		t.Fatal(full, joined)
	}
}

func TestP75NoEnds(t *testing.T) {
	eachNoRecord(func(b board, moves []int) {
		if position, turn := endOf(b, moves); len(position) != 0 || turn != impl.Free {
			t.Fatal(b, moves, position, turn)
		}
	})
}

func TestP75EndsAreNew(t *testing.T) {
	for _, b := range smallBoards() {
		eachRecordOf(b, func(moves []int) {
			wantNewResult(t, moves, func(m []int) []int {
				position, _ := endOf(b, m)
				return position
			})
		})
	}
}

func wantRecordRead(t *testing.T, s string, b board, moves []int) {
	t.Helper()
	rows, columns, read, ok := impl.ReadRecord(s)
	if !ok || rows != b.rows || columns != b.columns || !slices.Equal(read, moves) {
		t.Fatalf("%q: %d %d %v %t", s, rows, columns, read, ok)
	}
}

func wantNoRecordRead(t *testing.T, s string) {
	t.Helper()
	if rows, columns, moves, ok := impl.ReadRecord(s); ok || rows != 0 || columns != 0 || len(moves) != 0 {
		t.Fatalf("%q: %d %d %v %t", s, rows, columns, moves, ok)
	}
}

func TestP76TextsByHand(t *testing.T) {
	for _, x := range recordCases() {
		if text := recordText(x.board, x.moves); text != x.text {
			t.Fatalf("%v: %q", x, text)
		}
		wantRecordRead(t, x.text, x.board, x.moves)
	}
}

func TestP76TextsOfRecordsAreRead(t *testing.T) {
	check := func(b board, moves []int) {
		before := slices.Clone(moves)
		text := recordText(b, moves)
		if _, _, ok := wantRecord(b, before); !ok {
			if text != "" {
				t.Fatalf("%v %v: %q", b, moves, text)
			}
			return
		}
		if text != wantText(b, before) {
			t.Fatalf("%v %v: %q", b, moves, text)
		}
		wantRecordRead(t, text, b, before)
		wantList(t, "written to", moves, before...)
	}
	eachList(check)
	eachRecord(check)
}

func TestP76NoTexts(t *testing.T) {
	eachNoRecord(func(b board, moves []int) {
		if text := recordText(b, moves); text != "" {
			t.Fatalf("%v %v: %q", b, moves, text)
		}
	})
}

func TestP76ReadMovesAreNew(t *testing.T) {
	for _, x := range recordCases() {
		wantNewResult(t, nil, func([]int) []int {
			_, _, moves, _ := impl.ReadRecord(x.text)
			return moves
		})
	}
}

// wantRecordReadAs checks what is read of any text by wantRead.
func wantRecordReadAs(t *testing.T, s string) {
	t.Helper()
	b, moves, ok := wantRead(s)
	if !ok {
		wantNoRecordRead(t, s)
		return
	}
	wantRecordRead(t, s, b, moves)
	if text := recordText(b, moves); text != s {
		t.Fatalf("%q is written as %q", s, text)
	}
}

// eachChanged calls visit with all texts that come from one by a byte that is left out, put between, or put in place of another one.
func eachChanged(s string, visit func(s string)) {
	for at := range len(s) + 1 {
		if at < len(s) {
			visit(s[:at] + s[at+1:])
			visit(s[:at])
		}
		for _, further := range []byte(" \t\n\r\x00\xff_.,;:-+xX`abcdezABD0123456789") {
			visit(s[:at] + string([]byte{further}) + s[at:])
			if at < len(s) {
				visit(s[:at] + string([]byte{further}) + s[at+1:])
			}
		}
	}
}

func TestP77ReadRecordsAreCanonical(t *testing.T) {
	seen := 0
	eachRecord(func(b board, moves []int) {
		// All records of few cells are changed, and a part of the others.
		seen++
		if b.cells() > 4 && seen%97 != 0 {
			return
		}
		eachChanged(wantText(b, moves), func(s string) { wantRecordReadAs(t, s) })
	})
	for _, x := range recordCases() {
		eachChanged(x.text, func(s string) { wantRecordReadAs(t, s) })
	}
}

func TestP77WithABlankBehindATextIsRefused(t *testing.T) {
	eachRecord(func(b board, moves []int) {
		text := wantText(b, moves)
		for _, s := range []string{text + " ", " " + text, text + "\n", strings.ToUpper(text)} {
			wantNoRecordRead(t, s)
		}
		if len(moves) > 0 {
			wantNoRecordRead(t, strings.Replace(text, " ", "  ", 1))
			wantNoRecordRead(t, strings.Replace(text, ": ", ":", 1))
			wantNoRecordRead(t, strings.Replace(text, " ", "\t", 1))
		}
	})
}

func TestP77NoRecordsAreRead(t *testing.T) {
	for _, s := range []string{
		"", " ", ":", "x", "x:", "2x:", "x2:", "2:", "2x2", "2x2 ", "22:", "2x2x:", "2x2x2:", "2X2:", "2*2:", "2x2;", "2 x 2:", "2x2 :", " 2x2:", "2x2: ", "2x2:\n",
		"0x0:", "0x1:", "1x0:", "5x1:", "1x5:", "9x1:", "3x4:", "4x3:", "4x4:", "02x2:", "2x02:", "+2x2:", "2x+2:", "-2x2:", "-2x-2:", "2x-2:", "2.0x2:", "00x2:", "11x1:", "1x11:", "4294967298x2:", "18446744073709551618x2:", "9999999999999999999999x1:",
		"2x2: c1", "2x2: a3", "2x2: a0", "2x2: a01", "2x2: a10", "2x2: A1", "2x2: a", "2x2: 1", "2x2: 0", "2x2: a1,b1", "2x2: a1b1", "2x2:a1", "2x2:a1 b1", "2x2:  a1", "2x2: a1  b1", "2x2: a1 ", "2x2: a1 b1 ", "2x2: a1\tb1", "2x2: a1 b1\n", "2x2: a1:", "2x2: a1 : b1", "2x2:: a1", "2x2: a1 2x2:",
		"2x2: a1 a1", "2x2: a1 b1 a1", "2x2: b1 a1 b2 a2", "1x1: a1 a1", "1x2: a1 b1", "3x1: a1 a2 a3", "3x4: a1", "4x4: a1 b1", "0x2: a1",
		"３x3:", "3×3:", "2x2: ä1", "none", strings.Repeat(" ", 10000), "2x2:" + strings.Repeat(" a1", 10000), "2x2:" + strings.Repeat(" ", 10000), strings.Repeat("2x2:", 10000),
	} {
		wantNoRecordRead(t, s)
	}
	// What another board has no cell, or no room, for.
	eachRecordOf(board{2, 2}, func(moves []int) {
		for rows := range 10 {
			for columns := range 10 {
				wantRecordReadAs(t, fmt.Sprint(rows)+"x"+fmt.Sprint(columns)+strings.TrimPrefix(wantText(board{2, 2}, moves), "2x2"))
			}
		}
	})
}

// eachSmallRecord calls visit with all records of the boards of at most 6 cells, and the solved positions of the board.
func eachSmallRecord(visit func(b board, moves []int, winners [impl.Second + 1][]int)) {
	for _, b := range allBoards() {
		if b.cells() <= 6 {
			winners := wantWinners(b)
			eachRecordOf(b, func(moves []int) { visit(b, moves, winners) })
		}
	}
}

func TestP78SlipsByHand(t *testing.T) {
	for _, x := range recordCases() {
		wantList(t, x.text, slipsOf(x.board, x.moves), x.slips...)
	}
}

func TestP78SlipsAreThoseOfAllGames(t *testing.T) {
	with, without, many := 0, 0, 0
	eachSmallRecord(func(b board, moves []int, winners [impl.Second + 1][]int) {
		before := slices.Clone(moves)
		slips := slipsOf(b, moves)
		wantList(t, "slips", slips, wantSlips(b, before, winners)...)
		wantList(t, "written to", moves, before...)
		switch {
		case len(slips) == 0:
			without++
		case len(slips) >= 3:
			many++
		default:
			with++
		}
	})
	if with == 0 || without == 0 || many == 0 {
		t.Fatal(with, without, many)
	}
}

func TestP78EachSlipChangesWhoWins(t *testing.T) {
	eachSmallRecord(func(b board, moves []int, _ [impl.Second + 1][]int) {
		slips := slipsOf(b, moves)
		wantAscending(t, slips)
		for place, cell := range moves {
			position, turn := endOf(b, moves[:place])
			next, _ := played(b, position, cell, turn)
			slip := winnerOf(b, position, turn) == turn && winnerOf(b, next, otherOf(turn)) != turn
			if slip != slices.Contains(slips, place) {
				t.Fatal(b, moves, slips, place)
			}
		}
		end, turn := endOf(b, moves)
		same := winnerOf(b, end, turn) == winnerOf(b, freePosition(b), impl.First)
		if same != (len(slips)%2 == 0) {
			t.Fatal(b, moves, slips)
		}
	})
}

func TestP78NoSlips(t *testing.T) {
	eachNoRecord(func(b board, moves []int) {
		wantList(t, "no record", slipsOf(b, moves))
	})
	// On larger boards nothing is told, though there are slips.
	slipped := map[board]int{}
	for _, b := range []board{{2, 4}, {3, 3}, {4, 2}} {
		winners := wantWinners(b)
		eachRecordOf(b, func(moves []int) {
			wantList(t, "more than 6 cells", slipsOf(b, moves))
			slipped[b] += len(wantSlips(b, moves, winners))
		})
		if slipped[b] == 0 {
			t.Fatal(b)
		}
	}
}

func TestP78SlipsAreNew(t *testing.T) {
	eachSmallRecord(func(b board, moves []int, _ [impl.Second + 1][]int) {
		wantNewResult(t, moves, func(m []int) []int { return slipsOf(b, m) })
	})
}

func TestP79BestRecordsByHand(t *testing.T) {
	wantList(t, "one cell", bestRecord(board{1, 1}), 0)
	wantList(t, "one row", bestRecord(board{1, 4}), 0)
	wantList(t, "one column", bestRecord(board{4, 1}), 0, 1)
	wantList(t, "two rows and columns", bestRecord(board{2, 2}), 1, 0, 2)
	wantList(t, "two rows", bestRecord(board{2, 3}), 0, 1, 2, 3, 4)
	wantList(t, "two columns", bestRecord(board{3, 2}), 0, 1, 2, 4, 3, 5)
}

func TestP79BestRecordsAreLinesPlayed(t *testing.T) {
	for _, b := range allBoards() {
		if b.cells() > 6 {
			continue
		}
		best := bestRecord(b)
		wantList(t, "of all games", best, wantLine(b, freePosition(b), impl.First, wantWinners(b))...)
		wantList(t, "line", best, linePlayed(b, freePosition(b), impl.First)...)
	}
}

func TestP79BestRecordsHaveNoSlips(t *testing.T) {
	for _, b := range allBoards() {
		if b.cells() > 6 {
			continue
		}
		best := bestRecord(b)
		if len(best) == 0 || !recordOk(b, best) {
			t.Fatal(b, best)
		}
		wantList(t, "slips", slipsOf(b, best))
		end, _ := endOf(b, best)
		if !joins(b, end, winnerOf(b, freePosition(b), impl.First)) {
			t.Fatal(b, best, end)
		}
	}
}

func TestP79NoBestRecords(t *testing.T) {
	for _, b := range append(badBoards(), board{2, 4}, board{4, 2}, board{3, 3}) {
		wantList(t, "none", bestRecord(b))
	}
}

func TestP79BestRecordsAreNew(t *testing.T) {
	for _, b := range allBoards() {
		wantNewResult(t, nil, func([]int) []int { return bestRecord(b) })
	}
}

func halfTurnedMoves(b board, moves []int) []int {
	var turned []int
	for _, cell := range moves {
		turned = append(turned, b.cells()-1-cell)
	}
	return turned
}

func TestP80TurnedRecordsAreRecords(t *testing.T) {
	check := func(b board, moves []int) {
		turned := halfTurnedMoves(b, moves)
		if recordOk(b, turned) != recordOk(b, moves) {
			t.Fatal(b, moves, turned)
		}
		wantList(t, "slips", slipsOf(b, turned), slipsOf(b, moves)...)
	}
	eachList(check)
	eachRecord(check)
	for _, x := range recordCases() {
		check(x.board, x.moves)
		turned := halfTurnedMoves(x.board, x.moves)
		if !recordOk(x.board, turned) {
			t.Fatal(x, turned)
		}
		wantList(t, x.text, slipsOf(x.board, turned), x.slips...)
	}
}
