package impl

// MaxRows is the maximum number of rows, and of columns, and MaxCells that of cells of a board.
const (
	MaxRows  = 4
	MaxCells = 9
)

// Free is a free cell, First a stone of the first player, and Second one of the second player.
const (
	Free   = 0
	First  = 1
	Second = 2
)

// BoardOk reports whether a board has so many rows and columns, both in 1..MaxRows, and at most MaxCells cells.
func BoardOk(rows int, columns int) bool {
	// Both are bounded ahead of the product, which cannot wrap around then.
	return sizeOk(rows) && sizeOk(columns) && rows*columns <= MaxCells
}

func sizeOk(size int) bool {
	return size >= 1 && size <= MaxRows
}

func cellOk(rows int, columns int, cell int) bool {
	return BoardOk(rows, columns) && cell >= 0 && cell < rows*columns
}

// nearSteps has the differences of the row and of the column for each neighbour: in this order the numbers of the neighbours ascend.
var nearSteps = [6][2]int{{-1, 0}, {-1, 1}, {0, -1}, {0, 1}, {1, -1}, {1, 0}}

// NearCells returns the neighbours of a cell of a board (BoardOk) in ascending order, where the cell in the row r and the column c, both from 0 on, has the number r times the columns, and c: those beside it in its row; in the row above that in its column, and that in the next one; and in the row below that in its column, and that in the one before; nil for others.
func NearCells(rows int, columns int, cell int) []int {
	if !cellOk(rows, columns, cell) {
		return nil
	}
	var near []int
	for _, step := range nearSteps {
		row := cell/columns + step[0]
		column := cell%columns + step[1]
		if row >= 0 && row < rows && column >= 0 && column < columns {
			near = append(near, row*columns+column)
		}
	}
	return near
}

// PositionOk reports whether a position has just as many numbers as a board has cells (BoardOk), each Free, First or Second.
func PositionOk(rows int, columns int, position []int) bool {
	if !BoardOk(rows, columns) || len(position) != rows*columns {
		return false
	}
	for _, what := range position {
		if !contentOk(what) {
			return false
		}
	}
	return true
}

func contentOk(what int) bool {
	return what == Free || what == First || what == Second
}

// CellsOf returns the cells of a position that are Free, or have a stone of a player, First or Second, in ascending order (PositionOk); nil for others.
func CellsOf(rows int, columns int, position []int, what int) []int {
	if !PositionOk(rows, columns, position) || !contentOk(what) {
		return nil
	}
	var cells []int
	for cell, content := range position {
		if content == what {
			cells = append(cells, cell)
		}
	}
	return cells
}

// HalfTurned returns a position (PositionOk) turned by half a turn: its cells from the last one to the first one; nil for others.
func HalfTurned(rows int, columns int, position []int) []int {
	if !PositionOk(rows, columns, position) {
		return nil
	}
	turned := make([]int, len(position))
	for cell, what := range position {
		turned[len(position)-1-cell] = what
	}
	return turned
}

// Mirrored returns the position of a board with as many rows as a position (PositionOk) has columns, and as many columns as that has rows, in which the cell in the row c and the column r is what that in the row r and the column c was, but First for Second, and Second for First; nil for others.
func Mirrored(rows int, columns int, position []int) []int {
	if !PositionOk(rows, columns, position) {
		return nil
	}
	mirrored := make([]int, len(position))
	for cell, what := range position {
		mirrored[mirroredCell(rows, columns, cell)] = exchanged(what)
	}
	return mirrored
}

func mirroredCell(rows int, columns int, cell int) int {
	return cell%columns*rows + cell/columns
}

func exchanged(what int) int {
	switch what {
	case First:
		return Second
	case Second:
		return First
	}
	return what
}

// CellsFar returns the least number of steps, each from a cell to a neighbour of it (NearCells), from a cell of a board to another one, or the same (BoardOk); -1 for others.
func CellsFar(rows int, columns int, a int, b int) int {
	if !cellOk(rows, columns, a) || !cellOk(rows, columns, b) {
		return -1
	}
	reached := 1 << a
	for steps := range rows * columns {
		if reached>>b&1 == 1 {
			return steps
		}
		reached = withNear(rows, columns, reached)
	}
	// Never reached: on each board there is a way between any two cells, of fewer steps than the cells.
	return -1
}

// withNear returns a set of cells, the cell n told by the bit n, with all neighbours of its cells.
func withNear(rows int, columns int, set int) int {
	wider := set
	for cell := range rows * columns {
		if set>>cell&1 == 0 {
			continue
		}
		for _, near := range NearCells(rows, columns, cell) {
			wider |= 1 << near
		}
	}
	return wider
}
