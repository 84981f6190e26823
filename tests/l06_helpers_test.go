package tests

import (
	"slices"
	"strings"
	"testing"

	"loop.example/g01322/impl"
)

// The models of these tests tell what the document requires by other ways than the program: partners are read from a table of numbers that is reversed, repeats and cells that are alike from all pairs of cells, the colour of most from all colours in turn, and shifts from the differences of all places of a stone and of its colour in the plan.

var allKinds = []int64{impl.ReMirror, impl.ReFlip, impl.ReHalf}

// lined returns the picture whose rows are written in a line, separated by "/".
func lined(line string) impl.Picture { return drawn(strings.Split(line, "/")...) }

func linedAll(lines string) []impl.Picture {
	var list []impl.Picture
	for line := range strings.FieldsSeq(lines) {
		list = append(list, lined(line))
	}
	return list
}

// writtenLine returns the line of a picture, and nothing for the zero value.
func writtenLine(p impl.Picture) string { return strings.Join(rowsOf(p), "/") }

// plain returns the picture of a size with one colour.
func plain(wide, high int, letter string) impl.Picture {
	return drawn(slices.Repeat([]string{strings.Repeat(letter, wide)}, high)...)
}

// worn returns the picture that has lost so many eighths of its cells, about, by a rule without order.
func worn(p impl.Picture, eighths, seed int) impl.Picture {
	state := uint32(seed)*2654435761 + uint32(eighths)
	for _, cell := range cellsOf(p) {
		state = state*1664525 + 1013904223
		if state>>16%8 < uint32(eighths) {
			p.Cells[cell] = 0
		}
	}
	return p
}

// tiled returns the picture of a size that repeats by east and south, with stones everywhere.
func tiled(wide, high, east, south, colours int) impl.Picture {
	tile := patterned(east, south, colours)
	p := impl.Picture{Wide: int8(wide), High: int8(high)}
	for _, cell := range cellsOf(p) {
		x, y := cell%12%int64(east), cell/12%int64(south)
		p.Cells[cell] = tile.Cells[x+12*y] + 1
	}
	return p
}

var repairSizes = [][2]int{{1, 1}, {2, 1}, {1, 2}, {1, 12}, {12, 1}, {2, 3}, {3, 3}, {5, 4}, {4, 7}, {7, 7}, {11, 12}, {12, 11}, {12, 12}}

// wornSamples have all parts of their cells lost, from none to all.
func wornSamples() []impl.Picture {
	list := samples()
	for i, size := range repairSizes {
		for eighths := range 9 {
			for _, colours := range []int{1, 2, 4, 15} {
				list = append(list, worn(tiled(size[0], size[1], size[0], size[1], colours), eighths, i*100+colours))
			}
			list = append(list, worn(tiled(size[0], size[1], (size[0]+2)/3, (size[1]+1)/2, 3), eighths, i))
		}
	}
	return list
}

func stonesIn(p impl.Picture) int64 {
	count := int64(0)
	for _, cell := range cellsOf(p) {
		count += min(int64(p.Cells[cell]), 1)
	}
	return count
}

func differing(a, b uint8) bool { return a*b != 0 && a != b }

// partnersModel returns the partner of each cell, from the table of all numbers and the same table reversed.
func partnersModel(p impl.Picture, kind int64) map[int64]int64 {
	var table, other [][]int64
	for y := range int64(p.High) {
		var row []int64
		for x := range int64(p.Wide) {
			row = append(row, x+12*y)
		}
		table, other = append(table, row), append(other, slices.Clone(row))
	}
	if kind != impl.ReMirror {
		slices.Reverse(other)
	}
	partners := map[int64]int64{}
	for y, row := range other {
		if kind != impl.ReFlip {
			slices.Reverse(row)
		}
		for x, partner := range row {
			partners[table[y][x]] = partner
		}
	}
	return partners
}

func kindClashesModel(p impl.Picture, kind int64) int64 {
	twice := int64(0)
	for cell, partner := range partnersModel(p, kind) {
		if differing(p.Cells[cell], p.Cells[partner]) {
			twice++
		}
	}
	return twice / 2
}

// filledModel returns the picture whose lost cells have the colours of a table.
func filledModel(p impl.Picture, colours map[int64]uint8) impl.Picture {
	for cell, colour := range colours {
		if p.Cells[cell] == 0 {
			p.Cells[cell] = colour
		}
	}
	return p
}

func byKindModel(p impl.Picture, kind int64) impl.Picture {
	colours := map[int64]uint8{}
	for cell, partner := range partnersModel(p, kind) {
		colours[cell] = p.Cells[partner]
	}
	return filledModel(p, colours)
}

// commonest returns the stone that comes most often, the least one of several, and 0 without stones.
func commonest(colours []uint8) uint8 {
	best, most := uint8(0), 0
	for colour := uint8(15); colour > 0; colour-- {
		count := 0
		for _, one := range colours {
			if one == colour {
				count++
			}
		}
		if count > 0 && count >= most {
			best, most = colour, count
		}
	}
	return best
}

func roundModel(p impl.Picture) impl.Picture {
	colours := map[int64]uint8{}
	for _, cell := range cellsOf(p) {
		var beside []uint8
		for _, next := range besides(p, cell) {
			beside = append(beside, p.Cells[next])
		}
		colours[cell] = commonest(beside)
	}
	return filledModel(p, colours)
}

// repeatsModel looks at all pairs of cells.
func repeatsModel(p impl.Picture, east, south int64) bool {
	for _, a := range cellsOf(p) {
		for _, b := range cellsOf(p) {
			if b%12-a%12 == east && b/12-a/12 == south && differing(p.Cells[a], p.Cells[b]) {
				return false
			}
		}
	}
	return true
}

// alikeModel returns for each cell all that are alike, and itself, in ascending order.
func alikeModel(p impl.Picture, east, south int64) map[int64][]int64 {
	alike := map[int64][]int64{}
	for _, a := range cellsOf(p) {
		for _, b := range cellsOf(p) {
			if (b%12-a%12)%east == 0 && (b/12-a/12)%south == 0 {
				alike[a] = append(alike[a], b)
			}
		}
	}
	return alike
}

// conflictModel returns the least pair of cells in conflict, or nothing.
func conflictModel(p impl.Picture, east, south int64) []int64 {
	var pairs [][]int64
	for a, list := range alikeModel(p, east, south) {
		for _, b := range list {
			if a < b && differing(p.Cells[a], p.Cells[b]) {
				pairs = append(pairs, []int64{a, b})
			}
		}
	}
	if len(pairs) == 0 {
		return nil
	}
	return slices.MinFunc(pairs, slices.Compare)
}

func byPeriodsModel(p impl.Picture, east, south int64) impl.Picture {
	colours := map[int64]uint8{}
	for cell, list := range alikeModel(p, east, south) {
		first := slices.IndexFunc(list, func(other int64) bool { return p.Cells[other] > 0 })
		if first >= 0 {
			colours[cell] = p.Cells[list[first]]
		}
	}
	return filledModel(p, colours)
}

func agreementModel(a, b impl.Picture) (int64, int64) {
	same, other := int64(0), int64(0)
	for _, cell := range cellsOf(a) {
		switch one, two := a.Cells[cell], b.Cells[cell]; {
		case one == 0, two == 0:
		case one == two:
			same++
		default:
			other++
		}
	}
	return same, other
}

func voteModel(list []impl.Picture) impl.Picture {
	p := impl.Picture{Wide: list[0].Wide, High: list[0].High}
	for _, cell := range cellsOf(p) {
		var colours []uint8
		for _, one := range list {
			colours = append(colours, one.Cells[cell])
		}
		p.Cells[cell] = commonest(colours)
	}
	return p
}

// shiftModel counts the differences of the places of all stones and of all cells of the plan with their colour.
func shiftModel(p, plan impl.Picture) [3]int64 {
	counts := map[[2]int64]int64{}
	for _, cell := range cellsOf(p) {
		for _, place := range cellsOf(plan) {
			if p.Cells[cell] == plan.Cells[place] && p.Cells[cell] > 0 {
				counts[[2]int64{place%12 - cell%12, place/12 - cell/12}]++
			}
		}
	}
	best := [3]int64{-3, -3, counts[[2]int64{-3, -3}]}
	for number := range int64(49) {
		if count := counts[[2]int64{number/7 - 3, number%7 - 3}]; count > best[2] {
			best = [3]int64{number/7 - 3, number%7 - 3, count}
		}
	}
	return best
}

// wantLine checks a picture and a number of which the one is written in a line, and the other as it is.
func wantLine(t *testing.T, name string, p impl.Picture, number, code int64, line string, want int64) {
	t.Helper()
	if code != impl.OK || p != lined(line) || number != want {
		t.Errorf("%s: got %s and %d with the code %d, want %s and %d", name, writtenLine(p), number, code, line, want)
	}
}
