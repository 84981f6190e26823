package tests

import (
	"iter"
	"math"
	"reflect"
	"slices"
	"strings"
	"testing"

	"loop.example/g01322/impl"
)

// The tests build and read pictures cell by cell, so that they do not depend on the functions that they test.

const letters = ".abcdefghijklmno"

// numbers are arguments at and beyond the limits, and some that are within them once they are cut to fewer bits.
var numbers = []int64{
	math.MinInt64, math.MinInt64 + 1, -1 << 32, -256, -16, -13, -12, -11, -2, -1,
	0, 1, 2, 3, 10, 11, 12, 13, 14, 15, 16, 17, 127, 128, 143, 144, 255, 256, 257,
	1 << 16, 1 << 32, 1<<32 + 1, math.MaxInt64 - 1, math.MaxInt64,
}

// drawn returns the picture with the given rows.
func drawn(rows ...string) impl.Picture {
	p := impl.Picture{Wide: int8(len(rows[0])), High: int8(len(rows))}
	for y, row := range rows {
		for x := range row {
			p.Cells[x+12*y] = uint8(strings.IndexByte(letters, row[x]))
		}
	}
	return p
}

// rowsOf returns the rows of a picture that has a size.
func rowsOf(p impl.Picture) []string {
	var rows []string
	for y := range int(p.High) {
		row := ""
		for x := range int(p.Wide) {
			row += letters[p.Cells[x+12*y]:][:1]
		}
		rows = append(rows, row)
	}
	return rows
}

// textOf returns the text that rows should have.
func textOf(rows []string) string {
	return strings.Join(rows, "\n") + "\n"
}

// changedTexts goes through all texts with another byte at one place of a text, with one more byte ahead of it, or with one byte less.
func changedTexts(text string) iter.Seq[string] {
	return func(yield func(string) bool) {
		for place := range len(text) {
			for letter := range 256 {
				other := string([]byte{byte(letter)})
				if !yield(text[:place]+other+text[place+1:]) || !yield(text[:place]+other+text[place:]) {
					return
				}
			}
			if !yield(text[:place] + text[place+1:]) {
				return
			}
		}
	}
}

func example() impl.Picture { return drawn("aab", "abb") }

// patterned returns a picture of a size whose colours follow a rule without symmetry.
func patterned(wide, high, colours int) impl.Picture {
	p := impl.Picture{Wide: int8(wide), High: int8(high)}
	state := uint32(wide*100 + high*10 + colours)
	for y := range high {
		for x := range wide {
			state = state*1664525 + 1013904223
			p.Cells[x+12*y] = uint8((state >> 16) % uint32(colours))
		}
	}
	return p
}

// samples are pictures of the least and the greatest sizes, with few and with many fields, and with symmetries.
func samples() []impl.Picture {
	list := []impl.Picture{
		example(),
		drawn("."), drawn("a"), drawn("o"),
		drawn("ab"), drawn("a", "b"), drawn("aba"), drawn("a", "b", "a"),
		drawn("aba", "b.b", "aba"), drawn("ab", "ba"), drawn("ab.", ".ba"),
		drawn("aaaaa", "abbba", "ab.ba", "abbba", "aaaaa"),
		drawn("aaaaaa", ".....a", "aaaa.a", "a..a.a", "a.aa.a", "a....a", "aaaaaa"),
		drawn("aab", "b.a", "baa"),
		drawn("abcdefghijkl"),
		drawn("a", "b", "c", "d", "e", "f", "g", "h", "i", "j", "k", "l"),
	}
	for _, size := range [][2]int{{1, 1}, {2, 2}, {3, 5}, {7, 4}, {12, 1}, {1, 12}, {11, 12}, {12, 11}, {10, 10}, {11, 10}, {10, 11}, {12, 12}} {
		for _, colours := range []int{1, 2, 3, 16} {
			list = append(list, patterned(size[0], size[1], colours))
		}
	}
	return list
}

// smallPictures are all pictures of at most 3 by 2 or 2 by 3 cells with the colours 0 to 2.
func smallPictures() []impl.Picture {
	var list []impl.Picture
	for _, size := range [][2]int{{1, 1}, {2, 1}, {1, 2}, {2, 2}, {3, 1}, {1, 3}, {3, 2}, {2, 3}} {
		count := 1
		for range size[0] * size[1] {
			count *= 3
		}
		for number := range count {
			p := impl.Picture{Wide: int8(size[0]), High: int8(size[1])}
			for y := range size[1] {
				for x := range size[0] {
					p.Cells[x+12*y] = uint8(number % 3)
					number /= 3
				}
			}
			list = append(list, p)
		}
	}
	return list
}

// invalidPictures have each one thing that makes them invalid.
func invalidPictures() map[string]impl.Picture {
	changed := func(p impl.Picture, change func(*impl.Picture)) impl.Picture {
		change(&p)
		return p
	}
	full := patterned(12, 12, 2)
	narrow := patterned(11, 12, 2)
	low := patterned(12, 11, 2)
	return map[string]impl.Picture{
		"nothing":            {},
		"wide 0":             {Wide: 0, High: 1},
		"high 0":             {Wide: 1, High: 0},
		"wide -1":            {Wide: -1, High: 2},
		"high -1":            {Wide: 2, High: -1},
		"wide -128":          {Wide: -128, High: 12},
		"high -128":          {Wide: 12, High: -128},
		"wide 13":            {Wide: 13, High: 1},
		"high 13":            {Wide: 1, High: 13},
		"wide 127":           {Wide: 127, High: 1},
		"high 127":           {Wide: 1, High: 127},
		"colour 16":          changed(example(), func(p *impl.Picture) { p.Cells[0] = 16 }),
		"last cell 16":       changed(full, func(p *impl.Picture) { p.Cells[143] = 16 }),
		"colour 255":         changed(example(), func(p *impl.Picture) { p.Cells[13] = 255 }),
		"east of a row":      changed(example(), func(p *impl.Picture) { p.Cells[3] = 1 }),
		"east of last row":   changed(example(), func(p *impl.Picture) { p.Cells[23] = 1 }),
		"south of all rows":  changed(example(), func(p *impl.Picture) { p.Cells[24] = 15 }),
		"last number":        changed(example(), func(p *impl.Picture) { p.Cells[143] = 1 }),
		"no cell, no colour": changed(example(), func(p *impl.Picture) { p.Cells[3] = 16 }),
		"east of 11":         changed(narrow, func(p *impl.Picture) { p.Cells[143] = 1 }),
		"south of 11":        changed(low, func(p *impl.Picture) { p.Cells[132] = 1 }),
	}
}

// has tells whether a picture has a cell.
func has(p impl.Picture, x, y int64) bool {
	return 0 <= x && x < int64(p.Wide) && 0 <= y && y < int64(p.High)
}

// linked returns for each cell the least number of the cells of its field, found by passing on lesser numbers until nothing changes.
func linked(p impl.Picture) map[int64]int64 {
	least := map[int64]int64{}
	for y := range int64(p.High) {
		for x := range int64(p.Wide) {
			least[x+12*y] = x + 12*y
		}
	}
	for changed := true; changed; {
		changed = false
		for a := range least {
			for _, b := range besides(p, a) {
				if p.Cells[a] == p.Cells[b] && least[b] < least[a] {
					least[a] = least[b]
					changed = true
				}
			}
		}
	}
	return least
}

// besides returns the neighbours of a cell.
func besides(p impl.Picture, cell int64) []int64 {
	var list []int64
	x, y := cell%12, cell/12
	for k := range int64(p.High) {
		for i := range int64(p.Wide) {
			if (i-x)*(i-x)+(k-y)*(k-y) == 1 {
				list = append(list, i+12*k)
			}
		}
	}
	return list
}

// fieldFrom returns the cells whose least number is the given one, in ascending order.
func fieldFrom(least map[int64]int64, first int64) []int64 {
	var list []int64
	for cell, number := range least {
		if number == first {
			list = append(list, cell)
		}
	}
	slices.Sort(list)
	return list
}

func wantRows(t *testing.T, name string, p impl.Picture, code int64, rows ...string) {
	t.Helper()
	if code != impl.OK || p != drawn(rows...) {
		t.Errorf("%s: got %v with the code %d, want the rows %v", name, p, code, rows)
	}
}

func wantEqual(t *testing.T, name string, got, want any) {
	t.Helper()
	if !reflect.DeepEqual(got, want) {
		t.Errorf("%s: got %v, want %v", name, got, want)
	}
}
