package impl

import (
	"iter"
	"slices"
	"strings"
)

// Codes of errors.
const (
	OK          = 0
	ErrInvalid  = 1
	ErrRange    = 2
	ErrLimit    = 3
	ErrState    = 4
	ErrSyntax   = 5
	ErrNotFound = 6
	ErrBudget   = 7
	ErrProof    = 8
)

// Sizes of pictures.
const (
	Stride     = 12
	MaxColours = 16
)

// Symmetries of pictures.
const (
	SyMirror  = 1
	SyFlip    = 2
	SyHalf    = 4
	SyQuarter = 8
)

// Picture has a colour for each cell.
type Picture struct {
	Wide  int8
	High  int8
	Cells [144]uint8
}

// symmetry is a number of SymmetriesOf with the image that it is about.
type symmetry struct {
	number int64
	image  func(Picture) Picture
}

func symmetryTable() [4]symmetry {
	return [4]symmetry{
		{SyMirror, Picture.mirrored},
		{SyFlip, Picture.flipped},
		{SyHalf, Picture.halfTurned},
		{SyQuarter, Picture.turned},
	}
}

// CodeName returns the name of an error code.
func CodeName(code int64) string {
	switch code {
	case OK:
		return "ok"
	case ErrInvalid:
		return "invalid"
	case ErrRange:
		return "range"
	case ErrLimit:
		return "limit"
	case ErrState:
		return "state"
	case ErrSyntax:
		return "syntax"
	case ErrNotFound:
		return "notfound"
	case ErrBudget:
		return "budget"
	case ErrProof:
		return "proof"
	}
	return ""
}

// ValidPicture reports whether a picture is valid.
func ValidPicture(p Picture) bool {
	wide, high := p.size()
	if !isSide(wide) || !isSide(high) {
		return false
	}
	for _, colour := range p.Cells {
		if colour >= MaxColours {
			return false
		}
	}
	// The part of all cells has 0 in every number that is no cell, so it differs if p has not.
	return p.part(0, 0, wide, high).Cells == p.Cells
}

// SamePicture reports whether two pictures are equal.
func SamePicture(a, b Picture) bool { return a == b }

// PlainPicture returns the picture with one colour everywhere.
func PlainPicture(wide, high, colour int64) (Picture, int64) {
	if !isSide(wide) || !isSide(high) || !isColour(colour) {
		return Picture{}, ErrRange
	}
	return pictureFrom(wide, high, func(x, y int64) uint8 { return uint8(colour) }), OK
}

// ColourAt returns the colour of a cell.
func ColourAt(p Picture, x, y int64) (int64, int64) {
	if !ValidPicture(p) {
		return 0, ErrInvalid
	}
	if !p.has(x, y) {
		return 0, ErrRange
	}
	return int64(p.at(x, y)), OK
}

// WithColour returns the picture with another colour of a cell.
func WithColour(p Picture, x, y, colour int64) (Picture, int64) {
	if !ValidPicture(p) {
		return Picture{}, ErrInvalid
	}
	if !p.has(x, y) || !isColour(colour) {
		return Picture{}, ErrRange
	}
	q := p
	q.Cells[cellNumber(x, y)] = uint8(colour)
	return q, OK
}

// CountColours returns how many cells have each colour.
func CountColours(p Picture) ([16]int64, int64) {
	var counts [16]int64
	if !ValidPicture(p) {
		return counts, ErrInvalid
	}
	for cell := range p.cells() {
		counts[p.Cells[cell]]++
	}
	return counts, OK
}

// MirrorPicture exchanges west and east.
func MirrorPicture(p Picture) (Picture, int64) { return imageOf(p, Picture.mirrored) }

// FlipPicture exchanges north and south.
func FlipPicture(p Picture) (Picture, int64) { return imageOf(p, Picture.flipped) }

// TurnPicture turns a picture by a quarter.
func TurnPicture(p Picture) (Picture, int64) { return imageOf(p, Picture.turned) }

// CutPicture returns a part of a picture.
func CutPicture(p Picture, x, y, wide, high int64) (Picture, int64) {
	if !ValidPicture(p) {
		return Picture{}, ErrInvalid
	}
	if wide < 1 || high < 1 || !p.has(x, y) {
		return Picture{}, ErrRange
	}
	// The part is held against the room that is left: x + wide might overflow.
	allWide, allHigh := p.size()
	if wide > allWide-x || high > allHigh-y {
		return Picture{}, ErrRange
	}
	return p.part(x, y, wide, high), OK
}

// PastePicture puts a picture upon another one.
func PastePicture(p, q Picture, x, y int64) (Picture, int64) {
	if !ValidPicture(p) || !ValidPicture(q) {
		return Picture{}, ErrInvalid
	}
	if !isShift(x) || !isShift(y) {
		return Picture{}, ErrRange
	}
	wide, high := p.size()
	return pictureFrom(wide, high, func(i, k int64) uint8 {
		if q.has(i-x, k-y) && q.at(i-x, k-y) != 0 {
			return q.at(i-x, k-y)
		}
		return p.at(i, k)
	}), OK
}

// RecolourPicture gives all cells with a colour another one.
func RecolourPicture(p Picture, from, to int64) (Picture, int64) {
	if !ValidPicture(p) {
		return Picture{}, ErrInvalid
	}
	if !isColour(from) || !isColour(to) {
		return Picture{}, ErrRange
	}
	q := p
	for cell := range p.cells() {
		if p.Cells[cell] == uint8(from) {
			q.Cells[cell] = uint8(to)
		}
	}
	return q, OK
}

// SymmetriesOf returns the symmetries of a picture.
func SymmetriesOf(p Picture) (int64, int64) {
	if !ValidPicture(p) {
		return 0, ErrInvalid
	}
	numbers := map[Picture]int64{}
	for _, s := range symmetryTable() {
		numbers[s.image(p)] += s.number
	}
	return numbers[p], OK
}

// FieldAt returns the field of a cell.
func FieldAt(p Picture, x, y int64) ([]int64, int64) {
	if !ValidPicture(p) {
		return nil, ErrInvalid
	}
	if !p.has(x, y) {
		return nil, ErrRange
	}
	return p.fieldOf(cellNumber(x, y)), OK
}

// FieldsOf returns all fields.
func FieldsOf(p Picture) ([][]int64, int64) {
	if !ValidPicture(p) {
		return nil, ErrInvalid
	}
	return slices.Collect(p.fields()), OK
}

// OutlineOf returns the outline of the field of a cell.
func OutlineOf(p Picture, x, y int64) (int64, int64) {
	field, code := FieldAt(p, x, y)
	if code != OK {
		return 0, code
	}
	outline := int64(0)
	for _, cell := range field {
		outline += 4
		// A neighbour of the same colour is always of the same field.
		for next := range p.neighbours(cell) {
			if p.Cells[next] == p.Cells[cell] {
				outline--
			}
		}
	}
	return outline, OK
}

// FillField gives a field another colour.
func FillField(p Picture, x, y, colour int64) (Picture, int64) {
	field, code := FieldAt(p, x, y)
	if code != OK {
		return Picture{}, code
	}
	if !isColour(colour) {
		return Picture{}, ErrRange
	}
	q := p
	for _, cell := range field {
		q.Cells[cell] = uint8(colour)
	}
	return q, OK
}

// BorderPicture returns the picture with a ring around it.
func BorderPicture(p Picture, colour int64) (Picture, int64) {
	if !ValidPicture(p) {
		return Picture{}, ErrInvalid
	}
	if !isColour(colour) {
		return Picture{}, ErrRange
	}
	wide, high := p.size()
	if !isSide(wide+2) || !isSide(high+2) {
		return Picture{}, ErrLimit
	}
	return pictureFrom(wide+2, high+2, func(x, y int64) uint8 {
		if p.has(x-1, y-1) {
			return p.at(x-1, y-1)
		}
		return uint8(colour)
	}), OK
}

// DifferIn returns the cells in which two pictures differ.
func DifferIn(a, b Picture) ([]int64, int64) {
	if !ValidPicture(a) || !ValidPicture(b) {
		return nil, ErrInvalid
	}
	if a.Wide != b.Wide || a.High != b.High {
		return nil, ErrState
	}
	var list []int64
	for cell := range a.cells() {
		if a.Cells[cell] != b.Cells[cell] {
			list = append(list, cell)
		}
	}
	return list, OK
}

// PictureText returns the text of a picture.
func PictureText(p Picture) string {
	if !ValidPicture(p) {
		return ""
	}
	var text strings.Builder
	wide, high := p.size()
	for y := range high {
		for _, colour := range p.span(0, y, wide) {
			text.WriteByte(letterOf(colour))
		}
		text.WriteByte('\n')
	}
	return text.String()
}

// ReadPicture returns the picture with a text.
func ReadPicture(text string) (Picture, int64) {
	wide := strings.IndexByte(text, '\n')
	if !isSide(int64(wide)) {
		return Picture{}, ErrSyntax
	}
	line := wide + 1
	high := len(text) / line
	if len(text)%line != 0 || !isSide(int64(high)) {
		return Picture{}, ErrSyntax
	}
	p := Picture{Wide: int8(wide), High: int8(high)}
	for y := range high {
		row := p.span(0, int64(y), int64(wide))
		if !readRow(row, text[y*line:(y+1)*line]) {
			return Picture{}, ErrSyntax
		}
	}
	return p, OK
}

// readRow reads a line into the cells of a row, and reports whether it could; the line is one byte longer than the row.
func readRow(row []uint8, line string) bool {
	for x := range row {
		colour, ok := colourOf(line[x])
		if !ok {
			return false
		}
		row[x] = colour
	}
	return line[len(row)] == '\n'
}

func letterOf(colour uint8) byte {
	if colour == 0 {
		return '.'
	}
	return 'a' + colour - 1
}

func colourOf(letter byte) (uint8, bool) {
	switch {
	case letter == '.':
		return 0, true
	case letter >= 'a' && letter < 'a'+MaxColours-1:
		return letter - 'a' + 1, true
	}
	return 0, false
}

func isSide(length int64) bool { return length >= 1 && length <= Stride }

func isColour(colour int64) bool { return colour >= 0 && colour < MaxColours }

func isShift(far int64) bool { return far >= -Stride && far <= Stride }

func cellNumber(x, y int64) int64 { return x + Stride*y }

// imageOf returns an image of a picture if this is valid.
func imageOf(p Picture, image func(Picture) Picture) (Picture, int64) {
	if !ValidPicture(p) {
		return Picture{}, ErrInvalid
	}
	return image(p), OK
}

// pictureFrom returns the picture of a size with the colours that a function tells.
func pictureFrom(wide, high int64, colour func(x, y int64) uint8) Picture {
	p := Picture{Wide: int8(wide), High: int8(high)}
	for cell := range p.cells() {
		p.Cells[cell] = colour(cell%Stride, cell/Stride)
	}
	return p
}

func (p Picture) size() (int64, int64) { return int64(p.Wide), int64(p.High) }

func (p Picture) has(x, y int64) bool {
	wide, high := p.size()
	return x >= 0 && x < wide && y >= 0 && y < high
}

func (p Picture) at(x, y int64) uint8 { return p.Cells[cellNumber(x, y)] }

// span returns cells of one row, as memory of p; its capacity ends with them, so that nothing that is appended reaches other cells.
func (p *Picture) span(x, y, wide int64) []uint8 {
	from := cellNumber(x, y)
	return p.Cells[from : from+wide : from+wide]
}

func (p Picture) part(x, y, wide, high int64) Picture {
	q := Picture{Wide: int8(wide), High: int8(high)}
	for row := range high {
		copy(q.span(0, row, wide), p.span(x, y+row, wide))
	}
	return q
}

func (p Picture) mirrored() Picture {
	wide, high := p.size()
	return pictureFrom(wide, high, func(x, y int64) uint8 { return p.at(wide-1-x, y) })
}

func (p Picture) flipped() Picture {
	wide, high := p.size()
	return pictureFrom(wide, high, func(x, y int64) uint8 { return p.at(x, high-1-y) })
}

func (p Picture) turned() Picture {
	wide, high := p.size()
	return pictureFrom(high, wide, func(x, y int64) uint8 { return p.at(y, high-1-x) })
}

func (p Picture) halfTurned() Picture { return p.turned().turned() }

// cells goes through the numbers of all cells, in ascending order.
func (p Picture) cells() iter.Seq[int64] {
	return func(yield func(int64) bool) {
		wide, high := p.size()
		for y := range high {
			for x := range wide {
				if !yield(cellNumber(x, y)) {
					return
				}
			}
		}
	}
}

// neighbours goes through the neighbours of a cell, in ascending order.
func (p Picture) neighbours(cell int64) iter.Seq[int64] {
	return func(yield func(int64) bool) {
		x, y := cell%Stride, cell/Stride
		for _, step := range [4][2]int64{{0, -1}, {-1, 0}, {1, 0}, {0, 1}} {
			i, k := x+step[0], y+step[1]
			if p.has(i, k) && !yield(cellNumber(i, k)) {
				return
			}
		}
	}
}

// fieldOf returns the field of a cell, in ascending order.
func (p Picture) fieldOf(start int64) []int64 {
	var found [144]bool
	found[start] = true
	field := []int64{start}
	for i := 0; i < len(field); i++ {
		for next := range p.neighbours(field[i]) {
			if !found[next] && p.Cells[next] == p.Cells[start] {
				found[next] = true
				field = append(field, next)
			}
		}
	}
	slices.Sort(field)
	return field
}

// fields goes through all fields, ordered by their least cells.
func (p Picture) fields() iter.Seq[[]int64] {
	return func(yield func([]int64) bool) {
		var found [144]bool
		for cell := range p.cells() {
			if found[cell] {
				continue
			}
			field := p.fieldOf(cell)
			for _, member := range field {
				found[member] = true
			}
			if !yield(field) {
				return
			}
		}
	}
}
