package tests

import (
	"slices"
	"strings"
	"testing"

	"loop.example/g01322/impl"
)

func TestConstantsOfPictures(t *testing.T) {
	codes := []int{impl.OK, impl.ErrInvalid, impl.ErrRange, impl.ErrLimit, impl.ErrState, impl.ErrSyntax, impl.ErrNotFound, impl.ErrBudget, impl.ErrProof}
	wantEqual(t, "codes", codes, []int{0, 1, 2, 3, 4, 5, 6, 7, 8})
	wantEqual(t, "sizes", []int{impl.Stride, impl.MaxColours}, []int{12, 16})
	wantEqual(t, "symmetries", []int{impl.SyMirror, impl.SyFlip, impl.SyHalf, impl.SyQuarter}, []int{1, 2, 4, 8})
}

func TestCodeName(t *testing.T) {
	names := []string{"ok", "invalid", "range", "limit", "state", "syntax", "notfound", "budget", "proof"}
	for code, name := range names {
		wantEqual(t, "name", impl.CodeName(int64(code)), name)
	}
	for _, code := range numbers {
		if (code < 0 || code > 8) && impl.CodeName(code) != "" {
			t.Errorf("the code %d has the name %q", code, impl.CodeName(code))
		}
	}
	wantEqual(t, "name of 9", impl.CodeName(9), "")
}

func TestValidPicture(t *testing.T) {
	for _, p := range append(samples(), smallPictures()...) {
		if !impl.ValidPicture(p) {
			t.Errorf("not valid: %v", rowsOf(p))
		}
	}
	for name, p := range invalidPictures() {
		if impl.ValidPicture(p) {
			t.Errorf("valid: %s", name)
		}
	}
}

// TestValidPictureByNumbers sets each number of pictures of all sizes in turn: only cells may be set.
func TestValidPictureByNumbers(t *testing.T) {
	for wide := range int64(12) {
		for high := range int64(12) {
			p := impl.Picture{Wide: int8(wide + 1), High: int8(high + 1)}
			for number := range int64(144) {
				q := p
				q.Cells[number] = 15
				if impl.ValidPicture(q) != has(p, number%12, number/12) {
					t.Errorf("%d by %d with the number %d set: wrong", wide+1, high+1, number)
				}
				q.Cells[number] = 16
				if impl.ValidPicture(q) {
					t.Errorf("%d by %d with the colour 16 at %d: valid", wide+1, high+1, number)
				}
			}
		}
	}
}

func TestSamePicture(t *testing.T) {
	list := samples()[:12]
	for _, p := range invalidPictures() {
		list = append(list, p)
	}
	for i, a := range list {
		for k, b := range list {
			if impl.SamePicture(a, b) != (i == k) {
				t.Errorf("pictures %d and %d: got %v", i, k, i != k)
			}
		}
	}
	a, b := example(), example()
	b.Cells[143] = 1
	wantEqual(t, "no cell", impl.SamePicture(a, b), false)
	wantEqual(t, "sizes", impl.SamePicture(drawn(".."), drawn(".", ".")), false)
}

func TestPlainPicture(t *testing.T) {
	for wide := range int64(12) {
		for high := range int64(12) {
			for colour := range int64(16) {
				row := strings.Repeat(letters[colour:colour+1], int(wide+1))
				p, code := impl.PlainPicture(wide+1, high+1, colour)
				wantRows(t, "plain", p, code, slices.Repeat([]string{row}, int(high+1))...)
			}
		}
	}
}

func TestColourAtAndWithColour(t *testing.T) {
	for _, p := range samples() {
		for y := range int64(p.High) {
			for x := range int64(p.Wide) {
				colour, code := impl.ColourAt(p, x, y)
				wantEqual(t, "colour", [2]int64{colour, code}, [2]int64{int64(p.Cells[x+12*y]), impl.OK})
				for _, other := range []int64{0, 1, 15} {
					want := p
					want.Cells[x+12*y] = uint8(other)
					got, code := impl.WithColour(p, x, y, other)
					wantRows(t, "with colour", got, code, rowsOf(want)...)
				}
			}
		}
	}
}

func TestCountColours(t *testing.T) {
	counts, code := impl.CountColours(example())
	wantEqual(t, "example", counts, [16]int64{1: 3, 2: 3})
	wantEqual(t, "code", code, int64(impl.OK))
	for _, p := range samples() {
		var want [16]int64
		text := textOf(rowsOf(p))
		for colour := range letters {
			want[colour] = int64(strings.Count(text, letters[colour:colour+1]))
		}
		counts, code := impl.CountColours(p)
		wantEqual(t, "counts", counts, want)
		wantEqual(t, "code", code, int64(impl.OK))
	}
}

func TestMirrorFlipAndTurn(t *testing.T) {
	p := drawn("abc", "d.e")
	q, code := impl.MirrorPicture(p)
	wantRows(t, "mirrored", q, code, "cba", "e.d")
	q, code = impl.FlipPicture(p)
	wantRows(t, "flipped", q, code, "d.e", "abc")
	q, code = impl.TurnPicture(p)
	wantRows(t, "turned", q, code, "da", ".b", "ec")
	for _, p := range samples() {
		mirror, one := impl.MirrorPicture(p)
		flip, two := impl.FlipPicture(p)
		turn, three := impl.TurnPicture(p)
		wantRows(t, "mirrored", mirror, one, mirrorRows(rowsOf(p))...)
		wantRows(t, "flipped", flip, two, flipRows(rowsOf(p))...)
		wantRows(t, "turned", turn, three, turnRows(rowsOf(p))...)
	}
}

func mirrorRows(rows []string) []string {
	var list []string
	for _, row := range rows {
		cells := []byte(row)
		slices.Reverse(cells)
		list = append(list, string(cells))
	}
	return list
}

func flipRows(rows []string) []string {
	list := slices.Clone(rows)
	slices.Reverse(list)
	return list
}

// turnRows reads each column from the south to the north.
func turnRows(rows []string) []string {
	list := make([]string, len(rows[0]))
	for _, row := range flipRows(rows) {
		for x := range row {
			list[x] += row[x : x+1]
		}
	}
	return list
}

func TestSymmetriesOf(t *testing.T) {
	for _, c := range []struct {
		want int64
		rows []string
	}{
		{15, []string{"."}},
		{15, []string{"aa", "aa"}},
		{7, []string{"aba"}},
		{7, []string{"a", "b", "a"}},
		{2, []string{"ab"}},
		{1, []string{"a", "b"}},
		{0, []string{"aab", "abb"}},
		{1, []string{"aba", "c.c"}},
		{2, []string{"ac", "b.", "ac"}},
		{4, []string{"ab", "ba"}},
		{4, []string{"ab.", ".ba"}},
		{7, []string{"a.a", "bbb", "a.a"}},
		{15, []string{"aba", "b.b", "aba"}},
		{12, []string{".ab.", "b..a", "a..b", ".ba."}},
	} {
		got, code := impl.SymmetriesOf(drawn(c.rows...))
		if code != impl.OK || got != c.want {
			t.Errorf("%v: got %d with the code %d, want %d", c.rows, got, code, c.want)
		}
	}
}

func TestSymmetriesAgreeWithRows(t *testing.T) {
	for _, p := range append(samples(), smallPictures()...) {
		rows, want := rowsOf(p), int64(0)
		for i, image := range [][]string{mirrorRows(rows), flipRows(rows), turnRows(turnRows(rows)), turnRows(rows)} {
			if slices.Equal(image, rows) {
				want += 1 << i
			}
		}
		got, code := impl.SymmetriesOf(p)
		wantEqual(t, "symmetries", [2]int64{got, code}, [2]int64{want, impl.OK})
	}
}

func TestCutPicture(t *testing.T) {
	for _, p := range samples() {
		rows := rowsOf(p)
		for y := range rows {
			for x := range rows[0] {
				for high := 1; y+high <= len(rows); high++ {
					for wide := 1; x+wide <= len(rows[0]); wide += 1 + wide/3 {
						var want []string
						for _, row := range rows[y : y+high] {
							want = append(want, row[x:x+wide])
						}
						q, code := impl.CutPicture(p, int64(x), int64(y), int64(wide), int64(high))
						wantRows(t, "cut", q, code, want...)
					}
				}
			}
		}
	}
}

func TestPastePicture(t *testing.T) {
	p, q := drawn("aaa", "aaa", "aaa"), drawn("b.", "cd")
	for _, c := range []struct {
		x, y int64
		rows []string
	}{
		{0, 0, []string{"baa", "cda", "aaa"}},
		{1, 1, []string{"aaa", "aba", "acd"}},
		{2, 2, []string{"aaa", "aaa", "aab"}},
		{-1, 0, []string{"aaa", "daa", "aaa"}},
		{-1, -1, []string{"daa", "aaa", "aaa"}},
		{0, -1, []string{"cda", "aaa", "aaa"}},
		{2, -1, []string{"aac", "aaa", "aaa"}},
		{3, 0, []string{"aaa", "aaa", "aaa"}},
		{-2, 0, []string{"aaa", "aaa", "aaa"}},
		{12, -12, []string{"aaa", "aaa", "aaa"}},
	} {
		got, code := impl.PastePicture(p, q, c.x, c.y)
		wantRows(t, "paste", got, code, c.rows...)
	}
	got, code := impl.PastePicture(drawn("..", ".."), drawn("aa", "aa"), 1, 1)
	wantRows(t, "paste on nothing", got, code, "..", ".a")
}

// TestPasteAtAllPlaces pastes pictures of all kinds of sizes, and looks at each cell.
func TestPasteAtAllPlaces(t *testing.T) {
	for _, p := range []impl.Picture{drawn("a"), patterned(5, 3, 3), patterned(12, 12, 16)} {
		for _, q := range []impl.Picture{drawn("b"), drawn("."), patterned(3, 5, 3), patterned(12, 12, 3)} {
			for x := int64(-12); x <= 12; x++ {
				for y := int64(-12); y <= 12; y++ {
					want := p
					for cell := range linked(q) {
						i, k := x+cell%12, y+cell/12
						if has(p, i, k) && q.Cells[cell] != 0 {
							want.Cells[i+12*k] = q.Cells[cell]
						}
					}
					got, code := impl.PastePicture(p, q, x, y)
					wantRows(t, "paste", got, code, rowsOf(want)...)
				}
			}
		}
	}
}

func TestRecolourPicture(t *testing.T) {
	p := drawn("a.b", "bao")
	for _, c := range []struct {
		from, to int64
		rows     []string
	}{
		{1, 2, []string{"b.b", "bbo"}},
		{0, 15, []string{"aob", "bao"}},
		{15, 0, []string{"a.b", "ba."}},
		{2, 2, []string{"a.b", "bao"}},
		{3, 4, []string{"a.b", "bao"}},
	} {
		q, code := impl.RecolourPicture(p, c.from, c.to)
		wantRows(t, "recoloured", q, code, c.rows...)
	}
	for _, p := range samples() {
		for _, pair := range [][2]int64{{0, 1}, {1, 0}, {0, 15}, {15, 2}, {2, 3}} {
			from, to := letters[pair[0]:pair[0]+1], letters[pair[1]:pair[1]+1]
			q, code := impl.RecolourPicture(p, pair[0], pair[1])
			wantRows(t, "recoloured", q, code, strings.Split(strings.ReplaceAll(strings.Join(rowsOf(p), "\n"), from, to), "\n")...)
		}
	}
}

func TestBorderPicture(t *testing.T) {
	for _, p := range samples() {
		for _, colour := range []int64{0, 1, 15} {
			got, code := impl.BorderPicture(p, colour)
			if p.Wide > 10 || p.High > 10 {
				wantEqual(t, "code", code, int64(impl.ErrLimit))
				wantEqual(t, "picture", got, impl.Picture{})
				continue
			}
			letter := letters[colour : colour+1]
			edge := strings.Repeat(letter, int(p.Wide)+2)
			want := []string{edge}
			for _, row := range rowsOf(p) {
				want = append(want, letter+row+letter)
			}
			wantRows(t, "border", got, code, append(want, edge)...)
		}
	}
	got, code := impl.BorderPicture(example(), 3)
	wantRows(t, "example", got, code, "ccccc", "caabc", "cabbc", "ccccc")
}

func TestDifferIn(t *testing.T) {
	list := append(samples(), smallPictures()[:60]...)
	for _, a := range list {
		for _, b := range list {
			cells, code := impl.DifferIn(a, b)
			if a.Wide != b.Wide || a.High != b.High {
				wantEqual(t, "code", code, int64(impl.ErrState))
				wantEqual(t, "cells", len(cells), 0)
				continue
			}
			var want []int64
			for number := range int64(144) {
				if a.Cells[number] != b.Cells[number] {
					want = append(want, number)
				}
			}
			if code != impl.OK || !slices.Equal(cells, want) {
				t.Errorf("%v and %v: got %v with the code %d, want %v", rowsOf(a), rowsOf(b), cells, code, want)
			}
		}
	}
	_, code := impl.DifferIn(drawn("ab"), drawn("a", "b"))
	wantEqual(t, "turned size", code, int64(impl.ErrState))
	_, code = impl.DifferIn(drawn("ab"), drawn("ab", "ab"))
	wantEqual(t, "higher", code, int64(impl.ErrState))
	_, code = impl.DifferIn(drawn("ab"), drawn("abc"))
	wantEqual(t, "wider", code, int64(impl.ErrState))
}
