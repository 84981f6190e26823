package tests

import (
	"fmt"
	"math"
	"slices"
	"testing"

	"loop.example/g01322/impl"
)

func TestConstantsOfRepairs(t *testing.T) {
	wantEqual(t, "limits", []int{impl.MaxVotes, impl.MaxRounds}, []int{12, 30})
	wantEqual(t, "kinds", []int{impl.ReMirror, impl.ReFlip, impl.ReHalf}, []int{0, 1, 2})
}

func TestLostCellsByHand(t *testing.T) {
	for line, want := range map[string][]int64{
		"a.a/b.c": {1, 13}, "a": nil, ".": {0}, "o": nil, "..": {0, 1}, "./.": {0, 12}, "ab/ba": nil, "../..": {0, 1, 12, 13},
		"ab./.../cd.": {2, 12, 13, 14, 26}, "abcdefghijk.": {11}, "a/b/c/d/e/f/g/h/i/j/k/.": {132}, ".bcdefghijk/abcdefghij.": {0, 22},
	} {
		list, code := impl.LostCells(lined(line))
		if code != impl.OK || !slices.Equal(list, want) {
			t.Errorf("%s: got %v with the code %d, want %v", line, list, code, want)
		}
	}
	none, code := impl.LostCells(plain(12, 12, "o"))
	wantEqual(t, "12 by 12 without lost cells", []any{len(none), code}, []any{0, int64(impl.OK)})
	all, _ := impl.LostCells(plain(12, 12, "."))
	for number := range int64(144) {
		wantEqual(t, "12 by 12 lost cells", all[number], number)
	}
}

func TestLostCells(t *testing.T) {
	for _, p := range append(wornSamples(), smallPictures()...) {
		var want []int64
		for _, cell := range cellsOf(p) {
			if p.Cells[cell] == 0 {
				want = append(want, cell)
			}
		}
		list, code := impl.LostCells(p)
		if code != impl.OK || !slices.Equal(list, want) {
			t.Errorf("%s: got %v with the code %d, want %v", writtenLine(p), list, code, want)
		}
	}
}

func TestLoseCellsByHand(t *testing.T) {
	for _, c := range []struct {
		line string
		list []int64
		want string
	}{
		{"a.a/b.c", nil, "a.a/b.c"}, {"a.a/b.c", []int64{}, "a.a/b.c"}, {"a.a/b.c", []int64{0}, "..a/b.c"}, {"a.a/b.c", []int64{0, 0}, "..a/b.c"}, {"a.a/b.c", []int64{14, 0, 14}, "..a/b.."},
		{"a.a/b.c", []int64{1}, "a.a/b.c"}, {"a.a/b.c", []int64{1, 13, 1, 13}, "a.a/b.c"}, {"a.a/b.c", []int64{14, 13, 12, 2, 1, 0}, ".../..."}, {"a", []int64{0}, "."}, {".", []int64{0, 0}, "."},
		{"abcdefghijkl", []int64{11, 0}, ".bcdefghijk."}, {"a/b/c/d/e/f/g/h/i/j/k/l", []int64{132}, "a/b/c/d/e/f/g/h/i/j/k/."},
	} {
		p, code := impl.LoseCells(lined(c.line), c.list)
		wantLine(t, fmt.Sprint(c), p, 0, code, c.want, 0)
	}
	full := plain(12, 12, "k")
	p, code := impl.LoseCells(full, cellsOf(full))
	wantEqual(t, "all of 12 by 12", []any{p, code}, []any{plain(12, 12, "."), int64(impl.OK)})
	p, code = impl.LoseCells(lined("ab"), slices.Repeat([]int64{1, 0}, 500000))
	wantLine(t, "a million times", p, 0, code, "..", 0)
}

func TestLoseCellsOutside(t *testing.T) {
	for _, number := range []int64{-144, -13, -12, -11, -1, 3, 11, 15, 23, 24, 26, 36, 143, 144, 156, 255, 256, 268, 1 << 32, 1<<32 + 12, -1 << 32, math.MinInt64, math.MaxInt64} {
		for _, list := range [][]int64{{number}, {0, number}, {number, 0}, {0, 1, 2, number, number, 14}} {
			p, code := impl.LoseCells(lined("a.a/b.c"), list)
			wantEqual(t, fmt.Sprint(list), []any{p, code}, []any{impl.Picture{}, int64(impl.ErrRange)})
			p, code = impl.LoseCells(invalids["last number"], list)
			wantEqual(t, fmt.Sprint(list), []any{p, code}, []any{impl.Picture{}, int64(impl.ErrInvalid)})
		}
	}
}

// TestLoseCells loses each cell alone, and all but one, and looks for them again.
func TestLoseCells(t *testing.T) {
	for _, p := range wornSamples() {
		before, _ := impl.LostCells(p)
		for _, cell := range cellsOf(p) {
			want := p
			want.Cells[cell] = 0
			got, code := impl.LoseCells(p, []int64{cell})
			if code != impl.OK || got != want {
				t.Errorf("%s without %d: got %s with the code %d", writtenLine(p), cell, writtenLine(got), code)
			}
			again, _ := impl.LostCells(got)
			all := slices.Compact(slices.Sorted(slices.Values(append(slices.Clone(before), cell))))
			wantEqual(t, "lost cells", again, all)

			others := slices.DeleteFunc(cellsOf(p), func(other int64) bool { return other == cell })
			got, code = impl.LoseCells(p, others)
			alone := impl.Picture{Wide: p.Wide, High: p.High}
			alone.Cells[cell] = p.Cells[cell]
			if code != impl.OK || got != alone {
				t.Errorf("%s with %d alone: got %s with the code %d", writtenLine(p), cell, writtenLine(got), code)
			}
		}
	}
}
