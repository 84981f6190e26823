package tests

import (
	"fmt"
	"slices"
	"testing"

	"loop.example/g01322/impl"
)

func TestRepeatsByByHand(t *testing.T) {
	for _, c := range []struct {
		line        string
		east, south int64
		want        bool
	}{
		{"ab.b", 1, 0, false}, {"ab.b", 2, 0, true}, {"ab.b", 3, 0, false}, {"ab.b", 4, 0, true}, {"ab.b", 0, 1, true}, {"ab.b", 4, 1, true}, {"ab.b", 1, 1, true},
		// Cells with a lost one between them are held against each other by their own distance only.
		{"a.b", 1, 0, true}, {"a.b", 2, 0, false}, {"a.b", 3, 0, true}, {"a./.b", 1, 0, true}, {"a./.b", 0, 1, true}, {"a./.b", 1, 1, false}, {".a/b.", 1, 1, true},
		{"ab/ab", 0, 1, true}, {"ab/ac", 0, 1, false}, {"ab/ac", 0, 2, true}, {"ab/.c", 0, 1, false}, {"ab/a.", 0, 1, true}, {"a/b/a", 0, 1, false}, {"a/b/a", 0, 2, true}, {"a/b/a", 1, 0, true}, {"a/b/a", 1, 1, true}, {"a/b/a", 1, 3, true},
		// To the east and to the south at once: not to the west.
		{"ab/ca", 1, 1, true}, {"ab/cb", 1, 1, false}, {"ab/ca", 1, 0, false}, {"ab/ca", 0, 1, false}, {"abc/dab/eda", 1, 1, true}, {"abc/dab/edb", 1, 1, false}, {"abc/dab/edb", 2, 2, false}, {"abc/dab/eda", 2, 1, false}, {"abc/dea/fed", 2, 1, true}, {"abc/dab/eea", 1, 2, false}, {"abc/dab/eda", 3, 3, true},
		{".", 1, 0, true}, {".", 0, 1, true}, {"a", 1, 1, true}, {"../..", 1, 0, true}, {"aa/aa", 1, 1, true},
	} {
		repeats, code := impl.RepeatsBy(lined(c.line), c.east, c.south)
		wantEqual(t, fmt.Sprint(c), []any{repeats, code}, []any{c.want, int64(impl.OK)})
	}
}

func TestRepeatsByOutside(t *testing.T) {
	for _, list := range [][2]int64{{0, 0}, {5, 0}, {5, 1}, {-1, 0}, {-1, 1}, {0, 2}, {1, 2}, {0, -1}, {4, -1}, {12, 0}, {0, 12}, {-4, -1}, {1 << 32, 0}, {1<<32 + 1, 0}, {0, 1 << 32}, {1, 1<<32 + 1}} {
		repeats, code := impl.RepeatsBy(lined("ab.b"), list[0], list[1])
		wantEqual(t, fmt.Sprint(list), []any{repeats, code}, []any{false, int64(impl.ErrRange)})
	}
}

func TestPeriodsOfByHand(t *testing.T) {
	for line, want := range map[string][2]int64{
		"ab.b": {2, 1}, "a.b": {1, 1}, "ab": {2, 1}, "a/b": {1, 2}, "a": {1, 1}, ".": {1, 1}, "../..": {1, 1}, "aab/aab": {3, 1}, "aab/abb": {3, 2}, "aba": {2, 1}, "abab/baba": {2, 2}, "a.a/b.c": {1, 2}, "a./.b": {1, 1},
		"abcabcab": {3, 1}, "abcabcaa": {7, 1}, "abacaba": {4, 1}, "a..a..b": {1, 1}, "a.ab": {2, 1}, "abcdefghijkl": {12, 1}, "a/b/c/d/e/f/g/h/i/j/k/l": {1, 12}, "abcd/efgh/abcd": {4, 2}, "abcd/cdab": {4, 2}, "aaab": {4, 1}, "aaab/baaa": {4, 2}, "a/a/b/a": {1, 3},
	} {
		east, south, code := impl.PeriodsOf(lined(line))
		wantEqual(t, line, []int64{east, south, code}, []int64{want[0], want[1], impl.OK})
	}
	for number := range 143 {
		p := plain(12, 12, "a")
		p.Cells[number+1] = 2
		x, y := int64(number+1)%12, int64(number+1)/12
		east, south, code := impl.PeriodsOf(p)
		wantEqual(t, fmt.Sprint("12 by 12 with another stone at ", x, " ", y), []int64{east, south, code}, []int64{max(x, 11-x) + 1, max(y, 11-y) + 1, impl.OK})
	}
}

func TestRepeatsAndPeriods(t *testing.T) {
	yes, no := 0, 0
	for _, p := range append(wornSamples(), smallPictures()...) {
		if len(cellsOf(p)) > 50 && p.Cells[0]%3 > 0 {
			continue // All pairs of many cells take long.
		}
		wide, high := int64(p.Wide), int64(p.High)
		want := [2]int64{wide, high}
		for east := range wide + 1 {
			for south := range high + 1 {
				if east+south == 0 || east*south > 12 {
					continue
				}
				repeats, code := impl.RepeatsBy(p, east, south)
				if model := repeatsModel(p, east, south); repeats != model || code != impl.OK {
					t.Errorf("%s by %d and %d: got %v with the code %d", writtenLine(p), east, south, repeats, code)
				}
				if repeats {
					yes++
				} else {
					no++
				}
				if repeats && south == 0 {
					want[0] = min(want[0], east)
				}
				if repeats && east == 0 {
					want[1] = min(want[1], south)
				}
			}
		}
		east, south, code := impl.PeriodsOf(p)
		wantEqual(t, writtenLine(p), []int64{east, south, code}, []int64{want[0], want[1], impl.OK})
	}
	if yes < 1000 || no < 1000 {
		t.Errorf("only %d that repeat, and %d that do not", yes, no)
	}
}

func TestPromise14FillByPeriodsByHand(t *testing.T) {
	for _, c := range []struct {
		line        string
		east, south int64
		want        string
		filled      int64
	}{
		{"ab.b", 2, 1, "abab", 1}, {"ab.b", 4, 1, "ab.b", 0}, {"a", 1, 1, "a", 0}, {".", 1, 1, ".", 0}, {"..", 1, 1, "..", 0}, {".a", 1, 1, "aa", 1}, {".a", 2, 1, ".a", 0}, {"...o", 1, 1, "oooo", 3}, {"...o", 2, 1, ".o.o", 1}, {"...o", 3, 1, "o..o", 1},
		{"a.b", 3, 1, "a.b", 0}, {"a./.b", 2, 2, "a./.b", 0}, {"a./.b", 1, 2, "aa/bb", 2}, {"a./.b", 2, 1, "ab/ab", 2},
		// Cells that are alike and all lost stay lost.
		{"a/./a/.", 1, 2, "a/./a/.", 0}, {"a/./a/.", 1, 1, "a/a/a/a", 2}, {"a..a..", 3, 1, "a..a..", 0}, {"ab.a..", 3, 1, "ab.ab.", 1}, {".../.a./...", 2, 2, ".../.a./...", 0}, {"a../.../..b", 3, 2, "a.b/.../a.b", 2},
		{"ab../..cd/....", 2, 2, "abab/cdcd/abab", 8}, {"ab../..cd/....", 2, 3, "abab/cdcd/....", 4}, {"ab../..cd/....", 4, 2, "ab../..cd/ab..", 2}, {"ab../..cd/....", 4, 3, "ab../..cd/....", 0}, {"ab../..cd/....", 4, 1, "abcd/abcd/abcd", 8}, {"aa../..aa/....", 1, 1, "aaaa/aaaa/aaaa", 8},
		{"..../..../...c", 3, 2, "c..c/..../c..c", 3}, {"ab/ba", 2, 2, "ab/ba", 0},
	} {
		p, filled, code := impl.FillByPeriods(lined(c.line), c.east, c.south)
		wantLine(t, fmt.Sprint(c), p, filled, code, c.want, c.filled)
	}
	for _, size := range repairSizes {
		p := plain(size[0], size[1], ".")
		p.Cells[size[0]-1+12*(size[1]-1)] = 9
		q, filled, code := impl.FillByPeriods(p, 1, 1)
		wantLine(t, fmt.Sprint(size), q, filled, code, writtenLine(plain(size[0], size[1], "i")), int64(size[0]*size[1]-1))
		q, filled, code = impl.FillByPeriods(p, int64(size[0]), int64(size[1]))
		wantLine(t, fmt.Sprint(size), q, filled, code, writtenLine(p), 0)
	}
}

func TestPromise14FirstConflictByHand(t *testing.T) {
	for _, c := range []struct {
		p           impl.Picture
		east, south int64
		want        []int64 // nothing if there is no conflict
	}{
		{lined("a.a/b.c"), 1, 2, []int64{12, 14}}, {lined("a.a/b.c"), 1, 1, []int64{0, 12}}, {lined("a.a/b.c"), 2, 2, []int64{12, 14}}, {lined("a.a/b.c"), 3, 2, nil}, {lined("a.a/b.c"), 3, 1, []int64{0, 12}}, {lined("a.a/b.c"), 2, 1, []int64{0, 12}},
		{lined("ab.b"), 2, 1, nil}, {lined("ab.b"), 1, 1, []int64{0, 1}}, {lined("ab.b"), 3, 1, []int64{0, 3}}, {lined("ab.b"), 4, 1, nil},
		// Conflicts beside lost cells, also where the picture repeats by each of both.
		{lined(".b.a"), 2, 1, []int64{1, 3}}, {lined("a.b"), 1, 1, []int64{0, 2}}, {lined("a.b"), 2, 1, []int64{0, 2}}, {lined("a.b"), 3, 1, nil}, {lined("a./.b"), 1, 1, []int64{0, 13}}, {lined("a./.b"), 2, 1, nil}, {lined(".a/b."), 1, 1, []int64{1, 12}}, {lined("../.."), 1, 1, nil}, {lined("a./.."), 1, 1, nil}, {lined("."), 1, 1, nil}, {lined("a"), 1, 1, nil}, {lined("..ab"), 1, 1, []int64{2, 3}},
		// The first cell decides, and then the second one.
		{lined("aab"), 1, 1, []int64{0, 2}}, {lined("abc"), 1, 1, []int64{0, 1}}, {lined("aabb"), 2, 1, []int64{0, 2}}, {lined(".ab/b.a"), 3, 1, []int64{2, 14}}, {lined("ab/ac"), 2, 1, []int64{1, 13}}, {lined("ab/cb"), 1, 2, []int64{0, 1}}, {lined("aab/bab"), 3, 1, []int64{0, 12}}, {lined("abab/abac"), 2, 2, []int64{13, 15}}, {lined("abcd/abcd/abed"), 4, 2, []int64{2, 26}}, {lined("abab/baba"), 2, 2, nil}, {lined("abab/baba"), 2, 1, []int64{0, 12}}, {lined("ab/ba"), 1, 2, []int64{0, 1}},
	} {
		first, second, code := impl.FirstConflict(c.p, c.east, c.south)
		name := fmt.Sprint(writtenLine(c.p), c.east, c.south)
		q, filled, proof := impl.FillByPeriods(c.p, c.east, c.south)
		if c.want == nil {
			wantEqual(t, name, []int64{first, second, code, proof}, []int64{0, 0, impl.ErrNotFound, impl.OK})
			continue
		}
		wantEqual(t, name, []int64{first, second, code}, append(c.want, impl.OK))
		wantEqual(t, name, []any{q, filled, proof}, []any{impl.Picture{}, int64(0), int64(impl.ErrProof)})
	}
	p := plain(12, 12, "a")
	p.Cells[143] = 2
	for _, c := range [][]int64{{1, 1, 0, 143, impl.OK}, {12, 12, 0, 0, impl.ErrNotFound}, {11, 12, 132, 143, impl.OK}, {12, 11, 11, 143, impl.OK}, {11, 11, 0, 143, impl.OK}, {5, 7, 49, 143, impl.OK}, {12, 1, 11, 143, impl.OK}, {1, 12, 132, 143, impl.OK}} {
		first, second, code := impl.FirstConflict(p, c[0], c[1])
		wantEqual(t, fmt.Sprint("12 by 12: ", c[:2]), []int64{first, second, code}, c[2:])
	}
}

func TestPeriodsOutside(t *testing.T) {
	for _, list := range [][2]int64{{0, 0}, {0, 1}, {1, 0}, {5, 1}, {5, 0}, {-1, 1}, {1, 2}, {1, -1}, {4, 2}, {12, 1}, {1, 12}, {-2, -1}, {1 << 32, 1}, {1<<32 + 2, 1}, {2, 1 << 32}, {2, 1<<32 + 1}} {
		for _, line := range []string{"ab.b", "ab.c"} {
			p, filled, code := impl.FillByPeriods(lined(line), list[0], list[1])
			wantEqual(t, fmt.Sprint(line, list), []any{p, filled, code}, []any{impl.Picture{}, int64(0), int64(impl.ErrRange)})
			first, second, code := impl.FirstConflict(lined(line), list[0], list[1])
			wantEqual(t, fmt.Sprint(line, list), []int64{first, second, code}, []int64{0, 0, impl.ErrRange})
		}
	}
}

// TestPromise14FilledAsItWas loses cells of pictures that repeat by their periods: they are filled without a conflict, and each cell that is filled is as it was.
func TestPromise14FilledAsItWas(t *testing.T) {
	whole, part := 0, 0
	for i, size := range repairSizes {
		for east := 1; east <= size[0]; east++ {
			for south := 1; south <= size[1]; south++ {
				p := tiled(size[0], size[1], east, south, 1+(east+south*3)%5)
				for _, periods := range [][2]int64{{int64(east), int64(south)}, periodsModel(p)} {
					alike := alikeModel(p, periods[0], periods[1])
					for _, eighths := range []int{0, 2, 5, 7, 8} {
						lost := worn(p, eighths, i*1000+east*50+south)
						switch q := wantFilledAsItWas(t, p, lost, periods, alike); {
						case q == p && lost != p:
							whole++
						case q != p:
							part++
						}
					}
				}
			}
		}
	}
	if whole < 1000 || part < 1000 {
		t.Errorf("only %d that are whole again, and %d that are not", whole, part)
	}
}

// periodsModel returns the periods of a picture without lost cells: no colour lies there in another order than behind them.
func periodsModel(p impl.Picture) [2]int64 {
	rows := rowsOf(p)
	south := 1
	for !slices.Equal(rows[south:], rows[:len(rows)-south]) {
		south++
	}
	east := 1
	for slices.ContainsFunc(rows, func(row string) bool { return row[east:] != row[:len(row)-east] }) {
		east++
	}
	return [2]int64{int64(east), int64(south)}
}

func wantFilledAsItWas(t *testing.T, p, lost impl.Picture, periods [2]int64, alike map[int64][]int64) impl.Picture {
	t.Helper()
	name := fmt.Sprint(writtenLine(lost), periods)
	east, south, code := impl.PeriodsOf(p)
	wantEqual(t, name, []any{[2]int64{east, south}, code}, []any{periodsModel(p), int64(impl.OK)})
	_, _, code = impl.FirstConflict(lost, periods[0], periods[1])
	wantEqual(t, name, code, int64(impl.ErrNotFound))
	q, filled, code := impl.FillByPeriods(lost, periods[0], periods[1])
	wantFilled(t, name, lost, q, filled, code)
	for cell, list := range alike {
		stays := !slices.ContainsFunc(list, func(other int64) bool { return lost.Cells[other] > 0 })
		if stays && q.Cells[cell] != 0 || !stays && q.Cells[cell] != p.Cells[cell] {
			t.Errorf("%s: %d is filled with %d", name, cell, q.Cells[cell])
		}
	}
	for _, step := range [][2]int64{{periods[0], 0}, {0, periods[1]}, periods} {
		repeats, code := impl.RepeatsBy(q, step[0], step[1])
		wantEqual(t, name, []any{repeats, code}, []any{true, int64(impl.OK)})
	}
	again, more, code := impl.FillByPeriods(q, periods[0], periods[1])
	wantEqual(t, name, []any{again, more, code}, []any{q, int64(0), int64(impl.OK)})
	return q
}

// TestPromise14ConflictsAndFilling holds both functions against their models: what is filled has no conflict, and the other way round.
func TestPromise14ConflictsAndFilling(t *testing.T) {
	conflicts, none := 0, 0
	for i, p := range append(wornSamples(), smallPictures()...) {
		for east := int64(1); east <= int64(p.Wide); east++ {
			for south := int64(1); south <= int64(p.High); south++ {
				if len(cellsOf(p)) > 50 && (east*7+south*5+int64(i))%29 > 0 {
					continue // All pairs of many cells take long.
				}
				name := fmt.Sprint(writtenLine(p), east, south)
				want := conflictModel(p, east, south)
				first, second, code := impl.FirstConflict(p, east, south)
				q, filled, proof := impl.FillByPeriods(p, east, south)
				if want != nil {
					conflicts++
					wantEqual(t, name, []any{[]int64{first, second}, code}, []any{want, int64(impl.OK)})
					wantEqual(t, name, []any{q, filled, proof}, []any{impl.Picture{}, int64(0), int64(impl.ErrProof)})
					continue
				}
				none++
				wantEqual(t, name, []int64{first, second, code}, []int64{0, 0, impl.ErrNotFound})
				wantFilled(t, name, p, q, filled, proof)
				wantEqual(t, name, q, byPeriodsModel(p, east, south))
			}
		}
	}
	if conflicts < 1000 || none < 1000 {
		t.Errorf("only %d conflicts, and %d pictures without", conflicts, none)
	}
}
