package tests

import (
	"fmt"
	"testing"

	"loop.example/g01322/impl"
)

func TestPartnerOfByHand(t *testing.T) {
	for _, c := range []struct {
		p                impl.Picture
		cell             int64
		mirror, flip, hf int64
	}{
		{lined("a.a/b.c"), 0, 2, 12, 14}, {lined("a.a/b.c"), 1, 1, 13, 13}, {lined("a.a/b.c"), 2, 0, 14, 12}, {lined("a.a/b.c"), 12, 14, 0, 2}, {lined("a.a/b.c"), 13, 13, 1, 1}, {lined("a.a/b.c"), 14, 12, 2, 0},
		{lined("."), 0, 0, 0, 0}, {lined("a"), 0, 0, 0, 0}, {lined("abc"), 0, 2, 0, 2}, {lined("abc"), 1, 1, 1, 1}, {lined("a/b/c"), 0, 0, 24, 24}, {lined("a/b/c"), 12, 12, 12, 12}, {lined("ab"), 1, 0, 1, 0},
		{lined(".../.../..."), 13, 13, 13, 13}, {lined(".../.../..."), 1, 1, 25, 25}, {lined(".../.../..."), 12, 14, 12, 14},
		{plain(12, 12, "a"), 0, 11, 132, 143}, {plain(12, 12, "."), 143, 132, 11, 0}, {plain(12, 12, "a"), 66, 65, 78, 77}, {plain(11, 12, "a"), 5, 5, 137, 137}, {plain(12, 1, "a"), 4, 7, 4, 7}, {plain(1, 12, "a"), 48, 48, 84, 84},
	} {
		for kind, want := range []int64{c.mirror, c.flip, c.hf} {
			partner, code := impl.PartnerOf(c.p, int64(kind), c.cell)
			wantEqual(t, fmt.Sprint(writtenLine(c.p), kind, c.cell), []int64{partner, code}, []int64{want, impl.OK})
		}
	}
}

func TestPartnerOf(t *testing.T) {
	for wide := range 12 {
		for high := range 12 {
			p := patterned(wide+1, high+1, 3)
			for _, kind := range allKinds {
				model := partnersModel(p, kind)
				for _, cell := range cellsOf(p) {
					partner, code := impl.PartnerOf(p, kind, cell)
					back, _ := impl.PartnerOf(p, kind, partner)
					if code != impl.OK || partner != model[cell] || back != cell {
						t.Errorf("%d by %d, kind %d: got %d for %d with the code %d, and %d for it", wide+1, high+1, kind, partner, cell, code, back)
					}
				}
			}
		}
	}
}

func TestClashesUnderByHand(t *testing.T) {
	for line, want := range map[string][3]int64{
		"a.a/b.c": {1, 2, 2}, "a": {}, ".": {}, "ab": {1, 0, 1}, "a/b": {0, 1, 1}, "aa": {}, ".b": {}, "b.": {}, "..": {}, "a.b": {1, 0, 1}, "a.a": {}, "./a/.": {},
		"ab/cd": {2, 2, 2}, "ab/ba": {2, 2, 0}, "ab/ab": {2, 0, 2}, "ab/ac": {2, 1, 2}, "ab/.a": {1, 1, 0}, "a./.b": {0, 0, 1}, ".a/b.": {0, 0, 1}, "../ab": {1, 0, 0}, "a./b.": {0, 1, 0},
		"abcd": {2, 0, 2}, "abc/def/ghi": {3, 3, 4}, "abc/d.f/ghi": {3, 3, 4}, "aba/aba/aba": {}, "ab./.../.cd": {0, 1, 2},
	} {
		for _, kind := range allKinds {
			clashes, code := impl.ClashesUnder(lined(line), kind)
			wantEqual(t, fmt.Sprint(line, kind), []int64{clashes, code}, []int64{want[kind], impl.OK})
		}
	}
	halves := drawn("aaaaaabbbbbb", "aaaaaabbbbbb", "aaaaaabbbbbb", "aaaaaabbbbbb", "aaaaaabbbbbb", "aaaaaabbbbbb", "aaaaaabbbbbb", "aaaaaabbbbbb", "aaaaaabbbbbb", "aaaaaabbbbbb", "aaaaaabbbbbb", "aaaaaabbbbbb")
	for kind, want := range []int64{72, 0, 72} {
		clashes, code := impl.ClashesUnder(halves, int64(kind))
		wantEqual(t, "halves of 12 by 12", []int64{clashes, code}, []int64{want, impl.OK})
	}
}

func TestBestKindByHand(t *testing.T) {
	for line, want := range map[string][2]int64{
		"a": {0, 0}, ".": {0, 0}, "aa/aa": {0, 0}, "../..": {0, 0}, "ab": {1, 0}, "a/b": {0, 0}, "a.a/b.c": {0, 1}, "a.b/...": {1, 0}, "a.b/a.b": {1, 0},
		"ab/ba": {2, 0}, "ab/.a": {2, 0}, "ab/ac": {1, 1}, "ab/cd": {0, 2}, "abc/def/ghi": {0, 3}, "aba/bcb/dad": {0, 0}, "abc/bbb/cba": {2, 0}, "ab/cc": {0, 1}, "abb/acb": {1, 1}, "aab/cda/baa": {2, 1},
	} {
		kind, clashes, code := impl.BestKind(lined(line))
		wantEqual(t, line, []int64{kind, clashes, code}, []int64{want[0], want[1], impl.OK})
	}
}

func TestClashesAndBestKind(t *testing.T) {
	ties := 0
	for _, p := range append(wornSamples(), smallPictures()...) {
		var counts []int64
		for _, kind := range allKinds {
			clashes, code := impl.ClashesUnder(p, kind)
			wantEqual(t, fmt.Sprint(writtenLine(p), kind), []int64{clashes, code}, []int64{kindClashesModel(p, kind), impl.OK})
			counts = append(counts, kindClashesModel(p, kind))
		}
		want := []int64{0, counts[0], impl.OK}
		for kind, clashes := range counts {
			if clashes < want[1] {
				want = []int64{int64(kind), clashes, impl.OK}
			}
		}
		if counts[0] == counts[1] || counts[1] == counts[2] {
			ties++
		}
		kind, clashes, code := impl.BestKind(p)
		wantEqual(t, writtenLine(p), []int64{kind, clashes, code}, want)
	}
	if ties < 300 {
		t.Errorf("only %d pictures with as many clashes", ties)
	}
}

func TestPromise13FillByKindByHand(t *testing.T) {
	for _, c := range []struct {
		line   string
		kind   int64
		want   string
		filled int64
	}{
		{"..a/b.c", 0, "a.a/b.c", 1}, {"..a/b.c", 1, "b.a/b.c", 1}, {"..a/b.c", 2, "c.a/b.c", 1},
		// A cell that is its own partner, and partners that are both lost, stay lost.
		{".", 0, ".", 0}, {".", 1, ".", 0}, {".", 2, ".", 0}, {"a", 0, "a", 0}, {"a.b", 0, "a.b", 0}, {".a.", 0, ".a.", 0}, {"...", 0, "...", 0}, {"..b", 0, "b.b", 1}, {"a..", 2, "a.a", 1}, {"./a/.", 1, "./a/.", 0}, {"../..", 2, "../..", 0}, {".a/a.", 2, ".a/a.", 0}, {".a/a.", 0, "aa/aa", 2},
		// Partners with two different stones keep both.
		{"a.b/c..", 0, "a.b/c.c", 1}, {"a.b/c..", 1, "a.b/c.b", 1}, {"a.b/c..", 2, "a.b/c.a", 1}, {"ab", 0, "ab", 0}, {"ab/..", 1, "ab/ab", 2}, {"ab/..", 2, "ab/ba", 2}, {"ab/..", 0, "ab/..", 0}, {"ab/cd", 2, "ab/cd", 0},
		{"o....", 0, "o...o", 1}, {"abc/.../...", 1, "abc/.../abc", 3}, {"abc/.../...", 2, "abc/.../cba", 3}, {"a../b../c..", 0, "a.a/b.b/c.c", 3}, {"abcdef......", 0, "abcdeffedcba", 6},
	} {
		p, filled, code := impl.FillByKind(lined(c.line), c.kind)
		wantLine(t, fmt.Sprint(c), p, filled, code, c.want, c.filled)
	}
	full := plain(12, 12, ".")
	full.Cells[0], full.Cells[143], full.Cells[66] = 1, 2, 3
	for kind, more := range []map[int64]uint8{{11: 1, 132: 2, 65: 3}, {132: 1, 11: 2, 78: 3}, {77: 3}} {
		want := full
		for cell, colour := range more {
			want.Cells[cell] = colour
		}
		p, filled, code := impl.FillByKind(full, int64(kind))
		wantLine(t, fmt.Sprint("12 by 12, kind ", kind), p, filled, code, writtenLine(want), int64(len(more)))
	}
}

func TestPromise13FillByKind(t *testing.T) {
	for _, p := range append(wornSamples(), smallPictures()...) {
		for _, kind := range allKinds {
			q, filled, code := impl.FillByKind(p, kind)
			wantFilled(t, fmt.Sprint("kind ", kind), p, q, filled, code)
			if want := byKindModel(p, kind); q != want {
				t.Errorf("%s, kind %d: got %s, want %s", writtenLine(p), kind, writtenLine(q), writtenLine(want))
			}
		}
	}
}

// TestFilledIsSymmetric loses cells of symmetric pictures, but never both of two partners, and finds the whole pictures again; and where both are lost, it finds pictures that are symmetric without them.
func TestFilledIsSymmetric(t *testing.T) {
	images := []func(impl.Picture) (impl.Picture, int64){impl.MirrorPicture, impl.FlipPicture, func(p impl.Picture) (impl.Picture, int64) { return repeated(p, 2, impl.TurnPicture) }}
	for i, size := range repairSizes {
		for _, kind := range allKinds {
			for seed := range 20 {
				whole := tiled(size[0], size[1], size[0], size[1], 15)
				for cell, partner := range partnersModel(whole, kind) {
					whole.Cells[max(cell, partner)] = whole.Cells[min(cell, partner)]
				}
				halves := worn(whole, 4, seed+i*100)
				for cell, partner := range partnersModel(whole, kind) {
					if halves.Cells[cell] == 0 && halves.Cells[partner] == 0 {
						halves.Cells[min(cell, partner)] = whole.Cells[cell]
					}
				}
				name := fmt.Sprint(writtenLine(halves), " kind ", kind)
				q, filled, code := impl.FillByKind(halves, kind)
				wantEqual(t, name, []any{q, filled, code}, []any{whole, stonesIn(whole) - stonesIn(halves), int64(impl.OK)})

				q, _, _ = impl.FillByKind(worn(whole, 6, seed+i*100), kind)
				image, code := images[kind](q)
				wantEqual(t, name, []any{image, code}, []any{q, int64(impl.OK)})
				clashes, _ := impl.ClashesUnder(q, kind)
				wantEqual(t, name, clashes, int64(0))
			}
		}
	}
}

// wantFilled checks what holds for each picture that is filled: its stones are kept, all lost cells that have become stones are counted, and it is valid.
func wantFilled(t *testing.T, name string, p, q impl.Picture, filled, code int64) {
	t.Helper()
	wantKept(t, name, p, q, code)
	if filled != stonesIn(q)-stonesIn(p) {
		t.Errorf("%s: %s is filled to %s by %d", name, writtenLine(p), writtenLine(q), filled)
	}
}

func wantKept(t *testing.T, name string, p, q impl.Picture, code int64) {
	t.Helper()
	kept := q
	for cell, colour := range p.Cells {
		if colour != 0 {
			kept.Cells[cell] = colour
		}
	}
	if code != impl.OK || kept != q || q.Wide != p.Wide || q.High != p.High || !impl.ValidPicture(q) {
		t.Errorf("%s: %s is filled to %v with the code %d", name, writtenLine(p), q, code)
	}
}
