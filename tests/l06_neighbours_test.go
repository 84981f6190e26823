package tests

import (
	"fmt"
	"slices"
	"testing"

	"loop.example/g01322/impl"
)

func TestPromise13FillRoundByHand(t *testing.T) {
	for _, c := range []struct {
		line   string
		want   string
		filled int64
	}{
		{"a.a/b.c", "aaa/bbc", 2}, {"a", "a", 0}, {".", ".", 0}, {"..", "..", 0}, {".../...", ".../...", 0}, {"ab/ba", "ab/ba", 0}, {"a.", "aa", 1}, {"./o", "o/o", 1},
		// Two colours are beside a cell as often, or one of them more often.
		{"a.b", "aab", 1}, {"b.a", "baa", 1}, {"o.n", "onn", 1}, {".c./b.b/.c.", "bcb/bbb/bcb", 5}, {".b./c.c/.b.", "bbb/cbc/bbb", 5}, {"c.c/.a.", "ccc/aaa", 3}, {".b./b.a/.b.", "bba/bba/bba", 5}, {"dad/b.c/dcd", "dad/bcc/dcd", 1}, {"dcd/b.a/dbd", "dcd/bba/dbd", 1}, {"dod/a.n/dmd", "dod/aan/dmd", 1},
		// What is filled in this round has no part in it, and corners are no neighbours.
		{"a...", "aa..", 1}, {"a..b", "aabb", 2}, {"b..a", "bbaa", 2}, {"a.....b", "aa...bb", 2}, {"a./..", "aa/a.", 2}, {"a../.../...", "aa./a../...", 2}, {".../.a./...", ".a./aaa/.a.", 4}, {"a../.../..b", "aa./a.b/.bb", 4}, {"a.b/.../...", "aab/a.b/...", 3},
		// The end of a row and the beginning of the next one are no neighbours, though their numbers follow each other.
		{"...........a/............", "..........aa/...........a", 2}, {"............/a...........", "a.........../aa..........", 2},
	} {
		p, filled, code := impl.FillRound(lined(c.line))
		wantLine(t, c.line, p, filled, code, c.want, c.filled)
	}
	for number := range 144 {
		p := plain(12, 12, "e")
		p.Cells[number] = 0
		q, filled, code := impl.FillRound(p)
		wantEqual(t, fmt.Sprint("12 by 12 without ", number), []any{q, filled, code}, []any{plain(12, 12, "e"), int64(1), int64(impl.OK)})
	}
}

func TestPromise13FillRound(t *testing.T) {
	for _, p := range append(wornSamples(), smallPictures()...) {
		q, filled, code := impl.FillRound(p)
		wantFilled(t, "a round", p, q, filled, code)
		if want := roundModel(p); q != want {
			t.Errorf("%s: got %s, want %s", writtenLine(p), writtenLine(q), writtenLine(want))
		}
	}
}

func TestPromise13FillByNeighboursByHand(t *testing.T) {
	for _, c := range []struct {
		line   string
		rounds int64
		want   string
		made   int64
	}{
		{"a.a/b.c", 9, "aaa/bbc", 1}, {"a.a/b.c", 0, "a.a/b.c", 0}, {"a.a/b.c", 1, "aaa/bbc", 1}, {"a.a/b.c", 30, "aaa/bbc", 1},
		{"a...", 0, "a...", 0}, {"a...", 1, "aa..", 1}, {"a...", 2, "aaa.", 2}, {"a...", 3, "aaaa", 3}, {"a...", 4, "aaaa", 3}, {"a...", 30, "aaaa", 3},
		// A cell that was filled in the round before counts like any other.
		{"a.....b", 1, "aa...bb", 1}, {"a.....b", 2, "aaa.bbb", 2}, {"a.....b", 30, "aaaabbb", 3}, {"b...", 30, "bbbb", 3}, {"a../..b/...", 30, "aab/abb/abb", 2}, {"b../..a/...", 30, "bba/baa/baa", 2},
		// A round that fills nothing does not count.
		{".", 0, ".", 0}, {".", 30, ".", 0}, {".../...", 30, ".../...", 0}, {"a", 30, "a", 0}, {"ab/ba", 1, "ab/ba", 0}, {"ab/ba", 30, "ab/ba", 0},
	} {
		p, made, code := impl.FillByNeighbours(lined(c.line), c.rounds)
		wantLine(t, fmt.Sprint(c), p, made, code, c.want, c.made)
	}
}

// TestPromise13FillFromACorner fills the greatest picture from one stone: it is farther from no other one by more than 22 rounds.
func TestPromise13FillFromACorner(t *testing.T) {
	for _, corner := range []int64{0, 11, 132, 143} {
		p := plain(12, 12, ".")
		p.Cells[corner] = 7
		for rounds := range int64(31) {
			want, made := p, min(rounds, 22)
			for _, cell := range cellsOf(p) {
				if far := max(cell%12-corner%12, corner%12-cell%12) + max(cell/12-corner/12, corner/12-cell/12); far <= rounds {
					want.Cells[cell] = 7
				}
			}
			q, count, code := impl.FillByNeighbours(p, rounds)
			wantLine(t, fmt.Sprint("from ", corner, " by ", rounds), q, count, code, writtenLine(want), made)
		}
	}
}

func TestPromise13FillByNeighbours(t *testing.T) {
	several := 0
	for i, p := range append(wornSamples(), smallPictures()...) {
		all := []impl.Picture{p}
		for len(all) < 31 {
			all = append(all, roundModel(all[len(all)-1]))
		}
		last := slices.Index(all, all[30])
		for _, rounds := range []int64{0, 1, 2, 3, 4, int64(i) % 31, 30} {
			q, made, code := impl.FillByNeighbours(p, rounds)
			wantKept(t, fmt.Sprint(rounds, " rounds"), p, q, code)
			if q != all[rounds] || made != min(rounds, int64(last)) {
				t.Errorf("%s, %d rounds: got %s by %d, want %s by %d", writtenLine(p), rounds, writtenLine(q), made, writtenLine(all[rounds]), min(rounds, int64(last)))
			}
		}
		if last > 2 {
			several++
		}
		// All is filled if there is a stone, as no picture is in two parts.
		q, _, _ := impl.FillByNeighbours(p, 30)
		if stonesIn(p) > 0 && stonesIn(q) != int64(p.Wide)*int64(p.High) {
			t.Errorf("%s is filled to %s", writtenLine(p), writtenLine(q))
		}
	}
	if several < 50 {
		t.Errorf("only %d pictures with more than 2 rounds", several)
	}
}
