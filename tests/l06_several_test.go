package tests

import (
	"fmt"
	"slices"
	"strings"
	"testing"

	"loop.example/g01322/impl"
)

func TestAgreementByHand(t *testing.T) {
	for _, c := range []struct {
		a, b        string
		same, other int64
	}{
		{"a.a/b.c", "aaa/bbc", 4, 0}, {"ab./c..", "aa./.b.", 1, 1}, {".", ".", 0, 0}, {".", "a", 0, 0}, {"a", ".", 0, 0}, {"a", "a", 1, 0}, {"a", "b", 0, 1}, {"../..", "../..", 0, 0}, {"ab/cd", "ab/cd", 4, 0}, {"ab/cd", "ba/dc", 0, 4}, {"ab/cd", "ad/cb", 2, 2}, {"o.n", "ono", 1, 1}, {"a../...", ".../..b", 0, 0},
	} {
		same, other, code := impl.Agreement(lined(c.a), lined(c.b))
		wantEqual(t, fmt.Sprint(c), []int64{same, other, code}, []int64{c.same, c.other, impl.OK})
	}
	full := plain(12, 12, "a")
	same, other, code := impl.Agreement(full, full)
	wantEqual(t, "12 by 12", []int64{same, other, code}, []int64{144, 0, impl.OK})
	same, other, code = impl.Agreement(full, plain(12, 12, "b"))
	wantEqual(t, "12 by 12", []int64{same, other, code}, []int64{0, 144, impl.OK})
}

// bySize returns the samples of each size.
func bySize(list []impl.Picture) map[[2]int8][]impl.Picture {
	sizes := map[[2]int8][]impl.Picture{}
	for _, p := range list {
		size := [2]int8{p.Wide, p.High}
		sizes[size] = append(sizes[size], p)
	}
	return sizes
}

func TestAgreement(t *testing.T) {
	for _, list := range bySize(append(wornSamples(), smallPictures()[:129]...)) {
		for _, a := range list {
			for _, b := range list {
				same, other, code := impl.Agreement(a, b)
				one, two := agreementModel(a, b)
				if same != one || other != two || code != impl.OK {
					t.Errorf("%s and %s: got %d and %d with the code %d", writtenLine(a), writtenLine(b), same, other, code)
				}
			}
		}
		for i, a := range list {
			same, other, _ := impl.Agreement(a, worn(a, i%9, i))
			wantEqual(t, "a picture that has lost cells", []int64{same, other}, []int64{stonesIn(worn(a, i%9, i)), 0})
		}
	}
}

func TestVoteOfByHand(t *testing.T) {
	for _, c := range []struct{ lines, want string }{
		{"a b b", "b"}, {"b b a", "b"}, {"b a b", "b"}, {"a", "a"}, {".", "."}, {"a.o/.b.", "a.o/.b."},
		// Votes that are even.
		{"b a", "a"}, {"a b", "a"}, {"b a b a c", "a"}, {"c b c b a", "b"}, {"o n", "n"}, {"o n m l k j i h g f e d", "d"}, {"c c b b a", "b"}, {"a a a a a a b b b b b b", "a"}, {"b b b b b b b a a a a a", "b"}, {"b b b b b b a a a a a a", "a"},
		// Lost cells have no vote.
		{"c .", "c"}, {". c", "c"}, {". . .", "."}, {". . b", "b"}, {". . . . . . . . . . . o", "o"}, {". . b . a .", "a"},
		// Each cell by itself, also where pictures are equal.
		{"ab ac bc", "ac"}, {"ab ab bc bc bc", "bc"}, {"ab/c. ac/.. .b/d.", "ab/c."}, {"a.b/.c. bb./..c bab/.cc", "bab/.cc"}, {"ab ab bb ac", "ab"}, {"ab cb ca ab ca cc", "cb"},
	} {
		p, code := impl.VoteOf(linedAll(c.lines))
		wantLine(t, c.lines, p, 0, code, c.want, 0)
	}
}

func TestVoteOfOthers(t *testing.T) {
	a, wide, high := lined("a"), lined("aa"), lined("a/a")
	bad := invalids["last number"]
	for _, c := range []struct {
		name string
		list []impl.Picture
		code int64
	}{
		{"nil", nil, impl.ErrRange}, {"no picture", []impl.Picture{}, impl.ErrRange}, {"12", slices.Repeat([]impl.Picture{a}, 12), impl.OK}, {"13", slices.Repeat([]impl.Picture{a}, 13), impl.ErrRange}, {"a million", slices.Repeat([]impl.Picture{a}, 1000000), impl.ErrRange},
		{"two sizes", []impl.Picture{a, wide}, impl.ErrState}, {"two sizes, high", []impl.Picture{a, a, high}, impl.ErrState}, {"turned", []impl.Picture{wide, high}, impl.ErrState}, {"13, two sizes", append(slices.Repeat([]impl.Picture{a}, 12), wide), impl.ErrState},
		{"not valid", []impl.Picture{bad}, impl.ErrInvalid}, {"not valid, last", []impl.Picture{a, wide, bad}, impl.ErrInvalid}, {"not valid, first", []impl.Picture{bad, a}, impl.ErrInvalid}, {"13, two sizes, not valid", append(slices.Repeat([]impl.Picture{a}, 12), wide, bad), impl.ErrInvalid}, {"12 and one that is not valid", append(slices.Repeat([]impl.Picture{a}, 12), bad), impl.ErrInvalid}, {"nothing", make([]impl.Picture, 13), impl.ErrInvalid},
	} {
		want := impl.Picture{}
		if c.code == impl.OK {
			want = a
		}
		p, code := impl.VoteOf(c.list)
		wantEqual(t, c.name, []any{p, code}, []any{want, c.code})
		index, apart, code := impl.NearestOf(c.list, a)
		wantEqual(t, c.name, []int64{index, apart, code}, []int64{0, 0, c.code})
		if len(c.list) < 20 {
			// The picture that is not in the list has to be valid, and of the size, like the others.
			_, _, code = impl.NearestOf(c.list, bad)
			wantEqual(t, c.name, code, int64(impl.ErrInvalid))
			_, _, code = impl.NearestOf(c.list, wide)
			other := int64(impl.ErrState)
			if len(c.list) == 0 || c.code == impl.ErrInvalid {
				other = c.code
			}
			wantEqual(t, c.name, code, other)
		}
	}
}

// votesFrom returns lists of pictures of one size, of all lengths from 1 to 12, some of which come several times.
func votesFrom(samples []impl.Picture) [][]impl.Picture {
	var lists [][]impl.Picture
	for _, list := range bySize(samples) {
		for count := range 12 {
			for seed := range 4 {
				var votes []impl.Picture
				for i := range count + 1 {
					votes = append(votes, list[(seed*31+i*i*7+i*seed)%len(list)%(seed*5+2)%len(list)])
				}
				lists = append(lists, votes)
			}
		}
	}
	return lists
}

func TestVoteOf(t *testing.T) {
	for _, list := range votesFrom(append(wornSamples(), smallPictures()...)) {
		p, code := impl.VoteOf(list)
		want := voteModel(list)
		if code != impl.OK || p != want {
			t.Errorf("%d votes of %s: got %s with the code %d, want %s", len(list), writtenLine(list[0]), writtenLine(p), code, writtenLine(want))
		}
		turned := slices.Clone(list)
		slices.Reverse(turned)
		again, _ := impl.VoteOf(turned)
		wantEqual(t, "votes in another order", again, p)
		alone, code := impl.VoteOf(list[:1])
		wantEqual(t, "one vote", []any{alone, code}, []any{list[0], int64(impl.OK)})
	}
}

func TestNearestOfByHand(t *testing.T) {
	for _, c := range []struct {
		lines, p     string
		index, apart int64
	}{
		{"b a", "a", 1, 0}, {"a b", "a", 0, 0}, {"b c", "a", 0, 1}, {"b", "a", 0, 1}, {".", "a", 0, 0}, {"a", ".", 0, 0}, {"b a .", "a", 1, 0}, {"b . a", "a", 1, 0}, {". .", ".", 0, 0},
		{"bb ab ab", "ab", 1, 0}, {"ac bb", "ab", 0, 1}, {"ba ac bb", "ab", 1, 1}, {"ba ba", "ab", 0, 2}, {"ba .a b.", "ab", 1, 1}, {"ba/cc a./.c ab/c.", "ab/cd", 2, 0}, {"ba/cc a./.c ab/cc", "ab/cd", 1, 1}, {"ba/cc a./.. ab/c.", "ab/cd", 1, 0},
		{"b b b b b b b b b b b a", "a", 11, 0}, {"b b b b b b b b b b b b", "a", 0, 1}, {"bb bb ab ab aa ab", "ab", 2, 0}, {"ccc cca cba cba aba", "cbb", 2, 1},
	} {
		index, apart, code := impl.NearestOf(linedAll(c.lines), lined(c.p))
		wantEqual(t, fmt.Sprint(c), []int64{index, apart, code}, []int64{c.index, c.apart, impl.OK})
	}
}

func TestNearestOf(t *testing.T) {
	ties := 0
	for i, list := range votesFrom(append(wornSamples(), smallPictures()...)) {
		p := worn(list[(i*7)%len(list)], i%3, i)
		if i%2 == 0 {
			p = worn(patterned(int(p.Wide), int(p.High), 4), i%4, i)
		}
		index, apart, code := impl.NearestOf(list, p)
		var want []int64
		for k, q := range list {
			switch _, other := agreementModel(p, q); {
			case want == nil || other < want[1]:
				want = []int64{int64(k), other, impl.OK}
			case other == want[1]:
				ties++
			}
		}
		wantEqual(t, fmt.Sprint(len(list), " near ", writtenLine(p)), []int64{index, apart, code}, want)
	}
	if ties < 100 {
		t.Errorf("only %d that are as near", ties)
	}
}

func TestPromise15FillFromByHand(t *testing.T) {
	for _, c := range []struct {
		p, plan string
		want    string
		filled  int64
		need    string // all stones that are needed, in the order of their colours
		wrong   []int64
	}{
		{"a.a/b.c", "bbb/bbb", "aba/bbc", 2, "bb", []int64{0, 2, 14}}, {"a.a/b.c", "aaa/bbc", "aaa/bbc", 2, "ab", nil}, {"a.a/b.c", "bbb/.d.", "aba/bdc", 2, "bd", []int64{0, 2, 12, 14}},
		// Plans with lost cells: what is lost in both stays lost, and needs no stone.
		{"a.a/b.c", ".../...", "a.a/b.c", 0, "", []int64{0, 2, 12, 14}}, {".", ".", ".", 0, "", nil}, {".", "o", "o", 1, "o", nil}, {"o", ".", "o", 0, "", []int64{0}}, {"a", "a", "a", 0, "", nil}, {"a", "b", "a", 0, "", []int64{0}}, {"a.", "..", "a.", 0, "", []int64{0}}, {"..", ".b", ".b", 1, "b", nil}, {"..../....", "o.ao/....", "o.ao/....", 3, "aoo", nil}, {"../..", "../..", "../..", 0, "", nil},
		{"ab.", "ac.", "ab.", 0, "", []int64{1}}, {"ab.", "a.c", "abc", 1, "c", []int64{1}}, {"ab/cd", "dc/ba", "ab/cd", 0, "", []int64{0, 1, 12, 13}}, {"abcdefghijkl", "............", "abcdefghijkl", 0, "", []int64{0, 1, 2, 3, 4, 5, 6, 7, 8, 9, 10, 11}}, {"............", "lkjihgfedcba", "lkjihgfedcba", 12, "abcdefghijkl", nil},
	} {
		name := c.p + " from " + c.plan
		q, filled, code := impl.FillFrom(lined(c.p), lined(c.plan))
		wantLine(t, name, q, filled, code, c.want, c.filled)
		need, code := impl.StonesNeeded(lined(c.p), lined(c.plan))
		var want [16]int64
		for i := range c.need {
			want[strings.IndexByte(letters, c.need[i])]++
		}
		wantEqual(t, name, []any{need, code}, []any{want, int64(impl.OK)})
		wrong, code := impl.WrongStones(lined(c.p), lined(c.plan))
		if code != impl.OK || !slices.Equal(wrong, c.wrong) {
			t.Errorf("%s: got the wrong stones %v with the code %d, want %v", name, wrong, code, c.wrong)
		}
	}
	full, bare := plain(12, 12, "g"), plain(12, 12, ".")
	q, filled, code := impl.FillFrom(bare, full)
	wantLine(t, "12 by 12", q, filled, code, writtenLine(full), 144)
	need, _ := impl.StonesNeeded(bare, full)
	wantEqual(t, "12 by 12", need, [16]int64{7: 144})
	wrong, _ := impl.WrongStones(full, bare)
	wantEqual(t, "12 by 12", wrong, cellsOf(full))
}

// TestPromise15FillFrom fills pictures from plans with and without lost cells: the cells that are lost in both are lost, and no others.
func TestPromise15FillFrom(t *testing.T) {
	full, part := 0, 0
	for _, list := range bySize(append(wornSamples(), smallPictures()[:129]...)) {
		for _, p := range list {
			for i, plan := range list {
				for _, plan := range []impl.Picture{plan, tiled(int(p.Wide), int(p.High), 12, 12, 1+i%15)} {
					if stonesIn(plan) == int64(p.Wide)*int64(p.High) {
						full++
					} else {
						part++
					}
					wantFilledFrom(t, p, plan)
				}
			}
		}
	}
	if full < 1000 || part < 1000 {
		t.Errorf("only %d plans without lost cells, and %d with some", full, part)
	}
}

func wantFilledFrom(t *testing.T, p, plan impl.Picture) {
	t.Helper()
	name := writtenLine(p) + " from " + writtenLine(plan)
	q, filled, code := impl.FillFrom(p, plan)
	wantFilled(t, name, p, q, filled, code)
	var needed [16]int64
	var wrong []int64
	for _, cell := range cellsOf(p) {
		is, was, should := q.Cells[cell], p.Cells[cell], plan.Cells[cell]
		if is == 0 && should != 0 || was == 0 && is != should {
			t.Errorf("%s: %d is %d", name, cell, is)
		}
		switch {
		case was == 0 && should != 0:
			needed[should]++
		case was != 0 && was != should:
			wrong = append(wrong, cell)
		}
	}
	need, code := impl.StonesNeeded(p, plan)
	if code != impl.OK || need != needed {
		t.Errorf("%s: %v are needed with the code %d, want %v", name, need, code, needed)
	}
	list, code := impl.WrongStones(p, plan)
	if code != impl.OK || !slices.Equal(list, wrong) {
		t.Errorf("%s: %v are wrong with the code %d, want %v", name, list, code, wrong)
	}
	again, _ := impl.WrongStones(q, plan)
	if !slices.Equal(again, wrong) {
		t.Errorf("%s: %v are wrong when it is filled, want %v", name, again, wrong)
	}
}

func TestBestShiftOfByHand(t *testing.T) {
	for _, c := range []struct {
		p, plan string
		want    [3]int64
	}{
		{"a", "a.a/b.c", [3]int64{0, 0, 1}}, {"a", "a", [3]int64{0, 0, 1}}, {"a", "...a", [3]int64{3, 0, 1}}, {"a", "./././a", [3]int64{0, 3, 1}}, {"...a", "a", [3]int64{-3, 0, 1}}, {"./././a", "a", [3]int64{0, -3, 1}}, {"..../..../..../...a", "a", [3]int64{-3, -3, 1}}, {"a", "..../..../..../...a", [3]int64{3, 3, 1}}, {"ab/cd", "..../.ab./.cd./....", [3]int64{1, 1, 4}}, {"..../.ab./.cd./....", "ab/cd", [3]int64{-1, -1, 4}}, {"..a/...", ".../a..", [3]int64{-2, 1, 1}}, {".../a..", "..a/...", [3]int64{2, -1, 1}},
		// Nothing lies as it should: all moves are as good.
		{"a", "....a", [3]int64{-3, -3, 0}}, {"....a", "a", [3]int64{-3, -3, 0}}, {"a", "b", [3]int64{-3, -3, 0}}, {".", ".", [3]int64{-3, -3, 0}}, {"a", ".", [3]int64{-3, -3, 0}}, {".", "a", [3]int64{-3, -3, 0}}, {"a.", "../..", [3]int64{-3, -3, 0}}, {"../..", "...", [3]int64{-3, -3, 0}},
		// Moves that are as good: the least to the east, and then the least to the south, which may be less than 0.
		{"a", ".a/a.", [3]int64{0, 1, 1}}, {"a", "..a/.a./a..", [3]int64{0, 2, 1}}, {"a", "aa/aa", [3]int64{0, 0, 1}}, {"./a", "a/a", [3]int64{0, -1, 1}}, {".a", "aa", [3]int64{-1, 0, 1}}, {"./a", "aa/aa", [3]int64{0, -1, 1}}, {".../.a./...", "aaa/aaa/aaa", [3]int64{-1, -1, 1}}, {".../.a./...", ".aa/.aa/aaa", [3]int64{-1, 1, 1}}, {"ab", "abab", [3]int64{0, 0, 2}}, {"ab", ".bab", [3]int64{2, 0, 2}}, {"aab", "ab", [3]int64{-1, 0, 2}}, {"aaa", "a", [3]int64{-2, 0, 1}}, {"a.a", "a.a.a", [3]int64{0, 0, 2}}, {"..a.a", "a.a.a", [3]int64{-2, 0, 2}},
		// Lost cells on lost cells count for nothing, and so do stones that lie beyond the plan.
		{"a...", "...a/a..a", [3]int64{0, 1, 1}}, {"b..a", "...a/b...", [3]int64{0, 0, 1}}, {"....a....", ".....a...", [3]int64{1, 0, 1}}, {"aaaa", "aaa", [3]int64{-1, 0, 3}}, {"abab", "ab", [3]int64{-2, 0, 2}}, {"a/b/a/b", "b/a", [3]int64{0, -1, 2}}, {"abcdefgh", "defgh", [3]int64{-3, 0, 5}}, {"abcdefgh", "efgh", [3]int64{-3, -3, 0}},
	} {
		east, south, count, code := impl.BestShiftOf(lined(c.p), lined(c.plan))
		wantEqual(t, fmt.Sprint(c), []any{[3]int64{east, south, count}, code}, []any{c.want, int64(impl.OK)})
	}
	full := plain(12, 12, "a")
	for _, c := range []struct {
		p, plan impl.Picture
		want    []int64
	}{{full, full, []int64{0, 0, 144, 0}}, {full, plain(1, 1, "a"), []int64{-3, -3, 1, 0}}, {plain(1, 1, "a"), full, []int64{0, 0, 1, 0}}, {full, plain(9, 9, "a"), []int64{-3, -3, 81, 0}}, {full, plain(12, 9, "a"), []int64{0, -3, 108, 0}}, {full, plain(12, 12, "b"), []int64{-3, -3, 0, 0}}, {plain(12, 1, "a"), plain(1, 12, "a"), []int64{-3, 0, 1, 0}}} {
		east, south, count, code := impl.BestShiftOf(c.p, c.plan)
		wantEqual(t, fmt.Sprint(c), []int64{east, south, count, code}, c.want)
	}
}

func TestBestShiftOf(t *testing.T) {
	moved := 0
	list := wornSamples()
	for i, p := range list {
		plans := []impl.Picture{p, worn(p, 2, i), list[(i*7+1)%len(list)], list[(i*13+5)%len(list)], worn(plain(12, 12, "a"), 3, i)}
		if shifted, code := impl.PastePicture(plain(12, 12, "."), p, int64(i%7-3), int64(i/7%7-3)); code == impl.OK {
			plans = append(plans, shifted, worn(shifted, 3, i))
		}
		for _, plan := range plans {
			east, south, count, code := impl.BestShiftOf(p, plan)
			want := shiftModel(p, plan)
			if code != impl.OK || [3]int64{east, south, count} != want {
				t.Errorf("%s on %s: got %d, %d, %d with the code %d, want %v", writtenLine(p), writtenLine(plan), east, south, count, code, want)
			}
			if count > 5 && east*south != 0 {
				moved++
			}
		}
	}
	small := smallPictures()
	for i, p := range small {
		plan := small[(i*31+7)%len(small)]
		east, south, count, _ := impl.BestShiftOf(p, plan)
		wantEqual(t, writtenLine(p)+" on "+writtenLine(plan), [3]int64{east, south, count}, shiftModel(p, plan))
	}
	if moved < 100 {
		t.Errorf("only %d that are moved", moved)
	}
}
