package tests

import (
	"fmt"
	"reflect"
	"slices"
	"testing"

	"loop.example/g01322/impl"
)

func noKind(kind int64) bool { return kind < 0 || kind > 2 }

// noCell tells whether a number is no cell of a picture; numbers less than 0 have no place.
func noCell(p impl.Picture, number int64) bool {
	return number < 0 || !has(p, number%12, number/12)
}

// lostAndBad are pictures with lost cells and without, of the least and the greatest sizes, and some that are not valid.
func lostAndBad() []impl.Picture {
	return append(goodAndBad(), lined("a.a/b.c"), lined("ab.b"), lined("a/./a/b"), plain(12, 12, "."), worn(plain(12, 12, "c"), 4, 1), tiled(12, 12, 3, 2, 4))
}

func TestPromise1CallsWithAPicture(t *testing.T) {
	list := append(wornSamples(), lostAndBad()...)
	for _, p := range invalidPictures() {
		list = append(list, p)
	}
	for _, p := range list {
		want := firstOf(invalid(!isValid(p)))
		for _, c := range []call{
			{"LostCells", results(p), want, func() []any { a, b := impl.LostCells(p); return results(a, b) }},
			{"BestKind", results(p), want, func() []any { a, b, c := impl.BestKind(p); return results(a, b, c) }},
			{"FillRound", results(p), want, func() []any { a, b, c := impl.FillRound(p); return results(a, b, c) }},
			{"PeriodsOf", results(p), want, func() []any { a, b, c := impl.PeriodsOf(p); return results(a, b, c) }},
			{"VoteOf", results(p), want, func() []any { a, b := impl.VoteOf([]impl.Picture{p}); return results(a, b) }},
			{"Agreement", results(p), want, func() []any { a, b, c := impl.Agreement(p, p); return results(a, b, c) }},
		} {
			checkCall(t, c)
		}
	}
}

func TestPromise1CallsWithAKind(t *testing.T) {
	for _, p := range lostAndBad() {
		for _, kind := range numbers {
			want := firstOf(invalid(!isValid(p)), outside(noKind(kind)))
			checkCall(t, call{"ClashesUnder", results(p, kind), want, func() []any { a, b := impl.ClashesUnder(p, kind); return results(a, b) }})
			checkCall(t, call{"FillByKind", results(p, kind), want, func() []any { a, b, c := impl.FillByKind(p, kind); return results(a, b, c) }})
			for _, cell := range numbers {
				want := firstOf(invalid(!isValid(p)), outside(noKind(kind) || noCell(p, cell)))
				checkCall(t, call{"PartnerOf", results(p, kind, cell), want, func() []any { a, b := impl.PartnerOf(p, kind, cell); return results(a, b) }})
			}
		}
	}
}

func TestPromise1CallsWithRounds(t *testing.T) {
	for _, p := range lostAndBad() {
		for _, rounds := range append([]int64{22, 29, 30, 31, 60, 1<<32 + 30}, numbers...) {
			want := firstOf(invalid(!isValid(p)), outside(rounds < 0 || rounds > 30))
			checkCall(t, call{"FillByNeighbours", results(p, rounds), want, func() []any { a, b, c := impl.FillByNeighbours(p, rounds); return results(a, b, c) }})
		}
	}
}

func TestPromise1CallsWithCells(t *testing.T) {
	lists := [][]int64{nil, {}, {0}, {0, 0, 0}, {0, 1}, {12}, {0, 144}, {-1, 0}, {143}, {143, 1 << 32}}
	for _, number := range numbers {
		lists = append(lists, []int64{number})
	}
	for _, p := range lostAndBad() {
		for _, list := range lists {
			outer := slices.ContainsFunc(list, func(number int64) bool { return noCell(p, number) })
			want := firstOf(invalid(!isValid(p)), outside(outer))
			checkCall(t, call{"LoseCells", results(p, list), want, func() []any { a, b := impl.LoseCells(p, list); return results(a, b) }})
		}
	}
}

func TestPromise1CallsWithPeriods(t *testing.T) {
	for _, p := range lostAndBad() {
		wide, high := int64(p.Wide), int64(p.High)
		for _, east := range numbers {
			for _, south := range numbers {
				name := results(p, east, south)
				beyond := east < 0 || east > wide || south < 0 || south > high
				want := firstOf(invalid(!isValid(p)), outside(beyond || east == 0 && south == 0))
				checkCall(t, call{"RepeatsBy", name, want, func() []any { a, b := impl.RepeatsBy(p, east, south); return results(a, b) }})

				wrong := firstOf(invalid(!isValid(p)), outside(beyond || east == 0 || south == 0))
				broken := fault{wrong != impl.OK, wrong}
				conflict := wrong == impl.OK && conflictModel(p, east, south) != nil
				checkCall(t, call{"FirstConflict", name, firstOf(broken, missing(!conflict)), func() []any { a, b, c := impl.FirstConflict(p, east, south); return results(a, b, c) }})
				checkCall(t, call{"FillByPeriods", name, firstOf(broken, noProof(conflict)), func() []any { a, b, c := impl.FillByPeriods(p, east, south); return results(a, b, c) }})
			}
		}
	}
}

func TestPromise1CallsWithAPlan(t *testing.T) {
	for _, p := range lostAndBad() {
		for _, plan := range lostAndBad() {
			name := results(p, plan)
			broken := invalid(!isValid(p) || !isValid(plan))
			want := firstOf(broken, badState(p.Wide != plan.Wide || p.High != plan.High))
			for _, c := range []call{
				{"Agreement", name, want, func() []any { a, b, c := impl.Agreement(p, plan); return results(a, b, c) }},
				{"FillFrom", name, want, func() []any { a, b, c := impl.FillFrom(p, plan); return results(a, b, c) }},
				{"StonesNeeded", name, want, func() []any { a, b := impl.StonesNeeded(p, plan); return results(a, b) }},
				{"WrongStones", name, want, func() []any { a, b := impl.WrongStones(p, plan); return results(a, b) }},
				{"VoteOf", name, want, func() []any { a, b := impl.VoteOf([]impl.Picture{p, plan}); return results(a, b) }},
				{"NearestOf", name, want, func() []any { a, b, c := impl.NearestOf([]impl.Picture{p}, plan); return results(a, b, c) }},
				{"BestShiftOf", name, firstOf(broken), func() []any { a, b, c, d := impl.BestShiftOf(p, plan); return results(a, b, c, d) }},
			} {
				checkCall(t, c)
			}
		}
	}
}

func TestPromise1CallsWithListsOfPictures(t *testing.T) {
	a, other, wide, high := lined("a.b"), lined("b.."), lined("a.b."), lined("a.b/...")
	lists := map[string][]impl.Picture{"nil": nil, "empty": {}}
	for _, count := range []int{1, 2, 11, 12, 13, 14, 1000} {
		lists[fmt.Sprint(count)] = slices.Repeat([]impl.Picture{a, other}, count)[:count]
	}
	for name, list := range lists {
		for _, more := range append([]impl.Picture{a, wide, high}, lostAndBad()...) {
			all := append(slices.Clone(list), more)
			differ := more.Wide != 3 || more.High != 1
			want := firstOf(invalid(!isValid(more)), badState(differ && len(list) > 0), outside(len(all) > 12))
			checkCall(t, call{"VoteOf", results(name, more), want, func() []any { a, b := impl.VoteOf(all); return results(a, b) }})
			want = firstOf(invalid(!isValid(more)), badState(differ), outside(len(all) > 12))
			checkCall(t, call{"NearestOf", results(name, more), want, func() []any { x, y, z := impl.NearestOf(all, a); return results(x, y, z) }})
			want = firstOf(invalid(!isValid(more)), badState(differ && len(list) > 0), outside(len(list) < 1 || len(list) > 12))
			checkCall(t, call{"NearestOf", results(name, more), want, func() []any { x, y, z := impl.NearestOf(list, more); return results(x, y, z) }})
		}
	}
}

// TestPromise1EvenVotes calls functions that count votes many times: equal arguments have equal results, however the votes are ordered within.
func TestPromise1EvenVotes(t *testing.T) {
	list := linedAll("abcdef. bcdefa. cdefab. defabc. efabcd. fabcde.")
	vote, _ := impl.VoteOf(list)
	round, _, _ := impl.FillRound(lined(".b.e./a.c.f/.d.a."))
	wantEqual(t, "votes that are even", []string{writtenLine(vote), writtenLine(round)}, []string{"aaaaaa.", "abbee/aacaf/adaaa"})
	for range 300 {
		again, _ := impl.VoteOf(list)
		behind, _, _ := impl.FillRound(lined(".b.e./a.c.f/.d.a."))
		wantEqual(t, "once more", []impl.Picture{again, behind}, []impl.Picture{vote, round})
	}
}

// callsWithPictures calls each function of chapter 6 that has a slice among its arguments, and returns all results.
func callsWithPictures(p impl.Picture, cells []int64, list []impl.Picture) [][]any {
	lost, code := impl.LoseCells(p, cells)
	vote, code2 := impl.VoteOf(list)
	index, apart, code3 := impl.NearestOf(list, p)
	return [][]any{{lost, code}, {vote, code2}, {index, apart, code3}}
}

// TestPromise1PicturesAreKept checks that no argument is modified, nor the room behind it, and that this room has no influence.
func TestPromise1PicturesAreKept(t *testing.T) {
	lists := append(votesFrom(wornSamples()), nil, slices.Repeat([]impl.Picture{lined("ab")}, 13), linedAll("a ab"), []impl.Picture{invalids["colour 16"]})
	for i, list := range lists {
		p := lined("ab")
		if len(list) > 0 {
			p = list[i%len(list)]
		}
		cells := [][]int64{nil, {0}, {0, 0}, {0, 1, 12}, cellsOf(p), {0, 144}}[i%6]
		want := callsWithPictures(p, slices.Clip(slices.Clone(cells)), slices.Clip(slices.Clone(list)))
		roomyCells, roomyList := roomy(cells, 1), roomy(list, lined("ba"))
		got := callsWithPictures(p, roomyCells, roomyList)
		if !reflect.DeepEqual(got, want) {
			t.Errorf("%v: got %v, with room behind the lists %v", writtenLine(p), want, got)
		}
		wantEqual(t, "cells", roomyCells[:len(cells)+20], append(slices.Clone(cells), slices.Repeat([]int64{1}, 20)...))
		wantEqual(t, "pictures", roomyList[:len(list)+20], append(slices.Clone(list), slices.Repeat([]impl.Picture{lined("ba")}, 20)...))
	}
}

// TestPromise1RepairsAreNew writes into each list of a result, up to its capacity, and looks at those of other calls.
func TestPromise1RepairsAreNew(t *testing.T) {
	p := lined("a.a/b.c")
	for name, list := range map[string]func() []int64{
		"LostCells":   func() []int64 { list, _ := impl.LostCells(p); return list },
		"WrongStones": func() []int64 { list, _ := impl.WrongStones(p, lined("b.b/a.c")); return list },
	} {
		checkNew(t, name, list, -7)
	}
	wantEqual(t, "the picture", p, lined("a.a/b.c"))
}
