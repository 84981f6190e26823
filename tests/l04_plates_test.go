package tests

import (
	"fmt"
	"slices"
	"testing"

	"loop.example/g01322/impl"
)

// wantTold checks all that is told of cuts.
func wantAllTold(t *testing.T, p aPlate, want told, good bool) {
	t.Helper()
	sizes, one := impl.SizesOf(p.wide, p.high, p.kinds, p.cuts)
	pieces, two := impl.PiecesOf(p.wide, p.high, p.kinds, p.cuts)
	value, three := impl.ValueOf(p.wide, p.high, p.kinds, p.cuts)
	waste, four := impl.WasteIn(p.wide, p.high, p.kinds, p.cuts)
	length, five := impl.CutLength(p.wide, p.high, p.kinds, p.cuts)
	code := firstOf(invalid(!good))
	if codes := []int64{one, two, three, four, five}; !slices.Equal(codes, slices.Repeat([]int64{code}, 5)) {
		t.Errorf("%v: got the codes %v, want %d", p, codes, code)
	}
	if impl.ValidCuts(p.wide, p.high, p.kinds, p.cuts) != good {
		t.Errorf("%v: they should be valid: %v", p, good)
	}
	if !slices.Equal(sizes, want.sizes) || !slices.Equal(pieces, want.pieces) || value != want.value || waste != want.waste || length != want.length {
		t.Errorf("%v: got %v, %v, %d, %d and %d, want %v", p, sizes, pieces, value, waste, length, want)
	}
}

func TestValidKinds(t *testing.T) {
	for _, kinds := range sampleKinds() {
		wantEqual(t, fmt.Sprint(kinds), impl.ValidKinds(kinds), true)
	}
	for name, kinds := range invalidKinds() {
		wantEqual(t, name, impl.ValidKinds(kinds), false)
	}
	for _, side := range numbers {
		for _, value := range []int16{-1, 0, 1, 999, 1000, 1001} {
			k := kind(int8(side), 24, value)
			wantEqual(t, fmt.Sprint(k), impl.ValidKinds([]impl.Kind{k}), goodKinds([]impl.Kind{k}))
			k = kind(1, int8(side), value)
			wantEqual(t, fmt.Sprint(k), impl.ValidKinds([]impl.Kind{k}), goodKinds([]impl.Kind{k}))
		}
	}
}

func TestCutsByHand(t *testing.T) {
	kinds := []impl.Kind{kind(2, 3, 5), kind(1, 3, 4), kind(3, 1, 0)}
	for _, c := range []struct {
		wide, high int64
		cuts       string
		want       told
	}{
		{1, 1, "waste", told{[][2]int64{{1, 1}}, []int64{0, 0, 0}, 0, 1, 0}},
		{24, 24, "waste", told{[][2]int64{{24, 24}}, []int64{0, 0, 0}, 0, 576, 0}},
		{2, 3, "piece 0", told{[][2]int64{{2, 3}}, []int64{1, 0, 0}, 5, 0, 0}},
		{3, 1, "piece 2", told{[][2]int64{{3, 1}}, []int64{0, 0, 1}, 0, 0, 0}},
		{2, 3, "waste", told{[][2]int64{{2, 3}}, []int64{0, 0, 0}, 0, 6, 0}},
		{4, 3, "across 2 1 2, piece 0, piece 0", told{[][2]int64{{4, 3}, {2, 3}, {2, 3}}, []int64{2, 0, 0}, 10, 0, 3}},
		{4, 3, "across 1 2 1, across 2 4 3, piece 1, piece 1, piece 0", told{[][2]int64{{4, 3}, {3, 3}, {1, 3}, {1, 3}, {2, 3}}, []int64{1, 2, 0}, 13, 0, 6}},
		{4, 3, "across 1 1 2, waste, down 1 3 4, piece 2, waste", told{[][2]int64{{4, 3}, {1, 3}, {3, 3}, {3, 1}, {3, 2}}, []int64{0, 0, 1}, 0, 9, 6}},
		{4, 3, "down 2 2 1, waste, across 3 4 3, waste, waste", told{[][2]int64{{4, 3}, {4, 1}, {4, 2}, {1, 2}, {3, 2}}, []int64{0, 0, 0}, 0, 12, 6}},
		{24, 24, "down 23 1 2, waste, across 3 3 4, piece 2, waste", told{[][2]int64{{24, 24}, {24, 23}, {24, 1}, {3, 1}, {21, 1}}, []int64{0, 0, 1}, 0, 573, 25}},
	} {
		wantAllTold(t, aPlate{c.wide, c.high, kinds, cuts(c.cuts)}, c.want, true)
	}
	wantAllTold(t, aPlate{3, 2, nil, cuts("waste")}, told{[][2]int64{{3, 2}}, nil, 0, 6, 0}, true)
}

// badCuts have each one thing that makes them invalid for a plate of 4 by 3 with kinds of 2 by 3 and of 1 by 3.
func badCuts() map[string][]impl.Cut {
	list := map[string][]impl.Cut{"nil": nil, "empty": {}, "a million": make([]impl.Cut, 1000000)}
	for name, text := range map[string]string{
		"two entries, none cut":       "waste, waste",
		"an entry of none":            "across 2 1 2, piece 0, piece 0, waste",
		"an entry of two":             "across 1 1 2, piece 1, across 1 3 4, piece 1, across 1 3 5, piece 1, piece 1",
		"an entry twice of one":       "across 2 1 1, piece 0",
		"an entry twice, and one not": "across 2 1 1, piece 0, piece 0",
		"the entry itself, A":         "across 2 0 1, piece 0",
		"the entry itself, B":         "across 2 1 0, piece 0",
		"itself, further on":          "across 2 1 2, piece 0, across 1 2 3, piece 1",
		"an entry ahead, A":           "across 2 2 3, piece 0, across 1 1 4, piece 0, piece 1",
		"an entry ahead, B":           "across 2 2 3, piece 0, across 1 4 1, piece 0, piece 1",
		"the whole plate":             "across 2 1 2, piece 0, across 1 0 3, piece 1",
		"no such entry, A":            "across 2 3 1, piece 0, piece 0",
		"no such entry, B":            "across 2 1 3, piece 0, piece 0",
		"less than 0, A":              "across 2 -1 1, piece 0",
		"less than 0, B":              "across 2 1 -128, piece 0",
		"127":                         "across 2 1 127, piece 0",
		"both 0":                      "across 2 0 0",
		"at 0":                        "across 0 1 2, piece 0, piece 0",
		"at -1":                       "across -1 1 2, piece 0, piece 0",
		"at -2":                       "across -2 1 2, waste, waste",
		"at the whole width":          "across 4 1 2, waste, waste",
		"beyond the width":            "across 5 1 2, waste, waste",
		"down at 0":                   "down 0 1 2, waste, waste",
		"down at the whole height":    "down 3 1 2, waste, waste",
		"down at the whole width":     "down 4 1 2, waste, waste",
		"at the whole part":           "across 2 1 2, across 2 3 4, waste, waste, waste",
		"at the whole rest":           "across 3 1 2, waste, across 1 3 4, waste, waste",
		"a piece too small":           "piece 0",
		"a piece too wide":            "across 1 1 2, piece 0, waste",
		"a piece too high":            "down 1 1 2, across 2 3 4, waste, piece 0, waste",
		"a piece too low":             "across 3 1 2, piece 0, piece 1",
		"no such kind":                "across 2 1 2, piece 2, piece 0",
		"a kind less than 0":          "across 2 1 2, piece -1, piece 0",
	} {
		list[name] = cuts(text)
	}
	good := cuts("across 2 1 2, piece 0, waste")
	for name, change := range map[string]func(c []impl.Cut){
		"waste at 1":  func(c []impl.Cut) { c[2].At = 1 },
		"waste, A":    func(c []impl.Cut) { c[2].A = 1 },
		"waste, B":    func(c []impl.Cut) { c[2].B = -1 },
		"piece at 1":  func(c []impl.Cut) { c[1].At = 1 },
		"piece, B":    func(c []impl.Cut) { c[1].B = 2 },
		"How 4":       func(c []impl.Cut) { c[2].How = 4 },
		"How -1":      func(c []impl.Cut) { c[2].How = -1 },
		"How 127":     func(c []impl.Cut) { c[1].How = 127 },
		"How 4 first": func(c []impl.Cut) { c[0].How = 4 },
		"How -126":    func(c []impl.Cut) { c[0].How = -126 },
	} {
		changed := slices.Clone(good)
		change(changed)
		list[name] = changed
	}
	return list
}

func TestCutsThatAreNone(t *testing.T) {
	kinds := []impl.Kind{kind(2, 3, 5), kind(1, 3, 4)}
	for name, list := range badCuts() {
		if len(list) < 100 {
			if _, good := cutsModel(aPlate{4, 3, kinds, list}); good {
				t.Errorf("%s: the model takes them for valid", name)
			}
		}
		wantAllTold(t, aPlate{4, 3, kinds, list[:min(len(list), 70)]}, told{}, false)
		wantEqual(t, name, impl.ValidCuts(4, 3, kinds, list), false)
	}
	good := cuts("across 2 1 2, piece 0, piece 0")
	for name, kinds := range invalidKinds() {
		kinds = append(slices.Clip(kinds), kind(2, 3, 5))
		sizes, code := impl.SizesOf(4, 3, kinds, cuts("waste"))
		if impl.ValidCuts(4, 3, kinds, cuts("waste")) || code != impl.ErrInvalid || len(sizes) != 0 {
			t.Errorf("%s: got %v with the code %d", name, sizes, code)
		}
	}
	for _, side := range numbers {
		fits := side >= 1 && side <= 24
		wantEqual(t, fmt.Sprint("wide ", side), impl.ValidCuts(side, 1, nil, cuts("waste")), fits)
		wantEqual(t, fmt.Sprint("high ", side), impl.ValidCuts(24, side, nil, cuts("waste")), fits)
		wantEqual(t, fmt.Sprint("good, wide ", side), impl.ValidCuts(side, 3, kinds, good), side == 4)
		wantEqual(t, fmt.Sprint("good, high ", side), impl.ValidCuts(4, side, kinds, good), side == 3)
	}
}

// TestNumberOfEntries has cuts with 57 to 61 entries; all cuts have an odd number of them, so those of 60 are not valid for another reason.
func TestNumberOfEntries(t *testing.T) {
	for count := 1; count <= 95; count += 2 {
		p := longCuts(count)
		want, good := cutsModel(p)
		wantEqual(t, fmt.Sprint(count, " entries"), []any{len(p.cuts), good}, []any{count, count <= 59})
		wantAllTold(t, p, want, count <= 59)
		p.cuts = append(p.cuts, impl.Cut{})
		wantAllTold(t, p, told{}, false)
	}
}

// TestPromise10AllSmallCuts holds all that is told of very many short lists, most of them invalid, against the model.
func TestPromise10AllSmallCuts(t *testing.T) {
	kinds := []impl.Kind{kind(1, 2, 3), kind(2, 1, 5), kind(1, 1, 2)}
	var first []impl.Cut
	for number := range 6 * 4 * 5 * 5 {
		first = append(first, impl.Cut{How: int8(number%6) - 1, At: int8(number / 6 % 4), A: int8(number/24%5) - 1, B: int8(number/120) - 1})
	}
	others := append(cuts("waste, piece 0, piece 1, piece 2, piece 3, across 1 2 3, across 1 3 4, across 1 3 3, down 1 3 4, down 1 4 3, across 2 3 4, across 1 1 2"), impl.Cut{At: 1}, impl.Cut{How: 4})
	good := 0
	check := func(list ...impl.Cut) {
		p := aPlate{2, 2, kinds, list}
		want, is := cutsModel(p)
		if is {
			good++
			wantSumOfAreas(t, p)
		}
		wantAllTold(t, p, want, is)
	}
	for _, a := range first {
		check(a)
		for _, b := range others {
			check(a, b)
			for _, c := range others {
				check(a, b, c)
				if a.How >= 2 && a.At == 1 && (a.A == 1 && a.B == 2 || a.A == 2 && a.B == 1) {
					for _, d := range others[:8] {
						check(a, b, c, d, impl.Cut{})
						check(a, b, c, impl.Cut{How: 1, A: 2}, d)
					}
				}
			}
		}
	}
	if good < 50 {
		t.Errorf("only %d lists are valid", good)
	}
}

// wantSumOfAreas checks that the areas of pieces and of waste sum to the plate.
func wantSumOfAreas(t *testing.T, p aPlate) {
	t.Helper()
	pieces, one := impl.PiecesOf(p.wide, p.high, p.kinds, p.cuts)
	waste, two := impl.WasteIn(p.wide, p.high, p.kinds, p.cuts)
	sum := waste
	for i, count := range pieces {
		sum += count * int64(p.kinds[i].Wide) * int64(p.kinds[i].High)
	}
	if one != impl.OK || two != impl.OK || sum != p.wide*p.high || len(pieces) != len(p.kinds) {
		t.Errorf("%v: the pieces %v and the waste of %d sum to %d, with the codes %d and %d", p, pieces, waste, sum, one, two)
	}
}

func TestPromise10AreasSumToThePlate(t *testing.T) {
	wasted, cutUp := 0, 0
	for _, p := range sampleCuts() {
		want, good := cutsModel(p)
		if !good {
			t.Errorf("%v are not valid", p)
		}
		wantAllTold(t, p, want, good)
		wantSumOfAreas(t, p)
		// Each entry that is cut has the area of both of its parts.
		sizes, _ := impl.SizesOf(p.wide, p.high, p.kinds, p.cuts)
		for i, c := range p.cuts {
			if c.How >= 2 {
				cutUp++
				wantEqual(t, p.String(), sizes[c.A][0]*sizes[c.A][1]+sizes[c.B][0]*sizes[c.B][1], sizes[i][0]*sizes[i][1])
			}
		}
		if want.waste > 0 && want.value > 0 {
			wasted++
		}
	}
	if wasted < 10 || cutUp < 100 {
		t.Errorf("only %d plates have pieces and waste, and only %d entries are cut", wasted, cutUp)
	}
}

// TestPromise10BestCuts holds the areas of the best cuts that the program makes, for plates of all small sizes.
func TestPromise10BestCuts(t *testing.T) {
	for _, kinds := range sampleKinds() {
		for wide := int64(1); wide <= 9; wide++ {
			for high := int64(1); high <= 9; high++ {
				best, _, code := impl.BestCuts(wide, high, kinds)
				if code == impl.OK {
					wantSumOfAreas(t, aPlate{wide, high, kinds, best})
				}
			}
		}
	}
}

// allValues returns the values of all ways to cut a plate, with no end but that of its cells.
func allValues(wide, high int64, kinds []impl.Kind) []int64 {
	values := []int64{0}
	for _, k := range kinds {
		if int64(k.Wide) == wide && int64(k.High) == high {
			values = append(values, int64(k.Value))
		}
	}
	add := func(a, b []int64) {
		for _, x := range a {
			for _, y := range b {
				values = append(values, x+y)
			}
		}
	}
	for at := int64(1); at < wide; at++ {
		add(allValues(at, high, kinds), allValues(wide-at, high, kinds))
	}
	for at := int64(1); at < high; at++ {
		add(allValues(wide, at, kinds), allValues(wide, high-at, kinds))
	}
	slices.Sort(values)
	return slices.Compact(values)
}

func TestBestValueOfAllCuts(t *testing.T) {
	for _, kinds := range sampleKinds() {
		for _, size := range [][2]int64{{1, 1}, {2, 1}, {1, 2}, {2, 2}, {3, 2}, {2, 3}, {3, 3}, {4, 3}, {5, 1}, {1, 5}} {
			value, code := impl.BestValue(size[0], size[1], kinds)
			wantEqual(t, fmt.Sprint(size, kinds), []int64{value, code}, []int64{slices.Max(allValues(size[0], size[1], kinds)), impl.OK})
		}
	}
}

func TestBestCuts(t *testing.T) {
	tooMany := 0
	for _, kinds := range sampleKinds() {
		for _, size := range [][2]int64{{1, 1}, {2, 2}, {4, 3}, {3, 4}, {7, 5}, {8, 8}, {12, 1}, {1, 24}, {24, 1}, {24, 2}, {24, 23}, {23, 24}, {24, 24}} {
			wide, high := size[0], size[1]
			list, worth, code := cutsMadeModel(wide, high, kinds)
			best, value, got := impl.BestCuts(wide, high, kinds)
			if got != code || value != worth || !slices.Equal(best, list) {
				t.Errorf("%v of %v: got %v with %d and the code %d, want %v with %d and the code %d", size, kinds, best, value, got, list, worth, code)
			}
			most, two := impl.BestValue(wide, high, kinds)
			if code != impl.OK {
				tooMany++
				continue
			}
			wantEqual(t, fmt.Sprint(size, kinds), []int64{most, two}, []int64{worth, impl.OK})
			sum, three := impl.ValueOf(wide, high, kinds, best)
			wantEqual(t, fmt.Sprint(size, kinds, ", value"), []int64{sum, three}, []int64{worth, impl.OK})
		}
	}
	if tooMany < 10 {
		t.Errorf("only %d plates have too many entries", tooMany)
	}
}

func TestBestCutsByHand(t *testing.T) {
	for _, c := range []struct {
		name       string
		wide, high int64
		kinds      []impl.Kind
		value      int64
		want       string
	}{
		{"example", 4, 3, []impl.Kind{kind(2, 3, 5)}, 10, "across 2 1 2, piece 0, piece 0"},
		{"example with waste", 4, 3, []impl.Kind{kind(3, 2, 7)}, 7, "across 1 1 2, waste, down 1 3 4, waste, piece 0"},
		{"no kinds", 24, 24, nil, 0, "waste"},
		{"a cell", 1, 1, []impl.Kind{kind(1, 1, 1)}, 1, "piece 0"},
		{"worth 0", 1, 1, []impl.Kind{kind(1, 1, 0)}, 0, "waste"},
		{"worth 0, cut up", 2, 1, []impl.Kind{kind(1, 1, 0), kind(2, 1, 0)}, 0, "waste"},
		{"not turned", 2, 3, []impl.Kind{kind(3, 2, 7)}, 0, "waste"},
		{"the whole plate", 24, 24, []impl.Kind{kind(1, 1, 1), kind(24, 24, 1000)}, 1000, "piece 1"},
		{"one size, the first of the best", 2, 2, []impl.Kind{kind(2, 2, 3), kind(2, 2, 4), kind(2, 2, 4)}, 4, "piece 1"},
		{"a piece is as good as cuts", 2, 1, []impl.Kind{kind(1, 1, 1), kind(2, 1, 2)}, 2, "piece 1"},
		{"a piece is worse than cuts", 2, 1, []impl.Kind{kind(2, 1, 1), kind(1, 1, 1)}, 2, "across 1 1 2, piece 1, piece 1"},
		{"across ahead of down", 2, 2, []impl.Kind{kind(2, 1, 4), kind(1, 2, 4)}, 8, "across 1 1 2, piece 1, piece 1"},
		{"down", 2, 2, []impl.Kind{kind(2, 1, 4), kind(1, 2, 3)}, 8, "down 1 1 2, piece 0, piece 0"},
		{"the least width", 5, 1, []impl.Kind{kind(2, 1, 1)}, 2, "across 1 1 2, waste, across 2 3 4, piece 0, piece 0"},
		{"the least height", 1, 5, []impl.Kind{kind(1, 3, 9)}, 9, "down 1 1 2, waste, down 1 3 4, waste, piece 0"},
	} {
		best, value, code := impl.BestCuts(c.wide, c.high, c.kinds)
		if code != impl.OK || value != c.value || !slices.Equal(best, cuts(c.want)) {
			t.Errorf("%s: got %v with %d and the code %d, want %v with %d", c.name, best, value, code, cuts(c.want), c.value)
		}
	}
}

// TestBestCutsWithMostEntries has plates whose best cuts have 59 and 61 entries: 30 and 31 cells are cut from one another.
func TestBestCutsWithMostEntries(t *testing.T) {
	cells := []impl.Kind{kind(1, 1, 2)}
	for _, c := range []struct {
		wide, high int64
		entries    int
	}{{6, 5, 59}, {5, 6, 59}, {10, 3, 59}, {3, 10, 59}, {2, 15, 59}, {15, 2, 59}, {7, 4, 55}, {24, 1, 47}, {1, 24, 47}} {
		best, value, code := impl.BestCuts(c.wide, c.high, cells)
		wantEqual(t, fmt.Sprint(c), []any{len(best), value, code}, []any{c.entries, 2 * c.wide * c.high, int64(impl.OK)})
		wantEqual(t, fmt.Sprint(c, ", valid"), impl.ValidCuts(c.wide, c.high, cells, best), true)
	}
	for _, size := range [][2]int64{{8, 4}, {4, 8}, {16, 2}, {2, 16}, {11, 3}, {24, 24}, {24, 2}} {
		best, value, code := impl.BestCuts(size[0], size[1], cells)
		wantEqual(t, fmt.Sprint(size), []any{len(best), value, code}, []any{0, int64(0), int64(impl.ErrLimit)})
		value, code = impl.BestValue(size[0], size[1], cells)
		wantEqual(t, fmt.Sprint(size, ", value"), []int64{value, code}, []int64{2 * size[0] * size[1], impl.OK})
	}
	// It is the entries that count, not the cells.
	rows := []impl.Kind{kind(1, 1, 2), kind(2, 1, 5), kind(1, 2, 4)}
	best, value, code := impl.BestCuts(12, 5, rows)
	wantEqual(t, "30 pieces of two cells", []any{len(best), value, code}, []any{59, int64(150), int64(impl.OK)})
	best, value, code = impl.BestCuts(31, 2, rows)
	wantEqual(t, "a plate that is too wide", []any{len(best), value, code}, []any{0, int64(0), int64(impl.ErrRange)})
	best, value, code = impl.BestCuts(22, 3, rows)
	wantEqual(t, "33 pieces of two cells", []any{len(best), value, code}, []any{0, int64(0), int64(impl.ErrLimit)})
}

// TestGreatestValues has the plate and the kinds for which the value is greatest.
func TestGreatestValues(t *testing.T) {
	value, code := impl.BestValue(24, 24, slices.Repeat([]impl.Kind{kind(1, 1, 1000)}, 8))
	wantEqual(t, "576 cells", []int64{value, code}, []int64{576000, impl.OK})
	best, value, code := impl.BestCuts(24, 24, slices.Repeat([]impl.Kind{kind(1, 24, 1000)}, 8))
	wantEqual(t, "24 columns", []any{len(best), value, code}, []any{47, int64(24000), int64(impl.OK)})
	for i := int8(0); i < 46; i += 2 {
		wantEqual(t, "a column", best[i:i+2], []impl.Cut{{How: 2, At: 1, A: i + 1, B: i + 2}, {How: 1}})
	}
}
