package tests

import (
	"reflect"
	"slices"
	"testing"

	"loop.example/g01322/impl"
)

func missing(found bool) fault  { return fault{found, impl.ErrNotFound} }
func noSyntax(found bool) fault { return fault{found, impl.ErrSyntax} }

// anImage and aPalette are arguments, and whether they are valid.
type anImage struct {
	image impl.Image
	good  bool
}

type aPalette struct {
	palette impl.Palette
	good    bool
}

func imagesOfBothKinds() []anImage {
	list := []anImage{
		{painted(1, grey), true}, {painted(3, scattered(6, 1, 1)...), true}, {painted(2, scattered(6, 1, 64)...), true}, {painted(12, scattered(144, 1, 1)...), true},
	}
	for _, m := range invalidImages() {
		list = append(list, anImage{m, false})
	}
	return list
}

func palettesOfBothKinds() []aPalette {
	var list []aPalette
	for _, count := range []int{1, 2, 10, 11, 15} {
		list = append(list, aPalette{paletteFrom(count, scattered(100, count, 1)), true})
	}
	for name, p := range invalidPalettes() {
		if name != "a million" {
			list = append(list, aPalette{p, false})
		}
	}
	return list
}

func TestPromise1CallsWithAnImage(t *testing.T) {
	for _, m := range imagesOfBothKinds() {
		broken := invalid(!m.good)
		distinct := map[impl.Tone]bool{}
		for _, cell := range cellsIn(m.image) {
			distinct[m.image.Tones[cell]] = true
		}
		want := firstOf(broken, tooMany(len(distinct) > 15))
		checkCall(t, call{"TonesIn", results(m), want, func() []any { a, b := impl.TonesIn(m.image); return results(a, b) }})
		for _, cells := range [][]int64{nil, {}, {0}, {0, 0}, {-1}, {144}, {0, 144}, {144, 0}, {numbers[0]}, {0, numbers[len(numbers)-1]}, {1 << 32}, {-12}, {132, 0}} {
			outer := slices.ContainsFunc(cells, func(cell int64) bool { return !slices.Contains(cellsIn(m.image), cell) })
			want := firstOf(broken, outside(outer), missing(len(cells) == 0))
			checkCall(t, call{"MeanTone", results(m, cells), want, func() []any { a, b := impl.MeanTone(m.image, cells); return results(a, b) }})
		}
		wantEqual(t, "valid", impl.ValidImage(m.image), m.good)
	}
}

func TestPromise1CallsWithAPalette(t *testing.T) {
	for _, p := range append(palettesOfBothKinds(), aPalette{make(impl.Palette, 1000000), false}) {
		broken := invalid(!p.good)
		checkCall(t, call{"NearestTone", nil, firstOf(broken), func() []any { a, b, c := impl.NearestTone(p.palette, grey); return results(a, b, c) }})
		checkCall(t, call{"SortPalette", nil, firstOf(broken), func() []any { a, b, c := impl.SortPalette(p.palette); return results(a, b, c) }})
		wantEqual(t, "valid", impl.ValidPalette(p.palette), p.good)
		wantEqual(t, "no text", impl.PaletteText(p.palette) == "", !p.good)
		wantEqual(t, "same", impl.SamePalette(p.palette, slices.Clone(p.palette)), true)
	}
}

func TestPromise1CallsWithAnImageAndAPalette(t *testing.T) {
	for _, m := range imagesOfBothKinds() {
		for _, p := range palettesOfBothKinds() {
			broken := invalid(!m.good || !p.good)
			checkCall(t, call{"PictureOf", results(m, p), firstOf(broken), func() []any { a, b := impl.PictureOf(m.image, p.palette); return results(a, b) }})
			checkCall(t, call{"SpreadPicture", results(m, p), firstOf(broken), func() []any { a, b := impl.SpreadPicture(m.image, p.palette); return results(a, b) }})
		}
	}
}

func TestPromise1CallsWithANumber(t *testing.T) {
	for _, m := range imagesOfBothKinds() {
		for _, p := range palettesOfBothKinds() {
			broken := invalid(!m.good || !p.good)
			tones := int64(len(p.palette))
			for _, n := range []int64{numbers[0], -1, 0, 1, 2, 3, 10, 11, 15, 16, 50, 51, 256, 257, 1 << 32, 1<<32 + 1, numbers[len(numbers)-1]} {
				noCount := outside(n < 1 || n > tones)
				checkCall(t, call{"BestTones", results(m, p, n), firstOf(broken, noCount, tooMany(tones > 10)), func() []any { a, b, c := impl.BestTones(m.image, p.palette, n); return results(a, b, c) }})
				checkCall(t, call{"GreedyTones", results(m, p, n), firstOf(broken, noCount), func() []any { a, b, c := impl.GreedyTones(m.image, p.palette, n); return results(a, b, c) }})
				equal := false
				if !broken.found && n >= 0 && n <= 50 {
					_, _, code := movedModel(m.image, p.palette, n)
					equal = code == impl.ErrState
				}
				want := firstOf(broken, outside(n < 0 || n > 50), badState(equal))
				checkCall(t, call{"MoveTones", results(m, p, n), want, func() []any { a, b, c := impl.MoveTones(m.image, p.palette, n); return results(a, b, c) }})
			}
		}
	}
}

func TestPromise1CallsWithAStock(t *testing.T) {
	for _, m := range imagesOfBothKinds() {
		for _, p := range palettesOfBothKinds() {
			for _, count := range []int{0, 1, 2, 10, 15, 16} {
				for _, stones := range []int64{numbers[0], -1, 0, 1, 143, 144, 1000000, 1000001, numbers[len(numbers)-1]} {
					stock := slices.Repeat([]int64{stones}, count)
					wrong := count != len(p.palette) || count > 0 && (stones < 0 || stones > 1000000)
					runsOut := !wrong && int64(count)*stones < int64(len(cellsIn(m.image)))
					want := firstOf(invalid(!m.good || !p.good), outside(wrong), missing(runsOut))
					checkCall(t, call{"FromStock", results(m, p, stock), want, func() []any { a, b := impl.FromStock(m.image, p.palette, stock); return results(a, b) }})
				}
			}
		}
	}
}

// picturesOfBothKinds have few and many colours, and sizes that some of the images have, or that differ from them in one of both.
func picturesOfBothKinds() []impl.Picture {
	list := []impl.Picture{drawn("."), drawn("a"), drawn("b"), drawn("o"), drawn("ab.", "b.a"), drawn("ab."), drawn("ab", "b."), drawn("ab", ".k", "a."), drawn("...", "..c"), patterned(12, 12, 11), patterned(12, 12, 16)}
	for _, name := range []string{"nothing", "wide -128", "high 13", "colour 16", "colour 255", "last number", "no cell, no colour"} {
		list = append(list, invalids[name])
	}
	return list
}

// beyond tells whether a picture has a colour for which a palette has no tone.
func beyond(q impl.Picture, p impl.Palette) bool {
	return slices.ContainsFunc(cellsOf(q), func(cell int64) bool { return int(q.Cells[cell]) > len(p) })
}

func TestPromise1CallsWithAPictureAndAPalette(t *testing.T) {
	for _, q := range picturesOfBothKinds() {
		for _, p := range palettesOfBothKinds() {
			broken := invalid(!isValid(q) || !p.good)
			want := firstOf(broken, outside(isValid(q) && beyond(q, p.palette)))
			checkCall(t, call{"ImageOf", results(q, p), want, func() []any { a, b := impl.ImageOf(q, p.palette, grey); return results(a, b) }})
			checkCall(t, call{"StockFor", results(q, p), want, func() []any { a, b := impl.StockFor(q, p.palette); return results(a, b) }})
			for _, m := range imagesOfBothKinds() {
				broken := invalid(!m.good || !isValid(q) || !p.good)
				differ := m.image.Wide != q.Wide || m.image.High != q.High
				want := firstOf(broken, badState(differ), outside(isValid(q) && beyond(q, p.palette)))
				checkCall(t, call{"CostOf", results(m, q, p), want, func() []any { a, b := impl.CostOf(m.image, q, p.palette); return results(a, b) }})
			}
		}
	}
}

func TestPromise1ReadTones(t *testing.T) {
	for _, text := range []string{"", "#000000", "#0102fe", "#0102FE", "#000000 #ffffff", "#000000 #000000", " ", "x"} {
		tone := text == "#000000" || text == "#0102fe"
		checkCall(t, call{"ReadTone", results(text), firstOf(noSyntax(!tone)), func() []any { a, b := impl.ReadTone(text); return results(a, b) }})
		checkCall(t, call{"ReadPalette", results(text), firstOf(noSyntax(!tone && text != "#000000 #ffffff")), func() []any { a, b := impl.ReadPalette(text); return results(a, b) }})
	}
}

// callsWithLists calls each function of chapter 2 that has a slice among its arguments, and returns all results.
func callsWithLists(m impl.Image, q impl.Picture, p impl.Palette, cells, stock []int64) [][]any {
	var list [][]any
	add := func(values ...any) { list = append(list, values) }
	add(impl.ValidPalette(p), impl.SamePalette(p, p), impl.PaletteText(p))
	for _, a := range p {
		colour, far, code := impl.NearestTone(p, a)
		add(colour, far, code)
	}
	two := func(a any, code int64) { add(a, code) }
	three := func(a, b any, code int64) { add(a, b, code) }
	picture, code := impl.PictureOf(m, p)
	two(picture, code)
	image, code := impl.ImageOf(q, p, grey)
	two(image, code)
	cost, code := impl.CostOf(m, q, p)
	two(cost, code)
	mean, code := impl.MeanTone(m, cells)
	two(mean, code)
	spread, code := impl.SpreadPicture(m, p)
	two(spread, code)
	for count := range int64(len(p) + 2) {
		best, least, code := impl.BestTones(m, p, count)
		three(best, least, code)
		greedy, least, code := impl.GreedyTones(m, p, count)
		three(greedy, least, code)
		moved, made, code := impl.MoveTones(m, p, count)
		three(moved, made, code)
	}
	sorted, order, code := impl.SortPalette(p)
	three(sorted, order, code)
	laid, code := impl.FromStock(m, p, stock)
	two(laid, code)
	need, code := impl.StockFor(q, p)
	two(need, code)
	return list
}

// roomy returns a list with the given elements, and room for more behind them that is filled with another one.
func roomy[T any](list []T, filler T) []T {
	all := slices.Clone(list)
	for range 20 {
		all = append(all, filler)
	}
	return all[:len(list)]
}

// TestPromise1PalettesAreKept checks that no argument is modified, nor the room behind it, and that this room has no influence.
func TestPromise1PalettesAreKept(t *testing.T) {
	for _, p := range samplePalettes() {
		for _, m := range []impl.Image{painted(1, grey), painted(5, scattered(25, 1, 1)...), painted(5, scattered(25, 2, 128)...)} {
			q := patterned(int(m.Wide), int(m.High), len(p)+1)
			cells := cellsIn(m)
			slices.Reverse(cells)
			stock := slices.Repeat([]int64{25}, len(p))
			want := callsWithLists(m, q, slices.Clip(slices.Clone(p)), slices.Clip(cells), slices.Clip(stock))

			roomyPalette, roomyCells, roomyStock := roomy(p, impl.Tone{1, 2, 3}), roomy(cells, -7), roomy(stock, -7)
			kept := []any{slices.Clone(roomyPalette[:len(p)+20]), slices.Clone(roomyCells[:len(cells)+20]), slices.Clone(roomyStock[:len(stock)+20])}
			got := callsWithLists(m, q, roomyPalette, roomyCells, roomyStock)
			if !reflect.DeepEqual(got, want) {
				t.Errorf("%v: got %v, with room behind the lists %v", p, want, got)
			}
			wantEqual(t, "arguments", []any{roomyPalette[:len(p)+20], roomyCells[:len(cells)+20], roomyStock[:len(stock)+20]}, kept)
		}
	}
}

// TestPromise1PalettesAreNew writes into each list of a result, up to its capacity, and looks at the arguments, the other list and a result of another call.
func TestPromise1PalettesAreNew(t *testing.T) {
	m := painted(3, scattered(6, 1, 1)...)
	p := impl.Palette{black, white, grey, {9, 9, 9}}
	kept := slices.Clone(p)
	for name, list := range map[string]func() impl.Palette{
		"TonesIn":           func() impl.Palette { list, _ := impl.TonesIn(m); return list },
		"MoveTones, none":   func() impl.Palette { list, _, _ := impl.MoveTones(m, p, 0); return list },
		"MoveTones":         func() impl.Palette { list, _, _ := impl.MoveTones(m, p, 50); return list },
		"MoveTones, as was": func() impl.Palette { list, _, _ := impl.MoveTones(painted(1, black), p, 1); return list },
		"SortPalette":       func() impl.Palette { list, _, _ := impl.SortPalette(p); return list },
		"ReadPalette":       func() impl.Palette { list, _ := impl.ReadPalette("#000000 #ffffff"); return list },
	} {
		checkNew(t, name, list, impl.Tone{66, 77, 88})
		wantEqual(t, name+", the palette", p, kept)
	}
	stock := []int64{6, 6, 6, 6}
	for name, list := range map[string]func() []int64{
		"BestTones":   func() []int64 { list, _, _ := impl.BestTones(m, p, 3); return list },
		"GreedyTones": func() []int64 { list, _, _ := impl.GreedyTones(m, p, 3); return list },
		"SortPalette": func() []int64 { _, list, _ := impl.SortPalette(p); return list },
		"StockFor":    func() []int64 { list, _ := impl.StockFor(drawn("ab", "d."), p); return list },
	} {
		checkNew(t, name, list, -1)
		wantEqual(t, name+", the stock", stock, []int64{6, 6, 6, 6})
	}
}

// checkNew overwrites a list, and checks that the list of another call is as it was.
func checkNew[S ~[]T, T any](t *testing.T, name string, list func() S, filler T) {
	t.Helper()
	one, two := list(), list()
	before := slices.Clone(two)
	if len(before) == 0 {
		t.Errorf("%s: an empty list shows nothing", name)
	}
	one = one[:cap(one)]
	for i := range one {
		one[i] = filler
	}
	wantEqual(t, name+", another call", two, before)
	wantEqual(t, name+", a call behind it", list(), before)
}
