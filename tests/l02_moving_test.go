package tests

import (
	"slices"
	"testing"

	"loop.example/g01322/impl"
)

// movedModel tells what MoveTones should return.
func movedModel(m impl.Image, p impl.Palette, rounds int64) (impl.Palette, int64, int64) {
	p = slices.Clone(p)
	for round := int64(1); round <= rounds; round++ {
		var sums [15][3]int
		var counts [15]int
		for _, cell := range cellsIn(m) {
			i := closest(p, m.Tones[cell]) - 1
			counts[i]++
			for light, value := range m.Tones[cell] {
				sums[i][light] += int(value)
			}
		}
		changed := false
		for i := range p {
			for light := range p[i] {
				if counts[i] == 0 {
					continue
				}
				mean := uint8(sums[i][light] / counts[i])
				changed = changed || mean != p[i][light]
				p[i][light] = mean
			}
		}
		for i := range p {
			if slices.Contains(p[:i], p[i]) {
				return nil, 0, impl.ErrState
			}
		}
		if !changed {
			return p, round, impl.OK
		}
	}
	return p, rounds, impl.OK
}

func wantMoved(t *testing.T, name string, m impl.Image, p impl.Palette, rounds int64, want impl.Palette, made, code int64) {
	t.Helper()
	got, count, result := impl.MoveTones(m, p, rounds)
	if !slices.Equal(got, want) || count != made || result != code {
		t.Errorf("%s: %v moved %d rounds: got %v behind %d with the code %d, want %v behind %d with the code %d", name, p, rounds, got, count, result, want, made, code)
	}
}

func TestMoveTones(t *testing.T) {
	ended := 0
	for _, m := range sampleImages() {
		for _, p := range samplePalettes() {
			for _, rounds := range []int64{0, 1, 2, 3, 49, 50} {
				want, made, code := movedModel(m, p, rounds)
				wantMoved(t, "model", m, p, rounds, want, made, code)
				if code == impl.OK && made < rounds {
					ended++
				}
			}
		}
	}
	if ended < 100 {
		t.Errorf("only %d calls ended ahead of their last round", ended)
	}
}

func TestMoveTonesByHand(t *testing.T) {
	p := impl.Palette{black, white}
	m := painted(3, greys(10, 20, 200)...)
	moved := impl.Palette(greys(15, 200))
	wantMoved(t, "no round", m, p, 0, p, 0, impl.OK)
	wantMoved(t, "one round", m, p, 1, moved, 1, impl.OK)
	wantMoved(t, "the round in which nothing changes counts", m, p, 2, moved, 2, impl.OK)
	wantMoved(t, "no more rounds", m, p, 50, moved, 2, impl.OK)
	wantMoved(t, "nothing to move", m, moved, 50, moved, 1, impl.OK)
	wantMoved(t, "a tone without cells stays", painted(2, greys(1, 4)...), p, 50, impl.Palette(greys(2, 255)), 2, impl.OK)
	wantMoved(t, "one tone", painted(2, greys(1, 4, 5, 255)...), impl.Palette{white}, 50, impl.Palette(greys(66)), 2, impl.OK)
	// 15 is as far from 10 as from 20, and belongs to the least colour; the other one stays.
	wantMoved(t, "equal distances", painted(1, impl.Tone{15, 0, 0}), impl.Palette{{10, 0, 0}, {20, 0, 0}}, 50, impl.Palette{{15, 0, 0}, {20, 0, 0}}, 2, impl.OK)
	wantMoved(t, "equal distances, turned", painted(1, impl.Tone{15, 0, 0}), impl.Palette{{20, 0, 0}, {10, 0, 0}}, 50, impl.Palette{{15, 0, 0}, {10, 0, 0}}, 2, impl.OK)
}

// TestTonesThatBecomeEqual has cells that are all nearer to the tone 1, 1, 1 than to black, but whose mean is rounded down to black.
func TestTonesThatBecomeEqual(t *testing.T) {
	m := painted(4, impl.Tone{0, 1, 1}, impl.Tone{0, 1, 0}, impl.Tone{0, 1, 0}, impl.Tone{2, 0, 2})
	for _, p := range []impl.Palette{{{1, 1, 1}, black}, {black, {1, 1, 1}}, {white, {1, 1, 1}, grey, black}} {
		wantMoved(t, "no round", m, p, 0, p, 0, impl.OK)
		for _, rounds := range []int64{1, 2, 50} {
			wantMoved(t, "equal", m, p, rounds, nil, 0, impl.ErrState)
		}
	}
}

// TestTonesThatBecomeEqualLater has tones that are still different behind the first round: then two cells are as far (13) from 2, 2, 2 as from 1, 1, 1, so that all three belong to the tone 1.
func TestTonesThatBecomeEqualLater(t *testing.T) {
	m := painted(3, impl.Tone{2, 2, 2}, impl.Tone{3, 1, 0}, impl.Tone{0, 2, 3})
	p := impl.Palette{{1, 3, 2}, {0, 1, 2}}
	wantMoved(t, "one round", m, p, 1, impl.Palette{{2, 2, 2}, {1, 1, 1}}, 1, impl.OK)
	wantMoved(t, "two rounds", m, p, 2, nil, 0, impl.ErrState)
	wantMoved(t, "all rounds", m, p, 50, nil, 0, impl.ErrState)
}

// TestMoveTonesOfFewLights has many cells at equal distances, and tones that become equal.
func TestMoveTonesOfFewLights(t *testing.T) {
	equal := 0
	for seed := range 3000 {
		m := painted(4, fewLights(8, seed)...)
		p := paletteFrom(2+seed%3, fewLights(40, seed+5000))
		for _, rounds := range []int64{1, 50} {
			want, made, code := movedModel(m, p, rounds)
			wantMoved(t, "few lights", m, p, rounds, want, made, code)
			if code == impl.ErrState {
				equal++
			}
		}
	}
	if equal == 0 {
		t.Error("no tones became equal")
	}
}

// fewLights returns tones whose lights are 0 to 4.
func fewLights(count, seed int) []impl.Tone {
	tones := scattered(count, seed, 1)
	for i := range tones {
		for light := range tones[i] {
			tones[i][light] %= 5
		}
	}
	return tones
}

func TestSortPalette(t *testing.T) {
	for _, p := range samplePalettes() {
		sorted, order, code := impl.SortPalette(p)
		wantEqual(t, "code", code, int64(impl.OK))
		wantEqual(t, "sizes", []int{len(sorted), len(order)}, []int{len(p), len(p)})
		for i := range sorted {
			wantEqual(t, "colour before", sorted[i], p[order[i]-1])
			if i > 0 && !comesFirst(sorted[i-1], sorted[i]) {
				t.Errorf("%v is sorted to %v", p, sorted)
			}
		}
		again, same, _ := impl.SortPalette(sorted)
		wantEqual(t, "sorted again", again, sorted)
		if !strictlyIncreasing(same) {
			t.Errorf("%v is sorted again in the order %v", p, same)
		}
	}
}

func TestSortPaletteByHand(t *testing.T) {
	sorted, order, _ := impl.SortPalette(impl.Palette{{9, 0, 0}, {0, 0, 5}})
	wantEqual(t, "two tones", []any{sorted, order}, []any{impl.Palette{{0, 0, 5}, {9, 0, 0}}, []int64{2, 1}})
	// All but the first and the last one are as bright as 6.
	want := impl.Palette{{0, 0, 5}, {0, 0, 6}, {0, 1, 0}, {1, 0, 3}, {2, 0, 0}, {0, 0, 7}}
	sorted, order, _ = impl.SortPalette(impl.Palette{want[4], want[2], want[5], want[0], want[3], want[1]})
	wantEqual(t, "equal brightness", []any{sorted, order}, []any{want, []int64{4, 6, 2, 5, 1, 3}})
	sorted, order, _ = impl.SortPalette(impl.Palette{white})
	wantEqual(t, "one tone", []any{sorted, order}, []any{impl.Palette{white}, []int64{1}})
}

// stockModel tells what FromStock should return for a stock that is as told.
func stockModel(m impl.Image, p impl.Palette, stock []int64) (impl.Picture, int64) {
	q := impl.Picture{Wide: m.Wide, High: m.High}
	used := map[int64]int64{}
	for _, cell := range cellsIn(m) {
		var there []int64
		for colour := int64(1); colour <= int64(len(p)); colour++ {
			if used[colour] < stock[colour-1] {
				there = append(there, colour)
			}
		}
		if len(there) == 0 {
			return impl.Picture{}, impl.ErrNotFound
		}
		colour := there[closest(withColours(p, there), m.Tones[cell])-1]
		used[colour]++
		q.Cells[cell] = uint8(colour)
	}
	return q, impl.OK
}

func TestFromStock(t *testing.T) {
	codes := map[int64]int{}
	for i, m := range sampleImages() {
		for k, p := range samplePalettes() {
			for _, most := range []int64{1, 3, 20, 200} {
				stock := make([]int64, len(p))
				for n := range stock {
					stock[n] = int64(i*7+k*5+n*11) % most
				}
				want, code := stockModel(m, p, stock)
				q, got := impl.FromStock(m, p, stock)
				if q != want || got != code {
					t.Errorf("%v of %v with %v: got %v with the code %d, want %v with the code %d", m, p, stock, q, got, want, code)
				}
				codes[got]++
			}
		}
	}
	if codes[impl.OK] < 100 || codes[impl.ErrNotFound] < 100 {
		t.Errorf("the codes are too much alike: %v", codes)
	}
}

func TestFromStockByHand(t *testing.T) {
	p := impl.Palette{black, white}
	for _, c := range []struct {
		list  []uint8
		wide  int
		stock []int64
		want  []string
	}{
		{[]uint8{0, 0, 255}, 3, []int64{1, 5}, []string{"abb"}},
		{[]uint8{0, 0, 255}, 3, []int64{3, 0}, []string{"aaa"}},
		{[]uint8{0, 0, 255}, 3, []int64{0, 3}, []string{"bbb"}},
		{[]uint8{0, 0, 255}, 3, []int64{2, 1}, []string{"aab"}},
		{[]uint8{0, 0, 255}, 3, []int64{1000000, 1000000}, []string{"aab"}},
		// The stock goes row by row, not by what is nearest.
		{[]uint8{100, 255, 0, 0}, 2, []int64{2, 2}, []string{"ab", "ab"}},
		{[]uint8{255, 255, 255, 0}, 2, []int64{3, 1}, []string{"ba", "aa"}},
		{[]uint8{255, 255, 255, 0}, 2, []int64{1, 3}, []string{"bb", "ba"}},
	} {
		q, code := impl.FromStock(painted(c.wide, greys(c.list...)...), p, c.stock)
		wantRows(t, "from stock", q, code, c.want...)
	}
	three := impl.Palette{{20, 0, 0}, {10, 0, 0}, {14, 0, 0}}
	q, code := impl.FromStock(painted(5, slices.Repeat([]impl.Tone{{15, 0, 0}}, 5)...), three, []int64{1, 2, 2})
	wantRows(t, "equal distances", q, code, "ccabb")
}

func TestFromStockErrors(t *testing.T) {
	p := impl.Palette{black, white}
	m := painted(3, greys(0, 0, 255)...)
	for _, c := range []struct {
		stock []int64
		want  int64
	}{
		{nil, impl.ErrRange}, {[]int64{}, impl.ErrRange}, {[]int64{3}, impl.ErrRange}, {[]int64{3, 3, 3}, impl.ErrRange}, {[]int64{3, 3, 0}, impl.ErrRange},
		{[]int64{-1, 5}, impl.ErrRange}, {[]int64{5, -1}, impl.ErrRange}, {[]int64{1000001, 5}, impl.ErrRange}, {[]int64{5, 1000001}, impl.ErrRange},
		{[]int64{0, -1}, impl.ErrRange}, {[]int64{1}, impl.ErrRange}, {[]int64{numbers[0], 5}, impl.ErrRange}, {[]int64{5, numbers[len(numbers)-1]}, impl.ErrRange},
		{[]int64{0, 0}, impl.ErrNotFound}, {[]int64{1, 1}, impl.ErrNotFound}, {[]int64{2, 0}, impl.ErrNotFound}, {[]int64{0, 2}, impl.ErrNotFound},
		{make([]int64, 1000000), impl.ErrRange}, {[]int64{3, 0}, impl.OK}, {[]int64{1000000, 0}, impl.OK},
	} {
		q, code := impl.FromStock(m, p, c.stock)
		if code != c.want || code != impl.OK && q != (impl.Picture{}) {
			t.Errorf("stock %v: got %v with the code %d, want the code %d", c.stock[:min(3, len(c.stock))], q, code, c.want)
		}
	}
}

func TestStockFor(t *testing.T) {
	p := impl.Palette{black, grey, white}
	for text, want := range map[string][]int64{"abc": {1, 1, 1}, "...": {0, 0, 0}, "c.c": {0, 0, 2}, "bbb": {0, 3, 0}} {
		stock, code := impl.StockFor(drawn(text), p)
		wantEqual(t, text, []any{stock, code}, []any{want, int64(impl.OK)})
	}
	for count := range 15 {
		p := paletteFrom(count+1, scattered(100, count, 1))
		q := patterned(12, 11, count+2)
		stock, code := impl.StockFor(q, p)
		for i := range p {
			number := int64(0)
			for _, cell := range cellsOf(q) {
				if int(q.Cells[cell]) == i+1 {
					number++
				}
			}
			wantEqual(t, "stones", []int64{stock[i], code}, []int64{number, impl.OK})
		}
		wantEqual(t, "tones", len(stock), count+1)
	}
}

// TestStockForIsEnough checks that an image gets its picture from the stock for this, and not from a lesser one.
func TestStockForIsEnough(t *testing.T) {
	for _, m := range sampleImages() {
		for _, p := range samplePalettes() {
			q, _ := impl.PictureOf(m, p)
			stock, _ := impl.StockFor(q, p)
			got, code := impl.FromStock(m, p, stock)
			wantRows(t, "from its stock", got, code, rowsOf(q)...)
			for i := range stock {
				if stock[i] > 0 {
					stock[i]--
					break
				}
			}
			_, code = impl.FromStock(m, p, stock)
			wantEqual(t, "one less", code, int64(impl.ErrNotFound))
		}
	}
}
