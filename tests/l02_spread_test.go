package tests

import (
	"math"
	"testing"

	"loop.example/g01322/impl"
)

// spreadModel tells the picture that SpreadPicture should make, each cell fetching what the ones ahead of it have spread; it tells also the least and the greatest value that was met.
func spreadModel(m impl.Image, p impl.Palette) (impl.Picture, int64, int64) {
	q := impl.Picture{Wide: m.Wide, High: m.High}
	rests := map[[2]int64][3]int64{}
	least, greatest := int64(0), int64(255)
	for y := range int64(m.High) {
		for x := range int64(m.Wide) {
			var value [3]int64
			var tone impl.Tone
			for light := range value {
				value[light] = int64(m.Tones[x+12*y][light])
				for from, part := range map[[2]int64]int64{{x - 1, y}: 7, {x + 1, y - 1}: 3, {x, y - 1}: 5, {x - 1, y - 1}: 1} {
					value[light] += int64(math.Floor(float64(part*rests[from][light]) / 16))
				}
				least, greatest = min(least, value[light]), max(greatest, value[light])
				tone[light] = uint8(min(max(value[light], 0), 255))
			}
			colour := closest(p, tone)
			for light := range value {
				value[light] -= int64(p[colour-1][light])
			}
			rests[[2]int64{x, y}] = value
			q.Cells[x+12*y] = uint8(colour)
		}
	}
	return q, least, greatest
}

func TestSpreadPicture(t *testing.T) {
	for _, m := range sampleImages() {
		for _, p := range samplePalettes() {
			want, _, _ := spreadModel(m, p)
			q, code := impl.SpreadPicture(m, p)
			wantRows(t, "spread", q, code, rowsOf(want)...)
		}
	}
}

// TestSpreadBeyondLights holds images against the model whose values go below 0 and above 255.
func TestSpreadBeyondLights(t *testing.T) {
	below, above := 0, 0
	for seed := range 400 {
		m := painted(6, scattered(36, seed, 85)...)
		p := paletteFrom(2+seed%4, scattered(100, seed+1000, 51))
		want, least, greatest := spreadModel(m, p)
		q, code := impl.SpreadPicture(m, p)
		wantRows(t, "spread", q, code, rowsOf(want)...)
		if least < 0 {
			below++
		}
		if greatest > 255 {
			above++
		}
	}
	if below < 50 || above < 50 {
		t.Errorf("only %d images have values below 0, and %d above 255", below, above)
	}
}

func TestSpreadByHand(t *testing.T) {
	p := impl.Palette{black, white}
	for _, c := range []struct {
		name string
		wide int
		list []uint8
		want []string
	}{
		// 128 is white, the rest -127; to the east go -889/16, rounded down -56; 72 is black.
		{"example", 2, []uint8{128, 128}, []string{"ba"}},
		// 127 is black, the rest 127; to the east go 889/16, rounded down 55; 72 + 55 = 127 is black, 73 + 55 = 128 is white.
		{"rounded down", 2, []uint8{127, 72}, []string{"aa"}},
		{"rounded down, one more", 2, []uint8{127, 73}, []string{"ab"}},
		// -127 spread to the east is -55.56: 183 - 56 = 127 is black, with -55 it would be white.
		{"rounded down below 0", 2, []uint8{128, 183}, []string{"ba"}},
		{"rounded down below 0, one more", 2, []uint8{128, 184}, []string{"bb"}},
		// To the south goes 5 * 127 / 16 = 39, and of -127 -40.
		{"south", 1, []uint8{127, 88}, []string{"a", "a"}},
		{"south, one more", 1, []uint8{127, 89}, []string{"a", "b"}},
		{"south below 0", 1, []uint8{128, 167}, []string{"b", "a"}},
		{"south below 0, one more", 1, []uint8{128, 168}, []string{"b", "b"}},
		// The first cell spreads nothing, the second one has the rest 127: 3 * 127 / 16 = 23 go to the south-west.
		{"south-west", 2, []uint8{0, 127, 104, 0}, []string{"aa", "aa"}},
		{"south-west, one more", 2, []uint8{0, 127, 105, 0}, []string{"aa", "ba"}},
		// The first cell has the rest 127: 55 to the east, which is 55 there; 39 to the south, 7 to the south-east. The second one spreads 55: 10 to the south-west, 17 to the south.
		// The third one has 39 + 10 = 49, and spreads 21 to the east; the last one has 7 + 17 + 21 = 45 more than it had.
		{"south-east", 2, []uint8{127, 0, 0, 82}, []string{"aa", "aa"}},
		{"south-east, one more", 2, []uint8{127, 0, 0, 83}, []string{"aa", "ab"}},
		// What goes beyond the east does not come back in the next row.
		{"lost in the east", 1, []uint8{127, 0, 127}, []string{"a", "a", "b"}},
	} {
		q, code := impl.SpreadPicture(painted(c.wide, greys(c.list...)...), p)
		wantRows(t, c.name, q, code, c.want...)
	}
}

// TestSpreadClampedByHand has values beyond 0 and 255 to which, as they are, another tone would be nearer than to 0 and 255.
func TestSpreadClampedByHand(t *testing.T) {
	// The first cell is the tone 1 with the rest 23, of which 10 go to the east. To a red of 255 the tone 1 is nearer (72075 to 72600), to 265 the tone 2 would be (81675 to 72900).
	q, code := impl.SpreadPicture(painted(2, impl.Tone{123, 0, 0}, impl.Tone{255, 0, 0}), impl.Palette{{100, 0, 0}, {255, 110, 0}})
	wantRows(t, "above 255", q, code, "aa")
	// The same with the rest -23, of which -11 go to the east.
	q, code = impl.SpreadPicture(painted(2, impl.Tone{132, 0, 0}, impl.Tone{0, 0, 0}), impl.Palette{{155, 0, 0}, {0, 110, 0}})
	wantRows(t, "below 0", q, code, "aa")
	// The whole rest is spread: of 255 + 55 it is 55, of which 24 go to the east; of 0 - 56 it is -56, of which -25 go there.
	for text, list := range map[string][]uint8{"abb": {127, 255, 104}, "aba": {127, 255, 103}, "baa": {128, 0, 152}, "bab": {128, 0, 153}} {
		q, code = impl.SpreadPicture(painted(3, greys(list...)...), impl.Palette{black, white})
		wantRows(t, "whole rest", q, code, text)
	}
}

// TestSpreadOfOneTone has no choice: all cells get the only colour, however far the values go.
func TestSpreadOfOneTone(t *testing.T) {
	for _, m := range sampleImages() {
		for _, tone := range []impl.Tone{black, grey, white} {
			want := impl.Picture{Wide: m.Wide, High: m.High}
			for _, cell := range cellsIn(m) {
				want.Cells[cell] = 1
			}
			q, code := impl.SpreadPicture(m, impl.Palette{tone})
			wantRows(t, "one tone", q, code, rowsOf(want)...)
		}
	}
}

// TestSpreadOfOwnTones has nothing to spread.
func TestSpreadOfOwnTones(t *testing.T) {
	for count := range 15 {
		p := paletteFrom(count+1, scattered(100, count, 1))
		q := patterned(12, 9, count+1)
		m := impl.Image{Wide: q.Wide, High: q.High}
		for _, cell := range cellsOf(q) {
			m.Tones[cell] = p[q.Cells[cell]]
			q.Cells[cell]++
		}
		got, code := impl.SpreadPicture(m, p)
		wantRows(t, "own tones", got, code, rowsOf(q)...)
	}
}
