package tests

import (
	"slices"

	"loop.example/g01322/impl"
)

// The models of these tests tell what the document requires cell by cell and tone by tone, without the functions that are tested.

var (
	black = impl.Tone{0, 0, 0}
	grey  = impl.Tone{128, 128, 128}
	white = impl.Tone{255, 255, 255}
)

// painted returns the image of a width with the given tones, row by row.
func painted(wide int, tones ...impl.Tone) impl.Image {
	m := impl.Image{Wide: int8(wide), High: int8(len(tones) / wide)}
	for i, tone := range tones {
		m.Tones[i%wide+12*(i/wide)] = tone
	}
	return m
}

// greys returns a tone without colour for each number.
func greys(list ...uint8) []impl.Tone {
	var tones []impl.Tone
	for _, n := range list {
		tones = append(tones, impl.Tone{n, n, n})
	}
	return tones
}

// scattered returns tones that follow a rule without order; all lights are multiples of step.
func scattered(count, seed int, step uint8) []impl.Tone {
	var tones []impl.Tone
	state := uint32(seed)*2654435761 + uint32(step)
	for range count {
		var tone impl.Tone
		for light := range tone {
			state = state*1664525 + 1013904223
			tone[light] = uint8(state>>20) / step * step
		}
		tones = append(tones, tone)
	}
	return tones
}

// paletteFrom returns the palette with the first tones of a list that are different.
func paletteFrom(count int, tones []impl.Tone) impl.Palette {
	var p impl.Palette
	for _, tone := range tones {
		if len(p) < count && !slices.Contains(p, tone) {
			p = append(p, tone)
		}
	}
	return p
}

// samplePalettes have all numbers of tones from 1 to 15; many of their tones are at equal distances of others.
func samplePalettes() []impl.Palette {
	list := []impl.Palette{
		{black}, {white}, {grey}, {black, white}, {white, black}, {black, grey, white},
		{{2, 0, 0}, {0, 0, 0}}, {{255, 0, 0}, {0, 255, 0}, {0, 0, 255}}, {{0, 0, 1}, {0, 1, 0}, {1, 0, 0}, {0, 0, 0}},
		{{255, 255, 0}, {0, 0, 255}}, {{100, 200, 0}, {255, 40, 90}},
	}
	for count := 1; count <= 15; count++ {
		list = append(list, paletteFrom(count, scattered(100, count, 1)), paletteFrom(count, scattered(200, count, 64)))
	}
	return list
}

// sampleImages have the least and the greatest sizes and some between, with few and with many tones.
func sampleImages() []impl.Image {
	list := []impl.Image{
		painted(1, black), painted(1, white), painted(2, grey, grey), painted(1, grey, grey),
		painted(3, greys(0, 128, 255)...), painted(3, greys(10, 20, 200)...), painted(3, greys(9, 0, 9, 9, 9, 0)...),
	}
	for i, size := range [][2]int{{1, 1}, {2, 2}, {3, 5}, {7, 4}, {12, 1}, {1, 12}, {11, 12}, {12, 11}, {12, 12}} {
		for _, step := range []uint8{1, 64, 128} {
			list = append(list, painted(size[0], scattered(size[0]*size[1], i, step)...))
		}
	}
	return append(list, painted(12, slices.Repeat([]impl.Tone{white}, 144)...), painted(12, slices.Repeat([]impl.Tone{{1, 0, 2}}, 144)...))
}

// invalidImages have each one thing that makes them invalid.
func invalidImages() map[string]impl.Image {
	with := func(m impl.Image, number int, tone impl.Tone) impl.Image {
		m.Tones[number] = tone
		return m
	}
	small := painted(3, scattered(6, 1, 1)...)
	narrow := painted(11, scattered(132, 1, 1)...)
	low := painted(12, scattered(132, 1, 1)...)
	list := map[string]impl.Image{
		"east of a row":     with(small, 3, impl.Tone{1, 0, 0}),
		"east of last row":  with(small, 23, impl.Tone{0, 1, 0}),
		"south of all rows": with(small, 24, impl.Tone{0, 0, 1}),
		"last number":       with(small, 143, white),
		"east of 11":        with(narrow, 143, impl.Tone{0, 0, 1}),
		"south of 11":       with(low, 132, impl.Tone{0, 1, 0}),
	}
	// Sizes that no picture has are sizes that no image has.
	for name, p := range invalidPictures() {
		if p.Cells == [144]uint8{} {
			list[name] = impl.Image{Wide: p.Wide, High: p.High}
		}
	}
	return list
}

// invalidPalettes have each one thing that makes them invalid.
func invalidPalettes() map[string]impl.Palette {
	return map[string]impl.Palette{
		"nil":            nil,
		"empty":          {},
		"16 tones":       paletteFrom(16, scattered(100, 1, 1)),
		"twice":          {black, black},
		"first and last": append(paletteFrom(14, scattered(100, 2, 1)), scattered(1, 2, 1)...),
		"in between":     {white, grey, black, grey, {1, 2, 3}},
		"a million":      make(impl.Palette, 1000000),
	}
}

// cellsIn returns the numbers of the cells of an image.
func cellsIn(m impl.Image) []int64 { return cellsOf(impl.Picture{Wide: m.Wide, High: m.High}) }

// apart tells how far two tones are apart.
func apart(a, b impl.Tone) int64 {
	sum := int64(0)
	for light, weight := range []int64{3, 6, 1} {
		sum += weight * (int64(a[light]) - int64(b[light])) * (int64(a[light]) - int64(b[light]))
	}
	return sum
}

// closest tells the nearest tone: the least colour from which no other tone is nearer.
func closest(p impl.Palette, a impl.Tone) int64 {
	for colour := range p {
		if !slices.ContainsFunc(p, func(other impl.Tone) bool { return apart(other, a) < apart(p[colour], a) }) {
			return int64(colour) + 1
		}
	}
	return 0
}

// closestPicture tells the picture in which each cell has the nearest tone.
func closestPicture(m impl.Image, p impl.Palette) impl.Picture {
	q := impl.Picture{Wide: m.Wide, High: m.High}
	for _, cell := range cellsIn(m) {
		q.Cells[cell] = uint8(closest(p, m.Tones[cell]))
	}
	return q
}

// priceOf tells what an image costs with some tones.
func priceOf(m impl.Image, some impl.Palette) int64 {
	sum := int64(0)
	for _, cell := range cellsIn(m) {
		sum += apart(m.Tones[cell], some[closest(some, m.Tones[cell])-1])
	}
	return sum
}

// withColours returns the tones of some colours.
func withColours(p impl.Palette, colours []int64) impl.Palette {
	var some impl.Palette
	for _, colour := range colours {
		some = append(some, p[colour-1])
	}
	return some
}
