package tests

import (
	"slices"
	"testing"

	"loop.example/g01322/impl"
)

func TestConstantsOfPalettes(t *testing.T) {
	wantEqual(t, "limits", []int{impl.MaxTones, impl.MaxChoice}, []int{15, 10})
}

func TestValidPalette(t *testing.T) {
	for _, p := range samplePalettes() {
		if !impl.ValidPalette(p) {
			t.Errorf("not valid: %v", p)
		}
	}
	for name, p := range invalidPalettes() {
		if impl.ValidPalette(p) {
			t.Errorf("valid: %s", name)
		}
	}
	wantEqual(t, "15 tones", impl.ValidPalette(paletteFrom(15, scattered(100, 1, 1))), true)
}

func TestValidImage(t *testing.T) {
	for _, m := range sampleImages() {
		if !impl.ValidImage(m) {
			t.Errorf("not valid: %v", m)
		}
	}
	for name, m := range invalidImages() {
		if impl.ValidImage(m) {
			t.Errorf("valid: %s", name)
		}
	}
}

// TestValidImageByNumbers sets each light of each number of images of all sizes in turn: only cells may have light.
func TestValidImageByNumbers(t *testing.T) {
	for wide := range int8(12) {
		for high := range int8(12) {
			frame := impl.Picture{Wide: wide + 1, High: high + 1}
			for number := range int64(144) {
				for light := range 3 {
					m := impl.Image{Wide: wide + 1, High: high + 1}
					m.Tones[number][light] = 1
					if impl.ValidImage(m) != has(frame, number%12, number/12) {
						t.Errorf("%d by %d with light at the number %d: wrong", wide+1, high+1, number)
					}
				}
			}
		}
	}
}

func TestSamePalette(t *testing.T) {
	list := []impl.Palette{nil, {black}, {white}, {black, white}, {white, black}, {black, black}, {{0, 0, 1}}, {{0, 1, 0}}, {{1, 0, 0}}, make(impl.Palette, 20), make(impl.Palette, 21)}
	for i, a := range list {
		for k, b := range list {
			wantEqual(t, "same", impl.SamePalette(a, slices.Clone(b)), i == k)
		}
	}
	wantEqual(t, "nil and empty", impl.SamePalette(nil, impl.Palette{}), true)
	wantEqual(t, "empty and nil", impl.SamePalette(impl.Palette{}, nil), true)
}

func TestFarOf(t *testing.T) {
	for _, c := range []struct {
		a, b impl.Tone
		want int64
	}{
		{black, black, 0}, {white, white, 0}, {black, white, 650250}, {white, black, 650250},
		{black, impl.Tone{1, 0, 0}, 3}, {black, impl.Tone{0, 1, 0}, 6}, {black, impl.Tone{0, 0, 1}, 1},
		{impl.Tone{255, 0, 0}, black, 195075}, {impl.Tone{0, 255, 0}, black, 390150}, {impl.Tone{0, 0, 255}, black, 65025},
		{impl.Tone{10, 20, 30}, impl.Tone{13, 18, 31}, 27 + 24 + 1}, {grey, white, 161290},
	} {
		wantEqual(t, "far", impl.FarOf(c.a, c.b), c.want)
	}
	tones := append(scattered(40, 1, 1), scattered(40, 2, 64)...)
	for _, a := range tones {
		for _, b := range tones {
			wantEqual(t, "far", impl.FarOf(a, b), apart(a, b))
		}
	}
}

func TestBrightnessOf(t *testing.T) {
	for a, want := range map[impl.Tone]int64{
		black: 0, white: 2550, {1, 0, 0}: 3, {0, 1, 0}: 6, {0, 0, 1}: 1, {255, 0, 0}: 765, {0, 255, 0}: 1530, {0, 0, 255}: 255, {10, 5, 0}: 60, {1, 2, 3}: 18,
	} {
		wantEqual(t, "brightness", impl.BrightnessOf(a), want)
	}
}

func wantNearest(t *testing.T, p impl.Palette, a impl.Tone, colour int64) {
	t.Helper()
	got, far, code := impl.NearestTone(p, a)
	if got != colour || far != apart(p[colour-1], a) || code != impl.OK {
		t.Errorf("%v in %v: got the colour %d, far %d, with the code %d, want the colour %d", a, p, got, far, code, colour)
	}
}

func TestPromise4NearestTone(t *testing.T) {
	for i, p := range samplePalettes() {
		for _, a := range append(append(scattered(60, i, 1), scattered(60, i, 32)...), p...) {
			wantNearest(t, p, a, closest(p, a))
		}
	}
	at, far, code := impl.NearestTone(impl.Palette{black, white}, grey)
	wantEqual(t, "example", []int64{at, far, code}, []int64{2, 161290, impl.OK})
}

// TestPromise4AllSmallTones holds all tones with lights from 0 to 2 against all palettes of one and of two of them.
func TestPromise4AllSmallTones(t *testing.T) {
	var tones []impl.Tone
	for n := range 27 {
		tones = append(tones, impl.Tone{uint8(n / 9), uint8(n / 3 % 3), uint8(n % 3)})
	}
	for _, a := range tones {
		for _, b := range tones {
			wantNearest(t, impl.Palette{b}, a, 1)
			for _, c := range tones {
				if b == c {
					continue
				}
				colour := int64(1)
				if apart(c, a) < apart(b, a) {
					colour = 2
				}
				wantNearest(t, impl.Palette{b, c}, a, colour)
			}
		}
	}
}

func TestPromise4EqualDistances(t *testing.T) {
	one, two := impl.Tone{10, 0, 0}, impl.Tone{20, 0, 0}
	wantNearest(t, impl.Palette{one, two}, impl.Tone{15, 0, 0}, 1)
	wantNearest(t, impl.Palette{two, one}, impl.Tone{15, 0, 0}, 1)
	wantNearest(t, impl.Palette{black, one, two}, impl.Tone{15, 0, 0}, 2)
	wantNearest(t, impl.Palette{black, two, white, one}, impl.Tone{15, 0, 0}, 2)
	// 3 * 1 and 6 * 1 and 1 * 3 * 3: red and blue at different lights, but at equal distances.
	wantNearest(t, impl.Palette{{0, 0, 3}, {1, 1, 0}}, black, 1)
	wantNearest(t, impl.Palette{{1, 1, 0}, {0, 0, 3}}, black, 1)
	fifteen := impl.Palette{}
	for n := range uint8(15) {
		fifteen = append(fifteen, impl.Tone{100 + n, 0, 0})
	}
	wantNearest(t, fifteen, black, 1)
	wantNearest(t, fifteen, white, 15)
	slices.Reverse(fifteen)
	wantNearest(t, fifteen, black, 15)
}

func TestPromise4PictureOf(t *testing.T) {
	for _, m := range sampleImages() {
		for _, p := range samplePalettes() {
			q, code := impl.PictureOf(m, p)
			wantRows(t, "picture", q, code, rowsOf(closestPicture(m, p))...)
		}
	}
	q, code := impl.PictureOf(painted(3, greys(0, 128, 255)...), impl.Palette{black, white})
	wantRows(t, "greys", q, code, "abb")
	q, code = impl.PictureOf(painted(2, impl.Tone{15, 0, 0}, impl.Tone{16, 0, 0}, impl.Tone{14, 0, 0}, impl.Tone{15, 0, 0}), impl.Palette{{20, 0, 0}, {10, 0, 0}})
	wantRows(t, "equal distances", q, code, "aa", "ba")
}

// TestPromise4NoGreaterCost holds the picture of an image against all pictures of the palette, where there are few of them.
func TestPromise4NoGreaterCost(t *testing.T) {
	for seed := range 12 {
		for _, step := range []uint8{1, 64, 128} {
			m := painted(2, scattered(4, seed, step)...)
			p := paletteFrom(4, scattered(200, seed+50, step))
			least := costOfPicture(t, m, p)
			lowest := int64(-1)
			for number := range 256 {
				q := impl.Picture{Wide: 2, High: 2}
				for i, cell := range []int64{0, 1, 12, 13} {
					q.Cells[cell] = uint8(number>>(2*i)%4) + 1
				}
				cost, code := impl.CostOf(m, q, p)
				if code != impl.OK || cost < least {
					t.Errorf("%v of %v costs %d with the code %d, the picture of the image %d", rowsOf(q), m, cost, code, least)
				}
				if lowest < 0 || cost < lowest {
					lowest = cost
				}
			}
			wantEqual(t, "the least cost", least, lowest)
		}
	}
}

// TestPromise4NoGreaterCostOfOneCell changes each cell of pictures of images to each other colour.
func TestPromise4NoGreaterCostOfOneCell(t *testing.T) {
	for _, m := range sampleImages() {
		p := paletteFrom(15, scattered(100, 3, 1))
		least := costOfPicture(t, m, p)
		for _, cell := range cellsIn(m) {
			for colour := range uint8(15) {
				q, _ := impl.PictureOf(m, p)
				q.Cells[cell] = colour + 1
				if cost, code := impl.CostOf(m, q, p); code != impl.OK || cost < least {
					t.Errorf("with the colour %d at %d: %d with the code %d, less than %d", colour+1, cell, cost, code, least)
				}
			}
		}
	}
}

// costOfPicture returns the cost of the picture of an image, which is that of the nearest tones.
func costOfPicture(t *testing.T, m impl.Image, p impl.Palette) int64 {
	t.Helper()
	q, _ := impl.PictureOf(m, p)
	cost, code := impl.CostOf(m, q, p)
	wantEqual(t, "cost of the picture", []int64{cost, code}, []int64{priceOf(m, p), impl.OK})
	return cost
}

func TestCostOf(t *testing.T) {
	p := impl.Palette{black, white}
	for _, c := range []struct {
		rows []string
		want int64
	}{
		{[]string{"ab"}, 0}, {[]string{"aa"}, 650250}, {[]string{"ba"}, 1300500}, {[]string{".."}, 0}, {[]string{".a"}, 650250}, {[]string{"b."}, 650250},
	} {
		cost, code := impl.CostOf(painted(2, black, white), drawn(c.rows...), p)
		wantEqual(t, "cost", []int64{cost, code}, []int64{c.want, impl.OK})
	}
	for _, m := range sampleImages() {
		for count := range 15 {
			p := paletteFrom(count+1, scattered(100, count, 1))
			q := patterned(int(m.Wide), int(m.High), count+2)
			want := int64(0)
			for _, cell := range cellsIn(m) {
				if q.Cells[cell] != 0 {
					want += apart(m.Tones[cell], p[q.Cells[cell]-1])
				}
			}
			cost, code := impl.CostOf(m, q, p)
			wantEqual(t, "cost", []int64{cost, code}, []int64{want, impl.OK})
		}
	}
}

func TestImageOf(t *testing.T) {
	ground := impl.Tone{7, 8, 9}
	m, code := impl.ImageOf(drawn("ab.", ".ba"), impl.Palette{black, white}, ground)
	wantEqual(t, "code", code, int64(impl.OK))
	wantEqual(t, "image", m, painted(3, black, white, ground, ground, white, black))
	for count := range 15 {
		p := paletteFrom(count+1, scattered(100, count, 1))
		for _, size := range [][2]int{{1, 1}, {5, 3}, {12, 12}} {
			q := patterned(size[0], size[1], count+2)
			want := impl.Image{Wide: q.Wide, High: q.High}
			for _, cell := range cellsOf(q) {
				want.Tones[cell] = append(impl.Palette{ground}, p...)[q.Cells[cell]]
			}
			m, code := impl.ImageOf(q, p, ground)
			wantEqual(t, "code", code, int64(impl.OK))
			wantEqual(t, "image", m, want)
		}
	}
}

// TestImagesAreMadeAgain checks that an image of the tones of a palette is made again from its picture, and a picture of stones from its image.
func TestImagesAreMadeAgain(t *testing.T) {
	for count := range 15 {
		p := paletteFrom(count+1, scattered(100, count, 1))
		q := patterned(7, 12, count+1)
		for _, cell := range cellsOf(q) {
			q.Cells[cell]++
		}
		m, one := impl.ImageOf(q, p, impl.Tone{1, 2, 3})
		back, two := impl.PictureOf(m, p)
		again, three := impl.ImageOf(back, p, impl.Tone{3, 2, 1})
		cost, four := impl.CostOf(m, back, p)
		wantEqual(t, "codes and cost", []int64{one, two, three, four, cost}, []int64{impl.OK, impl.OK, impl.OK, impl.OK, 0})
		wantEqual(t, "picture", back, q)
		wantEqual(t, "image", again, m)
	}
}

func TestTonesIn(t *testing.T) {
	for _, m := range sampleImages() {
		var want impl.Palette
		// One after the other, the least tone behind the one before it.
		for {
			least := -1
			for number, a := range m.Tones {
				if slices.Contains(cellsIn(m), int64(number)) && !slices.Contains(want, a) && (least < 0 || comesFirst(a, m.Tones[least])) {
					least = number
				}
			}
			if least < 0 {
				break
			}
			want = append(want, m.Tones[least])
		}
		code := int64(impl.OK)
		if len(want) > 15 {
			want, code = nil, impl.ErrLimit
		}
		p, got := impl.TonesIn(m)
		wantEqual(t, "code", got, code)
		wantEqual(t, "tones", p, want)
	}
}

// comesFirst tells whether a tone is less by brightness, then by red, then by green.
func comesFirst(a, b impl.Tone) bool {
	keys := func(a impl.Tone) []int64 {
		return []int64{3*int64(a[0]) + 6*int64(a[1]) + int64(a[2]), int64(a[0]), int64(a[1])}
	}
	return slices.Compare(keys(a), keys(b)) < 0
}

func TestTonesInOrder(t *testing.T) {
	// All but the first and the last one are as bright as 6.
	order := impl.Palette{{0, 0, 5}, {0, 0, 6}, {0, 1, 0}, {1, 0, 3}, {2, 0, 0}, {0, 0, 7}}
	p, code := impl.TonesIn(painted(3, order[4], order[2], order[5], order[0], order[3], order[1]))
	wantEqual(t, "code", code, int64(impl.OK))
	wantEqual(t, "tones", p, order)
	p, _ = impl.TonesIn(painted(2, white, white, white, white))
	wantEqual(t, "one tone", p, impl.Palette{white})
	p, _ = impl.TonesIn(painted(2, white, white))
	wantEqual(t, "numbers that are no cells", p, impl.Palette{white})
}

func TestTonesInLimit(t *testing.T) {
	tones := paletteFrom(16, scattered(100, 4, 1))
	p, code := impl.TonesIn(painted(5, tones[:15]...))
	wantEqual(t, "15 tones", []int64{int64(len(p)), code}, []int64{15, impl.OK})
	p, code = impl.TonesIn(painted(4, tones...))
	wantEqual(t, "16 tones", []int64{int64(len(p)), code}, []int64{0, impl.ErrLimit})
	p, code = impl.TonesIn(painted(6, append(slices.Clone(tones[:15]), tones[:3]...)...))
	wantEqual(t, "15 tones in 18 cells", []int64{int64(len(p)), code}, []int64{15, impl.OK})
}

func TestMeanTone(t *testing.T) {
	m := painted(2, black, white, impl.Tone{1, 2, 3}, impl.Tone{2, 4, 8})
	for _, c := range []struct {
		cells []int64
		want  impl.Tone
	}{
		{[]int64{0}, black}, {[]int64{1}, white}, {[]int64{0, 1}, impl.Tone{127, 127, 127}}, {[]int64{1, 0}, impl.Tone{127, 127, 127}},
		{[]int64{0, 1, 1}, impl.Tone{170, 170, 170}}, {[]int64{0, 1, 0}, impl.Tone{85, 85, 85}}, {[]int64{1, 1, 1, 0}, impl.Tone{191, 191, 191}},
		{[]int64{12, 13}, impl.Tone{1, 3, 5}}, {[]int64{13, 13}, impl.Tone{2, 4, 8}}, {[]int64{0, 1, 12, 13}, impl.Tone{64, 65, 66}},
	} {
		got, code := impl.MeanTone(m, c.cells)
		wantEqual(t, "code", code, int64(impl.OK))
		wantEqual(t, "mean", got, c.want)
	}
	all := painted(12, slices.Repeat([]impl.Tone{white}, 144)...)
	got, code := impl.MeanTone(all, slices.Repeat([]int64{143, 0}, 500000))
	wantEqual(t, "code of a million", code, int64(impl.OK))
	wantEqual(t, "mean of a million", got, white)
}

func TestMeanToneErrors(t *testing.T) {
	m := painted(2, black, white, grey, grey)
	for number := int64(-300); number <= 300; number++ {
		want := int64(impl.OK)
		if !slices.Contains([]int64{0, 1, 12, 13}, number) {
			want = impl.ErrRange
		}
		got, code := impl.MeanTone(m, []int64{0, number})
		wantEqual(t, "code", code, want)
		wantEqual(t, "tone beside a code", got == impl.Tone{}, code != impl.OK || number == 0)
	}
	for _, number := range numbers {
		want := int64(impl.OK)
		if !slices.Contains(cellsIn(m), number) {
			want = impl.ErrRange
		}
		_, code := impl.MeanTone(m, []int64{number, 1})
		wantEqual(t, "code", code, want)
	}
	for _, none := range [][]int64{nil, {}} {
		got, code := impl.MeanTone(m, none)
		wantEqual(t, "no cells", code, int64(impl.ErrNotFound))
		wantEqual(t, "no cells", got, impl.Tone{})
	}
}
