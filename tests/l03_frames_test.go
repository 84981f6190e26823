package tests

import (
	"slices"
	"testing"

	"loop.example/g01322/impl"
)

// goodFrames have the least and the greatest sizes, and some between.
func goodFrames() []impl.Frame {
	return []impl.Frame{{Wide: 1, High: 1}, {Wide: 8, High: 3}, {Wide: 3, High: 8}, {Wide: 1000, High: 1}, {Wide: 1, High: 1000}, {Wide: 1000, High: 1000}}
}

func badFrames() []impl.Frame {
	var list []impl.Frame
	for _, number := range []int16{0, -1, 1001, -1000, 32767, -32768} {
		list = append(list, impl.Frame{Wide: number, High: 5}, impl.Frame{Wide: 5, High: number}, impl.Frame{Wide: number, High: number})
	}
	return list
}

func isInFrame(f impl.Frame, s impl.Stone) bool {
	return !slices.ContainsFunc(s, func(c impl.Corner) bool { return c.X < 0 || c.Y < 0 || c.X > f.Wide || c.Y > f.High })
}

// faultModel tells the first fault of a lay of valid stones, and whether there is one.
func faultModel(f impl.Frame, list []impl.Stone) ([2]int64, bool) {
	for i, s := range list {
		if !isInFrame(f, s) {
			return [2]int64{int64(i), -1}, true
		}
	}
	for i := range list {
		for k := i + 1; k < len(list); k++ {
			if meetingModel(list[i], list[k]).overlap {
				return [2]int64{int64(i), int64(k)}, true
			}
		}
	}
	return [2]int64{}, false
}

func seamsModel(list []impl.Stone) [][2]int64 {
	var seams [][2]int64
	for i := range list {
		for k := i + 1; k < len(list); k++ {
			if meetingModel(list[i], list[k]).seamSquare > 0 {
				seams = append(seams, [2]int64{int64(i), int64(k)})
			}
		}
	}
	return seams
}

// box returns the stone with four corners from the least to the greatest place.
func box(west, north, east, south int16) impl.Stone {
	return impl.Stone{{X: west, Y: north}, {X: east, Y: north}, {X: east, Y: south}, {X: west, Y: south}}
}

// grid returns stones of one size, row by row, that touch each other.
func grid(columns, rows, wide, high int16) []impl.Stone {
	var list []impl.Stone
	for y := range rows {
		for x := range columns {
			list = append(list, box(x*wide, y*high, (x+1)*wide, (y+1)*high))
		}
	}
	return list
}

func TestInFrame(t *testing.T) {
	f := impl.Frame{Wide: 8, High: 3}
	for text, want := range map[string]bool{
		"0,0 8,0 8,3 0,3": true, "0,0 4,0 4,3 0,3": true, "1,1 2,1 2,2": true, "8,2 8,3 7,3": true, "0,0 1,0 0,1": true,
		"0,0 9,0 8,3": false, "-1,0 8,0 8,3": false, "0,-1 8,0 8,3": false, "0,0 8,0 8,4": false, "9,0 10,0 10,1": false, "3,4 4,4 4,5": false, "-3,-3 -1,-3 -1,-1": false,
		"4,-1 9,2 4,4 -1,2": false,
	} {
		in, code := impl.InFrame(f, stone(text))
		wantTold(t, "in the frame", stone(text), in, code, want)
	}
	for _, f := range goodFrames() {
		for _, s := range append(sampleStones(), box(0, 0, f.Wide, f.High), box(0, 0, f.Wide, f.High+1), box(0, 0, f.Wide+1, f.High)) {
			if !isStone(s) {
				continue
			}
			in, code := impl.InFrame(f, s)
			wantTold(t, "in the frame", s, in, code, isInFrame(f, s))
		}
	}
	for _, f := range badFrames() {
		in, code := impl.InFrame(f, box(0, 0, 1, 1))
		wantEqual(t, "a bad frame", []any{in, code}, []any{false, int64(impl.ErrInvalid)})
	}
}

func TestFirstFault(t *testing.T) {
	f := impl.Frame{Wide: 8, High: 3}
	west, east, both, outer := box(0, 0, 4, 3), box(4, 0, 8, 3), box(3, 1, 5, 2), box(7, 0, 9, 3)
	for _, c := range []struct {
		name string
		list []impl.Stone
		i, k int64
		code int64
	}{
		{"nil", nil, 0, 0, impl.ErrNotFound},
		{"empty", []impl.Stone{}, 0, 0, impl.ErrNotFound},
		{"one", []impl.Stone{west}, 0, 0, impl.ErrNotFound},
		{"two that touch", []impl.Stone{west, east}, 0, 0, impl.ErrNotFound},
		{"the same twice", []impl.Stone{west, west}, 0, 1, impl.OK},
		{"one within", []impl.Stone{box(0, 0, 8, 3), both}, 0, 1, impl.OK},
		{"a cross", []impl.Stone{box(0, 1, 8, 2), box(3, 0, 4, 3)}, 0, 1, impl.OK},
		{"outside", []impl.Stone{outer}, 0, -1, impl.OK},
		{"outside, the second", []impl.Stone{west, outer}, 1, -1, impl.OK},
		{"outside, the least index", []impl.Stone{west, outer, east, outer}, 1, -1, impl.OK},
		{"outside, behind two that overlap", []impl.Stone{west, both, outer}, 2, -1, impl.OK},
		{"two that overlap", []impl.Stone{west, east, both}, 0, 2, impl.OK},
		{"the lesser one is the last of those ahead", []impl.Stone{box(0, 0, 1, 1), box(1, 1, 2, 2), east, both}, 2, 3, impl.OK},
		{"the first pair, not the first that is complete", []impl.Stone{west, box(5, 0, 7, 3), box(6, 0, 8, 3), box(1, 1, 2, 2)}, 0, 3, impl.OK},
		{"of two with the same lesser one, the first", []impl.Stone{box(0, 0, 8, 3), box(1, 1, 2, 2), both}, 0, 1, impl.OK},
	} {
		i, k, code := impl.FirstFault(f, c.list)
		if i != c.i || k != c.k || code != c.code {
			t.Errorf("%s: got %d, %d with the code %d", c.name, i, k, code)
		}
		wantEqual(t, c.name+", valid", impl.ValidLay(f, c.list), code == impl.ErrNotFound)
	}
}

// TestNumberOfStones has lays with up to MaxStones stones, and more.
func TestNumberOfStones(t *testing.T) {
	f := impl.Frame{Wide: 1000, High: 1000}
	full := grid(8, 5, 125, 200)
	wantEqual(t, "40 stones", impl.ValidLay(f, full), true)
	bare, code := impl.BareTwice(f, full)
	wantEqual(t, "bare", []int64{bare, code}, []int64{0, impl.OK})
	seams, code := impl.SeamsIn(f, full)
	wantEqual(t, "seams", []any{seams, code}, []any{seamsModel(full), int64(impl.OK)})
	at, code := impl.StoneAt(f, full, 1000, 1000)
	wantEqual(t, "at the end", []int64{at, code}, []int64{39, impl.OK})
	_, _, code = impl.FirstFault(f, full)
	wantEqual(t, "no fault", code, int64(impl.ErrNotFound))

	more := grid(41, 1, 10, 10)
	wantEqual(t, "41 stones", impl.ValidLay(f, more), false)
	wantEqual(t, "40 of them", impl.ValidLay(f, more[:40]), true)
	_, _, code = impl.FirstFault(f, more)
	wantEqual(t, "41 stones", code, int64(impl.ErrInvalid))
	_, _, code = impl.FirstFault(f, slices.Repeat(more[:1], 41))
	wantEqual(t, "41 times one", code, int64(impl.ErrInvalid))
	i, k, code := impl.FirstFault(f, slices.Repeat(more[:1], 40))
	wantEqual(t, "40 times one", []int64{i, k, code}, []int64{0, 1, impl.OK})
	i, k, code = impl.FirstFault(f, append(slices.Clone(more[:39]), more[38]))
	wantEqual(t, "the last two", []int64{i, k, code}, []int64{38, 39, impl.OK})
}

// scatteredLays have few stones in a small frame, so that many of them are valid and many are not.
func scatteredLays() [][]impl.Stone {
	pool := scatteredStones(60, 3)
	var lays [][]impl.Stone
	for seed := range 400 {
		var list []impl.Stone
		for i, c := range scatteredCorners(seed%5, seed, 9) {
			var moved impl.Stone
			for _, corner := range pool[(seed*7+i*13)%len(pool)] {
				moved = append(moved, impl.Corner{X: corner.X + c.X, Y: corner.Y + c.Y})
			}
			list = append(list, moved)
		}
		lays = append(lays, list)
	}
	return lays
}

func TestScatteredLays(t *testing.T) {
	f := impl.Frame{Wide: 12, High: 11}
	counts := map[string]int{}
	for _, list := range scatteredLays() {
		want, faulty := faultModel(f, list)
		wantCode := int64(impl.ErrNotFound)
		if faulty {
			wantCode = impl.OK
		}
		i, k, code := impl.FirstFault(f, list)
		if [2]int64{i, k} != want || code != wantCode {
			t.Errorf("%v: got %d, %d with the code %d, want %v", list, i, k, code, want)
		}
		wantEqual(t, "valid", impl.ValidLay(f, list), !faulty)
		switch {
		case !faulty:
			counts["none"]++
		case want[1] < 0:
			counts["outside"]++
		default:
			counts["overlap"]++
		}
		bare, code := impl.BareTwice(f, list)
		seams, seamsCode := impl.SeamsIn(f, list)
		if faulty {
			wantEqual(t, "bare and seams of no lay", []any{bare, code, len(seams), seamsCode}, []any{int64(0), int64(impl.ErrInvalid), 0, int64(impl.ErrInvalid)})
			continue
		}
		covered := int64(0)
		for _, s := range list {
			covered += areaModel(s)
		}
		wantEqual(t, "bare", []int64{bare, code}, []int64{2*12*11 - covered, impl.OK})
		wantEqual(t, "seams", []any{len(seams), seamsCode}, []any{len(seamsModel(list)), int64(impl.OK)})
		wantEqual(t, "each seam", slices.Equal(seams, seamsModel(list)), true)
	}
	for _, kind := range []string{"none", "outside", "overlap"} {
		if counts[kind] < 30 {
			t.Errorf("only %d lays of the kind %s", counts[kind], kind)
		}
	}
}

// TestPromise8EmptyFrames: an empty lay leaves all of the frame bare.
func TestPromise8EmptyFrames(t *testing.T) {
	for _, f := range goodFrames() {
		for _, list := range [][]impl.Stone{nil, {}} {
			wantEqual(t, "valid", impl.ValidLay(f, list), true)
			bare, code := impl.BareTwice(f, list)
			wantEqual(t, "bare", []int64{bare, code}, []int64{2 * int64(f.Wide) * int64(f.High), impl.OK})
			_, code = impl.StoneAt(f, list, 0, 0)
			wantEqual(t, "no stone", code, int64(impl.ErrNotFound))
			seams, code := impl.SeamsIn(f, list)
			wantEqual(t, "no seams", []int64{int64(len(seams)), code}, []int64{0, impl.OK})
		}
	}
}

// TestPromise8BareQuarters counts the quarters of all cells of a frame that are in no stone: of stones whose edges run along cells or through their corners, each quarter is within or outside as a whole.
func TestPromise8BareQuarters(t *testing.T) {
	for _, c := range []struct {
		f     impl.Frame
		texts []string
	}{
		{impl.Frame{Wide: 8, High: 3}, []string{"0,0 4,0 4,3 0,3"}},
		{impl.Frame{Wide: 6, High: 6}, []string{octagon}},
		{impl.Frame{Wide: 6, High: 6}, []string{octagon, "0,0 2,0 0,2", "6,4 6,6 4,6"}},
		{impl.Frame{Wide: 9, High: 8}, []string{diamond, "2,4 4,2 6,4 4,6", "6,0 9,0 9,3", "0,7 1,7 1,8 0,8"}},
		{impl.Frame{Wide: 4, High: 4}, []string{"0,0 4,0 2,2", "4,0 4,4 2,2", "4,4 0,4 2,2", "0,4 0,0 2,2"}},
		{impl.Frame{Wide: 12, High: 10}, []string{"2,0 5,0 7,2 7,3 3,7 2,7 0,5 0,2", "7,3 10,6 6,10 3,7", "12,0 12,10 11,9 11,1"}},
	} {
		list := stones(c.texts...)
		quarters := int64(0)
		for x := range c.f.Wide {
			for y := range c.f.High {
				for _, middle := range [][2]int16{{3, 1}, {5, 3}, {3, 5}, {1, 3}} {
					if !slices.ContainsFunc(list, func(s impl.Stone) bool {
						return placeModel(sixfold(s), impl.Corner{X: 6*x + middle[0], Y: 6*y + middle[1]}) != 0
					}) {
						quarters++
					}
				}
			}
		}
		wantSum(t, c.f, list)
		bare, _ := impl.BareTwice(c.f, list)
		wantEqual(t, "bare", 2*bare, quarters)
	}
}

// sixfold returns a stone in a plane in which the middles of quarters of cells are points.
func sixfold(s impl.Stone) impl.Stone {
	var big impl.Stone
	for _, c := range s {
		big = append(big, impl.Corner{X: 6 * c.X, Y: 6 * c.Y})
	}
	return big
}

// wantSum checks that areas of stones and what is bare sum to the frame.
func wantSum(t *testing.T, f impl.Frame, list []impl.Stone) {
	t.Helper()
	sum, code := impl.BareTwice(f, list)
	if code != impl.OK {
		t.Errorf("%v: got the code %d", list, code)
	}
	for _, s := range list {
		area, _ := impl.AreaTwice(s)
		sum += area
	}
	wantEqual(t, "sum", sum, 2*int64(f.Wide)*int64(f.High))
}

// TestPromise8SplitFrames cuts a stone of the size of a frame again and again: together the parts leave nothing bare, and without one of them, this one's area is.
func TestPromise8SplitFrames(t *testing.T) {
	for _, f := range []impl.Frame{{Wide: 6, High: 6}, {Wide: 1000, High: 1000}, {Wide: 1000, High: 7}} {
		w, h := f.Wide, f.High
		// Around the ring of 8 corners lie four stones in the corners of the frame.
		list := []impl.Stone{
			{{X: 0, Y: 0}, {X: 2, Y: 0}, {X: 0, Y: 2}}, {{X: w - 2, Y: 0}, {X: w, Y: 0}, {X: w, Y: 2}},
			{{X: w, Y: h - 2}, {X: w, Y: h}, {X: w - 2, Y: h}}, {{X: 2, Y: h}, {X: 0, Y: h}, {X: 0, Y: h - 2}},
		}
		rest := impl.Stone{{X: 2, Y: 0}, {X: w - 2, Y: 0}, {X: w, Y: 2}, {X: w, Y: h - 2}, {X: w - 2, Y: h}, {X: 2, Y: h}, {X: 0, Y: h - 2}, {X: 0, Y: 2}}
		for len(rest) > 3 {
			part, left := splitModel(rest, len(rest)-2, 0)
			list, rest = append(list, part), left
		}
		list = append(list, rest)
		wantSum(t, f, list)
		bare, code := impl.BareTwice(f, list)
		wantEqual(t, "nothing bare", []int64{bare, code}, []int64{0, impl.OK})
		for i, s := range list {
			fewer := slices.Delete(slices.Clone(list), i, i+1)
			wantSum(t, f, fewer)
			bare, code := impl.BareTwice(f, fewer)
			wantEqual(t, "bare without one", []int64{bare, code}, []int64{areaModel(s), impl.OK})
		}
	}
}

func TestStoneAt(t *testing.T) {
	f := impl.Frame{Wide: 8, High: 3}
	list := stones("0,0 4,0 4,3 0,3", "4,0 7,0 4,3", "7,0 7,3 4,3")
	for place, want := range map[[2]int64][2]int64{
		{0, 0}: {0, impl.OK}, {2, 1}: {0, impl.OK}, {4, 0}: {0, impl.OK}, {4, 1}: {0, impl.OK}, {4, 3}: {0, impl.OK}, {0, 3}: {0, impl.OK}, {5, 1}: {1, impl.OK}, {7, 0}: {1, impl.OK},
		{6, 1}: {1, impl.OK}, {6, 2}: {2, impl.OK}, {7, 1}: {2, impl.OK}, {7, 3}: {2, impl.OK}, {8, 0}: {0, impl.ErrNotFound}, {8, 3}: {0, impl.ErrNotFound},
		{9, 0}: {0, impl.ErrRange}, {-1, 0}: {0, impl.ErrRange}, {0, 4}: {0, impl.ErrRange}, {0, -1}: {0, impl.ErrRange}, {65536, 0}: {0, impl.ErrRange}, {2, 65537}: {0, impl.ErrRange},
	} {
		at, code := impl.StoneAt(f, list, place[0], place[1])
		if [2]int64{at, code} != want {
			t.Errorf("%v: got %d with the code %d, want %v", place, at, code, want)
		}
	}
	slices.Reverse(list)
	at, code := impl.StoneAt(f, list, 4, 3)
	wantEqual(t, "at a corner of all", []int64{at, code}, []int64{0, impl.OK})
	at, code = impl.StoneAt(f, list, 4, 0)
	wantEqual(t, "at a corner of two", []int64{at, code}, []int64{1, impl.OK})
}

// TestStonesAtAllPoints looks at all points of frames, and at those around them.
func TestStonesAtAllPoints(t *testing.T) {
	f := impl.Frame{Wide: 12, High: 11}
	for _, list := range scatteredLays() {
		if _, faulty := faultModel(f, list); faulty {
			continue
		}
		for x := int64(-1); x <= 13; x++ {
			for y := int64(-1); y <= 12; y++ {
				c := impl.Corner{X: int16(x), Y: int16(y)}
				index := slices.IndexFunc(list, func(s impl.Stone) bool { return placeModel(s, c) != 0 })
				want := [2]int64{int64(max(index, 0)), firstOf(outside(x < 0 || x > 12 || y < 0 || y > 11), missing(index < 0))}
				at, code := impl.StoneAt(f, list, x, y)
				if [2]int64{at, code} != want {
					t.Errorf("%v at %d, %d: got %d with the code %d, want %v", list, x, y, at, code, want)
				}
			}
		}
	}
}

func TestSeamsIn(t *testing.T) {
	f := impl.Frame{Wide: 8, High: 6}
	for _, c := range []struct {
		list []impl.Stone
		want [][2]int64
	}{
		{stones("0,0 4,0 4,3 0,3"), nil},
		{stones("0,0 4,0 4,3 0,3", "4,0 8,0 8,3 4,3"), [][2]int64{{0, 1}}},
		{stones("0,0 4,0 4,3 0,3", "4,3 8,3 8,6"), nil},
		{stones("0,0 4,0 4,3 0,3", "5,0 8,0 8,3 5,3"), nil},
		{stones("0,0 4,0 4,3 0,3", "4,2 8,0 8,6 4,5"), [][2]int64{{0, 1}}},
		{grid(2, 2, 4, 3), [][2]int64{{0, 1}, {0, 2}, {1, 3}, {2, 3}}},
		{grid(3, 2, 2, 2), [][2]int64{{0, 1}, {0, 3}, {1, 2}, {1, 4}, {2, 5}, {3, 4}, {4, 5}}},
		{stones("4,0 8,0 8,3 4,3", "0,3 8,3 8,6 0,6", "0,0 4,0 4,3 0,3"), [][2]int64{{0, 1}, {0, 2}, {1, 2}}},
		{stones("0,0 4,0 2,2", "4,0 4,4 2,2", "4,4 0,4 2,2", "0,4 0,0 2,2"), [][2]int64{{0, 1}, {0, 3}, {1, 2}, {2, 3}}},
	} {
		seams, code := impl.SeamsIn(f, c.list)
		if code != impl.OK || !slices.Equal(seams, c.want) {
			t.Errorf("%v: got %v with the code %d, want %v", c.list, seams, code, c.want)
		}
		wantEqual(t, "the model", slices.Equal(seamsModel(c.list), c.want), true)
	}
}
