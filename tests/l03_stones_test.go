package tests

import (
	"slices"
	"testing"

	"loop.example/g01322/impl"
)

func wantStone(t *testing.T, name string, s impl.Stone, code int64, want string) {
	t.Helper()
	if code != impl.OK || writtenCorners(s) != want {
		t.Errorf("%s: got %v with the code %d, want %s", name, s, code, want)
	}
}

func wantTold(t *testing.T, name string, s impl.Stone, got any, code int64, want any) {
	t.Helper()
	if code != impl.OK {
		t.Errorf("%s of %v: got the code %d", name, s, code)
	}
	wantEqual(t, name+" of "+writtenCorners(s), got, want)
}

func TestValidStones(t *testing.T) {
	for _, s := range append(sampleStones(), smallStones()...) {
		if !isStone(s) {
			t.Fatalf("the sample %v is no stone", s)
		}
		for _, same := range allBeginnings(s) {
			wantEqual(t, writtenCorners(same), impl.ValidStone(same), true)
		}
		back := slices.Clone(s)
		slices.Reverse(back)
		wantEqual(t, "in the opposite order "+writtenCorners(back), impl.ValidStone(back), false)
	}
	for name, s := range invalidStones() {
		if isStone(s) {
			t.Fatalf("%s is a stone", name)
		}
		wantEqual(t, name, impl.ValidStone(s), false)
		if len(s) < 20 {
			for _, same := range allBeginnings(s) {
				wantEqual(t, name, impl.ValidStone(same), false)
			}
		}
	}
}

// TestAllSmallLists holds all lists of at most 5 corners with X and Y from 0 to 2 against the definition of a stone.
func TestAllSmallLists(t *testing.T) {
	for count, all := 0, 1; count <= 5; count, all = count+1, all*9 {
		for number := range all {
			var s impl.Stone
			for range count {
				s = append(s, impl.Corner{X: int16(number % 3), Y: int16(number / 3 % 3)})
				number /= 9
			}
			if impl.ValidStone(s) != isStone(s) {
				t.Errorf("%v: got %v", s, impl.ValidStone(s))
			}
		}
	}
}

// TestChangedStones moves one corner of a stone at a time.
func TestChangedStones(t *testing.T) {
	for _, s := range sampleStones()[:18] {
		for i := range s {
			for x := -3; x <= 3; x++ {
				for y := -3; y <= 3; y++ {
					changed := slices.Clone(s)
					changed[i].X += int16(x)
					changed[i].Y += int16(y)
					if impl.ValidStone(changed) != isStone(changed) {
						t.Errorf("%v: got %v", changed, impl.ValidStone(changed))
					}
				}
			}
		}
	}
}

func TestSameStone(t *testing.T) {
	a := stone("0,0 4,0 4,3")
	for other, want := range map[string]bool{"0,0 4,0 4,3": true, "4,0 4,3 0,0": false, "0,0 4,0": false, "0,0 4,0 4,3 0,3": false, "0,0 4,0 4,4": false, "0,0 5,0 4,3": false, "": false} {
		wantEqual(t, other, impl.SameStone(a, stone(other)), want)
		wantEqual(t, other, impl.SameStone(stone(other), a), want)
	}
	wantEqual(t, "nil and empty", impl.SameStone(nil, impl.Stone{}), true)
	wantEqual(t, "empty and nil", impl.SameStone(impl.Stone{}, nil), true)
	for name, s := range invalidStones() {
		wantEqual(t, name, impl.SameStone(s, slices.Clone(s)), true)
		wantEqual(t, name, impl.SameStone(s, append(slices.Clone(s), impl.Corner{})), false)
	}
}

func TestAreasAndBoxes(t *testing.T) {
	for text, want := range map[string]int64{
		"0,0 4,0 4,3 0,3": 24, "0,0 1,0 0,1": 1, "1,0 0,1 0,0": 1, "0,0 4,0 4,3": 12, "1,0 2,0 3,1 3,2 2,3 1,3 0,2 0,1": 14,
		"-1000,-1000 1000,-1000 1000,1000 -1000,1000": 8000000, "-1000,-1000 1000,999 999,999": 1999,
	} {
		area, code := impl.AreaTwice(stone(text))
		wantTold(t, "area", stone(text), area, code, want)
	}
	for text, want := range map[string][4]int64{
		"4,1 6,1 6,5 4,5": {4, 1, 6, 5}, "-1000,-1000 1000,999 999,999": {-1000, -1000, 1000, 999}, "-7,-9 -3,-9 -1,-6 -3,-3 -7,-3 -9,-6": {-9, -9, -1, -3},
		"-1000,-1000 -999,-1000 -1000,-999": {-1000, -1000, -999, -999}, "1000,999 1000,1000 999,1000": {999, 999, 1000, 1000},
	} {
		box, code := impl.BoxOf(stone(text))
		wantTold(t, "box", stone(text), box, code, want)
	}
	for _, sample := range sampleStones() {
		for _, s := range allBeginnings(sample) {
			area, code := impl.AreaTwice(s)
			wantTold(t, "area", s, area, code, areaModel(s))
			var xs, ys []int64
			for _, c := range s {
				xs, ys = append(xs, int64(c.X)), append(ys, int64(c.Y))
			}
			box, code := impl.BoxOf(s)
			wantTold(t, "box", s, box, code, [4]int64{slices.Min(xs), slices.Min(ys), slices.Max(xs), slices.Max(ys)})
		}
	}
}

func TestPointsOfAStone(t *testing.T) {
	s := stone("0,0 4,0 4,3 0,3")
	for place, want := range map[[2]int64]int64{
		{2, 1}: 2, {1, 1}: 2, {3, 2}: 2, {4, 1}: 1, {0, 2}: 1, {2, 0}: 1, {2, 3}: 1, {0, 0}: 1, {4, 0}: 1, {4, 3}: 1, {0, 3}: 1,
		{5, 1}: 0, {-1, 1}: 0, {2, -1}: 0, {2, 4}: 0, {5, 0}: 0, {-1, 3}: 0, {4, 4}: 0, {0, -1}: 0, {1000, 1000}: 0, {-1000, -1000}: 0, {1000, 0}: 0,
	} {
		where, code := impl.WhereIs(s, place[0], place[1])
		wantTold(t, "place", s, where, code, want)
	}
}

// TestAllPointsAroundStones also looks at the points on the lines of the edges, and at all corners.
func TestAllPointsAroundStones(t *testing.T) {
	for _, s := range append(sampleStones(), smallStones()...) {
		places := slices.Clone([]impl.Corner(s))
		for x := int16(-10); x <= 10; x++ {
			for y := int16(-10); y <= 10; y++ {
				places = append(places, impl.Corner{X: x, Y: y}, impl.Corner{X: s[0].X + x, Y: s[0].Y + y})
			}
		}
		for i, p := range s {
			q := s[(i+1)%len(s)]
			places = append(places, impl.Corner{X: 2*q.X - p.X, Y: 2*q.Y - p.Y}, impl.Corner{X: (q.X + p.X) / 2, Y: (q.Y + p.Y) / 2})
		}
		for _, c := range places {
			if !allPlaces([]impl.Corner{c}) {
				continue
			}
			where, code := impl.WhereIs(s, int64(c.X), int64(c.Y))
			if code != impl.OK || where != placeModel(s, c) {
				t.Errorf("%v, %v: got %d with the code %d", s, c, where, code)
			}
		}
	}
}

func TestFirstStone(t *testing.T) {
	for text, want := range map[string]string{
		"4,3 0,3 0,0 4,0": "0,0 4,0 4,3 0,3", "0,0 4,0 4,3 0,3": "0,0 4,0 4,3 0,3", "0,3 0,0 8,0 8,3": "0,0 8,0 8,3 0,3",
		"1,0 2,0 3,1 3,2 2,3 1,3 0,2 0,1": "0,1 1,0 2,0 3,1 3,2 2,3 1,3 0,2", "5,-1 -1,5 -2,2": "-2,2 5,-1 -1,5",
	} {
		first, code := impl.FirstStone(stone(text))
		wantStone(t, text, first, code, want)
	}
	for _, s := range append(sampleStones(), smallStones()...) {
		for _, same := range allBeginnings(s) {
			first, code := impl.FirstStone(same)
			wantStone(t, "first", first, code, writtenCorners(leastFirst(s)))
		}
	}
}

func TestMoveStone(t *testing.T) {
	s := stone("0,0 4,0 4,3 0,3")
	for want, far := range map[string][2]int64{
		"0,0 4,0 4,3 0,3": {0, 0}, "1,-1 5,-1 5,2 1,2": {1, -1}, "-1000,-1000 -996,-1000 -996,-997 -1000,-997": {-1000, -1000},
		"996,997 1000,997 1000,1000 996,1000": {996, 997}, "-1000,997 -996,997 -996,1000 -1000,1000": {-1000, 997},
	} {
		moved, code := impl.MoveStone(s, far[0], far[1])
		wantStone(t, "moved", moved, code, want)
	}
	for far, want := range map[[2]int64]int64{
		{997, 0}: impl.ErrLimit, {0, 998}: impl.ErrLimit, {1000, 0}: impl.ErrLimit, {0, 1000}: impl.ErrLimit, {1001, 0}: impl.ErrRange, {0, 1001}: impl.ErrRange,
		{-1001, 0}: impl.ErrRange, {0, -1001}: impl.ErrRange, {1000, 1001}: impl.ErrRange, {1001, 1000}: impl.ErrRange,
	} {
		moved, code := impl.MoveStone(s, far[0], far[1])
		if code != want || len(moved) != 0 {
			t.Errorf("moved by %v: got %v with the code %d, want %d", far, moved, code, want)
		}
	}
	moved, code := impl.MoveStone(stone("999,1000 1000,999 1000,1000"), -1000, -1000)
	wantStone(t, "from the end", moved, code, "-1,0 0,-1 0,0")
	_, code = impl.MoveStone(stone("-1000,5 -999,5 -999,6"), -1, 0)
	wantEqual(t, "beyond the west", code, int64(impl.ErrLimit))
	_, code = impl.MoveStone(stone("5,-1000 6,-1000 6,-999"), 0, -1)
	wantEqual(t, "beyond the north", code, int64(impl.ErrLimit))
}

// TestMovedStones also checks that areas are kept, and that the way back leads back.
func TestMovedStones(t *testing.T) {
	for _, s := range sampleStones() {
		for _, far := range [][2]int16{{0, 0}, {1, 0}, {0, 1}, {-1, 7}, {-500, 300}, {500, 500}, {1000, 0}, {0, -1000}, {-1000, 1000}} {
			var want impl.Stone
			for _, c := range s {
				want = append(want, impl.Corner{X: c.X + far[0], Y: c.Y + far[1]})
			}
			moved, code := impl.MoveStone(s, int64(far[0]), int64(far[1]))
			if !allPlaces(want) {
				if code != impl.ErrLimit || len(moved) != 0 {
					t.Errorf("%v moved by %v: got %v with the code %d", s, far, moved, code)
				}
				continue
			}
			wantStone(t, "moved", moved, code, writtenCorners(want))
			area, _ := impl.AreaTwice(moved)
			wantEqual(t, "area", area, areaModel(s))
			back, code := impl.MoveStone(moved, -int64(far[0]), -int64(far[1]))
			wantStone(t, "moved back", back, code, writtenCorners(s))
		}
	}
}

func TestTurnStone(t *testing.T) {
	for text, want := range map[string]string{
		"0,0 4,0 4,3 0,3": "0,0 0,4 -3,4 -3,0", "1000,999 1000,1000 999,1000": "-999,1000 -1000,1000 -1000,999", "-2,2 5,-1 -1,5": "-2,-2 1,5 -5,-1",
	} {
		turned, code := impl.TurnStone(stone(text))
		wantStone(t, text, turned, code, want)
	}
}

// TestPromise6StonesTurnedFourTimes checks each turn by the rule for corners, the areas, and that the fourth turn leads back.
func TestPromise6StonesTurnedFourTimes(t *testing.T) {
	for _, sample := range append(sampleStones(), smallStones()...) {
		for _, s := range allBeginnings(sample) {
			turned := s
			for range 4 {
				var want impl.Stone
				for _, c := range turned {
					want = append(want, impl.Corner{X: -c.Y, Y: c.X})
				}
				next, code := impl.TurnStone(turned)
				wantStone(t, "turned", next, code, writtenCorners(want))
				area, code := impl.AreaTwice(next)
				wantTold(t, "area", next, area, code, areaModel(s))
				turned = next
			}
			wantEqual(t, "four turns", impl.SameStone(turned, s), true)
		}
	}
}

func TestMirrorStone(t *testing.T) {
	for text, want := range map[string]string{
		"0,0 4,0 4,3 0,3": "0,3 -4,3 -4,0 0,0", "1000,999 1000,1000 999,1000": "-999,1000 -1000,1000 -1000,999", "-2,2 5,-1 -1,5": "1,5 -5,-1 2,2",
	} {
		mirrored, code := impl.MirrorStone(stone(text))
		wantStone(t, text, mirrored, code, want)
	}
	for _, s := range append(sampleStones(), smallStones()...) {
		var want impl.Stone
		for _, c := range s {
			want = slices.Insert(want, 0, impl.Corner{X: -c.X, Y: c.Y})
		}
		mirrored, code := impl.MirrorStone(s)
		wantStone(t, "mirrored", mirrored, code, writtenCorners(want))
		wantEqual(t, "valid", impl.ValidStone(mirrored), true)
		area, _ := impl.AreaTwice(mirrored)
		wantEqual(t, "area", area, areaModel(s))
		again, code := impl.MirrorStone(mirrored)
		wantStone(t, "mirrored twice", again, code, writtenCorners(s))
	}
}
