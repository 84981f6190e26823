package tests

import (
	"testing"

	"loop.example/g01322/impl"
)

// meetingOf returns what the program tells of two stones.
func meetingOf(t *testing.T, a, b impl.Stone) meeting {
	t.Helper()
	overlap, one := impl.DoOverlap(a, b)
	touch, two := impl.DoTouch(a, b)
	square, three := impl.SeamSquare(a, b)
	if one != impl.OK || two != impl.OK || three != impl.OK {
		t.Errorf("%v and %v: got the codes %d, %d, %d", a, b, one, two, three)
	}
	return meeting{overlap, touch, square}
}

func wantMeeting(t *testing.T, a, b impl.Stone, want meeting) {
	t.Helper()
	if got := meetingOf(t, a, b); got != want {
		t.Errorf("%v and %v: got %v, want %v", a, b, got, want)
	}
	if got := meetingOf(t, b, a); got != want {
		t.Errorf("%v and %v: got %v, want %v", b, a, got, want)
	}
}

const (
	square4 = "0,0 4,0 4,4 0,4"
	diamond = "2,0 4,2 2,4 0,2"
	octagon = "2,0 4,0 6,2 6,4 4,6 2,6 0,4 0,2"
	// plate is the greatest stone there is.
	plate = "-1000,-1000 1000,-1000 1000,1000 -1000,1000"
)

// TestMeetings has pairs of stones of which the meeting was reckoned by hand.
func TestMeetings(t *testing.T) {
	overlap, apart := meeting{overlap: true}, meeting{}
	touch := func(square int64) meeting { return meeting{touch: true, seamSquare: square} }
	for _, c := range []struct {
		name, a, b string
		want       meeting
	}{
		{"the document's", "0,0 4,0 4,3 0,3", "4,1 6,1 6,5 4,5", touch(4)},
		{"the same stone twice", square4, square4, overlap},
		{"the same, beginning elsewhere", square4, "4,4 0,4 0,0 4,0", overlap},
		{"the same octagon", octagon, octagon, overlap},
		{"within", square4, "1,1 2,1 2,2 1,2", overlap},
		{"within, at a corner", square4, "0,0 1,0 1,1 0,1", overlap},
		{"within, along an edge", square4, "1,0 3,0 2,2", overlap},
		{"within, with all corners on edges", square4, diamond, overlap},
		{"a cross, without a corner within", "0,1 5,1 5,2 0,2", "2,-3 3,-3 3,6 2,6", overlap},
		{"a star, without a corner within", "0,0 6,0 3,5", "3,-2 6,3 0,3", overlap},
		{"a cross, edge along edge", "0,0 5,0 5,2 0,2", "2,0 3,0 3,2 2,2", overlap},
		{"corners in edges of the other", "0,0 4,0 4,4 0,4", "4,2 2,6 0,2", overlap},
		{"a corner within", square4, "3,3 6,3 6,6 3,6", overlap},
		{"an edge past a corner", square4, "3,5 5,3 4,5", touch(0)},
		{"an edge across a corner", "0,0 5,0 5,5 0,5", "3,6 6,4 4,6", overlap},
		{"corner at corner", square4, "4,4 6,4 6,6 4,6", touch(0)},
		{"corner at corner, slanted", square4, "4,4 9,5 5,9", touch(0)},
		{"corner at an edge", square4, "4,2 6,1 6,3", touch(0)},
		{"corner at a slanted edge", "0,0 4,4 0,4", "2,2 3,-5 5,-5", touch(0)},
		{"along a whole edge", square4, "4,0 6,0 6,4 4,4", touch(16)},
		{"along a part within both", square4, "4,1 6,1 6,5 4,5", touch(9)},
		{"along a part of the one", square4, "4,1 6,1 6,3 4,3", touch(4)},
		{"along a part, at a corner", square4, "4,0 6,0 6,3 4,3", touch(9)},
		{"along the whole of a shorter one", square4, "4,-7 6,0 4,12", touch(16)},
		{"along the north", square4, "1,-2 3,-2 3,0 1,0", touch(4)},
		{"along a slanted line", "0,0 4,4 0,4", "1,1 3,0 3,3", touch(8)},
		{"along a slanted line, a part", "0,0 6,3 0,3", "4,2 2,1 4,0", touch(5)},
		{"edges in one line on the same side, at a point", square4, "4,4 4,8 3,7", touch(0)},
		{"edges in a line, corner at corner", square4, "4,0 8,-4 8,-2", touch(0)},
		{"edges in one line, apart", square4, "5,0 7,0 7,4 5,4", apart},
		{"edges in one line on both sides, apart", square4, "5,4 7,4 7,6 5,6", apart},
		{"edges in one line on both sides, at a point", square4, "4,4 7,4 7,6", touch(0)},
		{"beside", square4, "5,1 7,1 6,3", apart},
		{"around the corner", diamond, "4,0 5,0 4,1", apart},
		{"boxes overlap, stones do not", diamond, "0,0 1,0 0,1", apart},
		{"boxes overlap, stones touch", diamond, "0,0 2,0 0,2", touch(8)},
		{"one step from a slanted edge", "0,0 1000,1 0,1", "0,-1 1000,0 500,0", apart},
		{"end to end of the plane", "-1000,-1000 -999,-1000 -1000,-999", "1000,1000 999,1000 1000,999", apart},
		{"all and a corner of it", plate, "1000,999 1000,1000 999,1000", overlap},
		{"both halves of all", "-1000,-1000 1000,-1000 1000,1000", "1000,1000 -1000,1000 -1000,-1000", touch(8000000)},
		{"west and east of all", "-1000,-1000 0,-1000 0,1000 -1000,1000", "0,-1000 1000,-1000 1000,1000 0,1000", touch(4000000)},
		{"a sliver at a half", "-1000,-1000 1000,999 999,999", "-1000,-1000 1000,-1000 1000,999", touch(4000000 + 1999*1999)},
		{"slivers at a point", "-1000,-1000 1000,999 999,999", "-999,-1000 1000,-1000 1000,998", apart},
	} {
		t.Run(c.name, func(t *testing.T) {
			a, b := stone(c.a), stone(c.b)
			if !isStone(a) || !isStone(b) {
				t.Fatal("no stones")
			}
			wantEqual(t, "the model", meetingModel(a, b), c.want)
			wantMeeting(t, a, b, c.want)
		})
	}
}

// TestMeetingsOfAllPairs has all stones with X and Y from 0 to 2, and stones with places of all sizes.
func TestMeetingsOfAllPairs(t *testing.T) {
	for _, list := range [][]impl.Stone{smallStones(), sampleStones()} {
		for _, a := range list {
			for _, b := range list {
				if got, want := meetingOf(t, a, b), meetingModel(a, b); got != want {
					t.Errorf("%v and %v: got %v, want %v", a, b, got, want)
				}
			}
		}
	}
}

// TestMeetingsOfStones has stones of all numbers of corners, which are moved so that many of them touch.
func TestMeetingsOfStones(t *testing.T) {
	list := append(scatteredStones(40, 5), stones(octagon, diamond, square4, "0,0 5,1 6,3 5,6 2,7 -1,5 -2,2")...)
	counts := map[string]int{}
	for i, a := range list {
		for k, b := range list {
			for _, far := range [][2]int16{{int16(i % 7), int16(k%11) - 5}, {-6, 0}, {4, 4}} {
				var moved impl.Stone
				for _, c := range b {
					moved = append(moved, impl.Corner{X: c.X + far[0], Y: c.Y + far[1]})
				}
				want := meetingModel(a, moved)
				wantMeeting(t, a, moved, want)
				switch {
				case want.overlap:
					counts["overlap"]++
				case want.seamSquare > 0:
					counts["seam"]++
				case want.touch:
					counts["touch"]++
				default:
					counts["apart"]++
				}
			}
		}
	}
	for _, kind := range []string{"overlap", "seam", "touch", "apart"} {
		if counts[kind] < 40 {
			t.Errorf("only %d pairs of the kind %s", counts[kind], kind)
		}
	}
}

// TestMeetingsOfChangedStones turns, mirrors and moves both stones, which changes nothing of their meeting.
func TestMeetingsOfChangedStones(t *testing.T) {
	list := append(scatteredStones(25, 4), stones(square4, diamond, octagon)...)
	for _, a := range list {
		for _, b := range list {
			want := meetingOf(t, a, b)
			for _, change := range []func(impl.Stone) (impl.Stone, int64){
				impl.TurnStone, impl.MirrorStone, impl.FirstStone, func(s impl.Stone) (impl.Stone, int64) { return impl.MoveStone(s, -900, 900) },
			} {
				changedA, _ := change(a)
				changedB, _ := change(b)
				wantMeeting(t, changedA, changedB, want)
			}
		}
	}
}
