package tests

import (
	"slices"
	"testing"

	"loop.example/g01322/impl"
)

// splitModel tells both parts of a stone, or nothing if a part would not have three corners.
func splitModel(s impl.Stone, i, k int) (impl.Stone, impl.Stone) {
	one, other := beginning(s, i), beginning(s, k)
	one = one[:slices.Index(one, s[k])+1]
	other = other[:slices.Index(other, s[i])+1]
	if len(one) < 3 || len(other) < 3 {
		return nil, nil
	}
	return one, other
}

// joinModel tells what two stones are when they are joined, with the code.
func joinModel(a, b impl.Stone) (impl.Stone, int64) {
	var list impl.Stone
	for _, x := range allBeginnings(a) {
		for _, y := range allBeginnings(b) {
			// Here p is the last one of a, and q its first one.
			if x[0] == y[len(y)-1] && x[len(x)-1] == y[0] && len(list) == 0 {
				list = append(slices.Clone(x), y[1:len(y)-1]...)
			}
		}
	}
	if len(list) == 0 {
		return nil, impl.ErrNotFound
	}
	var left impl.Stone
	for i, c := range list {
		rest := append(slices.Clone(list[i+1:]), left...)
		if sideOf(rest[len(rest)-1], rest[0], c) != 0 {
			left = append(left, c)
		}
	}
	switch {
	case !isAround(left):
		return nil, impl.ErrState
	case len(left) > 8:
		return nil, impl.ErrLimit
	}
	return left, impl.OK
}

func wantJoined(t *testing.T, a, b impl.Stone, want impl.Stone, code int64) {
	t.Helper()
	got, gotCode := impl.JoinStones(a, b)
	if gotCode != code || writtenCorners(got) != writtenCorners(want) {
		t.Errorf("%v joined with %v: got %v with the code %d, want %v with the code %d", a, b, got, gotCode, want, code)
	}
}

func TestSplitStone(t *testing.T) {
	for _, c := range []struct {
		text       string
		i, k       int64
		one, other string
		code       int64
	}{
		{"0,0 4,0 4,3 0,3", 0, 2, "0,0 4,0 4,3", "4,3 0,3 0,0", impl.OK},
		{"0,0 4,0 4,3 0,3", 2, 0, "4,3 0,3 0,0", "0,0 4,0 4,3", impl.OK},
		{"0,0 4,0 4,3 0,3", 3, 1, "0,3 0,0 4,0", "4,0 4,3 0,3", impl.OK},
		{"0,0 4,0 4,3 0,3", 0, 0, "", "", impl.ErrState},
		{"0,0 4,0 4,3 0,3", 0, 1, "", "", impl.ErrState},
		{"0,0 4,0 4,3 0,3", 1, 0, "", "", impl.ErrState},
		{"0,0 4,0 4,3 0,3", 0, 3, "", "", impl.ErrState},
		{"0,0 4,0 4,3 0,3", 3, 0, "", "", impl.ErrState},
		{"0,0 4,0 4,3 0,3", 0, 4, "", "", impl.ErrRange},
		{"0,0 4,0 4,3 0,3", 4, 0, "", "", impl.ErrRange},
		{"0,0 4,0 4,3 0,3", -1, 2, "", "", impl.ErrRange},
		{"0,0 4,0 4,3 0,3", 2, -1, "", "", impl.ErrRange},
		{"0,0 4,0 4,3 0,3", -1, -1, "", "", impl.ErrRange},
		{"0,0 4,0 4,3 0,3", 4, 4, "", "", impl.ErrRange},
		{"0,0 1,0 0,1", 0, 2, "", "", impl.ErrState},
		{"0,0 1,0 0,1", 2, 1, "", "", impl.ErrState},
		{"2,0 4,0 6,2 6,4 4,6 2,6 0,4 0,2", 6, 1, "0,4 0,2 2,0 4,0", "4,0 6,2 6,4 4,6 2,6 0,4", impl.OK},
		{"2,0 4,0 6,2 6,4 4,6 2,6 0,4 0,2", 5, 7, "2,6 0,4 0,2", "0,2 2,0 4,0 6,2 6,4 4,6 2,6", impl.OK},
		{"2,0 4,0 6,2 6,4 4,6 2,6 0,4 0,2", 7, 0, "", "", impl.ErrState},
		{"2,0 4,0 6,2 6,4 4,6 2,6 0,4 0,2", 7, 8, "", "", impl.ErrRange},
	} {
		one, other, code := impl.SplitStone(stone(c.text), c.i, c.k)
		if code != c.code || writtenCorners(one) != c.one || writtenCorners(other) != c.other {
			t.Errorf("%s from %d to %d: got %v and %v with the code %d", c.text, c.i, c.k, one, other, code)
		}
	}
}

// TestPromise7SplitStonesAreJoined splits stones in all ways, and joins the parts in both orders.
func TestPromise7SplitStonesAreJoined(t *testing.T) {
	for _, s := range append(sampleStones(), smallStones()...) {
		for i := range s {
			for k := range s {
				wantOne, wantOther := splitModel(s, i, k)
				one, other, code := impl.SplitStone(s, int64(i), int64(k))
				if len(wantOne) == 0 {
					if code != impl.ErrState || len(one) != 0 || len(other) != 0 {
						t.Errorf("%v from %d to %d: got %v and %v with the code %d", s, i, k, one, other, code)
					}
					continue
				}
				wantStone(t, "the first part", one, code, writtenCorners(wantOne))
				wantStone(t, "the second part", other, code, writtenCorners(wantOther))
				areaOne, _ := impl.AreaTwice(one)
				areaOther, _ := impl.AreaTwice(other)
				wantEqual(t, "areas", areaOne+areaOther, areaModel(s))
				wantMeeting(t, one, other, meeting{touch: true, seamSquare: squareApart(s[i], s[k])})
				joined, code := impl.JoinStones(one, other)
				wantStone(t, "joined", joined, code, writtenCorners(beginning(s, i)))
				wantEqual(t, "the stone again", writtenCorners(leastFirst(joined)), writtenCorners(leastFirst(s)))
				wantJoined(t, other, one, beginning(s, k), impl.OK)
			}
		}
	}
}

func TestJoinStones(t *testing.T) {
	for _, c := range []struct {
		name, a, b, want string
		code             int64
	}{
		{"the document's", "0,0 4,0 4,3 0,3", "4,0 8,0 8,3 4,3", "0,3 0,0 8,0 8,3", impl.OK},
		{"the other way round", "4,0 8,0 8,3 4,3", "0,0 4,0 4,3 0,3", "8,0 8,3 0,3 0,0", impl.OK},
		{"without a line", "0,0 4,0 4,3", "4,3 0,3 0,0", "0,0 4,0 4,3 0,3", impl.OK},
		{"from the last corner to the first", "4,3 0,3 0,0 4,0", "8,0 8,3 4,3 4,0", "0,3 0,0 8,0 8,3", impl.OK},
		{"a line at p alone", "0,0 4,0 4,4 0,4", "4,0 6,0 4,4", "4,4 0,4 0,0 6,0", impl.OK},
		{"a line at q alone", "0,0 4,0 4,4 0,4", "4,0 6,4 4,4", "0,4 0,0 4,0 6,4", impl.OK},
		{"one corner, edges in lines", "0,0 4,0 0,4", "0,0 -4,0 0,-4", "", impl.ErrNotFound},
		{"three corners with a line", "0,0 4,0 0,4", "0,0 0,4 -4,0", "4,0 0,4 -4,0", impl.OK},
		{"a line that is slanted", "0,0 2,1 0,5", "2,1 4,2 0,5", "0,5 0,0 4,2", impl.OK},
		{"lines at both, slanted", "0,0 3,0 4,2 1,2", "3,0 6,0 7,2 4,2", "1,2 0,0 6,0 7,2", impl.OK},
		{"bent in at p", "0,0 4,0 4,3 0,3", "4,0 6,-1 4,3", "", impl.ErrState},
		{"bent in at q", "0,0 4,0 4,3 0,3", "4,0 6,4 4,3", "", impl.ErrState},
		{"a line at q, bent in at p", "0,0 4,0 4,3 0,3", "4,0 6,-1 6,3 4,3", "", impl.ErrState},
		{"the same stone", "0,0 4,0 4,3 0,3", "0,0 4,0 4,3 0,3", "", impl.ErrNotFound},
		{"an edge in the same direction", "0,0 4,0 4,3", "0,0 4,0 2,9", "", impl.ErrNotFound},
		{"a part of an edge", "0,0 4,0 4,3 0,3", "4,1 6,1 6,5 4,5", "", impl.ErrNotFound},
		{"an edge, but for one corner", "0,0 4,0 4,3 0,3", "4,0 8,0 8,2 4,2", "", impl.ErrNotFound},
		{"one corner", "0,0 4,0 4,3 0,3", "4,3 6,3 6,5 4,5", "", impl.ErrNotFound},
		{"two corners that do not follow each other", "0,0 4,0 4,4 0,4", "4,0 8,8 0,4", "", impl.ErrNotFound},
		{"two corners that follow each other in one", "0,0 4,0 4,4 0,4", "4,0 9,2 4,4 3,2", "", impl.ErrNotFound},
		{"far apart", "0,0 4,0 4,3 0,3", "10,10 12,10 11,12", "", impl.ErrNotFound},
		{"an octagon of halves, which have 10 corners", "2,0 4,0 6,2 6,3 0,3 0,2", "6,3 6,4 4,6 2,6 0,4 0,3", "0,2 2,0 4,0 6,2 6,4 4,6 2,6 0,4", impl.OK},
		{"two octagons, bent in", "2,0 4,0 6,2 6,4 4,6 2,6 0,4 0,2", "8,0 10,0 12,2 12,4 10,6 8,6 6,4 6,2", "", impl.ErrState},
		{"the greatest", "-1000,-1000 0,-1000 0,1000 -1000,1000", "0,-1000 1000,-1000 1000,1000 0,1000", "-1000,1000 -1000,-1000 1000,-1000 1000,1000", impl.OK},
	} {
		t.Run(c.name, func(t *testing.T) {
			wantJoined(t, stone(c.a), stone(c.b), stone(c.want), c.code)
			model, code := joinModel(stone(c.a), stone(c.b))
			wantEqual(t, "the model", []any{writtenCorners(model), code}, []any{c.want, c.code})
		})
	}
}

// TestJoinedStonesHaveAtMost8Corners splits rings of 4 to 14 corners in parts that are stones.
func TestJoinedStonesHaveAtMost8Corners(t *testing.T) {
	counts := map[int64]int{}
	for count := 4; count <= 14; count++ {
		ring := manyCorners()[:count]
		for i := range ring {
			for k := range ring {
				one, other := splitModel(ring, i, k)
				if !isStone(one) || !isStone(other) {
					continue
				}
				want, code := beginning(ring, i), int64(impl.OK)
				if count > 8 {
					want, code = nil, impl.ErrLimit
				}
				wantJoined(t, one, other, want, code)
				counts[code]++
			}
		}
	}
	if counts[impl.OK] < 40 || counts[impl.ErrLimit] < 40 {
		t.Errorf("too few cases: %v", counts)
	}
}

func TestJoinsOfAllSmallStones(t *testing.T) {
	list := smallStones()
	counts := map[int64]int{}
	for _, a := range list {
		for _, b := range list {
			want, code := joinModel(a, b)
			wantJoined(t, a, b, want, code)
			counts[code]++
		}
	}
	for _, code := range []int64{impl.OK, impl.ErrNotFound, impl.ErrState} {
		if counts[code] < 40 {
			t.Errorf("only %d pairs with the code %d", counts[code], code)
		}
	}
}

// TestJoinsAlongEdges lays at each edge of a stone others with this edge, that begin with each of their corners.
func TestJoinsAlongEdges(t *testing.T) {
	for _, a := range sampleStones() {
		for i, p := range a {
			q := a[(i+1)%len(a)]
			for _, far := range [][2]int16{{3, 0}, {1, -2}, {2, -3}, {1, 1}, {0, 4}} {
				// Both corners beside p and q go beyond the edge from a.
				east, south := far[0]*(q.Y-p.Y)/4+far[1], -far[0]*(q.X-p.X)/4+far[1]
				b := impl.Stone{q, p, {X: p.X + east, Y: p.Y + south}, {X: q.X + east, Y: q.Y + south}}
				for _, same := range append(allBeginnings(b), allBeginnings(b[:3])...) {
					if isStone(same) {
						want, code := joinModel(a, same)
						wantJoined(t, a, same, want, code)
					}
				}
			}
		}
	}
}

func wantHull(t *testing.T, list []impl.Corner, want string, code int64) {
	t.Helper()
	hull, got := impl.HullOf(list)
	if got != code || writtenCorners(hull) != want {
		t.Errorf("hull of %v: got %v with the code %d, want %s with the code %d", list, hull, got, want, code)
	}
}

func TestHullOf(t *testing.T) {
	for text, want := range map[string]string{
		"4,3 0,0 2,1 4,0 0,3":                         "0,0 4,0 4,3 0,3",
		"0,0 1,0 0,1":                                 "0,0 1,0 0,1",
		"0,1 1,0 0,0":                                 "0,0 1,0 0,1",
		"0,0 2,0 4,0 4,3 2,3 0,3 0,1 0,2 4,1":         "0,0 4,0 4,3 0,3",
		"2,0 1,0 0,0 4,0 3,0 0,4 0,2 2,2 1,3":         "0,0 4,0 0,4",
		"3,3 3,3 0,0 0,0 3,0 3,0":                     "0,0 3,0 3,3",
		"0,0 1,1 2,2 3,3 3,2":                         "0,0 3,2 3,3",
		"-1000,-1000 1000,1000 1000,-1000 -1000,1000": "-1000,-1000 1000,-1000 1000,1000 -1000,1000",
		"0,1 0,2 0,0 1,1":                             "0,0 1,1 0,2",
		"5,0 5,9 4,3 5,4":                             "4,3 5,0 5,9",
		"0,5 9,0 9,9 5,5 7,4":                         "0,5 9,0 9,9",
		octagon + " 3,3 6,3 0,3 3,0":                  "0,2 2,0 4,0 6,2 6,4 4,6 2,6 0,4",
	} {
		wantHull(t, corners(text), want, impl.OK)
	}
}

func TestHullsThatAreNone(t *testing.T) {
	far := corners("0,0 4,0 0,4")
	for _, c := range []struct {
		name string
		list []impl.Corner
		code int64
	}{
		{"nil", nil, impl.ErrState},
		{"empty", []impl.Corner{}, impl.ErrState},
		{"one", corners("1,2"), impl.ErrState},
		{"two", corners("1,2 3,4"), impl.ErrState},
		{"one, three times", corners("1,2 1,2 1,2"), impl.ErrState},
		{"one, 100 times", slices.Repeat(corners("1,2"), 100), impl.ErrState},
		{"two, twice", corners("1,2 3,4 1,2 3,4"), impl.ErrState},
		{"west to east", corners("1,2 3,2 2,2 -7,2"), impl.ErrState},
		{"north to south", corners("1,2 1,3 1,-9 1,5"), impl.ErrState},
		{"slanted", corners("0,0 2,1 -4,-2 6,3"), impl.ErrState},
		{"slanted, the other way", corners("0,0 2,-1 -4,2 6,-3"), impl.ErrState},
		{"9 corners", manyCorners()[:9], impl.ErrLimit},
		{"16 corners", manyCorners(), impl.ErrLimit},
		{"101 corners", append(slices.Repeat(far, 33), far[0], far[1]), impl.ErrRange},
		{"101 times one", slices.Repeat(corners("1,2"), 101), impl.ErrRange},
		{"a million", make([]impl.Corner, 1000000), impl.ErrRange},
		{"too far east", append(slices.Clone(far), impl.Corner{X: 1001}), impl.ErrRange},
		{"too far west", append(slices.Clone(far), impl.Corner{X: -1001}), impl.ErrRange},
		{"too far south", append(slices.Clone(far), impl.Corner{Y: 1001}), impl.ErrRange},
		{"too far north", append(slices.Clone(far), impl.Corner{Y: -1001}), impl.ErrRange},
		{"greatest numbers", corners("-32768,-32768 32767,-32768 32767,32767"), impl.ErrRange},
		{"too far, and alone", corners("0,1001"), impl.ErrRange},
		{"too far, and in a line", corners("0,0 1,0 1001,0"), impl.ErrRange},
		{"too far, and too many around", append(corners("1001,5"), manyCorners()...), impl.ErrRange},
	} {
		hull, code := impl.HullOf(c.list)
		if code != c.code || len(hull) != 0 {
			t.Errorf("%s: got %v with the code %d, want %d", c.name, hull, code, c.code)
		}
	}
	wantHull(t, append(slices.Repeat(far, 33), far[0]), "0,0 4,0 0,4", impl.OK)
	wantHull(t, manyCorners()[:8], writtenCorners(leastFirst(manyCorners()[:8])), impl.OK)
}

// TestHullsOfScatteredCorners has lists of up to 100 corners, in which many lie in lines or come twice.
func TestHullsOfScatteredCorners(t *testing.T) {
	counts := map[int64]int{}
	for _, most := range []int{1, 2, 3, 4, 6, 9, 30, 1000} {
		for seed := range 60 {
			list := scatteredCorners(1+seed*seed%100, seed, most)
			want, code := hullModel(list), int64(impl.OK)
			switch {
			case len(want) == 0:
				code = impl.ErrState
			case len(want) > 8:
				want, code = nil, impl.ErrLimit
			}
			wantHull(t, list, writtenCorners(want), code)
			slices.Reverse(list)
			wantHull(t, list, writtenCorners(want), code)
			for _, c := range list {
				if where, _ := impl.WhereIs(want, int64(c.X), int64(c.Y)); code == impl.OK && where == 0 {
					t.Errorf("the hull %v of %v is without %v", want, list, c)
				}
			}
			counts[code]++
		}
	}
	for _, code := range []int64{impl.OK, impl.ErrState, impl.ErrLimit} {
		if counts[code] < 10 {
			t.Errorf("only %d lists with the code %d", counts[code], code)
		}
	}
}

// TestHullsOfAllSmallLists has all sets of corners with X and Y from 0 to 2.
func TestHullsOfAllSmallLists(t *testing.T) {
	for number := range 1 << 9 {
		var list []impl.Corner
		for i := range 9 {
			if number>>i&1 == 1 {
				list = append(list, impl.Corner{X: int16(i % 3), Y: int16(i / 3)})
			}
		}
		want, code := hullModel(list), int64(impl.OK)
		if len(want) == 0 {
			code = impl.ErrState
		}
		wantHull(t, list, writtenCorners(want), code)
	}
}

// TestHullsOfStones takes the corners of stones in several orders.
func TestHullsOfStones(t *testing.T) {
	for _, s := range sampleStones() {
		for _, list := range allBeginnings(s) {
			wantHull(t, list, writtenCorners(leastFirst(s)), impl.OK)
			slices.Reverse(list)
			wantHull(t, list, writtenCorners(leastFirst(s)), impl.OK)
			wantHull(t, slices.Repeat(list, 100/len(list)), writtenCorners(leastFirst(s)), impl.OK)
		}
	}
}
