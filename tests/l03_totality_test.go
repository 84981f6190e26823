package tests

import (
	"reflect"
	"slices"
	"strings"
	"testing"

	"loop.example/g01322/impl"
)

// aStone and aLay are arguments, and whether they are valid.
type aStone struct {
	stone impl.Stone
	good  bool
}

type aLay struct {
	name  string
	frame impl.Frame
	list  []impl.Stone
	good  bool
}

// farNumbers are numbers at and beyond the limits of places, and some that are within them once they are cut to fewer bits.
var farNumbers = append([]int64{-65536, -32769, -32768, -2001, -2000, -1999, -1001, -1000, -999, 3, 4, 5, 7, 8, 9, 999, 1000, 1001, 1999, 2000, 2001, 32767, 32768, 65535, 65537, 1<<32 + 4}, numbers...)

func stonesOfBothKinds() []aStone {
	var list []aStone
	for _, s := range append(stones("0,0 4,0 4,3 0,3", "4,1 6,1 6,5 4,5", "0,0 1,0 0,1", "4,0 8,0 8,3 4,3", "4,3 8,3 8,5", octagon, plate), manyCorners()[:8]) {
		list = append(list, aStone{s, true})
	}
	for _, s := range invalidStones() {
		list = append(list, aStone{s, false})
	}
	return list
}

func laysOfBothKinds() []aLay {
	f := impl.Frame{Wide: 8, High: 3}
	west, east := box(0, 0, 4, 3), box(4, 0, 8, 3)
	list := []aLay{
		{"nil", f, nil, true},
		{"empty", f, []impl.Stone{}, true},
		{"one stone", f, []impl.Stone{west}, true},
		{"two stones", f, []impl.Stone{west, east}, true},
		{"the least frame", impl.Frame{Wide: 1, High: 1}, stones("0,0 1,0 0,1", "1,0 1,1 0,1"), true},
		{"the greatest frame", impl.Frame{Wide: 1000, High: 1000}, []impl.Stone{box(0, 0, 1000, 1000)}, true},
		{"40 stones", impl.Frame{Wide: 40, High: 2}, grid(40, 1, 1, 1), true},
		{"41 stones", impl.Frame{Wide: 41, High: 2}, grid(41, 1, 1, 1), false},
		{"an overlap", f, []impl.Stone{west, east, box(3, 1, 5, 2)}, false},
		{"one stone twice", f, []impl.Stone{west, west}, false},
		{"outside", f, []impl.Stone{west, box(7, 0, 9, 3)}, false},
		{"a million stones", f, make([]impl.Stone, 1000000), false},
	}
	for name, s := range invalidStones() {
		list = append(list, aLay{name, f, []impl.Stone{west, s}, false}, aLay{name, f, []impl.Stone{s, box(7, 0, 9, 3), west, west}, false})
	}
	for _, bad := range badFrames() {
		list = append(list, aLay{"a bad frame", bad, nil, false}, aLay{"a bad frame", bad, []impl.Stone{box(0, 0, 1, 1)}, false})
	}
	return list
}

func TestPromise1CallsWithAStone(t *testing.T) {
	for _, s := range stonesOfBothKinds() {
		broken := firstOf(invalid(!s.good))
		name := results(writtenCorners(s.stone[:min(len(s.stone), 16)]))
		for _, c := range []call{
			{"AreaTwice", name, broken, func() []any { a, b := impl.AreaTwice(s.stone); return results(a, b) }},
			{"BoxOf", name, broken, func() []any { a, b := impl.BoxOf(s.stone); return results(a, b) }},
			{"FirstStone", name, broken, func() []any { a, b := impl.FirstStone(s.stone); return results(a, b) }},
			{"TurnStone", name, broken, func() []any { a, b := impl.TurnStone(s.stone); return results(a, b) }},
			{"MirrorStone", name, broken, func() []any { a, b := impl.MirrorStone(s.stone); return results(a, b) }},
		} {
			checkCall(t, c)
		}
		wantEqual(t, "valid", impl.ValidStone(s.stone), s.good)
		wantEqual(t, "no text", impl.StoneText(s.stone) == "", !s.good)
		for _, f := range append(goodFrames(), badFrames()...) {
			code := firstOf(invalid(!s.good || slices.Contains(badFrames(), f)))
			checkCall(t, call{"InFrame", append(name, f), code, func() []any { a, b := impl.InFrame(f, s.stone); return results(a, b) }})
		}
	}
}

func TestPromise1CallsWithAStoneAndNumbers(t *testing.T) {
	for _, s := range stonesOfBothKinds() {
		count := int64(len(s.stone))
		name := writtenCorners(s.stone[:min(count, 16)])
		for _, x := range farNumbers {
			for _, y := range farNumbers {
				far := outside(noPlace(x) || noPlace(y))
				beyond := !far.found && slices.ContainsFunc(s.stone, func(c impl.Corner) bool { return noPlace(int64(c.X)+x) || noPlace(int64(c.Y)+y) })
				none := outside(x < 0 || x >= count || y < 0 || y >= count)
				beside := !none.found && (x == y || (x+1)%count == y || (y+1)%count == x)
				for _, c := range []call{
					{"WhereIs", results(name, x, y), firstOf(invalid(!s.good), far), func() []any { a, b := impl.WhereIs(s.stone, x, y); return results(a, b) }},
					{"MoveStone", results(name, x, y), firstOf(invalid(!s.good), far, tooMany(beyond)), func() []any { a, b := impl.MoveStone(s.stone, x, y); return results(a, b) }},
					{"SplitStone", results(name, x, y), firstOf(invalid(!s.good), none, badState(beside)), func() []any { a, b, c := impl.SplitStone(s.stone, x, y); return results(a, b, c) }},
				} {
					checkCall(t, c)
				}
			}
		}
	}
}

func TestPromise1CallsWithTwoStones(t *testing.T) {
	for _, p := range stonesOfBothKinds() {
		for _, q := range stonesOfBothKinds() {
			a, b := p.stone, q.stone
			name := results(writtenCorners(a[:min(len(a), 16)]), writtenCorners(b[:min(len(b), 16)]))
			broken := invalid(!p.good || !q.good)
			joined := fault{}
			if !broken.found {
				_, code := joinModel(a, b)
				joined = fault{code != impl.OK, code}
			}
			for _, c := range []call{
				{"DoOverlap", name, firstOf(broken), func() []any { x, y := impl.DoOverlap(a, b); return results(x, y) }},
				{"DoTouch", name, firstOf(broken), func() []any { x, y := impl.DoTouch(a, b); return results(x, y) }},
				{"SeamSquare", name, firstOf(broken), func() []any { x, y := impl.SeamSquare(a, b); return results(x, y) }},
				{"JoinStones", name, firstOf(broken, joined), func() []any { x, y := impl.JoinStones(a, b); return results(x, y) }},
			} {
				checkCall(t, c)
			}
		}
	}
}

func TestPromise1CallsWithALay(t *testing.T) {
	for _, lay := range laysOfBothKinds() {
		f, list := lay.frame, lay.list
		broken := invalid(!lay.good)
		for _, c := range []call{
			{"BareTwice", results(lay.name, f), firstOf(broken), func() []any { a, b := impl.BareTwice(f, list); return results(a, b) }},
			{"SeamsIn", results(lay.name, f), firstOf(broken), func() []any { a, b := impl.SeamsIn(f, list); return results(a, b) }},
		} {
			checkCall(t, c)
		}
		wantEqual(t, lay.name, impl.ValidLay(f, list), lay.good)
		all := len(list) <= 40 && !slices.Contains(badFrames(), f) && !slices.ContainsFunc(list, func(s impl.Stone) bool { return !isStone(s) })
		checkCall(t, call{"FirstFault", results(lay.name, f), firstOf(invalid(!all), missing(lay.good)), func() []any { a, b, c := impl.FirstFault(f, list); return results(a, b, c) }})
		if len(list) > 41 {
			continue
		}
		for _, x := range farNumbers {
			for _, y := range []int64{numbers[0], -65536, -1001, -1, 0, 1, 2, 3, 4, 1000, 1001, 65537, 1 << 32, numbers[len(numbers)-1]} {
				none := outside(x < 0 || x > int64(f.Wide) || y < 0 || y > int64(f.High))
				bare := !none.found && !slices.ContainsFunc(list, func(s impl.Stone) bool { return placeModel(s, impl.Corner{X: int16(x), Y: int16(y)}) != 0 })
				checkCall(t, call{"StoneAt", results(lay.name, f, x, y), firstOf(broken, none, missing(bare)), func() []any { a, b := impl.StoneAt(f, list, x, y); return results(a, b) }})
			}
		}
	}
}

func TestPromise1CallsWithCornersAndTexts(t *testing.T) {
	for _, c := range []struct {
		list []impl.Corner
		want int64
	}{
		{nil, impl.ErrState}, {corners("0,0 1,0"), impl.ErrState}, {corners("0,0 1,0 2,0"), impl.ErrState}, {corners("0,0 1,0 0,1"), impl.OK}, {corners("0,0 0,1 1,0"), impl.OK},
		{manyCorners()[:8], impl.OK}, {manyCorners()[:9], impl.ErrLimit}, {corners("0,0 1,0 0,1001"), impl.ErrRange}, {scatteredCorners(100, 1, 1), impl.OK}, {scatteredCorners(101, 1, 1), impl.ErrRange},
	} {
		checkCall(t, call{"HullOf", results(c.list), c.want, func() []any { a, b := impl.HullOf(c.list); return results(a, b) }})
	}
	for text, want := range map[string]int64{"0,0 1,0 0,1": impl.OK, "": impl.ErrSyntax, "0,0 1,0": impl.ErrSyntax, "0,1 1,0 0,0": impl.ErrSyntax, "0,0 1,0 0,01": impl.ErrSyntax} {
		checkCall(t, call{"ReadStone", results(text), want, func() []any { a, b := impl.ReadStone(text); return results(a, b) }})
	}
	wantEqual(t, "a million corners", impl.SameStone(make(impl.Stone, 1000000), make(impl.Stone, 1000000)), true)
	_, code := impl.ReadStone(strings.Repeat("1,2 ", 250000))
	wantEqual(t, "250000 words", code, int64(impl.ErrSyntax))
}

// callsWithStones calls each function of chapter 3 that has a slice among its arguments, and returns all results.
func callsWithStones(f impl.Frame, list []impl.Stone) [][]any {
	var all [][]any
	add := func(values ...any) { all = append(all, values) }
	stone := func(s impl.Stone, code int64) { add(s, code) }
	truth := func(is bool, code int64) { add(is, code) }
	number := func(n, code int64) { add(n, code) }
	for _, s := range list {
		add(impl.ValidStone(s), impl.StoneText(s))
		number(impl.AreaTwice(s))
		box, code := impl.BoxOf(s)
		add(box, code)
		number(impl.WhereIs(s, 2, 1))
		stone(impl.FirstStone(s))
		stone(impl.MoveStone(s, 1, -1))
		stone(impl.TurnStone(s))
		stone(impl.MirrorStone(s))
		for k := range int64(8) {
			one, other, code := impl.SplitStone(s, 0, k)
			add(one, other, code)
		}
		stone(impl.HullOf(s))
		truth(impl.InFrame(f, s))
		for _, other := range list {
			add(impl.SameStone(s, other))
			truth(impl.DoOverlap(s, other))
			truth(impl.DoTouch(s, other))
			number(impl.SeamSquare(s, other))
			stone(impl.JoinStones(s, other))
		}
	}
	add(impl.ValidLay(f, list))
	i, k, code := impl.FirstFault(f, list)
	add(i, k, code)
	number(impl.BareTwice(f, list))
	number(impl.StoneAt(f, list, 4, 1))
	seams, code := impl.SeamsIn(f, list)
	add(seams, code)
	return all
}

// TestPromise1StonesAreKept checks that no argument is modified, nor the room behind it, and that this room has no influence.
func TestPromise1StonesAreKept(t *testing.T) {
	f := impl.Frame{Wide: 12, High: 11}
	lays := append(scatteredLays()[:60], grid(3, 2, 4, 3), stones("4,3 0,3 0,0 4,0", "8,0 8,3 4,3 4,0", octagon), []impl.Stone{nil, {}, manyCorners(), manyCorners()[:8]})
	for _, list := range lays {
		filler := impl.Corner{X: 77, Y: -77}
		tight, wide := make([]impl.Stone, len(list)), make([]impl.Stone, len(list))
		var kept []impl.Stone
		for i, s := range list {
			tight[i], wide[i] = slices.Clip(slices.Clone(s)), roomy(s, filler)
			kept = append(kept, slices.Clone(wide[i][:len(s)+20]))
		}
		want := callsWithStones(f, slices.Clip(tight))
		room := roomy(wide, impl.Stone{filler})
		got := callsWithStones(f, room)
		if !reflect.DeepEqual(got, want) {
			t.Errorf("%v: got %v, with room behind the lists %v", list, want, got)
		}
		for i, s := range list {
			wantEqual(t, "the corners", wide[i][:len(s)+20], kept[i])
			wantEqual(t, "the length", len(room[i]), len(s))
		}
		for _, s := range room[len(list) : len(list)+20] {
			wantEqual(t, "the room behind the stones", s, impl.Stone{filler})
		}
	}
}

// TestPromise1StonesAreNew writes into each list of a result, up to its capacity, and looks at the arguments, the other list and a result of another call.
func TestPromise1StonesAreNew(t *testing.T) {
	a, b, f := stone("0,0 4,0 4,3 0,3"), stone("4,0 8,0 8,3 4,3"), impl.Frame{Wide: 8, High: 3}
	for name, list := range map[string]func() impl.Stone{
		"FirstStone":         func() impl.Stone { s, _ := impl.FirstStone(a); return s },
		"MoveStone":          func() impl.Stone { s, _ := impl.MoveStone(a, 1, 1); return s },
		"MoveStone, nowhere": func() impl.Stone { s, _ := impl.MoveStone(a, 0, 0); return s },
		"TurnStone":          func() impl.Stone { s, _ := impl.TurnStone(a); return s },
		"MirrorStone":        func() impl.Stone { s, _ := impl.MirrorStone(a); return s },
		"SplitStone, one":    func() impl.Stone { s, _, _ := impl.SplitStone(a, 0, 2); return s },
		"SplitStone, other":  func() impl.Stone { _, s, _ := impl.SplitStone(a, 0, 2); return s },
		"JoinStones":         func() impl.Stone { s, _ := impl.JoinStones(a, b); return s },
		"HullOf":             func() impl.Stone { s, _ := impl.HullOf(a); return s },
		"ReadStone":          func() impl.Stone { s, _ := impl.ReadStone("0,0 4,0 4,3"); return s },
	} {
		checkNew(t, name, list, impl.Corner{X: 9, Y: -9})
		wantEqual(t, name+", the stones", []impl.Stone{a, b}, stones("0,0 4,0 4,3 0,3", "4,0 8,0 8,3 4,3"))
	}
	checkNew(t, "SeamsIn", func() [][2]int64 { seams, _ := impl.SeamsIn(f, []impl.Stone{a, b}); return seams }, [2]int64{-5, -5})
	for _, first := range []bool{true, false} {
		one, other, _ := impl.SplitStone(a, 1, 3)
		overwritten, kept := one, other
		if !first {
			overwritten, kept = other, one
		}
		before := slices.Clone(kept)
		overwritten = overwritten[:cap(overwritten)]
		for i := range overwritten {
			overwritten[i] = impl.Corner{X: 9, Y: -9}
		}
		wantEqual(t, "the other part", kept, before)
	}
}
