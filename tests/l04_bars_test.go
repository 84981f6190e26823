package tests

import (
	"fmt"
	"slices"
	"testing"

	"loop.example/g01322/impl"
)

var five = []int64{6, 5, 4, 3, 2}

func TestConstantsOfCutting(t *testing.T) {
	wantEqual(t, "limits", []int{impl.MaxLength, impl.MaxPieces, impl.MaxLooks, impl.MaxPlate, impl.MaxKinds, impl.MaxCuts}, []int{10000, 14, 20000, 24, 8, 60})
	wantEqual(t, "ways to cut", []int{impl.CuWaste, impl.CuPiece, impl.CuAcross, impl.CuDown}, []int{0, 1, 2, 3})
}

func TestBarUse(t *testing.T) {
	longest := slices.Repeat([]int64{10000}, 14)
	for _, c := range []struct {
		pieces []int64
		saw    int64
		bar    []int64
		want   int64
		code   int64
	}{
		{five, 1, []int64{0, 2}, 11, impl.OK},
		{five, 1, []int64{2, 0}, 11, impl.OK},
		{five, 0, []int64{0, 2}, 10, impl.OK},
		{five, 3, []int64{4, 3, 2, 1, 0}, 32, impl.OK},
		{five, 1, []int64{4}, 2, impl.OK},
		{five, 10000, []int64{4}, 2, impl.OK},
		{five, 10000, []int64{4, 0}, 10008, impl.OK},
		{five, 1, nil, 0, impl.OK},
		{five, 7, []int64{}, 0, impl.OK},
		{nil, 0, nil, 0, impl.OK},
		{longest, 10000, []int64{0, 1, 2, 3, 4, 5, 6, 7, 8, 9, 10, 11, 12, 13}, 270000, impl.OK},
		{nil, 0, []int64{0}, 0, impl.ErrRange},
		{five, 1, []int64{5}, 0, impl.ErrRange},
		{five, 1, []int64{-1}, 0, impl.ErrRange},
		{five, 1, []int64{0, 0}, 0, impl.ErrRange},
		{five, 1, []int64{1, 2, 1}, 0, impl.ErrRange},
		{five, -1, []int64{0}, 0, impl.ErrRange},
		{five, 10001, nil, 0, impl.ErrRange},
		{[]int64{10000, 1}, 0, []int64{0}, 10000, impl.OK},
		{[]int64{10001, 1}, 0, []int64{1}, 0, impl.ErrRange},
		{[]int64{1, 0}, 0, []int64{0}, 0, impl.ErrRange},
		{append(longest, 1), 0, nil, 0, impl.ErrRange},
	} {
		got, code := impl.BarUse(c.pieces, c.saw, c.bar)
		if got != c.want || code != c.code {
			t.Errorf("%v of %v with %d: got %d with the code %d, want %d with the code %d", c.bar, c.pieces, c.saw, got, code, c.want, c.code)
		}
	}
}

func TestBarUseOfAllSets(t *testing.T) {
	for _, b := range sampleTasks() {
		for set := range uint(1) << min(len(b.pieces), 8) {
			bar := setOf(set)
			slices.Reverse(bar)
			use, code := impl.BarUse(b.pieces, b.saw, bar)
			wantEqual(t, fmt.Sprint(b, bar), []int64{use, code}, []int64{useModel(b, bar), impl.OK})
		}
	}
}

// planCases are bars that are plans of five pieces of bars of 10, and others that are none.
func planCases() []struct {
	saw  int64
	bars [][]int64
	plan bool
} {
	return []struct {
		saw  int64
		bars [][]int64
		plan bool
	}{
		{0, [][]int64{{0, 2}, {1, 3, 4}}, true},
		{0, [][]int64{{4, 1, 3}, {2, 0}}, true},
		{1, [][]int64{{0, 3}, {1, 2}, {4}}, true},
		{10000, [][]int64{{0}, {1}, {2}, {3}, {4}}, true},
		{1, [][]int64{{0, 2}, {1, 3, 4}}, false},                 // the first one uses 11
		{0, [][]int64{{0, 2}, {1, 3}}, false},                    // a piece is in none
		{0, [][]int64{{0, 2}, {1, 3, 4}, {4}}, false},            // in two
		{0, [][]int64{{0, 2}, {1, 3, 3}}, false},                 // twice in one
		{0, [][]int64{{0, 2}, {1, 3}, {3}}, false},               // as many as there should be
		{0, [][]int64{{0, 2}, {}, {1, 3, 4}}, false},             // an empty bar
		{0, [][]int64{{0, 2}, {1, 3, 4}, nil}, false},            // an empty bar
		{0, [][]int64{{0, 2}, {1, 3, 5}}, false},                 // no such piece
		{0, [][]int64{{0, 2}, {1, 3, -1}}, false},                // no such piece
		{0, [][]int64{{0, 2}, {1, 3, 4}, {5}}, false},            // one too many
		{0, [][]int64{{0, 2}, {1, 3, 4 + 1<<32}}, false},         // no such piece
		{0, [][]int64{{0, 1}, {2, 3, 4}}, false},                 // uses 11
		{0, [][]int64{{0, 1, 2, 3, 4}}, false},                   // uses 20
		{0, nil, false},                                          // nothing
		{0, [][]int64{nil}, false},                               // an empty bar
		{0, [][]int64{{}, {}, {}, {}, {}}, false},                // empty bars
		{0, slices.Repeat([][]int64{{0}}, 100000), false},        // often the same
		{0, [][]int64{slices.Repeat([]int64{3}, 500000)}, false}, // often the same
	}
}

func TestCheckBarsAndWasteOf(t *testing.T) {
	for _, c := range planCases() {
		plan, code := impl.CheckBars(10, c.saw, five, c.bars)
		name := fmt.Sprint(c.saw, c.bars[:min(len(c.bars), 5)])
		if plan != c.plan || code != impl.OK {
			t.Errorf("%.99s: got %v with the code %d, want %v", name, plan, code, c.plan)
		}
		waste, code := impl.WasteOf(10, c.saw, five, c.bars)
		want := []int64{0, impl.ErrProof}
		if c.plan {
			want = []int64{10*int64(len(c.bars)) - 20, impl.OK}
		}
		wantEqual(t, fmt.Sprintf("waste of %.99s", name), []int64{waste, code}, want)
	}
	for _, none := range [][][]int64{nil, {}} {
		plan, code := impl.CheckBars(10, 3, nil, none)
		wantEqual(t, "no pieces", []any{plan, code}, []any{true, int64(impl.OK)})
		waste, code := impl.WasteOf(10, 3, nil, none)
		wantEqual(t, "no pieces, waste", []int64{waste, code}, []int64{0, impl.OK})
	}
	for _, bad := range [][][]int64{{nil}, {{}}, {{0}}, {{-1}}} {
		plan, code := impl.CheckBars(10, 3, nil, bad)
		wantEqual(t, "no pieces, but bars", []any{plan, code}, []any{false, int64(impl.OK)})
		waste, code := impl.WasteOf(10, 3, nil, bad)
		wantEqual(t, "no pieces, but bars, waste", []int64{waste, code}, []int64{0, impl.ErrProof})
	}
}

// TestCheckBarsOfAllPlans puts each piece into each of some bars, or leaves it away, and looks at all that comes of it.
func TestCheckBarsOfAllPlans(t *testing.T) {
	plans := 0
	for _, b := range []bars{{10, 0, []int64{6, 5, 4, 3}}, {10, 1, []int64{5, 4, 2, 2}}, {4, 4, []int64{1, 1, 4, 1}}, {5, 1, []int64{1, 1, 1, 2}}} {
		for number := range 5 * 5 * 5 * 5 {
			list := make([][]int64, 4)
			for piece := range int64(4) {
				if place := number % 5; place < 4 {
					list[place] = append(list[place], piece)
				}
				number /= 5
			}
			for _, some := range [][][]int64{list, slices.DeleteFunc(slices.Clone(list), func(bar []int64) bool { return len(bar) == 0 })} {
				want := isPlanModel(b, some)
				plan, code := impl.CheckBars(b.length, b.saw, b.pieces, some)
				wantEqual(t, fmt.Sprint(b, some), []any{plan, code}, []any{want, int64(impl.OK)})
				waste, code := impl.WasteOf(b.length, b.saw, b.pieces, some)
				if want {
					plans++
					for _, piece := range b.pieces {
						waste += piece
					}
					wantEqual(t, fmt.Sprint(b, some), []int64{waste, code}, []int64{b.length * int64(len(some)), impl.OK})
				} else {
					wantEqual(t, fmt.Sprint(b, some), []int64{waste, code}, []int64{0, impl.ErrProof})
				}
			}
		}
	}
	if plans < 100 {
		t.Errorf("only %d plans", plans)
	}
}

func TestPlansByHand(t *testing.T) {
	for _, c := range []struct {
		name         string
		task         bars
		first, least [][]int64
		looks        int64
		byLength     int64
		long         int64
	}{
		{"no pieces", bars{10, 3, nil}, nil, nil, 0, 0, 0},
		{"one piece", bars{10, 3, []int64{4}}, [][]int64{{0}}, [][]int64{{0}}, 1, 1, 1},
		{"as long as the bar", bars{10, 0, []int64{10}}, [][]int64{{0}}, [][]int64{{0}}, 1, 1, 1},
		{"half the bar", bars{10, 0, []int64{5, 5}}, [][]int64{{0, 1}}, [][]int64{{0, 1}}, 2, 1, 0},
		{"half the bar, and a saw", bars{10, 1, []int64{5, 5}}, [][]int64{{0}, {1}}, [][]int64{{0}, {1}}, 2, 2, 2},
		{"a saw that just leaves room", bars{10, 8, []int64{1, 1}}, [][]int64{{0, 1}}, [][]int64{{0, 1}}, 2, 1, 0},
		{"a saw that just leaves no room", bars{10, 9, []int64{1, 1}}, [][]int64{{0}, {1}}, [][]int64{{0}, {1}}, 2, 2, 2},
		{"one length", bars{10, 0, []int64{4, 4, 4}}, [][]int64{{0, 1}, {2}}, [][]int64{{0, 1}, {2}}, 3, 2, 0},
		{"the example", bars{10, 0, five}, [][]int64{{0, 2}, {1, 3, 4}}, [][]int64{{0, 2}, {1, 3, 4}}, 7, 2, 1},
		{"the example, and a saw", bars{10, 1, five}, [][]int64{{0, 3}, {1, 2}, {4}}, [][]int64{{0, 3}, {1, 2}, {4}}, 5, 3, 2},
		// 4 4, 3 3 3, 3 is what comes first; 4 3 3 twice is better.
		{"the first plan is not the least", bars{10, 0, []int64{4, 4, 3, 3, 3, 3}}, [][]int64{{0, 1}, {2, 3, 4}, {5}}, [][]int64{{0, 2, 3}, {1, 4, 5}}, 25, 2, 0},
	} {
		b := c.task
		plan, code := impl.FirstBars(b.length, b.saw, b.pieces)
		wantEqual(t, c.name+", first", []string{writtenBars(plan), impl.CodeName(code)}, []string{writtenBars(c.first), "ok"})
		plan, looks, code := impl.LeastBars(b.length, b.saw, b.pieces, 20000)
		wantEqual(t, c.name+", least", []string{writtenBars(plan), impl.CodeName(code)}, []string{writtenBars(c.least), "ok"})
		wantEqual(t, c.name+", looks", looks, c.looks)
		bound, code := impl.BarBound(b.length, b.saw, b.pieces)
		wantEqual(t, c.name+", bound", []int64{bound, code}, []int64{c.byLength, impl.OK})
		bound, code = impl.LongBound(b.length, b.saw, b.pieces)
		wantEqual(t, c.name+", long bound", []int64{bound, code}, []int64{c.long, impl.OK})
	}
}

// TestFirstBars puts the pieces into bars as the document tells it, each into the first one with room.
func TestFirstBars(t *testing.T) {
	for _, b := range append(sampleTasks(), smallTasks()...) {
		var want [][]int64
		for _, piece := range orderModel(b) {
			place := slices.IndexFunc(want, func(bar []int64) bool { return useModel(b, append(slices.Clone(bar), piece)) <= b.length })
			if place < 0 {
				want = append(want, nil)
				place = len(want) - 1
			}
			want[place] = append(want[place], piece)
		}
		plan, code := impl.FirstBars(b.length, b.saw, b.pieces)
		if code != impl.OK || writtenBars(plan) != writtenBars(want) || !isPlanModel(b, plan) {
			t.Errorf("%v: got %v with the code %d, want %v", b, plan, code, want)
		}
	}
}

// TestLeastBarsAndLooks holds the plan, the looks and the budget that is just enough, and one look too small, against the model.
func TestLeastBarsAndLooks(t *testing.T) {
	better, tooLong := 0, 0
	for _, b := range append(sampleTasks(), smallTasks()...) {
		want, looks, enough := leastModel(b, 20000)
		if !enough {
			tooLong++
			looks = 20001
		}
		for _, budget := range []int64{looks, looks + 1, looks - 1, looks / 2, 0, 20000} {
			if budget < 0 || budget > 20000 {
				continue
			}
			plan, made, code := impl.LeastBars(b.length, b.saw, b.pieces, budget)
			if budget >= looks && (code != impl.OK || made != looks || writtenBars(plan) != writtenBars(want)) {
				t.Errorf("%v with %d: got %v with %d looks and the code %d, want %v with %d", b, budget, plan, made, code, want, looks)
			}
			if budget < looks && (code != impl.ErrBudget || made != 0 || len(plan) != 0) {
				t.Errorf("%v with %d, and %d looks: got %v with %d looks and the code %d", b, budget, looks, plan, made, code)
			}
		}
		if first, _ := impl.FirstBars(b.length, b.saw, b.pieces); enough && len(want) < len(first) {
			better++
		}
	}
	if better < 15 || tooLong < 3 {
		t.Errorf("the least plan is better than the first one only %d times, and the budget is too small only %d times", better, tooLong)
	}
}

// TestPromise9NoFewerBars holds plans against the bounds, and these and the least plan against the fewest bars of all.
func TestPromise9NoFewerBars(t *testing.T) {
	for _, b := range append(sampleTasks(), smallTasks()...) {
		fewest := int64(fewestBars(b))
		bound, one := impl.BarBound(b.length, b.saw, b.pieces)
		long, two := impl.LongBound(b.length, b.saw, b.pieces)
		first, three := impl.FirstBars(b.length, b.saw, b.pieces)
		least, _, four := impl.LeastBars(b.length, b.saw, b.pieces, 20000)
		wantEqual(t, fmt.Sprint(b, ", codes"), []int64{one, two, three}, []int64{impl.OK, impl.OK, impl.OK})
		if bound > fewest || long > fewest || int64(len(first)) < fewest || !isPlanModel(b, first) {
			t.Errorf("%v: %d bars are needed, the bounds are %d and %d, and the first plan is %v", b, fewest, bound, long, first)
		}
		if four == impl.OK && (int64(len(least)) != fewest || len(least) > len(first) || !isPlanModel(b, least)) {
			t.Errorf("%v: %d bars are needed, the least plan is %v, and the first one %v", b, fewest, least, first)
		}
		for _, plan := range [][][]int64{first, least} {
			if is, code := impl.CheckBars(b.length, b.saw, b.pieces, plan); len(plan) > 0 && (!is || code != impl.OK) {
				t.Errorf("%v: %v is no plan", b, plan)
			}
		}
	}
}

// TestPromise9BoundsAsTold tells the bounds by counting up to them, and by all pairs of a piece with itself.
func TestPromise9BoundsAsTold(t *testing.T) {
	for _, b := range append(sampleTasks(), smallTasks()...) {
		sum, wantBound, wantLong := int64(0), int64(0), int64(0)
		for _, piece := range b.pieces {
			sum += piece + b.saw
			if useModel(bars{b.length, b.saw, []int64{piece, piece}}, []int64{0, 1}) > b.length {
				wantLong++
			}
		}
		for wantBound*(b.length+b.saw) < sum {
			wantBound++
		}
		bound, one := impl.BarBound(b.length, b.saw, b.pieces)
		long, two := impl.LongBound(b.length, b.saw, b.pieces)
		wantEqual(t, fmt.Sprint(b), []int64{bound, one, long, two}, []int64{wantBound, impl.OK, wantLong, impl.OK})
	}
}

// TestPromise9BoundsAreReached has tasks for which each of both bounds is the greater one, and is the number of bars, again and again: the workers may end in any order.
func TestPromise9BoundsAreReached(t *testing.T) {
	for range 200 {
		for _, c := range []struct {
			task        bars
			bound, long int64
		}{{bars{10, 0, []int64{6, 6, 6}}, 2, 3}, {bars{10, 0, []int64{5, 5, 5, 5}}, 2, 0}, {bars{10, 1, []int64{6, 5, 4, 3, 2}}, 3, 2}, {bars{10000, 10000, slices.Repeat([]int64{10000}, 14)}, 14, 14}} {
			bound, _ := impl.BarBound(c.task.length, c.task.saw, c.task.pieces)
			long, _ := impl.LongBound(c.task.length, c.task.saw, c.task.pieces)
			wantEqual(t, fmt.Sprint(c.task), []int64{bound, long}, []int64{c.bound, c.long})
			wantEqual(t, fmt.Sprint(c.task, ", fewest"), int64(fewestBars(c.task)) >= max(bound, long), true)
		}
	}
}

func TestBestLengths(t *testing.T) {
	for _, b := range append(sampleTasks(), smallTasks()...) {
		var want []int64
		for set := range uint(1) << len(b.pieces) {
			list := setOf(set)
			use := useModel(b, list)
			if most := useModel(b, want); use <= b.length && (use > most || use == most && compareLists(list, want) < 0) {
				want = list
			}
		}
		best, use, code := impl.BestLengths(b.length, b.saw, b.pieces)
		if code != impl.OK || use != useModel(b, want) || !slices.Equal(best, want) {
			t.Errorf("%v: got %v with %d and the code %d, want %v", b, best, use, code, want)
		}
	}
}

func TestBestLengthsByHand(t *testing.T) {
	for _, c := range []struct {
		task bars
		best []int64
		use  int64
	}{
		{bars{10, 1, five}, []int64{0, 3}, 10},
		{bars{10, 0, five}, []int64{0, 2}, 10},
		{bars{10, 0, []int64{2, 3, 4, 5, 6}}, []int64{0, 1, 3}, 10},
		{bars{10, 0, nil}, nil, 0},
		{bars{10, 10, []int64{3, 9, 9}}, []int64{1}, 9},
		{bars{10, 0, []int64{10, 5, 5}}, []int64{0}, 10},
		{bars{10, 0, []int64{5, 10, 5}}, []int64{0, 2}, 10},
		{bars{10, 8, []int64{1, 1, 9}}, []int64{0, 1}, 10}, // what the saw takes is used
		{bars{10, 9, []int64{1, 1}}, []int64{0}, 1},
		{bars{10000, 0, slices.Repeat([]int64{5000}, 14)}, []int64{0, 1}, 10000},
		{bars{14, 0, slices.Repeat([]int64{1}, 14)}, []int64{0, 1, 2, 3, 4, 5, 6, 7, 8, 9, 10, 11, 12, 13}, 14},
	} {
		best, use, code := impl.BestLengths(c.task.length, c.task.saw, c.task.pieces)
		if code != impl.OK || use != c.use || !slices.Equal(best, c.best) {
			t.Errorf("%v: got %v with %d and the code %d, want %v with %d", c.task, best, use, code, c.best, c.use)
		}
	}
}
