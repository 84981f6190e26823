package tests

import (
	"fmt"
	"reflect"
	"slices"
	"testing"

	"loop.example/g01322/impl"
)

func tooDear(found bool) fault { return fault{found, impl.ErrBudget} }
func noProof(found bool) fault { return fault{found, impl.ErrProof} }

// somePieces are pieces, of which each number is in the range of a piece or not.
func somePieces() [][]int64 {
	list := [][]int64{nil, {}, {1}, five, {10}, {10, 10}, {11}, {1, 11}, {10000}, {10001}, {1, 10001}, {0}, {1, 0}, {-1}, {1, -1}, slices.Repeat([]int64{1}, 13), slices.Repeat([]int64{1}, 14), slices.Repeat([]int64{1}, 15), slices.Repeat([]int64{1}, 1000000), append(slices.Repeat([]int64{1}, 13), 0)}
	for _, n := range []int64{numbers[0], 1 << 32, 1<<32 + 1, 1<<16 + 1, numbers[len(numbers)-1]} {
		list = append(list, []int64{n}, []int64{1, n})
	}
	return list
}

// lengths are lengths and saws at and beyond the limits.
var lengths = []int64{numbers[0], -1 << 32, -10000, -1, 0, 1, 2, 9, 10, 11, 9999, 10000, 10001, 20000, 1 << 16, 1 << 32, 1<<32 + 10, numbers[len(numbers)-1]}

func noPieces(length int64, pieces []int64) bool {
	return len(pieces) > 14 || slices.ContainsFunc(pieces, func(piece int64) bool { return piece < 1 || piece > length })
}

func TestPromise1CallsWithBars(t *testing.T) {
	plans := [][][]int64{nil, {}, {{0}}, {{0}, {1}}, {{0, 2}, {1, 3, 4}}, {{}}, {{-1}}, {{0, 0}}, {{5}}, {{numbers[0]}}, {{numbers[len(numbers)-1]}}, {{1 << 32}}, make([][]int64, 1000)}
	for _, pieces := range somePieces() {
		few := pieces[:min(len(pieces), 20)]
		for _, saw := range lengths {
			noSaw := saw < 0 || saw > 10000
			for _, bar := range [][]int64{nil, {}, {0}, {1}, {0, 1}, {1, 0}, {0, 0}, {2}, {4, 3}, {13}, {14}, {-1}, {0, -1}, {numbers[0]}, {numbers[len(numbers)-1]}, {1 << 32}, make([]int64, 1000)} {
				odd := slices.ContainsFunc(bar, func(piece int64) bool { return piece < 0 || piece >= int64(len(pieces)) })
				twice := len(slices.Compact(slices.Sorted(slices.Values(bar)))) < len(bar)
				want := firstOf(outside(noSaw || noPieces(10000, pieces) || odd || twice))
				checkCall(t, call{"BarUse", results(few, saw, bar[:min(len(bar), 20)]), want, func() []any { a, b := impl.BarUse(pieces, saw, bar); return results(a, b) }})
			}
			for _, length := range lengths {
				wrong := outside(length < 1 || length > 10000 || noSaw || noPieces(length, pieces))
				for _, plan := range plans {
					proof := !wrong.found && !isPlanModel(bars{length, saw, pieces}, plan)
					name := results(few, length, saw, plan[:min(len(plan), 20)])
					checkCall(t, call{"WasteOf", name, firstOf(wrong, noProof(proof)), func() []any { a, b := impl.WasteOf(length, saw, pieces, plan); return results(a, b) }})
					is, code := impl.CheckBars(length, saw, pieces, plan)
					wantEqual(t, fmt.Sprint("CheckBars", name), []any{is, code}, []any{!wrong.found && !proof, firstOf(wrong)})
				}
			}
		}
	}
}

func TestPromise1CallsWithPieces(t *testing.T) {
	for _, pieces := range somePieces() {
		few := pieces[:min(len(pieces), 20)]
		for _, saw := range lengths {
			for _, length := range lengths {
				wrong := outside(length < 1 || length > 10000 || saw < 0 || saw > 10000 || noPieces(length, pieces))
				for _, c := range []call{
					{"FirstBars", nil, firstOf(wrong), func() []any { a, b := impl.FirstBars(length, saw, pieces); return results(a, b) }},
					{"BarBound", nil, firstOf(wrong), func() []any { a, b := impl.BarBound(length, saw, pieces); return results(a, b) }},
					{"LongBound", nil, firstOf(wrong), func() []any { a, b := impl.LongBound(length, saw, pieces); return results(a, b) }},
					{"BestLengths", nil, firstOf(wrong), func() []any { a, b, c := impl.BestLengths(length, saw, pieces); return results(a, b, c) }},
				} {
					c.arguments = results(length, saw, few)
					if len(pieces) < 10 || wrong.found {
						checkCall(t, c)
					}
				}
			}
		}
	}
}

func TestPromise1CallsWithABudget(t *testing.T) {
	for _, pieces := range somePieces() {
		few := pieces[:min(len(pieces), 20)]
		for _, saw := range []int64{-1, 0, 1, 10000, 10001} {
			for _, length := range []int64{numbers[0], 0, 1, 10, 10000, 10001, 1<<32 + 10} {
				wrong := length < 1 || length > 10000 || saw < 0 || saw > 10000 || noPieces(length, pieces)
				needed := int64(0)
				if !wrong {
					_, needed, _ = leastModel(bars{length, saw, pieces}, 20000)
				}
				for _, budget := range append([]int64{4, 5, 6, 7, 8, 19999, 20000, 20001, 1<<32 + 20, 1<<16 + 20}, numbers...) {
					want := firstOf(outside(wrong || budget < 0 || budget > 20000), tooDear(budget < needed))
					checkCall(t, call{"LeastBars", results(length, saw, few, budget), want, func() []any {
						a, b, c := impl.LeastBars(length, saw, pieces, budget)
						return results(a, b, c)
					}})
				}
			}
		}
	}
}

// kindsOfBothKinds are kinds, and whether they are valid.
func kindsOfBothKinds() map[bool][][]impl.Kind {
	all := map[bool][][]impl.Kind{true: sampleKinds()}
	for _, kinds := range invalidKinds() {
		all[false] = append(all[false], kinds)
	}
	return all
}

func TestPromise1CallsWithKinds(t *testing.T) {
	for good, list := range kindsOfBothKinds() {
		for _, kinds := range list {
			few := kinds[:min(len(kinds), 10)]
			wantEqual(t, "valid", impl.ValidKinds(kinds), good)
			for _, wide := range numbers {
				for _, high := range []int64{numbers[0], -1, 0, 1, 2, 5, 24, 25, 256, 257, 1<<32 + 1, numbers[len(numbers)-1]} {
					broken, wrong := invalid(!good), outside(wide < 1 || wide > 24 || high < 1 || high > 24)
					checkCall(t, call{"BestValue", results(wide, high, few), firstOf(broken, wrong), func() []any { a, b := impl.BestValue(wide, high, kinds); return results(a, b) }})
					long := fault{}
					if good && !wrong.found {
						_, _, code := cutsMadeModel(wide, high, kinds)
						long = tooMany(code == impl.ErrLimit)
					}
					checkCall(t, call{"BestCuts", results(wide, high, few), firstOf(broken, wrong, long), func() []any { a, b, c := impl.BestCuts(wide, high, kinds); return results(a, b, c) }})
				}
			}
		}
	}
}

func TestPromise1CallsWithCuts(t *testing.T) {
	kinds := []impl.Kind{kind(2, 3, 5), kind(1, 3, 4)}
	lists := badCuts()
	lists["good"], lists["good, waste"] = cuts("across 2 1 2, piece 0, piece 0"), cuts("across 2 1 2, waste, waste")
	many := make([]impl.Kind, 1000000)
	for name, list := range lists {
		for _, side := range append([]int64{4, 24, 25}, numbers...) {
			for _, some := range [][]impl.Kind{kinds, nil, append(kinds, kind(1, 1, -1)), slices.Repeat(kinds, 5), many} {
				p := aPlate{side, 3, some, list[:min(len(list), 100)]}
				_, good := cutsModel(p)
				for _, c := range []call{
					{"SizesOf", nil, 0, func() []any { a, b := impl.SizesOf(side, 3, some, list); return results(a, b) }},
					{"PiecesOf", nil, 0, func() []any { a, b := impl.PiecesOf(side, 3, some, list); return results(a, b) }},
					{"ValueOf", nil, 0, func() []any { a, b := impl.ValueOf(side, 3, some, list); return results(a, b) }},
					{"WasteIn", nil, 0, func() []any { a, b := impl.WasteIn(side, 3, some, list); return results(a, b) }},
					{"CutLength", nil, 0, func() []any { a, b := impl.CutLength(side, 3, some, list); return results(a, b) }},
				} {
					c.arguments, c.want = results(name, side, len(some)), firstOf(invalid(!good))
					checkCall(t, c)
				}
				wantEqual(t, fmt.Sprint(name, side), impl.ValidCuts(side, 3, some, list), good)
			}
		}
	}
}

// callsWithTasks calls each function with bars, and returns all results.
func callsWithTasks(length, saw int64, pieces, bar []int64, plan [][]int64) [][]any {
	var all [][]any
	add := func(values ...any) { all = append(all, values) }
	one := func(n, code int64) { add(n, code) }
	one(impl.BarUse(pieces, saw, bar))
	is, code := impl.CheckBars(length, saw, pieces, plan)
	add(is, code, impl.BarsText(plan))
	one(impl.WasteOf(length, saw, pieces, plan))
	one(impl.BarBound(length, saw, pieces))
	one(impl.LongBound(length, saw, pieces))
	first, code := impl.FirstBars(length, saw, pieces)
	add(first, code)
	best, use, code := impl.BestLengths(length, saw, pieces)
	add(best, use, code)
	for _, budget := range []int64{0, 3, 100, 20000} {
		least, looks, code := impl.LeastBars(length, saw, pieces, budget)
		add(least, looks, code)
	}
	return all
}

// TestPromise1BarsAreKept checks that no argument is modified, nor the room behind it, and that this room has no influence.
func TestPromise1BarsAreKept(t *testing.T) {
	for _, b := range sampleTasks() {
		plan, _ := impl.FirstBars(b.length, b.saw, b.pieces)
		for _, bad := range [][][]int64{plan, slices.Concat(plan, [][]int64{{0}}), {nil}, {{}, {1}}} {
			bar := []int64{0}
			var tight, wide, kept [][]int64
			for _, some := range bad {
				tight, wide = append(tight, slices.Clip(slices.Clone(some))), append(wide, roomy(some, 7))
			}
			for i, some := range wide {
				kept = append(kept, slices.Clone(some[:len(bad[i])+20]))
			}
			want := callsWithTasks(b.length, b.saw, slices.Clip(slices.Clone(b.pieces)), bar, slices.Clip(tight))
			pieces, bars, room := roomy(b.pieces, 1), roomy(bar, 0), roomy(wide, []int64{3})
			got := callsWithTasks(b.length, b.saw, pieces, bars, room)
			if !reflect.DeepEqual(got, want) {
				t.Errorf("%v: got %v, with room behind the lists %v", b, want, got)
			}
			wantEqual(t, "pieces", pieces[:len(b.pieces)+20], append(slices.Clone(b.pieces), slices.Repeat([]int64{1}, 20)...))
			wantEqual(t, "bar", bars[:21], make([]int64, 21))
			for i := range bad {
				wantEqual(t, "a bar of the plan", room[i][:len(bad[i])+20], kept[i])
			}
			wantEqual(t, "the room behind the plan", room[len(bad):len(bad)+20], slices.Repeat([][]int64{{3}}, 20))
		}
	}
}

// callsWithPlates calls each function with kinds, and returns all results.
func callsWithPlates(p aPlate) [][]any {
	var all [][]any
	add := func(values ...any) { all = append(all, values) }
	one := func(n, code int64) { add(n, code) }
	add(impl.ValidKinds(p.kinds), impl.ValidCuts(p.wide, p.high, p.kinds, p.cuts))
	sizes, code := impl.SizesOf(p.wide, p.high, p.kinds, p.cuts)
	add(sizes, code)
	pieces, code := impl.PiecesOf(p.wide, p.high, p.kinds, p.cuts)
	add(pieces, code)
	one(impl.ValueOf(p.wide, p.high, p.kinds, p.cuts))
	one(impl.WasteIn(p.wide, p.high, p.kinds, p.cuts))
	one(impl.CutLength(p.wide, p.high, p.kinds, p.cuts))
	one(impl.BestValue(p.wide, p.high, p.kinds))
	best, value, code := impl.BestCuts(p.wide, p.high, p.kinds)
	add(best, value, code)
	return all
}

func TestPromise1CutsAreKept(t *testing.T) {
	plates := sampleCuts()
	for _, list := range badCuts() {
		plates = append(plates, aPlate{4, 3, []impl.Kind{kind(2, 3, 5), kind(1, 3, 4)}, list[:min(len(list), 70)]})
	}
	for _, p := range plates {
		tight := p
		tight.kinds, tight.cuts = slices.Clip(slices.Clone(p.kinds)), slices.Clip(slices.Clone(p.cuts))
		want := callsWithPlates(tight)
		room := p
		room.kinds, room.cuts = roomy(p.kinds, kind(1, 1, 1000)), roomy(p.cuts, impl.Cut{How: 1})
		got := callsWithPlates(room)
		if !reflect.DeepEqual(got, want) {
			t.Errorf("%v: got %v, with room behind the lists %v", p, want, got)
		}
		wantEqual(t, "kinds", room.kinds[:len(p.kinds)+20], append(slices.Clone(p.kinds), slices.Repeat([]impl.Kind{kind(1, 1, 1000)}, 20)...))
		wantEqual(t, "cuts", room.cuts[:len(p.cuts)+20], append(slices.Clone(p.cuts), slices.Repeat([]impl.Cut{{How: 1}}, 20)...))
	}
}

// TestPromise1CuttingIsNew writes into each list of a result, up to its capacity, and looks at the other lists and a result of another call.
func TestPromise1CuttingIsNew(t *testing.T) {
	pieces, kinds := slices.Clone(five), []impl.Kind{kind(2, 3, 5)}
	list := cuts("across 2 1 2, piece 0, piece 0")
	checkNew(t, "BestLengths", func() []int64 { best, _, _ := impl.BestLengths(10, 1, pieces); return best }, -1)
	checkNew(t, "PiecesOf", func() []int64 { count, _ := impl.PiecesOf(4, 3, kinds, list); return count }, -1)
	checkNew(t, "SizesOf", func() [][2]int64 { sizes, _ := impl.SizesOf(4, 3, kinds, list); return sizes }, [2]int64{-1, -1})
	checkNew(t, "BestCuts", func() []impl.Cut { best, _, _ := impl.BestCuts(4, 3, kinds); return best }, impl.Cut{How: 7})
	for name, plan := range map[string]func() [][]int64{
		"FirstBars":                 func() [][]int64 { plan, _ := impl.FirstBars(10, 1, pieces); return plan },
		"FirstBars, many":           func() [][]int64 { plan, _ := impl.FirstBars(4, 0, slices.Repeat([]int64{1}, 14)); return plan },
		"LeastBars":                 func() [][]int64 { plan, _, _ := impl.LeastBars(10, 0, pieces, 20000); return plan },
		"LeastBars, not as first":   func() [][]int64 { plan, _, _ := impl.LeastBars(10, 0, []int64{4, 4, 3, 3, 3, 3}, 20000); return plan },
		"LeastBars, a bar for each": func() [][]int64 { plan, _, _ := impl.LeastBars(10, 10, pieces, 20000); return plan },
		"ReadBars":                  func() [][]int64 { plan, _ := impl.ReadBars("0 1 2\n3\n4 5\n"); return plan },
		"ReadBars, the same one":    func() [][]int64 { plan, _ := impl.ReadBars("0 1\n0 1\n0 1\n"); return plan },
	} {
		checkNew(t, name, plan, []int64{9})
		want := writtenBars(plan())
		for i := range plan() {
			one, other := plan(), plan()
			overwritten := one[i][:cap(one[i])]
			kept := slices.Clone(one[i])
			for k := range overwritten {
				overwritten[k] = -9
			}
			copy(one[i], kept)
			wantEqual(t, name+", the other bars", writtenBars(one), want)
			wantEqual(t, name+", another call", writtenBars(other), want)
		}
	}
	wantEqual(t, "the arguments", []any{pieces, kinds, list}, []any{five, []impl.Kind{kind(2, 3, 5)}, cuts("across 2 1 2, piece 0, piece 0")})
}
