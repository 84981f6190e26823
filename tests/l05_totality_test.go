package tests

import (
	"fmt"
	"maps"
	"reflect"
	"slices"
	"strings"
	"testing"

	"loop.example/g01322/impl"
)

// aRow is an argument, and whether it is valid.
type aRow struct {
	name string
	row  impl.Row
	good bool
}

func rowsOfBothKinds() []aRow {
	list := []aRow{{"5,3,4", widths("5,3,4"), true}, {"one stone", widths("9"), true}, {"the widest stone", widths("200"), true}, {"two stones", widths("4,9"), true}, {"60 stones of 1", rowWith(1, 60), true}, {"60 stones of 200", rowWith(200, 60), true}}
	bad := invalidRows()
	for _, name := range slices.Sorted(maps.Keys(bad)) {
		list = append(list, aRow{name, bad[name], false})
	}
	return list
}

// rowNumbers are numbers at and beyond the limits of rows, and some that are within them once they are cut to fewer bits.
var rowNumbers = append([]int64{4, 5, 6, 9, 20, 21, 59, 60, 61, 199, 200, 201, 1999, 2000, 2001, 32767, 32768, 65535, 65537, 65540, 1<<32 + 4, 1<<48 + 4}, numbers...)

// fewNumbers are some of them, for functions with many arguments.
var fewNumbers = []int64{numbers[0], -1, 0, 1, 4, 14, 200, 201, 2000, 2001, 1<<16 + 4, 1<<32 + 4, numbers[len(numbers)-1]}

func TestPromise1CallsWithARow(t *testing.T) {
	for _, r := range rowsOfBothKinds() {
		wantEqual(t, r.name, impl.ValidRow(r.row), r.good)
		wantEqual(t, r.name, impl.RowText(r.row) == "", !r.good)
		wantEqual(t, r.name, impl.SameRow(r.row, slices.Clone(r.row)), true)
		for _, seam := range rowNumbers {
			broken := firstOf(invalid(!r.good), outside(noSeam(seam)))
			for _, c := range []call{
				{"LengthOf", results(r.name, seam), broken, func() []any { a, b := impl.LengthOf(r.row, seam); return results(a, b) }},
				{"JointsOf", results(r.name, seam), broken, func() []any { a, b := impl.JointsOf(r.row, seam); return results(a, b) }},
			} {
				checkCall(t, c)
			}
			var units []int64
			if broken == impl.OK {
				units = laidOut(r.row, seam)
			}
			for _, place := range rowNumbers {
				none := place < 0 || place >= int64(len(units)) || units[place] < 0
				checkCall(t, call{"StoneOver", results(r.name, seam, place), firstOf(fault{broken != impl.OK, broken}, missing(none)), func() []any { a, b := impl.StoneOver(r.row, seam, place); return results(a, b) }})
			}
		}
	}
}

func TestPromise1CallsWithTwoRows(t *testing.T) {
	for _, p := range rowsOfBothKinds() {
		for _, q := range rowsOfBothKinds() {
			broken := invalid(!p.good || !q.good)
			wantEqual(t, p.name+", "+q.name, impl.SameRow(p.row, q.row), p.name == q.name || len(p.row)+len(q.row) == 0)
			for _, seam := range []int64{numbers[0], -1, 0, 4, 200, 201, 1<<16 + 4} {
				alone := missing(len(p.row) == 1 || len(q.row) == 1)
				checkCall(t, call{"LeastApart", results(p.name, q.name, seam), firstOf(broken, outside(noSeam(seam)), alone), func() []any { a, b := impl.LeastApart(p.row, q.row, seam); return results(a, b) }})
				for _, near := range []int64{-1, 0, 4, 2000, 2001, 1<<32 + 4} {
					name := results(p.name, q.name, seam, near)
					wrong := firstOf(broken, outside(noSeam(seam) || noNear(near)))
					checkCall(t, call{"ClashesOf", name, wrong, func() []any { a, b := impl.ClashesOf(p.row, q.row, seam, near); return results(a, b) }})
					none := wrong == impl.OK && len(clashesModel(p.row, q.row, seam, near)) == 0
					checkCall(t, call{"FirstClash", name, firstOf(fault{wrong != impl.OK, wrong}, missing(none)), func() []any {
						a, b := impl.FirstClash([]impl.Row{p.row, q.row}, seam, near)
						return results(a, b)
					}})
				}
			}
		}
	}
}

func TestPromise1CallsWithALength(t *testing.T) {
	for _, length := range rowNumbers {
		for _, seam := range []int64{-1, 0, 1, 200, 201, 1<<32 + 4} {
			wrong := outside(noRowLength(length) || noSeam(seam))
			for _, stones := range rowNumbers {
				outer := wrong.found || stones < 1 || stones > 60
				none := !outer && evenModel(length, seam, stones) == nil
				checkCall(t, call{"EvenRow", results(length, seam, stones), firstOf(outside(outer), missing(none)), func() []any { a, b := impl.EvenRow(length, seam, stones); return results(a, b) }})
			}
			lists := badSizes()
			lists["good"], lists["one"], lists["the widest"] = []int64{3, 4}, []int64{1}, []int64{200}
			for name, sizes := range lists {
				bad := !slices.Contains([]string{"good", "one", "the widest"}, name)
				none := !wrong.found && !bad && fewestModel(length, seam, sizes) == nil
				checkCall(t, call{"FewestStones", results(length, seam, name), firstOf(wrong, outside(bad), missing(none)), func() []any { a, b := impl.FewestStones(length, seam, sizes); return results(a, b) }})
				checkCall(t, call{"CountRows", results(length, seam, name), firstOf(wrong, outside(bad)), func() []any { a, b := impl.CountRows(length, seam, sizes); return results(a, b) }})
			}
		}
	}
}

func TestPromise1CallsWithLimits(t *testing.T) {
	rows := rowsOfBothKinds()
	for _, length := range fewNumbers {
		for _, seam := range fewNumbers {
			for _, least := range fewNumbers {
				for _, most := range fewNumbers {
					wrong := outside(noRowLength(length) || noSeam(seam) || noWidth(least) || noWidth(most))
					for _, want := range fewNumbers {
						code := firstOf(wrong, outside(noWidth(want)), badState(least > most))
						if code == impl.OK {
							row, _ := fitModel(length, seam, least, most, want)
							code = firstOf(missing(row == nil))
						}
						checkCall(t, call{"FitRow", results(length, seam, least, most, want), code, func() []any { a, b := impl.FitRow(length, seam, least, most, want); return results(a, b) }})
					}
					for _, r := range rows[:12] {
						code := firstOf(invalid(!r.good), wrong, badState(least > most))
						if code == impl.OK {
							_, _, ok := changeModel(r.row, seam, length, least, most)
							code = firstOf(missing(!ok))
						}
						checkCall(t, call{"ChangeRow", results(r.name, seam, length, least, most), code, func() []any {
							a, b, c := impl.ChangeRow(r.row, seam, length, least, most)
							return results(a, b, c)
						}})
					}
				}
			}
		}
	}
}

func TestPromise1CallsWithBricks(t *testing.T) {
	for _, length := range fewNumbers {
		for _, seam := range fewNumbers {
			for _, width := range fewNumbers {
				wrong := outside(noRowLength(length) || noSeam(seam) || noWidth(width))
				for _, first := range rowNumbers {
					code := firstOf(wrong, outside(noWidth(first)))
					if code == impl.OK {
						code = firstOf(missing(brickModel(length, seam, width, first) == nil))
					}
					checkCall(t, call{"BrickRow", results(length, seam, width, first), code, func() []any { a, b := impl.BrickRow(length, seam, width, first); return results(a, b) }})
				}
				for _, near := range []int64{numbers[0], -1, 0, 4, 2000, 2001, 1<<32 + 4} {
					for _, rows := range []int64{-1, 0, 1, 2, 20, 21, 1<<32 + 1, numbers[len(numbers)-1]} {
						code := firstOf(wrong, outside(noNear(near) || rows < 1 || rows > 20))
						if code == impl.OK {
							// Behind the second row there is always one: the row before it has no clash with it.
							code = firstOf(missing(staggerModel(length, seam, width, near, min(rows, 2)) == nil))
						}
						checkCall(t, call{"StaggerRows", results(length, seam, width, near, rows), code, func() []any {
							a, b := impl.StaggerRows(length, seam, width, near, rows)
							return results(a, b)
						}})
					}
				}
			}
		}
	}
}

func TestPromise1CallsWithListsOfRows(t *testing.T) {
	even, brick := widths("4,4,4"), widths("2,4,4,1")
	lists := map[string][]impl.Row{"nil": nil, "empty": {}, "one": {even}, "a clash": {even, even}, "none": {even, brick}, "20": slices.Repeat([]impl.Row{even, brick}, 10), "22": slices.Repeat([]impl.Row{even, brick}, 11), "a million": slices.Repeat([]impl.Row{widths("1")}, 1000000)}
	for _, r := range rowsOfBothKinds() {
		if !r.good {
			lists["alone: "+r.name], lists["last: "+r.name], lists["of 22: "+r.name] = []impl.Row{r.row}, []impl.Row{even, even, r.row}, append(slices.Repeat([]impl.Row{even, brick}, 11), r.row)
		}
	}
	for name, list := range lists {
		bad := strings.Contains(name, ":")
		for _, seam := range fewNumbers {
			for _, near := range fewNumbers {
				wrong := firstOf(invalid(bad), outside(noSeam(seam) || noNear(near)), tooMany(len(list) > 20))
				none := wrong == impl.OK
				for i := 1; none && i < len(list); i++ {
					none = len(clashesModel(list[i-1], list[i], seam, near)) == 0
				}
				checkCall(t, call{"FirstClash", results(name, seam, near), firstOf(fault{wrong != impl.OK, wrong}, missing(none)), func() []any { a, b := impl.FirstClash(list, seam, near); return results(a, b) }})
			}
		}
	}
}

func TestPromise1CallsWithTextsOfRows(t *testing.T) {
	for _, path := range append(noPaths(), "n", "eeenn", turning(61, 1), turning(2000, 1), turning(1, 2000)) {
		broken := noSyntax(!pathForm.MatchString(path))
		name := fmt.Sprintf("%.20q", path)
		checkCall(t, call{"TurnsOf", results(name), firstOf(broken), func() []any { a, b, c := impl.TurnsOf(path); return results(a, b, c) }})
		for _, least := range rowNumbers {
			for _, most := range rowNumbers {
				code := firstOf(outside(noWidth(least) || noWidth(most)), broken, badState(least > most))
				if code == impl.OK {
					_, code = alongModel(path, least, most)
				}
				checkCall(t, call{"StonesAlong", results(name, least, most), code, func() []any { a, b := impl.StonesAlong(path, least, most); return results(a, b) }})
			}
		}
	}
	for text, want := range map[string]int64{"5,3,4": impl.OK, "200": impl.OK, "": impl.ErrSyntax, "5,,4": impl.ErrSyntax, "5,03": impl.ErrSyntax, "201": impl.ErrSyntax} {
		checkCall(t, call{"ReadRow", results(text), want, func() []any { a, b := impl.ReadRow(text); return results(a, b) }})
	}
}

// callsWithRows calls each function of chapter 5 that has a slice among its arguments, and returns all results.
func callsWithRows(a, b impl.Row, sizes []int64, list []impl.Row) [][]any {
	var all [][]any
	add := func(values ...any) { all = append(all, values) }
	number := func(n, code int64) { add(n, code) }
	add(impl.ValidRow(a), impl.SameRow(a, b), impl.RowText(a))
	number(impl.LengthOf(a, 3))
	joints, code := impl.JointsOf(a, 3)
	add(joints, code)
	number(impl.StoneOver(a, 3, 4))
	for _, more := range []int64{-20, -1, 0, 1, 20} {
		now, _ := impl.LengthOf(a, 1)
		row, changed, code := impl.ChangeRow(a, 1, now+more, 1, 200)
		add(row, changed, code)
	}
	clashes, code := impl.ClashesOf(a, b, 2, 3)
	add(clashes, code)
	number(impl.LeastApart(a, b, 2))
	for _, length := range []int64{1, 14, 77, 2000} {
		row, code := impl.FewestStones(length, 1, sizes)
		add(row, code)
		number(impl.CountRows(length, 1, sizes))
	}
	number(impl.FirstClash(list, 1, 1))
	return all
}

// TestPromise1RowsAreKept checks that no argument is modified, nor the room behind it, and that this room has no influence.
func TestPromise1RowsAreKept(t *testing.T) {
	rows := append(sampleRows(), invalidRows()["61 stones"], nil, impl.Row{0})
	for i, a := range rows {
		b := rows[(i*7+3)%len(rows)]
		sizes := [][]int64{{3, 4}, {1, 2, 3, 4, 5, 6, 7, 8}, {4, 3}, {200}, nil}[i%5]
		plain := []impl.Row{a, b, a}
		want := callsWithRows(slices.Clip(slices.Clone(a)), slices.Clip(slices.Clone(b)), slices.Clip(slices.Clone(sizes)), slices.Clip(slices.Clone(plain)))

		roomyA, roomyB, roomySizes := impl.Row(roomy(a, 7)), impl.Row(roomy(b, 9)), roomy(sizes, 9)
		list := roomy([]impl.Row{roomyA, roomyB, roomyA}, impl.Row{4})
		got := callsWithRows(roomyA, roomyB, roomySizes, list)
		if !reflect.DeepEqual(got, want) {
			t.Errorf("%v, %v: got %v, with room behind the lists %v", a, b, want, got)
		}
		wantEqual(t, "a", roomyA[:len(a)+20], append(slices.Clone(a), rowWith(7, 20)...))
		wantEqual(t, "b", roomyB[:len(b)+20], append(slices.Clone(b), rowWith(9, 20)...))
		wantEqual(t, "sizes", roomySizes[:len(sizes)+20], append(slices.Clone(sizes), slices.Repeat([]int64{9}, 20)...))
		wantEqual(t, "list", list[:23], append([]impl.Row{roomyA, roomyB, roomyA}, slices.Repeat([]impl.Row{{4}}, 20)...))
	}
}

// TestPromise1RowsAreNew writes into each list of a result, up to its capacity, and looks at the arguments, the other lists and a result of another call.
func TestPromise1RowsAreNew(t *testing.T) {
	r, other, sizes := widths("5,3,4"), widths("2,4,4,1"), []int64{3, 4}
	for name, row := range map[string]func() impl.Row{
		"EvenRow":              func() impl.Row { row, _ := impl.EvenRow(14, 1, 3); return row },
		"FitRow":               func() impl.Row { row, _ := impl.FitRow(14, 1, 2, 5, 4); return row },
		"FewestStones":         func() impl.Row { row, _ := impl.FewestStones(10, 0, sizes); return row },
		"ChangeRow":            func() impl.Row { row, _, _ := impl.ChangeRow(r, 1, 12, 2, 5); return row },
		"ChangeRow, as it was": func() impl.Row { row, _, _ := impl.ChangeRow(r, 1, 14, 2, 5); return row },
		"BrickRow":             func() impl.Row { row, _ := impl.BrickRow(14, 1, 4, 2); return row },
		"StonesAlong":          func() impl.Row { row, _ := impl.StonesAlong("eeenn", 2, 3); return row },
		"ReadRow":              func() impl.Row { row, _ := impl.ReadRow("5,3,4"); return row },
	} {
		checkNew(t, name, row, -7)
	}
	checkNew(t, "JointsOf", func() []impl.Joint { joints, _ := impl.JointsOf(r, 1); return joints }, impl.Joint{From: -7})
	checkNew(t, "ClashesOf", func() [][2]int64 { clashes, _ := impl.ClashesOf(r, other, 1, 2000); return clashes }, [2]int64{-7, -7})
	checkNew(t, "TurnsOf", func() []int64 { _, parts, _ := impl.TurnsOf("eeenn"); return parts }, -7)
	for _, near := range []int64{0, 1} {
		rows := func() []impl.Row { rows, _ := impl.StaggerRows(12, 0, 4, near, 20); return rows }
		checkNew(t, "StaggerRows", rows, impl.Row{-7})
		want := rows()
		for i := range want {
			one := rows()
			overwritten := one[i][:cap(one[i])]
			for k := range overwritten {
				overwritten[k] = -7
			}
			one[i] = want[i]
			wantEqual(t, "the other rows", one, want)
			wantEqual(t, "the rows of another call", rows(), want)
		}
	}
	wantEqual(t, "the arguments", []any{r, other, sizes}, []any{widths("5,3,4"), widths("2,4,4,1"), []int64{3, 4}})
}
