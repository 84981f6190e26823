package tests

import (
	"fmt"
	"slices"
	"strings"
	"testing"

	"loop.example/g01322/impl"
)

func TestClashesByHand(t *testing.T) {
	even, brick := widths("4,4,4"), widths("2,4,4,1")
	for _, c := range []struct {
		name       string
		a, b       impl.Row
		seam, near int64
		want       string
	}{
		{"the example", even, brick, 1, 2, "[[0 0] [1 1]]"}, {"just near", even, brick, 1, 1, "[]"}, {"the joints behind", even, brick, 1, 3, "[[0 0] [0 1] [1 1] [1 2]]"}, {"the other way", brick, even, 1, 3, "[[0 0] [1 0] [1 1] [2 1]]"}, {"all", even, brick, 1, 8, "[[0 0] [0 1] [0 2] [1 0] [1 1] [1 2]]"}, {"all but the farthest", even, brick, 1, 7, "[[0 0] [0 1] [1 0] [1 1] [1 2]]"}, {"all but two", even, brick, 1, 6, "[[0 0] [0 1] [1 1] [1 2]]"}, {"all, and the greatest near", even, brick, 1, 2000, "[[0 0] [0 1] [0 2] [1 0] [1 1] [1 2]]"},
		// Joints that are the same overlap by the seam; near 0 is enough for them, if there is a seam.
		{"the same", even, even, 1, 0, "[[0 0] [1 1]]"}, {"the same, near 4", even, even, 1, 4, "[[0 0] [1 1]]"}, {"the same, near 5", even, even, 1, 5, "[[0 0] [0 1] [1 0] [1 1]]"}, {"without a seam", even, even, 0, 0, "[]"}, {"without a seam, near 1", even, even, 0, 1, "[[0 0] [1 1]]"},
		// From 4 to 7 and from 6 to 9 overlap by 1; from 4 to 7 and from 7 to 10 touch; from 4 to 7 and from 8 to 11 are 1 apart.
		{"overlap", widths("4,9"), widths("6,9"), 3, 0, "[[0 0]]"}, {"touch", widths("4,9"), widths("7,9"), 3, 0, "[]"}, {"touch, near 1", widths("4,9"), widths("7,9"), 3, 1, "[[0 0]]"}, {"just apart", widths("4,9"), widths("8,9"), 3, 1, "[]"}, {"just near 2", widths("4,9"), widths("8,9"), 3, 2, "[[0 0]]"}, {"the other way", widths("8,9"), widths("4,9"), 3, 1, "[]"}, {"the other way, near 2", widths("8,9"), widths("4,9"), 3, 2, "[[0 0]]"},
		{"no joint", widths("9"), widths("4,4"), 1, 2000, "[]"}, {"no joint in b", widths("4,4"), widths("9"), 1, 2000, "[]"}, {"no joints", widths("9"), widths("9"), 0, 2000, "[]"},
		{"one of many", widths("3,3,3,3,3,3"), widths("10,10"), 0, 2, "[[2 0]]"}, {"many of one", widths("10,10"), widths("3,3,3,3,3,3"), 0, 3, "[[0 2] [0 3]]"},
		{"wide joints", widths("1,1"), widths("200,1"), 200, 0, "[[0 0]]"}, {"wide joints, and another length", widths("1,1,1"), widths("200,1"), 200, 2, "[[0 0] [1 0]]"},
	} {
		list, code := impl.ClashesOf(c.a, c.b, c.seam, c.near)
		wantEqual(t, c.name, []string{fmt.Sprint(list), impl.CodeName(code)}, []string{c.want, "ok"})
	}
}

func TestLeastApartByHand(t *testing.T) {
	for _, c := range []struct {
		a, b             impl.Row
		seam, want, code int64
	}{
		{widths("4,4,4"), widths("2,4,4,1"), 1, 1, impl.OK}, {widths("4,4,4"), widths("4,4,4"), 1, -1, impl.OK}, {widths("4,4,4"), widths("4,4,4"), 0, 0, impl.OK}, {widths("4,4"), widths("4,4"), 200, -200, impl.OK},
		{widths("4,9"), widths("6,9"), 3, -1, impl.OK}, {widths("4,9"), widths("7,9"), 3, 0, impl.OK}, {widths("4,9"), widths("8,9"), 3, 1, impl.OK}, {widths("8,9"), widths("4,9"), 3, 1, impl.OK},
		{widths("1,1"), widths("200,200"), 0, 199, impl.OK}, {widths("200,200"), widths("1,1"), 1, 198, impl.OK}, {rowWith(200, 60), append(rowWith(1, 59), 200), 0, 141, impl.OK}, {widths("1,200"), append(rowWith(200, 10), 1), 0, 199, impl.OK},
		{widths("3,3,3,3,3,3"), widths("10,10"), 0, 1, impl.OK}, {widths("5,3,4"), widths("9"), 1, 0, impl.ErrNotFound}, {widths("9"), widths("5,3,4"), 1, 0, impl.ErrNotFound}, {widths("9"), widths("9"), 0, 0, impl.ErrNotFound}, {widths("9"), widths("9"), 201, 0, impl.ErrRange}, {widths("9"), nil, 201, 0, impl.ErrInvalid}, {nil, widths("9"), 201, 0, impl.ErrInvalid},
	} {
		least, code := impl.LeastApart(c.a, c.b, c.seam)
		wantEqual(t, fmt.Sprint(c), []int64{least, code}, []int64{c.want, c.code})
	}
}

// wantClashes holds what is told of two rows against the units between all pairs of their joints.
func wantClashes(t *testing.T, a, b impl.Row, seam int64, nears ...int64) {
	t.Helper()
	var all []int64
	others := jointsModel(b, seam)
	for _, one := range jointsModel(a, seam) {
		for _, other := range others {
			all = append(all, apartModel(one, other))
		}
	}
	want := []int64{0, impl.ErrNotFound}
	if len(all) > 0 {
		want = []int64{slices.Min(all), impl.OK}
	}
	if least, code := impl.LeastApart(a, b, seam); least != want[0] || code != want[1] {
		t.Errorf("%v and %v with %d: got %d with the code %d, want %v", a, b, seam, least, code, want)
	}
	for _, near := range nears {
		list, code := impl.ClashesOf(a, b, seam, near)
		if clashes := clashesModel(a, b, seam, near); code != impl.OK || !slices.Equal(list, clashes) {
			t.Errorf("%v and %v with %d, near %d: got %v with the code %d, want %v", a, b, seam, near, list, code, clashes)
		}
	}
}

func TestClashesOfRows(t *testing.T) {
	for _, a := range smallRows() {
		for _, b := range smallRows() {
			wantClashes(t, a, b, int64(len(a)+len(b))%4, 0, 1, 2, 3)
		}
	}
	list := sampleRows()
	for i, a := range list {
		for k, b := range list {
			if len(a)*len(b) < 200 {
				wantClashes(t, a, b, someSeams[(i+k)%8], 0, 1, 50, 2000)
			}
		}
	}
	long, other := scatteredRow(60, 40, 5), scatteredRow(59, 41, 6)
	wantClashes(t, long, other, 2, 0, 1, 7)
	wantClashes(t, rowWith(1, 60), rowWith(1, 60), 0, 0, 1)
	clashes, _ := impl.ClashesOf(rowWith(1, 60), rowWith(1, 60), 0, 2000)
	wantEqual(t, "the most clashes", []any{len(clashes), clashes[3480]}, []any{59 * 59, [2]int64{58, 58}})
}

func TestBrickRowByHand(t *testing.T) {
	for _, c := range []struct {
		length, seam, width, first int64
		want                       string
		code                       int64
	}{
		{14, 1, 4, 2, "2,4,4,1", impl.OK}, {14, 1, 4, 4, "4,4,4", impl.OK},
		// Behind 3,4 there is left from nothing to a joint and a stone.
		{8, 1, 4, 3, "3,4", impl.OK}, {9, 1, 4, 3, "3,5", impl.OK}, {10, 1, 4, 3, "3,4,1", impl.OK}, {11, 1, 4, 3, "3,4,2", impl.OK}, {12, 1, 4, 3, "3,4,3", impl.OK}, {13, 1, 4, 3, "3,4,4", impl.OK},
		{10, 3, 4, 3, "3,4", impl.OK}, {11, 3, 4, 3, "3,5", impl.OK}, {12, 3, 4, 3, "3,6", impl.OK}, {13, 3, 4, 3, "3,7", impl.OK}, {14, 3, 4, 3, "3,4,1", impl.OK}, {9, 3, 4, 3, "3,3", impl.OK}, {7, 3, 4, 3, "3,1", impl.OK}, {6, 3, 4, 3, "6", impl.OK}, {4, 3, 4, 3, "4", impl.OK}, {3, 3, 4, 3, "3", impl.OK}, {2, 3, 4, 3, "2", impl.OK},
		// Without a seam anything that is left is a stone.
		{8, 0, 4, 3, "3,4,1", impl.OK}, {7, 0, 4, 3, "3,4", impl.OK}, {6, 0, 4, 3, "3,3", impl.OK}, {4, 0, 4, 3, "3,1", impl.OK}, {3, 0, 4, 3, "3", impl.OK},
		// The first is at least the length.
		{1, 0, 1, 1, "1", impl.OK}, {1, 200, 200, 200, "1", impl.OK}, {200, 0, 1, 200, "200", impl.OK}, {199, 0, 1, 200, "199", impl.OK}, {201, 0, 1, 200, "200,1", impl.OK}, {201, 1, 1, 200, "", impl.ErrNotFound}, {201, 1, 1, 199, "199,1", impl.OK}, {200, 1, 1, 199, "200", impl.OK},
		// The last stone would be too wide.
		{400, 200, 1, 200, "", impl.ErrNotFound}, {401, 200, 1, 200, "200,1", impl.OK}, {300, 150, 4, 100, "100,50", impl.OK}, {200, 150, 4, 100, "200", impl.OK}, {250, 150, 4, 100, "", impl.ErrNotFound}, {251, 150, 4, 100, "100,1", impl.OK}, {405, 1, 200, 200, "200,200,3", impl.OK}, {403, 1, 200, 200, "200,200,1", impl.OK}, {402, 1, 200, 200, "", impl.ErrNotFound}, {401, 1, 200, 200, "200,200", impl.OK},
		// As many stones as there may be, and one more.
		{60, 0, 1, 1, writtenRow(rowWith(1, 60)), impl.OK}, {61, 0, 1, 1, "", impl.ErrNotFound}, {61, 0, 1, 2, "2," + writtenRow(rowWith(1, 59)), impl.OK}, {119, 1, 1, 1, writtenRow(rowWith(1, 60)), impl.OK}, {120, 1, 1, 1, writtenRow(append(rowWith(1, 59), 2)), impl.OK}, {121, 1, 1, 1, "", impl.ErrNotFound}, {119, 0, 2, 2, writtenRow(append(rowWith(2, 59), 1)), impl.OK}, {120, 0, 2, 2, writtenRow(rowWith(2, 60)), impl.OK}, {121, 0, 2, 2, "", impl.ErrNotFound}, {2000, 0, 1, 200, "", impl.ErrNotFound}, {2000, 0, 200, 200, writtenRow(rowWith(200, 10)), impl.OK},
		{300, 0, 100, 201, "", impl.ErrRange}, {300, 0, 201, 100, "", impl.ErrRange}, {300, 0, 0, 100, "", impl.ErrRange}, {300, 0, 100, 0, "", impl.ErrRange}, {0, 0, 100, 100, "", impl.ErrRange}, {2001, 0, 100, 100, "", impl.ErrRange}, {300, -1, 100, 100, "", impl.ErrRange}, {300, 201, 100, 100, "", impl.ErrRange}, {100, 0, 1, 201, "", impl.ErrRange},
	} {
		row, code := impl.BrickRow(c.length, c.seam, c.width, c.first)
		wantRow(t, fmt.Sprint(c), row, code, c.want, c.code)
	}
}

func TestPromise11BrickRows(t *testing.T) {
	wider, none := 0, 0
	for length := int64(1); length <= 2000; length += 1 + length/25 {
		for _, seam := range someSeams {
			for _, width := range []int64{1, 2, 3, 10, 33, 34, 47, 100, 199, 200} {
				for _, first := range []int64{1, 2, 5, width/2 + 1, width, 100, 199, 200} {
					row, code := impl.BrickRow(length, seam, width, first)
					want := brickModel(length, seam, width, first)
					name := fmt.Sprint(length, seam, width, first)
					wantModel(t, name, row, code, want)
					if want == nil {
						none++
						continue
					}
					if lengthModel(row, seam) != length {
						t.Errorf("%s: %v is %d long", name, row, lengthModel(row, seam))
					}
					if last := int64(row[len(row)-1]); len(row) > 1 && last > width {
						wider++
					}
				}
			}
		}
	}
	if wider < 500 || none < 500 {
		t.Errorf("only %d rows with a wider last stone, and %d that are none", wider, none)
	}
}

func TestStaggerRowsByHand(t *testing.T) {
	tens := rowWith(200, 10)
	for _, c := range []struct {
		length, seam, width, near, rows int64
		want                            string
		code                            int64
	}{
		{14, 1, 4, 1, 3, "4,4,4 2,4,4,1 4,4,4", impl.OK}, {14, 1, 4, 1, 1, "4,4,4", impl.OK}, {14, 1, 4, 0, 3, "4,4,4 3,4,5 4,4,4", impl.OK}, {14, 1, 4, 2, 2, "", impl.ErrNotFound},
		{14, 1, 4, 2, 1, "4,4,4", impl.OK}, {14, 1, 4, 2000, 1, "4,4,4", impl.OK}, {14, 1, 1, 5, 2, "", impl.ErrNotFound}, {14, 1, 1, 5, 1, "1,1,1,1,1,1,2", impl.OK},
		// Near 0 and no seam: nothing is a clash. A single stone has no joints.
		{12, 0, 4, 0, 3, "4,4,4 4,4,4 4,4,4", impl.OK}, {12, 0, 4, 1, 3, "4,4,4 3,4,4,1 4,4,4", impl.OK}, {12, 0, 4, 2, 3, "4,4,4 2,4,4,2 4,4,4", impl.OK}, {12, 0, 4, 3, 2, "", impl.ErrNotFound}, {12, 0, 12, 2000, 3, "12 12 12", impl.OK}, {12, 5, 200, 2000, 2, "12 12", impl.OK},
		{9, 3, 5, 0, 3, "5,1 2,4 5,1", impl.OK}, {8, 4, 5, 2000, 2, "8 8", impl.OK}, {10, 4, 5, 2000, 2, "", impl.ErrNotFound},
		{2000, 0, 200, 100, 20, strings.TrimSpace(strings.Repeat(writtenRow(tens)+" 100,"+writtenRow(tens[1:])+",100 ", 10)), impl.OK}, {2000, 0, 200, 101, 2, "", impl.ErrNotFound},
		// With the first 150 to 199 the last stone would be too wide, and with the first 1 there would be 61 stones.
		{450, 50, 200, 0, 2, "200,200 149,200,1", impl.OK}, {120, 0, 2, 0, 2, writtenRow(rowWith(2, 60)) + " " + writtenRow(rowWith(2, 60)), impl.OK}, {120, 0, 2, 1, 2, "", impl.ErrNotFound}, {120, 0, 2, 1, 1, writtenRow(rowWith(2, 60)), impl.OK},
		// The first row is not valid, as it has too many stones, or one that is too wide.
		{61, 0, 1, 0, 1, "", impl.ErrNotFound}, {2000, 0, 1, 0, 1, "", impl.ErrNotFound}, {400, 200, 200, 0, 1, "", impl.ErrNotFound}, {201, 1, 200, 0, 2, "", impl.ErrNotFound},
		{14, 1, 4, 1, 0, "", impl.ErrRange}, {14, 1, 4, 1, 21, "", impl.ErrRange}, {14, 1, 4, -1, 3, "", impl.ErrRange}, {14, 1, 4, 2001, 3, "", impl.ErrRange}, {14, 1, 0, 1, 3, "", impl.ErrRange}, {14, 1, 201, 1, 3, "", impl.ErrRange}, {14, -1, 4, 1, 3, "", impl.ErrRange}, {14, 201, 4, 1, 3, "", impl.ErrRange}, {0, 1, 4, 1, 3, "", impl.ErrRange}, {2001, 1, 4, 1, 3, "", impl.ErrRange}, {61, 0, 1, 0, 21, "", impl.ErrRange},
	} {
		list, code := impl.StaggerRows(c.length, c.seam, c.width, c.near, c.rows)
		if got := writtenRows(list); code != c.code || got != c.want {
			t.Errorf("%v: got %q with the code %d", c, got, code)
		}
	}
}

// TestPromise12StaggeredRows holds the rows against a model (where this does not take too long), and their lengths and joints against what is told.
func TestPromise12StaggeredRows(t *testing.T) {
	made, none := 0, 0
	for _, length := range []int64{1, 2, 5, 9, 14, 30, 77, 150, 333, 800, 2000} {
		for _, seam := range []int64{0, 1, 3, 20, 200} {
			for _, width := range []int64{1, 2, 3, 5, 8, 17, 50, 90, 200} {
				for i, near := range []int64{0, 1, 2, 5, 30, 2000} {
					rows := []int64{1, 2, 3, 20, 7, 2}[(int64(i)+length)%6]
					list, code := impl.StaggerRows(length, seam, width, near, rows)
					name := fmt.Sprint(length, seam, width, near, rows)
					if length < 100 || length/(seam+width) < 20 && rows < 4 {
						want := staggerModel(length, seam, width, near, rows)
						if got := writtenRows(list); code == impl.OK != (want != nil) || got != writtenRows(want) {
							t.Errorf("%s: got %s with the code %d, want %s", name, got, code, writtenRows(want))
						}
					}
					if code == impl.OK {
						made++
						wantStaggered(t, list, length, seam, near, rows)
					} else if none++; code != impl.ErrNotFound {
						t.Errorf("%s: got the code %d", name, code)
					}
				}
			}
		}
	}
	if made < 500 || none < 500 {
		t.Errorf("only %d lists of rows, and %d that are none", made, none)
	}
}

// wantStaggered checks that there are so many rows that are valid, as long as told, and without clashes.
func wantStaggered(t *testing.T, list []impl.Row, length, seam, near, rows int64) {
	t.Helper()
	name := fmt.Sprint(writtenRows(list), length, seam, near)
	wantEqual(t, name, int64(len(list)), rows)
	for i, r := range list {
		if !isRow(r) || lengthModel(r, seam) != length {
			t.Errorf("%s: the row %d is %d long", name, i, lengthModel(r, seam))
		}
		if i > 0 && len(clashesModel(list[i-1], r, seam, near)) > 0 {
			t.Errorf("%s: the row %d has a clash", name, i)
		}
	}
	_, code := impl.FirstClash(list, seam, near)
	wantEqual(t, name, code, int64(impl.ErrNotFound))
}

func TestFirstClashByHand(t *testing.T) {
	even, brick, bad := widths("4,4,4"), widths("2,4,4,1"), impl.Row{4, 0}
	many := slices.Repeat([]impl.Row{even, brick}, 10)
	for _, c := range []struct {
		name             string
		list             []impl.Row
		seam, near, want int64
		code             int64
	}{
		{"the second pair", []impl.Row{even, brick, brick}, 1, 1, 2, impl.OK}, {"the first pair", []impl.Row{even, even, brick, brick}, 1, 1, 1, impl.OK}, {"none", []impl.Row{even, brick, even, brick}, 1, 1, 0, impl.ErrNotFound}, {"nearer", []impl.Row{even, brick, even, brick}, 1, 2, 1, impl.OK},
		{"rows that are no neighbours", []impl.Row{even, brick, even}, 0, 1, 0, impl.ErrNotFound}, {"near 0, no seam", []impl.Row{even, even}, 0, 0, 0, impl.ErrNotFound}, {"near 0", []impl.Row{even, even}, 1, 0, 1, impl.OK},
		{"no rows", nil, 1, 2000, 0, impl.ErrNotFound}, {"an empty list", []impl.Row{}, 0, 0, 0, impl.ErrNotFound}, {"one row", []impl.Row{even}, 1, 2000, 0, impl.ErrNotFound}, {"single stones", []impl.Row{widths("9"), widths("9"), widths("9")}, 1, 2000, 0, impl.ErrNotFound}, {"a single stone between", []impl.Row{even, widths("14"), even}, 1, 2000, 0, impl.ErrNotFound}, {"other lengths", []impl.Row{even, widths("4,200")}, 1, 0, 1, impl.OK},
		{"20 rows", many, 1, 1, 0, impl.ErrNotFound}, {"the last of 20", append(many[:19:19], even), 1, 1, 19, impl.OK}, {"21 rows", append(many[:20:20], even), 1, 1, 0, impl.ErrLimit}, {"21 rows, and a clash", append(many[:20:20], brick), 1, 1, 0, impl.ErrLimit}, {"21 rows, a seam", append(many[:20:20], even), 201, 1, 0, impl.ErrRange}, {"21 rows, near", append(many[:20:20], even), 1, 2001, 0, impl.ErrRange}, {"21 rows, the last one", append(many[:20:20], bad), 201, 1, 0, impl.ErrInvalid},
		{"not valid", []impl.Row{bad}, 1, 1, 0, impl.ErrInvalid}, {"not valid behind a clash", []impl.Row{even, even, bad}, 1, 1, 0, impl.ErrInvalid}, {"nil", []impl.Row{nil}, 1, 1, 0, impl.ErrInvalid}, {"many that are nil", make([]impl.Row, 100000), 1, 1, 0, impl.ErrInvalid}, {"many", slices.Repeat(many, 1000), 1, 1, 0, impl.ErrLimit},
		{"seam -1", []impl.Row{even, even}, -1, 1, 0, impl.ErrRange}, {"near -1", []impl.Row{even, even}, 1, -1, 0, impl.ErrRange}, {"seam 201, and no rows", nil, 201, 1, 0, impl.ErrRange},
	} {
		at, code := impl.FirstClash(c.list, c.seam, c.near)
		wantEqual(t, c.name, []int64{at, code}, []int64{c.want, c.code})
	}
}

func TestFirstClashOfRows(t *testing.T) {
	small := smallRows()
	found, none := 0, 0
	for seed := range 3000 {
		var list []impl.Row
		for i := range seed % 6 {
			list = append(list, small[(seed*31+i*i*17+seed*i*7)%len(small)])
		}
		seam, near := int64(seed)%3, int64(seed/3)%3
		want := []int64{0, impl.ErrNotFound}
		for i := len(list) - 1; i > 0; i-- {
			if len(clashesModel(list[i-1], list[i], seam, near)) > 0 {
				want = []int64{int64(i), impl.OK}
			}
		}
		at, code := impl.FirstClash(list, seam, near)
		wantEqual(t, fmt.Sprint(list, seam, near), []int64{at, code}, want)
		if code == impl.OK {
			found++
		} else {
			none++
		}
	}
	if found < 300 || none < 300 {
		t.Errorf("only %d clashes, and %d lists without", found, none)
	}
}
