package tests

import (
	"fmt"
	"slices"
	"testing"

	"loop.example/g01322/impl"
)

// wantRow checks a row that is returned; without a text to be, there should be none.
func wantRow(t *testing.T, name string, r impl.Row, code int64, want string, wantCode int64) {
	t.Helper()
	if writtenRow(r) != want || code != wantCode {
		t.Errorf("%s: got %q with the code %d, want %q with the code %d", name, writtenRow(r), code, want, wantCode)
	}
}

// wantModel checks a row that is returned against the one of a model, which is empty if there should be none.
func wantModel(t *testing.T, name string, r impl.Row, code int64, want impl.Row) {
	t.Helper()
	if want == nil {
		wantRow(t, name, r, code, "", impl.ErrNotFound)
	} else {
		wantRow(t, name, r, code, writtenRow(want), impl.OK)
	}
}

func TestConstantsOfRows(t *testing.T) {
	wantEqual(t, "limits", []int{impl.MaxRow, impl.MaxWidth, impl.MaxRowLength, impl.MaxRows, impl.MaxSizes}, []int{60, 200, 2000, 20, 8})
}

func TestValidRow(t *testing.T) {
	for _, r := range append(sampleRows(), smallRows()...) {
		wantEqual(t, fmt.Sprint(r), impl.ValidRow(r), true)
	}
	for name, r := range invalidRows() {
		wantEqual(t, name, impl.ValidRow(r), false)
	}
	for width := -32768; width <= 32767; width++ {
		want := 1 <= width && width <= 200
		for _, r := range []impl.Row{{int16(width)}, {7, int16(width)}, {int16(width), 7}} {
			if impl.ValidRow(r) != want {
				t.Errorf("%v: got %v", r, !want)
			}
		}
	}
	for count := range 130 {
		wantEqual(t, fmt.Sprint(count, " stones"), impl.ValidRow(rowWith(3, count)), 1 <= count && count <= 60)
	}
}

func TestSameRow(t *testing.T) {
	list := append(sampleRows(), smallRows()...)
	for _, r := range invalidRows() {
		list = append(list, r)
	}
	for i, a := range list {
		for k, b := range list {
			want := len(a) < 100 && len(b) < 100 && writtenRow(a) == writtenRow(b) || i == k
			if impl.SameRow(a, b) != want || impl.SameRow(slices.Clone(a), b) != want {
				t.Errorf("%.60v and %.60v: want %v", fmt.Sprint(a), fmt.Sprint(b), want)
			}
		}
	}
	for _, none := range []impl.Row{nil, {}} {
		wantEqual(t, "empty", impl.SameRow(none, nil) && impl.SameRow(none, impl.Row{}), true)
	}
	wantEqual(t, "the last of many", impl.SameRow(rowWith(1, 1000000), append(rowWith(1, 999999), 2)), false)
}

func TestLengthOf(t *testing.T) {
	for _, c := range []struct {
		row        impl.Row
		seam, want int64
	}{
		{widths("5,3,4"), 1, 14}, {widths("5,3,4"), 0, 12}, {widths("5,3,4"), 200, 412}, {widths("1"), 0, 1}, {widths("1"), 200, 1}, {widths("200"), 200, 200},
		{rowWith(1, 60), 0, 60}, {rowWith(1, 60), 1, 119}, {rowWith(200, 60), 0, 12000}, {rowWith(200, 60), 200, 23800},
	} {
		got, code := impl.LengthOf(c.row, c.seam)
		wantEqual(t, fmt.Sprint(c), []int64{got, code}, []int64{c.want, impl.OK})
	}
	for _, r := range append(sampleRows(), smallRows()...) {
		for _, seam := range someSeams {
			got, code := impl.LengthOf(r, seam)
			wantEqual(t, fmt.Sprint(r, seam), []int64{got, code}, []int64{lengthModel(r, seam), impl.OK})
		}
	}
}

func TestJointsOf(t *testing.T) {
	for _, c := range []struct {
		row  impl.Row
		seam int64
		want string
	}{
		{widths("5,3,4"), 1, "[{5 6} {9 10}]"}, {widths("5,3,4"), 0, "[{5 5} {8 8}]"}, {widths("5,3,4"), 200, "[{5 205} {208 408}]"},
		{widths("1"), 0, "[]"}, {widths("200"), 200, "[]"}, {widths("1,1"), 0, "[{1 1}]"}, {widths("1,200"), 200, "[{1 201}]"},
	} {
		got, code := impl.JointsOf(c.row, c.seam)
		wantEqual(t, fmt.Sprint(c), []string{fmt.Sprint(got), impl.CodeName(code)}, []string{c.want, "ok"})
	}
	for _, r := range append(sampleRows(), smallRows()...) {
		for _, seam := range someSeams {
			got, code := impl.JointsOf(r, seam)
			if code != impl.OK || !slices.Equal(got, jointsModel(r, seam)) {
				t.Errorf("%v with %d: got %v with the code %d, want %v", r, seam, got, code, jointsModel(r, seam))
			}
		}
	}
	widest, _ := impl.JointsOf(rowWith(200, 60), 200)
	wantEqual(t, "the last joint of the longest row", []any{len(widest), widest[58]}, []any{59, impl.Joint{From: 23400, To: 23600}})
}

func TestStoneOver(t *testing.T) {
	r := widths("5,3,4")
	for _, c := range []struct {
		seam, place, want, code int64
	}{
		{1, 0, 0, impl.OK}, {1, 4, 0, impl.OK}, {1, 5, 0, impl.ErrNotFound}, {1, 6, 1, impl.OK}, {1, 8, 1, impl.OK}, {1, 9, 0, impl.ErrNotFound}, {1, 10, 2, impl.OK}, {1, 13, 2, impl.OK}, {1, 14, 0, impl.ErrNotFound}, {1, -1, 0, impl.ErrNotFound},
		{0, 4, 0, impl.OK}, {0, 5, 1, impl.OK}, {0, 7, 1, impl.OK}, {0, 8, 2, impl.OK}, {0, 11, 2, impl.OK}, {0, 12, 0, impl.ErrNotFound},
		{200, 5, 0, impl.ErrNotFound}, {200, 204, 0, impl.ErrNotFound}, {200, 205, 1, impl.OK}, {200, 411, 2, impl.OK}, {200, 412, 0, impl.ErrNotFound},
	} {
		got, code := impl.StoneOver(r, c.seam, c.place)
		wantEqual(t, fmt.Sprint(c), []int64{got, code}, []int64{c.want, c.code})
	}
	for _, r := range append(sampleRows(), smallRows()...) {
		for _, seam := range someSeams {
			units := laidOut(r, seam)
			for place := int64(-3); place < int64(len(units))+3; place++ {
				want := []int64{0, impl.ErrNotFound}
				if place >= 0 && place < int64(len(units)) && units[place] >= 0 {
					want = []int64{units[place], impl.OK}
				}
				if got, code := impl.StoneOver(r, seam, place); got != want[0] || code != want[1] {
					t.Errorf("%d of %v with %d: got %d with the code %d, want %v", place, r, seam, got, code, want)
				}
			}
		}
	}
}

func TestEvenRowByHand(t *testing.T) {
	for _, c := range []struct {
		length, seam, stones int64
		want                 string
		code                 int64
	}{
		{14, 1, 3, "4,4,4", impl.OK}, {15, 1, 3, "5,4,4", impl.OK}, {16, 1, 3, "5,5,4", impl.OK}, {17, 1, 3, "5,5,5", impl.OK},
		{1, 0, 1, "1", impl.OK}, {1, 200, 1, "1", impl.OK}, {200, 200, 1, "200", impl.OK}, {201, 0, 1, "", impl.ErrNotFound}, {2000, 0, 1, "", impl.ErrNotFound},
		// As many stones as just fit, and one more.
		{5, 1, 3, "1,1,1", impl.OK}, {5, 1, 4, "", impl.ErrNotFound}, {4, 0, 4, "1,1,1,1", impl.OK}, {4, 0, 5, "", impl.ErrNotFound}, {1, 0, 2, "", impl.ErrNotFound}, {6, 1, 3, "2,1,1", impl.OK}, {6, 1, 4, "", impl.ErrNotFound},
		{202, 200, 2, "1,1", impl.OK}, {201, 200, 2, "", impl.ErrNotFound}, {2000, 200, 9, "45,45,45,45,44,44,44,44,44", impl.OK}, {2000, 200, 10, "20,20,20,20,20,20,20,20,20,20", impl.OK}, {2000, 200, 11, "", impl.ErrNotFound},
		// As few stones as can be wide enough, and one less.
		{2000, 0, 10, "200,200,200,200,200,200,200,200,200,200", impl.OK}, {2000, 0, 9, "", impl.ErrNotFound}, {1999, 0, 10, "200,200,200,200,200,200,200,200,200,199", impl.OK}, {401, 1, 2, "200,200", impl.OK}, {402, 1, 2, "", impl.ErrNotFound}, {401, 0, 2, "", impl.ErrNotFound},
		{60, 0, 60, writtenRow(rowWith(1, 60)), impl.OK}, {59, 0, 60, "", impl.ErrNotFound}, {119, 1, 60, writtenRow(rowWith(1, 60)), impl.OK}, {118, 1, 60, "", impl.ErrNotFound}, {2000, 200, 60, "", impl.ErrNotFound},
		{60, 0, 61, "", impl.ErrRange}, {2000, 0, 61, "", impl.ErrRange}, {60, 0, 0, "", impl.ErrRange}, {60, 0, -1, "", impl.ErrRange},
		{0, 0, 1, "", impl.ErrRange}, {2001, 0, 20, "", impl.ErrRange}, {10, -1, 1, "", impl.ErrRange}, {10, 201, 1, "", impl.ErrRange},
	} {
		row, code := impl.EvenRow(c.length, c.seam, c.stones)
		wantRow(t, fmt.Sprint(c), row, code, c.want, c.code)
	}
}

// TestPromise11EvenRows deals the units of many lengths, for all numbers of stones.
func TestPromise11EvenRows(t *testing.T) {
	for length := int64(1); length <= 2000; length += 1 + length/40 {
		for _, seam := range someSeams {
			for stones := int64(1); stones <= 60; stones++ {
				row, code := impl.EvenRow(length, seam, stones)
				if want := evenModel(length, seam, stones); code == impl.OK != (want != nil) || !slices.Equal(row, want) {
					t.Fatalf("%d, %d, %d: got %v with the code %d, want %v", length, seam, stones, row, code, want)
				}
				if code == impl.OK && lengthModel(row, seam) != length {
					t.Fatalf("%d, %d, %d: %v is %d long", length, seam, stones, row, lengthModel(row, seam))
				}
			}
		}
	}
}

func TestFitRowByHand(t *testing.T) {
	for _, c := range []struct {
		length, seam, least, most, want int64
		row                             string
		code                            int64
	}{
		{14, 1, 2, 5, 4, "4,4,4", impl.OK}, {14, 1, 2, 5, 2, "2,2,2,2,2", impl.OK}, {14, 1, 3, 5, 2, "4,4,4", impl.OK}, {14, 1, 2, 5, 200, "4,4,4", impl.OK}, {14, 1, 2, 5, 3, "3,3,3,2", impl.OK},
		// Two numbers of stones that are as good: 6 is 2 from 4, and 3,3 is 1 from 4 twice.
		{6, 0, 1, 6, 4, "6", impl.OK}, {6, 0, 1, 5, 4, "3,3", impl.OK}, {7, 1, 1, 200, 5, "7", impl.OK}, {10, 0, 1, 200, 5, "5,5", impl.OK}, {12, 0, 1, 200, 8, "12", impl.OK},
		// What counts is the sum, not the mean: 9 is 5 from 4, and 5,4 is 1.
		{9, 0, 1, 200, 4, "5,4", impl.OK}, {3, 0, 1, 200, 1, "1,1,1", impl.OK}, {3, 0, 1, 200, 3, "3", impl.OK},
		{1, 0, 1, 1, 1, "1", impl.OK}, {1, 200, 1, 200, 200, "1", impl.OK}, {200, 200, 200, 200, 1, "200", impl.OK}, {2000, 0, 200, 200, 1, writtenRow(rowWith(200, 10)), impl.OK}, {1999, 0, 200, 200, 200, "", impl.ErrNotFound},
		{61, 0, 1, 1, 1, "", impl.ErrNotFound}, {60, 0, 1, 1, 200, writtenRow(rowWith(1, 60)), impl.OK}, {61, 0, 1, 2, 1, "2," + writtenRow(rowWith(1, 59)), impl.OK},
		{5, 0, 3, 4, 3, "", impl.ErrNotFound}, {14, 1, 6, 6, 6, "", impl.ErrNotFound}, {13, 1, 6, 6, 6, "6,6", impl.OK},
		{14, 1, 5, 4, 4, "", impl.ErrState}, {14, 1, 200, 199, 1, "", impl.ErrState}, {14, 1, 5, 4, 0, "", impl.ErrRange}, {14, 1, 201, 4, 4, "", impl.ErrRange}, {0, 1, 5, 4, 4, "", impl.ErrRange}, {14, 201, 5, 4, 4, "", impl.ErrRange},
	} {
		row, code := impl.FitRow(c.length, c.seam, c.least, c.most, c.want)
		wantRow(t, fmt.Sprint(c), row, code, c.row, c.code)
	}
}

func TestPromise11FitRows(t *testing.T) {
	none, equal := 0, 0
	for length := int64(1); length <= 2000; length += 1 + length/8 {
		for _, seam := range someSeams {
			for _, limits := range [][2]int64{{1, 200}, {1, 1}, {2, 3}, {3, 5}, {5, 5}, {4, 9}, {10, 30}, {20, 25}, {50, 200}, {199, 200}, {200, 200}} {
				for _, want := range []int64{1, 2, 4, 7, 23, 66, 150, 200} {
					row, code := impl.FitRow(length, seam, limits[0], limits[1], want)
					fit, others := fitModel(length, seam, limits[0], limits[1], want)
					wantModel(t, fmt.Sprint(length, seam, limits, want), row, code, fit)
					if fit == nil {
						none++
					} else if lengthModel(row, seam) != length {
						t.Errorf("%v with %d: not as long as %d", row, seam, length)
					}
					equal += others
				}
			}
		}
	}
	if none < 1000 || equal < 50 {
		t.Errorf("only %d times there is none, and %d times another one is as good", none, equal)
	}
}

func TestChangeRowByHand(t *testing.T) {
	for _, c := range []struct {
		row                       impl.Row
		seam, length, least, most int64
		want                      string
		changed, code             int64
	}{
		{widths("5,3,4"), 1, 12, 2, 5, "3,3,4", 1, impl.OK}, {widths("5,3,4"), 1, 17, 2, 6, "6,5,4", 2, impl.OK}, {widths("5,3,4"), 1, 14, 2, 5, "5,3,4", 0, impl.OK},
		{widths("5,3,4"), 1, 20, 2, 6, "6,6,6", 3, impl.OK}, {widths("5,3,4"), 1, 21, 2, 6, "", 0, impl.ErrNotFound}, {widths("5,3,4"), 1, 8, 2, 6, "2,2,2", 3, impl.OK}, {widths("5,3,4"), 1, 7, 2, 6, "", 0, impl.ErrNotFound},
		// Nothing is to be changed, so that also stones beyond both limits stay.
		{widths("5,3,4"), 1, 14, 4, 4, "5,3,4", 0, impl.OK}, {widths("200,1"), 0, 201, 50, 60, "200,1", 0, impl.OK},
		// Wider: one that is wider than most stays, one that is narrower than least becomes wider like any other.
		{widths("9,3,4"), 0, 18, 2, 5, "9,5,4", 1, impl.OK}, {widths("9,3,9,4"), 0, 28, 2, 5, "9,5,9,5", 2, impl.OK}, {widths("9,3,9,4"), 0, 29, 2, 5, "", 0, impl.ErrNotFound}, {widths("1,1,9"), 0, 14, 3, 5, "4,1,9", 1, impl.OK}, {widths("1,1,9"), 0, 12, 3, 5, "2,1,9", 1, impl.OK}, {widths("1,1,9"), 0, 17, 3, 5, "5,3,9", 2, impl.OK},
		// Narrower: one that is narrower than least stays, one that is wider than most becomes narrower like any other.
		{widths("1,6,4"), 0, 9, 3, 5, "1,4,4", 1, impl.OK}, {widths("1,6,2,4"), 0, 9, 3, 5, "1,3,2,3", 2, impl.OK}, {widths("1,6,2,4"), 0, 8, 3, 5, "", 0, impl.ErrNotFound}, {widths("9,9,1"), 0, 16, 3, 5, "6,9,1", 1, impl.OK}, {widths("9,9,1"), 0, 18, 3, 5, "8,9,1", 1, impl.OK}, {widths("9,9,1"), 0, 10, 3, 5, "3,6,1", 2, impl.OK},
		{widths("1"), 200, 200, 1, 200, "200", 1, impl.OK}, {widths("1"), 200, 201, 1, 200, "", 0, impl.ErrNotFound}, {widths("200"), 0, 1, 1, 200, "1", 1, impl.OK}, {widths("200"), 0, 1, 2, 200, "", 0, impl.ErrNotFound},
		{rowWith(1, 60), 0, 2000, 1, 200, "200,200,200,200,200,200,200,200,200,150," + writtenRow(rowWith(1, 50)), 10, impl.OK}, {rowWith(200, 60), 0, 60, 1, 200, writtenRow(rowWith(1, 60)), 60, impl.OK}, {rowWith(200, 60), 0, 59, 1, 200, "", 0, impl.ErrNotFound}, {rowWith(200, 60), 200, 2000, 1, 200, "", 0, impl.ErrNotFound},
		{widths("5,3,4"), 1, 14, 5, 4, "", 0, impl.ErrState}, {widths("5,3,4"), 1, 2000, 5, 4, "", 0, impl.ErrState}, {widths("5,3,4"), 1, 14, 5, 0, "", 0, impl.ErrRange}, {widths("5,3,4"), 201, 14, 5, 4, "", 0, impl.ErrRange}, {widths("5,3,4"), 1, 0, 5, 4, "", 0, impl.ErrRange}, {widths("5,3,4"), 1, 2001, 5, 4, "", 0, impl.ErrRange}, {nil, 201, 0, 5, 4, "", 0, impl.ErrInvalid},
	} {
		row, changed, code := impl.ChangeRow(c.row, c.seam, c.length, c.least, c.most)
		wantRow(t, fmt.Sprint(c), row, code, c.want, c.code)
		wantEqual(t, fmt.Sprint(c), changed, c.changed)
	}
}

func TestPromise11ChangedRows(t *testing.T) {
	found := map[string]int{}
	for _, r := range append(sampleRows(), smallRows()...) {
		for _, seam := range []int64{0, 1, 7, 200} {
			for _, limits := range [][2]int64{{1, 200}, {1, 1}, {2, 3}, {3, 5}, {10, 60}, {50, 200}, {200, 200}} {
				now := lengthModel(r, seam)
				for _, length := range []int64{1, now - 77, now - 5, now - 2, now - 1, now, now + 1, now + 2, now + 5, now + 77, 1999, 2000} {
					if length < 1 || length > 2000 {
						continue
					}
					row, changed, code := impl.ChangeRow(r, seam, length, limits[0], limits[1])
					want, count, ok := changeModel(r, seam, length, limits[0], limits[1])
					name := fmt.Sprint(r, seam, length, limits)
					wantModel(t, name, row, code, want)
					wantEqual(t, name, changed, count)
					if ok && lengthModel(row, seam) != length {
						t.Errorf("%s: %v is %d long", name, row, lengthModel(row, seam))
					}
					found[fmt.Sprint(ok, length < now, length > now)]++
				}
			}
		}
	}
	for _, kind := range []string{"true true false", "true false true", "true false false", "false true false", "false false true"} {
		if found[kind] < 300 {
			t.Errorf("only %d cases of the kind %s", found[kind], kind)
		}
	}
}
