package tests

import (
	"fmt"
	"slices"
	"testing"

	"loop.example/g01322/impl"
)

// sizesTask is a task to make rows of a length out of stones of some sizes.
type sizesTask struct {
	length, seam int64
	sizes        []int64
}

// smallSizes are all tasks with lengths up to 14, small seams, and sizes up to 4.
func smallSizes() []sizesTask {
	var list []sizesTask
	for length := int64(1); length <= 14; length++ {
		for seam := range int64(4) {
			for set := uint(1); set < 16; set++ {
				sizes := setOf(set)
				for i := range sizes {
					sizes[i]++
				}
				list = append(list, sizesTask{length, seam, sizes})
			}
		}
	}
	return list
}

// sampleSizes have the least and the greatest lengths, seams, numbers of sizes and numbers of stones.
func sampleSizes() []sizesTask {
	eight := []int64{1, 2, 3, 4, 5, 6, 7, 8}
	list := []sizesTask{
		{10, 0, []int64{3, 4}}, {5, 0, []int64{3, 4}}, {1, 0, []int64{1}}, {1, 200, []int64{1}}, {1, 0, []int64{2}}, {200, 200, []int64{200}}, {2000, 0, []int64{200}}, {1999, 0, []int64{200}}, {2000, 200, []int64{200}}, {1800, 200, []int64{200}}, {1400, 200, []int64{1, 200}},
		{60, 0, []int64{1}}, {61, 0, []int64{1}}, {119, 1, []int64{1}}, {121, 1, []int64{1}}, {120, 1, []int64{1}}, {61, 0, []int64{1, 2}}, {62, 0, []int64{1, 2}}, {120, 0, []int64{1, 2}}, {121, 0, []int64{1, 2}}, {119, 0, []int64{1, 2}},
		{2000, 0, []int64{33, 34}}, {1980, 0, []int64{33}}, {2000, 0, []int64{33}}, {2000, 1, []int64{32, 33}}, {2000, 0, []int64{7, 11}}, {300, 0, []int64{7, 11, 13}}, {301, 3, []int64{7, 11, 13}},
		{10, 0, eight}, {40, 0, eight}, {40, 1, eight}, {100, 5, []int64{1, 9, 10, 24, 25, 49, 50, 100}}, {400, 9, []int64{3, 50, 51, 77, 80, 111, 190, 200}}, {1000, 0, []int64{17, 90, 91, 92, 93, 94, 95, 199}}, {2000, 20, []int64{60, 70, 80, 90}},
		// A row that begins with the widest stone, or the narrowest one, is not always one with the fewest.
		{8, 0, []int64{1, 4, 5}}, {6, 0, []int64{1, 3, 4}}, {16, 0, []int64{1, 5, 8, 12}}, {24, 0, []int64{2, 7, 9, 10}},
		// The numbers of rows around the most that are counted.
		{43, 0, []int64{1, 2}}, {44, 0, []int64{1, 2}}, {45, 0, []int64{1, 2}}, {30, 0, eight}, {31, 0, eight}, {32, 0, eight}, {33, 0, eight}, {60, 1, eight}, {75, 0, []int64{2, 3}}, {90, 1, []int64{1, 2, 3}},
	}
	for seed := range 40 {
		sizes := slices.Compact(slices.Sorted(slices.Values([]int64{int64(seed)*37%50 + 1, int64(seed)*61%60 + 1, int64(seed)*17%9 + 5})))
		list = append(list, sizesTask{int64(seed)*173%600 + 1, []int64{0, 1, 3, 10, 50}[seed%5], sizes})
	}
	return list
}

func TestFewestStonesByHand(t *testing.T) {
	for _, c := range []struct {
		task sizesTask
		want string
		code int64
	}{
		{sizesTask{10, 0, []int64{3, 4}}, "3,3,4", impl.OK}, {sizesTask{5, 0, []int64{3, 4}}, "", impl.ErrNotFound}, {sizesTask{8, 0, []int64{1, 4, 5}}, "4,4", impl.OK}, {sizesTask{9, 1, []int64{1, 4, 5}}, "4,4", impl.OK}, {sizesTask{10, 1, []int64{1, 4, 5}}, "4,5", impl.OK},
		{sizesTask{12, 0, []int64{2, 4, 8}}, "4,8", impl.OK}, {sizesTask{12, 2, []int64{2, 4, 8}}, "2,8", impl.OK}, {sizesTask{1, 0, []int64{1}}, "1", impl.OK}, {sizesTask{1, 200, []int64{1, 2}}, "1", impl.OK}, {sizesTask{1, 0, []int64{2}}, "", impl.ErrNotFound}, {sizesTask{200, 200, []int64{200}}, "200", impl.OK}, {sizesTask{199, 0, []int64{200}}, "", impl.ErrNotFound},
		{sizesTask{2, 0, []int64{1}}, "1,1", impl.OK}, {sizesTask{2, 1, []int64{1}}, "", impl.ErrNotFound}, {sizesTask{3, 1, []int64{1}}, "1,1", impl.OK}, {sizesTask{2, 2, []int64{1}}, "", impl.ErrNotFound},
		{sizesTask{60, 0, []int64{1}}, writtenRow(rowWith(1, 60)), impl.OK}, {sizesTask{61, 0, []int64{1}}, "", impl.ErrNotFound}, {sizesTask{61, 0, []int64{1, 2}}, "1," + writtenRow(rowWith(2, 30)), impl.OK}, {sizesTask{120, 0, []int64{1, 2}}, writtenRow(rowWith(2, 60)), impl.OK}, {sizesTask{121, 0, []int64{1, 2}}, "", impl.ErrNotFound}, {sizesTask{2000, 0, []int64{1, 33}}, "", impl.ErrNotFound},
		{sizesTask{2000, 0, []int64{200}}, writtenRow(rowWith(200, 10)), impl.OK}, {sizesTask{2000, 0, []int64{1, 199, 200}}, writtenRow(rowWith(200, 10)), impl.OK}, {sizesTask{1999, 0, []int64{1, 199, 200}}, "199," + writtenRow(rowWith(200, 9)), impl.OK},
		{sizesTask{36, 0, []int64{1, 2, 3, 4, 5, 6, 7, 8}}, "4,8,8,8,8", impl.OK},
	} {
		row, code := impl.FewestStones(c.task.length, c.task.seam, c.task.sizes)
		wantRow(t, fmt.Sprint(c.task), row, code, c.want, c.code)
	}
}

// TestPromise11NoRowHasFewerStones holds the row against all rows of the sizes, and their number.
func TestPromise11NoRowHasFewerStones(t *testing.T) {
	rows, none := 0, 0
	for _, c := range smallSizes() {
		all := rowsOfSizes(c.length, c.seam, c.sizes)
		row, code := impl.FewestStones(c.length, c.seam, c.sizes)
		var fewest impl.Row
		for _, other := range all {
			if fewest == nil || len(other) < len(fewest) {
				fewest = other
			}
			if code != impl.OK || len(other) < len(row) {
				t.Errorf("%v: got %v with the code %d, but there is %v", c, row, code, other)
			}
		}
		wantModel(t, fmt.Sprint(c), row, code, fewest)
		if code == impl.OK && lengthModel(row, c.seam) != c.length {
			t.Errorf("%v: %v is %d long", c, row, lengthModel(row, c.seam))
		}
		count, code := impl.CountRows(c.length, c.seam, c.sizes)
		wantEqual(t, fmt.Sprint(c), []int64{count, code}, []int64{int64(len(all)), impl.OK})
		if rows += len(all); len(all) == 0 {
			none++
		}
	}
	if rows < 10000 || none < 50 {
		t.Errorf("only %d rows, and %d times there is none", rows, none)
	}
}

func TestPromise11FewestStonesOfLongRows(t *testing.T) {
	rows, none := 0, 0
	for _, c := range sampleSizes() {
		row, code := impl.FewestStones(c.length, c.seam, c.sizes)
		want := fewestModel(c.length, c.seam, c.sizes)
		wantModel(t, fmt.Sprint(c), row, code, want)
		if want == nil {
			none++
			continue
		}
		rows++
		if !isRow(row) || lengthModel(row, c.seam) != c.length || slices.ContainsFunc(row, func(width int16) bool { return !slices.Contains(c.sizes, int64(width)) }) {
			t.Errorf("%v: got %v, which is %d long", c, row, lengthModel(row, c.seam))
		}
	}
	if rows < 40 || none < 10 {
		t.Errorf("only %d rows, and %d times there is none", rows, none)
	}
}

func TestCountRowsByHand(t *testing.T) {
	for _, c := range []struct {
		task sizesTask
		want int64
	}{
		{sizesTask{10, 0, []int64{3, 4}}, 3}, {sizesTask{5, 0, []int64{3, 4}}, 0}, {sizesTask{12, 1, []int64{3, 4}}, 3}, {sizesTask{11, 1, []int64{3}}, 1}, {sizesTask{1, 0, []int64{1}}, 1}, {sizesTask{1, 200, []int64{1}}, 1}, {sizesTask{2, 0, []int64{1, 2}}, 2}, {sizesTask{2, 1, []int64{1, 2}}, 1}, {sizesTask{3, 0, []int64{1, 2, 3}}, 4},
		// Rows with more than 60 stones do not count.
		{sizesTask{60, 0, []int64{1}}, 1}, {sizesTask{61, 0, []int64{1}}, 0}, {sizesTask{119, 1, []int64{1}}, 1}, {sizesTask{121, 1, []int64{1}}, 0}, {sizesTask{120, 0, []int64{1, 2}}, 1}, {sizesTask{119, 0, []int64{1, 2}}, 60}, {sizesTask{118, 0, []int64{1, 2}}, 1770 + 1}, {sizesTask{121, 0, []int64{1, 2}}, 0},
		{sizesTask{61, 0, []int64{1, 61}}, 1}, {sizesTask{60, 0, []int64{1, 60}}, 2}, {sizesTask{62, 0, []int64{1, 50}}, 13}, {sizesTask{62, 0, []int64{1, 3}}, 1000000000},
		// Each of these numbers is the sum of the two before it.
		{sizesTask{42, 0, []int64{1, 2}}, 433494437}, {sizesTask{43, 0, []int64{1, 2}}, 701408733}, {sizesTask{44, 0, []int64{1, 2}}, 1000000000}, {sizesTask{45, 0, []int64{1, 2}}, 1000000000}, {sizesTask{91, 0, []int64{1, 2, 3}}, 1000000000}, {sizesTask{270, 0, []int64{1, 2, 3, 4, 5, 6, 7, 8}}, 1000000000}, {sizesTask{1400, 0, []int64{17, 18, 19, 20, 21, 22, 23, 24}}, 1000000000}, {sizesTask{60, 0, []int64{1, 2}}, 1000000000},
		// Each number is twice the one before it, up to the greatest size.
		{sizesTask{8, 0, []int64{1, 2, 3, 4, 5, 6, 7, 8}}, 128}, {sizesTask{9, 0, []int64{1, 2, 3, 4, 5, 6, 7, 8}}, 255}, {sizesTask{480, 0, []int64{1, 2, 3, 4, 5, 6, 7, 8}}, 1}, {sizesTask{479, 0, []int64{1, 2, 3, 4, 5, 6, 7, 8}}, 60}, {sizesTask{61, 1, []int64{1, 2, 3, 4, 5, 6, 7, 8}}, 1000000000}, {sizesTask{2000, 0, []int64{33, 34}}, 1000000000}, {sizesTask{2000, 200, []int64{200}}, 0}, {sizesTask{2000, 0, []int64{200}}, 1}, {sizesTask{1800, 200, []int64{200}}, 1}, {sizesTask{1400, 200, []int64{200}}, 1}, {sizesTask{1600, 200, []int64{200}}, 0},
		// Five stones of 200 but one of 199, and six of 120 but one of 199.
		{sizesTask{1799, 200, []int64{120, 199, 200}}, 5 + 6},
	} {
		count, code := impl.CountRows(c.task.length, c.task.seam, c.task.sizes)
		wantEqual(t, fmt.Sprint(c.task), []int64{count, code}, []int64{c.want, impl.OK})
	}
}

func TestCountRows(t *testing.T) {
	many, some := 0, 0
	for _, c := range sampleSizes() {
		want := cappedCount(c.length, c.seam, c.sizes)
		count, code := impl.CountRows(c.length, c.seam, c.sizes)
		wantEqual(t, fmt.Sprint(c), []int64{count, code}, []int64{want, impl.OK})
		if want == 1000000000 {
			many++
		} else if want > 1000 {
			some++
		}
	}
	if many < 8 || some < 8 {
		t.Errorf("only %d counts that are too great, and %d that are not", many, some)
	}
}

// badSizes are lists of sizes that are not as told.
func badSizes() map[string][]int64 {
	list := map[string][]int64{
		"nil": nil, "empty": {}, "9 sizes": {1, 2, 3, 4, 5, 6, 7, 8, 9}, "9 sizes, wide": {192, 193, 194, 195, 196, 197, 198, 199, 200},
		"equal": {3, 3}, "equal last": {3, 4, 4}, "equal first": {3, 3, 4}, "decreasing": {4, 3}, "decreasing last": {1, 5, 4}, "decreasing first": {5, 1, 6},
		"0": {0}, "0 and more": {0, 1, 2}, "-1": {-1, 1}, "201": {201}, "200 and 201": {200, 201}, "256": {1, 256}, "257": {1, 257}, "cut to 3": {1, 1<<16 + 3}, "cut to 4": {1, 1<<32 + 4}, "least": {numbers[0], 1}, "greatest": {1, numbers[len(numbers)-1]},
		"a million": slices.Repeat([]int64{1}, 1000000),
	}
	for i := range int64(8) {
		sizes := []int64{10, 20, 30, 40, 50, 60, 70, 80}
		sizes[i] = 0
		list[fmt.Sprint(i, " is 0")] = sizes
	}
	return list
}

func TestBadSizes(t *testing.T) {
	for name, sizes := range badSizes() {
		row, code := impl.FewestStones(10, 0, sizes)
		wantRow(t, name, row, code, "", impl.ErrRange)
		count, code := impl.CountRows(10, 0, sizes)
		wantEqual(t, name, []int64{count, code}, []int64{0, impl.ErrRange})
	}
	for _, sizes := range [][]int64{{1, 2, 3, 4, 5, 6, 7, 10}, {10, 194, 195, 196, 197, 198, 199, 200}, {10}} {
		row, code := impl.FewestStones(10, 0, sizes)
		wantRow(t, fmt.Sprint(sizes), row, code, "10", impl.OK)
	}
}
