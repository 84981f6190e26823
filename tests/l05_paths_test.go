package tests

import (
	"fmt"
	"slices"
	"strings"
	"testing"

	"loop.example/g01322/impl"
)

func TestTurnsOfByHand(t *testing.T) {
	for _, c := range []struct {
		path    string
		corners int64
		parts   string
	}{
		{"eeenn", 1, "[3 2]"}, {"n", 0, "[1]"}, {"w", 0, "[1]"}, {"nn", 0, "[2]"}, {"ns", 1, "[1 1]"}, {"eew", 1, "[2 1]"}, {"neswnesw", 7, "[1 1 1 1 1 1 1 1]"}, {"eeneee", 2, "[2 1 3]"}, {"nssse", 2, "[1 3 1]"},
		{strings.Repeat("s", 2000), 0, "[2000]"}, {strings.Repeat("s", 1999) + "w", 1, "[1999 1]"}, {"w" + strings.Repeat("s", 1999), 1, "[1 1999]"},
	} {
		corners, parts, code := impl.TurnsOf(c.path)
		wantEqual(t, c.path, []any{corners, fmt.Sprint(parts), code}, []any{c.corners, c.parts, int64(impl.OK)})
	}
}

func TestTurnsOf(t *testing.T) {
	for _, path := range samplePaths() {
		corners, parts, code := impl.TurnsOf(path)
		want := int64(0)
		for i := range path[1:] {
			if path[i:i+1] != path[i+1:i+2] {
				want++
			}
		}
		if code != impl.OK || corners != want || !slices.Equal(parts, partsModel(path)) {
			t.Errorf("%.40s: got %d, %v with the code %d, want %d, %v", path, corners, parts, code, want, partsModel(path))
		}
	}
	for _, text := range noPaths() {
		corners, parts, code := impl.TurnsOf(text)
		if code != impl.ErrSyntax || corners != 0 || len(parts) != 0 {
			t.Errorf("%.40q: got %d, %v with the code %d", text, corners, parts, code)
		}
	}
}

// TestEveryByteOfAPathCounts puts each byte at each place of a path, ahead of it, or leaves one away.
func TestEveryByteOfAPathCounts(t *testing.T) {
	path := "neeswwn"
	good := 0
	for place := range len(path) {
		for letter := range 256 {
			for _, changed := range []string{path[:place] + string([]byte{byte(letter)}) + path[place+1:], path[:place] + string([]byte{byte(letter)}) + path[place:], path[:place] + path[place+1:]} {
				want := int64(impl.ErrSyntax)
				if pathForm.MatchString(changed) {
					want = impl.OK
					good++
				}
				corners, parts, code := impl.TurnsOf(changed)
				if want == impl.OK && !slices.Equal(parts, partsModel(changed)) || code != want {
					t.Errorf("%q: got %d, %v with the code %d", changed, corners, parts, code)
				}
				row, code := impl.StonesAlong(changed, 1, 2)
				if code != want || want == impl.ErrSyntax && len(row) != 0 {
					t.Errorf("%q: got %v with the code %d", changed, row, code)
				}
			}
		}
	}
	if good < 100 {
		t.Errorf("only %d paths", good)
	}
}

func TestStonesAlongByHand(t *testing.T) {
	ones := func(count int) string { return writtenRow(rowWith(1, count)) }
	for _, c := range []struct {
		path        string
		least, most int64
		want        string
		code        int64
	}{
		{"eeenn", 2, 3, "3,2", impl.OK}, {"eeenn", 1, 200, "3,2", impl.OK}, {"eeenn", 1, 2, "2,1,2", impl.OK}, {"eeenn", 1, 1, "1,1,1,1,1", impl.OK}, {"eeenn", 3, 3, "", impl.ErrNotFound}, {"nneee", 3, 3, "", impl.ErrNotFound}, {"eeenn", 2, 2, "", impl.ErrNotFound},
		{"eeeeeee", 2, 3, "3,2,2", impl.OK}, {"eeeeeee", 3, 3, "", impl.ErrNotFound}, {"eeeeeee", 3, 4, "4,3", impl.OK}, {"eeeeeee", 3, 5, "4,3", impl.OK}, {"eeeeeee", 4, 6, "", impl.ErrNotFound}, {"eeeeeee", 4, 7, "7", impl.OK}, {"eeeeeee", 7, 7, "7", impl.OK}, {"eeeeeee", 8, 200, "", impl.ErrNotFound},
		{"n", 1, 1, "1", impl.OK}, {"n", 2, 3, "", impl.ErrNotFound}, {"n", 1, 200, "1", impl.OK}, {"nesw", 1, 2, "1,1,1,1", impl.OK}, {"nneessww", 2, 2, "2,2,2,2", impl.OK},
		// More than 60 stones along a path, all in one part, or in several ones.
		{turning(1, 60), 1, 1, ones(60), impl.OK}, {turning(1, 61), 1, 1, "", impl.ErrLimit}, {turning(60, 1), 1, 1, ones(60), impl.OK}, {turning(60, 1), 1, 200, ones(60), impl.OK}, {turning(61, 1), 1, 200, "", impl.ErrLimit}, {turning(2000, 1), 1, 1, "", impl.ErrLimit}, {turning(1, 2000), 1, 1, "", impl.ErrLimit}, {turning(1, 2000), 1, 33, "", impl.ErrLimit}, {turning(1, 2000), 1, 34, writtenRow(append(rowWith(34, 53), rowWith(33, 6)...)), impl.OK}, {turning(1, 2000), 200, 200, writtenRow(rowWith(200, 10)), impl.OK}, {turning(1, 1999), 200, 200, "", impl.ErrNotFound}, {turning(1, 1999), 199, 200, writtenRow(append(rowWith(200, 9), 199)), impl.OK}, {turning(2000, 1), 2, 2, "", impl.ErrNotFound},
		// That a part has no stones comes ahead of too many stones, also in a part behind them.
		{strings.Repeat("n", 400) + "e", 2, 2, "", impl.ErrNotFound}, {"e" + strings.Repeat("n", 400), 2, 2, "", impl.ErrNotFound}, {strings.Repeat("n", 400) + "ee", 2, 2, "", impl.ErrLimit}, {strings.Repeat("n", 400) + "een", 2, 2, "", impl.ErrNotFound}, {turning(200, 2) + "nns", 2, 2, "", impl.ErrNotFound}, {strings.Repeat("ne", 200) + "ss", 1, 1, "", impl.ErrLimit},
		// The order of the errors.
		{"x", 3, 2, "", impl.ErrSyntax}, {"", 3, 2, "", impl.ErrSyntax}, {"", 1, 2, "", impl.ErrSyntax}, {"x", 0, 2, "", impl.ErrRange}, {"x", 1, 201, "", impl.ErrRange}, {"n", 0, 2, "", impl.ErrRange}, {"n", 1, 0, "", impl.ErrRange}, {"n", 201, 201, "", impl.ErrRange}, {"n", 3, 2, "", impl.ErrState}, {turning(61, 1), 200, 199, "", impl.ErrState}, {turning(2001, 1), 3, 2, "", impl.ErrSyntax},
	} {
		row, code := impl.StonesAlong(c.path, c.least, c.most)
		wantRow(t, fmt.Sprintf("%.20s.., %d steps, %d, %d", c.path, len(c.path), c.least, c.most), row, code, c.want, c.code)
	}
}

// TestPromise12StonesAlongPaths holds stones against a model, and sums them up along the straight parts.
func TestPromise12StonesAlongPaths(t *testing.T) {
	codes := map[int64]int{}
	for _, path := range samplePaths() {
		for _, limits := range [][2]int64{{1, 1}, {1, 2}, {2, 2}, {2, 3}, {1, 200}, {3, 5}, {4, 7}, {5, 5}, {30, 60}, {33, 33}, {33, 34}, {100, 200}, {200, 200}} {
			row, code := impl.StonesAlong(path, limits[0], limits[1])
			want, wantCode := alongModel(path, limits[0], limits[1])
			name := fmt.Sprintf("%.40s with %v", path, limits)
			wantRow(t, name, row, code, writtenRow(want), wantCode)
			if codes[code]++; code != impl.OK {
				continue
			}
			left := row
			for _, part := range partsModel(path) {
				for part > 0 && len(left) > 0 {
					part -= int64(left[0])
					left = left[1:]
				}
				if part != 0 {
					t.Errorf("%s: %v does not end at each corner", name, row)
				}
			}
			if len(left) > 0 || !isRow(row) || lengthModel(row, 0) != int64(len(path)) {
				t.Errorf("%s: %v does not sum to %d", name, row, len(path))
			}
		}
	}
	for _, code := range []int64{impl.OK, impl.ErrNotFound, impl.ErrLimit} {
		if codes[code] < 40 {
			t.Errorf("only %d times the code %d", codes[code], code)
		}
	}
}
