package tests

import (
	"slices"
	"testing"

	"loop.example/g01322/impl"
)

// TestPromise3Fields holds all fields against the promise: one colour each, and each cell in one of them.
func TestPromise3Fields(t *testing.T) {
	for _, p := range append(samples(), smallPictures()...) {
		fields, code := impl.FieldsOf(p)
		wantEqual(t, "code", code, int64(impl.OK))
		var all []int64
		for i, field := range fields {
			if len(field) == 0 || !strictlyIncreasing(field) {
				t.Fatalf("%v: the field %v is not ascending", rowsOf(p), field)
			}
			if i > 0 && fields[i-1][0] >= field[0] {
				t.Errorf("%v: the fields are not ordered by their least cells: %v", rowsOf(p), fields)
			}
			for _, cell := range field {
				if p.Cells[cell] != p.Cells[field[0]] {
					t.Errorf("%v: the field %v has two colours", rowsOf(p), field)
				}
			}
			all = append(all, field...)
		}
		slices.Sort(all)
		if !slices.Equal(all, cellsOf(p)) {
			t.Errorf("%v: the fields have the cells %v", rowsOf(p), all)
		}
	}
}

// TestPromise3FieldsAreWhole holds all fields against those that are found by passing on least numbers.
func TestPromise3FieldsAreWhole(t *testing.T) {
	for _, p := range append(samples(), smallPictures()...) {
		least := linked(p)
		var want [][]int64
		for _, cell := range cellsOf(p) {
			if least[cell] == cell {
				want = append(want, fieldFrom(least, cell))
			}
		}
		fields, _ := impl.FieldsOf(p)
		wantEqual(t, "fields", fields, want)
		for _, cell := range cellsOf(p) {
			field, code := impl.FieldAt(p, cell%12, cell/12)
			wantEqual(t, "field at", field, fieldFrom(least, least[cell]))
			wantEqual(t, "code", code, int64(impl.OK))
		}
	}
}

func TestFieldsOfTheExample(t *testing.T) {
	fields, _ := impl.FieldsOf(example())
	wantEqual(t, "fields", fields, [][]int64{{0, 1, 12}, {2, 13, 14}})
	field, _ := impl.FieldAt(example(), 1, 1)
	wantEqual(t, "field", field, []int64{2, 13, 14})
	fields, _ = impl.FieldsOf(drawn(".a.", "a.a"))
	wantEqual(t, "corners are no sides", fields, [][]int64{{0}, {1}, {2}, {12}, {13}, {14}})
	fields, _ = impl.FieldsOf(drawn("b"))
	wantEqual(t, "one cell", fields, [][]int64{{0}})
	fields, _ = impl.FieldsOf(drawn("a..a", "aaaa"))
	wantEqual(t, "joined below", fields, [][]int64{{0, 3, 12, 13, 14, 15}, {1, 2}})
	plain, _ := impl.PlainPicture(12, 12, 0)
	fields, _ = impl.FieldsOf(plain)
	wantEqual(t, "plain", fields, [][]int64{cellsOf(plain)})
	fields, _ = impl.FieldsOf(drawn("abababababab", "babababababa"))
	wantEqual(t, "a field for each cell", len(fields), 24)
	fields, _ = impl.FieldsOf(drawn("a..........b", "b..........b"))
	wantEqual(t, "rows have ends", fields, [][]int64{{0}, {1, 2, 3, 4, 5, 6, 7, 8, 9, 10, 13, 14, 15, 16, 17, 18, 19, 20, 21, 22}, {11, 23}, {12}})
}

func TestFieldsForInvalidPictures(t *testing.T) {
	for name, p := range invalidPictures() {
		fields, one := impl.FieldsOf(p)
		field, two := impl.FieldAt(p, 0, 0)
		wantEqual(t, name, []int64{int64(len(fields)), one, int64(len(field)), two}, []int64{0, impl.ErrInvalid, 0, impl.ErrInvalid})
	}
}

func TestOutlineOf(t *testing.T) {
	for _, c := range []struct {
		want, x, y int64
		rows       []string
	}{
		{4, 0, 0, []string{"."}},
		{8, 0, 0, []string{"aab", "abb"}},
		{8, 2, 1, []string{"aab", "abb"}},
		{10, 1, 1, []string{"bbb", "bbb"}},
		{16, 0, 0, []string{"aaa", "a.a", "aaa"}},
		{4, 1, 1, []string{"aaa", "a.a", "aaa"}},
		{4, 0, 0, []string{"a.", ".a"}},
		{12, 1, 0, []string{".a.", "aaa", ".a."}},
	} {
		got, code := impl.OutlineOf(drawn(c.rows...), c.x, c.y)
		wantEqual(t, "outline", [2]int64{got, code}, [2]int64{c.want, impl.OK})
	}
	plain, _ := impl.PlainPicture(12, 12, 5)
	got, _ := impl.OutlineOf(plain, 11, 11)
	wantEqual(t, "outline of all", got, int64(48))
}

func TestOutlineAgreesWithCells(t *testing.T) {
	for _, p := range append(samples(), smallPictures()...) {
		least := linked(p)
		want := map[int64]int64{}
		for a := range least {
			want[least[a]] += 4
			for b := range least {
				apart := (a%12-b%12)*(a%12-b%12) + (a/12-b/12)*(a/12-b/12)
				if apart == 1 && least[a] == least[b] {
					want[least[a]]--
				}
			}
		}
		for cell, first := range least {
			got, code := impl.OutlineOf(p, cell%12, cell/12)
			wantEqual(t, "outline", [2]int64{got, code}, [2]int64{want[first], impl.OK})
		}
	}
}

func TestFillField(t *testing.T) {
	p, code := impl.FillField(example(), 0, 0, 2)
	wantRows(t, "joined", p, code, "bbb", "bbb")
	p, code = impl.FillField(example(), 2, 1, 0)
	wantRows(t, "no stone", p, code, "aa.", "a..")
	p, code = impl.FillField(example(), 2, 1, 2)
	wantRows(t, "as it was", p, code, "aab", "abb")
	p, code = impl.FillField(drawn("a.a"), 0, 0, 15)
	wantRows(t, "one of two fields", p, code, "o.a")
}

// TestFilledFieldsGrow checks that a field that is filled has the colour, and all its cells are in one field still.
func TestFilledFieldsGrow(t *testing.T) {
	for _, p := range append(samples(), smallPictures()...) {
		least := linked(p)
		for _, cell := range cellsOf(p) {
			for _, colour := range []int64{0, 1, 2, 15} {
				want := p
				for _, member := range fieldFrom(least, least[cell]) {
					want.Cells[member] = uint8(colour)
				}
				got, code := impl.FillField(p, cell%12, cell/12, colour)
				wantRows(t, "filled", got, code, rowsOf(want)...)
				field, _ := impl.FieldAt(got, cell%12, cell/12)
				for _, member := range fieldFrom(least, least[cell]) {
					if !slices.Contains(field, member) {
						t.Errorf("%v: the cell %d left the field of %d", rowsOf(p), member, cell)
					}
				}
			}
			if len(least) > 50 {
				break
			}
		}
	}
}

func cellsOf(p impl.Picture) []int64 {
	var list []int64
	for number := range int64(144) {
		if has(p, number%12, number/12) {
			list = append(list, number)
		}
	}
	return list
}

func strictlyIncreasing(list []int64) bool {
	for i := 1; i < len(list); i++ {
		if list[i-1] >= list[i] {
			return false
		}
	}
	return true
}
