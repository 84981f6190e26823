package tests

import (
	"fmt"
	"slices"
	"testing"

	"loop.example/g01322/impl"
)

// mosaicImages are images with few and with many fields.
func mosaicImages() []impl.Image {
	list := append(sampleImages(), painted(4, greys(0, 0, 90, 90, 0, 200, 200, 90, 130, 130, 130, 90)...), painted(3, greys(0, 250, 0, 250, 0, 250)...))
	for seed := range 20 {
		// Each tone covers some cells of a row, so that fields have more than one cell.
		var tones []impl.Tone
		for _, tone := range scattered(10, seed, 64) {
			tones = append(tones, slices.Repeat([]impl.Tone{tone}, 1+seed%4)...)
		}
		list = append(list, painted(5, tones...))
	}
	return list
}

// mosaics are the pictures of images, which have been checked to have the nearest tones.
func mosaics(t *testing.T) []impl.Picture {
	t.Helper()
	var list []impl.Picture
	for _, m := range mosaicImages() {
		for _, p := range samplePalettes() {
			q, code := impl.PictureOf(m, p)
			if code != impl.OK || q != closestPicture(m, p) {
				t.Errorf("%v: got %s with the code %d, want %s", p, writtenLine(q), code, writtenLine(closestPicture(m, p)))
			}
			list = append(list, q)
		}
	}
	return list
}

// TestPromise18NearestTones looks at each cell of a picture of an image: no tone of the palette is nearer than that of its colour.
func TestPromise18NearestTones(t *testing.T) {
	for _, m := range mosaicImages() {
		for _, p := range samplePalettes() {
			q, _ := impl.PictureOf(m, p)
			for _, cell := range cellsIn(m) {
				nearest, far, code := impl.NearestTone(p, m.Tones[cell])
				own := apart(p[q.Cells[cell]-1], m.Tones[cell])
				if code != impl.OK || nearest != int64(q.Cells[cell]) || far != own || slices.ContainsFunc(p, func(other impl.Tone) bool { return apart(other, m.Tones[cell]) < own }) {
					t.Errorf("%v: the tone %v has the colour %d, and the nearest one is told to be %d, at %d with the code %d", p, m.Tones[cell], q.Cells[cell], nearest, far, code)
				}
			}
		}
	}
}

// TestPromise18FieldsAreWhole looks at all pairs of neighbours: they are in one field just if they have one colour.
func TestPromise18FieldsAreWhole(t *testing.T) {
	for _, p := range mosaics(t) {
		fields, code := impl.FieldsOf(p)
		in := map[int64]int{}
		for i, field := range fields {
			for _, cell := range field {
				in[cell] = i
			}
		}
		wantEqual(t, "codes and cells", []any{code, len(in)}, []any{int64(impl.OK), len(cellsOf(p))})
		for _, cell := range cellsOf(p) {
			for _, next := range besides(p, cell) {
				if (p.Cells[cell] == p.Cells[next]) != (in[cell] == in[next]) {
					t.Errorf("%s: the cells %d and %d are in the fields %d and %d", writtenLine(p), cell, next, in[cell], in[next])
				}
			}
		}
		for _, field := range fields {
			at, code := impl.FieldAt(p, field[0]%12, field[0]/12)
			wantEqual(t, "a field by its first cell", fmt.Sprint(at, code), fmt.Sprint(field, impl.OK))
		}
	}
}

// TestPromise18NoPlanIsShorter gives the fields of pictures to hands: the best plan is as short as any can be, and HandsNeeded asks for no fewer hands.
func TestPromise18NoPlanIsShorter(t *testing.T) {
	plans, seen := 0, map[string]bool{}
	for _, p := range mosaics(t) {
		list, code := impl.JobsFor(p, 2)
		if text := writtenJobs(list); code != impl.OK || len(list) > 6 || daysOf(list, slices.Collect(indices(list))) > 24 || seen[text] {
			continue
		} else {
			seen[text] = true
		}
		for hands := int64(1); hands <= 4; hands++ {
			plans++
			name := fmt.Sprint(writtenLine(p), ", ", writtenJobs(list), " for ", hands)
			shortest := shortestModel(list, int(hands))
			plan, length, code := impl.BestPlan(list, hands, 20000)
			if code != impl.OK || length != shortest || !goodPlan(list, hands, plan) || lengthOfModel(list, plan) != length {
				t.Errorf("%s: got %s of %d with the code %d, but all can be done in %d", name, writtenSlots(plan), length, code, shortest)
			}
			needed, code := impl.HandsNeeded(list, length, 20000)
			if code != impl.OK || needed > hands || shortestModel(list, int(needed)) > length || needed > 1 && shortestModel(list, int(needed)-1) <= length {
				t.Errorf("%s: in %d days %d hands are needed with the code %d", name, length, needed, code)
			}
		}
	}
	if plans < 200 {
		t.Errorf("only %d plans", plans)
	}
}

// TestPromise18RowsAreAsLongAsTold lays out all rows that are made with a length, unit by unit.
func TestPromise18RowsAreAsLongAsTold(t *testing.T) {
	made := map[string]int{}
	for _, length := range []int64{1, 2, 9, 10, 14, 33, 60, 127, 500, 1999, 2000} {
		for _, seam := range []int64{0, 1, 3, 20} {
			long := func(name string, r impl.Row, code int64) {
				if code != impl.OK {
					return
				}
				told, code := impl.LengthOf(r, seam)
				if lengthModel(r, seam) != length || told != length || code != impl.OK {
					t.Errorf("%s: %v with the seam %d has the length %d and not %d", name, r, seam, told, length)
				}
				made[name]++
			}
			for _, number := range []int64{1, 2, 3, 4, 7, 30, 60, 200} {
				row, code := impl.EvenRow(length, seam, number)
				long("EvenRow", row, code)
				row, code = impl.FitRow(length, seam, number, min(2*number, 200), number+number/3)
				long("FitRow", row, code)
				row, code = impl.FewestStones(length, seam, []int64{number, number + 1 + number%3})
				long("FewestStones", row, code)
				row, code = impl.BrickRow(length, seam, number, 1+number/2)
				long("BrickRow", row, code)
				row, _, code = impl.ChangeRow(rowWith(int16(number), int(1+length%60)), seam, length, 1, 200)
				long("ChangeRow", row, code)
				rows, code := impl.StaggerRows(length, seam, number, 1, 4)
				for _, row := range rows {
					long("StaggerRows", row, code)
				}
			}
		}
	}
	for _, name := range []string{"EvenRow", "FitRow", "FewestStones", "BrickRow", "ChangeRow", "StaggerRows"} {
		if made[name] < 40 {
			t.Errorf("only %d rows of %s", made[name], name)
		}
	}
}
