package tests

import (
	"fmt"
	"reflect"
	"slices"
	"testing"

	"loop.example/g01322/impl"
)

// call is a call of a function, with the code that the document requires.
type call struct {
	name      string
	arguments []any
	want      int64
	run       func() []any // all results; the last one is the code
}

func (c call) String() string { return c.name + fmt.Sprint(c.arguments) }

// firstOf returns the code of the first fault, in the order in which the document checks them.
func firstOf(faults ...fault) int64 {
	for _, f := range faults {
		if f.found {
			return f.code
		}
	}
	return impl.OK
}

type fault struct {
	found bool
	code  int64
}

func invalid(found bool) fault  { return fault{found, impl.ErrInvalid} }
func outside(found bool) fault  { return fault{found, impl.ErrRange} }
func tooMany(found bool) fault  { return fault{found, impl.ErrLimit} }
func badState(found bool) fault { return fault{found, impl.ErrState} }

func results(list ...any) []any { return list }

// checkCall runs a call twice: it has the code that is required, zero values beside a code that is not OK, and equal results.
func checkCall(t *testing.T, c call) {
	t.Helper()
	first := c.run()
	values, code := first[:len(first)-1], first[len(first)-1]
	if code != c.want {
		t.Errorf("%s: got the code %d, want %d", c, code, c.want)
	}
	for _, value := range values {
		v := reflect.ValueOf(value)
		empty := v.IsZero() || v.Kind() == reflect.Slice && v.Len() == 0
		if code != int64(impl.OK) && !empty {
			t.Errorf("%s: got %v beside the code %d", c, value, code)
		}
		if code == int64(impl.OK) && !isValidResult(value) {
			t.Errorf("%s: got %v, which is not valid", c, value)
		}
	}
	if second := c.run(); !reflect.DeepEqual(first, second) {
		t.Errorf("%s: got %v, and then %v", c, first, second)
	}
}

// isValidResult tells whether a value is valid, if its kind has validity.
func isValidResult(value any) bool {
	switch v := value.(type) {
	case impl.Picture:
		return impl.ValidPicture(v)
	case impl.Image:
		return impl.ValidImage(v)
	case impl.Palette:
		return impl.ValidPalette(v)
	case impl.Stone:
		return impl.ValidStone(v)
	case impl.Row:
		return impl.ValidRow(v)
	case []impl.Row:
		return !slices.ContainsFunc(v, func(r impl.Row) bool { return !impl.ValidRow(r) })
	case []impl.Job:
		return impl.ValidJobs(v)
	}
	return true
}

// goodAndBad are pictures of the least and the greatest sizes and of sizes between, and some that are not valid.
func goodAndBad() []impl.Picture {
	list := []impl.Picture{drawn("."), drawn("b"), example(), patterned(10, 10, 3), patterned(11, 10, 3), patterned(10, 11, 3), patterned(12, 12, 16)}
	for _, name := range []string{"nothing", "wide 0", "wide -128", "high 13", "wide 127", "colour 16", "east of a row", "last number"} {
		list = append(list, invalids[name])
	}
	return list
}

var invalids = invalidPictures()

// isValid tells whether a picture of these tests is valid.
func isValid(p impl.Picture) bool {
	for _, bad := range invalids {
		if p == bad {
			return false
		}
	}
	return true
}

func noColour(colour int64) bool { return colour < 0 || colour > 15 }
func noSide(length int64) bool   { return length < 1 || length > 12 }
func noShift(far int64) bool     { return far < -12 || far > 12 }

func TestPromise1CallsWithoutNumbers(t *testing.T) {
	list := append(samples(), goodAndBad()...)
	for _, p := range invalidPictures() {
		list = append(list, p)
	}
	for _, p := range list {
		want := firstOf(invalid(!isValid(p)))
		for _, c := range []call{
			{"CountColours", results(p), want, func() []any { a, b := impl.CountColours(p); return results(a, b) }},
			{"MirrorPicture", results(p), want, func() []any { a, b := impl.MirrorPicture(p); return results(a, b) }},
			{"FlipPicture", results(p), want, func() []any { a, b := impl.FlipPicture(p); return results(a, b) }},
			{"TurnPicture", results(p), want, func() []any { a, b := impl.TurnPicture(p); return results(a, b) }},
			{"SymmetriesOf", results(p), want, func() []any { a, b := impl.SymmetriesOf(p); return results(a, b) }},
			{"FieldsOf", results(p), want, func() []any { a, b := impl.FieldsOf(p); return results(a, b) }},
		} {
			checkCall(t, c)
		}
		wantEqual(t, "valid", impl.ValidPicture(p), isValid(p))
		wantEqual(t, "no text", impl.PictureText(p) == "", !isValid(p))
		wantEqual(t, "same text", impl.PictureText(p), impl.PictureText(p))
	}
}

func TestPromise1CallsWithAColour(t *testing.T) {
	for _, p := range goodAndBad() {
		for _, colour := range numbers {
			want := firstOf(invalid(!isValid(p)), outside(noColour(colour)), tooMany(p.Wide > 10 || p.High > 10))
			checkCall(t, call{"BorderPicture", results(p, colour), want, func() []any { a, b := impl.BorderPicture(p, colour); return results(a, b) }})
			for _, other := range numbers {
				want := firstOf(invalid(!isValid(p)), outside(noColour(colour) || noColour(other)))
				checkCall(t, call{"RecolourPicture", results(p, colour, other), want, func() []any { a, b := impl.RecolourPicture(p, colour, other); return results(a, b) }})
			}
		}
	}
}

func TestPromise1CallsWithAPlace(t *testing.T) {
	for _, p := range goodAndBad() {
		for _, x := range numbers {
			for _, y := range numbers {
				want := firstOf(invalid(!isValid(p)), outside(!has(p, x, y)))
				for _, c := range []call{
					{"ColourAt", results(p, x, y), want, func() []any { a, b := impl.ColourAt(p, x, y); return results(a, b) }},
					{"FieldAt", results(p, x, y), want, func() []any { a, b := impl.FieldAt(p, x, y); return results(a, b) }},
					{"OutlineOf", results(p, x, y), want, func() []any { a, b := impl.OutlineOf(p, x, y); return results(a, b) }},
				} {
					checkCall(t, c)
				}
			}
		}
	}
}

func TestPromise1CallsWithAPlaceAndAColour(t *testing.T) {
	for _, p := range goodAndBad() {
		for _, x := range numbers {
			for _, y := range numbers {
				for _, colour := range []int64{numbers[0], -256, -1, 0, 1, 15, 16, 256, 257, 1 << 32, numbers[len(numbers)-1]} {
					want := firstOf(invalid(!isValid(p)), outside(!has(p, x, y) || noColour(colour)))
					checkCall(t, call{"WithColour", results(p, x, y, colour), want, func() []any { a, b := impl.WithColour(p, x, y, colour); return results(a, b) }})
					checkCall(t, call{"FillField", results(p, x, y, colour), want, func() []any { a, b := impl.FillField(p, x, y, colour); return results(a, b) }})
				}
			}
		}
	}
}

func TestPromise1PlainPicture(t *testing.T) {
	for _, wide := range numbers {
		for _, high := range numbers {
			for _, colour := range numbers {
				want := firstOf(outside(noSide(wide) || noSide(high) || noColour(colour)))
				checkCall(t, call{"PlainPicture", results(wide, high, colour), want, func() []any { a, b := impl.PlainPicture(wide, high, colour); return results(a, b) }})
			}
		}
	}
}

func TestPromise1CutPicture(t *testing.T) {
	few := []int64{numbers[0], numbers[1], -12, -1, 0, 1, 2, 3, 9, 10, 11, 12, 13, 256, 257, 1 << 32, numbers[len(numbers)-2], numbers[len(numbers)-1]}
	for _, p := range goodAndBad() {
		for _, x := range few {
			for _, y := range few {
				for _, wide := range few {
					for _, high := range few {
						// All parts are cells if the first and the last one are; the sizes are held against Stride, so that no sum overflows.
						part := !noSide(wide) && !noSide(high) && has(p, x, y) && has(p, x+wide-1, y+high-1)
						want := firstOf(invalid(!isValid(p)), outside(!part))
						got, code := impl.CutPicture(p, x, y, wide, high)
						again, twice := impl.CutPicture(p, x, y, wide, high)
						if code != want || code != impl.OK && got != (impl.Picture{}) || got != again || code != twice {
							t.Errorf("CutPicture of %v, %d, %d, %d, %d: got %v with the code %d, want the code %d", p, x, y, wide, high, got, code, want)
						}
					}
				}
			}
		}
	}
}

func TestPromise1CallsWithTwoPictures(t *testing.T) {
	for _, p := range goodAndBad() {
		for _, q := range goodAndBad() {
			broken := invalid(!isValid(p) || !isValid(q))
			want := firstOf(broken, badState(p.Wide != q.Wide || p.High != q.High))
			checkCall(t, call{"DifferIn", results(p, q), want, func() []any { a, b := impl.DifferIn(p, q); return results(a, b) }})
			wantEqual(t, "same", impl.SamePicture(p, q), p == q)
			for _, x := range numbers {
				for _, y := range []int64{numbers[0], -13, -12, 0, 12, 13, numbers[len(numbers)-1]} {
					for _, place := range [][2]int64{{x, y}, {y, x}} {
						want := firstOf(broken, outside(noShift(x) || noShift(y)))
						checkCall(t, call{"PastePicture", results(p, q, place), want, func() []any { a, b := impl.PastePicture(p, q, place[0], place[1]); return results(a, b) }})
					}
				}
			}
		}
	}
}

func TestPromise1ReadPicture(t *testing.T) {
	for text, want := range map[string]int64{"a\n": impl.OK, "ab\n.o\n": impl.OK, "": impl.ErrSyntax, "\n": impl.ErrSyntax, "ab\na\n": impl.ErrSyntax, "p\n": impl.ErrSyntax} {
		checkCall(t, call{"ReadPicture", results(text), want, func() []any { a, b := impl.ReadPicture(text); return results(a, b) }})
	}
}

// TestPromise1ResultsAreNew writes into each list of a result, up to its capacity, and looks at the others.
func TestPromise1ResultsAreNew(t *testing.T) {
	overwrite := func(list []int64) {
		list = list[:cap(list)]
		for i := range list {
			list[i] = -1
		}
	}
	p := drawn("aab", "abb", "c.c")
	kept, other := p, drawn("aba", "abb", "ccc")
	want, _ := impl.FieldsOf(p)
	for i := range want {
		fields, _ := impl.FieldsOf(p)
		again, _ := impl.FieldsOf(p)
		overwrite(fields[i])
		for k := range fields {
			if k != i && !slices.Equal(fields[k], want[k]) {
				t.Errorf("the fields %d and %d share memory", i, k)
			}
		}
		wantEqual(t, "fields of another call", again, want)
	}
	for _, list := range []func() ([]int64, int64){
		func() ([]int64, int64) { return impl.FieldAt(p, 0, 0) },
		func() ([]int64, int64) { return impl.DifferIn(p, other) },
	} {
		one, _ := list()
		two, _ := list()
		before := slices.Clone(two)
		if len(before) == 0 {
			t.Error("an empty list shows nothing")
		}
		overwrite(one)
		wantEqual(t, "list of another call", two, before)
	}
	wantEqual(t, "the picture", p, kept)
}
