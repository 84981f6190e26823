package tests

import (
	"fmt"
	"regexp"
	"slices"
	"strings"
	"testing"

	"loop.example/g01322/impl"
)

// barsForm is the form of all texts of bars: numbers from 0 to 13, each one written in one way.
var barsForm = regexp.MustCompile(`^((\d|1[0-3])( (\d|1[0-3]))*\n)*$`)

// barsOf returns the bars of a text that has the form.
func barsOf(text string) [][]int64 {
	var list [][]int64
	for line := range strings.Lines(text) {
		var bar []int64
		for word := range strings.FieldsSeq(line) {
			var piece int64
			fmt.Sscan(word, &piece)
			bar = append(bar, piece)
		}
		list = append(list, bar)
	}
	return list
}

// wantRead checks what is read from a text.
func wantRead(t *testing.T, text string) bool {
	t.Helper()
	list, code := impl.ReadBars(text)
	if !barsForm.MatchString(text) {
		if code != impl.ErrSyntax || len(list) != 0 {
			t.Errorf("%.60q: got %.60v with the code %d", text, fmt.Sprint(list), code)
		}
		return false
	}
	if code != impl.OK || !slices.EqualFunc(list, barsOf(text), slices.Equal) {
		t.Errorf("%.60q: got %.60v with the code %d", text, fmt.Sprint(list), code)
	}
	if again := impl.BarsText(list); again != text {
		t.Errorf("%.60q: the text of its bars is %.60q", text, again)
	}
	return true
}

func TestBarsAreReadFromTheirTexts(t *testing.T) {
	all := []int64{0, 1, 2, 3, 4, 5, 6, 7, 8, 9, 10, 11, 12, 13}
	for _, c := range []struct {
		bars [][]int64
		text string
	}{
		{nil, ""}, {[][]int64{}, ""}, {[][]int64{{0}}, "0\n"}, {[][]int64{{13}}, "13\n"}, {[][]int64{{0, 2}, {1, 3, 4}}, "0 2\n1 3 4\n"},
		{[][]int64{all}, "0 1 2 3 4 5 6 7 8 9 10 11 12 13\n"}, {[][]int64{all, {13, 0}}, "0 1 2 3 4 5 6 7 8 9 10 11 12 13\n13 0\n"},
		// Bars in a text need be no plan.
		{[][]int64{{5, 5}, {5}, {5}}, "5 5\n5\n5\n"}, {[][]int64{{10, 1, 0}, {1, 10, 0}}, "10 1 0\n1 10 0\n"},
		{slices.Repeat([][]int64{{12}}, 20), strings.Repeat("12\n", 20)}, {[][]int64{slices.Repeat([]int64{7}, 100)}, strings.Repeat("7 ", 99) + "7\n"},
	} {
		wantEqual(t, "text", impl.BarsText(c.bars), c.text)
		list, code := impl.ReadBars(c.text)
		wantEqual(t, c.text, []any{writtenBars(list), len(list), code}, []any{c.text, len(c.bars), int64(impl.OK)})
		wantRead(t, c.text)
	}
	for _, b := range sampleTasks() {
		plan, _ := impl.FirstBars(b.length, b.saw, b.pieces)
		wantEqual(t, "text of a plan", impl.BarsText(plan), writtenBars(plan))
		wantRead(t, writtenBars(plan))
	}
}

func TestTextsOfNoBars(t *testing.T) {
	for _, bad := range [][][]int64{{nil}, {{}}, {{0}, {}}, {{}, {0}}, {{0, 1}, nil, {2}}} {
		wantEqual(t, fmt.Sprint(bad), impl.BarsText(bad), "")
	}
	for _, number := range numbers {
		for _, list := range [][][]int64{{{number}}, {{0, number}}, {{number, 0}}, {{1}, {number}}, {{number}, {1}}} {
			want := ""
			if number >= 0 && number <= 13 {
				want = writtenBars(list)
			}
			wantEqual(t, fmt.Sprint(list), impl.BarsText(list), want)
			wantEqual(t, fmt.Sprint(list), wantRead(t, writtenBars(list)), want != "")
		}
	}
	many := slices.Repeat([]int64{13}, 500000)
	wantEqual(t, "many", len(impl.BarsText([][]int64{many, many})), 3000000)
	wantEqual(t, "many, and one that is none", impl.BarsText([][]int64{many, append(many[:400000:400000], 14)}), "")
	wantEqual(t, "many, and an empty one", impl.BarsText([][]int64{many, {}}), "")
	wantEqual(t, "many empty ones", impl.BarsText(make([][]int64, 1000000)), "")
}

func TestNumbersWrittenInOtherWays(t *testing.T) {
	for _, text := range []string{
		"00\n", "01\n", "1 02\n", "013\n", "+1\n", "-0\n", "-1\n", "1 -0\n", "+0 1\n", "0x1\n", "0b1\n", "0o7\n", "1_0\n", "1e0\n", "1.0\n", "1.\n", ".1\n", "１\n", "١\n", "1,2\n", "a\n", "x\n",
		"14\n", "20\n", "99\n", "100\n", "256\n", "0 270\n", "4294967296\n", "18446744073709551616\n", "18446744073709551617\n", "-18446744073709551615\n",
		"\n", " \n", "\n\n", "0", "0 2\n1 3 4", "0\n\n1\n", "\n0\n", "0\n\n", "0 \n", " 0\n", "0  1\n", "0\t1\n", "0\v1\n", "0\r\n", "0\n\r", "0\r1\n", "0\u00a01\n", "0\u20281\n", "0\x00\n", "0\n\x00", "0\n ", "\ufeff0\n", "0 1\n 2\n",
		" ", "x", strings.Repeat("0 ", 500000), strings.Repeat("\n", 1000000), strings.Repeat("0", 1000000) + "\n", strings.Repeat("0\n", 400000) + "14\n", strings.Repeat(" ", 1000000), strings.Repeat("9", 1000000),
	} {
		if wantRead(t, text) {
			t.Errorf("%.60q should be the text of no bars", text)
		}
	}
	for _, text := range []string{"0 1 2\n", "12\n13\n", strings.Repeat("0\n", 400000), strings.Repeat("13 ", 300000) + "0\n"} {
		if !wantRead(t, text) {
			t.Errorf("%.60q should be the text of bars", text)
		}
	}
}

// TestEveryByteOfBarsCounts puts each byte at each place of a text, ahead of it, or leaves one away.
func TestEveryByteOfBarsCounts(t *testing.T) {
	text := "0 13 2\n10\n9 1\n"
	good := 0
	for changed := range changedTexts(text) {
		if wantRead(t, changed) {
			good++
		}
	}
	if good < 70 {
		t.Errorf("only %d texts of bars", good)
	}
}

// TestAllShortTexts reads all texts of at most 5 letters of a few.
func TestAllShortTexts(t *testing.T) {
	all := []string{""}
	for first := 0; first < len(all); first++ {
		wantRead(t, all[first])
		for _, letter := range []string{"0", "1", "3", "4", " ", "\n", "-"} {
			if len(all[first]) < 5 {
				all = append(all, all[first]+letter)
			}
		}
	}
}
