package tests

import (
	"regexp"
	"strings"
	"testing"

	"loop.example/g01322/impl"
)

// rowForm is the form of all texts of rows: 1 to 60 numbers from 1 to 200, each one written in one way.
var rowForm = regexp.MustCompile(`\A([1-9]\d?|1\d\d|200)(,([1-9]\d?|1\d\d|200)){0,59}\z`)

// wantReadRow checks what is read from a text, and tells whether it is the text of a row.
func wantReadRow(t *testing.T, text string) bool {
	t.Helper()
	r, code := impl.ReadRow(text)
	if !rowForm.MatchString(text) {
		if code != impl.ErrSyntax || len(r) != 0 {
			t.Errorf("%.60q: got %v with the code %d", text, r, code)
		}
		return false
	}
	if code != impl.OK || writtenRow(r) != text || !isRow(r) {
		t.Errorf("%.60q: got %v with the code %d", text, r, code)
	}
	if again := impl.RowText(r); again != text {
		t.Errorf("%.60q: the text of its row is %.60q", text, again)
	}
	return true
}

func TestRowsAreReadFromTheirTexts(t *testing.T) {
	for _, c := range []struct {
		row  impl.Row
		text string
	}{
		{impl.Row{5, 3, 4}, "5,3,4"}, {impl.Row{1}, "1"}, {impl.Row{200}, "200"}, {impl.Row{10, 100, 109, 99, 9}, "10,100,109,99,9"}, {rowWith(200, 60), strings.Repeat("200,", 59) + "200"}, {rowWith(1, 60), strings.Repeat("1,", 59) + "1"},
	} {
		wantEqual(t, c.text, impl.RowText(c.row), c.text)
		wantEqual(t, c.text, wantReadRow(t, c.text), true)
	}
	for _, r := range append(sampleRows(), smallRows()...) {
		wantEqual(t, "text", impl.RowText(r), writtenRow(r))
		wantEqual(t, writtenRow(r), wantReadRow(t, writtenRow(r)), true)
	}
	for width := -1000; width <= 1000; width++ {
		r := impl.Row{7, int16(width)}
		good := 1 <= width && width <= 200
		if text := impl.RowText(r); good && text != writtenRow(r) || !good && text != "" {
			t.Errorf("%v: got %q", r, text)
		}
		wantEqual(t, writtenRow(r), wantReadRow(t, writtenRow(r)), good)
	}
}

func TestTextsOfNoRow(t *testing.T) {
	for name, r := range invalidRows() {
		wantEqual(t, name, impl.RowText(r), "")
		wantEqual(t, name, wantReadRow(t, writtenRow(r)), false)
	}
	good := "5,3,4"
	for _, text := range []string{
		"", " ", ",", ",,", "5,,4", ",5", "5,", ",5,3", "5,3,", " 5", "5 ", "5\n", "\n5", "5,3,4\n", "5, 3", "5 ,3", "5;3", "5.3", "5 3", "5\t3", "5,\u00a03", "5,3\x00", "5\x00,3", "\ufeff5",
		// Numbers that are written in other ways.
		"05", "5,03", "005,3", "+5", "5,+3", "-5", "5,-3", "-0", "0", "5,0", "00", "5,00", "0x5", "0b1", "0o5", "5e0", "5.0", "5.", ".5", "1_0", "5,1_0", "５", "٥", "5,３", "five", "x", "5,x", "--5", "+-5", "1e2",
		"201", "5,201", "256", "257", "999", "1000", "0200", "65537", "65541", "4294967297", "18446744073709551617", "18446744073709551621", "-65531", "-18446744073709551611", "99999999999999999999999",
		strings.Repeat("1,", 60) + "1", strings.Repeat("200,", 60) + "200", strings.Repeat("1,", 60), "," + strings.Repeat("1,", 59) + "1", strings.Repeat("1,", 59) + "x", strings.Repeat("1,", 60) + "x",
		strings.Repeat("1,", 500000), strings.Repeat(",", 1000000), strings.Repeat("1", 1000000), strings.Repeat("0", 999999) + "1", strings.Repeat(" ", 1000000), good + strings.Repeat(" ", 999000), strings.Repeat("1,", 58) + strings.Repeat("9", 900000),
	} {
		if wantReadRow(t, text) {
			t.Errorf("%.60q should be the text of no row", text)
		}
	}
	wantEqual(t, good, wantReadRow(t, good), true)
}

// TestEveryByteOfARowCounts puts each byte at each place of a text, ahead of it, or leaves one away.
func TestEveryByteOfARowCounts(t *testing.T) {
	text := "10,200,3,19"
	good := 0
	for changed := range changedTexts(text) {
		if wantReadRow(t, changed) {
			good++
		}
	}
	if good < 100 {
		t.Errorf("only %d texts of rows", good)
	}
}

// TestAllShortTextsOfRows reads all texts of at most 5 letters of a few.
func TestAllShortTextsOfRows(t *testing.T) {
	all := []string{""}
	for first := 0; first < len(all); first++ {
		wantReadRow(t, all[first])
		for _, letter := range []string{"0", "1", "2", "9", ",", "-", "+"} {
			if len(all[first]) < 5 {
				all = append(all, all[first]+letter)
			}
		}
	}
}
