package tests

import (
	"slices"
	"strings"
	"testing"

	"loop.example/g01322/impl"
)

func TestPicturesAreReadFromTheirTexts(t *testing.T) {
	for _, p := range append(samples(), smallPictures()...) {
		text := impl.PictureText(p)
		wantEqual(t, "text", text, textOf(rowsOf(p)))
		q, code := impl.ReadPicture(text)
		wantRows(t, "read", q, code, rowsOf(p)...)
	}
}

func TestTextOfAllColours(t *testing.T) {
	p := drawn(".abcdefg", "hijklmno")
	wantEqual(t, "text", impl.PictureText(p), ".abcdefg\nhijklmno\n")
	for colour := range uint8(16) {
		wantEqual(t, "colour", drawn(".abcdefg", "hijklmno").Cells[colour%8+12*(colour/8)], colour)
	}
}

func TestTextOfInvalidPictures(t *testing.T) {
	for name, p := range invalidPictures() {
		wantEqual(t, name, impl.PictureText(p), "")
	}
}

func TestTextsOfNoPicture(t *testing.T) {
	wide, high := strings.Repeat("a", 12), strings.Repeat("a\n", 12)
	for _, text := range []string{
		"", "\n", "\n\n", "a", "ab", "a\n\n", "\na\n", "a\nb", "ab\nc", "ab\na\n", "a\nab\n", "a\nb\n\n", "abc\nab\n",
		"ab\nabc", "abc\nab", "aaa\na\na\n", "a\naaa\n", "ab\nabcabc\nab", "ab\nab\na\nb", "ab\nabab\nb\n",
		"p\n", "A\n", "0\n", " \n", "`\n", "-\n", "/\n", "\x00\n", "\xff\n", "a \n", " a\n", "a\r\n", "\r\n", "é\n", "ab\nap\n", "pb\n",
		"a\n ", "a\nb\n.", wide + "a\n", wide, high + "a\n", high + "\n", wide + "\n" + wide,
		strings.Repeat(wide+"\n", 13), strings.Repeat(wide+"a\n", 12),
		strings.Repeat("a", 1000000), strings.Repeat("\n", 1000000), strings.Repeat("a\n", 500000), strings.Repeat("a", 255) + "\n", strings.Repeat("a", 257) + "\n",
		strings.Repeat("a", 268) + "\n", strings.Repeat("a\n", 257), strings.Repeat("a\n", 268),
	} {
		p, code := impl.ReadPicture(text)
		if code != impl.ErrSyntax || p != (impl.Picture{}) {
			t.Errorf("%.40q: got %v with the code %d", text, p, code)
		}
	}
}

// TestEveryByteOfATextCounts puts each byte at each place of a text, ahead of it, or leaves it away.
func TestEveryByteOfATextCounts(t *testing.T) {
	text := "ab.\no.a\n"
	for place := range len(text) + 1 {
		for letter := range 256 {
			inserted := text[:place] + string([]byte{byte(letter)}) + text[place:]
			readAsTold(t, inserted)
			if place < len(text) {
				readAsTold(t, text[:place]+string([]byte{byte(letter)})+text[place+1:])
				readAsTold(t, text[:place]+text[place+1:])
			}
		}
	}
}

// readAsTold checks ReadPicture against lines that are told apart by splitting.
func readAsTold(t *testing.T, text string) {
	t.Helper()
	p, code := impl.ReadPicture(text)
	lines := strings.Split(text, "\n")
	rows := lines[:len(lines)-1]
	good := lines[len(lines)-1] == "" && len(rows) >= 1 && len(rows) <= 12
	for _, row := range rows {
		good = good && len(row) == len(rows[0]) && len(row) >= 1 && len(row) <= 12 && strings.Trim(row, letters) == ""
	}
	if !good {
		if code != impl.ErrSyntax || p != (impl.Picture{}) {
			t.Errorf("%q: got %v with the code %d", text, p, code)
		}
		return
	}
	wantRows(t, text, p, code, slices.Clone(rows)...)
}
