package tests

import (
	"fmt"
	"slices"
	"strings"
	"testing"

	"loop.example/g01322/impl"
)

func TestStonesAreReadFromTheirTexts(t *testing.T) {
	for _, s := range append(sampleStones(), smallStones()...) {
		for _, same := range allBeginnings(s) {
			text := impl.StoneText(same)
			wantEqual(t, "text", text, writtenCorners(same))
			read, code := impl.ReadStone(text)
			wantStone(t, "read", read, code, writtenCorners(same))
			back := slices.Clone(same)
			slices.Reverse(back)
			read, code = impl.ReadStone(writtenCorners(back))
			if code != impl.ErrSyntax || len(read) != 0 {
				t.Errorf("%v: got %v with the code %d", back, read, code)
			}
		}
	}
	wantEqual(t, "numbers less than 0", impl.StoneText(impl.Stone{{X: -1000, Y: -7}, {X: 0, Y: -7}, {X: 10, Y: 1000}}), "-1000,-7 0,-7 10,1000")
	for name, s := range invalidStones() {
		wantEqual(t, name, impl.StoneText(s), "")
		if len(s) > 16 {
			continue
		}
		read, code := impl.ReadStone(writtenCorners(s))
		if code != impl.ErrSyntax || len(read) != 0 {
			t.Errorf("%s: got %v with the code %d", name, read, code)
		}
	}
}

func TestTextsOfNoStone(t *testing.T) {
	good := "0,0 4,0 4,3 0,3"
	for _, text := range []string{
		"", " ", ",", "0", "0,0", "0,0 4,0", ", , ,", "0,0 4,0 4,", "0,0 4,0 ,3", "0,0 4,0 4", "0,0 4,0 43", "0,0 4,0 4,,3", "0,0 4,0 4,3,", "0,0 4,0 4,3,1",
		" " + good, good + " ", good + "\n", "\n" + good, strings.ReplaceAll(good, " ", "  "), strings.ReplaceAll(good, " ", "\t"), strings.ReplaceAll(good, " ", "\n"), strings.ReplaceAll(good, " ", ""),
		strings.ReplaceAll(good, ",", ", "), strings.ReplaceAll(good, ",", " ,"), strings.ReplaceAll(good, ",", ";"), strings.ReplaceAll(good, ",", "."), strings.ReplaceAll(good, ",", " "),
		"-0,0 4,0 4,3 0,3", "0,-0 4,0 4,3 0,3", "+0,0 4,0 4,3 0,3", "0,0 +4,0 4,3 0,3", "00,0 4,0 4,3 0,3", "0,0 04,0 4,3 0,3", "0,0 4,00 4,3 0,3", "0,0 4,0 4,03 0,3", "0,0 4,0 4,3 0,3.0",
		"0,0 0x4,0 4,3 0,3", "0,0 4e0,0 4,3 0,3", "0,0 4_0,0 4,3 0,3", "0,0 --4,0 4,3 0,3", "-,0 4,0 4,3 0,3", "0,0 -04,-3 4,0", "0,0 - 4,-3 4,0", "0,0 4−,0 4,3 0,3", "0,0 ４,0 4,3 0,3",
		"0,0 1001,0 0,1", "-1001,0 0,0 0,1", "0,0 1,0 0,1001", "0,0 65540,0 4,3", "0,0 4,0 65540,3", "0,0 4,0 4,65539", "0,0 4294967300,0 4,3", "0,0 18446744073709551620,0 4,3", "0,0 99999999999999999999999,0 4,3",
		"0,3 4,3 4,0 0,0", "0,0 2,0 4,0 4,3", "0,0 4,0 4,3 0,3 0,0", "0,0 4,0 4,3 0,3\x00", "0,0 4,0 4,3 x,3", "0,0 4,0 4,3 0,3 x",
		writtenCorners(manyCorners()[:9]), writtenCorners(manyCorners()), writtenCorners(manyCorners()[:8]) + " ", writtenCorners(manyCorners()[:8]) + " x",
		strings.Repeat(" ", 1000000), strings.Repeat(",", 1000000), strings.Repeat("0", 1000000), strings.Repeat("0,0 ", 250000), good + " " + strings.Repeat("9", 999000) + ",0",
	} {
		s, code := impl.ReadStone(text)
		if code != impl.ErrSyntax || len(s) != 0 {
			t.Errorf("%.60q: got %v with the code %d", text, s, code)
		}
	}
	s, code := impl.ReadStone(good)
	wantStone(t, "the good one", s, code, good)
}

// readModel tells the stone with a text, if there is one.
func readModel(text string) (impl.Stone, bool) {
	var s impl.Stone
	for _, word := range strings.Split(text, " ") {
		var c impl.Corner
		if n, _ := fmt.Sscanf(word, "%d,%d", &c.X, &c.Y); n != 2 {
			return nil, false
		}
		s = append(s, c)
	}
	return s, writtenCorners(s) == text && isStone(s)
}

// TestEveryByteOfAStoneCounts puts each byte at each place of a text, ahead of it, or leaves one away.
func TestEveryByteOfAStoneCounts(t *testing.T) {
	text := "-10,0 25,-3 0,11"
	good := 0
	for changed := range changedTexts(text) {
		want, isText := readModel(changed)
		s, code := impl.ReadStone(changed)
		if isText {
			good++
			wantStone(t, changed, s, code, writtenCorners(want))
		} else if code != impl.ErrSyntax || len(s) != 0 {
			t.Errorf("%q: got %v with the code %d", changed, s, code)
		}
	}
	if good < 100 {
		t.Errorf("only %d texts of stones", good)
	}
}
