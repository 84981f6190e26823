package tests

import (
	"fmt"
	"strings"
	"testing"

	"loop.example/g01322/impl"
)

func TestToneText(t *testing.T) {
	for a, want := range map[impl.Tone]string{black: "#000000", white: "#ffffff", grey: "#808080", {10, 27, 44}: "#0a1b2c", {1, 16, 171}: "#0110ab"} {
		wantEqual(t, "text", impl.ToneText(a), want)
	}
	for n := range 256 {
		for light := range 3 {
			a := impl.Tone{9, 9, 9}
			a[light] = uint8(n)
			wantEqual(t, "text", impl.ToneText(a), fmt.Sprintf("#%02x%02x%02x", a[0], a[1], a[2]))
			b, code := impl.ReadTone(impl.ToneText(a))
			wantEqual(t, "read", []any{b, code}, []any{a, int64(impl.OK)})
		}
	}
}

func TestTextsOfNoTone(t *testing.T) {
	for _, text := range []string{
		"", "#", "#00", "#00000", "#0000000", "000000", "0000000", "##00000", "#00000g", "#0000 0", "#-00000", "#+00000", "#0x0000", "#00_000",
		"#0A0000", "#00000F", "#FFFFFF", " #000000", "#000000 ", "#000000\n", "#00000\x00", "#0000é", "#００００００", "#000000#000000", "#000000 #ffffff",
		strings.Repeat("#", 7), strings.Repeat("0", 1000000), "#" + strings.Repeat("0", 1000000),
	} {
		a, code := impl.ReadTone(text)
		if code != impl.ErrSyntax || a != black {
			t.Errorf("%.40q: got %v with the code %d", text, a, code)
		}
	}
}

// TestEveryByteOfAToneCounts puts each byte at each place of the text of a tone.
func TestEveryByteOfAToneCounts(t *testing.T) {
	text := "#0a9f5e"
	for place := range len(text) {
		for letter := range 256 {
			changed := text[:place] + string([]byte{byte(letter)}) + text[place+1:]
			good := letter == '#'
			if place > 0 {
				good = strings.Contains("0123456789abcdef", string(rune(letter)))
			}
			a, code := impl.ReadTone(changed)
			if good && (code != impl.OK || fmt.Sprintf("#%x", a[:]) != changed) || !good && (code != impl.ErrSyntax || a != black) {
				t.Errorf("%q: got %v with the code %d", changed, a, code)
			}
		}
	}
}

func TestPalettesAreReadFromTheirTexts(t *testing.T) {
	for _, p := range samplePalettes() {
		words := make([]string, len(p))
		for i, a := range p {
			words[i] = fmt.Sprintf("#%02x%02x%02x", a[0], a[1], a[2])
		}
		text := impl.PaletteText(p)
		wantEqual(t, "text", text, strings.Join(words, " "))
		q, code := impl.ReadPalette(text)
		wantEqual(t, "read", []any{q, code}, []any{p, int64(impl.OK)})
	}
	wantEqual(t, "two tones", impl.PaletteText(impl.Palette{black, white}), "#000000 #ffffff")
	for name, p := range invalidPalettes() {
		wantEqual(t, name, impl.PaletteText(p), "")
	}
}

func TestTextsOfNoPalette(t *testing.T) {
	full := impl.PaletteText(paletteFrom(15, scattered(100, 1, 1)))
	for _, text := range []string{
		"", " ", "  ", "#", "#00000", "#0000000", "#000000 ", " #000000", "#000000  #ffffff", "#000000,#ffffff", "#000000#ffffff", "#000000\t#ffffff", "#000000\n", "#000000\n#ffffff",
		"#000000 #000000", "#000000 #ffffff #000000", "#000000 #FFFFFF", "#000000 ffffff", "#000000 #fffff", "#000000 #ffffff ", "#000000 #ffffff x",
		full + " ", full + " #010203", full + " #010203 #010204", full + full[7:], full[:len(full)-7] + full[:7],
		strings.Repeat(" ", 1000000), strings.Repeat("#000000 ", 125000), strings.Repeat("x", 1000000),
	} {
		p, code := impl.ReadPalette(text)
		if code != impl.ErrSyntax || len(p) != 0 {
			t.Errorf("%.40q: got %v with the code %d", text, p, code)
		}
	}
}

// TestEveryByteOfAPaletteCounts puts each byte at each place of a text, ahead of it, or leaves it away; what is read must have this text.
func TestEveryByteOfAPaletteCounts(t *testing.T) {
	text := "#0a9f5e #000000"
	for changed := range changedTexts(text) {
		var want impl.Palette
		for word := range strings.SplitSeq(changed, " ") {
			var a impl.Tone
			if n, _ := fmt.Sscanf(word, "#%02x%02x%02x", &a[0], &a[1], &a[2]); n == 3 && fmt.Sprintf("#%x", a[:]) == word {
				want = append(want, a)
			}
		}
		good := len(want) == 2 && want[0] != want[1] && impl.ToneText(want[0])+" "+impl.ToneText(want[1]) == changed
		p, code := impl.ReadPalette(changed)
		if good && (code != impl.OK || !impl.SamePalette(p, want)) || !good && (code != impl.ErrSyntax || len(p) != 0) {
			t.Errorf("%q: got %v with the code %d", changed, p, code)
		}
	}
}
