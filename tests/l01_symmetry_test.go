package tests

import (
	"testing"

	"loop.example/g01322/impl"
)

// repeated applies a function so many times; the code is the first one that is not OK.
func repeated(p impl.Picture, times int, change func(impl.Picture) (impl.Picture, int64)) (impl.Picture, int64) {
	for range times {
		q, code := change(p)
		if code != impl.OK {
			return q, code
		}
		p = q
	}
	return p, impl.OK
}

func TestPromise2AsItWas(t *testing.T) {
	for _, p := range append(samples(), smallPictures()...) {
		q, code := repeated(p, 2, impl.MirrorPicture)
		wantRows(t, "mirrored twice", q, code, rowsOf(p)...)
		q, code = repeated(p, 2, impl.FlipPicture)
		wantRows(t, "flipped twice", q, code, rowsOf(p)...)
		q, code = repeated(p, 4, impl.TurnPicture)
		wantRows(t, "turned four times", q, code, rowsOf(p)...)
	}
}

// TestPromise2NotAtOnce checks that a picture without symmetry comes back no earlier.
func TestPromise2NotAtOnce(t *testing.T) {
	p := drawn("abc", "def", "ghi")
	for name, change := range map[string]func(impl.Picture) (impl.Picture, int64){"mirror": impl.MirrorPicture, "flip": impl.FlipPicture, "turn": impl.TurnPicture} {
		if q, _ := change(p); q == p {
			t.Errorf("%s changes nothing", name)
		}
	}
	for times := 1; times < 4; times++ {
		if q, _ := repeated(p, times, impl.TurnPicture); q == p {
			t.Errorf("as it was after %d turns", times)
		}
	}
	q, code := repeated(p, 2, impl.TurnPicture)
	wantRows(t, "half turned", q, code, "ihg", "fed", "cba")
}

func TestPromise2Sizes(t *testing.T) {
	for _, p := range samples() {
		for times := range 5 {
			q, code := repeated(p, times, impl.TurnPicture)
			wide, high := p.Wide, p.High
			if times%2 == 1 {
				wide, high = high, wide
			}
			if code != impl.OK || q.Wide != wide || q.High != high || !impl.ValidPicture(q) {
				t.Errorf("%v turned %d times: got %v with the code %d", rowsOf(p), times, q, code)
			}
		}
	}
}

func TestPromise2InvalidPictures(t *testing.T) {
	for name, p := range invalidPictures() {
		for _, change := range []func(impl.Picture) (impl.Picture, int64){impl.MirrorPicture, impl.FlipPicture, impl.TurnPicture} {
			q, code := change(p)
			wantEqual(t, name, code, int64(impl.ErrInvalid))
			wantEqual(t, name, q, impl.Picture{})
		}
	}
}
