package tests

import (
	"math/bits"
	"slices"
	"testing"

	"loop.example/g01322/impl"
)

// bestModel tells the best colours: the cost of each set of so many colours is told, the sets being numbered by bits.
func bestModel(m impl.Image, p impl.Palette, count int) ([]int64, int64) {
	var best []int64
	least := int64(-1)
	for set := range uint(1) << len(p) {
		if bits.OnesCount(set) != count {
			continue
		}
		var colours []int64
		for i := range p {
			if set>>i&1 == 1 {
				colours = append(colours, int64(i)+1)
			}
		}
		cost := priceOf(m, withColours(p, colours))
		if least < 0 || cost < least || cost == least && slices.Compare(colours, best) < 0 {
			best, least = colours, cost
		}
	}
	return best, least
}

// greedyModel tells the colours that are taken one by one.
func greedyModel(m impl.Image, p impl.Palette, count int) ([]int64, int64) {
	var taken []int64
	cost := int64(0)
	for range count {
		next, least := int64(0), int64(-1)
		for colour := int64(len(p)); colour >= 1; colour-- {
			if slices.Contains(taken, colour) {
				continue
			}
			if price := priceOf(m, withColours(p, append(slices.Clone(taken), colour))); least < 0 || price <= least {
				next, least = colour, price
			}
		}
		taken, cost = append(taken, next), least
	}
	return taken, cost
}

// choiceImages are images for the choice of few tones: with few tones, many of which are at equal distances, and with many.
func choiceImages() []impl.Image {
	return []impl.Image{
		painted(1, grey), painted(2, grey, grey), painted(3, greys(0, 128, 255)...), painted(2, black, white, white, black),
		painted(4, scattered(12, 1, 64)...), painted(3, scattered(12, 2, 128)...), painted(5, scattered(25, 3, 1)...), painted(12, scattered(144, 4, 1)...),
	}
}

func choicePalettes() []impl.Palette {
	list := []impl.Palette{{black}, {black, grey, white}, {white, grey, black}, {{9, 0, 0}, {0, 0, 5}, {0, 5, 0}, {5, 0, 0}}}
	for count := 1; count <= 10; count++ {
		list = append(list, paletteFrom(count, scattered(300, count, 64)), paletteFrom(count, scattered(100, count, 1)))
	}
	return list
}

// TestPromise5BestTones holds the best tones against all others, by a model, and by the costs of the pictures that are made of them.
func TestPromise5BestTones(t *testing.T) {
	for _, m := range choiceImages()[:7] {
		for _, p := range choicePalettes() {
			for count := 1; count <= len(p); count++ {
				colours, cost := bestModel(m, p, count)
				got, price, code := impl.BestTones(m, p, int64(count))
				if !slices.Equal(got, colours) || price != cost || code != impl.OK {
					t.Errorf("%d of %v for %v: got %v with the cost %d and the code %d, want %v with %d", count, p, m, got, price, code, colours, cost)
				}
				some := withColours(p, got)
				q, _ := impl.PictureOf(m, some)
				paid, _ := impl.CostOf(m, q, some)
				wantEqual(t, "cost of its picture", paid, cost)
			}
		}
	}
}

func TestPromise5GreedyTones(t *testing.T) {
	palettes := append(choicePalettes(), paletteFrom(11, scattered(100, 1, 1)), paletteFrom(15, scattered(100, 2, 1)), paletteFrom(15, scattered(300, 3, 64)))
	for _, m := range choiceImages()[:7] {
		for _, p := range palettes {
			for count := 1; count <= len(p); count++ {
				colours, cost := greedyModel(m, p, count)
				got, price, code := impl.GreedyTones(m, p, int64(count))
				if !slices.Equal(got, colours) || price != cost || code != impl.OK {
					t.Errorf("%d of %v for %v: got %v with the cost %d and the code %d, want %v with %d", count, p, m, got, price, code, colours, cost)
				}
			}
		}
	}
}

// TestPromise5GreedyCostNoLess also asks for palettes for which the greedy tones cost more.
func TestPromise5GreedyCostNoLess(t *testing.T) {
	more := 0
	for _, m := range choiceImages() {
		for _, p := range choicePalettes() {
			before := int64(-1)
			for count := range int64(len(p)) {
				_, best, one := impl.BestTones(m, p, count+1)
				_, greedy, two := impl.GreedyTones(m, p, count+1)
				wantEqual(t, "codes", []int64{one, two}, []int64{impl.OK, impl.OK})
				if greedy < best {
					t.Errorf("%d of %v: the greedy ones cost %d, the best ones %d", count+1, p, greedy, best)
				}
				if greedy > best {
					more++
				}
				if before >= 0 && best > before {
					t.Errorf("%d of %v cost %d, one less %d", count+1, p, best, before)
				}
				before = best
			}
			_, all, _ := impl.GreedyTones(m, p, int64(len(p)))
			wantEqual(t, "all tones", []int64{before, all}, []int64{priceOf(m, p), priceOf(m, p)})
		}
	}
	if more < 10 {
		t.Errorf("the greedy ones cost more only %d times", more)
	}
}

func TestPromise5ByHand(t *testing.T) {
	m := painted(2, grey, grey)
	check := func(name string, m impl.Image, p impl.Palette, count int64, best []int64, least int64, greedy []int64, price int64) {
		t.Helper()
		colours, cost, code := impl.BestTones(m, p, count)
		wantEqual(t, name+", best", []any{colours, cost, code}, []any{best, least, int64(impl.OK)})
		colours, cost, code = impl.GreedyTones(m, p, count)
		wantEqual(t, name+", greedy", []any{colours, cost, code}, []any{greedy, price, int64(impl.OK)})
	}
	check("example", m, impl.Palette{black, grey, white}, 1, []int64{2}, 0, []int64{2}, 0)
	check("the first list of several", m, impl.Palette{black, grey, white}, 2, []int64{1, 2}, 0, []int64{2, 1}, 0)
	check("all", m, impl.Palette{black, grey, white}, 3, []int64{1, 2, 3}, 0, []int64{2, 1, 3}, 0)
	check("palette of 1", m, impl.Palette{white}, 1, []int64{1}, 322580, []int64{1}, 322580)
	// 129 and 127 are as far from 128, so each one costs as much, and the least colour is taken.
	check("equal costs", m, impl.Palette{black, {129, 129, 129}, {127, 127, 127}}, 1, []int64{2}, 20, []int64{2}, 20)
	check("equal costs, turned", m, impl.Palette{{127, 127, 127}, {129, 129, 129}, black}, 1, []int64{1}, 20, []int64{1}, 20)
	// One tone: the grey one; two tones: black and white, and no grey one. Greedy does not give it back.
	check("greedy costs more", painted(4, greys(0, 0, 255, 255)...), impl.Palette{black, grey, white}, 2, []int64{1, 3}, 0, []int64{2, 1}, 2*161290)
	// The colours come in the order in which they are taken, not in ascending order.
	check("order", painted(3, greys(255, 255, 0)...), impl.Palette{black, {250, 0, 0}, white}, 2, []int64{1, 3}, 0, []int64{3, 1}, 0)
	// When nothing is to be gained, no colour is taken twice.
	check("nothing to gain", painted(1, black), impl.Palette{white, black, grey}, 2, []int64{1, 2}, 0, []int64{2, 1}, 0)
}

// TestPromise5Limits has palettes of 10, 11 and 15 tones; ErrRange comes ahead of ErrLimit.
func TestPromise5Limits(t *testing.T) {
	m := painted(4, scattered(12, 1, 1)...)
	for _, tones := range []int{1, 2, 9, 10, 11, 14, 15} {
		p := paletteFrom(tones, scattered(100, 1, 1))
		for _, count := range numbers {
			best, greedy := int64(impl.OK), int64(impl.OK)
			if count < 1 || count > int64(tones) {
				best, greedy = impl.ErrRange, impl.ErrRange
			} else if tones > 10 {
				best = impl.ErrLimit
			}
			colours, cost, code := impl.BestTones(m, p, count)
			wantChoice(t, p, count, best, colours, cost, code)
			colours, cost, code = impl.GreedyTones(m, p, count)
			wantChoice(t, p, count, greedy, colours, cost, code)
		}
	}
}

func wantChoice(t *testing.T, p impl.Palette, count, want int64, colours []int64, cost, code int64) {
	t.Helper()
	some := slices.Sorted(slices.Values(colours))
	if code != want || code != impl.OK && (len(colours) != 0 || cost != 0) {
		t.Errorf("%d of %d tones: got %v with the cost %d and the code %d, want the code %d", count, len(p), colours, cost, code, want)
	}
	if code == impl.OK && (int64(len(some)) != count || !strictlyIncreasing(some) || some[0] < 1 || some[count-1] > int64(len(p))) {
		t.Errorf("%d of %d tones: got %v", count, len(p), colours)
	}
}

// TestPromise5AgainAndAgain asks often for choices with many equal costs, whose order must not depend on which worker is done first.
func TestPromise5AgainAndAgain(t *testing.T) {
	m := painted(12, slices.Repeat([]impl.Tone{black}, 144)...)
	p := impl.Palette{black}
	for n := range uint8(9) {
		p = append(p, impl.Tone{n + 1, 0, 0})
	}
	for range 200 {
		colours, cost, _ := impl.BestTones(m, p, 5)
		wantEqual(t, "best", []any{colours, cost}, []any{[]int64{1, 2, 3, 4, 5}, int64(0)})
		colours, cost, _ = impl.GreedyTones(m, p, 5)
		wantEqual(t, "greedy", []any{colours, cost}, []any{[]int64{1, 2, 3, 4, 5}, int64(0)})
	}
}
