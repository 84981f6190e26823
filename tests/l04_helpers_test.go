package tests

import (
	"cmp"
	"fmt"
	"slices"
	"strings"

	"loop.example/g01322/impl"
)

// The models of these tests tell what the document requires by other ways than the program: the fewest bars by all sets of pieces, the search for them by counting through places, and cuts from each entry back to the one that it belongs to.

// bars is a task to saw bars of a length.
type bars struct {
	length, saw int64
	pieces      []int64
}

// smallTasks are all tasks with at most 4 pieces of bars of at most 4, with a saw of at most 5.
func smallTasks() []bars {
	var list []bars
	for length := int64(1); length <= 4; length++ {
		for saw := range int64(6) {
			all := [][]int64{nil}
			for first := 0; first < len(all); first++ {
				list = append(list, bars{length, saw, all[first]})
				for piece := int64(1); piece <= length && len(all[first]) < 4; piece++ {
					all = append(all, append(slices.Clone(all[first]), piece))
				}
			}
		}
	}
	return list
}

// scatteredTask returns a task of which the pieces follow a rule without order.
func scatteredTask(length, saw int64, count, seed int) bars {
	b := bars{length: length, saw: saw}
	state := uint32(seed)*2654435761 + uint32(length)
	for range count {
		state = state*1664525 + 1013904223
		b.pieces = append(b.pieces, int64(state>>8)%length+1)
	}
	return b
}

// edgeTasks have the edge cases that the document names.
func edgeTasks() []bars {
	list := []bars{
		{10, 0, nil}, {10, 3, []int64{}}, {1, 0, nil}, {1, 0, []int64{1}}, {1, 10000, []int64{1, 1, 1}}, {10000, 10000, []int64{10000, 1}},
		{10, 0, []int64{6, 5, 4, 3, 2}}, {10, 1, []int64{6, 5, 4, 3, 2}},
		{10, 0, []int64{10}}, {10, 0, []int64{10, 10, 1}}, {10, 10, []int64{10, 10, 1}},
		{10, 0, []int64{5, 5}}, {10, 1, []int64{5, 5}}, {11, 1, []int64{5, 5}}, {10, 8, []int64{1, 1}}, {10, 9, []int64{1, 1}}, {10, 10, []int64{1, 1}}, {10, 10000, []int64{1, 1}},
		{10, 0, slices.Repeat([]int64{1}, 14)}, {10, 1, slices.Repeat([]int64{1}, 14)}, {10, 0, slices.Repeat([]int64{5}, 14)}, {10, 0, slices.Repeat([]int64{6}, 14)}, {10, 0, slices.Repeat([]int64{10}, 14)},
		{14, 0, slices.Repeat([]int64{1}, 14)}, {27, 1, slices.Repeat([]int64{1}, 14)}, {26, 1, slices.Repeat([]int64{1}, 14)},
		{10000, 0, slices.Repeat([]int64{714}, 14)}, {10000, 10000, slices.Repeat([]int64{10000}, 14)},
	}
	// Plans for which the first one is not the least one; a saw takes away as much from each piece, and from the bar.
	for _, b := range []bars{{12, 0, []int64{6, 4, 4, 4, 3, 3}}, {10, 0, []int64{4, 4, 3, 3, 3, 3}}, {15, 0, []int64{6, 3, 4, 3, 6, 8}}, {20, 0, []int64{3, 5, 3, 11, 10, 7}}, {12, 0, []int64{7, 3, 5, 3, 4, 3, 6, 4}}, {30, 0, []int64{11, 13, 10, 13, 13, 14, 6, 6}}} {
		for saw := range int64(3) {
			sawn := bars{b.length - saw, saw, slices.Clone(b.pieces)}
			for i := range sawn.pieces {
				sawn.pieces[i] -= saw
			}
			list = append(list, sawn)
		}
	}
	// Searches that take more looks than there may be.
	for saw := range int64(4) {
		list = append(list, bars{100, saw, []int64{21, 22, 23, 24, 25, 26, 27, 28, 29, 30, 31, 32, 33, 34}})
	}
	return list
}

func sampleTasks() []bars {
	list := edgeTasks()
	for seed := range 60 {
		length := []int64{5, 10, 30, 100, 1000, 10000}[seed%6]
		list = append(list, scatteredTask(length, []int64{0, 1, length / 10, length / 3, length}[seed%5], seed%15, seed))
		// Small pieces, of which many have room in one bar.
		small := scatteredTask(length/2+1, 0, 3+seed%12, seed+100)
		list = append(list, bars{length, []int64{0, 0, 1, 2}[seed%4], small.pieces})
	}
	return list
}

// useModel tells how much of a bar is used: one piece less than there are pieces has a cut behind it.
func useModel(b bars, bar []int64) int64 {
	use := -b.saw
	for _, piece := range bar {
		use += b.pieces[piece] + b.saw
	}
	return max(use, 0)
}

// setOf returns the indices of the bits of a number.
func setOf(set uint) []int64 {
	var list []int64
	for i := range int64(64) {
		if set>>i&1 == 1 {
			list = append(list, i)
		}
	}
	return list
}

// isPlanModel tells whether bars are a plan, by counting how often each piece is used.
func isPlanModel(b bars, plan [][]int64) bool {
	count := map[int64]int{}
	for _, bar := range plan {
		for _, piece := range bar {
			if count[piece]++; piece < 0 || piece >= int64(len(b.pieces)) || count[piece] > 1 {
				return false
			}
		}
		if len(bar) == 0 || useModel(b, bar) > b.length {
			return false
		}
	}
	return len(count) == len(b.pieces)
}

// fewestBars tells how many bars are needed, for all sets of pieces: one bar has the first piece, and what is left needs the others.
func fewestBars(b bars) int {
	all := uint(1) << len(b.pieces)
	fewest, fits := make([]int, all), make([]bool, all)
	for set := range all {
		fits[set] = useModel(b, setOf(set)) <= b.length
	}
	for set := uint(1); set < all; set++ {
		fewest[set] = len(b.pieces) + 1
		first := set & -set
		for rest := set ^ first; ; rest = (rest - 1) & (set ^ first) {
			if fits[set^rest] {
				fewest[set] = min(fewest[set], 1+fewest[rest])
			}
			if rest == 0 {
				break
			}
		}
	}
	return fewest[all-1]
}

// orderModel tells in which order pieces are put: again and again the first one of the longest that are left.
func orderModel(b bars) []int64 {
	var order []int64
	for range b.pieces {
		longest := int64(-1)
		for i := range b.pieces {
			if !slices.Contains(order, int64(i)) && (longest < 0 || b.pieces[i] > b.pieces[longest]) {
				longest = int64(i)
			}
		}
		order = append(order, longest)
	}
	return order
}

// barsFrom returns the bars in which pieces are put at places, one after the other.
func barsFrom(order []int64, places []int) [][]int64 {
	var plan [][]int64
	for i, place := range places {
		if place == len(plan) {
			plan = append(plan, nil)
		}
		plan[place] = append(plan[place], order[i])
	}
	return plan
}

// leastModel counts through the places of all pieces, and tells the best plan, the looks, and whether the budget is enough.
func leastModel(b bars, budget int64) ([][]int64, int64, bool) {
	order := orderModel(b)
	var best [][]int64
	var places []int
	found, looks, next := false, int64(0), 0
	for {
		plan := barsFrom(order, places)
		if len(places) == len(order) && (!found || len(plan) < len(best)) {
			best, found = plan, true
		}
		if len(places) == len(order) || next > len(plan) {
			if len(places) == 0 {
				return best, looks, true
			}
			next = places[len(places)-1] + 1
			places = places[:len(places)-1]
			continue
		}
		tried := barsFrom(order, append(slices.Clone(places), next))
		if useModel(b, tried[next]) > b.length || len(tried) > len(plan) && found && len(tried) >= len(best) {
			next++
			continue
		}
		if looks++; looks > budget {
			return nil, 0, false
		}
		places, next = append(places, next), 0
	}
}

// aPlate is a plate with kinds, and perhaps cuts.
type aPlate struct {
	wide, high int64
	kinds      []impl.Kind
	cuts       []impl.Cut
}

func (p aPlate) String() string { return fmt.Sprint(p.wide, " by ", p.high, " ", p.kinds, " ", p.cuts) }

// told is what is told of valid cuts.
type told struct {
	sizes                [][2]int64
	pieces               []int64
	value, waste, length int64
}

func goodKinds(kinds []impl.Kind) bool {
	return len(kinds) <= 8 && !slices.ContainsFunc(kinds, func(k impl.Kind) bool {
		return k.Wide < 1 || k.Wide > 24 || k.High < 1 || k.High > 24 || k.Value < 0 || k.Value > 1000
	})
}

// ownersOf returns the entries of which an entry is A or B, once for each of these.
func ownersOf(list []impl.Cut, entry int) []int {
	var owners []int
	for i, c := range list {
		for _, part := range []int8{c.A, c.B} {
			if (c.How == 2 || c.How == 3) && int(part) == entry {
				owners = append(owners, i)
			}
		}
	}
	return owners
}

// cutsModel tells what there is in cuts, and whether they are valid.
func cutsModel(p aPlate) (told, bool) {
	all := told{pieces: make([]int64, min(len(p.kinds), 8))}
	good := p.wide >= 1 && p.wide <= 24 && p.high >= 1 && p.high <= 24 && goodKinds(p.kinds) && len(p.cuts) >= 1 && len(p.cuts) <= 60
	for entry := 0; good && entry < len(p.cuts); entry++ {
		size := [2]int64{p.wide, p.high}
		owners := ownersOf(p.cuts, entry)
		if good = len(owners) == min(entry, 1); !good {
			break
		}
		if entry > 0 {
			if good = owners[0] < entry; !good {
				break
			}
			owner, whole := p.cuts[owners[0]], all.sizes[owners[0]]
			size = [2]int64{int64(owner.At), whole[1]}
			if owner.How == 3 {
				size = [2]int64{whole[0], int64(owner.At)}
			}
			if int(owner.B) == entry && owner.How == 2 {
				size[0] = whole[0] - size[0]
			} else if int(owner.B) == entry {
				size[1] = whole[1] - size[1]
			}
		}
		good = all.add(p, p.cuts[entry], size)
	}
	for kind, count := range all.pieces {
		all.value += count * int64(p.kinds[kind].Value)
	}
	if !good {
		return told{}, false
	}
	return all, true
}

// add adds one entry, and tells whether it is told as it should be.
func (all *told) add(p aPlate, c impl.Cut, size [2]int64) bool {
	all.sizes = append(all.sizes, size)
	parts := int64(c.A) >= 0 && int64(c.A) < int64(len(p.cuts)) && int64(c.B) >= 0 && int64(c.B) < int64(len(p.cuts))
	switch c.How {
	case 0:
		all.waste += size[0] * size[1]
		return c.At == 0 && c.A == 0 && c.B == 0
	case 1:
		if c.At != 0 || c.B != 0 || c.A < 0 || int(c.A) >= len(p.kinds) {
			return false
		}
		all.pieces[c.A]++
		return [2]int64{int64(p.kinds[c.A].Wide), int64(p.kinds[c.A].High)} == size
	case 2:
		all.length += size[1]
		return parts && c.At > 0 && int64(c.At) < size[0]
	case 3:
		all.length += size[0]
		return parts && c.At > 0 && int64(c.At) < size[1]
	}
	return false
}

// tree is what becomes of a part, with those of its parts.
type tree struct {
	cut  impl.Cut
	a, b *tree
}

// pricing tells what parts are worth, and remembers it.
type pricing struct {
	kinds []impl.Kind
	known [25][25]int64 // the value, and 1 more
}

func (p *pricing) worth(wide, high int64) int64 {
	if p.known[wide][high] > 0 {
		return p.known[wide][high] - 1
	}
	best := int64(0)
	for _, k := range p.kinds {
		if int64(k.Wide) == wide && int64(k.High) == high {
			best = max(best, int64(k.Value))
		}
	}
	for at := int64(1); at < wide; at++ {
		best = max(best, p.worth(at, high)+p.worth(wide-at, high))
	}
	for at := int64(1); at < high; at++ {
		best = max(best, p.worth(wide, at)+p.worth(wide, high-at))
	}
	p.known[wide][high] = best + 1
	return best
}

// best tells what becomes of a part, as the document makes it.
func (p *pricing) best(wide, high int64) *tree {
	worth := p.worth(wide, high)
	if worth == 0 {
		return &tree{}
	}
	for i, k := range p.kinds {
		if int64(k.Wide) == wide && int64(k.High) == high && int64(k.Value) == worth {
			return &tree{cut: impl.Cut{How: 1, A: int8(i)}}
		}
	}
	for at := int64(1); at < wide; at++ {
		if p.worth(at, high)+p.worth(wide-at, high) == worth {
			return &tree{impl.Cut{How: 2, At: int8(at)}, p.best(at, high), p.best(wide-at, high)}
		}
	}
	for at := int64(1); at < high; at++ {
		if p.worth(wide, at)+p.worth(wide, high-at) == worth {
			return &tree{impl.Cut{How: 3, At: int8(at)}, p.best(wide, at), p.best(wide, high-at)}
		}
	}
	panic("nothing is worth as much")
}

// size returns how many entries a tree has.
func (t *tree) size() int {
	if t == nil {
		return 0
	}
	return 1 + t.a.size() + t.b.size()
}

// entries returns the entries of a tree, from one index on.
func (t *tree) entries(from int) []impl.Cut {
	if t.a == nil {
		return []impl.Cut{t.cut}
	}
	c := t.cut
	c.A, c.B = int8(from+1), int8(from+1+t.a.size())
	return slices.Concat([]impl.Cut{c}, t.a.entries(int(c.A)), t.b.entries(int(c.B)))
}

// cutsMadeModel tells the best cuts, and their value, with the code.
func cutsMadeModel(wide, high int64, kinds []impl.Kind) ([]impl.Cut, int64, int64) {
	p := &pricing{kinds: kinds}
	best := p.best(wide, high)
	if best.size() > 60 {
		return nil, 0, impl.ErrLimit
	}
	return best.entries(0), p.worth(wide, high), impl.OK
}

// cuts returns the cuts that are written in a text.
func cuts(text string) []impl.Cut {
	var list []impl.Cut
	for entry := range strings.SplitSeq(text, ", ") {
		var c impl.Cut
		word, numbers, _ := strings.Cut(entry, " ")
		c.How = int8(slices.Index([]string{"waste", "piece", "across", "down"}, word))
		var err error
		switch c.How {
		case 0:
		case 1:
			_, err = fmt.Sscan(numbers, &c.A)
		default:
			_, err = fmt.Sscan(numbers, &c.At, &c.A, &c.B)
		}
		if c.How < 0 || err != nil {
			panic(text)
		}
		list = append(list, c)
	}
	return list
}

func kind(wide, high int8, value int16) impl.Kind {
	return impl.Kind{Wide: wide, High: high, Value: value}
}

// sampleKinds are valid kinds of all numbers from 0 to 8.
func sampleKinds() [][]impl.Kind {
	list := [][]impl.Kind{
		nil, {}, {kind(2, 3, 5)}, {kind(3, 2, 7)}, {kind(1, 1, 1)}, {kind(1, 1, 0)}, {kind(24, 24, 1000)}, {kind(24, 24, 0)}, {kind(1, 24, 3)}, {kind(24, 1, 3)},
		// Kinds of one size: the first one with the greatest value counts.
		{kind(2, 2, 3), kind(2, 2, 4), kind(2, 2, 4)}, {kind(2, 2, 0), kind(2, 2, 0)}, slices.Repeat([]impl.Kind{kind(3, 3, 2)}, 8),
		// A piece is worth as much as what can be cut from it, or less.
		{kind(1, 1, 1), kind(2, 2, 4)}, {kind(2, 2, 4), kind(1, 1, 1)}, {kind(1, 1, 2), kind(2, 2, 4)}, {kind(1, 2, 2), kind(2, 1, 2)}, {kind(1, 1, 0), kind(2, 2, 1)},
		{kind(5, 3, 15), kind(3, 5, 15), kind(4, 4, 17), kind(2, 7, 13)}, {kind(9, 9, 1000), kind(10, 10, 999), kind(24, 5, 998), kind(5, 24, 1)},
	}
	for count := 1; count <= 8; count++ {
		for seed := range 3 {
			most := []int{5, 9, 24}[seed]
			var kinds []impl.Kind
			for i, c := range scatteredCorners(count, 10*count+seed, most-1) {
				kinds = append(kinds, kind(int8(c.X)+1, int8(c.Y)+1, int16((i*i*37+seed*11+int(c.X)*int(c.Y))%50)))
			}
			list = append(list, kinds)
		}
	}
	return list
}

// invalidKinds have each one thing that makes them invalid.
func invalidKinds() map[string][]impl.Kind {
	list := map[string][]impl.Kind{
		"9 kinds":      slices.Repeat([]impl.Kind{kind(1, 1, 1)}, 9),
		"a million":    slices.Repeat([]impl.Kind{kind(1, 1, 1)}, 1000000),
		"none at all":  {{}},
		"the last one": append(slices.Repeat([]impl.Kind{kind(1, 1, 1)}, 7), kind(1, 1, -1)),
	}
	for _, side := range []int8{-128, -24, -1, 0, 25, 26, 127} {
		list[fmt.Sprint("wide ", side)] = []impl.Kind{kind(1, 1, 1), kind(side, 1, 1)}
		list[fmt.Sprint("high ", side)] = []impl.Kind{kind(1, side, 1), kind(1, 1, 1)}
	}
	for _, value := range []int16{-32768, -1000, -1, 1001, 1002, 32767} {
		list[fmt.Sprint("value ", value)] = []impl.Kind{kind(1, 1, value)}
	}
	return list
}

// sampleCuts are plates with valid cuts.
func sampleCuts() []aPlate {
	six := []impl.Kind{kind(2, 3, 5), kind(1, 3, 4), kind(2, 3, 9), kind(24, 24, 7), kind(1, 1, 0)}
	list := []aPlate{
		{1, 1, nil, cuts("waste")}, {1, 1, six, cuts("piece 4")}, {24, 24, nil, cuts("waste")}, {24, 24, six, cuts("piece 3")}, {3, 5, nil, cuts("waste")},
		{4, 3, six, cuts("across 2 1 2, piece 0, piece 0")},
		{4, 3, six, cuts("across 2 1 2, piece 2, piece 0")},
		{4, 3, six, cuts("across 2 2 1, piece 2, piece 0")},
		{4, 3, six, cuts("across 1 2 1, across 1 4 3, piece 1, piece 0, piece 1")},
		{4, 3, six, cuts("across 1 1 2, piece 1, across 2 3 4, waste, piece 1")},
		{4, 3, six, cuts("across 3 2 1, piece 1, across 1 4 3, piece 0, piece 1")},
		{4, 3, six, cuts("down 1 1 2, waste, waste")}, {4, 3, six, cuts("down 2 2 1, waste, across 3 3 4, waste, waste")},
		{1, 2, six, cuts("down 1 1 2, piece 4, waste")}, {2, 1, six, cuts("across 1 1 2, waste, piece 4")},
		{24, 24, six, cuts("across 23 1 2, down 23 3 4, down 1 5 6, waste, waste, piece 4, waste")},
	}
	for _, size := range [][2]int64{{1, 1}, {24, 24}, {24, 1}, {1, 24}, {7, 5}, {4, 3}, {13, 19}} {
		for _, kinds := range sampleKinds() {
			if best, _, code := cutsMadeModel(size[0], size[1], kinds); code == impl.OK {
				list = append(list, aPlate{size[0], size[1], kinds, best})
			}
		}
	}
	return append(list, longCuts(59), longCuts(57))
}

// longCuts returns a plate with so many entries, an odd number of at most 95: it is cut across and then down, by one cell each time.
func longCuts(count int) aPlate {
	p := aPlate{24, 24, []impl.Kind{kind(1, 24, 3)}, nil}
	for i := 0; i < count-1; i += 2 {
		c := impl.Cut{How: 2, At: 1, A: int8(i + 1), B: int8(i + 2)}
		if i >= 46 {
			c.How = 3
		}
		p.cuts = append(p.cuts, c, impl.Cut{})
	}
	p.cuts = append(p.cuts, impl.Cut{})
	return p
}

// writtenBars returns the text that bars should have.
func writtenBars(list [][]int64) string {
	var text strings.Builder
	for _, bar := range list {
		text.WriteString(strings.Trim(fmt.Sprint(bar), "[]") + "\n")
	}
	return text.String()
}

// compareLists orders lists by their first differing element; the beginning of a list comes before it.
func compareLists(a, b []int64) int {
	for i := range min(len(a), len(b)) {
		if a[i] != b[i] {
			return cmp.Compare(a[i], b[i])
		}
	}
	return cmp.Compare(len(a), len(b))
}
