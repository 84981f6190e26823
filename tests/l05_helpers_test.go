package tests

import (
	"fmt"
	"math/big"
	"regexp"
	"slices"
	"strings"

	"loop.example/g01322/impl"
)

// The models of these tests tell what the document requires by other ways than the program: rows are laid out unit by unit, what is shared out is dealt unit by unit, and rows of sizes are counted by how many stones of each size they have.

// widths returns the row that is written in a text.
func widths(text string) impl.Row {
	var r impl.Row
	for word := range strings.SplitSeq(text, ",") {
		var width int16
		if _, err := fmt.Sscan(word, &width); err != nil {
			panic(text)
		}
		r = append(r, width)
	}
	return r
}

// rowWith returns the row of so many stones with one width.
func rowWith(width int16, count int) impl.Row { return slices.Repeat(impl.Row{width}, count) }

// writtenRow returns the text that a row should have.
func writtenRow(r impl.Row) string {
	return strings.ReplaceAll(strings.Trim(fmt.Sprint(r), "[]"), " ", ",")
}

func writtenRows(list []impl.Row) string {
	var words []string
	for _, r := range list {
		words = append(words, writtenRow(r))
	}
	return strings.Join(words, " ")
}

func noWidth(number int64) bool     { return number < 1 || number > 200 }
func noSeam(number int64) bool      { return number < 0 || number > 200 }
func noNear(number int64) bool      { return number < 0 || number > 2000 }
func noRowLength(number int64) bool { return number < 1 || number > 2000 }

func isRow(r impl.Row) bool {
	return len(r) > 0 && len(r) < 61 && !slices.ContainsFunc(r, func(width int16) bool { return noWidth(int64(width)) })
}

// smallRows are all rows of at most 4 stones with widths of at most 3.
func smallRows() []impl.Row {
	var list []impl.Row
	all := []impl.Row{nil}
	for first := 0; first < len(all); first++ {
		for width := int16(1); width <= 3 && len(all[first]) < 4; width++ {
			all = append(all, append(slices.Clone(all[first]), width))
			list = append(list, all[len(all)-1])
		}
	}
	return list
}

// scatteredRow returns a row of which the widths follow a rule without order.
func scatteredRow(count, most, seed int) impl.Row {
	var r impl.Row
	state := uint32(seed)*2654435761 + uint32(most)
	for range count {
		state = state*1664525 + 1013904223
		r = append(r, int16(state>>8)&0x7fff%int16(most)+1)
	}
	return r
}

// sampleRows have the least and the greatest numbers of stones and widths, and some between.
func sampleRows() []impl.Row {
	list := []impl.Row{
		widths("1"), widths("200"), widths("5,3,4"), widths("4,4,4"), widths("2,4,4,1"), widths("1,1"), widths("200,200"), widths("1,200"), widths("200,1"),
		rowWith(1, 59), rowWith(1, 60), rowWith(200, 59), rowWith(200, 60), rowWith(33, 60), rowWith(2, 30), append(rowWith(7, 59), 200), append(widths("200"), rowWith(1, 59)...),
	}
	for seed := range 24 {
		list = append(list, scatteredRow(1+seed*59/23, []int{2, 3, 10, 50, 200}[seed%5], seed))
	}
	return list
}

// invalidRows have each one thing that makes them invalid.
func invalidRows() map[string]impl.Row {
	return map[string]impl.Row{
		"nil":             nil,
		"empty":           {},
		"width 0":         {0},
		"width 201":       {201},
		"width -1":        {-1},
		"least number":    {-32768},
		"greatest number": {32767},
		"256":             {256},
		"257":             {257},
		"-255":            {-255},
		"first 0":         {0, 1, 1},
		"last 0":          {1, 1, 0},
		"last 201":        {1, 1, 201},
		"last -1":         {5, 3, -1},
		"middle -4":       {5, -4, 4},
		"last of 60":      append(rowWith(1, 59), 0),
		"last of 60, 201": append(rowWith(1, 59), 201),
		"61 stones":       rowWith(1, 61),
		"61 wide stones":  rowWith(200, 61),
		"a million":       rowWith(1, 1000000),
	}
}

var someSeams = []int64{0, 1, 2, 3, 7, 20, 199, 200}

// laidOut returns for each unit of a row the index of the stone that covers it, or -1 in a joint.
func laidOut(r impl.Row, seam int64) []int64 {
	var units []int64
	for i, width := range r {
		if i > 0 {
			units = append(units, slices.Repeat([]int64{-1}, int(seam))...)
		}
		units = append(units, slices.Repeat([]int64{int64(i)}, int(width))...)
	}
	return units
}

func lengthModel(r impl.Row, seam int64) int64 { return int64(len(laidOut(r, seam))) }

// jointsModel tells where each joint lies: from behind the last unit of a stone to the first one of the next.
func jointsModel(r impl.Row, seam int64) []impl.Joint {
	var list []impl.Joint
	from, last := 0, int64(0)
	for unit, stone := range laidOut(r, seam) {
		if stone > last {
			list = append(list, impl.Joint{From: int16(from), To: int16(unit)})
		}
		if stone >= 0 {
			from, last = unit+1, stone
		}
	}
	return list
}

// apartModel counts the units between two joints, less those that are in both.
func apartModel(a, b impl.Joint) int64 {
	apart := int64(0)
	for unit := min(a.From, b.From); unit < max(a.To, b.To); unit++ {
		inA, inB := a.From <= unit && unit < a.To, b.From <= unit && unit < b.To
		if inA && inB {
			apart--
		} else if !inA && !inB {
			apart++
		}
	}
	return apart
}

// clashesModel tells which joints of two rows clash.
func clashesModel(a, b impl.Row, seam, near int64) [][2]int64 {
	var list [][2]int64
	others := jointsModel(b, seam)
	for i, one := range jointsModel(a, seam) {
		for k, other := range others {
			if apartModel(one, other) < near {
				list = append(list, [2]int64{int64(i), int64(k)})
			}
		}
	}
	return list
}

// evenModel deals units to stones, one by one from the first stone on; there is no row, if some stone gets none, or one gets too many.
func evenModel(length, seam, stones int64) impl.Row {
	row := make(impl.Row, stones)
	for i := range length - seam*(stones-1) {
		row[i%stones]++
	}
	if !isRow(row) {
		return nil
	}
	return row
}

// fitModel tries all numbers of stones, from the greatest one on, so that of rows that are as good the last one has the fewest; it also tells how many others are as good.
func fitModel(length, seam, least, most, want int64) (impl.Row, int) {
	var best impl.Row
	others, missedBest := 0, int64(0)
	for stones := int64(60); stones > 0; stones-- {
		row := evenModel(length, seam, stones)
		if row == nil || int64(slices.Min(row)) < least || int64(slices.Max(row)) > most {
			continue
		}
		missed := int64(0)
		for _, width := range row {
			if int64(width) > want {
				missed += int64(width) - want
			} else {
				missed += want - int64(width)
			}
		}
		switch {
		case best == nil || missed < missedBest:
			best, missedBest, others = row, missed, 0
		case missed == missedBest:
			best = row
			others++
		}
	}
	return best, others
}

// rowsOfSizes are all rows of a length with widths among the sizes, and at most 60 stones, in the order of lists.
func rowsOfSizes(length, seam int64, sizes []int64) []impl.Row {
	var list []impl.Row
	var put func(r impl.Row, left int64)
	put = func(r impl.Row, left int64) {
		for _, size := range sizes {
			longer := append(slices.Clone(r), int16(size))
			if size == left && len(longer) <= 60 {
				list = append(list, longer)
			}
			if size+seam < left {
				put(longer, left-size-seam)
			}
		}
	}
	put(nil, length)
	return list
}

// fewestModel tells the first row with the fewest stones: for each number of stones, and each length, the first of the rows that a stone and a row of one stone less make.
func fewestModel(length, seam int64, sizes []int64) impl.Row {
	firstRows := map[int64]impl.Row{}
	for _, size := range sizes {
		firstRows[size] = impl.Row{int16(size)}
	}
	for range 60 {
		if row := firstRows[length]; row != nil {
			return row
		}
		longer := map[int64]impl.Row{}
		for made, row := range firstRows {
			for _, size := range sizes {
				sum := size + seam + made
				if next := append(impl.Row{int16(size)}, row...); sum <= length && (longer[sum] == nil || slices.Compare(next, longer[sum]) < 0) {
					longer[sum] = next
				}
			}
		}
		firstRows = longer
	}
	return nil
}

// countModel counts rows by how many stones of each size they have, and in how many orders these can lie.
func countModel(length, seam int64, sizes []int64) *big.Int {
	type state struct{ size, stones, left int64 }
	known := map[state]*big.Int{}
	// orders tells in how many ways stones of the sizes from one on take the given number of places.
	var orders func(s state) *big.Int
	orders = func(s state) *big.Int {
		if s.size == int64(len(sizes)) {
			if s.stones == 0 && s.left == 0 {
				return big.NewInt(1)
			}
			return new(big.Int)
		}
		if sum := known[s]; sum != nil {
			return sum
		}
		sum := new(big.Int)
		for count := int64(0); count <= s.stones && count*(sizes[s.size]+seam) <= s.left; count++ {
			places := new(big.Int).Binomial(s.stones, count)
			sum.Add(sum, places.Mul(places, orders(state{s.size + 1, s.stones - count, s.left - count*(sizes[s.size]+seam)})))
		}
		known[s] = sum
		return sum
	}
	all := new(big.Int)
	for stones := int64(1); stones <= 60; stones++ {
		all.Add(all, orders(state{0, stones, length + seam}))
	}
	return all
}

// cappedCount is the number that CountRows should return.
func cappedCount(length, seam int64, sizes []int64) int64 {
	if count := countModel(length, seam, sizes); count.Cmp(big.NewInt(1000000000)) < 0 {
		return count.Int64()
	}
	return 1000000000
}

// changeModel gives or takes unit by unit, always to or from the first stone that can be changed.
func changeModel(r impl.Row, seam, length, least, most int64) (impl.Row, int64, bool) {
	row := slices.Clone(r)
	for now := lengthModel(row, seam); now != length; {
		step := int64(1)
		can := func(width int16) bool { return int64(width) < most }
		if now > length {
			step = -1
			can = func(width int16) bool { return int64(width) > least }
		}
		i := slices.IndexFunc(row, can)
		if i < 0 {
			return nil, 0, false
		}
		row[i] += int16(step)
		now += step
	}
	changed := int64(0)
	for i := range r {
		if r[i] != row[i] {
			changed++
		}
	}
	return row, changed, true
}

// brickModel reckons how many stones of the width there are, and what is left behind them.
func brickModel(length, seam, width, first int64) impl.Row {
	if first >= length {
		return impl.Row{int16(length)}
	}
	full := (length - first) / (seam + width)
	left := (length - first) % (seam + width)
	row := append(impl.Row{int16(first)}, rowWith(int16(width), int(full))...)
	if left > seam {
		row = append(row, int16(left-seam))
	} else {
		row[full] += int16(left)
	}
	if !isRow(row) {
		return nil
	}
	return row
}

// staggerModel tries all firsts for each row, from 1 on, so that the last one that can be is the greatest.
func staggerModel(length, seam, width, near, rows int64) []impl.Row {
	list := []impl.Row{brickModel(length, seam, width, width)}
	if list[0] == nil {
		return nil
	}
	for range rows - 1 {
		var best impl.Row
		for first := int64(1); first <= width; first++ {
			if row := brickModel(length, seam, width, first); row != nil && len(clashesModel(list[len(list)-1], row, seam, near)) == 0 {
				best = row
			}
		}
		if best == nil {
			return nil
		}
		list = append(list, best)
	}
	return list
}

var (
	pathForm  = regexp.MustCompile(`\A[nesw]{1,1000}[nesw]{0,1000}\z`)
	partsForm = regexp.MustCompile(`n+|e+|s+|w+`)
)

// partsModel tells the straight parts of a text that is a path.
func partsModel(path string) []int64 {
	var list []int64
	for _, part := range partsForm.FindAllString(path, -1) {
		list = append(list, int64(len(part)))
	}
	return list
}

// alongModel tries all numbers of stones for each part, and tells the row, or the code.
func alongModel(path string, least, most int64) (impl.Row, int64) {
	var row impl.Row
	for _, part := range partsModel(path) {
		var fewest impl.Row
		for stones := int64(1); stones <= part && fewest == nil; stones++ {
			dealt := make(impl.Row, stones)
			for i := range part {
				dealt[i%stones]++
			}
			if int64(slices.Min(dealt)) >= least && int64(slices.Max(dealt)) <= most {
				fewest = dealt
			}
		}
		if fewest == nil {
			return nil, impl.ErrNotFound
		}
		row = append(row, fewest...)
	}
	if len(row) > 60 {
		return nil, impl.ErrLimit
	}
	return row, impl.OK
}

// turning returns a path that turns at each step, or in which each straight part has so many steps.
func turning(parts, steps int) string {
	var path strings.Builder
	for i := range parts {
		path.WriteString(strings.Repeat("nesw"[i%4:i%4+1], steps))
	}
	return path.String()
}

// samplePaths have the least and the greatest numbers of steps, with many corners and with none.
func samplePaths() []string {
	list := []string{
		"n", "e", "s", "w", "ns", "nn", "ew", "eeenn", "neswnesw", "nnnneeeesssswwww", "snsnsn", "wwwwwwwwwwn", "nwwwwwwwwwww", "eewee",
		turning(2000, 1), turning(1999, 1), turning(1000, 2), turning(60, 1), turning(61, 1), turning(60, 33), turning(30, 4), turning(1, 2000), turning(1, 60), turning(1, 61), turning(2, 1000), turning(10, 200),
		strings.Repeat("w", 1999) + "s", "s" + strings.Repeat("w", 1999), strings.Repeat("e", 1000) + strings.Repeat("w", 1000), strings.Repeat("n", 300) + "e",
	}
	// All short paths of two letters.
	all := []string{""}
	for first := 0; first < len(all); first++ {
		if all[first] != "" {
			list = append(list, all[first])
		}
		if len(all[first]) < 7 {
			all = append(all, all[first]+"e", all[first]+"s")
		}
	}
	return list
}

// noPaths are texts that are no paths.
func noPaths() []string {
	return []string{
		"", " ", "x", "nx", "xn", "nxn", "N", "nE", "n e", " n", "n ", "n\n", "\nn", "n,e", "n\x00", "\x00", "\xff", "n\xffe", "é", "né", "ｎ", "n\u200b", "0", "o", "m", "d", "f", "r", "t", "v",
		turning(2001, 1), strings.Repeat("n", 2001), strings.Repeat("n", 1999) + "x", "x" + strings.Repeat("n", 1999), strings.Repeat("n", 2000) + "x", strings.Repeat("nesw", 250000), strings.Repeat("x", 1000000),
	}
}
