package tests

import (
	"fmt"
	"math/big"
	"slices"
	"strings"

	"loop.example/g01322/impl"
)

// The models of these tests tell what the document requires by other ways than the program: hulls edge by edge, and what two stones have in common by cutting the one by the edges of the other, with fractions.

// corners returns the corners that are written in a text.
func corners(text string) []impl.Corner {
	var list []impl.Corner
	for word := range strings.FieldsSeq(text) {
		var c impl.Corner
		if _, err := fmt.Sscanf(word, "%d,%d", &c.X, &c.Y); err != nil {
			panic(text)
		}
		list = append(list, c)
	}
	return list
}

func stone(text string) impl.Stone { return corners(text) }

func stones(texts ...string) []impl.Stone {
	var list []impl.Stone
	for _, text := range texts {
		list = append(list, stone(text))
	}
	return list
}

// writtenCorners returns the text that a list of corners should have.
func writtenCorners(list []impl.Corner) string {
	var words []string
	for _, c := range list {
		words = append(words, fmt.Sprintf("%d,%d", c.X, c.Y))
	}
	return strings.Join(words, " ")
}

// sideOf tells the side of c beside a and b.
func sideOf(a, b, c impl.Corner) int64 {
	return (int64(b.X)-int64(a.X))*(int64(c.Y)-int64(a.Y)) - (int64(b.Y)-int64(a.Y))*(int64(c.X)-int64(a.X))
}

func squareApart(a, b impl.Corner) int64 {
	x, y := int64(a.X)-int64(b.X), int64(a.Y)-int64(b.Y)
	return x*x + y*y
}

func noPlace(number int64) bool { return number < -1000 || number > 1000 }

func allPlaces(list []impl.Corner) bool {
	return !slices.ContainsFunc(list, func(c impl.Corner) bool { return noPlace(int64(c.X)) || noPlace(int64(c.Y)) })
}

// isAround tells whether a list has at least 3 corners, and goes around them as a stone does, however many they are.
func isAround(s impl.Stone) bool {
	for i := range s {
		next := (i + 1) % len(s)
		for k := range s {
			if k != i && k != next && sideOf(s[i], s[next], s[k]) <= 0 {
				return false
			}
		}
	}
	return len(s) >= 3
}

func isStone(s impl.Stone) bool { return len(s) <= 8 && allPlaces(s) && isAround(s) }

// beginning returns the stone that begins with another corner.
func beginning(s impl.Stone, first int) impl.Stone {
	return append(slices.Clone(s[first:]), s[:first]...)
}

// allBeginnings returns the stone as it begins with each of its corners.
func allBeginnings(s impl.Stone) []impl.Stone {
	var list []impl.Stone
	for first := range s {
		list = append(list, beginning(s, first))
	}
	return list
}

func leastCorner(list []impl.Corner) impl.Corner {
	least := list[0]
	for _, c := range list {
		if c.X < least.X || c.X == least.X && c.Y < least.Y {
			least = c
		}
	}
	return least
}

// leastFirst returns the stone that begins with its least corner.
func leastFirst(s impl.Stone) impl.Stone {
	return beginning(s, slices.Index(s, leastCorner(s)))
}

// hullModel tells the corners around a list, from the least one on, and nothing if it lies in a line: an edge has all corners on one side, and those on its line within it.
func hullModel(list []impl.Corner) impl.Stone {
	next := map[impl.Corner]impl.Corner{}
	inLine := true
	for _, p := range list {
		for _, q := range list {
			edge := p != q
			for _, c := range list {
				side := sideOf(p, q, c)
				inLine = inLine && side == 0
				edge = edge && side >= 0 && (side > 0 || squareApart(p, c) <= squareApart(p, q) && squareApart(q, c) <= squareApart(p, q))
			}
			if edge {
				next[p] = q
			}
		}
	}
	if inLine {
		return nil
	}
	hull := impl.Stone{leastCorner(list)}
	for c := next[hull[0]]; c != hull[0]; c = next[c] {
		hull = append(hull, c)
	}
	return hull
}

// scatteredCorners returns corners that follow a rule without order, with X and Y from 0 to most.
func scatteredCorners(count, seed, most int) []impl.Corner {
	var list []impl.Corner
	state := uint32(seed)*2654435761 + uint32(most)
	number := func() int16 {
		state = state*1664525 + 1013904223
		return int16((state >> 8) % uint32(most+1))
	}
	for range count {
		list = append(list, impl.Corner{X: number(), Y: number()})
	}
	return list
}

// scatteredStones returns stones that follow a rule without order, with X and Y from 0 to most.
func scatteredStones(count, most int) []impl.Stone {
	var list []impl.Stone
	for seed := 0; len(list) < count; seed++ {
		if s := hullModel(scatteredCorners(3+seed%9, seed, most)); isStone(s) {
			list = append(list, beginning(s, seed%len(s)))
		}
	}
	return list
}

// smallStones are all stones with X and Y from 0 to 2, each beginning with one of its corners.
func smallStones() []impl.Stone {
	var list []impl.Stone
	for number := range 1 << 9 {
		var some []impl.Corner
		for i := range 9 {
			if number>>i&1 == 1 {
				some = append(some, impl.Corner{X: int16(i % 3), Y: int16(i / 3)})
			}
		}
		if len(some) < 3 {
			continue
		}
		if s := hullModel(some); len(s) == len(some) {
			list = append(list, beginning(s, number%len(s)))
		}
	}
	return list
}

// manyCorners has 16 corners that go around as those of a stone; so do all that are left if some are taken away.
func manyCorners() impl.Stone {
	return stone("0,0 1,0 3,1 4,2 5,4 5,5 4,7 3,8 1,9 0,9 -2,8 -3,7 -4,5 -4,4 -3,2 -2,1")
}

// sampleStones have 3 to 8 corners, and places of all sizes.
func sampleStones() []impl.Stone {
	list := stones(
		"0,0 4,0 4,3 0,3", "4,1 6,1 6,5 4,5", "0,0 1,0 0,1", "-1,-1 0,-1 0,0", "0,0 4,0 4,3", "4,3 0,3 0,0",
		"-1000,-1000 1000,-1000 1000,1000 -1000,1000", "1000,1000 -1000,1000 -1000,-1000 1000,-1000",
		"-1000,-1000 1000,999 999,999", "1000,999 1000,1000 999,1000", "-1000,-1000 -999,-1000 -1000,-999",
		"-500,-1000 500,-1000 1000,-500 1000,500 500,1000 -500,1000 -1000,500 -1000,-500",
		"1,0 2,0 3,1 3,2 2,3 1,3 0,2 0,1", "0,0 2,-1 4,0 5,2 4,4 2,5 0,4 -1,2",
		"3,0 6,2 5,6 1,6 0,2", "-7,-9 -3,-9 -1,-6 -3,-3 -7,-3 -9,-6", "0,0 1000,1 0,2", "0,0 5,1 6,3 5,6 2,7 -1,5 -2,2",
	)
	for count := 3; count <= 8; count++ {
		list = append(list, manyCorners()[16-count:])
	}
	list = append(list, scatteredStones(20, 5)...)
	return append(list, scatteredStones(20, 1000)...)
}

// invalidStones have each one thing that makes them invalid.
func invalidStones() map[string]impl.Stone {
	return map[string]impl.Stone{
		"nil":              nil,
		"empty":            {},
		"one corner":       stone("0,0"),
		"two corners":      stone("0,0 1,0"),
		"in a line":        stone("0,0 1,1 2,2"),
		"the same corner":  stone("3,3 3,3 3,3"),
		"a corner twice":   stone("0,0 4,0 4,3 4,3 0,3"),
		"first and last":   stone("0,0 4,0 4,3 0,0"),
		"there and back":   stone("0,0 4,0 0,0 4,0"),
		"three in a line":  stone("0,0 2,0 4,0 4,3 0,3"),
		"last in a line":   stone("0,0 4,0 4,3 0,3 0,1"),
		"opposite order":   stone("0,3 4,3 4,0 0,0"),
		"triangle, other":  stone("0,0 0,1 1,0"),
		"crossing":         stone("0,0 4,3 4,0 0,3"),
		"bent in":          stone("0,0 4,0 1,1 0,4"),
		"bent in, long":    stone("0,0 4,0 4,3 2,1 0,3"),
		"a star":           stone("0,3 6,3 1,7 3,0 5,7"),
		"around twice":     stone("0,0 4,0 4,3 0,0 4,0 4,3"),
		"around twice, 4":  stone("0,0 4,0 4,3 0,3 0,0 4,0 4,3 0,3"),
		"9 corners":        manyCorners()[:9],
		"16 corners":       manyCorners(),
		"too far east":     stone("0,0 1001,0 0,1"),
		"too far west":     stone("-1001,0 0,0 0,1"),
		"too far south":    stone("0,0 1,0 0,1001"),
		"too far north":    stone("0,0 1,-1001 1,0"),
		"greatest numbers": stone("-32768,-32768 32767,-32768 32767,32767 -32768,32767"),
		"wraps around":     stone("-32768,0 32767,0 0,1"),
		"a million":        make(impl.Stone, 1000000),
	}
}

// point is a place that need not have whole numbers.
type point struct{ x, y *big.Rat }

func pointAt(c impl.Corner) point {
	return point{big.NewRat(int64(c.X), 1), big.NewRat(int64(c.Y), 1)}
}

// sideOfPoint tells the side of c beside a and b.
func sideOfPoint(a, b, c point) *big.Rat {
	sub := func(x, y *big.Rat) *big.Rat { return new(big.Rat).Sub(x, y) }
	mul := func(x, y *big.Rat) *big.Rat { return new(big.Rat).Mul(x, y) }
	return sub(mul(sub(b.x, a.x), sub(c.y, a.y)), mul(sub(b.y, a.y), sub(c.x, a.x)))
}

// between returns the point of the line from a to b at which the sides, that are not of one sign, would be 0.
func between(a, b point, sideA, sideB *big.Rat) point {
	part := new(big.Rat).Quo(sideA, new(big.Rat).Sub(sideA, sideB))
	on := func(from, to *big.Rat) *big.Rat {
		step := new(big.Rat).Sub(to, from)
		return step.Add(from, step.Mul(step, part))
	}
	return point{on(a.x, b.x), on(a.y, b.y)}
}

// cutAlong returns what is left of corners that go around if all beyond the line from p to q is cut off.
func cutAlong(list []point, p, q point) []point {
	var left []point
	for i, a := range list {
		b := list[(i+1)%len(list)]
		sideA, sideB := sideOfPoint(p, q, a), sideOfPoint(p, q, b)
		if sideA.Sign() >= 0 {
			left = append(left, a)
		}
		if sideA.Sign()*sideB.Sign() < 0 {
			left = append(left, between(a, b, sideA, sideB))
		}
	}
	return left
}

// meeting is what two stones have in common.
type meeting struct {
	overlap, touch bool
	seamSquare     int64
}

// meetingModel cuts the one stone by all edges of the other one: what is left has an area, is a line or a point, or nothing.
func meetingModel(a, b impl.Stone) meeting {
	var left []point
	for _, c := range a {
		left = append(left, pointAt(c))
	}
	for i, p := range b {
		left = cutAlong(left, pointAt(p), pointAt(b[(i+1)%len(b)]))
	}
	longest := new(big.Rat)
	for _, p := range left {
		for _, q := range left {
			if sideOfPoint(left[0], p, q).Sign() != 0 {
				return meeting{overlap: true}
			}
			x, y := new(big.Rat).Sub(p.x, q.x), new(big.Rat).Sub(p.y, q.y)
			if square := x.Add(x.Mul(x, x), y.Mul(y, y)); square.Cmp(longest) > 0 {
				longest = square
			}
		}
	}
	return meeting{touch: len(left) > 0, seamSquare: longest.Num().Int64()}
}

// areaModel tells twice the area: the sum of those of the triangles between the first corner and each edge.
func areaModel(s impl.Stone) int64 {
	sum := int64(0)
	for i := 2; i < len(s); i++ {
		sum += sideOf(s[0], s[i-1], s[i])
	}
	return sum
}

// placeModel tells where a point is: the triangles between it and the edges of a stone have together the area of the stone, or a greater one if it is outside; on the edge, one of them has none.
func placeModel(s impl.Stone, c impl.Corner) int64 {
	sum, least := int64(0), int64(1)<<40
	for i, p := range s {
		area := max(sideOf(p, s[(i+1)%len(s)], c), -sideOf(p, s[(i+1)%len(s)], c))
		sum, least = sum+area, min(least, area)
	}
	switch {
	case sum > areaModel(s):
		return 0
	case least == 0:
		return 1
	}
	return 2
}
