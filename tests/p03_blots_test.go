package tests

import (
	"math/rand"
	"testing"

	"loop.example/g01360/impl"
)

// blotsByHand finds blots in another way than the program: each cell takes the least number among those beside it, until nothing changes.
func blotsByHand(s impl.Sheet, least int64) [][]impl.Spot {
	number := map[impl.Spot]int{}
	for i, at := range places(s) {
		if darkOf(s, at) >= least {
			number[at] = i
		}
	}
	for changed := true; changed; {
		changed = false
		for a, i := range number {
			for b, j := range number {
				dx, dy := int(a.X)-int(b.X), int(a.Y)-int(b.Y)
				if dx*dx+dy*dy == 1 && j < i {
					number[a], i, changed = j, j, true
				}
			}
		}
	}
	var blots [][]impl.Spot
	for i := range places(s) {
		var blot []impl.Spot
		for _, at := range places(s) {
			if n, ok := number[at]; ok && n == i {
				blot = append(blot, at)
			}
		}
		if blot != nil {
			blots = append(blots, blot)
		}
	}
	return blots
}

func TestP3BlotsHaveEachDarkCellOnce(t *testing.T) {
	r := rand.New(rand.NewSource(30))
	several := 0
	for range 400 {
		s := randomSheet(r)
		least := int64(1 + r.Intn(12))
		if r.Intn(3) == 0 {
			least = int64(1 + r.Intn(1200))
		}
		want := blotsByHand(s, least)
		got, code := impl.BlotsOf(s, least)
		same(t, "blots", list(got, code), list(want, 0))
		if len(want) > 1 {
			several++
		}
		var dark []impl.Spot
		for _, at := range places(s) {
			if darkOf(s, at) >= least {
				dark = append(dark, at)
			} else if blot, c := impl.BlotAt(s, at, least); c != impl.ErrNotFound || blot != nil {
				t.Fatalf("BlotAt %v: %v, code %d", at, blot, c)
			}
		}
		cells, code := impl.DyedCells(s, least)
		same(t, "cells", list(cells, code), list(dark, 0))
		for _, blot := range want {
			for _, at := range blot {
				one, code := impl.BlotAt(s, at, least)
				same(t, "blot", list(one, code), list(blot, 0))
			}
		}
		if t.Failed() {
			t.Fatalf("least %d of %+v", least, s)
		}
	}
	if several < 50 {
		t.Errorf("only %d sheets had several blots", several)
	}
}

func TestP3Shapes(t *testing.T) {
	for _, c := range []struct {
		name   string
		s      impl.Sheet
		least  int64
		counts []int
	}{
		{"one cell", inked("3"), 3, []int{1}},
		{"one cell, one less", inked("2"), 3, nil},
		{"blank cell", inked("0"), 1, nil},
		{"corners only", inked("101", "010", "101"), 1, []int{1, 1, 1, 1, 1}},
		{"over wax", inked("1w1", "1w1"), 1, []int{2, 2}},
		{"around wax", inked("1w1", "111"), 1, []int{5}},
		{"over cells that are one too light", inked("525", "545"), 5, []int{2, 2}},
		{"over cells that are just as dark", inked("525", "555"), 5, []int{5}},
		{"row ends do not touch", inked("001", "100"), 1, []int{1, 1}},
		{"column", inked("1", "1", "0", "1", "1", "1", "1", "1"), 1, []int{2, 5}},
		{"snake", inked("11111111", "00000001", "11111111", "10000000", "11111111", "00000001", "11111111", "10000000"), 1, []int{8 + 1 + 8 + 1 + 8 + 1 + 8 + 1}},
		{"full", inked("99999999", "99999999", "99999999", "99999999", "99999999", "99999999", "99999999", "99999999"), 9, []int{64}},
		{"ring around a blot", inked("11111", "10001", "10101", "10001", "11111"), 1, []int{16, 1}},
	} {
		blots, code := impl.BlotsOf(c.s, c.least)
		var counts []int
		for _, blot := range blots {
			counts = append(counts, len(blot))
		}
		same(t, c.name, list(counts, code), list(c.counts, 0))
		same(t, c.name, list(blots), list(blotsByHand(c.s, c.least)))
	}
}

func TestP3Chessboard(t *testing.T) {
	s := impl.Sheet{Wide: 8, High: 8}
	for _, at := range places(s) {
		s.Dye[at.Y][at.X][0] = int16((at.X + at.Y) % 2)
	}
	blots, code := impl.BlotsOf(s, 1)
	if len(blots) != 32 || code != impl.OK {
		t.Fatalf("%d blots, code %d", len(blots), code)
	}
	same(t, "order", list(blots[0], blots[3], blots[4], blots[31]), list([]impl.Spot{{X: 1}}, []impl.Spot{{X: 7}}, []impl.Spot{{Y: 1}}, []impl.Spot{{X: 6, Y: 7}}))
}

// TestP3DarknessIsTheSum has cells that are dark enough by all inks together only.
func TestP3DarknessIsTheSum(t *testing.T) {
	s := paper(t, "9:1,1,1 0:0,0,2 0:0,3,0", "200:0,0,0 0:1000,1000,1000 0:1,0,2")
	for _, c := range []struct {
		least int64
		want  []impl.Spot
	}{
		{1, []impl.Spot{{X: 0}, {X: 1}, {X: 2}, {X: 1, Y: 1}, {X: 2, Y: 1}}},
		{3, []impl.Spot{{X: 0}, {X: 2}, {X: 1, Y: 1}, {X: 2, Y: 1}}},
		{4, []impl.Spot{{X: 1, Y: 1}}},
		{3000, []impl.Spot{{X: 1, Y: 1}}},
	} {
		got, code := impl.DyedCells(s, c.least)
		same(t, "cells", list(c.least, got, code), list(c.least, c.want, 0))
	}
	blots, _ := impl.BlotsOf(s, 3)
	same(t, "blots", list(blots), list([][]impl.Spot{{{X: 0}}, {{X: 2}, {X: 1, Y: 1}, {X: 2, Y: 1}}}))
}

func TestP3LeastBeyondItsRange(t *testing.T) {
	s := paper(t, "0:1,0,0 w")
	for _, least := range append([]int64{0, 3001}, wild...) {
		if least >= 1 && least <= 3000 {
			continue
		}
		cells, c1 := impl.DyedCells(s, least)
		blot, c2 := impl.BlotAt(s, spot(0, 0), least)
		blots, c3 := impl.BlotsOf(s, least)
		_, c4 := impl.BlotAt(s, spot(1, 0), least)
		same(t, "least", list(least, cells, c1, blot, c2, blots, c3, c4), list(least, cells[:0], 2, blot[:0], 2, blots[:0], 2, 2))
	}
	_, c1 := impl.BlotAt(s, spot(1, 0), 1)
	_, c2 := impl.BlotAt(s, spot(2, 0), 1)
	_, c3 := impl.BlotAt(s, spot(0, 0), 2)
	blots, c4 := impl.BlotsOf(s, 3000)
	same(t, "codes", list(c1, c2, c3, len(blots), c4), list(impl.ErrNotFound, impl.ErrRange, impl.ErrNotFound, 0, 0))
}

func TestP3BlotsShareNoMemory(t *testing.T) {
	s := inked("101", "101", "000", "111")
	blots, _ := impl.BlotsOf(s, 1)
	for i := range blots {
		grown := append(blots[i], spot(-9, -9))
		for j := range grown {
			grown[j] = spot(-9, -9)
		}
		for j := i + 1; j < len(blots); j++ {
			for _, at := range blots[j] {
				if at == spot(-9, -9) {
					t.Fatalf("the blots %d and %d share memory", i, j)
				}
			}
		}
	}
}

func TestP3DarkestCell(t *testing.T) {
	for _, c := range []struct {
		name string
		s    impl.Sheet
		at   impl.Spot
		dark int64
		code int64
	}{
		{"one", inked("4"), spot(0, 0), 4, 0},
		{"first in its row", inked("0990"), spot(1, 0), 9, 0},
		{"upper row first", inked("008", "800"), spot(2, 0), 8, 0},
		{"last cell", inked("12", "34"), spot(1, 1), 4, 0},
		{"by the sum", paper(t, "0:900,0,0 0:301,300,300"), spot(1, 0), 901, 0},
		{"darkest of all", paper(t, "w 0:1000,1000,1000"), spot(1, 0), 3000, 0},
		{"water alone", paper(t, "9:0,0,0 w"), spot(0, 0), 0, impl.ErrNotFound},
		{"nothing", paper(t, "0:0,0,0"), spot(0, 0), 0, impl.ErrNotFound},
		{"all waxed", paper(t, "w w", "w w"), spot(0, 0), 0, impl.ErrNotFound},
	} {
		at, dark, code := impl.DarkestCell(c.s)
		same(t, c.name, list(at, dark, code), list(c.at, c.dark, c.code))
	}
}

func TestP3DarkestCellsOfManySheets(t *testing.T) {
	r := rand.New(rand.NewSource(31))
	for range 1000 {
		s := randomSheet(r)
		at, dark, code := impl.DarkestCell(s)
		wantAt, wantDark, wantCode := spot(0, 0), int64(0), int64(impl.ErrNotFound)
		for _, c := range places(s) {
			if d := darkOf(s, c); d > wantDark {
				wantAt, wantDark, wantCode = c, d, impl.OK
			}
		}
		same(t, "darkest", list(at, dark, code), list(wantAt, wantDark, wantCode))
	}
}
