package tests

import (
	"fmt"
	"math"
	"math/rand"
	"testing"

	"loop.example/g01360/impl"
)

// leftByHand counts up what is left of something: the least whole number that is not less than the share of it, or the room.
func leftByHand(has, share, room int16) int64 {
	left := int64(0)
	for left*16 < int64(has)*int64(share) && left < int64(room) {
		left++
	}
	return left
}

func leaveByHand(s impl.Sheet, b impl.Brush, at impl.Spot) (dye [3]int64, water int64) {
	if waxedAt(s, at) {
		return dye, 0
	}
	for ink := range dye {
		dye[ink] = leftByHand(b.Dye[ink], int16(b.Share), 1000-s.Dye[at.Y][at.X][ink])
	}
	return dye, leftByHand(b.Water, int16(b.Share), 200-s.Wet[at.Y][at.X])
}

func strokeByHand(s impl.Sheet, b impl.Brush, path []impl.Spot) (impl.Sheet, impl.Brush) {
	for _, at := range path {
		dye, water := leaveByHand(s, b, at)
		for ink := range dye {
			b.Dye[ink] -= int16(dye[ink])
			s.Dye[at.Y][at.X][ink] += int16(dye[ink])
		}
		b.Water -= int16(water)
		s.Wet[at.Y][at.X] += int16(water)
	}
	return s, b
}

// withBrushes returns the dye and the water of a sheet and of brushes together.
func withBrushes(s impl.Sheet, brushes ...impl.Brush) (dye [3]int64, water int64) {
	dye, water = totals(s)
	for _, b := range brushes {
		water += int64(b.Water)
		for ink := range dye {
			dye[ink] += int64(b.Dye[ink])
		}
	}
	return dye, water
}

// checkInkKept fails the test if dye or water has come or gone, or if a sheet or a brush takes more than it can.
func checkInkKept(t *testing.T, s, after impl.Sheet, b, rest impl.Brush) {
	t.Helper()
	dye, water := withBrushes(s, b)
	isDye, isWater := withBrushes(after, rest)
	same(t, "kept", list(isDye, isWater, rest.Share, waxOf(after)), list(dye, water, b.Share, waxOf(s)))
	if !impl.ValidSheet(after) || !impl.ValidBrush(rest) {
		t.Fatalf("not valid: %+v, %+v", after, rest)
	}
}

func TestP8StrokesOfManySheets(t *testing.T) {
	r := rand.New(rand.NewSource(120))
	for range 3000 {
		s, b := randomSheet(r), randomBrush(r)
		path := randomPath(r, s)
		got, rest, code := impl.StrokePath(s, b, path)
		want, left := strokeByHand(s, b, path)
		if got != want || rest != left || code != impl.OK {
			t.Fatalf("%+v along %v on %+v: got %+v and %+v, code %d", b, path, s, got, rest, code)
		}
		checkInkKept(t, s, got, b, rest)
	}
}

func TestP8TouchesOfManySheets(t *testing.T) {
	r := rand.New(rand.NewSource(121))
	for range 300 {
		s, b := randomSheet(r), randomBrush(r)
		for _, at := range places(s) {
			dye, water, c1 := impl.LeaveAt(s, b, at)
			wantDye, wantWater := leaveByHand(s, b, at)
			same(t, "left", list(b, at, dye, water, c1), list(b, at, wantDye, wantWater, 0))
			got, rest, c2 := impl.TouchCell(s, b, at)
			want, left := strokeByHand(s, b, []impl.Spot{at})
			if got != want || rest != left || c2 != impl.OK {
				t.Fatalf("%+v at %v on %+v: got %+v and %+v, code %d", b, at, s, got, rest, c2)
			}
			checkInkKept(t, s, got, b, rest)
		}
	}
}

func TestP8WhatATouchLeaves(t *testing.T) {
	for _, c := range []struct {
		name, cell string
		b          impl.Brush
		dye        [3]int64
		water      int64
	}{
		{"the document's", "0:0,0,0", brush(4, 16, 32), [3]int64{8, 0, 0}, 4},
		{"even sixteenths", "0:0,0,0", brush(5, 16, 32, 48, 160), [3]int64{10, 15, 50}, 5},
		{"rounded up, by 1 and by 15 of 16", "0:0,0,0", brush(1, 17, 1, 15, 17), [3]int64{1, 1, 2}, 2},
		{"share 3", "0:0,0,0", brush(3, 5, 27, 11, 16), [3]int64{6, 3, 3}, 1},
		{"share 15", "0:0,0,0", brush(15, 1, 1, 17, 33), [3]int64{1, 16, 31}, 1},
		{"share 1, much", "0:0,0,0", brush(1, 200, 900), [3]int64{57, 0, 0}, 13},
		{"share 1, as even as can be", "0:0,0,0", brush(1, 192, 896), [3]int64{56, 0, 0}, 12},
		{"share 1, to the last unit", "0:0,0,0", brush(1, 1, 1, 1, 1), [3]int64{1, 1, 1}, 1},
		{"the greatest share", "0:0,0,0", brush(16, 200, 300, 300, 300), [3]int64{300, 300, 300}, 200},
		{"the greatest share, one ink", "0:0,0,0", brush(16, 7, 0, 900), [3]int64{0, 900, 0}, 7},
		{"one less than it", "0:0,0,0", brush(15, 200, 900), [3]int64{844, 0, 0}, 188},
		{"just room enough", "196:992,0,0", brush(4, 16, 32), [3]int64{8, 0, 0}, 4},
		{"room for 1 less", "197:993,0,0", brush(4, 16, 32), [3]int64{7, 0, 0}, 3},
		{"room for 1", "199:999,999,999", brush(16, 200, 300, 300, 300), [3]int64{1, 1, 1}, 1},
		{"no room for dye", "0:1000,1000,1000", brush(16, 200, 300, 300, 300), [3]int64{0, 0, 0}, 200},
		{"no room for water", "200:0,0,0", brush(16, 200, 300, 300, 300), [3]int64{300, 300, 300}, 0},
		{"no room for one ink", "0:0,1000,5", brush(8, 9, 9, 9, 9), [3]int64{5, 0, 5}, 5},
		{"no room at all", "200:1000,1000,1000", brush(16, 200, 300, 300, 300), [3]int64{0, 0, 0}, 0},
		{"another ink is no matter", "0:1000,0,1000", brush(16, 0, 0, 900), [3]int64{0, 900, 0}, 0},
		{"wax", "w", brush(16, 200, 300, 300, 300), [3]int64{0, 0, 0}, 0},
		{"no load, but water", "3:4,5,6", brush(4, 9), [3]int64{0, 0, 0}, 3},
		{"no water", "3:4,5,6", brush(4, 0, 9, 8, 7), [3]int64{3, 2, 2}, 0},
		{"nothing", "3:4,5,6", brush(16, 0), [3]int64{0, 0, 0}, 0},
	} {
		s := paper(t, c.cell)
		dye, water, c1 := impl.LeaveAt(s, c.b, impl.Spot{})
		same(t, c.name, list(dye, water, c1), list(c.dye, c.water, 0))
		got, rest, c2 := impl.TouchCell(s, c.b, impl.Spot{})
		want, left := s, c.b
		for ink := range c.dye {
			want.Dye[0][0][ink] += int16(c.dye[ink])
			left.Dye[ink] -= int16(c.dye[ink])
		}
		want.Wet[0][0] += int16(c.water)
		left.Water -= int16(c.water)
		same(t, c.name+", touched", list(got, rest, c2), list(want, left, 0))
	}
}

// TestP8AllSharesOfAllAmounts goes over every amount and share of one ink, and every room for the amounts that are few.
func TestP8AllSharesOfAllAmounts(t *testing.T) {
	s := impl.Sheet{Wide: 1, High: 1}
	for amount := range impl.MaxLoad + 1 {
		for share := 1; share <= impl.MostShare; share++ {
			b := brush(share, amount%(impl.MaxWet+1), 0, 0, amount)
			want := (amount*share + 15) / 16
			dye, water, code := impl.LeaveAt(s, b, impl.Spot{})
			if dye != [3]int64{2: int64(want)} || water != leftByHand(b.Water, int16(share), 200) || code != impl.OK {
				t.Fatalf("share %d of %d: %v and %d, code %d", share, amount, dye, water, code)
			}
			for room := range 12 {
				full := s
				full.Dye[0][0][2], full.Wet[0][0] = int16(1000-room), int16(200-room)
				dye, water, code := impl.LeaveAt(full, b, impl.Spot{})
				if dye != [3]int64{2: int64(min(want, room))} || water != leftByHand(b.Water, int16(share), int16(room)) || code != impl.OK {
					t.Fatalf("share %d of %d, room for %d: %v and %d, code %d", share, amount, room, dye, water, code)
				}
			}
		}
	}
}

func TestP8StrokesAlongPaths(t *testing.T) {
	for _, c := range []struct {
		name, before string
		b            impl.Brush
		x            int8
		letters      string
		after        string
		rest         impl.Brush
	}{
		{"the document's", "0:0,0,0 0:0,0,0 0:0,0,0", brush(4, 16, 32), 0, "ee", "4:8,0,0 3:6,0,0 3:5,0,0", brush(4, 6, 13)},
		{"westward", "0:0,0,0 0:0,0,0 0:0,0,0", brush(4, 16, 32), 2, "ww", "3:5,0,0 3:6,0,0 4:8,0,0", brush(4, 6, 13)},
		{"one cell", "1:1,1,1 2:2,2,2", brush(8, 4, 4, 6, 8), 1, "", "1:1,1,1 4:4,5,6", brush(8, 2, 2, 3, 4)},
		{"back at once", "0:0,0,0 0:0,0,0", brush(8, 8, 8), 0, "ew", "5:5,0,0 2:2,0,0", brush(8, 1, 1)},
		{"to and fro", "0:0,0,0 0:0,0,0", brush(8, 8, 16, 8, 4), 0, "ewewew", "5:11,5,3 3:5,3,1", brush(8, 0, 0, 0, 0)},
		{"a cell that is full behind the first time", "199:992,0,0 0:0,0,0", brush(4, 16, 32), 0, "ew", "200:1000,0,0 4:6,0,0", brush(4, 11, 18)},
		{"the greatest share at once", "0:0,0,0 0:0,0,0", brush(16, 5, 3, 2, 1), 0, "e", "5:3,2,1 0:0,0,0", brush(16, 0)},
		{"the greatest share, the rest behind a full cell", "198:998,1000,0 0:0,0,0", brush(16, 5, 3, 2, 1), 0, "e", "200:1000,1000,1 3:1,2,0", brush(16, 0)},
		{"over wax", "0:0,0,0 w 0:0,0,0", brush(4, 16, 32), 0, "ee", "4:8,0,0 w 3:6,0,0", brush(4, 9, 18)},
		{"wax first", "w 0:0,0,0", brush(4, 16, 32), 0, "e", "w 4:8,0,0", brush(4, 12, 24)},
		{"wax alone", "w w w", brush(16, 200, 900), 1, "ewwe", "w w w", brush(16, 200, 900)},
		{"water alone", "0:9,0,0 0:0,0,0", brush(4, 16), 0, "e", "4:9,0,0 3:0,0,0", brush(4, 9)},
		{"nothing at all", "1:2,3,4 0:0,0,0", brush(16, 0), 0, "ew", "1:2,3,4 0:0,0,0", brush(16, 0)},
		{"dry before the path ends", "0:0,0,0 0:0,0,0 0:0,0,0 0:0,0,0", brush(8, 9, 3), 0, "eee", "5:2,0,0 2:1,0,0 1:0,0,0 1:0,0,0", brush(8, 0, 0)},
	} {
		path := walk(c.x, 0, c.letters)
		got, rest, code := impl.StrokePath(paper(t, c.before), c.b, path)
		same(t, c.name, list(impl.SheetText(got), rest, code), list(c.after+"\n", c.rest, 0))
		// The same sheet and path, with X and Y exchanged.
		turned := impl.Sheet{Wide: 1, High: paper(t, c.before).Wide}
		for i := range path {
			path[i] = spot(0, path[i].X)
		}
		for x := range turned.High {
			was := paper(t, c.before)
			turned.Wet[x][0], turned.Dye[x][0], turned.Wax[x] = was.Wet[0][x], was.Dye[0][x], was.Wax[0]>>x&1
		}
		down, rest, code := impl.StrokePath(turned, c.b, path)
		for x := range turned.High {
			same(t, c.name+", down", list(down.Wet[x][0], down.Dye[x][0], rest, code), list(got.Wet[0][x], got.Dye[0][x], c.rest, 0))
		}
	}
}

// TestP8LongPaths makes a stroke along MaxPath cells, round by round through a ring.
func TestP8LongPaths(t *testing.T) {
	s := impl.Sheet{Wide: 2, High: 2}
	letters := ""
	for range 20 {
		letters += "eswn"
	}
	b := brush(1, 200, 900)
	got, rest, code := impl.StrokePath(s, b, walk(0, 0, letters)[:impl.MaxPath])
	want, left := strokeByHand(s, b, walk(0, 0, letters)[:80])
	same(t, "80 cells", list(got, rest, code), list(want, left, 0))
	checkInkKept(t, s, got, b, rest)
	same(t, "81 cells", list(impl.StrokePath(s, b, walk(0, 0, letters)[:81])), list(impl.Sheet{}, impl.Brush{}, impl.ErrRange))
}

func TestP8ErrorsOfTouches(t *testing.T) {
	s := paper(t, "0:0,0,0 w", "0:0,0,0 0:0,0,0")
	broken := paper(t, "201:0,0,0 w", "0:0,0,0 0:0,0,0")
	b, none := brush(4, 16, 32), brush(0, 16, 32)
	for _, c := range []struct {
		name string
		s    impl.Sheet
		b    impl.Brush
		at   impl.Spot
		code int64
	}{
		{"a sheet that is not valid", broken, b, spot(1, 1), 1},
		{"a brush that is not valid", s, none, spot(1, 1), 1},
		{"neither is, and no cell", broken, none, spot(2, 2), 1},
		{"a sheet that is not valid, and no cell", broken, b, spot(-1, 0), 1},
		{"a brush that is not valid, and no cell", s, none, spot(0, 2), 1},
		{"a brush that is not valid, and wax", s, none, spot(1, 0), 1},
		{"beyond the east", s, b, spot(2, 0), 2},
		{"beyond the south", s, b, spot(0, 2), 2},
		{"beyond the west", s, b, spot(-1, 0), 2},
		{"beyond the north", s, b, spot(0, -1), 2},
		{"far away", s, b, spot(math.MaxInt8, math.MinInt8), 2},
		{"wax is a cell, too", s, b, spot(1, 0), 0},
		{"no cell of any kind", impl.Sheet{}, b, spot(0, 0), 1},
		{"no brush of any kind", s, impl.Brush{}, spot(0, 0), 1},
	} {
		_, _, c1 := impl.LeaveAt(c.s, c.b, c.at)
		_, _, c2 := impl.TouchCell(c.s, c.b, c.at)
		_, _, c3 := impl.StrokePath(c.s, c.b, []impl.Spot{c.at})
		_, c4 := impl.CellsUntilDry(c.s, c.b, []impl.Spot{c.at})
		_, _, c5 := impl.LiftCell(c.s, c.b, c.at, 4)
		same(t, c.name, list(c1, c2, c3, c4, c5), list(c.code, c.code, c.code, c.code, c.code))
	}
}

// TestP8StrokesInTurns makes strokes, dips, mixes, lifts and rinses in turns, and keeps count of all dye and water.
func TestP8StrokesInTurns(t *testing.T) {
	r := rand.New(rand.NewSource(122))
	for range 300 {
		s, b, other := randomSheet(r), randomBrush(r), randomBrush(r)
		dye, water := withBrushes(s, b, other)
		for range 30 {
			path := randomPath(r, s)
			switch r.Intn(5) {
			case 0:
				s, b, _ = impl.StrokePath(s, b, path)
			case 1:
				s, other, _ = impl.TouchCell(s, other, path[0])
			case 2:
				s, b, _ = impl.LiftCell(s, b, path[0], int64(r.Intn(17)))
			case 3:
				if first, second, code := impl.MixBrushes(b, other); code == impl.OK {
					b, other = first, second
				}
			case 4:
				ink, amount, more := int64(r.Intn(3)), int64(r.Intn(99)), int64(r.Intn(9))
				if dipped, code := impl.DipBrush(b, ink, amount, more); code == impl.OK {
					b = dipped
					dye[ink] += amount
					water += more
				}
			}
			isDye, isWater := withBrushes(s, b, other)
			if isDye != dye || isWater != water || !impl.ValidSheet(s) || !impl.ValidBrush(b) || !impl.ValidBrush(other) {
				t.Fatalf("%v dye and %d water have become %v and %d: %s", dye, water, isDye, isWater, fmt.Sprint(s, b, other))
			}
		}
	}
}
