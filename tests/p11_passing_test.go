package tests

import (
	"fmt"
	"math"
	"math/rand"
	"slices"
	"strings"
	"testing"

	"loop.example/g01360/impl"
)

// onTable is what the table has got.
type onTable struct {
	dye   [3]int64
	water int64
}

// passByHand lets ink and water pass down once, cell by cell: what happens in one cell is no matter to the cells beside it.
func passByHand(st impl.Stack, share int, table *onTable) impl.Stack {
	st = slices.Clone(st)
	for _, at := range places(impl.Sheet{Wide: 8, High: 8}) {
		for i := len(st) - 1; i >= 0; i-- {
			wet, dye := &st[i].Wet[at.Y][at.X], &st[i].Dye[at.Y][at.X]
			if *wet == 0 {
				continue
			}
			var goes [4]int16
			for ink := range 3 {
				goes[ink] = int16(int(dye[ink]) * share / 16)
			}
			goes[3] = int16(int(*wet) * share / 16)
			if i == len(st)-1 {
				for ink := range 3 {
					table.dye[ink] += int64(goes[ink])
				}
				table.water += int64(goes[3])
			} else {
				goes = takenByHand(&st[i+1], at, goes)
			}
			for ink := range 3 {
				dye[ink] -= goes[ink]
			}
			*wet -= goes[3]
		}
	}
	return st
}

// takenByHand lets a cell take what it can of dyes and of water, unit by unit, and returns how much this is.
func takenByHand(s *impl.Sheet, at impl.Spot, goes [4]int16) (taken [4]int16) {
	if waxedAt(*s, at) {
		return taken
	}
	for ink := range 3 {
		for taken[ink] < goes[ink] && s.Dye[at.Y][at.X][ink] < 1000 {
			s.Dye[at.Y][at.X][ink]++
			taken[ink]++
		}
	}
	for taken[3] < goes[3] && s.Wet[at.Y][at.X] < 200 {
		s.Wet[at.Y][at.X]++
		taken[3]++
	}
	return taken
}

// inAll returns the dye and the water of a stack and of the table together.
func inAll(st impl.Stack, dye [3]int64, water int64) onTable {
	all := onTable{dye, water}
	for _, s := range st {
		d, w := totals(s)
		all.water += w
		for ink := range d {
			all.dye[ink] += d[ink]
		}
	}
	return all
}

// wetStack returns a valid stack in whose cells much goes down: they are wet, and some are nearly full.
func wetStack(r *rand.Rand) impl.Stack {
	st := randomStack(r)
	for i := range st {
		for _, at := range places(st[i]) {
			if waxedAt(st[i], at) || r.Intn(4) == 0 {
				continue
			}
			st[i].Wet[at.Y][at.X] = int16(oneOf(r, r.Intn(3), r.Intn(201), 200-r.Intn(9)))
			for ink := range 3 {
				st[i].Dye[at.Y][at.X][ink] = int16(oneOf(r, 0, r.Intn(40), r.Intn(1001), 1000-r.Intn(9)))
			}
		}
	}
	return st
}

func TestP11PassesOfManyStacks(t *testing.T) {
	r := rand.New(rand.NewSource(190))
	for range 1500 {
		st, share := wetStack(r), 1+r.Intn(15)
		table := onTable{}
		want := passByHand(st, share, &table)
		got, dye, water, code := impl.PassDown(st, int64(share))
		if !slices.Equal(got, want) || dye != table.dye || water != table.water || code != impl.OK {
			t.Fatalf("share %d of %+v: %+v, %v and %d, code %d", share, st, got, dye, water, code)
		}
		checkPassed(t, st, got, dye, water)
	}
}

// checkPassed fails the test if dye or water has come or gone, if wax has, or if a sheet takes more than it can.
func checkPassed(t *testing.T, st, after impl.Stack, dye [3]int64, water int64) {
	t.Helper()
	same(t, "kept", list(inAll(after, dye, water), len(after)), list(inAll(st, [3]int64{}, 0), len(st)))
	for i := range st {
		if waxOf(after[i]) != waxOf(st[i]) || !impl.ValidSheet(after[i]) {
			t.Fatalf("the sheet %d has become %+v", i, after[i])
		}
	}
}

func TestP11ManyPassesOfManyStacks(t *testing.T) {
	r := rand.New(rand.NewSource(191))
	for range 60 {
		st, share := wetStack(r), 1+r.Intn(15)
		want, table := st, onTable{}
		for times := range impl.MaxPasses + 1 {
			if times < 4 || times%9 == 0 || times == impl.MaxPasses {
				got, dye, water, code := impl.PassTimes(st, int64(share), int64(times))
				if !slices.Equal(got, want) || dye != table.dye || water != table.water || code != impl.OK {
					t.Fatalf("share %d of %+v, %d times: %+v, %v and %d, code %d", share, st, times, got, dye, water, code)
				}
				checkPassed(t, st, got, dye, water)
			}
			want = passByHand(want, share, &table)
		}
	}
}

func TestP11WhatPassesDown(t *testing.T) {
	for _, c := range []struct {
		name, before string
		share        int64
		after        string
		dye          [3]int64
		water        int64
	}{
		{"the document's", "8:16,0,0 | 0:0,0,0", 8, "4:8,0,0 | 4:8,0,0", [3]int64{}, 0},
		{"the document's, the next time", "4:8,0,0 | 4:8,0,0", 8, "2:4,0,0 | 4:8,0,0", [3]int64{4, 0, 0}, 2},
		{"one sheet, to the table", "200:1000,999,1", 8, "100:500,500,1", [3]int64{500, 499, 0}, 100},
		{"the least share", "200:1000,16,15 | 0:0,0,0", 1, "188:938,15,15 | 12:62,1,0", [3]int64{}, 0},
		{"the least share, to the table", "200:1000,16,15", 1, "188:938,15,15", [3]int64{62, 1, 0}, 12},
		{"the greatest share", "200:1000,16,1 | 0:0,0,0", 15, "13:63,1,1 | 187:937,15,0", [3]int64{}, 0},
		{"the greatest share, to the table", "200:1000,16,1", 15, "13:63,1,1", [3]int64{937, 15, 0}, 187},
		{"as much as the table can get of a cell", "200:1000,1000,1000", 15, "13:63,63,63", [3]int64{937, 937, 937}, 187},
		{"rounded down, just below and at a unit", "2:2,3,4 | 0:0,0,0", 5, "2:2,3,3 | 0:0,0,1", [3]int64{}, 0},
		{"a unit of water gives dye, and stays", "1:16,0,0 | 0:0,0,0", 8, "1:8,0,0 | 0:8,0,0", [3]int64{}, 0},
		{"no water", "0:1000,0,5 | 0:0,0,0", 15, "0:1000,0,5 | 0:0,0,0", [3]int64{}, 0},
		{"no water above the table", "0:1000,0,5", 15, "0:1000,0,5", [3]int64{}, 0},
		{"water below alone", "0:16,0,0 | 16:0,16,0", 8, "0:16,0,0 | 8:0,8,0", [3]int64{0, 8, 0}, 8},
		{"water alone", "16:0,0,0 | 0:0,0,0", 8, "8:0,0,0 | 8:0,0,0", [3]int64{}, 0},
		{"wax below", "16:16,16,16 | w", 8, "16:16,16,16 | w", [3]int64{}, 0},
		{"wax above", "w | 16:16,16,16", 8, "w | 8:8,8,8", [3]int64{8, 8, 8}, 8},
		{"wax in the middle", "16:16,16,16 | w | 16:0,0,16", 8, "16:16,16,16 | w | 8:0,0,8", [3]int64{0, 0, 8}, 8},
		{"wax two below", "16:16,0,0 | 0:0,0,0 | w", 8, "8:8,0,0 | 8:8,0,0 | w", [3]int64{}, 0},
		{"wax alone", "w | w", 8, "w | w", [3]int64{}, 0},
		{"just room enough", "2:16,32,48 | 0:992,984,976", 8, "1:8,16,24 | 1:1000,1000,1000", [3]int64{}, 0},
		{"room for 1 less", "2:16,32,48 | 0:993,985,977", 8, "1:9,17,25 | 1:1000,1000,1000", [3]int64{}, 0},
		{"room for 1", "2:1000,1000,1000 | 0:999,999,999", 15, "1:999,999,999 | 1:1000,1000,1000", [3]int64{}, 0},
		{"no room for dye", "16:16,16,16 | 0:1000,1000,1000", 8, "8:16,16,16 | 8:1000,1000,1000", [3]int64{}, 0},
		{"no room for one ink", "16:16,16,16 | 0:0,1000,5", 8, "8:8,16,8 | 8:8,1000,13", [3]int64{}, 0},
		{"room that comes when the lower one gives", "16:160,0,0 | 16:1000,0,0", 1, "15:150,0,0 | 16:948,0,0", [3]int64{62, 0, 0}, 1},
		{"less room than it then needs", "16:1000,0,0 | 1:1000,0,0", 1, "15:938,0,0 | 2:1000,0,0", [3]int64{62, 0, 0}, 0},
		{"no room, as wax keeps the lower one full", "16:1000,0,0 | 200:1000,0,0 | w", 8, "16:1000,0,0 | 200:1000,0,0 | w", [3]int64{}, 0},
		{"room for some water", "200:0,0,0 | 195:0,0,0 | w", 8, "195:0,0,0 | 200:0,0,0 | w", [3]int64{}, 0},
		{"no room for water, but for dye", "200:16,0,0 | 200:0,0,0 | w", 8, "200:8,0,0 | 200:8,0,0 | w", [3]int64{}, 0},
		{"room for water that comes when the lower one gives", "200:0,0,0 | 200:0,0,0", 8, "100:0,0,0 | 200:0,0,0", [3]int64{}, 100},
		{"the lower one gives first", "16:16,0,0 | 16:0,16,0 | 0:0,0,0", 8, "8:8,0,0 | 16:8,8,0 | 8:0,8,0", [3]int64{}, 0},
		{"what comes down goes no further", "16:16,0,0 | 0:0,0,0 | 0:0,0,0", 8, "8:8,0,0 | 8:8,0,0 | 0:0,0,0", [3]int64{}, 0},
		{"water that comes down lets nothing go", "16:0,0,0 | 0:16,0,0 | 0:0,0,0", 8, "8:0,0,0 | 8:16,0,0 | 0:0,0,0", [3]int64{}, 0},
		{"six sheets", "16:16,0,0 | 16:16,0,0 | 16:16,0,0 | 16:16,0,0 | 16:16,0,0 | 16:16,0,0", 4,
			"12:12,0,0 | 16:16,0,0 | 16:16,0,0 | 16:16,0,0 | 16:16,0,0 | 16:16,0,0", [3]int64{4, 0, 0}, 4},
		{"cells beside each other", "16:16,0,0 0:0,0,9 | 0:0,0,0 0:0,0,0", 8, "8:8,0,0 0:0,0,9 | 8:8,0,0 0:0,0,0", [3]int64{}, 0},
		{"all cells of the lowest one", "16:16,0,0 16:0,32,0 w 0:9,9,9", 8, "8:8,0,0 8:0,16,0 w 0:9,9,9", [3]int64{8, 16, 0}, 16},
	} {
		st := pile(t, strings.Split(c.before, "|")...)
		for name, turn := range map[string]func(impl.Sheet) impl.Sheet{"a row": upright, "a column": onItsSide} {
			before, after := slices.Clone(st), pile(t, strings.Split(c.after, "|")...)
			for i := range before {
				before[i], after[i] = turn(before[i]), turn(after[i])
			}
			got, dye, water, code := impl.PassDown(before, c.share)
			same(t, c.name+", "+name, list(got, dye, water, code), list(after, c.dye, c.water, 0))
		}
	}
}

func upright(s impl.Sheet) impl.Sheet { return s }

// onItsSide returns the sheet with its columns as rows.
func onItsSide(s impl.Sheet) impl.Sheet {
	return picked(s, s.High, s.Wide, func(x, y int8) (int8, int8) { return y, x })
}

func TestP11NoSheetsGiveNothing(t *testing.T) {
	for _, st := range []impl.Stack{nil, {}} {
		got, dye, water, code := impl.PassDown(st, 8)
		same(t, "once", list(got, dye, water, code), list(impl.Stack{}, [3]int64{}, 0, 0))
		got, dye, water, code = impl.PassTimes(st, 15, 100)
		same(t, "a hundred times", list(got, dye, water, code), list(impl.Stack{}, [3]int64{}, 0, 0))
	}
}

// TestP11AllSharesOfAllAmounts goes over every amount and share, and every room for the amounts that are few.
func TestP11AllSharesOfAllAmounts(t *testing.T) {
	for amount := range impl.MaxDye + 1 {
		for share := 1; share <= impl.MaxGiven; share++ {
			upper := impl.Sheet{Wide: 1, High: 1}
			wet := 1 + amount%impl.MaxWet
			upper.Dye[0][0][2], upper.Wet[0][0] = int16(amount), int16(wet)
			goes, flows := amount*share/16, wet*share/16
			_, dye, water, code := impl.PassDown(impl.Stack{upper}, int64(share))
			if dye != [3]int64{2: int64(goes)} || water != int64(flows) || code != impl.OK {
				t.Fatalf("share %d of %d and %d: the table got %v and %d, code %d", share, amount, wet, dye, water, code)
			}
			for room := range 6 {
				lower, wax := upper, impl.Sheet{Wide: 1, High: 1, Wax: [8]uint8{1}}
				lower.Dye[0][0][2], lower.Wet[0][0] = int16(1000-room), int16(200-room)
				got, _, _, _ := impl.PassDown(impl.Stack{upper, lower, wax}, int64(share))
				if got[0].Dye[0][0][2] != int16(amount-min(goes, room)) || got[0].Wet[0][0] != int16(wet-min(flows, room)) {
					t.Fatalf("share %d of %d and %d, room for %d: %+v", share, amount, wet, room, got[0])
				}
			}
		}
	}
}

func TestP11ErrorsOfPasses(t *testing.T) {
	st, broken := pile(t, "8:16,0,0", "0:0,0,0"), pile(t, "8:16,0,0", "0:0,0,0 w")
	for _, c := range []struct {
		name         string
		st           impl.Stack
		share, times int64
		code         int64
	}{
		{"the least of all", st, 1, 0, 0},
		{"the greatest of all", st, 15, 100, 0},
		{"share 0", st, 0, 1, 2},
		{"share 16", st, 16, 1, 2},
		{"share -1", st, -1, 1, 2},
		{"one pass too many", st, 8, 101, 2},
		{"-1 passes", st, 8, -1, 2},
		{"share 0, no pass", st, 0, 0, 2},
		{"no sheets, share 0", nil, 0, 1, 2},
		{"no sheets, too many passes", nil, 1, 101, 2},
		{"not valid", broken, 8, 1, 1},
		{"not valid, share 0", broken, 0, 1, 1},
		{"not valid, share 0, too many passes", broken, 16, 101, 1},
		{"not valid, no pass", broken, 8, 0, 1},
		{"too many sheets", pile(t, "w", "w", "w", "w", "w", "w", "w"), 8, 1, 1},
	} {
		_, _, _, code := impl.PassTimes(c.st, c.share, c.times)
		same(t, c.name, list(code), list(c.code))
		if c.times == 1 {
			_, _, _, code := impl.PassDown(c.st, c.share)
			_, until := impl.TimesUntil(c.st, c.share, 0)
			same(t, c.name, list(code, until), list(c.code, c.code))
		}
	}
	for _, n := range wild {
		_, _, _, c1 := impl.PassDown(st, n)
		_, _, _, c2 := impl.PassTimes(st, 8, n)
		_, c3 := impl.TimesUntil(st, n, 0)
		same(t, "wild numbers", list(n, c1, c2, c3), list(n, 2, 2, 2))
	}
	got, dye, water, code := impl.PassTimes(st, 8, 0)
	same(t, "no pass", list(got, dye, water, code), list(st, [3]int64{}, 0, 0))
}

// topDark returns how dark the darkest cell of the top sheet is.
func topDark(st impl.Stack) int64 {
	most := int64(0)
	for _, at := range places(st[0]) {
		most = max(most, darkOf(st[0], at))
	}
	return most
}

func TestP11TimesUntilOfManyStacks(t *testing.T) {
	r := rand.New(rand.NewSource(192))
	seen := map[int64]int{}
	for range 300 {
		st, share := wetStack(r), 1+r.Intn(15)
		if len(st) == 0 {
			continue
		}
		darks, on := []int64{topDark(st)}, st
		for range impl.MaxPasses {
			on = passByHand(on, share, &onTable{})
			darks = append(darks, topDark(on))
		}
		for range 5 {
			level := max(0, darks[oneOf(r, 0, r.Intn(8), r.Intn(101), 100)]-int64(r.Intn(2)))
			want, is := int64(slices.IndexFunc(darks, func(dark int64) bool { return dark <= level })), int64(0)
			if want < 0 {
				want, is = 0, impl.ErrNotFound
			}
			got, code := impl.TimesUntil(st, int64(share), level)
			if got != want || code != is {
				t.Fatalf("share %d of %+v until %d: %d, code %d, want %d", share, st, level, got, code, want)
			}
			seen[is*1000+got]++
		}
	}
	if len(seen) < 15 || seen[0] < 20 || seen[6000] < 20 {
		t.Errorf("not all kinds were met: %v", seen)
	}
}

func TestP11TimesUntil(t *testing.T) {
	// The water seeps through sheets that are full and dry, and only then lets the dye of all go, so this takes long.
	slow := pile(t, "107:1000,0,0", "0:1000,0,0", "0:1000,0,0", "0:1000,0,0", "0:1000,0,0")
	slower := pile(t, "103:1000,0,0", "0:1000,0,0", "0:1000,0,0", "0:1000,0,0", "0:1000,0,0")
	for _, c := range []struct {
		name         string
		st           impl.Stack
		share, level int64
		times, code  int64
	}{
		{"the document's", pile(t, "8:16,0,0", "0:0,0,0"), 8, 8, 1, 0},
		{"at once", pile(t, "8:16,0,0", "0:0,0,0"), 8, 16, 0, 0},
		{"at once, by far", pile(t, "8:16,0,0", "0:0,0,0"), 8, 3000, 0, 0},
		{"one less than at once", pile(t, "8:16,0,0", "0:0,0,0"), 8, 15, 1, 0},
		{"later", pile(t, "8:16,0,0", "0:0,0,0"), 8, 7, 2, 0},
		{"later on", pile(t, "8:16,0,0", "0:0,0,0"), 8, 1, 4, 0},
		{"level 0, which is never", pile(t, "8:16,0,0", "0:0,0,0"), 8, 0, 0, 6},
		{"level 0, which is at once", pile(t, "8:0,0,0 w", "0:9,9,9 w"), 8, 0, 0, 0},
		{"a unit that never goes", pile(t, "200:1,0,0"), 15, 0, 0, 6},
		{"a unit is light enough", pile(t, "200:1,0,0"), 15, 1, 0, 0},
		{"no water", pile(t, "0:16,0,0", "0:0,0,0"), 8, 15, 0, 6},
		{"wax below", pile(t, "8:16,0,0", "w"), 8, 15, 0, 6},
		{"no room below, until it is wet itself", pile(t, "8:16,0,0", "0:1000,0,0"), 8, 15, 2, 0},
		{"no room below, ever", pile(t, "8:16,0,0", "0:1000,0,0", "w"), 8, 15, 0, 6},
		{"all inks of a cell together", pile(t, "8:16,16,16"), 8, 24, 1, 0},
		{"all inks of a cell together, and less", pile(t, "8:16,16,16"), 8, 23, 2, 0},
		{"the darkest cell is the last one", pile(t, "8:4,0,0 8:8,0,0 8:16,0,0"), 8, 4, 2, 0},
		{"the darkest cell is the first one", pile(t, "8:16,0,0 8:8,0,0 8:4,0,0"), 8, 4, 2, 0},
		{"lower sheets are no matter", pile(t, "8:16,0,0", "0:1000,1000,0", "0:0,1000,1000"), 8, 16, 0, 0},
		{"just MaxPasses", slow, 1, 19, 100, 0},
		{"one more", slower, 1, 19, 0, 6},
		{"no sheets", nil, 8, 3000, 0, 4},
		{"no sheets, level 0", impl.Stack{}, 8, 0, 0, 4},
		{"no sheets, share 0", nil, 0, 0, 0, 2},
		{"no sheets, level -1", nil, 8, -1, 0, 2},
		{"no sheets, level 3001", nil, 8, 3001, 0, 2},
		{"level -1", pile(t, "8:16,0,0"), 8, -1, 0, 2},
		{"level 3001", pile(t, "8:16,0,0"), 8, 3001, 0, 2},
		{"level 3001, share 16", pile(t, "8:16,0,0"), 16, 3001, 0, 2},
		{"not valid", pile(t, "8:1001,0,0"), 8, 3000, 0, 1},
		{"not valid, level -1, share 0", pile(t, "8:1001,0,0"), 0, -1, 0, 1},
		{"a very large level", pile(t, "8:16,0,0"), 8, math.MaxInt64, 0, 2},
		{"a very small level", pile(t, "8:16,0,0"), 8, math.MinInt64, 0, 2},
	} {
		times, code := impl.TimesUntil(c.st, c.share, c.level)
		same(t, c.name, list(times, code), list(c.times, c.code))
	}
}

// TestP11StacksInTurns lets stacks pass down, be turned and taken apart in turns, and keeps count of all dye and water.
func TestP11StacksInTurns(t *testing.T) {
	r := rand.New(rand.NewSource(193))
	for range 200 {
		st := wetStack(r)
		all, table := inAll(st, [3]int64{}, 0), onTable{}
		for range 20 {
			switch at := int64(r.Intn(impl.MaxSheets)); r.Intn(3) {
			case 0:
				after, dye, water, _ := impl.PassTimes(st, int64(1+r.Intn(15)), int64(r.Intn(9)))
				st = after
				table = inAll(nil, table.dye, table.water+water)
				for ink := range dye {
					table.dye[ink] += dye[ink]
				}
			case 1:
				st, _ = impl.TurnStack(st)
			case 2:
				if left, s, code := impl.TakeSheet(st, at); code == impl.OK {
					st, _ = impl.PutSheet(left, int64(r.Intn(len(left)+1)), s)
				}
			}
			if is := inAll(st, table.dye, table.water); is != all || !impl.ValidStack(st) {
				t.Fatalf("%+v has become %+v: %s", all, is, fmt.Sprint(st))
			}
			dyes, _ := impl.DyeOf(st)
			same(t, "dyes", list(dyes, 0), list(stackTotals(st)))
		}
	}
}
