package tests

import (
	"math/rand"
	"slices"
	"testing"

	"loop.example/g01360/impl"
)

// giveByHand gives a unit in plain numbers.
func giveByHand(s impl.Sheet, from, to impl.Spot) impl.Sheet {
	was := s
	water := int(was.Wet[from.Y][from.X])
	for ink := range 3 {
		goes := int(was.Dye[from.Y][from.X][ink]) / water
		if room := 1000 - int(was.Dye[to.Y][to.X][ink]); goes > room {
			goes = room
		}
		s.Dye[from.Y][from.X][ink] = int16(int(was.Dye[from.Y][from.X][ink]) - goes)
		s.Dye[to.Y][to.X][ink] = int16(int(was.Dye[to.Y][to.X][ink]) + goes)
	}
	s.Wet[from.Y][from.X] = int16(water - 1)
	s.Wet[to.Y][to.X] = was.Wet[to.Y][to.X] + 1
	return s
}

// roundByHand makes a round, and tells how many units have been given.
func roundByHand(s impl.Sheet) (impl.Sheet, int64) {
	given := int64(0)
	for _, at := range places(s) {
		if waxedAt(s, at) {
			continue
		}
		for _, next := range besides(s, at) {
			if s.Wet[next.Y][next.X]+2 <= s.Wet[at.Y][at.X] {
				s = giveByHand(s, at, next)
				given++
			}
		}
	}
	return s, given
}

// untilByHand makes rounds until one gives nothing, however many these are.
func untilByHand(s impl.Sheet) (impl.Sheet, int64) {
	for rounds := int64(0); ; rounds++ {
		next, given := roundByHand(s)
		if given == 0 {
			return s, rounds
		}
		s = next
	}
}

// giveCode tells by hand which code a unit from a cell to another one has, on a valid sheet.
func giveCode(s impl.Sheet, from, to impl.Spot) int64 {
	all := places(s)
	switch {
	case !slices.Contains(all, from) || !slices.Contains(all, to):
		return impl.ErrRange
	case !slices.Contains(besides(s, from), to) || s.Wet[from.Y][from.X] == 0:
		return impl.ErrState
	case s.Wet[to.Y][to.X] == impl.MaxWet:
		return impl.ErrLimit
	}
	return impl.OK
}

func TestP4UnitsOfAllCells(t *testing.T) {
	r := rand.New(rand.NewSource(60))
	codes := map[int64]int{}
	for range 60 {
		s := randomSheet(r)
		for x := int8(-1); x <= s.Wide; x++ {
			for y := int8(-1); y <= s.High; y++ {
				from := spot(x, y)
				for _, to := range []impl.Spot{from, spot(x, y-1), spot(x+1, y), spot(x, y+1), spot(x-1, y), spot(x+1, y+1), spot(x-2, y), spot(x, y+2), someSpot(r)} {
					got, code := impl.GiveUnit(s, from, to)
					want, wantCode := impl.Sheet{}, giveCode(s, from, to)
					if wantCode == impl.OK {
						want = giveByHand(s, from, to)
						checkKept(t, s, got)
					}
					if got != want || code != wantCode {
						t.Fatalf("from %v to %v: code %d, want %d, %+v of %+v", from, to, code, wantCode, got, s)
					}
					codes[code]++
				}
			}
		}
	}
	if len(codes) != 4 {
		t.Errorf("the units had only the codes %v", codes)
	}
}

// checkKept fails the test if ink, water or wax of a sheet is not kept.
func checkKept(t *testing.T, before, after impl.Sheet) {
	t.Helper()
	dye, water := totals(before)
	gotDye, gotWater := totals(after)
	if dye != gotDye || water != gotWater || waxOf(before) != waxOf(after) || !impl.ValidSheet(after) {
		t.Fatalf("got %+v of %+v", after, before)
	}
}

func TestP4WhatGoesWithAUnit(t *testing.T) {
	for _, c := range []struct{ name, before, after string }{
		{"rounded down", "4:7,8,9 0:0,0,0", "3:6,6,7 1:1,2,2"},
		{"less dye than water", "5:4,0,5 0:0,0,0", "4:4,0,4 1:0,0,1"},
		{"all of it with the last water", "1:7,1000,1 0:0,0,0", "0:0,0,0 1:7,1000,1"},
		{"no dye", "3:0,0,0 1:5,5,5", "2:0,0,0 2:5,5,5"},
		{"room for some of it", "2:10,10,10 0:997,995,994", "1:7,5,5 1:1000,1000,999"},
		{"no room", "1:500,3,0 9:1000,998,1000", "0:500,1,0 10:1000,1000,1000"},
		{"up to a wetter one", "1:2,2,2 199:0,0,0", "0:0,0,0 200:2,2,2"},
		{"to one with as much", "6:12,0,0 6:0,1,0", "5:10,0,0 7:2,1,0"},
		{"from the wettest", "200:1000,199,200 0:0,0,0", "199:995,199,199 1:5,0,1"},
	} {
		got, code := impl.GiveUnit(paper(t, c.before), spot(0, 0), spot(1, 0))
		if want := paper(t, c.after); got != want || code != impl.OK {
			t.Errorf("%s: got %q, code %d", c.name, impl.SheetText(got), code)
		}
	}
}

func TestP4CodesOfUnits(t *testing.T) {
	s := pools(t, "3 200 0", "w 5 200")
	bad := s
	bad.Wet[7][7] = 1
	for _, c := range []struct {
		name     string
		s        impl.Sheet
		from, to impl.Spot
		want     int64
	}{
		{"down", s, spot(1, 0), spot(1, 1), impl.OK},
		{"east", s, spot(1, 0), spot(2, 0), impl.OK},
		{"north into dryness", s, spot(2, 1), spot(2, 0), impl.OK},
		{"west into wax", s, spot(1, 1), spot(0, 1), impl.ErrState},
		{"south into wax", s, spot(0, 0), spot(0, 1), impl.ErrState},
		{"out of wax", s, spot(0, 1), spot(0, 0), impl.ErrState},
		{"to itself", s, spot(1, 1), spot(1, 1), impl.ErrState},
		{"over a corner", s, spot(1, 1), spot(2, 0), impl.ErrState},
		{"over a cell", s, spot(0, 0), spot(2, 0), impl.ErrState},
		{"to the row below", s, spot(2, 0), spot(0, 1), impl.ErrState},
		{"of no water", s, spot(2, 0), spot(1, 0), impl.ErrState},
		{"into a full cell", s, spot(0, 0), spot(1, 0), impl.ErrLimit},
		{"state before limit", s, spot(0, 0), spot(2, 1), impl.ErrState},
		{"out of wax into a full cell", pools(t, "w 200"), spot(0, 0), spot(1, 0), impl.ErrState},
		{"no water for a full cell", pools(t, "0 200"), spot(0, 0), spot(1, 0), impl.ErrState},
		{"from no cell", s, spot(3, 0), spot(2, 0), impl.ErrRange},
		{"to no cell", s, spot(2, 0), spot(3, 0), impl.ErrRange},
		{"to no cell of no water", s, spot(0, 0), spot(0, -1), impl.ErrRange},
		{"both none", s, spot(-1, -1), spot(-1, 0), impl.ErrRange},
		{"far away", s, spot(127, 127), spot(-128, -128), impl.ErrRange},
		{"from far away", s, spot(-128, 0), spot(0, 0), impl.ErrRange},
		{"to far away", s, spot(0, 0), spot(0, 127), impl.ErrRange},
		{"sheet that is not valid", bad, spot(3, 0), spot(3, 0), impl.ErrInvalid},
	} {
		if _, got := impl.GiveUnit(c.s, c.from, c.to); got != c.want {
			t.Errorf("%s: code %d, want %d", c.name, got, c.want)
		}
	}
}

func TestP4Rounds(t *testing.T) {
	for _, c := range []struct {
		name          string
		before, after []string
		given         int64
	}{
		{"1 less", []string{"5 4"}, []string{"5 4"}, 0},
		{"2 less", []string{"5 3"}, []string{"4 4"}, 1},
		{"3 less", []string{"5 2"}, []string{"4 3"}, 1},
		{"1 and none", []string{"1 0"}, []string{"1 0"}, 0},
		{"2 and none", []string{"2 0"}, []string{"1 1"}, 1},
		{"north first", []string{"0 0 0", "0 2 0", "0 0 0"}, []string{"0 1 0", "0 1 0", "0 0 0"}, 1},
		{"east second", []string{"0 0 0", "0 3 0", "0 0 0"}, []string{"0 1 0", "0 1 1", "0 0 0"}, 2},
		{"south third", []string{"0 0 0", "0 4 0", "0 0 0"}, []string{"0 1 0", "0 1 1", "0 1 0"}, 3},
		{"west last", []string{"0 0 0", "0 5 0", "0 0 0"}, []string{"0 1 0", "1 1 1", "0 1 0"}, 4},
		{"wax in the north", []string{"0 w 0", "0 2 0", "0 0 0"}, []string{"0 w 0", "0 1 1", "0 0 0"}, 1},
		{"wax in the north and the east", []string{"0 w 0", "0 2 w", "0 0 0"}, []string{"0 w 0", "0 1 w", "0 1 0"}, 1},
		{"way to the west only", []string{"0 w 0", "0 2 w", "0 w 0"}, []string{"0 w 0", "1 1 w", "0 w 0"}, 1},
		{"wax all around", []string{"w w w", "w 200 w", "w w w"}, []string{"w w w", "w 200 w", "w w w"}, 0},
		{"not over wax", []string{"9 w 0"}, []string{"9 w 0"}, 0},
		{"going on to the east", []string{"5 0 0"}, []string{"4 1 0"}, 1},
		{"what came goes on in the same round", []string{"9 1 0"}, []string{"8 1 1"}, 2},
		{"to the west, one cell a round", []string{"0 1 9"}, []string{"0 2 8"}, 1},
		{"what came from the north goes on", []string{"9", "1", "0"}, []string{"8", "1", "1"}, 2},
		{"to the north, one cell a round", []string{"0", "1", "9"}, []string{"0", "2", "8"}, 1},
		{"rows before columns", []string{"0 3", "3 0"}, []string{"2 1", "2 1"}, 3},
		{"one unit each, however much less", []string{"200 0"}, []string{"199 1"}, 1},
		{"as both are then", []string{"3 1 3"}, []string{"2 2 3"}, 1},
	} {
		got, given, code := impl.RunOnce(pools(t, c.before...))
		want := pools(t, c.after...)
		if got != want || given != c.given || code != impl.OK {
			t.Errorf("%s: got %s, given %d, code %d", c.name, waters(got), given, code)
		}
		calm, code := impl.IsCalm(pools(t, c.before...))
		if calm != (c.given == 0) || code != impl.OK {
			t.Errorf("%s: IsCalm is %v, code %d", c.name, calm, code)
		}
	}
}

func TestP4InkOfRounds(t *testing.T) {
	for _, c := range []struct {
		name, before, after string
		given               int64
	}{
		{"with each unit a part", "3:9,10,11 0:0,0,0 0:0,0,0", "2:6,7,8 1:3,3,3 0:0,0,0", 1},
		{"what came goes on with it", "9:9,0,18 1:0,3,0 0:0,0,0", "8:8,0,16 1:1,2,1 1:0,1,1", 2},
		{"what cannot be taken stays", "3:900,0,0 0:999,0,0", "2:899,0,0 1:1000,0,0", 1},
		{"ink without water stays", "0:9,9,9 0:0,0,0", "0:9,9,9 0:0,0,0", 0},
		{"water alone", "4:0,0,0 0:7,7,7", "3:0,0,0 1:7,7,7", 1},
	} {
		got, given, code := impl.RunOnce(paper(t, c.before))
		if want := paper(t, c.after); got != want || given != c.given || code != impl.OK {
			t.Errorf("%s: got %q, given %d, code %d", c.name, impl.SheetText(got), given, code)
		}
	}
}

// TestP4RoundsOfManySheets goes a sheet's rounds one by one, and holds them against rounds made at once.
func TestP4RoundsOfManySheets(t *testing.T) {
	r := rand.New(rand.NewSource(61))
	for range 300 {
		start := randomSheet(r)
		s, sum := start, int64(0)
		for rounds := int64(0); rounds <= 25; rounds++ {
			all, given, code := impl.RunRounds(start, rounds)
			if all != s || given != sum || code != impl.OK {
				t.Fatalf("%d rounds: given %d, want %d, code %d, of %+v", rounds, given, sum, code, start)
			}
			checkKept(t, start, s)
			want, units := roundByHand(s)
			got, given, code := impl.RunOnce(s)
			if got != want || given != units || code != impl.OK {
				t.Fatalf("a round: given %d, want %d, code %d, of %+v", given, units, code, s)
			}
			if calm, code := impl.IsCalm(s); calm != (units == 0) || code != impl.OK {
				t.Fatalf("IsCalm is %v, code %d, of %+v", calm, code, s)
			}
			s, sum = want, sum+units
		}
	}
}

func TestP4RunningUntilAllIsCalm(t *testing.T) {
	r := rand.New(rand.NewSource(62))
	longest := int64(0)
	for range 600 {
		s := randomSheet(r)
		got, rounds, code := impl.RunUntil(s)
		want, wantRounds := untilByHand(s)
		if wantRounds > impl.MaxRounds {
			same(t, "budget", list(got, rounds, code), list(impl.Sheet{}, 0, impl.ErrBudget))
			continue
		}
		if got != want || rounds != wantRounds || code != impl.OK {
			t.Fatalf("%d rounds, want %d, code %d, of %+v", rounds, wantRounds, code, s)
		}
		checkKept(t, s, got)
		if calm, code := impl.IsCalm(got); !calm || code != impl.OK {
			t.Fatalf("not calm: %+v", got)
		}
		same(t, "again", list(impl.RunUntil(got)), list(got, 0, 0))
		longest = max(longest, rounds)
	}
	if longest < 100 {
		t.Errorf("no sheet ran for more than %d rounds", longest)
	}
}

// TestP4MostRounds goes the rounds of a sheet that needs more than MaxRounds, until it needs just so many.
func TestP4MostRounds(t *testing.T) {
	s := maze(18)
	_, left := untilByHand(s)
	if left < impl.MaxRounds+3 {
		t.Fatalf("the sheet runs for %d rounds only", left)
	}
	for ; left >= impl.MaxRounds-2; left-- {
		got, rounds, code := impl.RunUntil(s)
		if left > impl.MaxRounds {
			same(t, "too many", list(left, got, rounds, code), list(left, impl.Sheet{}, 0, impl.ErrBudget))
		} else {
			want, _ := untilByHand(s)
			same(t, "enough", list(left, got, rounds, code), list(left, want, left, 0))
			all, _, code := impl.RunRounds(s, impl.MaxRounds)
			same(t, "at once", list(all, code), list(want, 0))
		}
		s, _ = roundByHand(s)
	}
}

func TestP4CalmAtOnce(t *testing.T) {
	for _, s := range []impl.Sheet{
		pools(t, "0"), pools(t, "200"), pools(t, "0 0", "0 0"), pools(t, "w w", "w w"), pools(t, "200 200", "200 200"),
		pools(t, "1 2 3 4"), pools(t, "200 w 0"), pools(t, "5 w", "w 0"), paper(t, "0:1000,0,0 0:0,0,0"), maze(0), maze(36),
	} {
		got, rounds, c1 := impl.RunUntil(s)
		once, given, c2 := impl.RunOnce(s)
		most, sum, c3 := impl.RunRounds(s, impl.MaxRounds)
		calm, c4 := impl.IsCalm(s)
		same(t, waters(s), list(got, rounds, c1, once, given, c2, most, sum, c3, calm, c4), list(s, 0, 0, s, 0, 0, s, 0, 0, true, 0))
	}
}

func TestP4NumbersOfRounds(t *testing.T) {
	s := pools(t, "9 0")
	bad := pools(t, "9 0", "201 0")
	for _, n := range append([]int64{0, 1, impl.MaxRounds, impl.MaxRounds + 1}, wild...) {
		want := int64(impl.OK)
		if n < 0 || n > impl.MaxRounds {
			want = impl.ErrRange
		}
		_, _, c1 := impl.RunRounds(s, n)
		_, _, c2 := impl.DryRounds(s, n)
		_, c3 := impl.RingCells(s, n)
		_, _, c4 := impl.RunRounds(bad, n)
		_, _, c5 := impl.DryRounds(bad, n)
		_, c6 := impl.RingCells(bad, n)
		same(t, "rounds", list(n, c1, c2, c3, c4, c5, c6), list(n, want, want, want, 1, 1, 1))
	}
	none, given, code := impl.RunRounds(s, 0)
	same(t, "no round", list(none, given, code), list(s, 0, 0))
}
