package tests

import (
	"math/rand"
	"testing"

	"loop.example/g01360/impl"
)

// dryByHand makes a round of drying, and tells how much water has gone.
func dryByHand(s impl.Sheet) (impl.Sheet, int64) {
	after, gone := s, int64(0)
	for _, at := range places(s) {
		for _, next := range append(besides(s, at), at) {
			if next != at && s.Wet[next.Y][next.X] != 0 || after.Wet[at.Y][at.X] == 0 {
				continue
			}
			after.Wet[at.Y][at.X]--
			gone++
		}
	}
	return after, gone
}

// ringsByHand dries a sheet, and notes behind each round which cells have become dry.
func ringsByHand(s impl.Sheet) (impl.Rings, int64) {
	rings := impl.Rings{}
	for y := range rings {
		for x := range rings[y] {
			rings[y][x] = -1
		}
	}
	for _, at := range places(s) {
		if !waxedAt(s, at) && s.Wet[at.Y][at.X] == 0 {
			rings[at.Y][at.X] = 0
		}
	}
	for round := int64(1); ; round++ {
		next, gone := dryByHand(s)
		if gone == 0 {
			return rings, round - 1
		}
		for _, at := range places(s) {
			if s.Wet[at.Y][at.X] > 0 && next.Wet[at.Y][at.X] == 0 {
				rings[at.Y][at.X] = int16(round)
			}
		}
		s = next
	}
}

func TestP5RoundsOfDrying(t *testing.T) {
	for _, c := range []struct {
		name          string
		before, after []string
		gone          int64
	}{
		{"one cell", []string{"7"}, []string{"6"}, 1},
		{"one cell, last water", []string{"1"}, []string{"0"}, 1},
		{"no water", []string{"0 0", "w 0"}, []string{"0 0", "w 0"}, 0},
		{"beside a dry cell", []string{"7 0"}, []string{"5 0"}, 2},
		{"beside wax", []string{"7 w"}, []string{"6 w"}, 1},
		{"beside water", []string{"7 1"}, []string{"6 0"}, 2},
		{"dry cells all around", []string{"0 0 0", "0 9 0", "0 0 0"}, []string{"0 0 0", "0 4 0", "0 0 0"}, 5},
		{"dry at corners only", []string{"0 9 0", "9 9 9", "0 9 0"}, []string{"0 6 0", "6 8 6", "0 6 0"}, 13},
		{"not more than there is", []string{"0 0 0", "0 3 0", "0 0 0"}, []string{"0 0 0", "0 0 0", "0 0 0"}, 3},
		{"just what there is", []string{"0 0 0", "0 5 0", "0 0 0"}, []string{"0 0 0", "0 0 0", "0 0 0"}, 5},
		{"all at once", []string{"1 1 1 1"}, []string{"0 0 0 0"}, 4},
		{"as at the beginning", []string{"0 1 3 3"}, []string{"0 0 2 2"}, 3},
		{"as at the beginning, backward", []string{"3 3 1 0"}, []string{"2 2 0 0"}, 3},
		{"downward", []string{"0", "1", "3", "3"}, []string{"0", "0", "2", "2"}, 3},
		{"two waxed sides", []string{"w 9", "9 w"}, []string{"w 8", "8 w"}, 2},
		{"full", []string{"200 200", "200 200"}, []string{"199 199", "199 199"}, 4},
	} {
		got, gone, code := impl.DryStep(pools(t, c.before...))
		if want := pools(t, c.after...); got != want || gone != c.gone || code != impl.OK {
			t.Errorf("%s: got %s, gone %d, code %d", c.name, waters(got), gone, code)
		}
	}
}

func TestP5DryingKeepsInkAndCountsWater(t *testing.T) {
	r := rand.New(rand.NewSource(70))
	for range 300 {
		start := randomSheet(r)
		s, sum := start, int64(0)
		for rounds := int64(0); rounds <= 30; rounds++ {
			all, gone, code := impl.DryRounds(start, rounds)
			if all != s || gone != sum || code != impl.OK {
				t.Fatalf("%d rounds: gone %d, want %d, code %d, of %+v", rounds, gone, sum, code, start)
			}
			_, before := totals(start)
			if _, after := totals(all); all.Dye != start.Dye || all.Wax != start.Wax || before != after+gone {
				t.Fatalf("%d rounds: %+v of %+v", rounds, all, start)
			}
			want, lost := dryByHand(s)
			got, gone, code := impl.DryStep(s)
			if got != want || gone != lost || code != impl.OK {
				t.Fatalf("a round: gone %d, want %d, code %d, of %+v", gone, lost, code, s)
			}
			s, sum = want, sum+lost
		}
	}
}

func TestP5AllRoundsOfDrying(t *testing.T) {
	for _, s := range []impl.Sheet{pools(t, "200 200", "200 w"), maze(36), maze(0), pools(t, "200"), pools(t, "0 200 0"), pools(t, "w")} {
		_, water := totals(s)
		got, gone, code := impl.DryRounds(s, impl.MaxRounds)
		same(t, waters(s), list(got, gone, code), list(waxOf(s), water, 0))
		none, gone, code := impl.DryRounds(s, 0)
		same(t, waters(s), list(none, gone, code), list(s, 0, 0))
	}
}

// checkRings holds rings against the rounds of drying themselves: each cell has water up to its ring, and none from it on.
func checkRings(t *testing.T, s impl.Sheet, rings impl.Rings) {
	t.Helper()
	last := int64(0)
	for y := range rings {
		for x := range rings[y] {
			last = max(last, int64(rings[y][x]))
		}
	}
	for round := int64(0); round <= last; round++ {
		dried, _, _ := impl.DryRounds(s, round)
		var done []impl.Spot
		for y := range rings {
			for x := range rings[y] {
				at := spot(int8(x), int8(y))
				inside := at.X < s.Wide && at.Y < s.High && !waxedAt(s, at)
				if inside != (rings[y][x] >= 0) || inside && (dried.Wet[y][x] == 0) != (int64(rings[y][x]) <= round) {
					t.Fatalf("ring %d of %v, behind round %d: %+v", rings[y][x], at, round, s)
				}
				if int64(rings[y][x]) == round {
					done = append(done, at)
				}
			}
		}
		cells, code := impl.RingCells(s, round)
		same(t, "cells of a ring", list(cells, code), list(done, 0))
	}
	in, code := impl.DriesIn(s)
	same(t, "dries in", list(in, code), list(last, 0))
	for _, round := range []int64{last + 1, impl.MaxRounds} {
		cells, code := impl.RingCells(s, round)
		same(t, "no cells", list(len(cells), code), list(0, 0))
	}
}

func TestP5RingsTellWhenCellsAreDry(t *testing.T) {
	r := rand.New(rand.NewSource(71))
	for range 200 {
		s := randomSheet(r)
		rings, code := impl.RingsOf(s)
		want, last := ringsByHand(s)
		if rings != want || code != impl.OK {
			t.Fatalf("got %v, want %v, code %d, of %+v", rings, want, code, s)
		}
		checkRings(t, s, rings)
		checkLast(t, s, rings, last)
	}
}

// checkLast holds the cell that is wet longest against the rings.
func checkLast(t *testing.T, s impl.Sheet, rings impl.Rings, last int64) {
	t.Helper()
	want := list(impl.Spot{}, 0, impl.ErrNotFound)
	for _, at := range places(s) {
		if last > 0 && int64(rings[at.Y][at.X]) == last {
			want = list(at, last, 0)
			break
		}
	}
	same(t, "last", list(impl.LastWet(s)), want)
}

func TestP5Rings(t *testing.T) {
	for _, c := range []struct {
		name  string
		s     impl.Sheet
		rings string
		at    impl.Spot
		last  int64
		code  int64
	}{
		{"together", pools(t, "2 2 2"), "2 2 2\n", spot(0, 0), 2, 0},
		{"hill", pools(t, "0 5 0"), "0 2 0\n", spot(1, 0), 2, 0},
		{"one by one", pools(t, "1 3 5"), "1 2 4\n", spot(2, 0), 4, 0},
		{"longest beside wax", pools(t, "1 0 3", "w w 0", "3 w 3"), "1 0 1\n- - 0\n3 - 2\n", spot(0, 2), 3, 0},
		{"first of several", pools(t, "1 0 4 0 w 0 3"), "1 0 2 0 - 0 2\n", spot(2, 0), 2, 0},
		{"first in its row", pools(t, "3 0 3"), "2 0 2\n", spot(0, 0), 2, 0},
		{"upper row first", pools(t, "0 0 1", "1 0 0"), "0 0 1\n1 0 0\n", spot(2, 0), 1, 0},
		{"nothing", pools(t, "0 w"), "0 -\n", spot(0, 0), 0, impl.ErrNotFound},
		{"wax alone", pools(t, "w", "w"), "-\n-\n", spot(0, 0), 0, impl.ErrNotFound},
		{"longest of all", pools(t, "200"), "200\n", spot(0, 0), 200, 0},
		{"longest among wax", pools(t, "w 200", "200 w"), "- 200\n200 -\n", spot(1, 0), 200, 0},
		{"all are full", pools(t, "200 200", "200 200"), "200 200\n200 200\n", spot(0, 0), 200, 0},
		{"wetter is not longer", pools(t, "w 8 w 6 0 6", "w w w w 0 0"), "- 8 - 3 0 2\n- - - - 0 0\n", spot(1, 0), 8, 0},
	} {
		rings, code := impl.RingsOf(c.s)
		same(t, c.name, list(impl.RingsText(c.s, rings), code), list(c.rings, 0))
		same(t, c.name, list(impl.LastWet(c.s)), list(c.at, c.last, c.code))
		same(t, c.name, list(impl.DriesIn(c.s)), list(c.last, 0))
		checkRings(t, c.s, rings)
	}
}

// TestP5LongestIsNotWettest has a wet cell among dry ones, and a less wet one among waxed ones.
func TestP5LongestIsNotWettest(t *testing.T) {
	s := pools(t, "9 0 5", "0 w w")
	same(t, "longest", list(impl.LastWet(s)), list(spot(0, 0), 3, 0))
	s = pools(t, "9 0 w", "0 w 5")
	same(t, "longest", list(impl.LastWet(s)), list(spot(2, 1), 5, 0))
	same(t, "wettest", list(impl.WettestCell(s)), list(spot(0, 0), 9, 0))
}

func TestP5RunningAndDryingInTurns(t *testing.T) {
	r := rand.New(rand.NewSource(72))
	for i := range 300 {
		s := randomSheet(r)
		if i < 37 {
			s = maze(i)
		}
		want, turns := s, int64(0)
		for {
			if _, water := totals(want); water == 0 {
				break
			}
			want, _ = roundByHand(want)
			want, _ = dryByHand(want)
			turns++
		}
		got, rounds, code := impl.RunAndDry(s)
		if got != want || rounds != turns || code != impl.OK {
			t.Fatalf("%d rounds, want %d, code %d, of %+v", rounds, turns, code, s)
		}
		before, _ := totals(s)
		after, water := totals(got)
		same(t, "kept", list(after, water, got.Wax), list(before, 0, s.Wax))
	}
}

func TestP5RunningComesFirst(t *testing.T) {
	for _, c := range []struct {
		name, before, after string
		rounds              int64
	}{
		{"no water", "0:5,0,0 0:0,0,0", "0:5,0,0 0:0,0,0", 0},
		{"wax alone", "w w", "w w", 0},
		{"one unit stays", "1:5,0,0 0:0,0,0", "0:5,0,0 0:0,0,0", 1},
		{"runs before it dries", "2:5,0,0 0:0,0,0", "0:3,0,0 0:2,0,0", 1},
		{"runs again", "4:8,0,0 0:0,0,0 0:0,0,0", "0:3,0,0 0:5,0,0 0:0,0,0", 2},
		{"dries among wax", "3:1,2,3 w", "0:1,2,3 w", 3},
	} {
		got, rounds, code := impl.RunAndDry(paper(t, c.before))
		if want := paper(t, c.after); got != want || rounds != c.rounds || code != impl.OK {
			t.Errorf("%s: got %q, %d rounds, code %d", c.name, impl.SheetText(got), rounds, code)
		}
	}
}
