package tests

import (
	"math"
	"math/rand"
	"slices"
	"testing"

	"loop.example/g01360/impl"
)

// pressByHand presses a fold in plain numbers: what goes over is told by the sheet as it was.
func pressByHand(was impl.Sheet, f impl.Fold) (impl.Sheet, int64) {
	s, moved := was, int64(0)
	for _, pair := range pairsByHand(was, f) {
		for _, way := range [][2]impl.Spot{pair, {pair[1], pair[0]}} {
			from, to := way[0], way[1]
			for ink := range 3 {
				goes := (int(was.Dye[from.Y][from.X][ink]) - int(was.Dye[to.Y][to.X][ink])) * int(f.Press) / 16
				if goes > 0 && was.Wet[from.Y][from.X] > 0 {
					s.Dye[from.Y][from.X][ink] -= int16(goes)
					s.Dye[to.Y][to.X][ink] += int16(goes)
					moved += int64(goes)
				}
			}
			if goes := (int(was.Wet[from.Y][from.X]) - int(was.Wet[to.Y][to.X])) * int(f.Press) / 16; goes > 0 {
				s.Wet[from.Y][from.X] -= int16(goes)
				s.Wet[to.Y][to.X] += int16(goes)
			}
		}
	}
	return s, moved
}

// offByHand returns the sum of all sizes by which dyes of pairs differ, and the greatest one of a single ink.
func offByHand(s impl.Sheet, f impl.Fold) (sum, most int64) {
	for _, pair := range pairsByHand(s, f) {
		for ink := range 3 {
			size := int64(s.Dye[pair[0].Y][pair[0].X][ink]) - int64(s.Dye[pair[1].Y][pair[1].X][ink])
			if size < 0 {
				size = -size
			}
			sum += size
			most = max(most, size)
		}
	}
	return sum, most
}

func TestP6PressesOfManySheets(t *testing.T) {
	r := rand.New(rand.NewSource(95))
	for range 200 {
		s := randomSheet(r)
		for _, f := range allFolds(s) {
			f.Press = int8(1 + r.Intn(8))
			got, moved, code := impl.PressOnce(s, f)
			want, gone := pressByHand(s, f)
			if got != want || moved != gone || code != impl.OK {
				t.Fatalf("%v: moved %d, want %d, code %d, of %+v", f, moved, gone, code, s)
			}
			checkKept(t, s, got)
			checkMirrors(t, s, f)
			// Each unit that goes over brings a pair nearer by 2, so a press makes no sheet less like its mirror.
			before, c1 := impl.OffBy(s, f)
			after, c2 := impl.OffBy(got, f)
			same(t, "nearer", list(f, after, c1, c2), list(f, before-2*moved, 0, 0))
			checkOrderKept(t, s, got, f)
		}
	}
}

// checkMirrors holds the three functions that look how far a sheet is off against numbers made by hand.
func checkMirrors(t *testing.T, s impl.Sheet, f impl.Fold) {
	t.Helper()
	sum, most := offByHand(s, f)
	for _, press := range []int8{1, f.Press, 8} {
		f.Press = press
		off, c1 := impl.OffBy(s, f)
		mirror, c2 := impl.IsMirror(s, f)
		can, c3 := impl.CanBeFolded(s, f)
		same(t, "mirror", list(f, off, c1, mirror, c2, can, c3), list(f, sum, 0, sum == 0, 0, most <= 1, 0))
	}
}

// checkOrderKept fails the test if a cell that had more of an ink than its partner has less behind a press, or is further off.
func checkOrderKept(t *testing.T, before, after impl.Sheet, f impl.Fold) {
	t.Helper()
	for _, pair := range pairsByHand(before, f) {
		for ink := range 3 {
			was := before.Dye[pair[0].Y][pair[0].X][ink] - before.Dye[pair[1].Y][pair[1].X][ink]
			is := after.Dye[pair[0].Y][pair[0].X][ink] - after.Dye[pair[1].Y][pair[1].X][ink]
			if min(was, 0) > is || is > max(was, 0) {
				t.Fatalf("%v: %d of the ink %d has become %d at %v", f, was, ink, is, pair)
			}
		}
	}
}

func TestP6WhatGoesOver(t *testing.T) {
	for _, c := range []struct {
		name, before string
		press        int8
		after        string
		moved        int64
	}{
		{"half, rounded down", "5:9,0,0 0:2,0,0", 8, "3:6,0,0 2:5,0,0", 3},
		{"a sixteenth", "16:16,15,17 0:0,0,0", 1, "15:15,15,16 1:1,0,1", 2},
		{"just not a sixteenth", "15:15,15,15 0:0,0,0", 1, "15:15,15,15 0:0,0,0", 0},
		{"rounded down to 0", "1:1,0,1 0:0,1,0", 8, "1:1,0,1 0:0,1,0", 0},
		{"just 1", "2:2,2,2 0:0,0,0", 8, "1:1,1,1 1:1,1,1", 3},
		{"three sixteenths", "9:100,11,5 3:0,0,0", 3, "8:82,9,5 4:18,2,0", 20},
		{"seven sixteenths", "0:0,3,0 7:5,0,1000", 7, "3:2,3,437 4:3,0,563", 439},
		{"most of all", "200:1000,1000,1000 0:0,0,0", 8, "100:500,500,500 100:500,500,500", 1500},
		{"most of all, by 1", "200:1000,1000,1000 0:0,0,0", 1, "188:938,938,938 12:62,62,62", 186},
		{"from the second one", "0:0,0,0 4:8,0,2", 8, "2:4,0,1 2:4,0,1", 5},
		{"opposite ways", "2:8,0,4 2:0,8,4", 8, "2:4,4,4 2:4,4,4", 8},
		{"ink against the water", "2:9,0,0 10:1,0,0", 8, "6:5,0,0 6:5,0,0", 4},
		{"the one with more is dry", "0:9,0,0 10:1,0,0", 8, "5:9,0,0 5:1,0,0", 0},
		{"the one with less is dry", "10:9,0,0 0:1,0,0", 8, "5:5,0,0 5:5,0,0", 4},
		{"opposite ways, one of them dry", "0:8,0,5 2:0,8,0", 8, "1:8,4,5 1:0,4,0", 4},
		{"both dry", "0:9,8,7 0:0,0,0", 8, "0:9,8,7 0:0,0,0", 0},
		{"dry, and no water that could come", "0:9,0,0 1:0,0,0", 8, "0:9,0,0 1:0,0,0", 0},
		{"water alone", "9:0,0,0 0:0,0,0", 4, "7:0,0,0 2:0,0,0", 0},
		{"as much in both", "7:5,6,7 7:5,6,7", 8, "7:5,6,7 7:5,6,7", 0},
		{"onto wax", "9:9,9,9 w", 8, "9:9,9,9 w", 0},
		{"out of wax", "w 9:9,9,9", 8, "w 9:9,9,9", 0},
		{"two waxed ones", "w w", 8, "w w", 0},
	} {
		f := impl.Fold{Axis: 1, Press: c.press}
		got, moved, code := impl.PressOnce(paper(t, c.before), f)
		if want := paper(t, c.after); got != want || moved != c.moved || code != impl.OK {
			t.Errorf("%s: got %q, moved %d, code %d", c.name, impl.SheetText(got), moved, code)
		}
		f.Down = true
		got, moved, code = impl.PressOnce(turnedByHand(paper(t, c.before)), f)
		if want := turnedByHand(paper(t, c.after)); got != want || moved != c.moved || code != impl.OK {
			t.Errorf("%s, down: got %q, moved %d, code %d", c.name, impl.SheetText(got), moved, code)
		}
	}
}

// turnedByHand exchanges columns and rows.
func turnedByHand(s impl.Sheet) impl.Sheet {
	turned := impl.Sheet{Wide: s.High, High: s.Wide}
	for y := range 8 {
		for x := range 8 {
			turned.Wet[x][y], turned.Dye[x][y] = s.Wet[y][x], s.Dye[y][x]
			turned.Wax[x] |= s.Wax[y] >> x & 1 << y
		}
	}
	return turned
}

func TestP6WherePressesReach(t *testing.T) {
	row := "8:16,0,0 0:0,0,0 0:0,0,0 8:0,8,0"
	for _, c := range []struct {
		name  string
		axis  int8
		after string
		moved int64
	}{
		{"first axis", 1, "4:8,0,0 4:8,0,0 0:0,0,0 8:0,8,0", 8},
		{"in the middle", 2, "8:8,4,0 0:0,0,0 0:0,0,0 8:8,4,0", 12},
		{"last axis", 3, "8:16,0,0 0:0,0,0 4:0,4,0 4:0,4,0", 4},
	} {
		got, moved, code := impl.PressOnce(paper(t, row), impl.Fold{Axis: c.axis, Press: 8})
		same(t, c.name, list(got, moved, code), list(paper(t, c.after), c.moved, 0))
		got, moved, code = impl.PressOnce(turnedByHand(paper(t, row)), impl.Fold{Axis: c.axis, Down: true, Press: 8})
		same(t, c.name, list(got, moved, code), list(turnedByHand(paper(t, c.after)), c.moved, 0))
	}
	s := paper(t, "8:8,0,0 0:0,0,0", "8:0,8,0 w", "0:0,0,6 2:0,0,0")
	got, moved, code := impl.PressOnce(s, impl.Fold{Axis: 1, Press: 8})
	same(t, "rows, each one for itself", list(got, moved, code), list(paper(t, "4:4,0,0 4:4,0,0", "8:0,8,0 w", "1:0,0,6 1:0,0,0"), 4, 0))
	got, moved, code = impl.PressOnce(s, impl.Fold{Axis: 1, Down: true, Press: 8})
	same(t, "columns, each one for itself", list(got, moved, code), list(paper(t, "8:4,4,0 0:0,0,0", "8:4,4,0 w", "0:0,0,6 2:0,0,0"), 8, 0))
}

func TestP6SeveralFolds(t *testing.T) {
	r := rand.New(rand.NewSource(96))
	codes := map[int64]int{}
	for range 800 {
		s := randomSheet(r)
		folds := someFolds(r, s)
		want, sum, wantCode := s, int64(0), int64(impl.OK)
		for _, f := range folds {
			if !impl.ValidFold(s, f) {
				wantCode = impl.ErrRange
				break
			}
			next, moved := pressByHand(want, f)
			want, sum = next, sum+moved
		}
		if len(folds) > impl.MaxFolds {
			wantCode = impl.ErrLimit
		}
		if wantCode != impl.OK {
			want, sum = impl.Sheet{}, 0
		}
		got, moved, code := impl.PressAll(s, folds)
		if got != want || moved != sum || code != wantCode {
			t.Fatalf("%v: moved %d, want %d, code %d, want %d, of %+v", folds, moved, sum, code, wantCode, s)
		}
		if code == impl.OK {
			checkKept(t, s, got)
		}
		codes[code]++
	}
	if len(codes) != 3 || codes[impl.OK] < 200 {
		t.Errorf("the folds had the codes %v", codes)
	}
}

func TestP6NumbersOfFolds(t *testing.T) {
	s := paper(t, "9:900,0,0 0:0,0,7 5:1,2,3")
	v1, v2, none := impl.Fold{Axis: 1, Press: 1}, impl.Fold{Axis: 2, Press: 5}, impl.Fold{Axis: 3, Press: 1}
	bad := s
	bad.Wet[1][0] = 1
	most := slices.Repeat([]impl.Fold{v1, v2}, 15)
	for _, c := range []struct {
		name  string
		s     impl.Sheet
		folds []impl.Fold
		want  int64
	}{
		{"no fold", s, nil, impl.OK},
		{"an empty list", s, []impl.Fold{}, impl.OK},
		{"most folds", s, most, impl.OK},
		{"one more", s, append(slices.Clone(most), v1), impl.ErrLimit},
		{"one more, of which the first is not valid", s, append([]impl.Fold{none}, most...), impl.ErrLimit},
		{"most folds, of which the last is not valid", s, append(slices.Clone(most[1:]), none), impl.ErrRange},
		{"first one not valid", s, []impl.Fold{none, v1}, impl.ErrRange},
		{"down in one row", s, []impl.Fold{v1, {Axis: 1, Down: true, Press: 1}}, impl.ErrRange},
		{"press of 0", s, []impl.Fold{{Axis: 1}}, impl.ErrRange},
		{"press of 9", s, []impl.Fold{{Axis: 1, Press: 9}}, impl.ErrRange},
		{"far off", s, []impl.Fold{{Axis: 127, Press: 127}}, impl.ErrRange},
		{"far off on the other side", s, []impl.Fold{{Axis: -128, Press: -128}}, impl.ErrRange},
		{"invalid before limit and range", bad, append([]impl.Fold{none}, most...), impl.ErrInvalid},
		{"invalid, no fold", bad, nil, impl.ErrInvalid},
	} {
		want, sum := impl.Sheet{}, int64(0)
		if c.want == impl.OK {
			want = c.s
			for _, f := range c.folds {
				next, moved := pressByHand(want, f)
				want, sum = next, sum+moved
			}
		}
		got, moved, code := impl.PressAll(c.s, c.folds)
		same(t, c.name, list(got, moved, code), list(want, sum, c.want))
	}
}

func TestP6MirrorsOfSomeSheets(t *testing.T) {
	for _, c := range []struct {
		name, row   string
		axis        int8
		off         int64
		mirror, can bool
	}{
		{"like", "5:1,2,3 0:1,2,3", 1, 0, true, true},
		{"off by 1", "0:1,2,3 0:1,2,4", 1, 1, false, true},
		{"off by 1 of each ink", "0:1,3,3 0:2,2,4", 1, 3, false, true},
		{"off by 2", "0:1,2,3 0:1,4,3", 1, 2, false, false},
		{"off by 2 the other way", "0:1,2,3 0:1,2,1", 1, 2, false, false},
		{"as dark, by other inks", "0:5,0,0 0:0,5,0", 1, 10, false, false},
		{"waxed partner", "0:5,0,0 w", 1, 0, true, true},
		{"two waxed cells", "w w", 1, 0, true, true},
		{"partner beyond the sheet", "0:0,0,0 0:0,0,0 0:5,5,5", 1, 0, true, true},
		{"several pairs", "0:7,0,0 0:1,0,0 0:0,0,0 0:8,0,0", 2, 2, false, true},
		{"several pairs, one of them off by much", "0:7,0,0 0:1,0,0 0:0,0,0 0:9,0,0", 2, 3, false, false},
		{"most of all", "0:1000,0,1000 0:0,1000,0", 1, 3000, false, false},
		{"water does not matter", "200:1,1,1 0:1,1,1", 1, 0, true, true},
	} {
		for _, down := range []bool{false, true} {
			s := paper(t, c.row)
			if down {
				s = turnedByHand(s)
			}
			f := impl.Fold{Axis: c.axis, Down: down, Press: 3}
			off, c1 := impl.OffBy(s, f)
			mirror, c2 := impl.IsMirror(s, f)
			can, c3 := impl.CanBeFolded(s, f)
			same(t, c.name, list(off, c1, mirror, c2, can, c3), list(c.off, 0, c.mirror, 0, c.can, 0))
		}
	}
}

// TestP6WhatCanBeFolded presses by 8 sheets that are wet everywhere: the dyes stay just where a sheet can be folded.
func TestP6WhatCanBeFolded(t *testing.T) {
	r := rand.New(rand.NewSource(97))
	could := 0
	for range 500 {
		s := randomSheet(r)
		for _, at := range places(s) {
			if !waxedAt(s, at) {
				s.Wet[at.Y][at.X] = max(s.Wet[at.Y][at.X], 1)
			}
		}
		for _, f := range allFolds(s) {
			can, code := impl.CanBeFolded(s, f)
			pressed, _, _ := impl.PressOnce(s, f)
			same(t, "no dye changes", list(can, code), list(pressed.Dye == s.Dye, 0))
			if can {
				could++
			}
		}
	}
	if could < 100 {
		t.Errorf("only %d times a sheet could be folded", could)
	}
}

func TestP6BestFolds(t *testing.T) {
	r := rand.New(rand.NewSource(98))
	for range 300 {
		s := randomSheet(r)
		best, least, code := impl.Fold{}, int64(0), int64(impl.ErrNotFound)
		for _, f := range allFolds(s) {
			if off, _ := offByHand(s, f); code != impl.OK || off < least {
				best, least, code = f, off, impl.OK
			}
		}
		same(t, "best", list(impl.BestFold(s)), list(best, least, code))
	}
	for _, c := range []struct {
		name  string
		s     impl.Sheet
		best  impl.Fold
		least int64
		code  int64
	}{
		{"a single cell", inked("9"), impl.Fold{}, 0, impl.ErrNotFound},
		{"a single waxed cell", inked("w"), impl.Fold{}, 0, impl.ErrNotFound},
		{"a row", paper(t, "0:9,0,0 0:2,0,0 0:0,0,0"), impl.Fold{Axis: 2, Press: 8}, 2, impl.OK},
		{"a column", paper(t, "0:9,0,0", "0:2,0,0", "0:0,0,0"), impl.Fold{Axis: 2, Down: true, Press: 8}, 2, impl.OK},
		{"all alike", paper(t, "0:1,0,0 0:1,0,0", "0:1,0,0 0:1,0,0"), impl.Fold{Axis: 1, Press: 8}, 0, impl.OK},
		{"the first one of several", paper(t, "0:4,0,0 0:0,0,0 0:4,0,0 0:0,0,0"), impl.Fold{Axis: 1, Press: 8}, 4, impl.OK},
		{"the last one", paper(t, "0:3,0,0 0:1,0,0 0:0,0,0 0:1,0,0"), impl.Fold{Axis: 3, Press: 8}, 1, impl.OK},
		{"as good down", paper(t, "0:5,0,0 0:0,0,0", "0:0,0,0 0:0,0,0"), impl.Fold{Axis: 1, Press: 8}, 5, impl.OK},
		{"better down", paper(t, "0:5,0,0 0:0,0,0", "0:5,0,0 0:0,0,0"), impl.Fold{Axis: 1, Down: true, Press: 8}, 0, impl.OK},
		{"wax left away", paper(t, "0:5,0,0 w", "0:1,0,0 0:0,0,0"), impl.Fold{Axis: 1, Press: 8}, 1, impl.OK},
		{"not valid", impl.Sheet{Wide: 1, High: 1, Wax: [8]uint8{2}}, impl.Fold{}, 0, impl.ErrInvalid},
	} {
		same(t, c.name, list(impl.BestFold(c.s)), list(c.best, c.least, c.code))
	}
}

func TestP6PressesUntilAllOffsAreReached(t *testing.T) {
	r := rand.New(rand.NewSource(99))
	for range 150 {
		s := randomSheet(r)
		f := someFold(r, s)
		if !impl.ValidFold(s, f) {
			continue
		}
		now := s
		var offs []int64
		for range impl.MaxFolds + 3 {
			off, _ := offByHand(now, f)
			offs = append(offs, off)
			now, _ = pressByHand(now, f)
		}
		for _, off := range offs {
			for _, asked := range []int64{off - 1, off, off + 1, math.MaxInt64} {
				want, code := leastTimes(offs, asked)
				got, gotCode := impl.PressesUntil(s, f, asked)
				same(t, "presses", list(f, asked, got, gotCode), list(f, asked, want, code))
			}
		}
	}
}

// leastTimes tells by all offs behind so many presses how many are needed.
func leastTimes(offs []int64, asked int64) (int64, int64) {
	if asked < 0 {
		return 0, impl.ErrRange
	}
	for times := range impl.MaxFolds + 1 {
		if offs[times] <= asked {
			return int64(times), impl.OK
		}
	}
	return 0, impl.ErrNotFound
}

func TestP6PressesUntilSomeOffs(t *testing.T) {
	v1, v8 := impl.Fold{Axis: 1, Press: 1}, impl.Fold{Axis: 1, Press: 8}
	slow := paper(t, "200:1000,0,0 200:0,0,0")
	last, left := slow, int64(0)
	for range impl.MaxFolds {
		last, _ = pressByHand(last, v1)
	}
	left, _ = offByHand(last, v1)
	if after, _ := pressByHand(last, v1); after.Dye == last.Dye {
		t.Fatal("nothing goes over behind the last press")
	}
	bad := slow
	bad.Wide = 9
	for _, c := range []struct {
		name        string
		s           impl.Sheet
		f           impl.Fold
		off         int64
		times, code int64
	}{
		{"at once", paper(t, "5:9,0,0 0:2,0,0"), v8, 7, 0, impl.OK},
		{"at once, more asked than off", paper(t, "5:9,0,0 0:2,0,0"), v8, math.MaxInt64, 0, impl.OK},
		{"one press", paper(t, "5:9,0,0 0:2,0,0"), v8, 6, 1, impl.OK},
		{"one press, down to 1", paper(t, "5:9,0,0 0:2,0,0"), v8, 1, 1, impl.OK},
		{"an odd sum never comes to 0", paper(t, "5:9,0,0 0:2,0,0"), v8, 0, 0, impl.ErrNotFound},
		{"an even sum does", paper(t, "5:9,0,0 0:3,0,0"), v8, 0, 1, impl.OK},
		{"a mirror", paper(t, "0:3,3,3 0:3,3,3"), v8, 0, 0, impl.OK},
		{"no pair", paper(t, "0:3,3,3 w"), v8, 0, 0, impl.OK},
		{"no water", paper(t, "0:9,0,0 0:0,0,0"), v8, 8, 0, impl.ErrNotFound},
		{"water comes first, then ink goes", paper(t, "0:9,0,0 2:1,0,0"), v8, 0, 2, impl.OK},
		{"most presses", slow, v1, left, impl.MaxFolds, impl.OK},
		{"one more would be needed", slow, v1, left - 1, 0, impl.ErrNotFound},
		{"less than 16 stays", paper(t, "9:15,0,0 9:0,0,0"), v1, 14, 0, impl.ErrNotFound},
		{"off less than 0", slow, v8, -1, 0, impl.ErrRange},
		{"off far less than 0", slow, v8, math.MinInt64, 0, impl.ErrRange},
		{"range before not found", paper(t, "0:9,0,0 0:0,0,0"), impl.Fold{Axis: 2, Press: 8}, 0, 0, impl.ErrRange},
		{"fold that would never reach it", paper(t, "0:9,0,0 0:0,0,0"), impl.Fold{Axis: 1}, 0, 0, impl.ErrRange},
		{"invalid before range", bad, impl.Fold{}, -1, 0, impl.ErrInvalid},
	} {
		times, code := impl.PressesUntil(c.s, c.f, c.off)
		same(t, c.name, list(times, code), list(c.times, c.code))
	}
}

func TestP6EvenedOutSheets(t *testing.T) {
	r := rand.New(rand.NewSource(100))
	for range 200 {
		s := randomSheet(r)
		for _, f := range allFolds(s) {
			f.Press = int8(1 + r.Intn(8))
			want := s
			for _, pair := range pairsByHand(s, f) {
				one, other := &want.Dye[pair[0].Y][pair[0].X], &want.Dye[pair[1].Y][pair[1].X]
				for ink := range 3 {
					for one[ink] > other[ink]+1 {
						one[ink], other[ink] = one[ink]-1, other[ink]+1
					}
					for one[ink] < other[ink] {
						one[ink], other[ink] = one[ink]+1, other[ink]-1
					}
				}
			}
			got, code := impl.EvenOut(s, f)
			if got != want || code != impl.OK {
				t.Fatalf("%v: %+v, code %d, of %+v", f, got, code, s)
			}
			checkKept(t, s, got)
			can, c1 := impl.CanBeFolded(got, f)
			again, c2 := impl.EvenOut(got, f)
			same(t, "evened out", list(can, c1, again, c2, got.Wet), list(true, 0, got, 0, s.Wet))
		}
	}
}

func TestP6EvenedOutPairs(t *testing.T) {
	for _, c := range []struct{ name, before, after string }{
		{"even sums", "3:4,0,7 0:0,2,1", "3:2,1,4 0:2,1,4"},
		{"odd sums", "0:4,0,8 0:1,1,1", "0:3,1,5 0:2,0,4"},
		{"odd sums, more in the second one", "0:0,1,3 0:1,2,8", "0:1,2,6 0:0,1,5"},
		{"no water is needed, and none goes", "0:9,0,0 200:1,0,0", "0:5,0,0 200:5,0,0"},
		{"most of both", "0:1000,1000,0 0:1000,999,1000", "0:1000,1000,500 0:1000,999,500"},
		{"most in the second one", "0:999,0,0 0:1000,1,0", "0:1000,1,0 0:999,0,0"},
		{"wax", "5:9,9,9 w", "5:9,9,9 w"},
	} {
		got, code := impl.EvenOut(paper(t, c.before), impl.Fold{Axis: 1, Press: 1})
		if want := paper(t, c.after); got != want || code != impl.OK {
			t.Errorf("%s: got %q, code %d", c.name, impl.SheetText(got), code)
		}
		got, code = impl.EvenOut(turnedByHand(paper(t, c.before)), impl.Fold{Axis: 1, Down: true, Press: 8})
		if want := turnedByHand(paper(t, c.after)); got != want || code != impl.OK {
			t.Errorf("%s, down: got %q, code %d", c.name, impl.SheetText(got), code)
		}
	}
}
