package tests

import (
	"math/rand"
	"slices"
	"testing"

	"loop.example/g01360/impl"
)

// wildBytes holds numbers of folds beyond their limits, and those whose doubles would overflow.
var wildBytes = []int8{-128, -127, -65, -64, -63, -8, -1, 0, 8, 9, 16, 63, 64, 65, 126, 127}

// allFolds returns all folds of a sheet with the greatest press, those between columns first.
func allFolds(s impl.Sheet) []impl.Fold {
	var folds []impl.Fold
	for axis := 1; axis < int(s.Wide); axis++ {
		folds = append(folds, impl.Fold{Axis: int8(axis), Press: 8})
	}
	for axis := 1; axis < int(s.High); axis++ {
		folds = append(folds, impl.Fold{Axis: int8(axis), Down: true, Press: 8})
	}
	return folds
}

// someFold returns a fold, mostly one that is valid for the sheet.
func someFold(r *rand.Rand, s impl.Sheet) impl.Fold {
	f := impl.Fold{Axis: int8(1 + r.Intn(7)), Down: r.Intn(2) == 0, Press: int8(1 + r.Intn(8))}
	if folds := allFolds(s); len(folds) > 0 && len(folds) < 15 && r.Intn(4) > 0 {
		press := f.Press
		f = folds[r.Intn(len(folds))]
		f.Press = press
	}
	switch r.Intn(8) {
	case 0:
		f.Axis = wildBytes[r.Intn(len(wildBytes))]
	case 1:
		f.Press = wildBytes[r.Intn(len(wildBytes))]
	}
	return f
}

// someFolds returns up to one fold more than the limit.
func someFolds(r *rand.Rand, s impl.Sheet) []impl.Fold {
	folds := make([]impl.Fold, oneOf(r, 0, 1, 1, 2, 3, 5, r.Intn(impl.MaxFolds), impl.MaxFolds, impl.MaxFolds+1))
	good := r.Intn(3) > 0
	for i := range folds {
		folds[i] = someFold(r, s)
		if all := allFolds(s); good && len(all) > 0 && len(all) < 15 {
			folds[i] = all[r.Intn(len(all))]
		}
	}
	return folds
}

// pairsByHand goes away from a fold on both sides, and sorts the pairs that it finds.
func pairsByHand(s impl.Sheet, f impl.Fold) [][2]impl.Spot {
	var pairs [][2]impl.Spot
	for far := range int8(8) {
		for along := range int8(8) {
			first, second := spot(f.Axis-1-far, along), spot(f.Axis+far, along)
			if f.Down {
				first, second = spot(along, f.Axis-1-far), spot(along, f.Axis+far)
			}
			all := places(s)
			if slices.Contains(all, first) && slices.Contains(all, second) && !waxedAt(s, first) && !waxedAt(s, second) {
				pairs = append(pairs, [2]impl.Spot{first, second})
			}
		}
	}
	slices.SortFunc(pairs, func(a, b [2]impl.Spot) int {
		return 8*int(a[0].Y-b[0].Y) + int(a[0].X-b[0].X)
	})
	return pairs
}

func TestFoldsThatAreValid(t *testing.T) {
	for _, s := range []impl.Sheet{{Wide: 1, High: 1}, {Wide: 1, High: 8}, {Wide: 8, High: 1}, {Wide: 3, High: 5}, {Wide: 8, High: 8}, {}, {Wide: 9, High: 3}, {Wide: -3, High: 3}} {
		for axis := -128; axis < 128; axis++ {
			for press := -128; press < 128; press++ {
				for _, down := range []bool{false, true} {
					side := int(s.Wide)
					if down {
						side = int(s.High)
					}
					want := axis > 0 && axis < side && press > 0 && press < 9 && s.Wide > 0 && s.Wide < 9
					if got := impl.ValidFold(s, impl.Fold{Axis: int8(axis), Down: down, Press: int8(press)}); got != want {
						t.Fatalf("%d %v %d: %v, of %d x %d", axis, down, press, got, s.Wide, s.High)
					}
				}
			}
		}
	}
	r := rand.New(rand.NewSource(90))
	for range 500 {
		if s := brokenSheet(r); impl.ValidFold(s, impl.Fold{Axis: 1, Press: 1}) || impl.ValidFold(s, impl.Fold{Axis: 1, Down: true, Press: 1}) {
			t.Fatalf("a fold is valid for a sheet that is not: %+v", s)
		}
	}
}

// TestCodesOfFolds gives folds that are valid and others to all functions that take one.
func TestCodesOfFolds(t *testing.T) {
	r := rand.New(rand.NewSource(91))
	codes := map[int64]int{}
	for range 3000 {
		s := randomSheet(r)
		f := someFold(r, s)
		want := int64(impl.OK)
		if !impl.ValidFold(s, f) {
			want = impl.ErrRange
		}
		_, c1 := impl.PairsOf(s, f)
		_, _, c2 := impl.PressOnce(s, f)
		_, _, c3 := impl.PressAll(s, []impl.Fold{f, f})
		_, c4 := impl.OffBy(s, f)
		_, c5 := impl.IsMirror(s, f)
		_, c6 := impl.CanBeFolded(s, f)
		_, c7 := impl.PressesUntil(s, f, 1<<40)
		_, c8 := impl.EvenOut(s, f)
		_, c9 := impl.HalfOf(s, f)
		same(t, "codes", list(f, c1, c2, c3, c4, c5, c6, c7, c8, c9), list(f, want, want, want, want, want, want, want, want, want))
		codes[want]++
	}
	if len(codes) != 2 || codes[impl.OK] < 500 || codes[impl.ErrRange] < 500 {
		t.Errorf("the folds had the codes %v", codes)
	}
}

func TestPartnersOfAllCells(t *testing.T) {
	r := rand.New(rand.NewSource(92))
	codes := map[int64]int{}
	for range 50 {
		s := randomSheet(r)
		for _, f := range append(allFolds(s), someFold(r, s), someFold(r, s), impl.Fold{Axis: 1, Press: 9}) {
			for x := int8(-2); x <= 9; x++ {
				for y := int8(-2); y <= 9; y++ {
					at := spot(x, y)
					want, wantCode := impl.Spot{}, int64(impl.ErrRange)
					if impl.ValidFold(s, f) && slices.Contains(places(s), at) {
						want, wantCode = partnerByHand(s, f, at)
					}
					got, code := impl.PartnerOf(s, f, at)
					if got != want || code != wantCode {
						t.Fatalf("%v of %v: got %v, code %d, want %v, code %d, on %d x %d", at, f, got, code, want, wantCode, s.Wide, s.High)
					}
					codes[code]++
				}
			}
		}
	}
	if len(codes) != 3 {
		t.Errorf("the cells had only the codes %v", codes)
	}
}

// partnerByHand looks for the cell that is as far from the fold, on its other side; wax does not matter.
func partnerByHand(s impl.Sheet, f impl.Fold, at impl.Spot) (impl.Spot, int64) {
	for _, pair := range pairsByHand(impl.Sheet{Wide: s.Wide, High: s.High}, f) {
		if pair[0] == at {
			return pair[1], impl.OK
		}
		if pair[1] == at {
			return pair[0], impl.OK
		}
	}
	return impl.Spot{}, impl.ErrNotFound
}

func TestPartnersOfSomeCells(t *testing.T) {
	s := pools(t, "0 w 0 0", "0 0 0 w", "5 0 0 0")
	bad := pools(t, "0 0 0 0", "0 0 0 0", "0 0 0 201")
	v1, v3 := impl.Fold{Axis: 1, Press: 1}, impl.Fold{Axis: 3, Press: 8}
	h1, h2 := impl.Fold{Axis: 1, Down: true, Press: 4}, impl.Fold{Axis: 2, Down: true, Press: 4}
	for _, c := range []struct {
		name     string
		s        impl.Sheet
		f        impl.Fold
		at, want impl.Spot
		code     int64
	}{
		{"beside the fold", s, v1, spot(0, 2), spot(1, 2), impl.OK},
		{"behind the fold", s, v1, spot(1, 2), spot(0, 2), impl.OK},
		{"waxed partner", s, v1, spot(0, 0), spot(1, 0), impl.OK},
		{"waxed cell", s, v3, spot(3, 1), spot(2, 1), impl.OK},
		{"beyond the west", s, v1, spot(2, 0), impl.Spot{}, impl.ErrNotFound},
		{"beyond the east", s, v3, spot(1, 2), impl.Spot{}, impl.ErrNotFound},
		{"down", s, h1, spot(3, 0), spot(3, 1), impl.OK},
		{"up", s, h2, spot(3, 2), spot(3, 1), impl.OK},
		{"beyond the south", s, h2, spot(0, 0), impl.Spot{}, impl.ErrNotFound},
		{"beyond the north", s, h1, spot(0, 2), impl.Spot{}, impl.ErrNotFound},
		{"no cell", s, v1, spot(4, 0), impl.Spot{}, impl.ErrRange},
		{"no cell in the north", s, h1, spot(0, -1), impl.Spot{}, impl.ErrRange},
		{"no cell far away", s, h1, spot(127, 127), impl.Spot{}, impl.ErrRange},
		{"no cell far away in the west", s, v1, spot(-128, 0), impl.Spot{}, impl.ErrRange},
		{"fold at the edge", s, impl.Fold{Axis: 4, Press: 1}, spot(0, 0), impl.Spot{}, impl.ErrRange},
		{"fold with which the partner would be beyond", s, impl.Fold{Axis: 3, Press: 9}, spot(0, 0), impl.Spot{}, impl.ErrRange},
		{"invalid before the others", bad, impl.Fold{Axis: 99}, spot(9, 9), impl.Spot{}, impl.ErrInvalid},
	} {
		got, code := impl.PartnerOf(c.s, c.f, c.at)
		same(t, c.name, list(got, code), list(c.want, c.code))
	}
}

func TestPairsOfManySheets(t *testing.T) {
	r := rand.New(rand.NewSource(93))
	for range 300 {
		s := randomSheet(r)
		for _, f := range allFolds(s) {
			f.Press = int8(1 + r.Intn(8))
			got, code := impl.PairsOf(s, f)
			same(t, "pairs", list(f, got, code), list(f, pairsByHand(s, f), 0))
			for _, pair := range got {
				one, c1 := impl.PartnerOf(s, f, pair[0])
				other, c2 := impl.PartnerOf(s, f, pair[1])
				same(t, "partners", list(one, c1, other, c2), list(pair[1], 0, pair[0], 0))
			}
		}
	}
}

func TestPairsOfSomeSheets(t *testing.T) {
	for _, c := range []struct {
		name string
		rows []string
		f    impl.Fold
		want [][2]impl.Spot
	}{
		{"one row, in the west", []string{"0 0 0 0"}, impl.Fold{Axis: 1, Press: 8}, [][2]impl.Spot{{spot(0, 0), spot(1, 0)}}},
		{"one row, in the middle", []string{"0 0 0 0"}, impl.Fold{Axis: 2, Press: 8}, [][2]impl.Spot{{spot(0, 0), spot(3, 0)}, {spot(1, 0), spot(2, 0)}}},
		{"one row, in the east", []string{"0 0 0 0"}, impl.Fold{Axis: 3, Press: 1}, [][2]impl.Spot{{spot(2, 0), spot(3, 0)}}},
		{"one column", []string{"0", "0", "0"}, impl.Fold{Axis: 1, Down: true, Press: 8}, [][2]impl.Spot{{spot(0, 0), spot(0, 1)}}},
		{"rows behind each other", []string{"0 0", "0 0"}, impl.Fold{Axis: 1, Press: 8}, [][2]impl.Spot{{spot(0, 0), spot(1, 0)}, {spot(0, 1), spot(1, 1)}}},
		{"down, by row first", []string{"0 0", "0 0", "0 0", "0 0"}, impl.Fold{Axis: 2, Down: true, Press: 8},
			[][2]impl.Spot{{spot(0, 0), spot(0, 3)}, {spot(1, 0), spot(1, 3)}, {spot(0, 1), spot(0, 2)}, {spot(1, 1), spot(1, 2)}}},
		{"first waxed", []string{"w 0", "0 0"}, impl.Fold{Axis: 1, Press: 8}, [][2]impl.Spot{{spot(0, 1), spot(1, 1)}}},
		{"second waxed", []string{"0 0", "0 w"}, impl.Fold{Axis: 1, Press: 8}, [][2]impl.Spot{{spot(0, 0), spot(1, 0)}}},
		{"both waxed", []string{"0 0", "w w"}, impl.Fold{Axis: 1, Press: 8}, [][2]impl.Spot{{spot(0, 0), spot(1, 0)}}},
		{"all waxed in turns", []string{"w 0", "0 w"}, impl.Fold{Axis: 1, Down: true, Press: 8}, nil},
	} {
		got, code := impl.PairsOf(pools(t, c.rows...), c.f)
		same(t, c.name, list(got, code), list(c.want, 0))
	}
}

func TestFoldsOfAllSizes(t *testing.T) {
	for wide := int8(1); wide <= 8; wide++ {
		for high := int8(1); high <= 8; high++ {
			s := impl.Sheet{Wide: wide, High: high, Wax: [8]uint8{1}}
			folds, code := impl.FoldsOf(s)
			same(t, "folds", list(folds, code), list(allFolds(s), 0))
			if len(folds) != int(wide+high)-2 {
				t.Errorf("%d folds of %d x %d", len(folds), wide, high)
			}
		}
	}
}
