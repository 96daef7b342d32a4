package tests

import (
	"math"
	"math/rand"
	"slices"
	"testing"

	"loop.example/g01360/impl"
)

// faintest returns how dark the faintest cell of a path is that is not waxed; more than can be if all are.
func faintest(s impl.Sheet, path []impl.Spot) int64 {
	least := int64(3*impl.MaxDye + 1)
	for _, at := range path {
		if !waxedAt(s, at) {
			least = min(least, darkOf(s, at))
		}
	}
	return least
}

func leastShareByHand(s impl.Sheet, b impl.Brush, path []impl.Spot, least int64) (int64, int64) {
	for _, share := range []int8{1, 2, 3, 4, 5, 6, 7, 8, 9, 10, 11, 12, 13, 14, 15, 16} {
		b.Share = share
		if after, _ := strokeByHand(s, b, path); faintest(after, path) >= least {
			return int64(share), 0
		}
	}
	return 0, impl.ErrNotFound
}

func sumLeft(s impl.Sheet, b impl.Brush, at impl.Spot) int64 {
	dye, _ := leaveByHand(s, b, at)
	return dye[0] + dye[1] + dye[2]
}

func dipsByHand(s impl.Sheet, given impl.Brush, path []impl.Spot, least int64) ([]int64, int64) {
	dips, b := []int64{}, given
	for i, at := range path {
		if !waxedAt(s, at) && sumLeft(s, b, at) < least {
			b = given
			dips = append(dips, int64(i))
		}
		if !waxedAt(s, at) && sumLeft(s, b, at) < least {
			return nil, impl.ErrNotFound
		}
		s, b = strokeByHand(s, b, []impl.Spot{at})
	}
	return dips, 0
}

// paleSheet returns a sheet whose cells have little dye, so that it matters what a brush leaves.
func paleSheet(r *rand.Rand) impl.Sheet {
	s := waxOf(randomSheet(r))
	if r.Intn(2) == 0 {
		return s
	}
	for _, at := range places(s) {
		if !waxedAt(s, at) {
			s.Dye[at.Y][at.X][r.Intn(3)] = int16(oneOf(r, 0, r.Intn(9), 0, 1000-r.Intn(9)))
		}
	}
	return s
}

func TestP9LeastSharesOfManySheets(t *testing.T) {
	r := rand.New(rand.NewSource(130))
	found := map[int64]int{}
	for range 2000 {
		s, b := paleSheet(r), randomBrush(r)
		path := randomPath(r, s)
		with := b
		with.Share = int8(1 + r.Intn(16))
		after, _ := strokeByHand(s, with, path)
		// What just can be had with some share, and one more.
		for _, least := range []int64{faintest(after, path), faintest(after, path) + 1} {
			least = min(max(least, 1), 3000)
			got, code := impl.LeastShare(s, b, path, least)
			want, is := leastShareByHand(s, b, path, least)
			if got != want || code != is {
				t.Fatalf("at least %d by %+v along %v on %+v: %d, code %d, want %d, code %d", least, b, path, s, got, code, want, is)
			}
			checkLeastShare(t, s, b, path, least, got)
			found[got]++
		}
	}
	if len(found) < 17 || found[0] > 3900 {
		t.Errorf("not all shares were found: %v", found)
	}
}

// checkLeastShare fails the test if a share does not leave enough, or a lesser one does; with the share 0 none must.
func checkLeastShare(t *testing.T, s impl.Sheet, b impl.Brush, path []impl.Spot, least, share int64) {
	t.Helper()
	for n := int64(1); n <= impl.MostShare; n++ {
		b.Share = int8(n)
		after, _, code := impl.StrokePath(s, b, path)
		enough := faintest(after, path) >= least
		if code != impl.OK || n == share && !enough || (n < share || share == 0) && enough {
			t.Fatalf("share %d: %v, told %d, code %d", n, enough, share, code)
		}
	}
}

func TestP9LeastShares(t *testing.T) {
	for _, c := range []struct {
		name, before string
		b            impl.Brush
		letters      string
		least        int64
		share, code  int64
	}{
		{"the document's", "0:0,0,0 0:0,0,0 0:0,0,0", brush(4, 16, 32), "ee", 5, 4, 0},
		{"one more", "0:0,0,0 0:0,0,0 0:0,0,0", brush(4, 16, 32), "ee", 6, 0, 6},
		{"its own share is not looked at", "0:0,0,0 0:0,0,0 0:0,0,0", brush(16, 16, 32), "ee", 5, 4, 0},
		{"nor a lesser one", "0:0,0,0 0:0,0,0 0:0,0,0", brush(1, 16, 32), "ee", 5, 4, 0},
		{"nor its water", "0:0,0,0 0:0,0,0 0:0,0,0", brush(1, 0, 32), "ee", 5, 4, 0},
		{"one unit", "0:0,0,0 0:0,0,0 0:0,0,0", brush(4, 16, 3), "ee", 1, 1, 0},
		{"one unit for too many", "0:0,0,0 0:0,0,0 0:0,0,0", brush(4, 16, 2), "ee", 1, 0, 6},
		{"share 1, as much as it leaves", "0:0,0,0", brush(4, 0, 17), "", 2, 1, 0},
		{"share 2 for one more", "0:0,0,0", brush(4, 0, 17), "", 3, 2, 0},
		{"all of it", "0:0,0,0", brush(4, 0, 16), "", 16, 16, 0},
		{"more than all of it", "0:0,0,0", brush(4, 0, 16), "", 17, 0, 6},
		{"all but one", "0:0,0,0", brush(4, 0, 16), "", 15, 15, 0},
		{"several inks, each one rounded up", "0:0,0,0", brush(4, 0, 1, 1, 1), "", 3, 1, 0},
		{"several inks", "0:0,0,0", brush(4, 0, 16, 32, 16), "", 9, 3, 0},
		{"dark enough before", "0:5,5,5 0:0,15,0", brush(4, 0), "e", 15, 1, 0},
		{"not quite dark enough before", "0:5,5,5 0:0,14,0", brush(4, 0), "e", 15, 0, 6},
		{"what was there counts", "0:0,0,0 0:0,9,0", brush(4, 0, 32), "e", 10, 5, 0},
		{"a cell that can take nothing more", "0:1000,0,0 0:0,0,0", brush(4, 0, 32), "e", 32, 16, 0},
		{"a cell that can take less than enough", "0:1000,0,0", brush(4, 0, 32), "", 1001, 0, 6},
		{"as dark as can be", "0:999,998,997", brush(4, 0, 16, 16, 16), "", 3000, 3, 0},
		{"as dark as can be, and one less", "0:999,998,997", brush(4, 0, 16, 16, 16), "", 2998, 2, 0},
		{"wax is not looked at", "0:0,0,0 w 0:0,0,0", brush(4, 0, 32), "ee", 6, 4, 0},
		{"wax alone", "w w", brush(4, 0), "e", 3000, 1, 0},
		{"a cell twice", "0:0,0,0 0:0,0,0", brush(4, 0, 32), "ew", 6, 4, 0},
		{"a cell twice, and one more", "0:0,0,0 0:0,0,0", brush(4, 0, 32), "ew", 7, 5, 0},
		{"no load", "0:0,0,0", brush(16, 200), "", 1, 0, 6},
		{"least 0", "0:0,0,0", brush(4, 0, 32), "", 0, 0, 2},
		{"least -1", "0:0,0,0", brush(4, 0, 32), "", -1, 0, 2},
		{"least 3001", "0:1000,1000,1000", brush(4, 0, 32), "", 3001, 0, 2},
		{"least 3001 of wax", "w", brush(4, 0, 32), "", 3001, 0, 2},
		{"a very large least", "0:0,0,0", brush(4, 0, 32), "", math.MaxInt64, 0, 2},
		{"the least of all", "0:0,0,0", brush(4, 0, 32), "", math.MinInt64, 0, 2},
		{"a path beyond the sheet", "0:0,0,0", brush(4, 0, 32), "e", 5, 0, 2},
		{"a path beyond the sheet, and least 0", "0:0,0,0", brush(4, 0, 32), "e", 0, 0, 2},
		{"a path that stands still, and none is enough", "0:0,0,0", brush(4, 0, 0), ".", 5, 0, 2},
		{"share 0", "0:0,0,0", brush(0, 0, 32), "", 5, 0, 1},
		{"share 17, and least 0, and no path", "0:0,0,0", brush(17, 0, 32), "nn", 0, 0, 1},
		{"a sheet that is not valid, and all else", "0:1001,0,0", brush(4, 0, 32), "w", 0, 0, 1},
	} {
		s, path := paper(t, c.before), walk(0, 0, c.letters)
		share, code := impl.LeastShare(s, c.b, path, c.least)
		same(t, c.name, list(share, code), list(c.share, c.code))
	}
	same(t, "an empty path", list(impl.LeastShare(paper(t, "w"), brush(4, 0), nil, 1)), list(0, 2))
}

func TestP9DipsOfManySheets(t *testing.T) {
	r := rand.New(rand.NewSource(131))
	numbers := map[int]int{}
	none := 0
	for range 6000 {
		s, b := paleSheet(r), randomBrush(r)
		path := randomPath(r, s)
		most := max(1, sumLeft(s, b, path[0]))
		least := min(3000, int64(oneOf(r, 1, 2, int(most), int(most)+1, 1+r.Intn(int(most)))))
		got, code := impl.DipsFor(s, b, path, least)
		want, is := dipsByHand(s, b, path, least)
		if !slices.Equal(got, want) || code != is {
			t.Fatalf("at least %d by %+v along %v on %+v: %v, code %d, want %v, code %d", least, b, path, s, got, code, want, is)
		}
		if code != impl.OK {
			none++
			continue
		}
		numbers[min(len(got), 5)]++
		checkDips(t, s, b, path, least, got)
	}
	if none < 500 || numbers[0] < 300 || numbers[1] < 50 || numbers[2] < 50 || numbers[5] < 50 {
		t.Errorf("too few of one kind: %v dips, %d times none were enough", numbers, none)
	}
}

// checkDips makes a stroke with the dips that are told, and fails the test if it leaves too little somewhere.
func checkDips(t *testing.T, s impl.Sheet, given impl.Brush, path []impl.Spot, least int64, dips []int64) {
	t.Helper()
	b, seen := given, 0
	for i, at := range path {
		if slices.Contains(dips, int64(i)) {
			b, seen = given, seen+1
		}
		dye, _, _ := impl.LeaveAt(s, b, at)
		if !waxedAt(s, at) && dye[0]+dye[1]+dye[2] < least {
			t.Fatalf("only %v is left to the cell %d of %v, with dips %v", dye, i, path, dips)
		}
		var code int64
		if s, b, code = impl.TouchCell(s, b, at); code != impl.OK {
			t.Fatalf("touch: code %d", code)
		}
	}
	same(t, "dips that are indices", list(seen), list(len(dips)))
}

func TestP9Dips(t *testing.T) {
	five := "0:0,0,0 0:0,0,0 0:0,0,0 0:0,0,0 0:0,0,0"
	for _, c := range []struct {
		name, before string
		b            impl.Brush
		letters      string
		least        int64
		dips         []int64
		code         int64
	}{
		{"the document's", "0:0,0,0 0:0,0,0 0:0,0,0", brush(4, 16, 32), "ee", 6, []int64{2}, 0},
		{"none", "0:0,0,0 0:0,0,0 0:0,0,0", brush(4, 16, 32), "ee", 5, nil, 0},
		{"before several ones", five, brush(4, 16, 32), "eeee", 6, []int64{2, 4}, 0},
		{"before all but the first one", five, brush(4, 16, 32), "eeee", 7, []int64{1, 2, 3, 4}, 0},
		{"just as much as it leaves", five, brush(4, 16, 32), "eeee", 8, []int64{1, 2, 3, 4}, 0},
		{"too much before the first one", five, brush(4, 16, 32), "eeee", 9, nil, 6},
		{"one unit", five, brush(8, 0, 4), "eeee", 1, []int64{3}, 0},
		{"all of it at once", five, brush(16, 0, 4, 3, 2), "eeee", 9, []int64{1, 2, 3, 4}, 0},
		{"more than all of it", five, brush(16, 0, 4, 3, 2), "eeee", 10, nil, 6},
		{"all inks together", "0:0,0,0 0:0,0,0 0:0,0,0", brush(4, 0, 32, 32, 32), "ee", 16, []int64{2}, 0},
		{"all inks together, none", "0:0,0,0 0:0,0,0 0:0,0,0", brush(4, 0, 32, 32, 32), "ee", 15, nil, 0},
		{"what was there does not count", "0:0,0,0 0:0,90,0 0:0,90,0", brush(4, 0, 32), "ee", 6, []int64{2}, 0},
		{"a first cell that can take less", "0:995,0,0 0:0,0,0", brush(4, 0, 32), "e", 6, nil, 6},
		{"a later cell that can take less", "0:0,0,0 0:995,0,0", brush(4, 0, 32), "e", 6, nil, 6},
		{"a later cell that can take just enough", "0:0,0,0 0:994,0,0", brush(4, 0, 32), "e", 6, nil, 0},
		{"a later cell that can take just enough of a brush that is dipped", "0:0,0,0 0:993,0,0", brush(4, 0, 32), "e", 7, []int64{1}, 0},
		{"a later cell that can take nothing", "0:0,0,0 0:1000,0,0", brush(4, 0, 32), "e", 1, nil, 6},
		{"a later cell that can take another ink", "0:0,0,0 0:1000,0,0", brush(4, 0, 32, 16), "e", 4, []int64{1}, 0},
		{"dipped behind a cell that can take less than it leaves", "0:997,0,0 0:0,0,0 0:0,0,0", brush(4, 0, 32), "ee", 3, nil, 0},
		{"a cell that can take less the second time", "0:990,0,0 0:0,0,0", brush(4, 0, 32), "ew", 2, nil, 0},
		{"a cell that can take too little the second time", "0:990,0,0 0:0,0,0", brush(4, 0, 32), "ew", 3, nil, 6},
		{"to and fro", "0:0,0,0 0:0,0,0", brush(4, 0, 32), "ewew", 6, []int64{2, 4}, 0},
		{"over wax", "0:0,0,0 w 0:0,0,0 w 0:0,0,0", brush(4, 0, 32), "eeee", 6, []int64{4}, 0},
		{"not before wax", "0:0,0,0 w 0:0,0,0 w 0:0,0,0", brush(4, 0, 32), "eeee", 7, []int64{2, 4}, 0},
		{"wax first", "w 0:0,0,0 0:0,0,0", brush(4, 0, 32), "ee", 8, []int64{2}, 0},
		{"wax first, then too much", "w 0:0,0,0 0:0,0,0", brush(4, 0, 32), "ee", 9, nil, 6},
		{"wax alone", "w w w", brush(4, 0), "ee", 3000, nil, 0},
		{"no load", "w 0:0,0,0", brush(4, 200), "e", 1, nil, 6},
		{"no load and dark cells", "0:9,9,9", brush(4, 200), "", 1, nil, 6},
		{"least 0", "0:0,0,0", brush(4, 0, 32), "", 0, nil, 2},
		{"least -1", "0:0,0,0", brush(4, 0, 32), "", -1, nil, 2},
		{"least 3000", "0:0,0,0", brush(16, 0, 300, 300, 300), "", 3000, nil, 6},
		{"least 3001", "w", brush(4, 0, 32), "", 3001, nil, 2},
		{"a very large least", "0:0,0,0", brush(4, 0, 32), "", math.MaxInt64, nil, 2},
		{"the least of all", "0:0,0,0", brush(4, 0, 32), "", math.MinInt64, nil, 2},
		{"a path beyond the sheet, and too much", "0:0,0,0", brush(4, 0, 32), "n", 900, nil, 2},
		{"a path that stands still, and least 0", "0:0,0,0", brush(4, 0, 32), ".", 0, nil, 2},
		{"share 0, and least 0", "0:0,0,0", brush(0, 0, 32), "", 0, nil, 1},
		{"share 17, and no path", "0:0,0,0", brush(17, 0, 32), "e", 900, nil, 1},
		{"a sheet that is not valid, and all else", "0:1001,0,0", brush(4, 0, 32), "w", 0, nil, 1},
	} {
		s, path := paper(t, c.before), walk(0, 0, c.letters)
		dips, code := impl.DipsFor(s, c.b, path, c.least)
		same(t, c.name, list(dips, code), list(c.dips, c.code))
	}
	same(t, "an empty path", list(impl.DipsFor(paper(t, "w"), brush(4, 0), []impl.Spot{}, 1)), list([]int64{}, 2))
}

// TestP9DipsOnLongPaths dips before each cell of the longest path but the first one, and lets cells become full.
func TestP9DipsOnLongPaths(t *testing.T) {
	s, letters := impl.Sheet{Wide: 2, High: 1}, ""
	for len(letters) < impl.MaxPath-1 {
		letters += map[bool]string{true: "e", false: "w"}[len(letters)%2 == 0]
	}
	var all []int64
	for i := int64(1); i < impl.MaxPath; i++ {
		all = append(all, i)
	}
	for _, c := range []struct {
		amount, least, code int64
		dips                []int64
	}{
		{25, 25, 0, all}, // 40 times 25 is just MaxDye
		{26, 25, 6, nil},
		{12, 12, 0, all},
	} {
		dips, code := impl.DipsFor(s, brush(16, 0, 0, int(c.amount)), walk(0, 0, letters), c.least)
		same(t, "long path", list(c.amount, dips, code), list(c.amount, c.dips, c.code))
	}
	_, code := impl.DipsFor(s, brush(16, 0, 0, 25), walk(0, 0, letters+"e"), 25)
	same(t, "a path that is too long", list(code), list(2))
}
