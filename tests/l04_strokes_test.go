package tests

import (
	"math"
	"math/rand"
	"testing"

	"loop.example/g01360/impl"
)

// isBrush tells by hand whether a brush is valid.
func isBrush(b impl.Brush) bool {
	for _, dye := range b.Dye {
		if dye < 0 || dye > 900 {
			return false
		}
	}
	return int(b.Dye[0])+int(b.Dye[1])+int(b.Dye[2]) <= 900 && b.Water >= 0 && b.Water <= 200 && b.Share >= 1 && b.Share <= 16
}

func TestValidBrushes(t *testing.T) {
	for _, c := range []struct {
		name  string
		b     impl.Brush
		valid bool
		load  int64
	}{
		{"nothing but a share", brush(1, 0), true, 0},
		{"the greatest share", brush(16, 0), true, 0},
		{"share 0", brush(0, 0), false, 0},
		{"share 17", brush(17, 0), false, 0},
		{"share -1", brush(-1, 0), false, 0},
		{"share 127", brush(127, 5, 5), false, 5},
		{"share -128", brush(-128, 5, 5), false, 5},
		{"just MaxLoad of one ink", brush(4, 0, 900), true, 900},
		{"one more of one ink", brush(4, 0, 0, 0, 901), false, 901},
		{"just MaxLoad of all", brush(4, 0, 300, 300, 300), true, 900},
		{"one more of all", brush(4, 0, 300, 301, 300), false, 901},
		{"one more of the last one", brush(4, 0, 450, 450, 1), false, 901},
		{"MaxLoad of each one", brush(4, 0, 900, 900, 900), false, 2700},
		{"a dye that is less than 0", brush(4, 0, -1), false, -1},
		{"a dye that is less than 0 beside others", brush(4, 0, 5, -1, 5), false, 9},
		{"a dye that is too much, and one that is less than 0", brush(4, 0, 901, -1, 0), false, 900},
		{"just MaxWet", brush(4, 200), true, 0},
		{"one more water", brush(4, 201), false, 0},
		{"water -1", brush(4, -1), false, 0},
		{"very much dye", brush(4, 0, math.MaxInt16, math.MaxInt16, math.MaxInt16), false, 3 * math.MaxInt16},
		{"very little dye", brush(4, 0, math.MinInt16, math.MinInt16, math.MinInt16), false, 3 * math.MinInt16},
		{"dyes whose sum is 2 in 16 bits", brush(4, 0, math.MaxInt16, math.MaxInt16, 4), false, 2*math.MaxInt16 + 4},
		{"very much water", brush(4, math.MaxInt16), false, 0},
		{"very little water", brush(4, math.MinInt16), false, 0},
		{"no brush at all", impl.Brush{}, false, 0},
	} {
		same(t, c.name, list(impl.ValidBrush(c.b), impl.LoadOf(c.b)), list(c.valid, c.load))
	}
}

func TestValidBrushesOfAllKinds(t *testing.T) {
	r := rand.New(rand.NewSource(150))
	for range 5000 {
		good, bad := randomBrush(r), brokenBrush(r)
		same(t, "random", list(impl.ValidBrush(good), impl.ValidBrush(bad)), list(true, false))
		b := brush(r.Intn(20)-1, r.Intn(210)-3, r.Intn(460)-5, r.Intn(460)-5, r.Intn(460)-5)
		if impl.ValidBrush(b) != isBrush(b) || impl.LoadOf(b) != int64(b.Dye[0])+int64(b.Dye[1])+int64(b.Dye[2]) {
			t.Fatalf("%+v: %v, load %d", b, impl.ValidBrush(b), impl.LoadOf(b))
		}
	}
	for share := -128; share < 128; share++ {
		if got := impl.ValidBrush(brush(share, 5, 5)); got != (share >= 1 && share <= 16) {
			t.Errorf("share %d: %v", share, got)
		}
	}
}

func TestValidPaths(t *testing.T) {
	for _, c := range []struct {
		name  string
		rows  []string
		path  []impl.Spot
		valid bool
	}{
		{"one cell", []string{"000", "000"}, walk(2, 1, ""), true},
		{"no cell", []string{"000", "000"}, nil, false},
		{"no cell, not nil", []string{"000", "000"}, []impl.Spot{}, false},
		{"each step", []string{"000", "000"}, walk(0, 0, "eswne"), true},
		{"over wax", []string{"0w0", "0w0"}, walk(0, 0, "eesww"), true},
		{"wax alone", []string{"w"}, walk(0, 0, ""), true},
		{"back at once", []string{"000", "000"}, walk(1, 0, "eweweswn"), true},
		{"over a cell twice", []string{"000", "000"}, walk(0, 0, "eswn"), true},
		{"all cells", []string{"000", "000"}, walk(0, 0, "eesww"), true},
		{"stands still", []string{"000", "000"}, walk(0, 0, "."), false},
		{"stands still later", []string{"000", "000"}, walk(0, 0, "ee.s"), false},
		{"stands still at its end", []string{"000", "000"}, walk(0, 0, "ee."), false},
		{"leaves to the north", []string{"000", "000"}, walk(0, 0, "n"), false},
		{"leaves to the east", []string{"000", "000"}, walk(0, 0, "eee"), false},
		{"leaves to the south", []string{"000", "000"}, walk(0, 0, "ss"), false},
		{"leaves to the west", []string{"000", "000"}, walk(0, 0, "w"), false},
		{"leaves, and comes back", []string{"000", "000"}, walk(0, 0, "ns"), false},
		{"begins beyond", []string{"000", "000"}, walk(0, -1, "s"), false},
		{"one cell beyond", []string{"000", "000"}, walk(3, 0, ""), false},
		{"one cell far away", []string{"000", "000"}, walk(-128, 127, ""), false},
		{"a corner", []string{"000", "000"}, []impl.Spot{{}, {X: 1, Y: 1}}, false},
		{"two columns", []string{"000", "000"}, []impl.Spot{{}, {X: 2}}, false},
		{"two rows", []string{"0", "0", "0"}, []impl.Spot{{Y: 2}, {}}, false},
		{"the end of a row, and the beginning of the next one", []string{"000", "000"}, []impl.Spot{{X: 2}, {Y: 1}}, false},
		{"from one end of 8 to the other one", []string{"00000000"}, []impl.Spot{{X: 7}, {}}, false},
	} {
		same(t, c.name, list(impl.ValidPath(inked(c.rows...), c.path)), list(c.valid))
	}
	r := rand.New(rand.NewSource(151))
	for range 500 {
		s, broken := randomSheet(r), brokenSheet(r)
		same(t, "random", list(impl.ValidPath(s, randomPath(r, s)), impl.ValidPath(broken, []impl.Spot{{}})), list(true, false))
	}
	letters := ""
	for n := range 100 {
		same(t, "long", list(n, impl.ValidPath(inked("00"), walk(0, 0, letters))), list(n, n+1 <= impl.MaxPath))
		letters += string("ew"[n%2])
	}
}

// TestPathsOfAllPairs looks at each pair of spots around and on a sheet.
func TestPathsOfAllPairs(t *testing.T) {
	s := impl.Sheet{Wide: 3, High: 4}
	on := func(x, y int) bool { return x >= 0 && x < 3 && y >= 0 && y < 4 }
	for i := range 7 * 7 * 7 * 7 {
		x, y, u, v := i%7-1, i/7%7-1, i/49%7-1, i/343-1
		apart := (x-u)*(x-u) + (y-v)*(y-v)
		want := on(x, y) && on(u, v) && apart == 1
		path := []impl.Spot{spot(int8(x), int8(y)), spot(int8(u), int8(v))}
		if got := impl.ValidPath(s, path); got != want {
			t.Fatalf("%v: %v", path, got)
		}
	}
}

func TestErrorsOfPaths(t *testing.T) {
	s, b := paper(t, "0:0,0,0 5:5,5,5", "w 0:0,0,0"), brush(4, 16, 32)
	broken, none := paper(t, "0:0,0,-1 5:5,5,5", "w 0:0,0,0"), brush(4, 16, -1)
	long := make([]impl.Spot, impl.MaxPath+1)
	for i := range long {
		long[i] = spot(int8(i%2), 0)
	}
	for _, c := range []struct {
		name string
		s    impl.Sheet
		b    impl.Brush
		path []impl.Spot
		code int64
	}{
		{"good", s, b, walk(0, 0, "s"), 0},
		{"MaxPath cells", s, b, long[:impl.MaxPath], 0},
		{"one more", s, b, long, 2},
		{"none", s, b, nil, 2},
		{"beyond the sheet", s, b, walk(0, 0, "ee"), 2},
		{"stands still", s, b, walk(0, 0, "."), 2},
		{"a leap", s, b, []impl.Spot{{}, {X: 1, Y: 1}}, 2},
		{"a sheet that is not valid", broken, b, walk(0, 0, "e"), 1},
		{"a sheet that is not valid, and none", broken, b, nil, 1},
		{"a brush that is not valid", s, none, walk(0, 0, "e"), 1},
		{"a brush that is not valid, and none", s, none, nil, 1},
		{"neither is valid, and one more", broken, none, long, 1},
	} {
		_, _, c1 := impl.StrokePath(c.s, c.b, c.path)
		_, c2 := impl.CellsUntilDry(c.s, c.b, c.path)
		_, c3 := impl.LeastShare(c.s, c.b, c.path, 1)
		_, c4 := impl.DipsFor(c.s, c.b, c.path, 1)
		if c.code == impl.OK { // they may find none
			c3, c4 = 0, 0
		}
		same(t, c.name, list(c1, c2, c3, c4), list(c.code, c.code, c.code, c.code))
	}
}

func TestCellsUntilDry(t *testing.T) {
	for _, c := range []struct {
		name, before string
		b            impl.Brush
		letters      string
		want         int64
	}{
		{"the given test's", "0:0,0,0 0:0,0,0 0:0,0,0", brush(8, 0, 3), "ee", 2},
		{"before the path ends", "0:0,0,0 0:0,0,0 0:0,0,0", brush(1, 0, 1), "ee", 1},
		{"at the last cell", "0:0,0,0 0:0,0,0 0:0,0,0", brush(1, 0, 3), "ee", 3},
		{"not before the path ends", "0:0,0,0 0:0,0,0 0:0,0,0", brush(1, 0, 4), "ee", 3},
		{"never", "0:0,0,0 0:0,0,0 0:0,0,0", brush(1, 0, 900), "ee", 3},
		{"one ink longer than another one", "0:0,0,0 0:0,0,0 0:0,0,0 0:0,0,0", brush(8, 0, 1, 4, 2), "eee", 3},
		{"at once", "0:0,0,0 0:0,0,0", brush(16, 0, 300, 300, 300), "e", 1},
		{"one cell", "0:0,0,0", brush(16, 0, 300, 300, 300), "", 1},
		{"no load", "0:0,0,0 0:0,0,0", brush(16, 0), "e", 0},
		{"no load, but water", "0:0,0,0 0:0,0,0", brush(1, 200), "e", 0},
		{"water that lasts longer", "0:0,0,0 0:0,0,0 0:0,0,0", brush(8, 200, 1), "ee", 1},
		{"water that does not last", "0:0,0,0 0:0,0,0 0:0,0,0", brush(1, 1, 9), "ee", 3},
		{"full cells are touched, too", "0:1000,0,0 0:1000,0,0 0:0,0,0 0:0,0,0", brush(16, 0, 9), "eee", 3},
		{"a full cell that is not full of the ink", "0:1000,0,1000 0:0,0,0", brush(16, 0, 0, 9), "e", 1},
		{"a cell that can take less", "0:998,0,0 0:0,0,0 0:0,0,0", brush(16, 0, 9), "ee", 2},
		{"waxed cells are touched, too", "w 0:0,0,0 w 0:0,0,0 w", brush(8, 0, 2), "eeee", 4},
		{"waxed cells are not touched any more", "0:0,0,0 w w", brush(8, 0, 1), "ee", 1},
		{"wax alone", "w w", brush(16, 0, 1), "ewewe", 6},
		{"wax alone, and no load", "w w", brush(16, 1), "ewewe", 0},
		{"to and fro", "0:0,0,0 0:0,0,0", brush(8, 0, 8), "ewewe", 4},
	} {
		got, code := impl.CellsUntilDry(paper(t, c.before), c.b, walk(0, 0, c.letters))
		same(t, c.name, list(got, code), list(c.want, 0))
	}
}

func TestCellsUntilDryOfManySheets(t *testing.T) {
	r := rand.New(rand.NewSource(152))
	dry := 0
	for range 3000 {
		s, b := randomSheet(r), randomBrush(r)
		path := randomPath(r, s)
		want := int64(0)
		for i := range path {
			if _, rest := strokeByHand(s, b, path[:i]); rest.Dye != [3]int16{} {
				want = int64(i) + 1
			}
		}
		got, code := impl.CellsUntilDry(s, b, path)
		same(t, "until dry", list(got, code), list(want, 0))
		if want > 0 && want < int64(len(path)) {
			dry++
		}
	}
	if dry < 100 {
		t.Errorf("only %d of 3000 brushes were dry before the path ended", dry)
	}
}

func TestWaxedPaths(t *testing.T) {
	for _, c := range []struct {
		name, before string
		path         []impl.Spot
		after        string
		code         int64
	}{
		{"one cell", "0:0,0,0 0:0,0,0", walk(1, 0, ""), "0:0,0,0 w", 0},
		{"two cells", "0:0,0,0 0:0,0,0 9:9,9,9", walk(0, 0, "e"), "w w 9:9,9,9", 0},
		{"one of them is waxed", "w 0:0,0,0", walk(0, 0, "e"), "w w", 0},
		{"all of them are waxed", "w w", walk(1, 0, "w"), "w w", 0},
		{"over a cell twice", "0:0,0,0 0:0,0,0", walk(0, 0, "ewe"), "w w", 0},
		{"water in the first one", "1:0,0,0 0:0,0,0", walk(0, 0, "e"), "", 4},
		{"water in the last one", "0:0,0,0 1:0,0,0", walk(0, 0, "e"), "", 4},
		{"dye of the ink 0", "0:0,0,0 0:1,0,0", walk(0, 0, "e"), "", 4},
		{"dye of the ink 1", "0:0,0,0 0:0,1,0", walk(0, 0, "e"), "", 4},
		{"dye of the ink 2", "0:0,0,0 0:0,0,1", walk(0, 0, "e"), "", 4},
		{"dye behind wax", "w w 0:0,0,1", walk(0, 0, "ee"), "", 4},
		{"an empty path", "0:0,0,0", nil, "", 2},
		{"beyond the sheet", "0:0,0,0", walk(0, 0, "e"), "", 2},
		{"stands still", "0:0,0,0", walk(0, 0, "."), "", 2},
		{"water first, then beyond the sheet", "1:0,0,0", walk(0, 0, "e"), "", 2},
		{"a sheet that is not valid", "201:0,0,0 0:0,0,0", walk(1, 0, ""), "", 1},
		{"a sheet that is not valid, and an empty path", "201:0,0,0 0:0,0,0", nil, "", 1},
	} {
		got, code := impl.WaxPath(paper(t, c.before), c.path)
		want := impl.Sheet{}
		if c.code == impl.OK {
			want = paper(t, c.after)
		}
		same(t, c.name, list(got, code), list(want, c.code))
	}
}

func TestWaxedPathsOfManySheets(t *testing.T) {
	r := rand.New(rand.NewSource(153))
	states := 0
	for range 3000 {
		s := randomSheet(r)
		if r.Intn(2) == 0 {
			s = waxOf(s)
			s.Wet[s.High-1][s.Wide-1] = int16(1 - s.Wax[s.High-1]>>(s.Wide-1)&1)
		}
		path := randomPath(r, s)
		want, code := s, int64(impl.OK)
		for _, at := range path {
			if s.Wet[at.Y][at.X] != 0 || darkOf(s, at) != 0 {
				code = impl.ErrState
			}
			want.Wax[at.Y] |= 1 << at.X
		}
		if code != impl.OK {
			want, states = impl.Sheet{}, states+1
		}
		got, is := impl.WaxPath(s, path)
		if got != want || is != code {
			t.Fatalf("%v on %+v: %+v, code %d, want %d", path, s, got, is, code)
		}
	}
	if states < 300 || states > 2700 {
		t.Errorf("%d of 3000 paths had water or dye", states)
	}
}
