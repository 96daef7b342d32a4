package tests

import (
	"math/rand"
	"slices"
	"testing"

	"loop.example/g01360/impl"
)

// comesBefore compares two lists of cells by Y, then by X.
func comesBefore(a, b []impl.Spot) bool {
	for i := range min(len(a), len(b)) {
		if a[i].Y != b[i].Y {
			return a[i].Y < b[i].Y
		}
		if a[i].X != b[i].X {
			return a[i].X < b[i].X
		}
	}
	return len(a) < len(b)
}

// allPaths calls back with each path over cells that are not waxed, and that does not come to a cell twice.
func allPaths(s impl.Sheet, path []impl.Spot, to impl.Spot, found func(path []impl.Spot)) {
	at := path[len(path)-1]
	if at == to {
		found(path)
		return
	}
	for _, next := range besides(s, at) {
		if !slices.Contains(path, next) {
			allPaths(s, append(slices.Clone(path), next), to, found)
		}
	}
}

// TestP10SmallSheets looks at all paths between all cells of all sheets with up to 3 columns and 3 rows, with any wax.
func TestP10SmallSheets(t *testing.T) {
	for wide := range 3 {
		for high := range 3 {
			for wax := range 1 << ((wide + 1) * (high + 1)) {
				s := impl.Sheet{Wide: int8(wide + 1), High: int8(high + 1)}
				for i, at := range places(s) {
					s.Wax[at.Y] |= uint8(wax>>i&1) << at.X
				}
				for _, a := range places(s) {
					for _, b := range places(s) {
						checkAgainstAllPaths(t, s, a, b)
					}
				}
			}
		}
	}
}

func checkAgainstAllPaths(t *testing.T, s impl.Sheet, a, b impl.Spot) {
	t.Helper()
	got, code := impl.PathBetween(s, a, b)
	if waxedAt(s, a) || waxedAt(s, b) {
		if len(got) > 0 || code != impl.ErrState {
			t.Fatalf("%v to %v on %v: %v, code %d", a, b, s.Wax, got, code)
		}
		return
	}
	var want []impl.Spot
	is := int64(impl.ErrNotFound)
	allPaths(s, []impl.Spot{a}, b, func(path []impl.Spot) {
		if is != impl.OK || len(path) < len(want) || len(path) == len(want) && comesBefore(path, want) {
			want, is = path, impl.OK
		}
	})
	if !slices.Equal(got, want) || code != is {
		t.Fatalf("%v to %v on %v: %v, code %d, want %v, code %d", a, b, s.Wax, got, code, want, is)
	}
}

// firstPaths returns for each cell that can be reached the first one of the shortest paths to it, made longer cell by cell.
func firstPaths(s impl.Sheet, a impl.Spot) map[impl.Spot][]impl.Spot {
	paths := map[impl.Spot][]impl.Spot{a: {a}}
	for n := 1; n <= 64; n++ {
		for _, at := range places(s) {
			if len(paths[at]) != n {
				continue
			}
			for _, next := range besides(s, at) {
				longer := append(slices.Clone(paths[at]), next)
				if known := paths[next]; known == nil || len(known) == n+1 && comesBefore(longer, known) {
					paths[next] = longer
				}
			}
		}
	}
	return paths
}

func TestP10ManySheets(t *testing.T) {
	r := rand.New(rand.NewSource(140))
	none, long := 0, 0
	for range 400 {
		s := randomSheet(r)
		for y := range s.Wet { // some have more wax
			if more := uint8(r.Intn(256)) & uint8(r.Intn(256)); r.Intn(2) == 0 && y < int(s.High) {
				more &= 1<<s.Wide - 1
				s.Wax[y] |= more
				for x := range s.Wide {
					if more>>x&1 == 1 {
						s.Wet[y][x], s.Dye[y][x] = 0, [3]int16{}
					}
				}
			}
		}
		cells := places(s)
		a := cells[r.Intn(len(cells))]
		if waxedAt(s, a) {
			continue
		}
		paths := firstPaths(s, a)
		for _, b := range cells {
			if waxedAt(s, b) {
				continue
			}
			got, code := impl.PathBetween(s, a, b)
			checkPath(t, s, a, b, got, code)
			want := int64(impl.OK)
			if paths[b] == nil {
				want, none = impl.ErrNotFound, none+1
			}
			if !slices.Equal(got, paths[b]) || code != want {
				t.Fatalf("%v to %v on %v: %v, code %d, want %v", a, b, s.Wax, got, code, paths[b])
			}
			if len(got) > 12 {
				long++
			}
		}
	}
	if none < 100 || long < 10 {
		t.Errorf("%d times there was no path, %d times a long one", none, long)
	}
}

// checkPath fails the test if a path is not one between two cells over cells that are not waxed.
func checkPath(t *testing.T, s impl.Sheet, a, b impl.Spot, path []impl.Spot, code int64) {
	t.Helper()
	if code != impl.OK {
		return
	}
	if !impl.ValidPath(s, path) || path[0] != a || path[len(path)-1] != b {
		t.Fatalf("%v is no path from %v to %v", path, a, b)
	}
	for _, at := range path {
		if waxedAt(s, at) {
			t.Fatalf("%v goes over wax at %v", path, at)
		}
	}
	// The way back has as many cells, though it need not be the same one.
	back, code := impl.PathBetween(s, b, a)
	same(t, "way back", list(len(back), code), list(len(path), 0))
}

func TestP10Paths(t *testing.T) {
	for _, c := range []struct {
		name string
		rows []string
		a, b impl.Spot
		want []impl.Spot
		code int64
	}{
		{"the given test's", []string{"000", "000"}, spot(0, 0), spot(1, 1), walk(0, 0, "es"), 0},
		{"to itself", []string{"000", "000"}, spot(1, 1), spot(1, 1), walk(1, 1, ""), 0},
		{"to itself, with wax around", []string{"0w0", "w0w", "0w0"}, spot(1, 1), spot(1, 1), walk(1, 1, ""), 0},
		{"on one cell", []string{"0"}, spot(0, 0), spot(0, 0), walk(0, 0, ""), 0},
		{"north", []string{"0", "0", "0"}, spot(0, 2), spot(0, 0), walk(0, 2, "nn"), 0},
		{"west", []string{"000"}, spot(2, 0), spot(0, 0), walk(2, 0, "ww"), 0},
		{"south-east: east first", []string{"000", "000", "000"}, spot(0, 0), spot(2, 2), walk(0, 0, "eess"), 0},
		{"south-west: west first", []string{"000", "000", "000"}, spot(2, 0), spot(0, 2), walk(2, 0, "wwss"), 0},
		{"north-east: north first", []string{"000", "000", "000"}, spot(0, 2), spot(2, 0), walk(0, 2, "nnee"), 0},
		{"north-west: north first", []string{"000", "000", "000"}, spot(2, 2), spot(0, 0), walk(2, 2, "nnww"), 0},
		{"around wax", []string{"0w0", "000"}, spot(0, 0), spot(2, 0), walk(0, 0, "seen"), 0},
		{"around wax, north first", []string{"000", "0w0", "000"}, spot(0, 1), spot(2, 1), walk(0, 1, "nees"), 0},
		{"around wax, west first", []string{"000", "0w0", "000"}, spot(1, 0), spot(1, 2), walk(1, 0, "wsse"), 0},
		{"around wax, west first, upward", []string{"000", "0w0", "000"}, spot(1, 2), spot(1, 0), walk(1, 2, "wnne"), 0},
		{"around wax, the shorter way", []string{"0000", "0w00", "w000"}, spot(0, 1), spot(2, 1), walk(0, 1, "nees"), 0},
		{"the first step that is no dead end", []string{"0w000", "000w0", "0w000"}, spot(0, 0), spot(4, 1), walk(0, 0, "seenees"), 0},
		{"through a maze", []string{"00000", "wwww0", "00000", "0wwww", "00000"}, spot(0, 0), spot(4, 4), walk(0, 0, "eeeesswwwwsseeee"), 0},
		{"over water and dye", []string{"999", "9w9", "999"}, spot(0, 0), spot(2, 2), walk(0, 0, "eess"), 0},
		{"wax between", []string{"0w0", "0w0"}, spot(0, 0), spot(2, 0), nil, 6},
		{"a corner is no side", []string{"0w", "w0"}, spot(0, 0), spot(1, 1), nil, 6},
		{"from wax", []string{"w0"}, spot(0, 0), spot(1, 0), nil, 4},
		{"to wax", []string{"0w"}, spot(0, 0), spot(1, 0), nil, 4},
		{"from wax to itself", []string{"w0"}, spot(0, 0), spot(0, 0), nil, 4},
		{"from wax, and none", []string{"ww0"}, spot(0, 0), spot(2, 0), nil, 4},
		{"no first cell", []string{"00"}, spot(2, 0), spot(1, 0), nil, 2},
		{"no second cell", []string{"00"}, spot(1, 0), spot(1, 1), nil, 2},
		{"no second cell, and wax", []string{"w0"}, spot(0, 0), spot(-1, 0), nil, 2},
		{"no first cell, and wax", []string{"w0"}, spot(0, -1), spot(0, 0), nil, 2},
		{"no cells", []string{"00"}, spot(127, 127), spot(-128, -128), nil, 2},
		{"no cell to itself", []string{"00"}, spot(5, 5), spot(5, 5), nil, 2},
	} {
		path, code := impl.PathBetween(inked(c.rows...), c.a, c.b)
		same(t, c.name, list(path, code), list(c.want, c.code))
	}
}

func TestP10SheetsThatAreNotValid(t *testing.T) {
	r := rand.New(rand.NewSource(141))
	for range 300 {
		path, code := impl.PathBetween(brokenSheet(r), someSpot(r), someSpot(r))
		same(t, "broken", list(len(path), code), list(0, 1))
	}
}

// TestP10TheLongestWay goes through a snake of cells over the whole sheet.
func TestP10TheLongestWay(t *testing.T) {
	s := inked("00000000", "wwwwwww0", "00000000", "0wwwwwww", "00000000", "wwwwwww0", "00000000", "0wwwwwww")
	want := walk(0, 0, "eeeeeeesswwwwwwwsseeeeeeesswwwwwwws")
	path, code := impl.PathBetween(s, spot(0, 0), spot(0, 7))
	same(t, "snake", list(path, code), list(want, 0))
	back, code := impl.PathBetween(s, spot(0, 7), spot(0, 0))
	same(t, "snake, back", list(back, code), list(impl.TurnPath(want), 0))
	s = inked("00000000")
	path, code = impl.PathBetween(s, spot(7, 0), spot(0, 0))
	same(t, "row", list(path, code), list(walk(7, 0, "wwwwwww"), 0))
}
