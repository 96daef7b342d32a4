package tests

import (
	"fmt"
	"math/rand"
	"slices"
	"testing"

	"loop.example/g01360/impl"
)

// cellSet is a set of cells; here, of open ones.
type cellSet map[impl.Spot]bool

// lastByHand tries each ink at each cell.
func lastByHand(p impl.Picture) []impl.Drop {
	var drops []impl.Drop
	for _, at := range spotsIn(p) {
		for ink := range uint8(3) {
			other := func(c impl.Spot) bool { return p.Inked[c.Y][c.X] != ink+1 }
			if !slices.ContainsFunc(coverByHand(p, at), other) {
				drops = append(drops, impl.Drop{At: at, Ink: ink})
			}
		}
	}
	return drops
}

// peelsByHand returns all drops that can be peeled where some cells are open, ordered by their cells, and then by their inks.
func peelsByHand(p impl.Picture, open cellSet) []impl.Drop {
	var drops []impl.Drop
	for _, at := range spotsIn(p) {
		cover := coverByHand(p, at)
		if !slices.ContainsFunc(cover, func(c impl.Spot) bool { return !open[c] }) {
			continue
		}
		for ink := range uint8(3) {
			other := func(c impl.Spot) bool { return !open[c] && p.Inked[c.Y][c.X] != ink+1 }
			if !slices.ContainsFunc(cover, other) {
				drops = append(drops, impl.Drop{At: at, Ink: ink})
			}
		}
	}
	return drops
}

// openedBy returns the open cells behind peeling one more drop.
func openedBy(p impl.Picture, open cellSet, d impl.Drop) cellSet {
	more := cellSet{}
	for at := range open {
		more[at] = true
	}
	for _, at := range coverByHand(p, d.At) {
		more[at] = true
	}
	return more
}

// leftByPeeling returns how many cells are neither white nor open.
func leftByPeeling(p impl.Picture, open cellSet) int64 {
	left := int64(0)
	for _, at := range spotsIn(p) {
		if p.Inked[at.Y][at.X] > 0 && !open[at] {
			left++
		}
	}
	return left
}

// peelByHand peels the first drop again and again; false if a cell is left.
func peelByHand(p impl.Picture) ([]impl.Drop, bool) {
	var drops []impl.Drop
	open := cellSet{}
	for peels := peelsByHand(p, open); len(peels) > 0; peels = peelsByHand(p, open) {
		drops = append([]impl.Drop{peels[0]}, drops...)
		open = openedBy(p, open, peels[0])
	}
	return drops, leftByPeeling(p, open) == 0
}

// makeable tells for all pictures of a size that drops of so many inks make with how few drops they do.
func makeable(wide, high int8, inks uint8) map[impl.Picture]int {
	white := impl.Picture{Wide: wide, High: high}
	fewest := map[impl.Picture]int{white: 0}
	covers := [][]impl.Spot{}
	for _, at := range spotsIn(white) {
		covers = append(covers, coverByHand(white, at))
	}
	for next := []impl.Picture{white}; len(next) > 0; next = next[1:] {
		for _, cover := range covers {
			for ink := range inks {
				p := next[0]
				for _, at := range cover {
					p.Inked[at.Y][at.X] = ink + 1
				}
				if _, known := fewest[p]; !known {
					fewest[p] = fewest[next[0]] + 1
					next = append(next, p)
				}
			}
		}
	}
	return fewest
}

// allArt goes over all pictures of a size with so many inks.
func allArt(wide, high int8, inks uint8, look func(p impl.Picture)) {
	p := impl.Picture{Wide: wide, High: high}
	cells := spotsIn(p)
	for {
		look(p)
		i := 0
		for i < len(cells) && p.Inked[cells[i].Y][cells[i].X] == inks {
			p.Inked[cells[i].Y][cells[i].X] = 0
			i++
		}
		if i == len(cells) {
			return
		}
		p.Inked[cells[i].Y][cells[i].X]++
	}
}

func TestP17LastDropsOfManyPictures(t *testing.T) {
	r := rand.New(rand.NewSource(270))
	kinds := map[bool]int{}
	for range 1500 {
		p := randomArt(r)
		want := lastByHand(p)
		got, code := impl.LastDrops(p)
		if !slices.Equal(got, want) || code != impl.OK {
			t.Fatalf("%v: %v, code %d, want %v", p, got, code, want)
		}
		for _, at := range spotsIn(p) {
			for ink := range uint8(3) {
				d := impl.Drop{At: at, Ink: ink}
				can, code := impl.CanBeLast(p, d)
				again, _ := impl.DropOn(p, d)
				if can != slices.Contains(want, d) || can != (again == p) || code != impl.OK {
					t.Fatalf("%v of %v: %v, code %d", d, p, can, code)
				}
				kinds[can]++
			}
		}
	}
	if len(kinds) != 2 {
		t.Errorf("only %v of the drops", kinds)
	}
}

func TestP17LastDrops(t *testing.T) {
	for _, c := range []struct {
		name string
		p    impl.Picture
		want []impl.Drop
	}{
		{"the document's", art(".a.", "aab", ".bb"), []impl.Drop{dab(2, 2, "b")}},
		{"white", art("..", ".."), nil},
		{"one white cell", art("."), nil},
		{"one cell", art("c"), []impl.Drop{dab(0, 0, "c")}},
		{"one cell of several", art("a..", "..."), nil},
		{"each cell", art("bb", "bb"), []impl.Drop{dab(0, 0, "b"), dab(1, 0, "b"), dab(0, 1, "b"), dab(1, 1, "b")}},
		{"a whole drop in the midst", art(".a.", "aaa", ".a."), []impl.Drop{dab(1, 1, "a")}},
		{"one of its cells white", art(".a.", "aa.", ".a."), nil},
		{"one of its cells of another ink", art(".a.", "aaa", ".b."), nil},
		{"its own cell of another ink", art(".a.", "aba", ".a."), nil},
		{"several, of several inks", art("aab", "abb", "..c", ".cc"), []impl.Drop{dab(0, 0, "a"), dab(2, 3, "c")}},
		{"a row of two inks", art("aabb"), []impl.Drop{dab(0, 0, "a"), dab(3, 0, "b")}},
		{"a row of one cell each", art("abab"), nil},
	} {
		got, code := impl.LastDrops(c.p)
		same(t, c.name, list(got, code), list(c.want, 0))
		for _, at := range spotsIn(c.p) {
			for _, letter := range []string{"a", "b", "c"} {
				d := dab(at.X, at.Y, letter)
				can, code := impl.CanBeLast(c.p, d)
				same(t, fmt.Sprint(c.name, d), list(can, code), list(slices.Contains(c.want, d), 0))
			}
		}
	}
}

func TestP17PeelingOfManyPictures(t *testing.T) {
	r := rand.New(rand.NewSource(271))
	kinds := map[bool]int{}
	for range 1500 {
		p := randomArt(r)
		want, whole := peelByHand(p)
		is := int64(impl.OK)
		if !whole {
			want, is = nil, impl.ErrNotFound
		}
		got, code := impl.PeelAll(p)
		if !slices.Equal(got, want) || code != is {
			t.Fatalf("%v: %v, code %d, want %v, code %d", p, got, code, want, is)
		}
		if whole && dropsByHand(whiteOf(p), got) != p {
			t.Fatalf("%v do not make %v", got, p)
		}
		kinds[whole]++
	}
	if kinds[true] < 300 || kinds[false] < 300 {
		t.Errorf("only %v of the pictures", kinds)
	}
}

// TestP17PeelingTellsWhatDropsMake looks at all pictures of some sizes: where a cell is left, no drops at all make the picture.
func TestP17PeelingTellsWhatDropsMake(t *testing.T) {
	for _, size := range [][3]int8{{1, 1, 3}, {2, 1, 3}, {1, 3, 3}, {5, 1, 3}, {1, 6, 3}, {2, 2, 3}, {3, 2, 3}, {3, 3, 2}, {4, 3, 1}} {
		fewest := makeable(size[0], size[1], uint8(size[2]))
		allArt(size[0], size[1], uint8(size[2]), func(p impl.Picture) {
			count, made := fewest[p]
			drops, code := impl.PeelAll(p)
			bound, c2 := impl.DropsBound(p)
			switch {
			case !made:
				same(t, fmt.Sprint("no drops make ", p), list(len(drops), code), list(0, impl.ErrNotFound))
			case dropsByHand(whiteOf(p), drops) != p || code != impl.OK:
				t.Fatalf("%v do not make %v, code %d", drops, p, code)
			case len(drops) < count || bound > int64(count) || c2 != impl.OK:
				t.Fatalf("%v needs %d drops: %v, bound %d", p, count, drops, bound)
			}
		})
	}
}

func TestP17Peeling(t *testing.T) {
	for _, c := range []struct {
		name string
		p    impl.Picture
		want []impl.Drop
		code int64
	}{
		{"the document's", art(".a.", "aab", ".bb"), []impl.Drop{dab(1, 1, "a"), dab(2, 2, "b")}, 0},
		{"white", art("..", ".."), nil, 0},
		{"one white cell", art("."), nil, 0},
		{"one cell", art("b"), []impl.Drop{dab(0, 0, "b")}, 0},
		{"one cell of three", art("a.."), nil, impl.ErrNotFound},
		{"a drop with a white cell", art(".a.", "aa.", ".a."), nil, impl.ErrNotFound},
		{"a drop with a cell of another ink", art(".a.", "aab", ".a."), nil, impl.ErrNotFound},
		{"the first one of two cells", art("aa"), []impl.Drop{dab(0, 0, "a")}, 0},
		{"the first one of three cells, and another one", art("aaa"), []impl.Drop{dab(1, 0, "a"), dab(0, 0, "a")}, 0},
		{"by cells, whatever their inks", art("bb.aa"), []impl.Drop{dab(4, 0, "a"), dab(0, 0, "b")}, 0},
		{"by Y before X", art(".aa", "..a", "b..", "bb."), []impl.Drop{dab(0, 3, "b"), dab(2, 0, "a")}, 0},
		{"open cells that count for another ink", art("aac."), []impl.Drop{dab(1, 0, "c"), dab(0, 0, "a")}, 0},
		{"an open cell that counts for two inks", art("aba", "bbb", "cbc"), []impl.Drop{dab(2, 1, "c"), dab(0, 1, "c"), dab(1, 0, "a"), dab(0, 0, "a"), dab(1, 1, "b")}, 0},
		{"a drop all of whose cells are open", art("aaaa"), []impl.Drop{dab(2, 0, "a"), dab(1, 0, "a"), dab(0, 0, "a")}, 0},
		{"one cell behind the other", art("abcaa"), []impl.Drop{dab(0, 0, "a"), dab(2, 0, "b"), dab(3, 0, "c"), dab(4, 0, "a")}, 0},
		{"white cells in the midst", art("aa.bb", "a...b"), []impl.Drop{dab(4, 0, "b"), dab(0, 0, "a")}, 0},
		{"around a white cell", art("aaa", "a.a", "aaa"), []impl.Drop{dab(2, 2, "a"), dab(0, 2, "a"), dab(2, 0, "a"), dab(0, 0, "a")}, 0},
		{"a cell is left beside a white one", art("aa.bb", "a...."), nil, impl.ErrNotFound},
		{"a cell is left behind two drops", art("bb.", "baa", "a.a"), nil, impl.ErrNotFound},
		{"no cell shows a whole drop", art("abab"), nil, impl.ErrNotFound},
	} {
		got, code := impl.PeelAll(c.p)
		same(t, c.name, list(got, code), list(c.want, c.code))
		if want, whole := peelByHand(c.p); whole && !slices.Equal(got, want) || whole != (code == impl.OK) {
			t.Errorf("%s: by hand %v, %v", c.name, want, whole)
		}
	}
}

// TestP17PeelsOfOneCell looks at all drops that can be peeled on the way: there are never two at one cell.
func TestP17PeelsOfOneCell(t *testing.T) {
	r := rand.New(rand.NewSource(272))
	most := 0
	for range 500 {
		p := randomArt(r)
		open := cellSet{}
		for peels := peelsByHand(p, open); len(peels) > 0; peels = peelsByHand(p, open) {
			at := cellSet{}
			for _, d := range peels {
				if at[d.At] {
					t.Fatalf("%v: two drops at %v", p, d.At)
				}
				at[d.At] = true
			}
			most = max(most, len(peels))
			open = openedBy(p, open, peels[r.Intn(len(peels))])
		}
	}
	if most < 10 {
		t.Errorf("at most %d drops could be peeled", most)
	}
}

func TestP17Bounds(t *testing.T) {
	for _, c := range []struct {
		name string
		p    impl.Picture
		want int64
	}{
		{"white", art("..", ".."), 0},
		{"one cell", art("a"), 1},
		{"5 cells", art("aaaaa"), 1},
		{"6 cells", art("aaa", "aaa"), 2},
		{"10 cells", art("aaaaa", "aaaaa"), 2},
		{"11 cells", art("aaaaaa", "aaaaa."), 3},
		{"two inks on 2 cells", art("ab"), 2},
		{"two inks on 5 cells", art("c.c", "c.b", "..b"), 2},
		{"three inks on 5 cells", art("aabbc"), 3},
		{"three inks on 15 cells", art("aaaaa", "bbbbb", "ccccc"), 3},
		{"three inks on 16 cells", art("aaaa", "bbbb", "cccc", "cccc"), 4},
		{"the document's", art(".a.", "aab", ".bb"), 2},
		{"no drops make it", art("a.."), 1},
		{"all cells", fullArt(1), 13},
	} {
		got, code := impl.DropsBound(c.p)
		same(t, c.name, list(got, code), list(c.want, 0))
	}
	r := rand.New(rand.NewSource(273))
	for range 1000 {
		p := randomArt(r)
		inks, cells := map[uint8]bool{}, int64(0)
		for _, at := range spotsIn(p) {
			if number := p.Inked[at.Y][at.X]; number > 0 {
				inks[number] = true
				cells++
			}
		}
		want := int64(len(inks))
		for 5*want < cells {
			want++
		}
		got, code := impl.DropsBound(p)
		same(t, fmt.Sprint(p), list(got, code), list(want, 0))
	}
}

func TestP17CodesOfPeeling(t *testing.T) {
	bad := art("ab", "c.")
	bad.Inked[7][7] = 1
	for name, p := range map[string]impl.Picture{"no picture": {}, "a number too great": art("4"), "a number beyond": bad, "too wide": {Wide: 9, High: 1}} {
		_, c1 := impl.LastDrops(p)
		_, c2 := impl.PeelAll(p)
		_, c3 := impl.DropsBound(p)
		_, c4 := impl.CanBeLast(p, impl.Drop{})
		_, _, c5 := impl.FewestDrops(p, 100)
		same(t, name, list(c1, c2, c3, c4, c5), list(1, 1, 1, 1, 1))
	}
}
