package tests

import (
	"fmt"
	"math/rand"
	"slices"
	"testing"

	"loop.example/g01360/impl"
)

// tryer peels a picture by hand, and counts its tries one by one.
type tryer struct {
	p             impl.Picture
	budget, tries int64
}

// peel tries to peel with so many drops, and returns them in the order in which they are dropped.
func (h *tryer) peel(open cellSet, drops int64) ([]impl.Drop, int64) {
	left := leftByPeeling(h.p, open)
	if left == 0 {
		return nil, impl.OK
	}
	if left > 5*drops {
		return nil, impl.ErrNotFound
	}
	for _, d := range peelsByHand(h.p, open) {
		if h.tries == h.budget {
			return nil, impl.ErrBudget
		}
		h.tries++
		rest, code := h.peel(openedBy(h.p, open, d), drops-1)
		if code == impl.OK {
			return append(rest, d), impl.OK
		}
		if code == impl.ErrBudget {
			return nil, code
		}
	}
	return nil, impl.ErrNotFound
}

// fewestByHand looks for the fewest drops, and tells how many tries there were, whatever came of them.
func fewestByHand(p impl.Picture, budget int64) ([]impl.Drop, int64, int64) {
	h := tryer{p: p, budget: budget}
	for drops := range int64(9) {
		if list, code := h.peel(cellSet{}, drops); code != impl.ErrNotFound {
			return list, h.tries, code
		}
	}
	return nil, h.tries, impl.ErrNotFound
}

// checkFewest fails the test if FewestDrops does not tell what has been told by hand; there are no tries besides a code.
func checkFewest(t *testing.T, p impl.Picture, budget int64, drops []impl.Drop, tries, code int64) {
	t.Helper()
	if code != impl.OK {
		drops, tries = nil, 0
	}
	got, n, is := impl.FewestDrops(p, budget)
	if !slices.Equal(got, drops) || n != tries || is != code {
		t.Fatalf("%v with %d tries: %v, %d tries, code %d; want %v, %d tries, code %d", p, budget, got, n, is, drops, tries, code)
	}
	if code == impl.OK && dropsByHand(whiteOf(p), got) != p {
		t.Fatalf("%v do not make %v", got, p)
	}
}

// TestP17FewestOfAllSmallPictures holds the number of drops of all pictures of some sizes against how far they are from the white one.
func TestP17FewestOfAllSmallPictures(t *testing.T) {
	for _, size := range [][3]int8{{1, 1, 3}, {2, 1, 3}, {1, 3, 3}, {5, 1, 3}, {1, 6, 3}, {2, 2, 3}, {3, 2, 3}, {3, 3, 2}, {2, 4, 2}} {
		fewest := makeable(size[0], size[1], uint8(size[2]))
		allArt(size[0], size[1], uint8(size[2]), func(p impl.Picture) {
			count, made := fewest[p]
			drops, _, code := impl.FewestDrops(p, impl.MaxTries)
			switch {
			case !made || count > impl.MaxDrops:
				same(t, fmt.Sprint("no drops make ", p), list(len(drops), code), list(0, impl.ErrNotFound))
			case len(drops) != count || code != impl.OK || dropsByHand(whiteOf(p), drops) != p:
				t.Fatalf("%v needs %d drops: %v, code %d", p, count, drops, code)
			}
		})
	}
}

// TestP17TriesOfManyPictures holds drops and tries against those by hand.
func TestP17TriesOfManyPictures(t *testing.T) {
	r := rand.New(rand.NewSource(280))
	codes := map[int64]int{}
	for range 1500 {
		p := randomArt(r)
		budget := int64(oneOf(r, 0, 1, 5, 40, 300, 300))
		drops, tries, code := fewestByHand(p, budget)
		checkFewest(t, p, budget, drops, tries, code)
		codes[code]++
	}
	for _, code := range []int64{impl.OK, impl.ErrBudget, impl.ErrNotFound} {
		if codes[code] < 100 {
			t.Errorf("only the codes %v", codes)
		}
	}
}

// TestP17BudgetsOfManyPictures gives just as many tries as are needed, one less, and more.
func TestP17BudgetsOfManyPictures(t *testing.T) {
	r := rand.New(rand.NewSource(281))
	counts := map[int64]int{}
	for range 400 {
		p := randomWhite(r)
		p = dropsByHand(p, randomDrops(r, p, r.Intn(7)))
		if r.Intn(4) == 0 {
			p.Inked[0][0] = uint8(r.Intn(4))
		}
		drops, tries, code := fewestByHand(p, 1000)
		if code == impl.ErrBudget {
			continue
		}
		counts[code]++
		checkFewest(t, p, tries, drops, tries, code)
		checkFewest(t, p, tries+1, drops, tries, code)
		checkFewest(t, p, impl.MaxTries, drops, tries, code)
		for less := max(0, tries-3); less < tries; less++ {
			checkFewest(t, p, less, nil, 0, impl.ErrBudget)
		}
	}
	if counts[impl.OK] < 100 || counts[impl.ErrNotFound] < 30 {
		t.Errorf("only the codes %v", counts)
	}
}

// eightWhole is a picture of eight drops that do not lie upon each other; so it has 40 cells.
func eightWhole() impl.Picture {
	return dropsByHand(impl.Picture{Wide: 8, High: 8}, []impl.Drop{
		dab(1, 1, "a"), dab(6, 1, "b"), dab(4, 2, "c"), dab(2, 3, "b"), dab(5, 4, "a"), dab(3, 5, "c"), dab(1, 6, "a"), dab(6, 6, "b"),
	})
}

// TestP17Tries has pictures whose tries can be counted by the document alone.
func TestP17Tries(t *testing.T) {
	more := eightWhole()
	more.Inked[0][0] = 1
	for _, c := range []struct {
		name        string
		p           impl.Picture
		drops       []impl.Drop
		tries, code int64
	}{
		{"white", art("..", ".."), nil, 0, 0},
		{"white, the greatest", impl.Picture{Wide: 8, High: 8}, nil, 0, 0},
		{"one cell", art("b"), []impl.Drop{dab(0, 0, "b")}, 1, 0},
		{"the first drop at once", art("cc."), []impl.Drop{dab(0, 0, "c")}, 1, 0},
		{"the document's", art(".a.", "aab", ".bb"), []impl.Drop{dab(1, 1, "a"), dab(2, 2, "b")}, 2, 0},
		// 0, 0 leaves a cell.
		{"the second one of three", art("aaa"), []impl.Drop{dab(1, 0, "a")}, 2, 0},
		// With 1 drop each one of four leaves cells; with 2 there are 0, 0 and, behind it, 1, 0 and 2, 0.
		{"one drop is not enough", art("aaaa"), []impl.Drop{dab(2, 0, "a"), dab(0, 0, "a")}, 4 + 3, 0},
		// 1 drop is not tried for 6 cells; with 2 there are 0, 0 and five behind it, and then 1, 0 and 2, 0 and 3, 0 and 4, 0 behind it.
		{"one drop is not tried", art("aaaaaa"), []impl.Drop{dab(4, 0, "a"), dab(1, 0, "a")}, 6 + 4, 0},
		// One try for each number from 1 to 8, for nothing can be peeled behind it.
		{"a cell is left each time", art("aa.b"), nil, 8, impl.ErrNotFound},
		{"nothing can be peeled", art("a.."), nil, 0, impl.ErrNotFound},
		{"nothing can be peeled from many cells", art("abababab", "babababa"), nil, 0, impl.ErrNotFound},
		{"two whole drops", art(".a...", "aaab.", ".abbb", "...b."), []impl.Drop{dab(3, 2, "b"), dab(1, 1, "a")}, 2, 0},
		// For 41 cells no number is tried; and where they are 40, 8 are.
		{"41 cells", more, nil, 0, impl.ErrNotFound},
		{"all cells", fullArt(3), nil, 0, impl.ErrNotFound},
	} {
		checkFewest(t, c.p, impl.MaxTries, c.drops, c.tries, c.code)
		checkFewest(t, c.p, c.tries, c.drops, c.tries, c.code)
		if c.tries > 0 {
			checkFewest(t, c.p, c.tries-1, nil, 0, impl.ErrBudget)
			checkFewest(t, c.p, 0, nil, 0, impl.ErrBudget)
		}
		drops, tries, code := fewestByHand(c.p, 100)
		same(t, c.name, list(drops, tries, code), list(c.drops, c.tries, c.code))
	}
}

// TestP17ManyTries has pictures near the limits of drops and tries.
func TestP17ManyTries(t *testing.T) {
	for _, c := range []struct {
		name              string
		p                 impl.Picture
		drops             int
		tries, code, most int64 // most is the code with MaxTries
	}{
		{"MaxDrops", art("cbcaaa", "abaaab"), 8, 610, 0, 0},
		{"MaxDrops on 40 cells", eightWhole(), 8, 19, 0, 0},
		{"more than MaxDrops", art("aaabc", "caaab", "a.ac.", "baccc"), 0, 10674, impl.ErrNotFound, impl.ErrNotFound},
		{"just MaxTries", art("abccbba.", "bbbccaaa", "ab.caaa."), 7, 20000, 0, 0},
		{"one try more", art("bbcbbb", "baacba", "aaccaa"), 7, 20001, 0, impl.ErrBudget},
	} {
		drops, tries, code := fewestByHand(c.p, c.tries)
		same(t, c.name, list(len(drops), tries, code), list(c.drops, c.tries, c.code))
		checkFewest(t, c.p, c.tries-1, nil, 0, impl.ErrBudget)
		checkFewest(t, c.p, impl.MaxTries, drops, tries, c.most)
		if c.tries <= impl.MaxTries {
			checkFewest(t, c.p, c.tries, drops, tries, code)
		}
	}
	drops, code := impl.PeelAll(art("aaabc", "caaab", "a.ac.", "baccc"))
	same(t, "it is made, but by more than MaxDrops", list(len(drops) > impl.MaxDrops, code), list(true, 0))
}

func TestP17CodesOfFewest(t *testing.T) {
	p, bad := art("ab"), art("4")
	for _, n := range append([]int64{-1, impl.MaxTries + 1, -impl.MaxTries}, wild...) {
		if n == 256+1 || n == 1<<8 {
			continue // they are within the limits
		}
		_, _, c1 := impl.FewestDrops(p, n)
		_, _, c2 := impl.FewestDrops(art("."), n)
		_, _, c3 := impl.FewestDrops(bad, n)
		want := int64(impl.ErrRange)
		same(t, "budget", list(n, c1, c2, c3), list(n, want, want, 1))
	}
	for _, n := range []int64{0, 1, impl.MaxTries} {
		_, _, c1 := impl.FewestDrops(art("."), n)
		_, _, c2 := impl.FewestDrops(bad, n)
		same(t, "budget", list(n, c1, c2), list(n, 0, 1))
	}
}
