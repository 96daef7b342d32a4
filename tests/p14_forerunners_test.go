package tests

import (
	"fmt"
	"math/bits"
	"math/rand"
	"slices"
	"strings"
	"testing"

	"loop.example/g01360/impl"
)

// bitOf is the bit of a cell in a set; sets are bits by row and then by column here.
func bitOf(at impl.Spot) uint64 { return 1 << (int(at.Y)*8 + int(at.X)) }

func bitsOf(cells []impl.Spot) uint64 {
	set := uint64(0)
	for _, at := range cells {
		set |= bitOf(at)
	}
	return set
}

func spotsOf(set uint64) []impl.Spot {
	var cells []impl.Spot
	for ; set != 0; set &= set - 1 {
		i := bits.TrailingZeros64(set)
		cells = append(cells, spot(int8(i%8), int8(i/8)))
	}
	return cells
}

// unwaxedBits returns all cells of a sheet that are not waxed.
func unwaxedBits(s impl.Sheet) uint64 {
	return bitsOf(slices.DeleteFunc(places(s), func(at impl.Spot) bool { return waxedAt(s, at) }))
}

// spreadByHand spreads a set on some cells, all of it at once.
func spreadByHand(free, set uint64) uint64 {
	const west, east = 0x0101010101010101, 0x8080808080808080
	set &= free
	return (set | set<<8 | set>>8 | set&^east<<1 | set&^west>>1) & free
}

func spreadTimes(free, set uint64, steps int) uint64 {
	set &= free
	for range steps {
		set = spreadByHand(free, set)
	}
	return set
}

// innerByHand takes away what a spread of all other cells reaches.
func innerByHand(free, set uint64) uint64 {
	return free &^ spreadByHand(free, free&^set)
}

// keyOf is less for lists that come earlier: those with fewer cells, and then as lists.
func keyOf(set uint64) string {
	key := fmt.Sprintf("%02d", bits.OnesCount64(set))
	for _, at := range spotsOf(set) {
		key += fmt.Sprintf(" %d%d", at.Y, at.X)
	}
	return key
}

// forerunnersByHand tries all parts of a set.
func forerunnersByHand(free, set uint64) []uint64 {
	var found []uint64
	for part := set; ; part = (part - 1) & set {
		if spreadByHand(free, part) == set {
			found = append(found, part)
		}
		if part == 0 {
			break
		}
	}
	slices.SortFunc(found, func(a, b uint64) int { return strings.Compare(keyOf(a), keyOf(b)) })
	return found
}

// drawn returns the cells that are marked by "x" in rows.
func drawn(rows ...string) []impl.Spot {
	var cells []impl.Spot
	for y, row := range rows {
		for x, c := range row {
			if c == 'x' {
				cells = append(cells, spot(int8(x), int8(y)))
			}
		}
	}
	return cells
}

// TestP14AllSetsOfSmallSheets spreads all sets of all sheets with 3 columns and 3 rows, with any wax, and then looks back from each one.
func TestP14AllSetsOfSmallSheets(t *testing.T) {
	for wax := range 1 << 9 {
		s := impl.Sheet{Wide: 3, High: 3}
		for i, at := range places(s) {
			s.Wax[at.Y] |= uint8(wax>>i&1) << at.X
		}
		free := unwaxedBits(s)
		makers, pasts := map[uint64][]uint64{}, map[uint64]int{}
		for set := free; ; set = (set - 1) & free {
			next := spreadByHand(free, set)
			makers[next] = append(makers[next], set)
			for steps, now := 0, set; steps <= 16; steps, now = steps+1, spreadByHand(free, now) {
				pasts[now] = max(pasts[now], steps)
			}
			if set == 0 {
				break
			}
		}
		for set := free; set != 0; set = (set - 1) & free {
			checkBackward(t, s, set, makers[set], pasts[set])
		}
		checkBackward(t, s, 0, makers[0], pasts[0])
	}
}

// checkBackward fails the test if the program does not tell just those forerunners, and that past, of a set.
func checkBackward(t *testing.T, s impl.Sheet, set uint64, makers []uint64, past int) {
	t.Helper()
	slices.SortFunc(makers, func(a, b uint64) int { return strings.Compare(keyOf(a), keyOf(b)) })
	var want [][]impl.Spot
	for _, maker := range makers {
		want = append(want, spotsOf(maker))
	}
	cells := spotsOf(set)
	has, c1 := impl.HasForerunner(s, cells)
	all, c2 := impl.Forerunners(s, cells)
	least, c3 := impl.LeastForerunner(s, cells)
	longest, c4 := impl.LongestPast(s, cells)
	if has != (len(makers) > 0) || c1 != impl.OK || longest != int64(past) || c4 != impl.OK {
		t.Fatalf("%v on %+v: forerunner %v, code %d, past %d, code %d, want %d", cells, s, has, c1, longest, c4, past)
	}
	switch {
	case len(makers) > impl.MaxForerunners:
		want = nil
		same(t, "too many", list(len(all), c2), list(0, impl.ErrLimit))
	default:
		same(t, "forerunners", list(all, c2), list(want, 0))
	}
	switch {
	case len(makers) == 0:
		same(t, "no least one", list(len(least), c3), list(0, impl.ErrNotFound))
	default:
		same(t, "least one", list(least, c3), list(spotsOf(makers[0]), 0))
	}
	if t.Failed() {
		t.Fatalf("of %v on %+v", cells, s)
	}
}

// randomSet returns at most so many cells that are not waxed, most of them side by side.
func randomSet(r *rand.Rand, s impl.Sheet, most int) []impl.Spot {
	at, some := unwaxedPlace(r, s)
	if !some {
		return nil
	}
	cells, set := []impl.Spot{at}, bitOf(at)
	for range 3 * most {
		next := besides(s, cells[r.Intn(len(cells))])
		if r.Intn(12) == 0 {
			at, _ = unwaxedPlace(r, s)
			next = []impl.Spot{at}
		}
		if len(next) > 0 && bits.OnesCount64(set) < most {
			at = next[r.Intn(len(next))]
			cells, set = append(cells, at), set|bitOf(at)
		}
	}
	return spotsOf(set)
}

func TestP14ForerunnersOfManySets(t *testing.T) {
	r := rand.New(rand.NewSource(230))
	counts := map[string]int{}
	for i := range 500 {
		s := sheetLike(r, somewhatWaxed(r))
		set := bitsOf(randomSet(r, s, 1+r.Intn(impl.MaxTarget)))
		if i%10 == 0 { // many forerunners
			s = sheetLike(r, impl.Sheet{Wide: 4, High: 3})
			set = unwaxedBits(s)
		}
		free := unwaxedBits(s)
		makers := forerunnersByHand(free, set)
		past := 0
		for steps := 1; steps <= 16; steps++ {
			if furthest := pastByHand(free, set, steps); spreadTimes(free, furthest, steps) == set {
				past = steps
			}
		}
		checkBackward(t, s, set, makers, past)
		switch {
		case len(makers) == 0:
			counts["none"]++
		case len(makers) == 1:
			counts["one"]++
		case len(makers) > impl.MaxForerunners:
			counts["too many"]++
		default:
			counts["several"]++
		}
	}
	for _, kind := range []string{"none", "one", "several", "too many"} {
		if counts[kind] < 5 {
			t.Errorf("only %v of the sets", counts)
		}
	}
}

// pastByHand returns all cells from which so many spreads reach no cell beyond a set.
func pastByHand(free, set uint64, steps int) uint64 {
	past := uint64(0)
	for _, at := range spotsOf(free) {
		if spreadTimes(free, bitOf(at), steps)&^set == 0 {
			past |= bitOf(at)
		}
	}
	return past
}

// TestP14ForerunnersMakeTheirSets lets the program itself spread what it tells.
func TestP14ForerunnersMakeTheirSets(t *testing.T) {
	r := rand.New(rand.NewSource(231))
	for range 300 {
		s := sheetLike(r, somewhatWaxed(r))
		some := randomSet(r, s, 1+r.Intn(4))
		set, _ := impl.SpreadCells(s, some)
		has, code := impl.HasForerunner(s, wildly(r, set))
		same(t, "a set that has been spread", list(has, code), list(true, 0))
		least, code := impl.LeastForerunner(s, wildly(r, set))
		if code == impl.ErrLimit && len(set) > impl.MaxTarget {
			continue
		}
		if again, _ := impl.SpreadCells(s, least); code != impl.OK || !slices.Equal(again, set) || len(least) > len(some) {
			t.Fatalf("%v spreads to %v; least is %v, code %d", some, set, least, code)
		}
		all, code := impl.Forerunners(s, wildly(r, set))
		for _, one := range all {
			if again, _ := impl.SpreadCells(s, one); !slices.Equal(again, set) || len(one) < len(least) {
				t.Fatalf("%v is no forerunner of %v: it spreads to %v", one, set, again)
			}
		}
		if code == impl.OK && !slices.ContainsFunc(all, func(one []impl.Spot) bool { return slices.Equal(one, some) }) {
			t.Fatalf("%v is missing from %v", some, all)
		}
	}
}

// TestP14LongPasts spreads sets several times: their past is as long at least, and the cells behind it make them again.
func TestP14LongPasts(t *testing.T) {
	r := rand.New(rand.NewSource(232))
	pasts := map[int64]int{}
	for range 600 {
		s := somewhatWaxed(r)
		if r.Intn(3) == 0 {
			s = maze(0)
		}
		steps := int64(r.Intn(17))
		set, _ := impl.SpreadSteps(s, randomSet(r, s, 1+r.Intn(3)), steps)
		free := unwaxedBits(s)
		want := int64(0)
		for n := 1; n <= 16; n++ {
			if spreadTimes(free, pastByHand(free, bitsOf(set), n), n) == bitsOf(set) {
				want = int64(n)
			}
		}
		got, code := impl.LongestPast(s, wildly(r, set))
		if got != want || code != impl.OK || got < steps {
			t.Fatalf("%v on %v, behind %d steps: %d, code %d, want %d", set, s.Wax, steps, got, code, want)
		}
		pasts[got]++
	}
	for n := range int64(17) {
		if pasts[n] == 0 {
			t.Errorf("no set had a past of %d: %v", n, pasts)
		}
	}
}

func TestP14SpreadsAndInnerCells(t *testing.T) {
	r := rand.New(rand.NewSource(233))
	for range 1500 {
		s := sheetLike(r, somewhatWaxed(r))
		all := places(s)
		var cells []impl.Spot
		for range oneOf(r, 0, 1, r.Intn(10), r.Intn(100)) {
			cells = append(cells, all[r.Intn(len(all))]) // waxed ones and cells that come twice are among them
		}
		free, set := unwaxedBits(s), bitsOf(cells)
		steps := oneOf(r, 0, 1, r.Intn(17), 16)
		once, c1 := impl.SpreadCells(s, cells)
		often, c2 := impl.SpreadSteps(s, cells, int64(steps))
		inner, c3 := impl.InnerCells(s, cells)
		same(t, "spread", list(once, c1), list(spotsOf(spreadByHand(free, set)), 0))
		same(t, "steps", list(often, c2), list(spotsOf(spreadTimes(free, set, steps)), 0))
		same(t, "inner", list(inner, c3), list(spotsOf(innerByHand(free, set)), 0))
		if t.Failed() {
			t.Fatalf("%d steps of %v on %+v", steps, cells, s)
		}
	}
}

func TestP14DrawnSets(t *testing.T) {
	cross := inked("00000", "00000", "00000")
	waxed := inked("0w00", "00w0", "w000")
	row := inked("00000000")
	for _, c := range []struct {
		name          string
		s             impl.Sheet
		set           []string
		spread, inner []string
		past, count   int64 // of a set with a waxed cell none is asked for
	}{
		{"the middle", cross, []string{".....", "..x.."}, []string{"..x..", ".xxx.", "..x.."}, nil, 0, 0},
		{"a cross", cross, []string{"..x..", ".xxx.", "..x.."}, []string{".xxx.", "xxxxx", ".xxx."}, []string{".....", "..x.."}, 1, 1},
		{"a corner", cross, []string{"x"}, []string{"xx", "x"}, nil, 0, 0},
		{"beside a corner", cross, []string{"xx...", "x...."}, []string{"xxx", "xx", "x"}, []string{"x"}, 1, 1},
		{"the other corner", cross, []string{".....", "....x", "...xx"}, []string{"....x", "...xx", "..xxx"}, []string{".....", ".....", "....x"}, 1, 1},
		{"a line of all columns", cross, []string{"xxxxx"}, []string{"xxxxx", "xxxxx"}, nil, 0, 0},
		{"no cells", cross, nil, nil, nil, 16, 1},
		{"around wax", waxed, []string{"x"}, []string{"x...", "x..."}, nil, 0, 0},
		{"a set beside wax", waxed, []string{"x...", "xx..", ".x.."}, []string{"x...", "xx..", ".xx."}, []string{"x...", "xx.."}, 3, 3},
		{"a set that is shut in", inked("0w0", "ww0"), []string{"x"}, []string{"x"}, []string{"x"}, 16, 1},
		{"waxed cells in the set", waxed, []string{"xxx.", "..x.", "x..."}, []string{"x.xx", "x..."}, nil, -1, 0},
		{"only waxed cells", waxed, []string{".x..", "..x.", "x..."}, nil, nil, -1, 0},
		{"inside wax", inked("000", "0w0", "000"), []string{"xxx", "x.x", "xxx"}, []string{"xxx", "x.x", "xxx"}, []string{"xxx", "x.x", "xxx"}, 16, 131},
		{"the whole sheet", inked("000"), []string{"xxx"}, []string{"xxx"}, []string{"xxx"}, 16, 5},
		{"two steps", row, []string{"xxx"}, []string{"xxxx"}, []string{"xx"}, 2, 2},
		{"seven steps", row, []string{"xxxxxxx"}, []string{"xxxxxxxx"}, []string{"xxxxxx"}, 6, 20},
	} {
		set := drawn(c.set...)
		spread, c1 := impl.SpreadCells(c.s, set)
		inner, c2 := impl.InnerCells(c.s, set)
		same(t, c.name, list(spread, c1, inner, c2), list(drawn(c.spread...), 0, drawn(c.inner...), 0))
		past, c3 := impl.LongestPast(c.s, set)
		has, c4 := impl.HasForerunner(c.s, set)
		all, c5 := impl.Forerunners(c.s, set)
		if c.past < 0 {
			same(t, c.name, list(c3, c4, c5), list(4, 4, 4))
			continue
		}
		same(t, c.name, list(past, c3, has, c4, len(all), c5), list(c.past, 0, c.count > 0, 0, c.count, 0))
	}
}

// TestP14LimitsOfForerunners has sets with just MaxForerunners and MaxTarget, and with one more, and cells told twice.
func TestP14LimitsOfForerunners(t *testing.T) {
	just := drawn("xxxx", ".xxx", ".xxx")
	more := drawn("...", ".x.", "xxx", "xx.", "xxx")
	for _, c := range []struct {
		name  string
		s     impl.Sheet
		set   []impl.Spot
		count int
		code  int64
		least string
	}{
		{"just MaxForerunners", inked("0000", "w000", "0000"), just, 200, impl.OK, "[{1 0} {3 0} {2 2}] 0"},
		{"one more", inked("0ww", "w0w", "000", "00w", "000"), more, 0, impl.ErrLimit, ""},
		{"just MaxTarget cells", inked("00000000", "00000000"), drawn("xxxxxx", "xxxxxx"), 177, impl.OK, ""},
		{"one more cell", inked("00000000", "00000000"), drawn("xxxxxxx", "xxxxxx"), 0, impl.ErrLimit, "[] 3"},
		{"many cells, and none before them", inked("00000000", "00000000"), drawn("x.x.x.x.", ".x.x.x.x"), 0, impl.OK, "[] 6"},
		{"too many cells, and none before them", inked("00000000", "00000000", "00000000", "00000000"), drawn("x.x.x.x.", ".x.x.x.x", "x.x.x.x.", ".x"), 0, impl.ErrLimit, "[] 3"},
		{"all cells of a sheet", inked("00000000", "00000000"), drawn("xxxxxxxx", "xxxxxxxx"), 0, impl.ErrLimit, "[] 3"},
		{"no cells", inked("00"), nil, 1, impl.OK, "[] 0"},
		{"one cell without a forerunner", inked("00"), drawn("x"), 0, impl.OK, "[] 6"},
	} {
		all, code := impl.Forerunners(c.s, c.set)
		same(t, c.name, list(len(all), code), list(c.count, c.code))
		least, none := impl.LeastForerunner(c.s, c.set)
		if got := fmt.Sprint(least, none); got != c.least && c.least != "" {
			t.Errorf("%s: least %s, want %s", c.name, got, c.least)
		}
		again, code := impl.Forerunners(c.s, slices.Concat(c.set, c.set, c.set))
		same(t, c.name+", each one three times", list(again, code), list(all, c.code))
	}
}

func TestP14OrderOfForerunners(t *testing.T) {
	s := inked("000")
	all, code := impl.Forerunners(s, drawn("xxx"))
	same(t, "a row", list(all, code), list("[[{1 0}] [{0 0} {1 0}] [{0 0} {2 0}] [{1 0} {2 0}] [{0 0} {1 0} {2 0}]]", 0))
	// By Y first: 1, 0 comes before 0, 1.
	all, code = impl.Forerunners(inked("00", "00"), drawn("xx", "xx"))
	same(t, "a square", list(fmt.Sprint(all[:6]), len(all), code), list("[[{0 0} {1 0}] [{0 0} {0 1}] [{0 0} {1 1}] [{1 0} {0 1}] [{1 0} {1 1}] [{0 1} {1 1}]]", 11, 0))
}

func TestP14CodesOfSets(t *testing.T) {
	s := inked("00w", "000")
	bad := s
	bad.Wet[0][2] = 1
	many := inked("0000000w", "00000000")
	fine, waxed, out := drawn("x"), drawn("x.x"), drawn("x..x")
	lots, lotsWaxed := drawn("xxxxxxx", "xxxxxxxx"), drawn("xxxxxxxx", "xxxxxxxx")
	for _, c := range []struct {
		name  string
		s     impl.Sheet
		set   []impl.Spot
		steps int64
		want  [7]int64 // SpreadCells, SpreadSteps, InnerCells, HasForerunner, Forerunners, LeastForerunner, LongestPast
	}{
		{"fine", s, fine, 16, [7]int64{0, 0, 0, 0, 0, 6, 0}},
		{"no step", s, fine, 0, [7]int64{0, 0, 0, 0, 0, 6, 0}},
		{"one step too many", s, fine, 17, [7]int64{0, 2, 0, 0, 0, 6, 0}},
		{"a step back", s, fine, -1, [7]int64{0, 2, 0, 0, 0, 6, 0}},
		{"a waxed cell", s, waxed, 0, [7]int64{0, 0, 0, 4, 4, 4, 4}},
		{"a waxed cell, and too many steps", s, waxed, 17, [7]int64{0, 2, 0, 4, 4, 4, 4}},
		{"a cell outside", s, out, 0, [7]int64{2, 2, 2, 2, 2, 2, 2}},
		{"a cell far outside", s, []impl.Spot{spot(-128, 127)}, 0, [7]int64{2, 2, 2, 2, 2, 2, 2}},
		{"a cell to the north", s, []impl.Spot{spot(0, -1)}, 0, [7]int64{2, 2, 2, 2, 2, 2, 2}},
		{"a cell to the south", s, []impl.Spot{spot(0, 2)}, 0, [7]int64{2, 2, 2, 2, 2, 2, 2}},
		{"a waxed cell, and one outside", s, append(slices.Clone(waxed), out...), 0, [7]int64{2, 2, 2, 2, 2, 2, 2}},
		{"too many cells", many, lots, 0, [7]int64{0, 0, 0, 0, 3, 3, 0}},
		{"too many cells, and a waxed one", many, lotsWaxed, 0, [7]int64{0, 0, 0, 4, 4, 4, 4}},
		{"too many cells, and one outside", many, append(slices.Clone(lotsWaxed), spot(8, 0)), 0, [7]int64{2, 2, 2, 2, 2, 2, 2}},
		{"no cells", s, nil, 16, [7]int64{0, 0, 0, 0, 0, 0, 0}},
		{"sheet that is not valid", bad, append(slices.Clone(waxed), out...), 17, [7]int64{1, 1, 1, 1, 1, 1, 1}},
	} {
		var got [7]int64
		_, got[0] = impl.SpreadCells(c.s, c.set)
		_, got[1] = impl.SpreadSteps(c.s, c.set, c.steps)
		_, got[2] = impl.InnerCells(c.s, c.set)
		_, got[3] = impl.HasForerunner(c.s, c.set)
		_, got[4] = impl.Forerunners(c.s, c.set)
		_, got[5] = impl.LeastForerunner(c.s, c.set)
		_, got[6] = impl.LongestPast(c.s, c.set)
		if got != c.want {
			t.Errorf("%s: codes %v, want %v", c.name, got, c.want)
		}
	}
	for _, n := range wild {
		_, code := impl.SpreadSteps(s, fine, n)
		same(t, "wild", list(n, code), list(n, 2))
	}
}
