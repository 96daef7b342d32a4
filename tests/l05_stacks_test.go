package tests

import (
	"fmt"
	"math"
	"math/rand"
	"slices"
	"strings"
	"testing"

	"loop.example/g01360/impl"
)

// isStack tells by hand whether a stack is valid, if its sheets are.
func isStack(st impl.Stack) bool {
	for _, s := range st {
		if !impl.ValidSheet(s) || s.Wide != st[0].Wide || s.High != st[0].High {
			return false
		}
	}
	return len(st) <= 6
}

func TestValidStacks(t *testing.T) {
	tall := paper(t, "w", "w")
	for _, c := range []struct {
		name  string
		st    impl.Stack
		valid bool
	}{
		{"none", nil, true},
		{"no sheets", impl.Stack{}, true},
		{"one", pile(t, "8:16,0,0"), true},
		{"two", pile(t, "8:16,0,0", "0:0,0,0"), true},
		{"MaxSheets", pile(t, "w", "w", "w", "w", "w", "w"), true},
		{"one more", pile(t, "w", "w", "w", "w", "w", "w", "w"), false},
		{"many more", make(impl.Stack, 1000), false},
		{"a wider one", pile(t, "w", "w w"), false},
		{"a narrower one", pile(t, "w w", "w w", "w"), false},
		{"a wider one in the middle", pile(t, "w", "w w", "w"), false},
		{"a higher one", impl.Stack{paper(t, "w"), tall}, false},
		{"a lower one", impl.Stack{tall, tall, paper(t, "w")}, false},
		{"as many cells, but turned", impl.Stack{tall, paper(t, "w w")}, false},
		{"a sheet that is not valid", pile(t, "201:0,0,0"), false},
		{"the lowest one is not valid", pile(t, "0:0,0,0", "0:0,0,0", "0:0,0,-1"), false},
		{"the top one is not valid", pile(t, "-1:0,0,0", "0:0,0,0"), false},
		{"no sheet at all", impl.Stack{{}}, false},
		{"two that are none", impl.Stack{{}, {}}, false},
		{"too wide, all of them", impl.Stack{{Wide: 9, High: 1}, {Wide: 9, High: 1}}, false},
	} {
		same(t, c.name, list(impl.ValidStack(c.st)), list(c.valid))
	}
	r := rand.New(rand.NewSource(180))
	for range 1000 {
		good, bad := randomStack(r), brokenStack(r)
		same(t, "random", list(impl.ValidStack(good), isStack(good), impl.ValidStack(bad), isStack(bad)), list(true, true, false, false))
	}
}

func TestSameStacks(t *testing.T) {
	a, b := paper(t, "8:16,0,0"), paper(t, "8:16,0,1")
	wild := impl.Sheet{Wide: -1, High: 99}
	for _, c := range []struct {
		name string
		a, b impl.Stack
		same bool
	}{
		{"none", nil, nil, true},
		{"nil and empty", nil, impl.Stack{}, true},
		{"none and one", nil, impl.Stack{a}, false},
		{"one", impl.Stack{a}, impl.Stack{a}, true},
		{"another one", impl.Stack{a}, impl.Stack{b}, false},
		{"two", impl.Stack{a, b}, impl.Stack{a, b}, true},
		{"the other way round", impl.Stack{a, b}, impl.Stack{b, a}, false},
		{"one less", impl.Stack{a, b}, impl.Stack{a}, false},
		{"one twice", impl.Stack{a}, impl.Stack{a, a}, false},
		{"not valid", impl.Stack{a, wild}, impl.Stack{a, wild}, true},
		{"not valid, and another one", impl.Stack{a, wild}, impl.Stack{a, {Wide: -1, High: 98}}, false},
		{"too many", make(impl.Stack, 9), make(impl.Stack, 9), true},
		{"more than too many", make(impl.Stack, 9), make(impl.Stack, 10), false},
	} {
		same(t, c.name, list(impl.SameStack(c.a, c.b), impl.SameStack(c.b, c.a)), list(c.same, c.same))
	}
	same(t, "the room behind it", list(impl.SameStack(impl.Stack{a, b}[:1], impl.Stack{a, a}[:1])), list(true))
	// Each place of a sheet counts, whether it is a cell or not.
	for at := range places(impl.Sheet{Wide: 8, High: 8}) {
		x, y := at%8, at/8
		for kind := range 5 {
			other := a
			switch kind {
			case 3:
				other.Wet[y][x]++
			case 4:
				other.Wax[y] ^= 1 << x
			default:
				other.Dye[y][x][kind]++
			}
			same(t, "one place", list(at, kind, impl.SameStack(impl.Stack{a, a}, impl.Stack{a, other})), list(at, kind, false))
		}
	}
}

func TestPutSheets(t *testing.T) {
	s := paper(t, "9:9,9,9")
	six := pile(t, "1:0,0,0", "2:0,0,0", "3:0,0,0", "4:0,0,0", "5:0,0,0", "6:0,0,0")
	for _, c := range []struct {
		name  string
		st    impl.Stack
		at    int64
		s     impl.Sheet
		water string
		code  int64
	}{
		{"at the top", six[:3], 0, s, "9 1 2 3", 0},
		{"below the top one", six[:3], 1, s, "1 9 2 3", 0},
		{"above the lowest one", six[:3], 2, s, "1 2 9 3", 0},
		{"at the end", six[:3], 3, s, "1 2 3 9", 0},
		{"beyond the end", six[:3], 4, s, "", 2},
		{"at less than 0", six[:3], -1, s, "", 2},
		{"into none", nil, 0, s, "9", 0},
		{"into none, beyond", nil, 1, s, "", 2},
		{"into an empty one, a large sheet", impl.Stack{}, 0, impl.Sheet{Wide: 8, High: 8}, "0", 0},
		{"above the only one", six[:1], 0, s, "9 1", 0},
		{"below the only one", six[:1], 1, s, "1 9", 0},
		{"the last one that may be", six[:5], 5, s, "1 2 3 4 5 9", 0},
		{"the last one that may be, at the top", six[:5], 0, s, "9 1 2 3 4 5", 0},
		{"one more, at the end", six, 6, s, "", 3},
		{"one more, at the top", six, 0, s, "", 3},
		{"one more, beyond", six, 7, s, "", 2},
		{"a wider sheet", six[:3], 1, paper(t, "w w"), "", 4},
		{"a higher sheet", six[:3], 1, paper(t, "w", "w"), "", 4},
		{"a wider sheet, beyond", six[:3], 4, paper(t, "w w"), "", 2},
		{"a wider sheet, and one more", six, 6, paper(t, "w w"), "", 4},
		{"a wider sheet, one more, and beyond", six, 7, paper(t, "w w"), "", 2},
		{"no sheet", six[:3], 1, impl.Sheet{}, "", 1},
		{"no sheet into none", nil, 0, impl.Sheet{}, "", 1},
		{"a sheet that is not valid, and all else", six, 7, paper(t, "201:0,0,0 w"), "", 1},
		{"a stack that is not valid, and all else", append(slices.Clone(six), s), 9, paper(t, "w w"), "", 1},
		{"a stack that is not valid", pile(t, "w", "w w"), 1, paper(t, "w w"), "", 1},
	} {
		st, code := impl.PutSheet(c.st, c.at, c.s)
		same(t, c.name, list(code, stackWaters(st)), list(c.code, c.water))
	}
	for _, n := range wild {
		_, c1 := impl.PutSheet(six[:3], n, s)
		_, c2 := impl.PutSheet(nil, n, s)
		_, _, c3 := impl.TakeSheet(six[:3], n)
		same(t, "wild numbers", list(n, c1, c2, c3), list(n, 2, 2, 2))
	}
}

// stackWaters returns the water of the first cells of all sheets.
func stackWaters(st impl.Stack) string {
	var words []string
	for _, s := range st {
		words = append(words, fmt.Sprint(s.Wet[0][0]))
	}
	return strings.Join(words, " ")
}

func TestTakeSheets(t *testing.T) {
	six := pile(t, "1:0,0,0", "2:0,0,0", "3:0,0,0", "4:0,0,0", "5:0,0,0", "6:0,0,0")
	for _, c := range []struct {
		name  string
		st    impl.Stack
		at    int64
		left  string
		taken int16
		code  int64
	}{
		{"the top one", six[:3], 0, "2 3", 1, 0},
		{"the middle one", six[:3], 1, "1 3", 2, 0},
		{"the lowest one", six[:3], 2, "1 2", 3, 0},
		{"the only one", six[:1], 0, "", 1, 0},
		{"the lowest one of MaxSheets", six, 5, "1 2 3 4 5", 6, 0},
		{"the top one of MaxSheets", six, 0, "2 3 4 5 6", 1, 0},
		{"beyond", six[:3], 3, "", 0, 2},
		{"at less than 0", six[:3], -1, "", 0, 2},
		{"of none", nil, 0, "", 0, 2},
		{"of none, at less than 0", impl.Stack{}, -1, "", 0, 2},
		{"of one, beyond", six[:1], 1, "", 0, 2},
		{"of what is not valid", pile(t, "w", "w w"), 0, "", 0, 1},
		{"of what is not valid, beyond", append(slices.Clone(six), six[0]), 7, "", 0, 1},
	} {
		st, s, code := impl.TakeSheet(c.st, c.at)
		same(t, c.name, list(code, stackWaters(st), s.Wet[0][0], impl.ValidStack(st)), list(c.code, c.left, c.taken, true))
	}
}

func TestPutAndTakeSheetsOfManyStacks(t *testing.T) {
	r := rand.New(rand.NewSource(181))
	for range 500 {
		st := stackOf(r, 1+r.Intn(5))
		s := sheetLike(r, st[0])
		for at := range len(st) + 1 {
			put, c1 := impl.PutSheet(st, int64(at), s)
			back, taken, c2 := impl.TakeSheet(put, int64(at))
			if c1 != impl.OK || c2 != impl.OK || taken != s || !slices.Equal(back, st) || len(put) != len(st)+1 || put[at] != s {
				t.Fatalf("put at %d of %d: codes %d and %d", at, len(st), c1, c2)
			}
			for i := range st {
				lower := i
				if i >= at {
					lower++
				}
				if put[lower] != st[i] {
					t.Fatalf("put at %d of %d: the sheet %d is another one", at, len(st), i)
				}
			}
			dyes, c3 := impl.DyeOf(put)
			same(t, "dyes", list(dyes, c3), list(stackTotals(put)))
		}
	}
}

// stackTotals returns the dyes of all sheets together, and OK.
func stackTotals(st impl.Stack) ([3]int64, int) {
	var sums [3]int64
	for _, s := range st {
		dye, _ := totals(s)
		for ink := range sums {
			sums[ink] += dye[ink]
		}
	}
	return sums, 0
}

func TestDyesOfStacks(t *testing.T) {
	full := impl.Sheet{Wide: 8, High: 8}
	for _, at := range places(full) {
		full.Dye[at.Y][at.X] = [3]int16{1000, 1000, 999}
	}
	for _, c := range []struct {
		name string
		st   impl.Stack
		want [3]int64
		code int64
	}{
		{"none", nil, [3]int64{}, 0},
		{"one", pile(t, "8:16,0,0 0:1,2,3"), [3]int64{17, 2, 3}, 0},
		{"two", pile(t, "8:16,0,0 w", "w 0:1,2,3"), [3]int64{17, 2, 3}, 0},
		{"no dye", pile(t, "8:0,0,0", "w"), [3]int64{}, 0},
		{"as much as can be", impl.Stack{full, full, full, full, full, full}, [3]int64{384000, 384000, 383616}, 0},
		{"not valid", impl.Stack{full, full, full, full, full, full, full}, [3]int64{}, 1},
	} {
		got, code := impl.DyeOf(c.st)
		same(t, c.name, list(got, code), list(c.want, c.code))
	}
}

func TestTurnedStacks(t *testing.T) {
	for _, c := range []struct {
		name     string
		st, want impl.Stack
	}{
		{"none", nil, nil},
		{"one", pile(t, "1:2,3,4 w 0:0,0,5"), pile(t, "0:0,0,5 w 1:2,3,4")},
		{"two", pile(t, "8:16,0,0 0:0,0,0", "w 5:0,5,0"), pile(t, "5:0,5,0 w", "0:0,0,0 8:16,0,0")},
		{"three", pile(t, "1:0,0,0 w", "2:0,0,0 w", "3:0,0,0 w"), pile(t, "w 3:0,0,0", "w 2:0,0,0", "w 1:0,0,0")},
		{"rows stay", impl.Stack{paper(t, "1:0,0,0 2:0,0,0", "3:0,0,0 4:0,0,0")}, impl.Stack{paper(t, "2:0,0,0 1:0,0,0", "4:0,0,0 3:0,0,0")}},
	} {
		got, code := impl.TurnStack(c.st)
		same(t, c.name, list(got, code), list(c.want, 0))
	}
	r := rand.New(rand.NewSource(182))
	for range 300 {
		st := randomStack(r)
		turned, c1 := impl.TurnStack(st)
		for i, s := range st {
			mirrored := picked(s, s.Wide, s.High, func(x, y int8) (int8, int8) { return s.Wide - 1 - x, y })
			if turned[len(st)-1-i] != mirrored {
				t.Fatalf("the sheet %d of %+v has become %+v", i, st, turned)
			}
		}
		again, c2 := impl.TurnStack(turned)
		same(t, "turned twice", list(again, len(turned), c1, c2), list(st, len(st), 0, 0))
	}
}

func TestReachedSheets(t *testing.T) {
	st := pile(t, "9:1,0,0 w", "9:0,0,0 0:1,0,5", "9:0,0,0 0:0,0,0", "w 0:1000,0,1")
	for _, c := range []struct {
		name string
		st   impl.Stack
		ink  int64
		want []int64
		code int64
	}{
		{"some", st, 0, []int64{0, 1, 3}, 0},
		{"none of them", st, 1, nil, 0},
		{"others", st, 2, []int64{1, 3}, 0},
		{"all", pile(t, "0:1,0,0", "0:1,0,0", "0:1,0,0", "0:1,0,0", "0:1,0,0", "0:1,0,0"), 0, []int64{0, 1, 2, 3, 4, 5}, 0},
		{"the lowest one", st[2:], 2, []int64{1}, 0},
		{"no sheets", nil, 2, nil, 0},
		{"ink 3", st, 3, nil, 2},
		{"ink -1", st, -1, nil, 2},
		{"ink 3 of no sheets", nil, 3, nil, 2},
		{"not valid", pile(t, "w", "w w"), 0, nil, 1},
		{"not valid, and ink 3", pile(t, "w", "w w"), 3, nil, 1},
		{"a very large ink", st, math.MaxInt64, nil, 2},
		{"ink 2 to the power 32", st, 1 << 32, nil, 2},
	} {
		got, code := impl.ReachedBy(c.st, c.ink)
		same(t, c.name, list(got, code), list(c.want, c.code))
	}
	r := rand.New(rand.NewSource(183))
	for range 500 {
		st := randomStack(r)
		for ink := range int64(3) {
			var want []int64
			for i, s := range st {
				if dye, _ := totals(s); dye[ink] != 0 {
					want = append(want, int64(i))
				}
			}
			got, code := impl.ReachedBy(st, ink)
			same(t, "random", list(got, code), list(want, 0))
		}
	}
}

func TestSeenThrough(t *testing.T) {
	st := pile(t, "0:4,0,0 0:0,5,0 0:0,0,0 w 0:2,2,0 0:0,0,0", "0:0,9,0 0:0,0,9 w 0:9,0,0 0:0,1,5 0:1,0,0", "0:0,0,9 0:9,0,0 0:9,0,0 0:9,0,0 0:5,5,5 0:1,1,1")
	for _, c := range []struct {
		name  string
		st    impl.Stack
		least int64
		want  string
		code  int64
	}{
		{"every dye", st, 1, "abwwma\n", 0},
		{"too light, and just dark enough", st, 4, "abwwm.\n", 0},
		{"one more", st, 5, "bbwwc.\n", 0},
		{"one more than the top one has", st, 6, "bcwwc.\n", 0},
		{"through two", st, 7, "bcwwm.\n", 0},
		{"just the lowest one", st, 15, "..wwm.\n", 0},
		{"through all", st, 16, "..ww..\n", 0},
		{"as dark as can be", st, 3000, "..ww..\n", 0},
		{"all inks of a cell together", pile(t, "0:1,2,3", "0:1000,1000,1000"), 6, "c\n", 0},
		{"as dark as can be, and it is", pile(t, "0:1000,1000,999", "0:1000,1000,1000"), 3000, "m\n", 0},
		{"one less", pile(t, "0:1000,1000,999", "0:1000,1000,1000"), 2999, "m\n", 0},
		{"one sheet", st[:1], 5, ".b.w..\n", 0},
		{"one sheet that is plain", pile(t, "9:0,0,0 0:0,0,0"), 1, "..\n", 0},
		{"no sheets", nil, 1, "", 0},
		{"no sheets, not nil", impl.Stack{}, 3000, "", 0},
		{"wax on top", pile(t, "w", "0:9,0,0"), 1, "w\n", 0},
		{"wax below what is dark enough", pile(t, "0:9,0,0", "w"), 9, "a\n", 0},
		{"wax below what is too light", pile(t, "0:9,0,0", "w"), 10, "w\n", 0},
		{"rows", impl.Stack{paper(t, "0:1,0,0 0:0,0,0", "w 0:0,0,0"), paper(t, "0:0,2,0 0:0,0,0", "0:1,0,0 0:0,0,2")}, 2, "b.\nwc\n", 0},
		{"least 0", st, 0, "", 2},
		{"least 3001", st, 3001, "", 2},
		{"least 0 of no sheets", nil, 0, "", 2},
		{"not valid", pile(t, "w", "w w"), 1, "", 1},
		{"not valid, and least 0", pile(t, "w", "w w"), 0, "", 1},
	} {
		got, code := impl.SeenThrough(c.st, c.least)
		same(t, c.name, list(got, code), list(c.want, c.code))
	}
	for _, n := range wild {
		got, code := impl.SeenThrough(st, n)
		if n == 256+1 || n == 1<<8 {
			same(t, "large numbers", list(n, got, code), list(n, "..ww..\n", 0))
		} else {
			same(t, "wild numbers", list(n, got, code), list(n, "", 2))
		}
	}
}

// seenByHand goes through the stack from its lowest sheet up, and writes what hides the rest.
func seenByHand(st impl.Stack, least int64) string {
	if len(st) == 0 {
		return ""
	}
	text := ""
	for _, at := range places(st[0]) {
		letter := "."
		for _, s := range slices.Backward(st) {
			if darkOf(s, at) >= least {
				letter = string("abcm"[colourByHand(s.Dye[at.Y][at.X])])
			}
			if waxedAt(s, at) {
				letter = "w"
			}
		}
		text += letter
		if at.X == st[0].Wide-1 {
			text += "\n"
		}
	}
	return text
}

func TestSeenThroughManyStacks(t *testing.T) {
	r := rand.New(rand.NewSource(184))
	for range 1000 {
		st := randomStack(r)
		least := int64(1 + r.Intn([]int{2, 10, 300, 3000}[r.Intn(4)]))
		got, code := impl.SeenThrough(st, least)
		same(t, "random", list(got, code), list(seenByHand(st, least), 0))
		if len(st) == 1 {
			picture, _ := impl.PictureOf(st[0])
			seen, _ := impl.SeenThrough(st, 1)
			same(t, "one sheet", list(seen), list(picture))
		}
	}
}
