package tests

import (
	"math"
	"math/rand"
	"testing"

	"loop.example/g01360/impl"
)

// rinseByHand takes ink out of a sheet; a part is counted up until it is no less than the share.
func rinseByHand(s impl.Sheet, share int) (impl.Sheet, [3]int64) {
	var out [3]int64
	for _, at := range places(s) {
		for ink := range out {
			part := leftByHand(s.Dye[at.Y][at.X][ink], int16(share), 1000)
			s.Dye[at.Y][at.X][ink] -= int16(part)
			out[ink] += part
		}
	}
	return s, out
}

// bathsByHand returns what each one of MaxPasses rinses takes out, and the sheets from the first one on.
func bathsByHand(s impl.Sheet, share int) ([][3]int64, []impl.Sheet) {
	baths, sheets := [][3]int64{}, []impl.Sheet{s}
	for range impl.MaxPasses {
		after, out := rinseByHand(s, share)
		s = after
		baths, sheets = append(baths, out), append(sheets, s)
	}
	return baths, sheets
}

func inkSum(dye [3]int64) int64 { return dye[0] + dye[1] + dye[2] }

func TestP12RinsesOfManySheets(t *testing.T) {
	r := rand.New(rand.NewSource(200))
	for range 1500 {
		s, share := randomSheet(r), 1+r.Intn(15)
		want, out := rinseByHand(s, share)
		got, gone, code := impl.RinseOnce(s, int64(share))
		if got != want || gone != out || code != impl.OK {
			t.Fatalf("share %d of %+v: %+v, %v, code %d", share, s, got, gone, code)
		}
		checkRinsed(t, s, got, gone)
	}
}

// checkRinsed fails the test if not just that has been taken out which the sheet has lost, or if anything but dye has changed.
func checkRinsed(t *testing.T, s, after impl.Sheet, gone [3]int64) {
	t.Helper()
	was, _ := totals(s)
	is, _ := totals(after)
	for ink := range was {
		if is[ink]+gone[ink] != was[ink] || gone[ink] < 0 {
			t.Fatalf("of %v of the ink %d %v are left, and %v are gone", was, ink, is, gone)
		}
	}
	if after.Wet != s.Wet || waxOf(after) != waxOf(s) || !impl.ValidSheet(after) {
		t.Fatalf("%+v has become %+v", s, after)
	}
}

func TestP12BathsOfManySheets(t *testing.T) {
	r := rand.New(rand.NewSource(201))
	for range 120 {
		s, share := randomSheet(r), 1+r.Intn(15)
		want, sheets := bathsByHand(s, share)
		for rinses := range impl.MaxPasses + 1 {
			if rinses > 5 && rinses%19 != 5 { // 100 is among them
				continue
			}
			got, code := impl.BathsFor(s, int64(share), int64(rinses))
			same(t, "baths", list(got, code), list(want[:rinses], 0))
			checkBaths(t, s, sheets[rinses], got)
		}
	}
}

// checkBaths fails the test if rinses take out another sum than a sheet has lost by them, or one takes out more than the one before.
func checkBaths(t *testing.T, s, after impl.Sheet, baths [][3]int64) {
	t.Helper()
	var sum [3]int64
	for i, out := range baths {
		for ink := range out {
			sum[ink] += out[ink]
			if i > 0 && out[ink] > baths[i-1][ink] {
				t.Fatalf("the rinse %d takes out more than the one before: %v", i, baths)
			}
		}
	}
	checkRinsed(t, s, after, sum)
}

func TestP12RinsesUntilABound(t *testing.T) {
	r := rand.New(rand.NewSource(202))
	for range 400 {
		s, share := randomSheet(r), 1+r.Intn(15)
		baths, sheets := bathsByHand(s, share)
		bound := max(0, topDark(impl.Stack{sheets[oneOf(r, 0, r.Intn(5), r.Intn(101))]})-int64(r.Intn(2)))
		want, all := 0, [3]int64{}
		for topDark(impl.Stack{sheets[want]}) > bound {
			for ink := range all {
				all[ink] += baths[want][ink]
			}
			want++
		}
		got, n, out, code := impl.RinseUntil(s, int64(share), bound)
		if got != sheets[want] || n != int64(want) || out != all || code != impl.OK {
			t.Fatalf("share %d of %+v until %d: %+v, %d times, %v, code %d", share, s, bound, got, n, out, code)
		}
		checkRinsed(t, s, got, out)
	}
}

func TestP12CleanestBathsOfManySheets(t *testing.T) {
	r := rand.New(rand.NewSource(203))
	none := 0
	for range 400 {
		s, share := randomSheet(r), 1+r.Intn(15)
		baths, _ := bathsByHand(s, share)
		rinses := oneOf(r, 0, 1, r.Intn(6), r.Intn(101), 100)
		bound := max(0, inkSum(baths[oneOf(r, 0, r.Intn(6), r.Intn(100))])-int64(r.Intn(2)))
		want, is := int64(0), int64(impl.ErrNotFound)
		for i := rinses - 1; i >= 0; i-- {
			if inkSum(baths[i]) <= bound {
				want, is = int64(i), 0
			}
		}
		got, code := impl.CleanestBath(s, int64(share), int64(rinses), bound)
		if got != want || code != is {
			t.Fatalf("share %d of %+v, %d rinses, at most %d: %d, code %d, want %d, code %d", share, s, rinses, bound, got, code, want, is)
		}
		if code != 0 {
			none++
		}
	}
	if none < 50 || none > 350 {
		t.Errorf("%d of 400 had no such rinse", none)
	}
}

func TestP12WhatARinseTakesOut(t *testing.T) {
	for _, c := range []struct {
		name, before string
		share        int64
		after        string
		out          [3]int64
	}{
		{"the document's", "0:9,0,0", 8, "0:4,0,0", [3]int64{5, 0, 0}},
		{"the document's, the next time", "0:4,0,0", 8, "0:2,0,0", [3]int64{2, 0, 0}},
		{"even sixteenths", "0:16,32,160", 5, "0:11,22,110", [3]int64{5, 10, 50}},
		{"rounded up, by 1 and by 15 of 16", "0:15,17,1", 1, "0:14,15,0", [3]int64{1, 2, 1}},
		{"the greatest share", "0:1000,16,1", 15, "0:62,1,0", [3]int64{938, 15, 1}},
		{"the least share", "0:1000,16,1", 1, "0:937,15,0", [3]int64{63, 1, 1}},
		{"cell by cell", "0:1,0,0 0:1,0,0 0:1,0,0", 1, "0:0,0,0 0:0,0,0 0:0,0,0", [3]int64{3, 0, 0}},
		{"water is no matter", "200:9,0,0 1:9,0,0 0:9,0,0", 8, "200:4,0,0 1:4,0,0 0:4,0,0", [3]int64{15, 0, 0}},
		{"wax", "w 0:2,2,2 w", 8, "w 0:1,1,1 w", [3]int64{1, 1, 1}},
		{"no dye", "9:0,0,0 w", 15, "9:0,0,0 w", [3]int64{}},
	} {
		for name, turn := range map[string]func(impl.Sheet) impl.Sheet{"a row": upright, "a column": onItsSide} {
			got, out, code := impl.RinseOnce(turn(paper(t, c.before)), c.share)
			same(t, c.name+", "+name, list(got, out, code), list(turn(paper(t, c.after)), c.out, 0))
		}
	}
}

// TestP12AllSharesOfAllAmounts goes over every amount and share.
func TestP12AllSharesOfAllAmounts(t *testing.T) {
	for amount := range impl.MaxDye + 1 {
		for share := 1; share <= impl.MaxGiven; share++ {
			s := impl.Sheet{Wide: 1, High: 1}
			s.Dye[0][0][1] = int16(amount)
			want := (amount*share + 15) / 16
			got, out, code := impl.RinseOnce(s, int64(share))
			if got.Dye[0][0] != [3]int16{1: int16(amount - want)} || out != [3]int64{1: int64(want)} || code != impl.OK {
				t.Fatalf("share %d of %d: %v is left, %v taken out, code %d", share, amount, got.Dye[0][0], out, code)
			}
		}
	}
}

func TestP12UntilBounds(t *testing.T) {
	for _, c := range []struct {
		name, before string
		share, bound int64
		after        string
		times        int64
		out          [3]int64
	}{
		{"the document's sheet, until 1", "0:9,0,0", 8, 1, "0:1,0,0", 3, [3]int64{8, 0, 0}},
		{"until 0", "0:9,0,0", 8, 0, "0:0,0,0", 4, [3]int64{9, 0, 0}},
		{"just until what the first one leaves", "0:9,0,0", 8, 4, "0:4,0,0", 1, [3]int64{5, 0, 0}},
		{"one less than it", "0:9,0,0", 8, 3, "0:2,0,0", 2, [3]int64{7, 0, 0}},
		{"at once", "0:9,0,0", 8, 9, "0:9,0,0", 0, [3]int64{}},
		{"at once, by far", "5:9,8,7 w", 8, 3000, "5:9,8,7 w", 0, [3]int64{}},
		{"one less than at once", "0:9,0,0", 8, 8, "0:4,0,0", 1, [3]int64{5, 0, 0}},
		{"without dye until 0", "9:0,0,0 w", 1, 0, "9:0,0,0 w", 0, [3]int64{}},
		{"all inks of a cell together", "0:4,4,4", 8, 6, "0:2,2,2", 1, [3]int64{2, 2, 2}},
		{"all inks of a cell together, and less", "0:4,4,4", 8, 5, "0:1,1,1", 2, [3]int64{3, 3, 3}},
		{"cells apart", "0:4,0,0 0:0,4,0 0:0,0,8", 8, 4, "0:2,0,0 0:0,2,0 0:0,0,4", 1, [3]int64{2, 2, 4}},
		{"the most rinses that there can be", "0:1000,1000,1000 0:1000,0,0", 1, 0, "0:0,0,0 0:0,0,0", 74, [3]int64{2000, 1000, 1000}},
		{"as dark as can be, in one", "0:1000,1000,1000", 15, 2999, "0:62,62,62", 1, [3]int64{938, 938, 938}},
		{"as dark as can be, at once", "0:1000,1000,1000", 15, 3000, "0:1000,1000,1000", 0, [3]int64{}},
	} {
		got, times, out, code := impl.RinseUntil(paper(t, c.before), c.share, c.bound)
		same(t, c.name, list(got, times, out, code), list(paper(t, c.after), c.times, c.out, 0))
	}
}

func TestP12Baths(t *testing.T) {
	nine := paper(t, "0:9,0,0")
	for _, c := range []struct {
		name          string
		s             impl.Sheet
		share, rinses int64
		want          [][3]int64
	}{
		{"the document's", nine, 8, 4, [][3]int64{{5}, {2}, {1}, {1}}},
		{"one more takes out nothing", nine, 8, 6, [][3]int64{{5}, {2}, {1}, {1}, {0}, {0}}},
		{"no rinse", nine, 8, 0, nil},
		{"one", nine, 8, 1, [][3]int64{{5}}},
		{"without dye", paper(t, "9:0,0,0 w"), 15, 2, [][3]int64{{}, {}}},
		{"ink by ink", paper(t, "0:9,0,1 0:0,4,1"), 8, 3, [][3]int64{{5, 2, 2}, {2, 1, 0}, {1, 1, 0}}},
	} {
		got, code := impl.BathsFor(c.s, c.share, c.rinses)
		same(t, c.name, list(got, code), list(c.want, 0))
	}
}

func TestP12CleanestBaths(t *testing.T) {
	nine, plain, three := paper(t, "0:9,0,0"), paper(t, "9:0,0,0 w"), paper(t, "0:9,9,9")
	for _, c := range []struct {
		name                 string
		s                    impl.Sheet
		share, rinses, bound int64
		want, code           int64
	}{
		{"the document's", nine, 8, 4, 1, 2, 0},
		{"the first one of several", nine, 8, 100, 1, 2, 0},
		{"just the first one", nine, 8, 4, 5, 0, 0},
		{"one less", nine, 8, 4, 4, 1, 0},
		{"just the second one", nine, 8, 4, 2, 1, 0},
		{"nothing, behind all", nine, 8, 5, 0, 4, 0},
		{"nothing, one rinse too few", nine, 8, 4, 0, 0, 6},
		{"one rinse, and it takes out more", nine, 8, 1, 4, 0, 6},
		{"one rinse", nine, 8, 1, 5, 0, 0},
		{"no rinse", nine, 8, 0, 5, 0, 6},
		{"no rinse, any bound", nine, 8, 0, math.MaxInt64, 0, 6},
		{"a very large bound", nine, 8, 1, math.MaxInt64, 0, 0},
		{"without dye", plain, 1, 1, 0, 0, 0},
		{"without dye, no rinse", plain, 1, 0, 0, 0, 6},
		{"all inks together", three, 8, 4, 15, 0, 0},
		{"all inks together, one less", three, 8, 4, 14, 1, 0},
		{"all inks together, the third one", three, 8, 4, 5, 2, 0},
		{"all inks together, none", three, 8, 4, 2, 0, 6},
		{"the last one that there can be", paper(t, "0:1000,0,0"), 1, 100, 0, 74, 0},
	} {
		got, code := impl.CleanestBath(c.s, c.share, c.rinses, c.bound)
		same(t, c.name, list(got, code), list(c.want, c.code))
	}
}

func TestP12ErrorsOfRinses(t *testing.T) {
	s, broken := paper(t, "0:9,0,0 w"), paper(t, "0:1001,0,0 w")
	for _, c := range []struct {
		name                        string
		s                           impl.Sheet
		share, until, rinses, bound int64
		// Those of RinseOnce, RinseUntil, BathsFor and CleanestBath.
		codes [4]int64
	}{
		{"all is least", s, 1, 0, 1, 0, [4]int64{0, 0, 0, 6}},
		{"all is greatest", s, 15, 3000, 100, math.MaxInt64, [4]int64{}},
		{"no rinses", s, 1, 0, 0, 0, [4]int64{0, 0, 0, 6}},
		{"share 0", s, 0, 0, 1, 0, [4]int64{2, 2, 2, 2}},
		{"share 16", s, 16, 0, 1, 0, [4]int64{2, 2, 2, 2}},
		{"share -1", s, -1, 0, 1, 0, [4]int64{2, 2, 2, 2}},
		{"share 0, no rinses", s, 0, 0, 0, 0, [4]int64{2, 2, 2, 2}},
		{"bounds less than 0", s, 8, -1, 9, -1, [4]int64{0, 2, 0, 2}},
		{"bounds less than 0, no rinses", s, 8, -1, 0, -1, [4]int64{0, 2, 0, 2}},
		{"a bound of 3001", s, 8, 3001, 9, 3001, [4]int64{0, 2, 0, 0}},
		{"one rinse too many", s, 8, 0, 101, 9, [4]int64{0, 0, 2, 2}},
		{"less than no rinse", s, 8, 0, -1, 9, [4]int64{0, 0, 2, 2}},
		{"not valid", broken, 8, 0, 1, 0, [4]int64{1, 1, 1, 1}},
		{"not valid, and all else", broken, 0, -1, -1, -1, [4]int64{1, 1, 1, 1}},
		{"not valid, and too many rinses", broken, 8, 3001, 101, 0, [4]int64{1, 1, 1, 1}},
		{"no sheet", impl.Sheet{}, 16, 3001, 101, -1, [4]int64{1, 1, 1, 1}},
	} {
		_, _, c1 := impl.RinseOnce(c.s, c.share)
		_, _, _, c2 := impl.RinseUntil(c.s, c.share, c.until)
		_, c3 := impl.BathsFor(c.s, c.share, c.rinses)
		_, c4 := impl.CleanestBath(c.s, c.share, c.rinses, c.bound)
		same(t, c.name, list(c1, c2, c3, c4), list(c.codes[0], c.codes[1], c.codes[2], c.codes[3]))
	}
	for _, n := range wild {
		_, _, c1 := impl.RinseOnce(s, n)
		_, _, _, c2 := impl.RinseUntil(s, n, 0)
		_, c3 := impl.BathsFor(s, n, 1)
		_, c4 := impl.BathsFor(s, 8, n)
		_, c5 := impl.CleanestBath(s, n, 1, 1)
		_, c6 := impl.CleanestBath(s, 8, n, 1)
		same(t, "wild numbers", list(n, c1, c2, c3, c4, c5, c6), list(n, 2, 2, 2, 2, 2, 2))
		_, _, _, c7 := impl.RinseUntil(s, 8, n)
		_, c8 := impl.CleanestBath(s, 8, 9, n)
		same(t, "wild bounds", list(n, c7, c8), list(n, codeUnless(n >= 0 && n <= 3000), codeUnless(n >= 0)))
	}
}

// codeUnless returns OK, or ErrRange if something is not within its limits.
func codeUnless(within bool) int64 {
	if within {
		return impl.OK
	}
	return impl.ErrRange
}
