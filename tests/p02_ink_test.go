package tests

import (
	"math/rand"
	"testing"

	"loop.example/g01360/impl"
)

// dropCode tells by hand which code a drop has, on a valid sheet.
func dropCode(s impl.Sheet, at impl.Spot, ink, amount, water int64) int64 {
	switch {
	case at.X < 0 || at.Y < 0 || at.X >= s.Wide || at.Y >= s.High || ink < 0 || ink > 2:
		return impl.ErrRange
	case amount < 0 || amount > 1000 || water < 0 || water > 200:
		return impl.ErrRange
	case waxedAt(s, at):
		return impl.ErrState
	case int64(s.Dye[at.Y][at.X][ink]) > 1000-amount || int64(s.Wet[at.Y][at.X]) > 200-water:
		return impl.ErrLimit
	}
	return impl.OK
}

// TestP2InkIsWhatWasDropped drops at random, and keeps count of all that was dropped besides.
func TestP2InkIsWhatWasDropped(t *testing.T) {
	r := rand.New(rand.NewSource(20))
	codes := map[int64]int{}
	for range 60 {
		s, _ := impl.PlainSheet(int64(1+r.Intn(8)), int64(1+r.Intn(8)))
		for range r.Intn(5) {
			s, _ = impl.WaxCell(s, spot(int8(r.Intn(int(s.Wide))), int8(r.Intn(int(s.High)))), true)
		}
		count := s
		for range 200 {
			in := someInput(r)
			if r.Intn(2) == 0 {
				in.at = spot(int8(r.Intn(int(s.Wide))), int8(r.Intn(int(s.High))))
				in.ink, in.amount, in.water = int64(r.Intn(3)), int64(r.Intn(400)), int64(r.Intn(60))
			}
			want := dropCode(s, in.at, in.ink, in.amount, in.water)
			next, code := impl.DropInk(s, in.at, in.ink, in.amount, in.water)
			if code != want {
				t.Fatalf("drop %v %d %d %d: code %d, want %d", in.at, in.ink, in.amount, in.water, code, want)
			}
			codes[code]++
			if code == impl.OK {
				count.Dye[in.at.Y][in.at.X][in.ink] += int16(in.amount)
				count.Wet[in.at.Y][in.at.X] += int16(in.water)
				s = next
			}
		}
		checkCount(t, s, count)
	}
	if len(codes) != 4 {
		t.Errorf("the drops had only the codes %v", codes)
	}
}

// checkCount holds a sheet, as all functions that look at it tell it, against what has been counted.
func checkCount(t *testing.T, s, count impl.Sheet) {
	t.Helper()
	if s != count {
		t.Fatalf("got %+v, want %+v", s, count)
	}
	dye, water := totals(count)
	gotDye, c1 := impl.DyeIn(s)
	gotWater, c2 := impl.WaterIn(s)
	same(t, "sums", list(gotDye, c1, gotWater, c2), list(dye, 0, water, 0))
	for _, at := range places(s) {
		wet, c1 := impl.WetAt(s, at)
		dark, c2 := impl.DarkAt(s, at)
		waxed, c3 := impl.IsWaxed(s, at)
		same(t, "cell", list(wet, c1, dark, c2, waxed, c3), list(count.Wet[at.Y][at.X], 0, darkOf(count, at), 0, waxedAt(count, at), 0))
		for ink := range int64(3) {
			got, c := impl.DyeAt(s, at, ink)
			same(t, "dye", list(got, c), list(count.Dye[at.Y][at.X][ink], 0))
		}
	}
}

func TestP2LimitsOfDrops(t *testing.T) {
	s := paper(t, "0:0,0,0 199:999,1000,0", "w 200:1,2,3")
	for _, c := range []struct {
		name               string
		at                 impl.Spot
		ink, amount, water int64
		want               int64
	}{
		{"nothing", spot(0, 0), 0, 0, 0, impl.OK},
		{"most of both", spot(0, 0), 2, 1000, 200, impl.OK},
		{"dye reached", spot(1, 0), 0, 1, 0, impl.OK},
		{"dye passed by one", spot(1, 0), 0, 2, 0, impl.ErrLimit},
		{"other ink is full", spot(1, 0), 2, 1000, 1, impl.OK},
		{"full ink, nothing more", spot(1, 0), 1, 0, 0, impl.OK},
		{"full ink, one more", spot(1, 0), 1, 1, 0, impl.ErrLimit},
		{"water reached", spot(1, 0), 2, 0, 1, impl.OK},
		{"water passed by one", spot(1, 0), 2, 0, 2, impl.ErrLimit},
		{"full water, nothing more", spot(1, 1), 0, 5, 0, impl.OK},
		{"full water, one more", spot(1, 1), 0, 5, 1, impl.ErrLimit},
		{"waxed", spot(0, 1), 0, 1, 1, impl.ErrState},
		{"waxed, nothing", spot(0, 1), 0, 0, 0, impl.ErrState},
		{"waxed, too much", spot(0, 1), 0, 1001, 0, impl.ErrRange},
		{"amount passed by one", spot(0, 0), 0, 1001, 0, impl.ErrRange},
		{"water beyond by one", spot(0, 0), 0, 0, 201, impl.ErrRange},
		{"negative amount", spot(1, 0), 0, -1, 0, impl.ErrRange},
		{"negative water", spot(1, 0), 0, 0, -1, impl.ErrRange},
		{"negative amount of much", spot(1, 0), 0, -999, 0, impl.ErrRange},
		{"range before limit", spot(1, 1), 0, 1000, 201, impl.ErrRange},
		{"no such ink", spot(0, 0), 3, 1, 1, impl.ErrRange},
		{"negative ink", spot(0, 0), -1, 1, 1, impl.ErrRange},
		{"no ink of a waxed cell", spot(0, 1), 3, 1, 1, impl.ErrRange},
		{"east of all", spot(2, 0), 0, 1, 1, impl.ErrRange},
		{"south of all", spot(0, 2), 0, 1, 1, impl.ErrRange},
		{"west of all", spot(-1, 0), 0, 1, 1, impl.ErrRange},
		{"north of all", spot(0, -1), 0, 1, 1, impl.ErrRange},
	} {
		if _, got := impl.DropInk(s, c.at, c.ink, c.amount, c.water); got != c.want {
			t.Errorf("%s: code %d, want %d", c.name, got, c.want)
		}
	}
	for _, n := range wild {
		_, c1 := impl.DropInk(s, spot(0, 0), n, 1, 1)
		_, c2 := impl.DropInk(s, spot(0, 0), 0, n, 1)
		_, c3 := impl.DropInk(s, spot(0, 0), 0, 1, n)
		_, c4 := impl.DyeAt(s, spot(0, 0), n)
		want := list(n, 2, 2, 2, 2)
		if n > 200 && n <= 1000 {
			want[2] = 0
		}
		same(t, "wild", list(n, c1, c2, c3, c4), want)
	}
}

func TestP2SpotsBeyondTheSheet(t *testing.T) {
	s := paper(t, "1:1,1,1 2:2,2,2 3:3,3,3", "w 0:0,0,0 1:0,0,0")
	some := []int8{-128, -127, -8, -3, -2, -1, 0, 1, 2, 3, 4, 7, 8, 9, 15, 16, 63, 64, 126, 127}
	for _, x := range some {
		for _, y := range some {
			at := spot(x, y)
			if x >= 0 && x < 3 && y >= 0 && y < 2 {
				continue
			}
			_, c1 := impl.WetAt(s, at)
			_, c2 := impl.DyeAt(s, at, 0)
			_, c3 := impl.DarkAt(s, at)
			_, c4 := impl.DropInk(s, at, 0, 1, 1)
			_, c5 := impl.WaxCell(s, at, true)
			_, c6 := impl.IsWaxed(s, at)
			_, c7 := impl.BlotAt(s, at, 1)
			_, c8 := impl.ColourAt(s, at)
			_, c9 := impl.CutSheet(s, at, 1, 1)
			for i, c := range []int64{c1, c2, c3, c4, c5, c6, c7, c8, c9} {
				if c != impl.ErrRange {
					t.Fatalf("call %d at %v: code %d", i+1, at, c)
				}
			}
		}
	}
}

func TestP2Wax(t *testing.T) {
	s := paper(t, "0:0,0,0 1:0,0,0 0:0,0,1", "w 0:0,0,0 0:0,0,0")
	for _, c := range []struct {
		at   impl.Spot
		on   bool
		want int64
		wax  [2]uint8
	}{
		{spot(0, 0), true, impl.OK, [2]uint8{1, 1}},
		{spot(0, 0), false, impl.OK, [2]uint8{0, 1}},
		{spot(2, 1), true, impl.OK, [2]uint8{0, 5}},
		{spot(0, 1), true, impl.OK, [2]uint8{0, 1}},
		{spot(0, 1), false, impl.OK, [2]uint8{0, 0}},
		{spot(1, 0), true, impl.ErrState, [2]uint8{}},
		{spot(2, 0), true, impl.ErrState, [2]uint8{}},
		{spot(1, 0), false, impl.ErrState, [2]uint8{}},
		{spot(2, 0), false, impl.ErrState, [2]uint8{}},
		{spot(3, 0), true, impl.ErrRange, [2]uint8{}},
	} {
		got, code := impl.WaxCell(s, c.at, c.on)
		want := impl.Sheet{}
		if c.want == impl.OK {
			want = s
			copy(want.Wax[:], c.wax[:])
		}
		if code != c.want || got != want {
			t.Errorf("wax %v %v: code %d, wax %v", c.at, c.on, code, got.Wax)
		}
	}
}

// TestP2EachCellWaxedAlone looks at each bit of each row.
func TestP2EachCellWaxedAlone(t *testing.T) {
	plain, _ := impl.PlainSheet(8, 8)
	for _, at := range places(plain) {
		waxed, c1 := impl.WaxCell(plain, at, true)
		again, c2 := impl.WaxCell(waxed, at, false)
		want := plain
		want.Wax[at.Y] = 1 << at.X
		if waxed != want || again != plain || c1 != 0 || c2 != 0 {
			t.Errorf("%v: wax %v, codes %d and %d", at, waxed.Wax, c1, c2)
		}
		for _, other := range places(plain) {
			if is, c := impl.IsWaxed(waxed, other); is != (other == at) || c != 0 {
				t.Errorf("waxed at %v: IsWaxed at %v is %v", at, other, is)
			}
		}
	}
}

func TestP2DryingKeepsTheInk(t *testing.T) {
	r := rand.New(rand.NewSource(21))
	for range 300 {
		s := randomSheet(r)
		dry, gone, c := impl.DryAll(s)
		want := s
		want.Wet = [8][8]int16{}
		_, water := totals(s)
		if dry != want || gone != water || c != impl.OK {
			t.Fatalf("gone %d of %d, code %d", gone, water, c)
		}
		if _, gone, c := impl.DryAll(dry); gone != 0 || c != 0 {
			t.Fatalf("a dry sheet loses %d, code %d", gone, c)
		}
	}
}

func TestP2DifferBy(t *testing.T) {
	a := paper(t, "5:1000,0,7 w", "0:3,2,1 0:0,0,0")
	b := paper(t, "0:0,1000,9 0:0,0,4", "w 1:0,0,0")
	for _, c := range []struct {
		name      string
		a, b      impl.Sheet
		sum, code int64
	}{
		{"itself", a, a, 0, 0},
		{"another", a, b, 1000 + 1000 + 2 + 4 + 3 + 2 + 1, 0},
		{"turned about", b, a, 2012, 0},
		{"water and wax", paper(t, "3:1,1,1 w"), paper(t, "9:1,1,1 5:0,0,0"), 0, 0},
		{"wider", a, paper(t, "0:0,0,0 0:0,0,0 0:0,0,0", "w w w"), 0, impl.ErrState},
		{"higher", a, paper(t, "w w", "w w", "w w"), 0, impl.ErrState},
		{"turned size", paper(t, "w w w"), paper(t, "w", "w", "w"), 0, impl.ErrState},
		{"first invalid", paper(t, "0:-1,0,0"), b, 0, impl.ErrInvalid},
		{"second invalid", a, paper(t, "0:-1,0,0"), 0, impl.ErrInvalid},
	} {
		sum, code := impl.DifferBy(c.a, c.b)
		same(t, c.name, list(sum, code), list(c.sum, c.code))
	}
	full, bare := impl.Sheet{Wide: 8, High: 8}, impl.Sheet{Wide: 8, High: 8}
	for _, at := range places(full) {
		full.Dye[at.Y][at.X] = [3]int16{1000, 1000, 1000}
	}
	sum, code := impl.DifferBy(bare, full)
	same(t, "full", list(sum, code), list(64*3000, 0))
	sums, code := impl.DyeIn(full)
	same(t, "sums", list(sums, code), list([3]int{64000, 64000, 64000}, 0))
}

func TestP2DifferByOfManySheets(t *testing.T) {
	r := rand.New(rand.NewSource(21))
	for range 300 {
		a := randomSheet(r)
		b, want := sheetLike(r, a), int64(0)
		for y := range 8 {
			for x := range 8 {
				for ink := range 3 {
					more := int64(a.Dye[y][x][ink]) - int64(b.Dye[y][x][ink])
					want += max(more, -more)
				}
			}
		}
		sum, c1 := impl.DifferBy(a, b)
		other, c2 := impl.DifferBy(b, a)
		same(t, "random sheets", list(sum, c1, other, c2), list(want, 0, want, 0))
	}
}
