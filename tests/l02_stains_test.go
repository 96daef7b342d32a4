package tests

import (
	"math/rand"
	"testing"

	"loop.example/g01360/impl"
)

// stainCode tells by hand which code a stain has, on a valid sheet; whether it runs too long is not looked at.
func stainCode(s impl.Sheet, at impl.Spot, ink, amount, water int64) int64 {
	code := dropCode(s, at, ink, amount, water)
	switch {
	case code == impl.ErrRange:
		return impl.ErrRange
	case s != waxOf(s) || waxedAt(s, at):
		return impl.ErrState
	}
	return impl.OK
}

func TestStainsOfManySheets(t *testing.T) {
	r := rand.New(rand.NewSource(81))
	codes := map[int64]int{}
	spread := 0
	for range 2000 {
		in := someInput(r)
		in.a = waxOf(randomSheet(r))
		if r.Intn(8) == 0 {
			in.a = randomSheet(r)
		}
		if r.Intn(3) > 0 {
			in.at = spot(int8(r.Intn(int(in.a.Wide))), int8(r.Intn(int(in.a.High))))
			in.ink, in.amount, in.water = int64(r.Intn(3)), int64(r.Intn(impl.MaxDye+1)), int64(r.Intn(impl.MaxWet+1))
		}
		want := stainCode(in.a, in.at, in.ink, in.amount, in.water)
		var stain []impl.Spot
		if want == impl.OK {
			s := in.a
			s.Dye[in.at.Y][in.at.X][in.ink], s.Wet[in.at.Y][in.at.X] = int16(in.amount), int16(in.water)
			s, _ = untilByHand(s)
			for _, at := range places(s) {
				if darkOf(s, at) > 0 {
					stain = append(stain, at)
				}
			}
			spread = max(spread, len(stain))
		}
		got, code := impl.StainOf(in.a, in.at, in.ink, in.amount, in.water)
		same(t, "stain", list(got, code), list(stain, want))
		if t.Failed() {
			t.Fatalf("%v %d %d %d on %+v", in.at, in.ink, in.amount, in.water, in.a)
		}
		codes[code]++
	}
	if len(codes) != 3 || spread < 30 {
		t.Errorf("the stains had only the codes %v, and %d cells at most", codes, spread)
	}
}

func TestCodesOfStains(t *testing.T) {
	plain := pools(t, "0 0 w", "0 0 0")
	bad := plain
	bad.High = 9
	for _, c := range []struct {
		name               string
		s                  impl.Sheet
		at                 impl.Spot
		ink, amount, water int64
		count              int
		want               int64
	}{
		{"all of it", plain, spot(0, 0), 2, 1000, 200, 5, impl.OK},
		{"dry drop", plain, spot(1, 1), 0, 5, 0, 1, impl.OK},
		{"a single unit", plain, spot(1, 1), 0, 5, 1, 1, impl.OK},
		{"no ink", plain, spot(1, 1), 0, 0, 200, 0, impl.OK},
		{"less ink than water", plain, spot(0, 0), 0, 3, 200, 1, impl.OK},
		{"nothing", plain, spot(1, 1), 0, 0, 0, 0, impl.OK},
		{"waxed", plain, spot(2, 0), 0, 5, 5, 0, impl.ErrState},
		{"water elsewhere", pools(t, "0 0", "0 1"), spot(0, 0), 0, 5, 5, 0, impl.ErrState},
		{"dye elsewhere", paper(t, "0:0,0,0 0:0,0,1"), spot(0, 0), 0, 5, 5, 0, impl.ErrState},
		{"full cell, state before limit", paper(t, "200:1000,0,0"), spot(0, 0), 0, 5, 5, 0, impl.ErrState},
		{"range before state", pools(t, "0 0", "0 1"), spot(0, 0), 3, 5, 5, 0, impl.ErrRange},
		{"range before wax", plain, spot(2, 0), 0, 5, 201, 0, impl.ErrRange},
		{"too much ink", plain, spot(0, 0), 0, 1001, 5, 0, impl.ErrRange},
		{"negative ink", plain, spot(0, 0), 0, -1, 5, 0, impl.ErrRange},
		{"negative water", plain, spot(0, 0), 0, 5, -1, 0, impl.ErrRange},
		{"no such ink", plain, spot(0, 0), -1, 5, 5, 0, impl.ErrRange},
		{"no cell", plain, spot(0, 2), 0, 5, 5, 0, impl.ErrRange},
		{"no cell of a wet sheet", pools(t, "1"), spot(1, 0), 0, 5, 5, 0, impl.ErrRange},
		{"far away", plain, spot(127, -128), 0, 5, 5, 0, impl.ErrRange},
		{"sheet that is not valid", bad, spot(9, 9), 7, -5, 999, 0, impl.ErrInvalid},
	} {
		stain, code := impl.StainOf(c.s, c.at, c.ink, c.amount, c.water)
		same(t, c.name, list(len(stain), code), list(c.count, c.want))
	}
	for _, n := range wild {
		_, c1 := impl.StainOf(plain, spot(0, 0), n, 1, 1)
		_, c2 := impl.StainOf(plain, spot(0, 0), 0, n, 1)
		_, c3 := impl.StainOf(plain, spot(0, 0), 0, 1, n)
		want := list(n, 2, 2, 2)
		if n > 200 && n <= 1000 {
			want[2] = 0
		}
		same(t, "wild", list(n, c1, c2, c3), want)
	}
}

// TestStainsOfAllDropsEnd lets the wettest drops run from each cell of sheets with long ways: none needs too many rounds.
func TestStainsOfAllDropsEnd(t *testing.T) {
	for _, s := range []impl.Sheet{maze(0), {Wide: 8, High: 8}, {Wide: 8, High: 1}} {
		for _, at := range places(s) {
			if waxedAt(s, at) {
				continue
			}
			stain, code := impl.StainOf(s, at, 1, impl.MaxDye, impl.MaxWet)
			if len(stain) < 5 || code != impl.OK {
				t.Errorf("from %v: %d cells, code %d", at, len(stain), code)
			}
		}
	}
}
