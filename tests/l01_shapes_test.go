package tests

import (
	"math/rand"
	"testing"

	"loop.example/g01360/impl"
)

// picked builds a sheet by hand, each cell from one of s.
func picked(s impl.Sheet, wide, high int8, from func(x, y int8) (int8, int8)) impl.Sheet {
	made := impl.Sheet{Wide: wide, High: high}
	for _, at := range places(made) {
		x, y := from(at.X, at.Y)
		made.Wet[at.Y][at.X], made.Dye[at.Y][at.X] = s.Wet[y][x], s.Dye[y][x]
		if waxedAt(s, spot(x, y)) {
			made.Wax[at.Y] += 1 << at.X
		}
	}
	return made
}

func TestMirrorAndTurn(t *testing.T) {
	s := paper(t, "1:1,0,0 w 3:0,0,3", "4:0,4,0 5:5,5,5 w")
	mirror, c1 := impl.MirrorSheet(s)
	turned, c2 := impl.TurnSheet(s)
	if want := paper(t, "3:0,0,3 w 1:1,0,0", "w 5:5,5,5 4:0,4,0"); mirror != want || c1 != 0 {
		t.Errorf("mirror: got %+v, code %d", mirror, c1)
	}
	if want := paper(t, "4:0,4,0 1:1,0,0", "5:5,5,5 w", "w 3:0,0,3"); turned != want || c2 != 0 {
		t.Errorf("turned: got %+v, code %d", turned, c2)
	}
}

func TestMirrorTwiceAndTurnFourTimes(t *testing.T) {
	r := rand.New(rand.NewSource(40))
	for range 500 {
		s := randomSheet(r)
		mirror, c1 := impl.MirrorSheet(s)
		if want := picked(s, s.Wide, s.High, func(x, y int8) (int8, int8) { return s.Wide - 1 - x, y }); mirror != want || c1 != 0 {
			t.Fatalf("mirror of %+v: %+v, code %d", s, mirror, c1)
		}
		turned, c2 := impl.TurnSheet(s)
		if want := picked(s, s.High, s.Wide, func(x, y int8) (int8, int8) { return y, s.High - 1 - x }); turned != want || c2 != 0 {
			t.Fatalf("%+v turned: %+v, code %d", s, turned, c2)
		}
		if back, c := impl.MirrorSheet(mirror); back != s || c != 0 {
			t.Fatalf("mirrored twice: %+v, code %d", back, c)
		}
		back := s
		for range 4 {
			back, _ = impl.TurnSheet(back)
		}
		if back != s {
			t.Fatalf("turned four times: %+v", back)
		}
		before, water := totals(s)
		after, wet := totals(turned)
		same(t, "kept", list(after, wet), list(before, water))
	}
}

func TestCuts(t *testing.T) {
	r := rand.New(rand.NewSource(41))
	for range 40 {
		s := randomSheet(r)
		for _, at := range places(s) {
			for wide := int64(-1); wide <= 9; wide++ {
				for high := int64(-1); high <= 9; high++ {
					got, code := impl.CutSheet(s, at, wide, high)
					if wide < 1 || high < 1 || int64(at.X)+wide > int64(s.Wide) || int64(at.Y)+high > int64(s.High) {
						if code != impl.ErrRange || got != (impl.Sheet{}) {
							t.Fatalf("cut %v, %d by %d, of %d by %d: code %d", at, wide, high, s.Wide, s.High, code)
						}
						continue
					}
					want := picked(s, int8(wide), int8(high), func(x, y int8) (int8, int8) { return at.X + x, at.Y + y })
					if code != impl.OK || got != want {
						t.Fatalf("cut %v, %d by %d: got %+v, code %d", at, wide, high, got, code)
					}
				}
			}
		}
	}
}

func TestCutsOfWildSizes(t *testing.T) {
	s := paper(t, "1:1,1,1 w", "0:0,0,0 2:2,2,2")
	for _, n := range wild {
		_, c1 := impl.CutSheet(s, spot(0, 0), n, 1)
		_, c2 := impl.CutSheet(s, spot(0, 0), 1, n)
		_, c3 := impl.CutSheet(s, spot(1, 1), n, n)
		_, c4 := impl.CutSheet(s, spot(-1, -1), n, n)
		same(t, "cut", list(n, c1, c2, c3, c4), list(n, 2, 2, 2, 2))
	}
	whole, code := impl.CutSheet(s, spot(0, 0), 2, 2)
	if whole != s || code != impl.OK {
		t.Errorf("the whole sheet: %+v, code %d", whole, code)
	}
}
