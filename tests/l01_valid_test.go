package tests

import (
	"math"
	"math/rand"
	"testing"

	"loop.example/g01360/impl"
)

func TestValidSheets(t *testing.T) {
	full := impl.Sheet{Wide: 8, High: 8}
	for _, at := range places(full) {
		full.Wet[at.Y][at.X] = impl.MaxWet
		full.Dye[at.Y][at.X] = [3]int16{impl.MaxDye, impl.MaxDye, impl.MaxDye}
	}
	waxed := impl.Sheet{Wide: 8, High: 8, Wax: [8]uint8{255, 255, 255, 255, 255, 255, 255, 255}}
	for name, s := range map[string]impl.Sheet{
		"1 by 1": {Wide: 1, High: 1}, "8 by 1": {Wide: 8, High: 1}, "1 by 8": {Wide: 1, High: 8},
		"full": full, "waxed": waxed,
		"mixed": paper(t, "200:0,0,1000 w 0:0,0,0", "w 0:1000,0,0 1:1,1,1"),
	} {
		if !impl.ValidSheet(s) {
			t.Errorf("%s is not valid", name)
		}
	}
	r := rand.New(rand.NewSource(10))
	for range 500 {
		if s := randomSheet(r); !impl.ValidSheet(s) {
			t.Fatalf("not valid: %+v", s)
		}
	}
}

func TestInvalidSizes(t *testing.T) {
	for _, n := range []int8{0, -1, 9, 16, 127, -128} {
		for _, s := range []impl.Sheet{{Wide: n, High: 2}, {Wide: 2, High: n}, {Wide: n, High: n}} {
			if impl.ValidSheet(s) {
				t.Errorf("%d by %d is valid", s.Wide, s.High)
			}
		}
	}
	if impl.ValidSheet(impl.Sheet{}) {
		t.Error("the zero sheet is valid")
	}
}

// TestInvalidPlaces puts one wrong thing into each place of a sheet that is otherwise valid.
func TestInvalidPlaces(t *testing.T) {
	base := impl.Sheet{Wide: 5, High: 3}
	for _, at := range places(impl.Sheet{Wide: 8, High: 8}) {
		inside := at.X < 5 && at.Y < 3
		check := func(name string, change func(s *impl.Sheet), want bool) {
			t.Helper()
			s := base
			change(&s)
			if impl.ValidSheet(s) != want {
				t.Errorf("%s at %v: ValidSheet is %v", name, at, !want)
			}
		}
		wet := func(n int16) func(s *impl.Sheet) { return func(s *impl.Sheet) { s.Wet[at.Y][at.X] = n } }
		check("least water", wet(1), inside)
		check("most water", wet(impl.MaxWet), inside)
		check("too much water", wet(impl.MaxWet+1), false)
		check("most negative water", wet(math.MinInt16), false)
		check("negative water", wet(-1), false)
		check("wax", func(s *impl.Sheet) { s.Wax[at.Y] = 1 << at.X }, inside)
		check("wax with water", func(s *impl.Sheet) { s.Wax[at.Y] = 1 << at.X; s.Wet[at.Y][at.X] = 1 }, false)
		for ink := range 3 {
			dye := func(n int16) func(s *impl.Sheet) { return func(s *impl.Sheet) { s.Dye[at.Y][at.X][ink] = n } }
			check("least dye", dye(1), inside)
			check("most dye", dye(impl.MaxDye), inside)
			check("too much dye", dye(impl.MaxDye+1), false)
			check("negative dye", dye(-1), false)
			check("wax with dye", func(s *impl.Sheet) { s.Wax[at.Y] = 1 << at.X; s.Dye[at.Y][at.X][ink] = 1 }, false)
		}
	}
}

func TestDyesThatSumToNothingAreInvalid(t *testing.T) {
	if s := paper(t, "0:5,-5,0"); impl.ValidSheet(s) {
		t.Error("dyes of 5 and -5 are valid")
	}
}

func TestSameSheet(t *testing.T) {
	a := paper(t, "1:2,3,4 w", "0:0,0,0 0:0,0,7")
	changes := map[string]func(s *impl.Sheet){
		"wide": func(s *impl.Sheet) { s.Wide = 3 }, "high": func(s *impl.Sheet) { s.High = 3 },
		"wet": func(s *impl.Sheet) { s.Wet[0][0]++ }, "wet beyond": func(s *impl.Sheet) { s.Wet[7][7]++ },
		"dye": func(s *impl.Sheet) { s.Dye[1][1][2]-- }, "dye beyond": func(s *impl.Sheet) { s.Dye[7][0][1] = -1 },
		"wax": func(s *impl.Sheet) { s.Wax[0] = 0 }, "wax beyond": func(s *impl.Sheet) { s.Wax[7] = 128 },
	}
	for name, change := range changes {
		b := a
		change(&b)
		c := b
		if impl.SameSheet(a, b) || impl.SameSheet(b, a) || !impl.SameSheet(b, c) {
			t.Errorf("%s: a is b %v, b is its copy %v", name, impl.SameSheet(a, b), impl.SameSheet(b, c))
		}
	}
	if !impl.SameSheet(impl.Sheet{}, impl.Sheet{}) || !impl.SameSheet(a, a) {
		t.Error("a sheet is not the same as itself")
	}
}

func TestPlainSheet(t *testing.T) {
	for wide := int64(1); wide <= 8; wide++ {
		for high := int64(1); high <= 8; high++ {
			s, c := impl.PlainSheet(wide, high)
			if want := (impl.Sheet{Wide: int8(wide), High: int8(high)}); c != impl.OK || s != want {
				t.Errorf("%d by %d: got %v, %d", wide, high, s, c)
			}
		}
	}
	for _, n := range append([]int64{0, 9, 256, 257, 1<<32 + 2}, wild...) {
		_, c1 := impl.PlainSheet(n, 4)
		_, c2 := impl.PlainSheet(4, n)
		_, c3 := impl.PlainSheet(n, n)
		same(t, "size", list(n, c1, c2, c3), list(n, impl.ErrRange, impl.ErrRange, impl.ErrRange))
	}
}
