package tests

import (
	"math/rand"
	"testing"

	"loop.example/g01360/impl"
)

// unfoldByHand writes each cell of a half to both of its places.
func unfoldByHand(s impl.Sheet, down bool) impl.Sheet {
	whole := impl.Sheet{Wide: 2 * s.Wide, High: s.High}
	if down {
		whole = impl.Sheet{Wide: s.Wide, High: 2 * s.High}
	}
	for _, at := range places(s) {
		far := spot(whole.Wide-1-at.X, at.Y)
		if down {
			far = spot(at.X, whole.High-1-at.Y)
		}
		for _, to := range []impl.Spot{at, far} {
			whole.Wet[to.Y][to.X], whole.Dye[to.Y][to.X] = s.Wet[at.Y][at.X], s.Dye[at.Y][at.X]
			if waxedAt(s, at) {
				whole.Wax[to.Y] |= 1 << to.X
			}
		}
	}
	return whole
}

// seamOf returns the fold between a half and its mirror.
func seamOf(s impl.Sheet, down bool) impl.Fold {
	if down {
		return impl.Fold{Axis: s.High, Down: true, Press: 8}
	}
	return impl.Fold{Axis: s.Wide, Press: 8}
}

func TestP7UnfoldedHalvesAreTheirOwnMirrors(t *testing.T) {
	r := rand.New(rand.NewSource(105))
	codes := map[int64]int{}
	for range 1500 {
		s := randomSheet(r)
		for _, down := range []bool{false, true} {
			whole, code := impl.UnfoldHalf(s, down)
			codes[code]++
			if down && s.High > 4 || !down && s.Wide > 4 {
				same(t, "too large", list(whole, code), list(impl.Sheet{}, impl.ErrLimit))
				continue
			}
			if whole != unfoldByHand(s, down) || code != impl.OK {
				t.Fatalf("down is %v: %+v, code %d, of %+v", down, whole, code, s)
			}
			checkUnfolded(t, s, whole, down)
		}
	}
	if len(codes) != 2 || codes[impl.OK] < 500 {
		t.Errorf("the halves had the codes %v", codes)
	}
}

// checkUnfolded holds an unfolded half against what the other functions tell of it.
func checkUnfolded(t *testing.T, s, whole impl.Sheet, down bool) {
	t.Helper()
	seam := seamOf(s, down)
	mirror, c1 := impl.IsMirror(whole, seam)
	off, c2 := impl.OffBy(whole, seam)
	can, c3 := impl.CanBeFolded(whole, seam)
	half, c4 := impl.HalfOf(whole, seam)
	pressed, moved, c5 := impl.PressOnce(whole, seam)
	even, c6 := impl.EvenOut(whole, seam)
	same(t, "mirror", list(mirror, c1, off, c2, can, c3, half, c4, pressed, moved, c5, even, c6), list(true, 0, 0, 0, true, 0, s, 0, whole, 0, 0, whole, 0))
	turned, _ := impl.MirrorSheet(whole)
	if down {
		turned, _ = impl.TurnSheet(turned)
		turned, _ = impl.TurnSheet(turned)
	}
	if turned != whole {
		t.Fatalf("the other way round it is %+v, not %+v", turned, whole)
	}
	dye, water := totals(s)
	gotDye, gotWater := totals(whole)
	same(t, "twice as much", list(gotDye, gotWater), list([3]int64{2 * dye[0], 2 * dye[1], 2 * dye[2]}, 2*water))
}

func TestP7SizesOfHalves(t *testing.T) {
	for wide := int8(1); wide <= 8; wide++ {
		for high := int8(1); high <= 8; high++ {
			s := impl.Sheet{Wide: wide, High: high}
			for _, down := range []bool{false, true} {
				want, code := impl.Sheet{}, int64(impl.ErrLimit)
				if down && high <= 4 || !down && wide <= 4 {
					want, code = unfoldByHand(s, down), impl.OK
				}
				got, gotCode := impl.UnfoldHalf(s, down)
				same(t, "size", list(wide, high, down, got, gotCode), list(wide, high, down, want, code))
			}
		}
	}
}

func TestP7SomeHalves(t *testing.T) {
	for _, c := range []struct {
		name  string
		rows  []string
		down  bool
		whole []string
	}{
		{"a cell", []string{"3:6,0,1"}, false, []string{"3:6,0,1 3:6,0,1"}},
		{"a cell, down", []string{"3:6,0,1"}, true, []string{"3:6,0,1", "3:6,0,1"}},
		{"a row", []string{"1:2,0,0 w"}, false, []string{"1:2,0,0 w w 1:2,0,0"}},
		{"a row, down", []string{"1:2,0,0 w"}, true, []string{"1:2,0,0 w", "1:2,0,0 w"}},
		{"a column", []string{"w", "0:0,5,0"}, false, []string{"w w", "0:0,5,0 0:0,5,0"}},
		{"a column, down", []string{"w", "0:0,5,0"}, true, []string{"w", "0:0,5,0", "0:0,5,0", "w"}},
	} {
		whole, code := impl.UnfoldHalf(paper(t, c.rows...), c.down)
		if want := paper(t, c.whole...); whole != want || code != impl.OK {
			t.Errorf("%s: got %q, code %d", c.name, impl.SheetText(whole), code)
		}
	}
	bad := impl.Sheet{Wide: 8, High: 8, Wet: [8][8]int16{{-1}}}
	_, c1 := impl.UnfoldHalf(bad, false)
	_, c2 := impl.UnfoldHalf(bad, true)
	_, c3 := impl.UnfoldHalf(impl.Sheet{Wide: 9, High: 1}, false)
	_, c4 := impl.UnfoldHalf(impl.Sheet{Wide: 127, High: 127}, true)
	same(t, "invalid before limit", list(c1, c2, c3, c4), list(1, 1, 1, 1))
}

func TestP7HalvesOfSheets(t *testing.T) {
	r := rand.New(rand.NewSource(106))
	for range 300 {
		s := randomSheet(r)
		for _, f := range allFolds(s) {
			f.Press = int8(1 + r.Intn(8))
			half, code := impl.HalfOf(s, f)
			want := impl.Sheet{Wide: f.Axis, High: s.High}
			if f.Down {
				want = impl.Sheet{Wide: s.Wide, High: f.Axis}
			}
			for _, at := range places(want) {
				want.Wet[at.Y][at.X], want.Dye[at.Y][at.X] = s.Wet[at.Y][at.X], s.Dye[at.Y][at.X]
				if waxedAt(s, at) {
					want.Wax[at.Y] |= 1 << at.X
				}
			}
			if half != want || code != impl.OK {
				t.Fatalf("%v: %+v, code %d, of %+v", f, half, code, s)
			}
		}
	}
}

// TestP7MirrorsAreUnfoldedHalves takes halves of sheets that are their own mirrors, wax and water included, and unfolds them again.
func TestP7MirrorsAreUnfoldedHalves(t *testing.T) {
	r := rand.New(rand.NewSource(107))
	for range 300 {
		s := randomSheet(r)
		for _, down := range []bool{false, true} {
			whole, code := impl.UnfoldHalf(s, down)
			if code != impl.OK {
				continue
			}
			half, c1 := impl.HalfOf(whole, seamOf(s, down))
			again, c2 := impl.UnfoldHalf(half, down)
			same(t, "again", list(again, c1, c2), list(whole, 0, 0))
			at := places(s)[r.Intn(len(places(s)))]
			if waxedAt(s, at) {
				continue
			}
			whole.Dye[at.Y][at.X][r.Intn(3)] ^= 1
			mirror, c3 := impl.IsMirror(whole, seamOf(s, down))
			off, c4 := impl.OffBy(whole, seamOf(s, down))
			same(t, "no mirror any more", list(mirror, c3, off, c4), list(false, 0, 1, 0))
		}
	}
}
