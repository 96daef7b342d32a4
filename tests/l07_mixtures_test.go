package tests

import (
	"fmt"
	"math"
	"math/rand"
	"testing"

	"loop.example/g01360/impl"
)

// holesIn returns the stencil whose cells are marked by "x" in rows.
func holesIn(rows ...string) [8]uint8 {
	var stencil [8]uint8
	for y, row := range rows {
		for x, c := range row {
			if c == 'x' {
				stencil[y] += 1 << x
			}
		}
	}
	return stencil
}

// dabbedByHand asks each cell for the last stencil that cuts it out.
func dabbedByHand(wide, high int8, stencils [3][8]uint8) impl.Picture {
	p := impl.Picture{Wide: wide, High: high}
	for _, at := range spotsIn(p) {
		for ink := range uint8(3) {
			if stencils[ink][at.Y]/(1<<at.X)%2 == 1 {
				p.Inked[at.Y][at.X] = ink + 1
			}
		}
	}
	return p
}

func TestStencilsOfManyPictures(t *testing.T) {
	r := rand.New(rand.NewSource(290))
	for range 1500 {
		p := randomArt(r)
		var stencils [3][8]uint8
		for ink := range int64(3) {
			var want [8]uint8
			for _, at := range spotsIn(p) {
				if int64(p.Inked[at.Y][at.X]) == ink+1 {
					want[at.Y] += 1 << at.X
				}
			}
			got, code := impl.StencilOf(p, ink)
			same(t, fmt.Sprint(ink, " of ", p), list(got, code), list(want, 0))
			stencils[ink] = got
		}
		back, code := impl.FromStencils(int64(p.Wide), int64(p.High), stencils)
		same(t, "all three", list(back, code), list(p, 0))
	}
}

// TestPicturesOfManyStencils cuts out cells several times, and seldom a place that is no cell.
func TestPicturesOfManyStencils(t *testing.T) {
	r := rand.New(rand.NewSource(291))
	codes := map[int64]int{}
	for range 3000 {
		white := randomWhite(r)
		var stencils [3][8]uint8
		want := int64(impl.OK)
		for ink := range stencils {
			for _, at := range spotsIn(white) {
				stencils[ink][at.Y] += uint8(r.Intn(2)) << at.X
			}
			if x, y := r.Intn(8), r.Intn(8); r.Intn(4) == 0 && (x >= int(white.Wide) || y >= int(white.High)) {
				stencils[ink][y] += 1 << x
				want = impl.ErrRange
			}
		}
		picture := dabbedByHand(white.Wide, white.High, stencils)
		if want != impl.OK {
			picture = impl.Picture{}
		}
		got, code := impl.FromStencils(int64(white.Wide), int64(white.High), stencils)
		same(t, fmt.Sprint(white.Wide, "x", white.High, stencils), list(got, code), list(picture, want))
		codes[code]++
	}
	if len(codes) != 2 {
		t.Errorf("only the codes %v", codes)
	}
}

func TestStencils(t *testing.T) {
	for _, c := range []struct {
		name       string
		wide, high int64
		stencils   [3][8]uint8
		want       impl.Picture
		code       int64
	}{
		{"nothing cut out", 2, 2, [3][8]uint8{}, art("..", ".."), 0},
		{"the second one covers the first one", 2, 1, [3][8]uint8{{3}, {2}}, art("ab"), 0},
		{"all three", 4, 2, [3][8]uint8{holesIn("xxx", ".xx"), holesIn(".xx", "..x"), holesIn("..x", "xx")}, art("abc.", "ccb."), 0},
		{"the last one alone", 3, 1, [3][8]uint8{2: holesIn("x.x")}, art("c.c"), 0},
		{"all cells of the greatest", 8, 8, [3][8]uint8{1: {255, 255, 255, 255, 255, 255, 255, 255}}, fullArt(2), 0},
		{"one cell", 1, 1, [3][8]uint8{{1}}, art("a"), 0},
		{"the last column", 8, 1, [3][8]uint8{{128}}, art(".......a"), 0},
		{"a column too far", 7, 1, [3][8]uint8{{128}}, impl.Picture{}, impl.ErrRange},
		{"a row too far", 8, 7, [3][8]uint8{2: {7: 1}}, impl.Picture{}, impl.ErrRange},
		{"one column too far, in the first stencil", 2, 2, [3][8]uint8{{0, 4}, {3, 3}, {3, 3}}, impl.Picture{}, impl.ErrRange},
		{"one row too far, in the last stencil", 2, 2, [3][8]uint8{{3, 3}, {3, 3}, {3, 3, 1}}, impl.Picture{}, impl.ErrRange},
		{"no columns", 0, 1, [3][8]uint8{}, impl.Picture{}, impl.ErrRange},
		{"no rows", 1, 0, [3][8]uint8{}, impl.Picture{}, impl.ErrRange},
		{"too many columns", 9, 8, [3][8]uint8{{255}}, impl.Picture{}, impl.ErrRange},
		{"too many rows", 8, 9, [3][8]uint8{{255}}, impl.Picture{}, impl.ErrRange},
		{"less than no columns", -1, 8, [3][8]uint8{}, impl.Picture{}, impl.ErrRange},
		{"less than no rows", 8, -1, [3][8]uint8{{1}}, impl.Picture{}, impl.ErrRange},
	} {
		got, code := impl.FromStencils(c.wide, c.high, c.stencils)
		same(t, c.name, list(got, code), list(c.want, c.code))
	}
	for _, n := range wild {
		_, c1 := impl.FromStencils(n, 1, [3][8]uint8{})
		_, c2 := impl.FromStencils(1, n, [3][8]uint8{})
		same(t, "wild", list(n, c1, c2), list(n, 2, 2))
	}
	stencil, code := impl.StencilOf(art(".a.", "aab", ".bb"), 1)
	same(t, "the document's", list(stencil, code), list(holesIn("...", "..x", ".xx"), 0))
}

// TestEachBitOfAStencil cuts out each place alone, of pictures of all sizes.
func TestEachBitOfAStencil(t *testing.T) {
	for wide := int8(1); wide <= 8; wide++ {
		for high := int8(1); high <= 8; high++ {
			for _, at := range places(impl.Sheet{Wide: 8, High: 8}) {
				for ink := range uint8(3) {
					var stencils [3][8]uint8
					stencils[ink][at.Y] = 1 << at.X
					want, is := impl.Picture{}, int64(impl.ErrRange)
					if at.X < wide && at.Y < high {
						want, is = impl.Picture{Wide: wide, High: high}, impl.OK
						want.Inked[at.Y][at.X] = ink + 1
					}
					if got, code := impl.FromStencils(int64(wide), int64(high), stencils); got != want || code != is {
						t.Fatalf("%d at %v of %dx%d: %v, code %d", ink, at, wide, high, got, code)
					}
				}
			}
		}
	}
}

// mixByHand goes over all mixtures from the last one backward; of several that are nearest it ends with the first one.
func mixByHand(want [3]int64, parts int64) (best [3]int64, least int64) {
	sum := want[0] + want[1] + want[2]
	least = math.MaxInt64
	for a := parts; a >= 0; a-- {
		for b := parts - a; b >= 0; b-- {
			mix, off := [3]int64{a, b, parts - a - b}, int64(0)
			for ink := range mix {
				off += int64(math.Abs(float64(mix[ink]*sum - want[ink]*parts)))
			}
			if off <= least {
				best, least = mix, off
			}
		}
	}
	return best, least
}

func TestMixturesOfManyWishes(t *testing.T) {
	r := rand.New(rand.NewSource(292))
	exact := 0
	for range 4000 {
		most := oneOf(r, 2, 5, 30, 1000)
		want := [3]int64{int64(r.Intn(most + 1)), int64(r.Intn(most + 1)), int64(r.Intn(most + 1))}
		if want == [3]int64{} {
			continue
		}
		parts := int64(1 + r.Intn(30))
		mix, off := mixByHand(want, parts)
		got, n, code := impl.MixFor(want, parts)
		same(t, fmt.Sprint(want, " with ", parts), list(got, n, code), list(mix, off, 0))
		same(t, "parts", list(got[0]+got[1]+got[2]), list(parts))
		if off == 0 {
			exact++
		}
	}
	if exact < 100 || exact > 3000 {
		t.Errorf("%d of 4000 were exact", exact)
	}
}

// TestMixturesOfSmallWishes goes over all small numbers with all parts.
func TestMixturesOfSmallWishes(t *testing.T) {
	for i := range int64(5 * 5 * 5) {
		want := [3]int64{i / 25, i / 5 % 5, i % 5}
		for parts := int64(1); parts <= impl.MaxMix; parts++ {
			mix, off, is := [3]int64{}, int64(0), int64(impl.ErrState)
			if want != [3]int64{} {
				mix, off = mixByHand(want, parts)
				is = impl.OK
			}
			got, n, code := impl.MixFor(want, parts)
			same(t, fmt.Sprint(want, " with ", parts), list(got, n, code), list(mix, off, is))
		}
	}
}

func TestMixtures(t *testing.T) {
	for _, c := range []struct {
		name  string
		want  [3]int64
		parts int64
		mix   [3]int64
		off   int64
		code  int64
	}{
		{"the document's", [3]int64{1, 1, 1}, 4, [3]int64{1, 1, 2}, 4, 0},
		{"with 3 parts", [3]int64{1, 1, 1}, 3, [3]int64{1, 1, 1}, 0, 0},
		{"with 1 part the first one as a list", [3]int64{1, 1, 1}, 1, [3]int64{0, 0, 1}, 4, 0},
		{"with 2 parts the first one as a list", [3]int64{1, 1, 1}, 2, [3]int64{0, 1, 1}, 4, 0},
		{"with 1 part the nearest one", [3]int64{2, 1, 0}, 1, [3]int64{1, 0, 0}, 2, 0},
		{"the first number alone", [3]int64{7, 0, 0}, 5, [3]int64{5, 0, 0}, 0, 0},
		{"the second number alone", [3]int64{0, 1, 0}, 30, [3]int64{0, 30, 0}, 0, 0},
		{"the third number alone", [3]int64{0, 0, 1000}, 1, [3]int64{0, 0, 1}, 0, 0},
		{"two alike with an odd part", [3]int64{1, 1, 0}, 3, [3]int64{1, 2, 0}, 2, 0},
		{"all is greatest", [3]int64{1000, 1000, 1000}, 30, [3]int64{10, 10, 10}, 0, 0},
		{"far off each other", [3]int64{1000, 1, 0}, 30, [3]int64{30, 0, 0}, 60, 0},
		{"a third of a part", [3]int64{1, 2, 3}, 4, [3]int64{1, 1, 2}, 4, 0},
		{"a sum of 0", [3]int64{}, 4, [3]int64{}, 0, impl.ErrState},
		{"a sum of 0, and no parts", [3]int64{}, 0, [3]int64{}, 0, impl.ErrRange},
		{"a sum of 0 with numbers less than 0", [3]int64{5, -5, 0}, 4, [3]int64{}, 0, impl.ErrRange},
		{"no parts", [3]int64{1, 2, 3}, 0, [3]int64{}, 0, impl.ErrRange},
		{"less than no parts", [3]int64{1, 2, 3}, -1, [3]int64{}, 0, impl.ErrRange},
		{"most parts", [3]int64{1, 2, 3}, 30, [3]int64{5, 10, 15}, 0, 0},
		{"one part more", [3]int64{1, 2, 3}, 31, [3]int64{}, 0, impl.ErrRange},
		{"the first number too great", [3]int64{1001, 0, 0}, 4, [3]int64{}, 0, impl.ErrRange},
		{"the second number too great", [3]int64{0, 1001, 0}, 4, [3]int64{}, 0, impl.ErrRange},
		{"the third number too great", [3]int64{0, 0, 1001}, 4, [3]int64{}, 0, impl.ErrRange},
		{"the first number less than 0", [3]int64{-1, 9, 9}, 4, [3]int64{}, 0, impl.ErrRange},
		{"the second number less than 0", [3]int64{9, -1, 9}, 4, [3]int64{}, 0, impl.ErrRange},
		{"the third number less than 0", [3]int64{9, 9, -1}, 4, [3]int64{}, 0, impl.ErrRange},
	} {
		mix, off, code := impl.MixFor(c.want, c.parts)
		same(t, c.name, list(mix, off, code), list(c.mix, c.off, c.code))
	}
	for _, n := range wild {
		_, _, c1 := impl.MixFor([3]int64{1, 2, 3}, n)
		same(t, "wild parts", list(n, c1), list(n, 2))
		for ink := range 3 {
			want := [3]int64{1, 2, 3}
			want[ink] = n
			_, _, code := impl.MixFor(want, 4)
			same(t, "wild number", list(n, ink, code), list(n, ink, codeUnless(n >= 0 && n <= 1000)))
		}
		_, _, c2 := impl.MixFor([3]int64{n, n, n}, n)
		same(t, "wild throughout", list(n, c2), list(n, 2))
	}
}
