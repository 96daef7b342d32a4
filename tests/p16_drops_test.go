package tests

import (
	"fmt"
	"math"
	"math/rand"
	"slices"
	"strings"
	"testing"

	"loop.example/g01360/impl"
)

// art builds a picture from rows of letters by hand, so that tests of other functions do not depend on ReadPicture.
// It takes digits as numbers beyond those of the inks as well.
func art(rows ...string) impl.Picture {
	p := impl.Picture{Wide: int8(len(rows[0])), High: int8(len(rows))}
	for y, row := range rows {
		for x, c := range []byte(row) {
			number := strings.IndexByte(".abc456789", c)
			if number < 0 {
				panic("art: " + row)
			}
			p.Inked[y][x] = uint8(number)
		}
	}
	return p
}

// dab keeps the tables of the tests short: a drop of the ink with a letter.
func dab(x, y int8, letter string) impl.Drop {
	return impl.Drop{At: spot(x, y), Ink: uint8(strings.Index("abc", letter))}
}

// spotsIn returns the spots of all cells of a picture, ordered.
func spotsIn(p impl.Picture) []impl.Spot { return places(impl.Sheet{Wide: p.Wide, High: p.High}) }

// whiteOf returns the white picture with the size of another one.
func whiteOf(p impl.Picture) impl.Picture { return impl.Picture{Wide: p.Wide, High: p.High} }

// fullArt returns the greatest picture with all cells of one number.
func fullArt(number uint8) impl.Picture {
	p := impl.Picture{Wide: 8, High: 8}
	for _, at := range spotsIn(p) {
		p.Inked[at.Y][at.X] = number
	}
	return p
}

// near reports whether a drop at a cell covers another one.
func near(a, b impl.Spot) bool {
	dx, dy := int(a.X)-int(b.X), int(a.Y)-int(b.Y)
	return dx*dx+dy*dy <= 1
}

// coverByHand looks at all cells for those that a drop covers.
func coverByHand(p impl.Picture, at impl.Spot) []impl.Spot {
	return slices.DeleteFunc(spotsIn(p), func(other impl.Spot) bool { return !near(at, other) })
}

// dropsByHand asks each cell for the last drop that covers it.
func dropsByHand(p impl.Picture, drops []impl.Drop) impl.Picture {
	made := p
	for _, at := range spotsIn(p) {
		for _, d := range slices.Backward(drops) {
			if near(d.At, at) {
				made.Inked[at.Y][at.X] = d.Ink + 1
				break
			}
		}
	}
	return made
}

// randomWhite returns a white picture of any size.
func randomWhite(r *rand.Rand) impl.Picture {
	return impl.Picture{Wide: int8(oneOf(r, 1, 2, 3, 1+r.Intn(8), 8)), High: int8(oneOf(r, 1, 2, 3, 1+r.Intn(8), 8))}
}

// randomArt returns a valid picture; some are made by drops, most of the others are not.
func randomArt(r *rand.Rand) impl.Picture {
	p := randomWhite(r)
	if r.Intn(2) == 0 {
		return dropsByHand(p, randomDrops(r, p, oneOf(r, 0, 1, 3, r.Intn(12), 100)))
	}
	most := 1 + r.Intn(4)
	for _, at := range spotsIn(p) {
		p.Inked[at.Y][at.X] = uint8(r.Intn(most))
	}
	return p
}

// brokenArt returns a picture that is not valid, in one of the ways that the chapter names.
func brokenArt(r *rand.Rand) impl.Picture {
	p := randomArt(r)
	x, y := r.Intn(8), r.Intn(8)
	switch r.Intn(4) {
	case 0:
		p.Wide = int8(oneOf(r, 0, -1, 9, 127, -128))
	case 1:
		p.High = int8(oneOf(r, 0, -1, 9, 127, -128))
	case 2:
		p.Inked[y][x] = uint8(oneOf(r, 4, 5, 128, 255))
	case 3:
		p.Wide, p.High = min(p.Wide, 7), min(p.High, 7)
		p.Inked[y][7], p.Inked[7][x] = uint8(r.Intn(4)), uint8(1+r.Intn(3))
	}
	return p
}

// randomDrops returns so many drops on a picture, some of them the same as others.
func randomDrops(r *rand.Rand, p impl.Picture, count int) []impl.Drop {
	var drops []impl.Drop
	cells := spotsIn(p)
	for range count {
		d := impl.Drop{At: cells[r.Intn(len(cells))], Ink: uint8(r.Intn(3))}
		if len(drops) > 0 && r.Intn(8) == 0 {
			d = drops[r.Intn(len(drops))]
		}
		drops = append(drops, d)
	}
	return drops
}

func TestP16PicturesOfManyDrops(t *testing.T) {
	r := rand.New(rand.NewSource(260))
	for range 2000 {
		p := randomArt(r)
		drops := randomDrops(r, p, oneOf(r, 0, 1, 2, r.Intn(20), 100))
		want := dropsByHand(p, drops)
		got, code := impl.DropAll(p, drops)
		if got != want || code != impl.OK {
			t.Fatalf("%v on %v: %v, code %d, want %v", drops, p, got, code, want)
		}
		one := p
		for _, d := range drops {
			one, code = impl.DropOn(one, d)
			if code != impl.OK {
				t.Fatalf("%v on %v: code %d", d, one, code)
			}
		}
		if one != want {
			t.Fatalf("%v on %v, one by one: %v, want %v", drops, p, one, want)
		}
	}
}

// TestP16DropsMakeWhatTheyMake asks for the picture that drops make, and for it with one cell changed.
func TestP16DropsMakeWhatTheyMake(t *testing.T) {
	r := rand.New(rand.NewSource(261))
	for range 2000 {
		white := randomWhite(r)
		drops := randomDrops(r, white, oneOf(r, 0, 1, 2, r.Intn(20), 100))
		made, c1 := impl.DropAll(white, drops)
		yes, c2 := impl.CheckDrops(made, drops)
		same(t, fmt.Sprint(drops, " make ", made), list(c1, yes, c2), list(0, true, 0))
		other := made
		at := spotsIn(made)[r.Intn(int(made.Wide)*int(made.High))]
		other.Inked[at.Y][at.X] = (other.Inked[at.Y][at.X] + uint8(1+r.Intn(3))) % 4
		no, c3 := impl.CheckDrops(other, drops)
		same(t, fmt.Sprint(drops, " make ", other), list(no, c3), list(false, 0))
	}
}

// TestP16AnyPictureAndDrops holds what CheckDrops tells of pictures and drops that have nothing to do with each other, on few cells.
func TestP16AnyPictureAndDrops(t *testing.T) {
	r := rand.New(rand.NewSource(262))
	made := 0
	for range 5000 {
		p := impl.Picture{Wide: int8(1 + r.Intn(2)), High: int8(1 + r.Intn(2))}
		for _, at := range spotsIn(p) {
			p.Inked[at.Y][at.X] = uint8(r.Intn(3))
		}
		drops := randomDrops(r, p, r.Intn(4))
		want := dropsByHand(whiteOf(p), drops) == p
		got, code := impl.CheckDrops(p, drops)
		same(t, fmt.Sprint(drops, " make ", p), list(got, code), list(want, 0))
		if want {
			made++
		}
	}
	if made < 200 || made > 4000 {
		t.Errorf("%d of 5000 were made", made)
	}
}

func TestP16WhatADropCovers(t *testing.T) {
	full := impl.Picture{Wide: 8, High: 8}
	for _, c := range []struct {
		name string
		p    impl.Picture
		at   impl.Spot
		want string
	}{
		{"the only cell", art("."), spot(0, 0), "[{0 0}]"},
		{"the middle", art("...", "...", "..."), spot(1, 1), "[{1 0} {0 1} {1 1} {2 1} {1 2}]"},
		{"the north-west corner", full, spot(0, 0), "[{0 0} {1 0} {0 1}]"},
		{"the north-east corner", full, spot(7, 0), "[{6 0} {7 0} {7 1}]"},
		{"the south-west corner", full, spot(0, 7), "[{0 6} {0 7} {1 7}]"},
		{"the south-east corner", full, spot(7, 7), "[{7 6} {6 7} {7 7}]"},
		{"the north edge", full, spot(3, 0), "[{2 0} {3 0} {4 0} {3 1}]"},
		{"the east edge", full, spot(7, 3), "[{7 2} {6 3} {7 3} {7 4}]"},
		{"the south edge", full, spot(3, 7), "[{3 6} {2 7} {3 7} {4 7}]"},
		{"the west edge", full, spot(0, 3), "[{0 2} {0 3} {1 3} {0 4}]"},
		{"in the midst", full, spot(5, 2), "[{5 1} {4 2} {5 2} {6 2} {5 3}]"},
		{"the end of a row", art("..."), spot(2, 0), "[{1 0} {2 0}]"},
		{"the middle of a row", art("..."), spot(1, 0), "[{0 0} {1 0} {2 0}]"},
		{"the end of a column", art(".", ".", "."), spot(0, 0), "[{0 0} {0 1}]"},
		{"the middle of a column", art(".", ".", "."), spot(0, 1), "[{0 0} {0 1} {0 2}]"},
		{"inks are no matter", art("abc", "c.a", "bbb"), spot(1, 1), "[{1 0} {0 1} {1 1} {2 1} {1 2}]"},
	} {
		got, code := impl.CoveredBy(c.p, c.at)
		same(t, c.name, list(fmt.Sprint(got), code), list(c.want, 0))
	}
}

// TestP16EachCellOfEachSize lets a drop fall on each cell of pictures of all sizes.
func TestP16EachCellOfEachSize(t *testing.T) {
	for wide := int8(1); wide <= 8; wide++ {
		for high := int8(1); high <= 8; high++ {
			p := impl.Picture{Wide: wide, High: high}
			for _, at := range spotsIn(p) {
				want := coverByHand(p, at)
				got, c1 := impl.CoveredBy(p, at)
				made, c2 := impl.DropOn(p, impl.Drop{At: at, Ink: 2})
				shown := slices.DeleteFunc(spotsIn(p), func(at impl.Spot) bool { return made.Inked[at.Y][at.X] != 3 })
				same(t, fmt.Sprint(at, " of ", wide, "x", high), list(got, c1, shown, c2, impl.ValidPicture(made)), list(want, 0, want, 0, true))
			}
		}
	}
}

func TestP16DropsUponEachOther(t *testing.T) {
	for _, c := range []struct {
		name  string
		on    impl.Picture
		drops []impl.Drop
		want  impl.Picture
	}{
		{"none", art("a.", "bc"), nil, art("a.", "bc")},
		{"the document's", art("...", "...", "..."), []impl.Drop{dab(1, 1, "a"), dab(2, 2, "b")}, art(".a.", "aab", ".bb")},
		{"the other way round", art("...", "...", "..."), []impl.Drop{dab(2, 2, "b"), dab(1, 1, "a")}, art(".a.", "aaa", ".ab")},
		{"what was shown before is no matter", art("cbc", "b.b", "aaa"), []impl.Drop{dab(1, 1, "c")}, art("ccc", "ccc", "aca")},
		{"the same twice", art("..", ".."), []impl.Drop{dab(0, 0, "b"), dab(0, 0, "b")}, art("bb", "b.")},
		{"the same cell, another ink", art("..", ".."), []impl.Drop{dab(0, 0, "b"), dab(0, 0, "c")}, art("cc", "c.")},
		{"covered wholly by two", art("..."), []impl.Drop{dab(1, 0, "a"), dab(0, 0, "b"), dab(2, 0, "c")}, art("bcc")},
		{"one cell", art("."), []impl.Drop{dab(0, 0, "a"), dab(0, 0, "c"), dab(0, 0, "b")}, art("b")},
	} {
		got, code := impl.DropAll(c.on, c.drops)
		same(t, c.name, list(got, code), list(c.want, 0))
	}
}

func TestP16ListsOfDrops(t *testing.T) {
	p := art("..", "..")
	hundred := slices.Repeat([]impl.Drop{dab(0, 0, "a")}, 100)
	late := slices.Clone(hundred)
	late[99] = dab(2, 0, "a")
	strange := slices.Clone(hundred)
	strange[99].Ink = 3
	long := append(slices.Clone(hundred), dab(1, 1, "b"))
	bad := art("..", ".4")
	for _, c := range []struct {
		name string
		p    impl.Picture
		list []impl.Drop
		code int64
	}{
		{"no drops", p, nil, 0},
		{"100 drops", p, hundred, 0},
		{"one more", p, long, impl.ErrLimit},
		{"one more, and the first one outside", p, append([]impl.Drop{dab(-1, 0, "a")}, hundred...), impl.ErrLimit},
		{"one more, which is outside", p, append(slices.Clone(hundred), dab(0, 2, "a")), impl.ErrLimit},
		{"the last one outside", p, late, impl.ErrRange},
		{"the last one of no ink", p, strange, impl.ErrRange},
		{"the first one outside", p, []impl.Drop{dab(0, 2, "a"), dab(0, 0, "a")}, impl.ErrRange},
		{"the first one of no ink", p, []impl.Drop{{Ink: 3}, dab(0, 0, "a")}, impl.ErrRange},
		{"far west", p, []impl.Drop{dab(-128, 0, "a")}, impl.ErrRange},
		{"far south", p, []impl.Drop{dab(0, 127, "a")}, impl.ErrRange},
		{"the greatest ink", p, []impl.Drop{{Ink: 255}}, impl.ErrRange},
		{"an ink that is 3 less than 256", p, []impl.Drop{{Ink: 253}}, impl.ErrRange},
		{"not valid", bad, nil, impl.ErrInvalid},
		{"not valid, with too many", bad, long, impl.ErrInvalid},
		{"not valid, with one outside", bad, late, impl.ErrInvalid},
		{"no picture", impl.Picture{}, late, impl.ErrInvalid},
	} {
		_, c1 := impl.DropAll(c.p, c.list)
		_, c2 := impl.CheckDrops(c.p, c.list)
		_, c3 := impl.UselessDrops(c.p, c.list)
		useless := c.code
		if useless == impl.OK && len(c.list) > 0 { // they do not make the white picture
			useless = impl.ErrState
		}
		same(t, c.name, list(c1, c2, c3), list(c.code, c.code, useless))
	}
	made, _ := impl.DropAll(p, append(hundred[:99:99], dab(1, 1, "b")))
	same(t, "the last one of 100", list(made), list(art("ab", "bb")))
}

func TestP16CodesOfDrops(t *testing.T) {
	p, bad := art("ab", ".."), art("ab", "..")
	bad.Inked[0][2] = 1
	for _, c := range []struct {
		name string
		p    impl.Picture
		d    impl.Drop
		// Those of CoveredBy, DropOn and CanBeLast.
		codes [3]int64
	}{
		{"fine", p, dab(1, 1, "c"), [3]int64{}},
		{"east of all", p, dab(2, 0, "a"), [3]int64{2, 2, 2}},
		{"south of all", p, dab(0, 2, "a"), [3]int64{2, 2, 2}},
		{"west of all", p, dab(-1, 0, "a"), [3]int64{2, 2, 2}},
		{"north of all", p, dab(0, -1, "a"), [3]int64{2, 2, 2}},
		{"far off", p, dab(-128, 127, "a"), [3]int64{2, 2, 2}},
		{"no ink", p, impl.Drop{Ink: 3}, [3]int64{0, 2, 2}},
		{"no ink by far", p, impl.Drop{Ink: 255}, [3]int64{0, 2, 2}},
		{"neither cell nor ink", p, impl.Drop{At: spot(2, 2), Ink: 4}, [3]int64{2, 2, 2}},
		{"not valid", bad, dab(0, 0, "a"), [3]int64{1, 1, 1}},
		{"not valid, and neither cell nor ink", bad, impl.Drop{At: spot(9, 9), Ink: 9}, [3]int64{1, 1, 1}},
		{"no picture", impl.Picture{}, impl.Drop{}, [3]int64{1, 1, 1}},
	} {
		_, c1 := impl.CoveredBy(c.p, c.d.At)
		_, c2 := impl.DropOn(c.p, c.d)
		_, c3 := impl.CanBeLast(c.p, c.d)
		same(t, c.name, list(c1, c2, c3), list(c.codes[0], c.codes[1], c.codes[2]))
	}
}

func TestP16SpotsBeyondThePicture(t *testing.T) {
	p := art("ab.", "c..")
	for x := math.MinInt8; x <= math.MaxInt8; x++ {
		for y := math.MinInt8; y <= math.MaxInt8; y++ {
			d := impl.Drop{At: spot(int8(x), int8(y))}
			want := int64(impl.ErrRange)
			if x >= 0 && x < 3 && y >= 0 && y < 2 {
				want = impl.OK
			}
			_, c1 := impl.CoveredBy(p, d.At)
			_, c2 := impl.DropOn(p, d)
			_, c3 := impl.DropAll(p, []impl.Drop{{}, d})
			_, c4 := impl.CheckDrops(p, []impl.Drop{d})
			_, c5 := impl.CanBeLast(p, d)
			if got := [5]int64{c1, c2, c3, c4, c5}; got != [5]int64{want, want, want, want, want} {
				t.Fatalf("%d, %d: codes %v, want %d", x, y, got, want)
			}
		}
	}
}

// TestP16ValidPictures changes each place of pictures of all sizes.
func TestP16ValidPictures(t *testing.T) {
	for wide := int8(-1); wide <= 9; wide++ {
		for high := int8(-1); high <= 9; high++ {
			p := impl.Picture{Wide: wide, High: high}
			fine := wide >= 1 && wide <= 8 && high >= 1 && high <= 8
			same(t, fmt.Sprint("white, ", wide, "x", high), list(impl.ValidPicture(p)), list(fine))
			for _, at := range places(impl.Sheet{Wide: 8, High: 8}) {
				for _, number := range []uint8{1, 2, 3, 4, 5, 127, 128, 252, 255} {
					other := p
					other.Inked[at.Y][at.X] = number
					want := fine && at.X < wide && at.Y < high && number <= 3
					_, code := impl.InksOf(other)
					if got := impl.ValidPicture(other); got != want || (code == impl.OK) != want || (code == impl.ErrInvalid) == want {
						t.Fatalf("%dx%d, %d at %v: %v, code %d", wide, high, number, at, got, code)
					}
				}
			}
		}
	}
	for _, n := range []int8{-128, -127, 127, 16, 64} {
		same(t, "far off", list(impl.ValidPicture(impl.Picture{Wide: n, High: 1}), impl.ValidPicture(impl.Picture{Wide: 1, High: n})), list(false, false))
	}
}

func TestP16SamePictures(t *testing.T) {
	p := art("ab", "c.")
	for _, at := range places(impl.Sheet{Wide: 8, High: 8}) {
		other := p
		other.Inked[at.Y][at.X] ^= 64
		same(t, fmt.Sprint(at), list(impl.SamePicture(p, other), impl.SamePicture(other, other)), list(false, true))
	}
	wider, higher := p, p
	wider.Wide, higher.High = 3, 3
	same(t, "sizes", list(impl.SamePicture(p, wider), impl.SamePicture(p, higher), impl.SamePicture(wider, higher)), list(false, false, false))
	same(t, "not valid", list(impl.SamePicture(impl.Picture{}, impl.Picture{}), impl.SamePicture(impl.Picture{Wide: -1}, impl.Picture{})), list(true, false))
}

func TestP16BlankPictures(t *testing.T) {
	for wide := int64(-1); wide <= 9; wide++ {
		for high := int64(-1); high <= 9; high++ {
			want, is := impl.Picture{}, int64(impl.ErrRange)
			if wide >= 1 && wide <= 8 && high >= 1 && high <= 8 {
				want, is = impl.Picture{Wide: int8(wide), High: int8(high)}, impl.OK
			}
			got, code := impl.BlankPicture(wide, high)
			same(t, fmt.Sprint(wide, "x", high), list(got, code), list(want, is))
		}
	}
	for _, n := range wild {
		_, c1 := impl.BlankPicture(n, 1)
		_, c2 := impl.BlankPicture(1, n)
		_, c3 := impl.BlankPicture(n, n)
		same(t, "wild", list(n, c1, c2, c3), list(n, 2, 2, 2))
	}
}

func TestP16InksOfManyPictures(t *testing.T) {
	r := rand.New(rand.NewSource(263))
	kinds := map[int]int{}
	for range 1000 {
		p := randomArt(r)
		var want []int64
		for ink := range int64(3) {
			cells := slices.DeleteFunc(spotsIn(p), func(at impl.Spot) bool { return int64(p.Inked[at.Y][at.X]) != ink+1 })
			n, code := impl.CountInk(p, ink)
			same(t, "count", list(n, code), list(len(cells), 0))
			if len(cells) > 0 {
				want = append(want, ink)
			}
		}
		got, code := impl.InksOf(p)
		same(t, fmt.Sprint(p), list(got, code), list(want, 0))
		kinds[len(want)]++
	}
	if len(kinds) != 4 {
		t.Errorf("only %v inks", kinds)
	}
}

func TestP16Inks(t *testing.T) {
	full := fullArt(3)
	for _, c := range []struct {
		name   string
		p      impl.Picture
		inks   []int64
		counts [3]int64
	}{
		{"none", art("..", ".."), nil, [3]int64{}},
		{"one", art(".b", "b."), []int64{1}, [3]int64{0, 2, 0}},
		{"the first and the last", art("c.a"), []int64{0, 2}, [3]int64{1, 0, 1}},
		{"all", art("cba", "aa."), []int64{0, 1, 2}, [3]int64{3, 1, 1}},
		{"all cells", full, []int64{2}, [3]int64{0, 0, 64}},
		{"one cell", art("a"), []int64{0}, [3]int64{1, 0, 0}},
	} {
		inks, c1 := impl.InksOf(c.p)
		same(t, c.name, list(inks, c1), list(c.inks, 0))
		for ink, want := range c.counts {
			n, code := impl.CountInk(c.p, int64(ink))
			same(t, c.name, list(ink, n, code), list(ink, want, 0))
		}
	}
	bad := art("4")
	for _, n := range append([]int64{3, -1, 4, 255}, wild...) {
		_, c1 := impl.CountInk(full, n)
		_, c2 := impl.StencilOf(full, n)
		_, c3 := impl.CountInk(bad, n)
		_, c4 := impl.StencilOf(bad, n)
		same(t, "no ink", list(n, c1, c2, c3, c4), list(n, 2, 2, 1, 1))
	}
}

// uselessByHand leaves each drop away in turn.
func uselessByHand(p impl.Picture, drops []impl.Drop) []int64 {
	var list []int64
	for i := range drops {
		if dropsByHand(whiteOf(p), slices.Delete(slices.Clone(drops), i, i+1)) == p {
			list = append(list, int64(i))
		}
	}
	return list
}

func TestP16UselessDropsOfManyLists(t *testing.T) {
	r := rand.New(rand.NewSource(264))
	kinds := map[string]int{}
	for range 1500 {
		white := randomWhite(r)
		drops := randomDrops(r, white, oneOf(r, 0, 1, 2, 3, r.Intn(20), 100))
		p := dropsByHand(white, drops)
		want := uselessByHand(p, drops)
		got, code := impl.UselessDrops(p, drops)
		if !slices.Equal(got, want) || code != impl.OK {
			t.Fatalf("%v for %v: %v, code %d, want %v", drops, p, got, code, want)
		}
		switch {
		case len(drops) < 2:
		case len(want) == 0:
			kinds["none"]++
		case len(want) == len(drops):
			kinds["all"]++
		default:
			kinds["some"]++
		}
	}
	for _, kind := range []string{"none", "some", "all"} {
		if kinds[kind] < 20 {
			t.Errorf("only %v of the lists", kinds)
		}
	}
}

func TestP16UselessDrops(t *testing.T) {
	row := func(letters string) []impl.Drop { // each one covers the cell beside it as well
		var drops []impl.Drop
		for x := range letters {
			drops = append(drops, dab(int8(x), 0, letters[x:x+1]))
		}
		return drops
	}
	for _, c := range []struct {
		name  string
		p     impl.Picture
		drops []impl.Drop
		want  []int64
		code  int64
	}{
		{"none of none", art(".."), nil, nil, 0},
		{"the document's", art(".a.", "aab", ".bb"), []impl.Drop{dab(1, 1, "a"), dab(2, 2, "b")}, nil, 0},
		{"the same twice", art("bb."), []impl.Drop{dab(0, 0, "b"), dab(0, 0, "b")}, []int64{0, 1}, 0},
		{"the same three times", art("bb."), slices.Repeat([]impl.Drop{dab(0, 0, "b")}, 3), []int64{0, 1, 2}, 0},
		{"the same twice, with another one between", art("bba."), []impl.Drop{dab(0, 0, "b"), dab(2, 0, "a"), dab(0, 0, "b")}, nil, impl.ErrState},
		{"the same twice, and one covered in between", art("bba"), []impl.Drop{dab(0, 0, "b"), dab(2, 0, "a"), dab(0, 0, "b")}, []int64{0}, 0},
		{"covered by another one", art("aaa"), []impl.Drop{dab(0, 0, "b"), dab(1, 0, "a")}, []int64{0}, 0},
		{"covered by two together", art("bcc"), []impl.Drop{dab(1, 0, "a"), dab(0, 0, "b"), dab(2, 0, "c")}, []int64{0}, 0},
		{"each one alone, but not both", art("aa", "aa"), []impl.Drop{dab(0, 0, "a"), dab(1, 1, "a"), dab(1, 0, "a"), dab(0, 1, "a")}, []int64{0, 1, 2, 3}, 0},
		{"in the midst of a list", art("abcc"), append(row("ab"), dab(3, 0, "a"), dab(3, 0, "c")), nil, impl.ErrState},
		{"the last one but one", art("aabb"), []impl.Drop{dab(0, 0, "a"), dab(3, 0, "c"), dab(3, 0, "b")}, []int64{1}, 0},
		{"the only one", art("a"), []impl.Drop{dab(0, 0, "a")}, nil, 0},
		{"they make another picture", art("ab"), []impl.Drop{dab(0, 0, "a")}, nil, impl.ErrState},
		{"they make another picture without any", art("a"), nil, nil, impl.ErrState},
		{"too many, that make another picture", art("a"), slices.Repeat([]impl.Drop{dab(0, 0, "b")}, 101), nil, impl.ErrLimit},
		{"one outside, that make another picture", art("a"), []impl.Drop{dab(0, 0, "b"), dab(1, 0, "b")}, nil, impl.ErrRange},
		{"not valid, and they make another picture", art("5"), []impl.Drop{dab(0, 0, "b")}, nil, impl.ErrInvalid},
	} {
		got, code := impl.UselessDrops(c.p, c.drops)
		same(t, c.name, list(got, code), list(c.want, c.code))
	}
	hundred := slices.Repeat([]impl.Drop{dab(0, 0, "a"), dab(0, 0, "b")}, 50)
	got, code := impl.UselessDrops(art("b"), hundred)
	same(t, "all but the last one of 100", list(len(got), slices.Contains(got, 99), code), list(99, false, 0))
}

func TestP16UnlikeCellsOfManyPictures(t *testing.T) {
	r := rand.New(rand.NewSource(265))
	for range 1500 {
		a := randomArt(r)
		b := randomArt(r)
		if r.Intn(4) > 0 {
			b = dropsByHand(a, randomDrops(r, a, r.Intn(4)))
		}
		var want []impl.Spot
		is := int64(impl.OK)
		for _, at := range spotsIn(a) {
			if a.Inked[at.Y][at.X] != b.Inked[at.Y][at.X] {
				want = append(want, at)
			}
		}
		if a.Wide != b.Wide || a.High != b.High {
			want, is = nil, impl.ErrState
		}
		got, c1 := impl.UnlikeIn(a, b)
		back, c2 := impl.UnlikeIn(b, a)
		same(t, fmt.Sprint(a, " and ", b), list(got, c1, back, c2), list(want, is, want, is))
	}
}

func TestP16UnlikeCells(t *testing.T) {
	p := art("ab", "c.")
	for _, c := range []struct {
		name string
		a, b impl.Picture
		want []impl.Spot
		code int64
	}{
		{"equal", p, p, nil, 0},
		{"white", art("."), art("."), nil, 0},
		{"all", p, art("ba", ".c"), []impl.Spot{spot(0, 0), spot(1, 0), spot(0, 1), spot(1, 1)}, 0},
		{"ordered", p, art("aa", "a."), []impl.Spot{spot(1, 0), spot(0, 1)}, 0},
		{"wider", p, art("ab.", "c.."), nil, impl.ErrState},
		{"higher", p, art("ab", "c.", ".."), nil, impl.ErrState},
		{"the same cells otherwise", art("...."), art("..", ".."), nil, impl.ErrState},
		{"turned size", art("..."), art(".", ".", "."), nil, impl.ErrState},
		{"the first one not valid", art("a4", "c."), p, nil, impl.ErrInvalid},
		{"the second one not valid", p, art("a4", "c."), nil, impl.ErrInvalid},
		{"the second one not valid, of another size", p, art("4"), nil, impl.ErrInvalid},
		{"the first one not valid, of another size", impl.Picture{}, p, nil, impl.ErrInvalid},
		{"both not valid, and equal", impl.Picture{}, impl.Picture{}, nil, impl.ErrInvalid},
	} {
		got, code := impl.UnlikeIn(c.a, c.b)
		same(t, c.name, list(got, code), list(c.want, c.code))
	}
}
