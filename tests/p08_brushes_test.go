package tests

import (
	"math"
	"math/rand"
	"testing"

	"loop.example/g01360/impl"
)

func TestP8DipsOfManyBrushes(t *testing.T) {
	r := rand.New(rand.NewSource(123))
	full := 0
	for range 5000 {
		b, ink := randomBrush(r), r.Intn(3)
		amount, water := int64(oneOf(r, 0, r.Intn(20), r.Intn(901), 900)), int64(oneOf(r, 0, r.Intn(20), r.Intn(201), 200))
		want, code := b, int64(impl.OK)
		want.Dye[ink] += int16(amount)
		want.Water += int16(water)
		if want.Dye[0]+want.Dye[1]+want.Dye[2] > 900 || want.Water > 200 {
			want, code = impl.Brush{}, impl.ErrLimit
			full++
		}
		got, is := impl.DipBrush(b, int64(ink), amount, water)
		if got != want || is != code {
			t.Fatalf("%d of %d and %d into %+v: %+v, code %d", amount, ink, water, b, got, is)
		}
	}
	if full < 500 || full > 4500 {
		t.Errorf("%d of 5000 brushes were too full", full)
	}
}

func TestP8WhatIsDipped(t *testing.T) {
	for _, c := range []struct {
		name               string
		b                  impl.Brush
		ink, amount, water int64
		want               impl.Brush
		code               int64
	}{
		{"first of all", brush(4, 0), 0, 32, 16, brush(4, 16, 32), 0},
		{"another ink", brush(4, 16, 32), 2, 8, 4, brush(4, 20, 32, 0, 8), 0},
		{"nothing", brush(1, 16, 32, 3, 5), 1, 0, 0, brush(1, 16, 32, 3, 5), 0},
		{"all that it can have", brush(16, 0), 1, 900, 200, brush(16, 200, 0, 900, 0), 0},
		{"just MaxLoad of one ink", brush(4, 0, 899), 0, 1, 0, brush(4, 0, 900), 0},
		{"one more", brush(4, 0, 899), 0, 2, 0, impl.Brush{}, 3},
		{"just MaxLoad of all inks", brush(4, 0, 300, 299, 300), 1, 1, 0, brush(4, 0, 300, 300, 300), 0},
		{"one more of all inks", brush(4, 0, 300, 299, 300), 1, 2, 0, impl.Brush{}, 3},
		{"into a full one", brush(4, 0, 300, 300, 300), 2, 1, 0, impl.Brush{}, 3},
		{"much into a full one", brush(4, 200, 900), 0, 900, 200, impl.Brush{}, 3},
		{"nothing into a full one", brush(4, 200, 900), 1, 0, 0, brush(4, 200, 900), 0},
		{"just MaxWet", brush(4, 150), 0, 0, 50, brush(4, 200), 0},
		{"one more water", brush(4, 150), 0, 0, 51, impl.Brush{}, 3},
		{"ink 3", brush(4, 0), 3, 1, 1, impl.Brush{}, 2},
		{"ink -1", brush(4, 0), -1, 1, 1, impl.Brush{}, 2},
		{"a very large ink", brush(4, 0), 1 << 32, 1, 1, impl.Brush{}, 2},
		{"the least ink", brush(4, 0), math.MinInt64, 1, 1, impl.Brush{}, 2},
		{"amount -1", brush(4, 9, 9), 0, -1, 0, impl.Brush{}, 2},
		{"amount 901", brush(4, 0), 0, 901, 0, impl.Brush{}, 2},
		{"a very large amount", brush(4, 0), 0, math.MaxInt64, 0, impl.Brush{}, 2},
		{"an amount that is small in 16 bits", brush(4, 0), 0, 1<<16 + 1, 0, impl.Brush{}, 2},
		{"the least amount", brush(4, 0), 0, math.MinInt64, 0, impl.Brush{}, 2},
		{"water -1", brush(4, 9, 9), 0, 0, -1, impl.Brush{}, 2},
		{"water 201", brush(4, 0), 0, 0, 201, impl.Brush{}, 2},
		{"very much water", brush(4, 0), 0, 0, math.MaxInt64, impl.Brush{}, 2},
		{"water that is small in 16 bits", brush(4, 0), 0, 0, -1<<16 + 1, impl.Brush{}, 2},
		{"water 201 behind a load that is too great", brush(4, 0, 900), 0, 1, 201, impl.Brush{}, 2},
		{"a load that is too great, and ink 3", brush(4, 200, 900), 3, 900, 200, impl.Brush{}, 2},
		{"a brush that is not valid", brush(0, 0), 0, 1, 1, impl.Brush{}, 1},
		{"a brush that is not valid, and all else", brush(17, 0, 900), 3, -1, 201, impl.Brush{}, 1},
		{"a brush that would be valid then", brush(4, 0, -1), 0, 1, 0, impl.Brush{}, 1},
	} {
		got, code := impl.DipBrush(c.b, c.ink, c.amount, c.water)
		same(t, c.name, list(got, code), list(c.want, c.code))
	}
}

func TestP8MixesOfManyBrushes(t *testing.T) {
	r := rand.New(rand.NewSource(124))
	full := 0
	for range 5000 {
		a, b := randomBrush(r), randomBrush(r)
		wantA, wantB, code := a, b, int64(impl.OK)
		for ink := range 3 {
			wantA.Dye[ink] = (a.Dye[ink] + b.Dye[ink] + 1) / 2
			wantB.Dye[ink] = a.Dye[ink] + b.Dye[ink] - wantA.Dye[ink]
		}
		wantA.Water = (a.Water + b.Water + 1) / 2
		wantB.Water = a.Water + b.Water - wantA.Water
		if wantA.Dye[0]+wantA.Dye[1]+wantA.Dye[2] > 900 {
			wantA, wantB, code = impl.Brush{}, impl.Brush{}, impl.ErrLimit
			full++
		}
		gotA, gotB, is := impl.MixBrushes(a, b)
		if gotA != wantA || gotB != wantB || is != code {
			t.Fatalf("%+v and %+v: %+v and %+v, code %d", a, b, gotA, gotB, is)
		}
	}
	if full == 0 {
		t.Error("no two brushes were too full")
	}
}

func TestP8WhatIsMixed(t *testing.T) {
	for _, c := range []struct {
		name         string
		a, b         impl.Brush
		wantA, wantB impl.Brush
		code         int64
	}{
		{"even sums", brush(4, 10, 8, 0, 6), brush(4, 6, 2, 4, 0), brush(4, 8, 5, 2, 3), brush(4, 8, 5, 2, 3), 0},
		{"odd sums", brush(4, 10, 8, 1, 6), brush(4, 7, 3, 4, 1), brush(4, 9, 6, 3, 4), brush(4, 8, 5, 2, 3), 0},
		{"odd sums, the other way", brush(4, 7, 3, 4, 1), brush(4, 10, 8, 1, 6), brush(4, 9, 6, 3, 4), brush(4, 8, 5, 2, 3), 0},
		{"one unit of the second one", brush(1, 0), brush(1, 1, 1, 1, 1), brush(1, 1, 1, 1, 1), brush(1, 0), 0},
		{"one unit of the first one", brush(1, 1, 1, 1, 1), brush(1, 0), brush(1, 1, 1, 1, 1), brush(1, 0), 0},
		{"shares that differ", brush(4, 20, 32, 0, 8), brush(1, 0, 1), brush(4, 10, 17, 0, 4), brush(1, 10, 16, 0, 4), 0},
		{"the least and the greatest share", brush(16, 0, 2), brush(1, 2), brush(16, 1, 1), brush(1, 1, 1), 0},
		{"nothing", brush(3, 0), brush(5, 0), brush(3, 0), brush(5, 0), 0},
		{"as much in both", brush(3, 7, 9, 8, 7), brush(5, 7, 9, 8, 7), brush(3, 7, 9, 8, 7), brush(5, 7, 9, 8, 7), 0},
		{"two full ones", brush(3, 200, 300, 300, 300), brush(5, 200, 300, 300, 300), brush(3, 200, 300, 300, 300), brush(5, 200, 300, 300, 300), 0},
		{"full ones of different inks", brush(3, 200, 900), brush(5, 200, 0, 900), brush(3, 200, 450, 450), brush(5, 200, 450, 450), 0},
		{"just MaxLoad by rounding up", brush(3, 0, 301, 300, 299), brush(5, 0, 300, 300, 299), brush(3, 0, 301, 300, 299), brush(5, 0, 300, 300, 299), 0},
		{"one more by rounding up", brush(3, 0, 301, 301, 298), brush(5, 0, 300, 300, 299), impl.Brush{}, impl.Brush{}, 3},
		{"two odd sums, and no more than MaxLoad", brush(3, 0, 301, 300, 298), brush(5, 0, 300, 299, 300), brush(3, 0, 301, 300, 299), brush(5, 0, 300, 299, 299), 0},
		{"one more by rounding two sums up", brush(3, 0, 301, 299, 300), brush(5, 0, 300, 300, 300), impl.Brush{}, impl.Brush{}, 3},
		{"odd water of full ones", brush(3, 200), brush(5, 199), brush(3, 200), brush(5, 199), 0},
		{"the first one is not valid", brush(0, 0), brush(5, 0), impl.Brush{}, impl.Brush{}, 1},
		{"the second one is not valid", brush(5, 0), brush(17, 0), impl.Brush{}, impl.Brush{}, 1},
		{"neither is valid", impl.Brush{}, impl.Brush{}, impl.Brush{}, impl.Brush{}, 1},
		{"not valid, and too full", brush(3, 201, 301, 301, 298), brush(5, 0, 300, 300, 299), impl.Brush{}, impl.Brush{}, 1},
		{"not valid, but halves would be", brush(3, 0, 901), brush(5, 0), impl.Brush{}, impl.Brush{}, 1},
	} {
		a, b, code := impl.MixBrushes(c.a, c.b)
		same(t, c.name, list(a, b, code), list(c.wantA, c.wantB, c.code))
	}
}

func TestP8WhatIsRinsed(t *testing.T) {
	r := rand.New(rand.NewSource(125))
	for range 500 {
		b := randomBrush(r)
		got, gone, code := impl.RinseBrush(b)
		want := [3]int64{int64(b.Dye[0]), int64(b.Dye[1]), int64(b.Dye[2])}
		same(t, "rinsed", list(got, gone, code), list(impl.Brush{Share: b.Share}, want, 0))
	}
	for _, b := range []impl.Brush{{}, brush(17, 0), brush(4, 201, 5), brush(4, 0, 5, -1), brush(4, 0, 901)} {
		got, gone, code := impl.RinseBrush(b)
		same(t, "not valid", list(got, gone, code), list(impl.Brush{}, [3]int64{}, 1))
	}
}

// liftByHand moves units one by one, as long as more can go.
func liftByHand(s impl.Sheet, b impl.Brush, at impl.Spot, part int64) (impl.Sheet, impl.Brush) {
	was := s.Dye[at.Y][at.X]
	for ink := range 3 {
		for lifted := int64(1); lifted*16 <= int64(was[ink])*part && b.Dye[0]+b.Dye[1]+b.Dye[2] < 900; lifted++ {
			s.Dye[at.Y][at.X][ink]--
			b.Dye[ink]++
		}
	}
	return s, b
}

func TestP8LiftsOfManySheets(t *testing.T) {
	r := rand.New(rand.NewSource(126))
	for range 300 {
		s, b := randomSheet(r), randomBrush(r)
		for _, at := range places(s) {
			part := int64(r.Intn(17))
			got, full, code := impl.LiftCell(s, b, at, part)
			want, taken := liftByHand(s, b, at, part)
			if got != want || full != taken || code != impl.OK {
				t.Fatalf("%d of 16 by %+v at %v on %+v: got %+v and %+v, code %d", part, b, at, s, got, full, code)
			}
			checkInkKept(t, s, got, b, full)
		}
	}
}

func TestP8WhatIsLifted(t *testing.T) {
	for _, c := range []struct {
		name, cell string
		b          impl.Brush
		part       int64
		after      string
		full       impl.Brush
		code       int64
	}{
		{"a half", "3:8,4,2", brush(4, 5), 8, "3:4,2,1", brush(4, 5, 4, 2, 1), 0},
		{"rounded down", "3:15,16,31", brush(4, 5, 1, 1, 1), 1, "3:15,15,30", brush(4, 5, 1, 2, 2), 0},
		{"part 0", "3:8,4,2", brush(4, 5), 0, "3:8,4,2", brush(4, 5), 0},
		{"part 16", "3:8,4,2", brush(4, 5), 16, "3:0,0,0", brush(4, 5, 8, 4, 2), 0},
		{"part 15", "3:8,4,1", brush(4, 5), 15, "3:1,1,1", brush(4, 5, 7, 3, 0), 0},
		{"more than it can have", "200:1000,1000,1000", brush(16, 200), 16, "200:100,1000,1000", brush(16, 200, 900), 0},
		{"ink by ink, full in the second one", "0:500,500,500", brush(16, 0), 16, "0:0,100,500", brush(16, 0, 500, 400), 0},
		{"ink by ink, full in the third one", "0:400,400,400", brush(16, 0), 16, "0:0,0,300", brush(16, 0, 400, 400, 100), 0},
		{"nearly full", "4:8,8,8", brush(1, 0, 897), 8, "4:5,8,8", brush(1, 0, 900), 0},
		{"nearly full of another ink", "4:8,8,8", brush(1, 0, 0, 0, 895), 8, "4:4,7,8", brush(1, 0, 4, 1, 895), 0},
		{"room for just as much", "4:8,8,8", brush(1, 0, 0, 888), 8, "4:4,4,4", brush(1, 0, 4, 892, 4), 0},
		{"room for one less", "4:8,8,8", brush(1, 0, 0, 889), 8, "4:4,4,5", brush(1, 0, 4, 893, 3), 0},
		{"full", "4:8,8,8", brush(1, 0, 300, 300, 300), 16, "4:8,8,8", brush(1, 0, 300, 300, 300), 0},
		{"its share is no matter", "4:9,0,0", brush(1, 0), 16, "4:0,0,0", brush(1, 0, 9), 0},
		{"a dry cell", "0:9,0,0", brush(4, 0), 16, "0:0,0,0", brush(4, 0, 9), 0},
		{"water alone", "9:0,0,0", brush(4, 0), 16, "9:0,0,0", brush(4, 0), 0},
		{"wax", "w", brush(4, 3, 2, 1), 16, "w", brush(4, 3, 2, 1), 0},
		{"part -1", "3:8,4,2", brush(4, 5), -1, "", impl.Brush{}, 2},
		{"part 17", "3:8,4,2", brush(4, 5), 17, "", impl.Brush{}, 2},
		{"a very large part", "3:8,4,2", brush(4, 5), math.MaxInt64, "", impl.Brush{}, 2},
		{"the least part", "3:8,4,2", brush(4, 5), math.MinInt64, "", impl.Brush{}, 2},
		{"a part that is small in 8 bits", "3:8,4,2", brush(4, 5), 256, "", impl.Brush{}, 2},
		{"part 17 of wax", "w", brush(4, 5), 17, "", impl.Brush{}, 2},
		{"a brush that is not valid, and part 17", "3:8,4,2", brush(0, 5), 17, "", impl.Brush{}, 1},
		{"a sheet that is not valid, and part 17", "201:8,4,2", brush(4, 5), 17, "", impl.Brush{}, 1},
		{"a sheet that is not valid", "3:8,-1,2", brush(4, 5), 8, "", impl.Brush{}, 1},
	} {
		got, full, code := impl.LiftCell(paper(t, c.cell), c.b, impl.Spot{}, c.part)
		want := impl.Sheet{}
		if c.code == impl.OK {
			want = paper(t, c.after)
		}
		same(t, c.name, list(got, full, code), list(want, c.full, c.code))
	}
	got, full, code := impl.LiftCell(paper(t, "3:8,4,2"), brush(4, 5), spot(1, 0), 17)
	same(t, "no cell, and part 17", list(got, full, code), list(impl.Sheet{}, impl.Brush{}, 2))
}
