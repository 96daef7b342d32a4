package tests

import (
	"fmt"
	"math/rand"
	"slices"
	"testing"

	"loop.example/g01360/impl"
)

// dropped returns a sheet behind a drop, made by hand.
func dropped(s impl.Sheet, at impl.Spot, ink, amount, water int64) impl.Sheet {
	s.Dye[at.Y][at.X][ink], s.Wet[at.Y][at.X] = int16(amount), int16(water)
	return s
}

// stainByHand returns the cells that a drop stains on a sheet without water and dye, and whether it makes a stain.
func stainByHand(s impl.Sheet, at impl.Spot, ink, amount, water int64) ([]impl.Spot, bool) {
	if waxedAt(s, at) {
		return nil, false
	}
	s, rounds := untilByHand(dropped(s, at, ink, amount, water))
	var blot []impl.Spot
	for _, at := range places(s) {
		if darkOf(s, at) > 0 {
			blot = append(blot, at)
		}
	}
	return blot, rounds <= impl.MaxRounds
}

// wildly returns the cells of a list in any order, some of them several times.
func wildly(r *rand.Rand, cells []impl.Spot) []impl.Spot {
	list := slices.Clone(cells)
	for range oneOf(r, 0, 0, 1, 5) {
		if len(cells) > 0 {
			list = append(list, cells[r.Intn(len(cells))])
		}
	}
	r.Shuffle(len(list), func(i, j int) { list[i], list[j] = list[j], list[i] })
	return list
}

// altered returns a list of cells with one more of a sheet, one less, or as it is.
func altered(r *rand.Rand, s impl.Sheet, cells []impl.Spot) []impl.Spot {
	list, all := slices.Clone(cells), places(s)
	switch r.Intn(6) {
	case 0:
		return append(list, all[r.Intn(len(all))])
	case 1:
		if len(list) > 0 {
			i := r.Intn(len(list))
			return slices.Delete(list, i, i+1)
		}
	}
	return list
}

// unwaxedPlace returns a cell of a sheet that is not waxed, if there is one.
func unwaxedPlace(r *rand.Rand, s impl.Sheet) (impl.Spot, bool) {
	all := slices.DeleteFunc(places(s), func(at impl.Spot) bool { return waxedAt(s, at) })
	if len(all) == 0 {
		return impl.Spot{}, false
	}
	return all[r.Intn(len(all))], true
}

// somewhatWaxed returns a sheet with nothing but wax, much or little of it.
func somewhatWaxed(r *rand.Rand) impl.Sheet {
	s := impl.Sheet{Wide: int8(1 + r.Intn(8)), High: int8(1 + r.Intn(8))}
	most := oneOf(r, 2, 4, 8, 1000)
	for _, at := range places(s) {
		if r.Intn(most) == 0 {
			s.Wax[at.Y] |= 1 << at.X
		}
	}
	return s
}

func TestP13OriginsOfManyBlots(t *testing.T) {
	r := rand.New(rand.NewSource(220))
	none, one, several := 0, 0, 0
	for range 250 {
		s := somewhatWaxed(r)
		from, some := unwaxedPlace(r, s)
		if !some {
			continue
		}
		ink, amount, water := int64(r.Intn(3)), int64(oneOf(r, 0, 1, r.Intn(40), r.Intn(1001))), int64(oneOf(r, 0, 1, 2, r.Intn(60), r.Intn(201)))
		blot, _ := stainByHand(s, from, ink, amount, water)
		asked := altered(r, s, blot)
		var want []impl.Spot
		for _, at := range places(s) {
			if made, is := stainByHand(s, at, ink, amount, water); is && slices.Equal(made, ordered(asked)) {
				want = append(want, at)
			}
		}
		got, code := impl.OriginsOf(s, wildly(r, asked), ink, amount, water)
		if !slices.Equal(got, want) || code != impl.OK {
			t.Fatalf("%v by %d of %d with %d on %+v: %v, code %d, want %v", asked, amount, ink, water, s, got, code, want)
		}
		switch len(want) {
		case 0:
			none++
		case 1:
			one++
		default:
			several++
		}
	}
	if none < 20 || one < 20 || several < 20 {
		t.Errorf("%d blots had no origin, %d had one, and %d several", none, one, several)
	}
}

// ordered returns the cells of a list, each one once, by Y and then by X.
func ordered(cells []impl.Spot) []impl.Spot {
	list := slices.Clone(cells)
	slices.SortFunc(list, func(a, b impl.Spot) int { return (int(a.Y)*8 + int(a.X)) - (int(b.Y)*8 + int(b.X)) })
	return slices.Compact(list)
}

// TestP13OriginsMakeTheBlot drops at all cells of sheets, with StainOf; the cells that are no origins make other blots.
func TestP13OriginsMakeTheBlot(t *testing.T) {
	r := rand.New(rand.NewSource(221))
	for range 400 {
		s := somewhatWaxed(r)
		from, some := unwaxedPlace(r, s)
		if !some {
			continue
		}
		amount, water := int64(r.Intn(300)), int64(r.Intn(201))
		blot, _ := impl.StainOf(s, from, 1, amount, water)
		origins, code := impl.OriginsOf(s, wildly(r, blot), 1, amount, water)
		if code != impl.OK || !slices.Contains(origins, from) {
			t.Fatalf("%v is no origin of its own blot: %v, code %d", from, origins, code)
		}
		for _, at := range places(s) {
			made, code := impl.StainOf(s, at, 1, amount, water)
			if makes := code == impl.OK && slices.Equal(made, blot); makes != slices.Contains(origins, at) {
				t.Fatalf("%v makes %v, and the origins of %v are %v", at, made, blot, origins)
			}
		}
	}
}

func TestP13OriginsOfSmallBlots(t *testing.T) {
	plain := pools(t, "0 0 0")
	waxed := pools(t, "0 w 0")
	all := []impl.Spot{spot(0, 0), spot(1, 0), spot(2, 0)}
	for _, c := range []struct {
		name          string
		s             impl.Sheet
		blot          []impl.Spot
		amount, water int64
		want          string
	}{
		{"all three", plain, all, 9, 6, "[{0 0} {1 0} {2 0}]"},
		{"all three, in another order", plain, []impl.Spot{all[2], all[0], all[1]}, 9, 6, "[{0 0} {1 0} {2 0}]"},
		{"all three, some of them twice", plain, []impl.Spot{all[2], all[0], all[2], all[1], all[0]}, 9, 6, "[{0 0} {1 0} {2 0}]"},
		{"all three with a single unit", plain, all, 9, 1, "[]"},
		{"one cell", plain, all[1:2], 9, 0, "[{1 0}]"},
		{"two cells, from one of both", plain, all[:2], 9, 2, "[{0 0}]"},
		{"two cells, from one of both, and from the middle, which gives to the east first", plain, all[1:], 9, 2, "[{1 0} {2 0}]"},
		{"no ink and no cells", plain, nil, 0, 6, "[{0 0} {1 0} {2 0}]"},
		{"no ink, but cells", plain, all[:1], 0, 6, "[]"},
		{"ink, but no cells", plain, nil, 1, 6, "[]"},
		{"two cells that are apart", plain, []impl.Spot{all[0], all[2]}, 9, 6, "[]"},
		{"wax is no origin of nothing", waxed, nil, 0, 5, "[{0 0} {2 0}]"},
		{"beside wax", waxed, all[2:], 9, 200, "[{2 0}]"},
		{"a waxed cell in the blot", waxed, all[1:], 9, 200, "[]"},
		{"only wax", pools(t, "w w"), nil, 0, 0, "[]"},
		{"only wax, and wax in the blot", pools(t, "w w"), all[:1], 5, 0, "[]"},
		{"one cell with all of it", pools(t, "0"), all[:1], 1000, 200, "[{0 0}]"},
	} {
		got, code := impl.OriginsOf(c.s, c.blot, 0, c.amount, c.water)
		same(t, c.name, list(fmt.Sprint(got), code), list(c.want, 0))
	}
}

func TestP13CodesOfOrigins(t *testing.T) {
	plain, wet, dyed := pools(t, "0 w 0"), pools(t, "0 w 1"), paper(t, "0:0,0,0 w 0:0,0,1")
	bad := plain
	bad.Wax[1] = 1
	at, out := []impl.Spot{spot(0, 0)}, []impl.Spot{spot(0, 0), spot(3, 0)}
	for _, c := range []struct {
		name               string
		s                  impl.Sheet
		blot               []impl.Spot
		ink, amount, water int64
		want               int64
	}{
		{"all of it", plain, at, 2, 1000, 200, impl.OK},
		{"nothing", plain, at, 0, 0, 0, impl.OK},
		{"a waxed cell", plain, []impl.Spot{spot(1, 0)}, 0, 5, 5, impl.OK},
		{"no cells", plain, nil, 0, 5, 5, impl.OK},
		{"a cell outside", plain, out, 0, 5, 5, impl.ErrRange},
		{"a cell far outside", plain, []impl.Spot{spot(-128, 127)}, 0, 5, 5, impl.ErrRange},
		{"a cell below", plain, []impl.Spot{spot(0, 1)}, 0, 5, 5, impl.ErrRange},
		{"a cell to the west", plain, []impl.Spot{spot(-1, 0)}, 0, 5, 5, impl.ErrRange},
		{"no such ink", plain, at, 3, 5, 5, impl.ErrRange},
		{"negative ink", plain, at, -1, 5, 5, impl.ErrRange},
		{"too much", plain, at, 0, 1001, 5, impl.ErrRange},
		{"less than nothing", plain, at, 0, -1, 5, impl.ErrRange},
		{"too wet", plain, at, 0, 5, 201, impl.ErrRange},
		{"drier than dry", plain, at, 0, 5, -1, impl.ErrRange},
		{"water elsewhere", wet, at, 0, 5, 5, impl.ErrState},
		{"dye elsewhere", dyed, at, 0, 5, 5, impl.ErrState},
		{"a cell outside, before water", wet, out, 0, 5, 5, impl.ErrRange},
		{"too wet, before water", wet, at, 0, 5, 201, impl.ErrRange},
		{"too much, before dye", dyed, at, 0, 1001, 5, impl.ErrRange},
		{"no such ink, before dye", dyed, at, 7, 5, 5, impl.ErrRange},
		{"sheet that is not valid", bad, out, 7, -5, 999, impl.ErrInvalid},
	} {
		got, code := impl.OriginsOf(c.s, c.blot, c.ink, c.amount, c.water)
		if code != c.want || code != impl.OK && len(got) > 0 {
			t.Errorf("%s: %v, code %d, want %d", c.name, got, code, c.want)
		}
	}
	for _, n := range wild {
		_, c1 := impl.OriginsOf(plain, at, n, 1, 1)
		_, c2 := impl.OriginsOf(plain, at, 0, n, 1)
		_, c3 := impl.OriginsOf(plain, at, 0, 1, n)
		same(t, "wild", list(n, c1, c2, c3), list(n, 2, codeUnless(n >= 0 && n <= 1000), codeUnless(n >= 0 && n <= 200)))
	}
}

// leastByHand returns the first number of a range with which a drop makes a blot, and a code.
func leastByHand(from, to int64, blot []impl.Spot, made func(n int64) ([]impl.Spot, bool)) (int64, int64) {
	for n := from; n <= to; n++ {
		if got, is := made(n); is && slices.Equal(got, blot) {
			return n, impl.OK
		}
	}
	return 0, impl.ErrNotFound
}

func TestP13LeastWaterOfManyBlots(t *testing.T) {
	r := rand.New(rand.NewSource(222))
	none, wet := 0, 0
	for range 120 {
		s := somewhatWaxed(r)
		s.Wide, s.High = min(s.Wide, 4), min(s.High, 4)
		for y := range s.Wax {
			s.Wax[y] &= 1<<s.Wide - 1
			if y >= int(s.High) {
				s.Wax[y] = 0
			}
		}
		from, some := unwaxedPlace(r, s)
		if !some {
			continue
		}
		ink, amount := int64(r.Intn(3)), int64(oneOf(r, 0, 1, r.Intn(40), r.Intn(1001)))
		blot, _ := stainByHand(s, from, ink, amount, int64(oneOf(r, 0, 1, r.Intn(12), r.Intn(201))))
		asked := altered(r, s, blot)
		want, is := leastByHand(0, impl.MaxWet, ordered(asked), func(n int64) ([]impl.Spot, bool) { return stainByHand(s, from, ink, amount, n) })
		got, code := impl.LeastWater(s, from, ink, amount, wildly(r, asked))
		if got != want || code != is {
			t.Fatalf("%v from %v by %d on %+v: %d, code %d, want %d, code %d", asked, from, amount, s, got, code, want, is)
		}
		if code != impl.OK {
			none++
		} else if got > 2 {
			wet++
		}
	}
	if none < 10 || wet < 10 {
		t.Errorf("%d blots could not be made, %d needed more than 2 water", none, wet)
	}
}

// TestP13LeastDyeOfManyBlots tries all amounts from the least one on, for the program takes a shorter way.
func TestP13LeastDyeOfManyBlots(t *testing.T) {
	r := rand.New(rand.NewSource(223))
	none, much := 0, 0
	for range 150 {
		s := somewhatWaxed(r)
		from, some := unwaxedPlace(r, s)
		if !some {
			continue
		}
		ink, water := int64(r.Intn(3)), int64(oneOf(r, 0, 1, r.Intn(20), r.Intn(201)))
		stain := func(n int64) ([]impl.Spot, bool) {
			cells, code := impl.StainOf(s, from, ink, n, water)
			return cells, code == impl.OK
		}
		blot, _ := stain(int64(oneOf(r, 0, 1, r.Intn(30), r.Intn(201), r.Intn(1001))))
		asked := altered(r, s, blot)
		want, is := leastByHand(1, impl.MaxDye, ordered(asked), stain)
		got, code := impl.LeastDye(s, from, ink, water, wildly(r, asked))
		if got != want || code != is {
			t.Fatalf("%v from %v with %d on %+v: %d, code %d, want %d, code %d", asked, from, water, s, got, code, want, is)
		}
		if code != impl.OK {
			none++
		} else if got > 9 {
			much++
		}
	}
	if none < 10 || much < 10 {
		t.Errorf("%d blots could not be made, %d needed more than 9 dye", none, much)
	}
}

// TestP13LeastOfAll has blots that need as much, or as little, as can be.
// None needs more dye than MaxWet: with as much dye as water each unit takes dye along.
func TestP13LeastOfAll(t *testing.T) {
	row := pools(t, "0 0 0 0 0 0 0 0")
	cells := places(row)
	large, tall := impl.Sheet{Wide: 8, High: 8}, impl.Sheet{Wide: 7, High: 8, Wax: [8]uint8{0, 28, 0, 16, 16, 0, 66, 9}}
	from := spot(4, 4)
	big, _ := impl.StainOf(large, from, 0, impl.MaxDye, impl.MaxWet)
	smaller, _ := impl.StainOf(large, from, 0, impl.MaxDye, impl.MaxWet-1)
	far, _ := impl.StainOf(tall, spot(0, 0), 0, impl.MaxDye, impl.MaxWet)
	for _, c := range []struct {
		name       string
		s          impl.Sheet
		at         impl.Spot
		other      int64
		blot       []impl.Spot
		water, dye string
	}{
		{"one cell", row, spot(3, 0), 1, cells[3:4], "0 0", "1 0"},
		{"one cell of many dyes", row, spot(3, 0), 200, cells[3:4], "0 0", "1 0"},
		{"one cell of all dye", row, spot(3, 0), 1000, cells[3:4], "0 0", "0 2"},
		{"no cells", row, spot(3, 0), 0, nil, "0 0", "0 6"},
		{"no cells, but dye", row, spot(3, 0), 1, nil, "0 6", "0 6"},
		{"another cell", row, spot(3, 0), 1, cells[4:5], "0 6", "0 6"},
		{"two cells", row, spot(0, 0), 2, cells[:2], "2 0", "2 0"},
		{"all cells of a large sheet", large, from, 1000, big, "200 0", "0 2"},
		{"all cells of a large sheet but some", large, from, 1000, smaller, "185 0", "0 2"},
		{"far away", tall, spot(0, 0), 200, far, "196 0", "200 0"},
	} {
		water, one := impl.LeastWater(c.s, c.at, 1, c.other, c.blot)
		if got := fmt.Sprint(water, one); got != c.water {
			t.Errorf("%s: least water %s, want %s", c.name, got, c.water)
		}
		dye, two := impl.LeastDye(c.s, c.at, 1, c.other, c.blot)
		if got := fmt.Sprint(dye, two); got != c.dye {
			t.Errorf("%s: least dye %s, want %s", c.name, got, c.dye)
		}
	}
	if len(smaller) == len(big) {
		t.Error("the last unit of water makes the blot no greater")
	}
}

// TestP13NoMoreThanMaxWet asks for blots that one unit more than MaxWet would make, and no less.
func TestP13NoMoreThanMaxWet(t *testing.T) {
	asked, s := 0, impl.Sheet{Wide: 8, High: 8}
	for _, at := range []impl.Spot{spot(0, 1), spot(2, 3), spot(3, 4), spot(4, 5), spot(5, 0), spot(6, 6), spot(7, 7)} {
		blot, _ := stainByHand(s, at, 0, impl.MaxDye, impl.MaxWet+1)
		made := func(n int64) ([]impl.Spot, bool) {
			cells, code := impl.StainOf(s, at, 0, impl.MaxDye, n)
			return cells, code == impl.OK
		}
		want, is := leastByHand(0, impl.MaxWet, blot, made)
		got, code := impl.LeastWater(s, at, 0, impl.MaxDye, blot)
		same(t, fmt.Sprint("from ", at), list(got, code), list(want, is))
		if is == impl.ErrNotFound {
			asked++
		}
	}
	if asked == 0 {
		t.Error("no blot needs more than MaxWet")
	}
}

func TestP13CodesOfTheLeast(t *testing.T) {
	plain, wet, dyed := pools(t, "0 w 0"), pools(t, "0 w 1"), paper(t, "0:0,0,0 w 0:0,0,1")
	bad := plain
	bad.Wide = 0
	first, second := spot(0, 0), spot(1, 0)
	at, out := []impl.Spot{first}, []impl.Spot{first, spot(0, 1)}
	for _, c := range []struct {
		name       string
		s          impl.Sheet
		at         impl.Spot
		ink, n     int64
		blot       []impl.Spot
		water, dye int64
	}{
		{"fine", plain, first, 0, 9, at, impl.OK, impl.OK},
		{"the last ink", plain, first, 2, 200, at, impl.OK, impl.OK},
		{"most dye, too wet", plain, first, 0, 1000, at, impl.OK, impl.ErrRange},
		{"too wet", plain, first, 0, 201, at, impl.OK, impl.ErrRange},
		{"too much", plain, first, 0, 1001, at, impl.ErrRange, impl.ErrRange},
		{"less than nothing", plain, first, 0, -1, at, impl.ErrRange, impl.ErrRange},
		{"no such ink", plain, first, 3, 1, at, impl.ErrRange, impl.ErrRange},
		{"negative ink", plain, first, -1, 1, at, impl.ErrRange, impl.ErrRange},
		{"no such cell", plain, spot(0, 1), 0, 1, at, impl.ErrRange, impl.ErrRange},
		{"a cell far outside", plain, spot(127, -128), 0, 1, at, impl.ErrRange, impl.ErrRange},
		{"a cell of the blot outside", plain, first, 0, 1, out, impl.ErrRange, impl.ErrRange},
		{"waxed", plain, second, 0, 1, at, impl.ErrState, impl.ErrState},
		{"waxed, and a cell of the blot outside", plain, second, 0, 1, out, impl.ErrRange, impl.ErrRange},
		{"waxed, and no such ink", plain, second, 3, 1, at, impl.ErrRange, impl.ErrRange},
		{"waxed, and no blot", plain, second, 0, 1, nil, impl.ErrState, impl.ErrState},
		{"water elsewhere", wet, first, 0, 1, at, impl.ErrState, impl.ErrState},
		{"dye elsewhere", dyed, first, 0, 1, at, impl.ErrState, impl.ErrState},
		{"water elsewhere, and a cell of the blot outside", wet, first, 0, 1, out, impl.ErrRange, impl.ErrRange},
		{"dye elsewhere, and no such cell", dyed, spot(3, 0), 0, 1, at, impl.ErrRange, impl.ErrRange},
		{"water elsewhere, and less than nothing", wet, first, 0, -1, at, impl.ErrRange, impl.ErrRange},
		{"water elsewhere, and none", wet, first, 0, 1, []impl.Spot{spot(2, 0)}, impl.ErrState, impl.ErrState},
		{"none", plain, first, 0, 1, []impl.Spot{spot(2, 0)}, impl.ErrNotFound, impl.ErrNotFound},
		{"wax in the blot", plain, first, 0, 1, []impl.Spot{second}, impl.ErrNotFound, impl.ErrNotFound},
		{"sheet that is not valid", bad, spot(9, 9), 9, -9, out, impl.ErrInvalid, impl.ErrInvalid},
	} {
		water, one := impl.LeastWater(c.s, c.at, c.ink, c.n, c.blot)
		dye, two := impl.LeastDye(c.s, c.at, c.ink, c.n, c.blot)
		same(t, c.name, list(one, two), list(c.water, c.dye))
		if one != impl.OK && water != 0 || two != impl.OK && dye != 0 {
			t.Errorf("%s: %d and %d beside an error", c.name, water, dye)
		}
	}
	for _, n := range wild {
		_, c1 := impl.LeastWater(plain, first, n, 1, at)
		_, c2 := impl.LeastWater(plain, first, 0, n, at)
		_, c3 := impl.LeastDye(plain, first, n, 1, at)
		_, c4 := impl.LeastDye(plain, first, 0, n, at)
		same(t, "wild", list(n, c1, c2, c3, c4), list(n, 2, codeUnless(n >= 0 && n <= 1000), 2, codeUnless(n >= 0 && n <= 200)))
	}
}
