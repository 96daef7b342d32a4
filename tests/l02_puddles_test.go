package tests

import (
	"math/rand"
	"testing"

	"loop.example/g01360/impl"
)

// waterAsInk returns a sheet that is as dark as s is wet.
func waterAsInk(s impl.Sheet) impl.Sheet {
	dark := waxOf(s)
	for _, at := range places(s) {
		dark.Dye[at.Y][at.X][1] = s.Wet[at.Y][at.X]
	}
	return dark
}

func TestPuddlesAndEdgesOfManySheets(t *testing.T) {
	r := rand.New(rand.NewSource(80))
	several := 0
	for range 400 {
		s := randomSheet(r)
		puddles, code := impl.PuddlesOf(s)
		want := blotsByHand(waterAsInk(s), 1)
		same(t, "puddles", list(puddles, code), list(want, 0))
		if len(want) > 1 {
			several++
		}
		var edges []impl.Spot
		wettest := list(impl.Spot{}, 0, impl.ErrNotFound)
		most := int16(0)
		for _, at := range places(s) {
			wet := s.Wet[at.Y][at.X]
			if wet > most {
				most, wettest = wet, list(at, wet, 0)
			}
			dry := 0
			for _, next := range besides(s, at) {
				if s.Wet[next.Y][next.X] == 0 {
					dry++
				}
			}
			if wet > 0 && dry > 0 {
				edges = append(edges, at)
			}
		}
		got, code := impl.EdgeCells(s)
		same(t, "edges", list(got, code), list(edges, 0))
		same(t, "wettest", list(impl.WettestCell(s)), wettest)
		if t.Failed() {
			t.Fatalf("of %+v", s)
		}
	}
	if several < 50 {
		t.Errorf("only %d sheets had several puddles", several)
	}
}

func TestPuddles(t *testing.T) {
	for _, c := range []struct {
		name    string
		s       impl.Sheet
		puddles [][]impl.Spot
		edges   []impl.Spot
	}{
		{"no water", pools(t, "0 w", "0 0"), nil, nil},
		{"no water but ink", paper(t, "0:9,9,9 0:0,0,1"), nil, nil},
		{"one full cell", pools(t, "200"), [][]impl.Spot{{{}}}, nil},
		{"all wet", pools(t, "1 200", "3 1"), [][]impl.Spot{{{}, {X: 1}, {Y: 1}, {X: 1, Y: 1}}}, nil},
		{"corner only", pools(t, "5 0", "0 5"), [][]impl.Spot{{{}}, {{X: 1, Y: 1}}}, []impl.Spot{{}, {X: 1, Y: 1}}},
		{"corner between wax", pools(t, "w 5", "5 w"), [][]impl.Spot{{{X: 1}}, {{Y: 1}}}, nil},
		{"parted by wax", pools(t, "5 w 5"), [][]impl.Spot{{{}}, {{X: 2}}}, nil},
		{"around wax", pools(t, "5 w 5", "1 1 1"), [][]impl.Spot{{{}, {X: 2}, {Y: 1}, {X: 1, Y: 1}, {X: 2, Y: 1}}}, nil},
		{"row ends do not touch", pools(t, "0 0 1", "1 0 0"), [][]impl.Spot{{{X: 2}}, {{Y: 1}}}, []impl.Spot{{X: 2}, {Y: 1}}},
		{"wet in the midst is no edge", pools(t, "0 1 0", "1 1 1", "0 1 0"), [][]impl.Spot{{{X: 1}, {Y: 1}, {X: 1, Y: 1}, {X: 2, Y: 1}, {X: 1, Y: 2}}}, []impl.Spot{{X: 1}, {Y: 1}, {X: 2, Y: 1}, {X: 1, Y: 2}}},
		{"ordered by their first cells", pools(t, "0 0 1", "1 0 1", "1 1 0"), [][]impl.Spot{{{X: 2}, {X: 2, Y: 1}}, {{Y: 1}, {Y: 2}, {X: 1, Y: 2}}}, []impl.Spot{{X: 2}, {Y: 1}, {X: 2, Y: 1}, {X: 1, Y: 2}}},
	} {
		puddles, c1 := impl.PuddlesOf(c.s)
		edges, c2 := impl.EdgeCells(c.s)
		same(t, c.name, list(puddles, c1, edges, c2), list(c.puddles, 0, c.edges, 0))
	}
}

func TestWettestCells(t *testing.T) {
	for _, c := range []struct {
		name     string
		s        impl.Sheet
		at       impl.Spot
		wet, cod int64
	}{
		{"one", pools(t, "3"), spot(0, 0), 3, 0},
		{"first of several", pools(t, "1 7 7"), spot(1, 0), 7, 0},
		{"upper row first", pools(t, "0 0 7", "7 7 0"), spot(2, 0), 7, 0},
		{"last cell", pools(t, "w 199", "5 200"), spot(1, 1), 200, 0},
		{"dark is not wet", paper(t, "1:900,900,900 2:0,0,0"), spot(1, 0), 2, 0},
		{"no water", paper(t, "0:9,9,9 w"), spot(0, 0), 0, impl.ErrNotFound},
		{"wax alone", pools(t, "w w"), spot(0, 0), 0, impl.ErrNotFound},
	} {
		same(t, c.name, list(impl.WettestCell(c.s)), list(c.at, c.wet, c.cod))
	}
}

func TestPuddlesShareNoMemory(t *testing.T) {
	s := pools(t, "1 0 1", "1 0 1", "0 0 0", "1 1 1")
	puddles, _ := impl.PuddlesOf(s)
	scribble(list(append(puddles[0], spot(-9, -9)), append(puddles[1], spot(-9, -9))))
	same(t, "third", list(puddles[2]), list([]impl.Spot{{Y: 3}, {X: 1, Y: 3}, {X: 2, Y: 3}}))
}

func TestSoaking(t *testing.T) {
	s := paper(t, "0:0,0,0 199:1,2,3", "w 200:1000,1000,1000")
	for _, c := range []struct {
		name  string
		at    impl.Spot
		water int64
		want  int64
	}{
		{"most", spot(0, 0), 200, impl.OK},
		{"nothing", spot(0, 0), 0, impl.OK},
		{"one more", spot(1, 0), 1, impl.OK},
		{"two more", spot(1, 0), 2, impl.ErrLimit},
		{"full, nothing", spot(1, 1), 0, impl.OK},
		{"full, one more", spot(1, 1), 1, impl.ErrLimit},
		{"wax", spot(0, 1), 1, impl.ErrState},
		{"wax, nothing", spot(0, 1), 0, impl.ErrState},
		{"too much for wax", spot(0, 1), 201, impl.ErrRange},
		{"too much", spot(0, 0), 201, impl.ErrRange},
		{"negative", spot(1, 1), -1, impl.ErrRange},
		{"no cell", spot(2, 0), 1, impl.ErrRange},
		{"far away", spot(-128, 127), 1, impl.ErrRange},
	} {
		want := impl.Sheet{}
		if c.want == impl.OK {
			want = s
			want.Wet[c.at.Y][c.at.X] += int16(c.water)
		}
		got, code := impl.SoakCell(s, c.at, c.water)
		same(t, c.name, list(got, code), list(want, c.want))
	}
	for _, n := range wild {
		_, code := impl.SoakCell(s, spot(0, 0), n)
		same(t, "wild", list(n, code), list(n, impl.ErrRange))
	}
}
