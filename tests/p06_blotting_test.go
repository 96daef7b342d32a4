package tests

import (
	"math/rand"
	"testing"

	"loop.example/g01360/impl"
)

// blotByHand blots the sheet b by a: it looks at each cell of b, and at what lies below it.
func blotByHand(a, b impl.Sheet, press int64) (impl.Sheet, impl.Sheet, int64) {
	gone := int64(0)
	for _, at := range places(b) {
		below := spot(b.Wide-1-at.X, at.Y)
		if waxedAt(b, at) || a.Wet[below.Y][below.X] == 0 {
			continue
		}
		for ink := range 3 {
			goes := int64(a.Dye[below.Y][below.X][ink]) * press / 16
			if room := 1000 - int64(b.Dye[at.Y][at.X][ink]); goes > room {
				goes = room
			}
			a.Dye[below.Y][below.X][ink] -= int16(goes)
			b.Dye[at.Y][at.X][ink] += int16(goes)
			gone += goes
		}
	}
	return a, b, gone
}

func TestP6BlotsOfManySheets(t *testing.T) {
	r := rand.New(rand.NewSource(101))
	for range 400 {
		a := randomSheet(r)
		b, press := sheetLike(r, a), int64(1+r.Intn(8))
		onA, onB, sum := a, b, int64(0)
		for rounds := int64(0); rounds <= impl.MaxFolds; rounds++ {
			gotA, gotB, gone, code := impl.BlotRounds(a, b, press, rounds)
			if gotA != onA || gotB != onB || gone != sum || code != impl.OK {
				t.Fatalf("%d rounds by %d: gone %d, want %d, code %d, of %+v and %+v", rounds, press, gone, sum, code, a, b)
			}
			checkBlotted(t, a, b, gotA, gotB, gone)
			wantA, wantB, more := blotByHand(onA, onB, press)
			gotA, gotB, gone, code = impl.BlotOnto(onA, onB, press)
			if gotA != wantA || gotB != wantB || gone != more || code != impl.OK {
				t.Fatalf("by %d: gone %d, want %d, code %d, of %+v and %+v", press, gone, more, code, onA, onB)
			}
			onA, onB, sum = wantA, wantB, sum+more
		}
	}
}

// checkBlotted fails the test if what has gone from one sheet has not come to the other one, or anything but dye has changed.
func checkBlotted(t *testing.T, a, b, afterA, afterB impl.Sheet, gone int64) {
	t.Helper()
	dyeA, _ := totals(a)
	dyeB, _ := totals(b)
	isA, _ := totals(afterA)
	isB, _ := totals(afterB)
	sum := int64(0)
	for ink := range dyeA {
		if dyeA[ink]-isA[ink] != isB[ink]-dyeB[ink] || isA[ink] > dyeA[ink] {
			t.Fatalf("the ink %d was %d and %d, and is %d and %d", ink, dyeA[ink], dyeB[ink], isA[ink], isB[ink])
		}
		sum += dyeA[ink] - isA[ink]
	}
	same(t, "kept", list(sum, afterA.Wet, afterB.Wet, waxOf(afterA), waxOf(afterB)), list(gone, a.Wet, b.Wet, waxOf(a), waxOf(b)))
	if !impl.ValidSheet(afterA) || !impl.ValidSheet(afterB) {
		t.Fatal("a sheet is not valid")
	}
}

func TestP6WhatIsBlotted(t *testing.T) {
	for _, c := range []struct {
		name, a, b     string
		press          int64
		afterA, afterB string
		gone           int64
	}{
		{"the document's", "5:9,0,0 0:2,0,0 0:0,0,0", "0:0,0,0 0:0,0,0 0:0,0,0", 8, "5:5,0,0 0:2,0,0 0:0,0,0", "0:0,0,0 0:0,0,0 0:4,0,0", 4},
		{"to the other end", "1:2,0,0 1:0,4,0 1:0,0,6 1:8,0,0", "0:0,0,0 0:0,0,0 0:0,0,0 0:0,0,0", 8,
			"1:1,0,0 1:0,2,0 1:0,0,3 1:4,0,0", "0:4,0,0 0:0,0,3 0:0,2,0 0:1,0,0", 10},
		{"one cell", "7:16,32,15", "0:1,0,2", 1, "7:15,30,15", "0:2,2,2", 3},
		{"without water", "0:16,16,16", "200:0,0,0", 8, "0:16,16,16", "200:0,0,0", 0},
		{"onto water", "1:16,0,0", "200:0,0,0", 8, "1:8,0,0", "200:8,0,0", 8},
		{"onto wax", "1:16,16,16", "w", 8, "1:16,16,16", "w", 0},
		{"out of wax", "w", "1:16,16,16", 8, "w", "1:16,16,16", 0},
		{"wax at the other end", "1:16,0,0 1:0,32,0", "w 0:0,0,0", 8, "1:8,0,0 1:0,32,0", "w 0:8,0,0", 8},
		{"from less to more", "1:2,0,0", "0:900,0,0", 8, "1:1,0,0", "0:901,0,0", 1},
		{"room for some of it", "1:1000,1000,1000", "0:999,500,501", 8, "1:999,500,501", "0:1000,1000,1000", 1000},
		{"no room", "1:16,16,0", "0:1000,999,0", 8, "1:16,15,0", "0:1000,1000,0", 1},
		{"rounded down", "1:1,2,3", "0:0,0,0", 7, "1:1,2,2", "0:0,0,1", 1},
		{"seven sixteenths", "200:1000,16,17", "0:0,0,0", 7, "200:563,9,10", "0:437,7,7", 451},
		{"nothing", "9:0,0,0", "9:5,5,5", 8, "9:0,0,0", "9:5,5,5", 0},
	} {
		a, b, gone, code := impl.BlotOnto(paper(t, c.a), paper(t, c.b), c.press)
		if a != paper(t, c.afterA) || b != paper(t, c.afterB) || gone != c.gone || code != impl.OK {
			t.Errorf("%s: got %q and %q, gone %d, code %d", c.name, impl.SheetText(a), impl.SheetText(b), gone, code)
		}
	}
	a, b, gone, code := impl.BlotOnto(paper(t, "1:4,0,0 1:0,0,0", "1:0,8,0 0:9,9,9"), paper(t, "0:0,0,0 0:0,0,0", "0:0,0,0 0:0,0,1"), 8)
	same(t, "rows stay", list(a, b, gone, code), list(paper(t, "1:2,0,0 1:0,0,0", "1:0,4,0 0:9,9,9"), paper(t, "0:0,0,0 0:2,0,0", "0:0,0,0 0:0,4,1"), 6, 0))
}

func TestP6CodesOfBlotting(t *testing.T) {
	a, b, tall := paper(t, "1:2,0,0 0:0,0,0"), paper(t, "0:0,0,0 0:0,0,0"), paper(t, "0:0,0,0", "0:0,0,0")
	bad := a
	bad.Wet[0][2] = 1
	for _, c := range []struct {
		name                string
		a, b                impl.Sheet
		press, rounds, want int64
	}{
		{"least press", a, b, 1, 1, impl.OK},
		{"greatest press", a, b, 8, 1, impl.OK},
		{"no round", a, b, 8, 0, impl.OK},
		{"most rounds", a, b, 8, 30, impl.OK},
		{"one more", a, b, 8, 31, impl.ErrRange},
		{"less than no round", a, b, 8, -1, impl.ErrRange},
		{"press of 0", a, b, 0, 1, impl.ErrRange},
		{"press of 9", a, b, 9, 1, impl.ErrRange},
		{"press of 0, and no round", a, b, 0, 0, impl.ErrRange},
		{"negative press", a, b, -8, 1, impl.ErrRange},
		{"other size", a, tall, 8, 1, impl.ErrState},
		{"other size, no round", a, tall, 8, 0, impl.ErrState},
		{"wider", a, paper(t, "0:0,0,0 0:0,0,0 0:0,0,0"), 8, 1, impl.ErrState},
		{"higher", a, paper(t, "0:0,0,0 0:0,0,0", "w w"), 8, 1, impl.ErrState},
		{"press before size", a, tall, 9, 1, impl.ErrRange},
		{"rounds before size", a, tall, 8, 31, impl.ErrRange},
		{"first one not valid", bad, tall, 9, 31, impl.ErrInvalid},
		{"second one not valid", tall, bad, 9, 31, impl.ErrInvalid},
	} {
		_, _, _, code := impl.BlotRounds(c.a, c.b, c.press, c.rounds)
		same(t, c.name, list(code), list(c.want))
		if c.rounds == 1 {
			_, _, _, code := impl.BlotOnto(c.a, c.b, c.press)
			same(t, c.name, list(code), list(c.want))
		}
	}
	for _, n := range wild {
		_, _, _, c1 := impl.BlotOnto(a, b, n)
		_, _, _, c2 := impl.BlotRounds(a, b, 8, n)
		_, _, _, c3 := impl.BlotRounds(a, b, n, 1)
		same(t, "wild numbers", list(n, c1, c2, c3), list(n, 2, 2, 2))
	}
}
