package tests

import (
	"math/rand"
	"slices"
	"strings"
	"testing"

	"loop.example/g01360/impl"
)

// dryStackByHand takes water out of each cell unit by unit, a sheet with the number i every (i + 1)th time.
func dryStackByHand(st impl.Stack, rate int) (impl.Stack, int64) {
	st, gone := slices.Clone(st), int64(0)
	for i := range st {
		for unit := 1; unit <= rate; unit++ {
			if unit%(i+1) != 0 {
				continue
			}
			for _, at := range places(st[i]) {
				if st[i].Wet[at.Y][at.X] > 0 {
					st[i].Wet[at.Y][at.X]--
					gone++
				}
			}
		}
	}
	return st, gone
}

func TestDryStacksOfManyKinds(t *testing.T) {
	r := rand.New(rand.NewSource(210))
	never, seen := 0, map[int64]bool{}
	for range 600 {
		st, rate := randomStack(r), oneOf(r, 1+r.Intn(7), 1+r.Intn(40), 1+r.Intn(200))
		want, gone := dryStackByHand(st, rate)
		got, water, code := impl.DryStack(st, int64(rate))
		if !slices.Equal(got, want) || water != gone || code != impl.OK {
			t.Fatalf("rate %d of %+v: %+v, %d gone, code %d", rate, st, got, water, code)
		}
		before, after := inAll(st, [3]int64{}, 0), inAll(got, [3]int64{}, water)
		same(t, "kept", list(after), list(before))
		times, code := impl.DryTimes(st, int64(rate))
		wantTimes, is := dryTimesByHand(st, rate)
		same(t, "times", list(times, code), list(wantTimes, is))
		if is != 0 {
			never++
		}
		seen[times] = true
	}
	if never < 50 || never > 550 || len(seen) < 30 {
		t.Errorf("%d of 600 were never dry, and %d other numbers of times were met", never, len(seen))
	}
}

// dryTimesByHand lets a stack dry until nothing more goes.
func dryTimesByHand(st impl.Stack, rate int) (int64, int64) {
	for times := int64(0); ; times++ {
		next, gone := dryStackByHand(st, rate)
		if gone == 0 && inAll(st, [3]int64{}, 0).water > 0 {
			return 0, impl.ErrNotFound
		}
		if gone == 0 {
			return times, 0
		}
		st = next
	}
}

func TestDryStacks(t *testing.T) {
	for _, c := range []struct {
		name, before string
		rate         int64
		after        string
		gone         int64
	}{
		{"the document's stack", "8:16,0,0 | 0:0,0,0", 3, "5:16,0,0 | 0:0,0,0", 3},
		{"by its number", "9:0,0,0 | 9:0,0,0 | 9:0,0,0 | 9:0,0,0 | 9:0,0,0 | 9:0,0,0", 6,
			"3:0,0,0 | 6:0,0,0 | 7:0,0,0 | 8:0,0,0 | 8:0,0,0 | 8:0,0,0", 14},
		{"less than a number", "9:0,0,0 | 9:0,0,0 | 9:0,0,0", 2, "7:0,0,0 | 8:0,0,0 | 9:0,0,0", 3},
		{"the least rate", "9:0,0,0 | 9:0,0,0 | 9:0,0,0", 1, "8:0,0,0 | 9:0,0,0 | 9:0,0,0", 1},
		{"one less than the number of the lowest one", "0:0,0,0 | 0:0,0,0 | 0:0,0,0 | 0:0,0,0 | 0:0,0,0 | 9:1,1,1", 5,
			"0:0,0,0 | 0:0,0,0 | 0:0,0,0 | 0:0,0,0 | 0:0,0,0 | 9:1,1,1", 0},
		{"the greatest rate", "200:1,0,0 | 200:0,1,0 | 200:0,0,1", 200, "0:1,0,0 | 100:0,1,0 | 134:0,0,1", 366},
		{"all that it has", "2:0,0,0 3:0,0,0 4:0,0,0 w", 3, "0:0,0,0 0:0,0,0 1:0,0,0 w", 8},
		{"rounded down", "9:0,0,0 | 9:0,0,0", 5, "4:0,0,0 | 7:0,0,0", 7},
		{"nothing", "0:5,5,5 | w", 200, "0:5,5,5 | w", 0},
	} {
		st, want := pile(t, strings.Split(c.before, "|")...), pile(t, strings.Split(c.after, "|")...)
		got, gone, code := impl.DryStack(st, c.rate)
		same(t, c.name, list(got, gone, code), list(want, c.gone, 0))
	}
	got, gone, code := impl.DryStack(nil, 1)
	same(t, "no sheets", list(got, gone, code), list(impl.Stack{}, 0, 0))
	tall := paper(t, "9:0,0,0 w", "1:0,0,0 9:0,0,0")
	got, gone, code = impl.DryStack(impl.Stack{tall, tall}, 4)
	same(t, "rows", list(got, gone, code), list(impl.Stack{paper(t, "5:0,0,0 w", "0:0,0,0 5:0,0,0"), paper(t, "7:0,0,0 w", "0:0,0,0 7:0,0,0")}, 14, 0))
}

func TestDryTimes(t *testing.T) {
	for _, c := range []struct {
		name        string
		st          impl.Stack
		rate        int64
		times, code int64
	}{
		{"the document's", pile(t, "8:16,0,0", "0:0,0,0"), 3, 3, 0},
		{"just", pile(t, "9:16,0,0", "0:0,0,0"), 3, 3, 0},
		{"one more", pile(t, "10:16,0,0", "0:0,0,0"), 3, 4, 0},
		{"once", pile(t, "8:0,0,0"), 8, 1, 0},
		{"no water", pile(t, "0:16,0,0", "w"), 3, 0, 0},
		{"no water, the least rate", pile(t, "0:16,0,0", "w", "w", "w", "w", "0:0,0,0"), 1, 0, 0},
		{"no sheets", nil, 1, 0, 0},
		{"the longest", pile(t, "200:0,0,0"), 1, 200, 0},
		{"the longest, the lowest one", pile(t, "0:0,0,0", "0:0,0,0", "0:0,0,0", "0:0,0,0", "0:0,0,0", "200:0,0,0"), 6, 200, 0},
		{"never, the lowest one", pile(t, "0:0,0,0", "0:0,0,0", "0:0,0,0", "0:0,0,0", "0:0,0,0", "1:0,0,0"), 5, 0, 6},
		{"never, a middle one", pile(t, "9:0,0,0", "1:0,0,0", "0:0,0,0"), 1, 0, 6},
		{"the lower one is longest", pile(t, "8:0,0,0", "8:0,0,0"), 3, 8, 0},
		{"the top one is longest", pile(t, "9:0,0,0", "1:0,0,0"), 3, 3, 0},
		{"the wettest cell", pile(t, "1:0,0,0 7:0,0,0 2:0,0,0 w"), 2, 4, 0},
		{"rate 0", pile(t, "8:0,0,0"), 0, 0, 2},
		{"rate 201", pile(t, "8:0,0,0"), 201, 0, 2},
		{"rate 200", pile(t, "200:0,0,0"), 200, 1, 0},
		{"rate 0, no water", pile(t, "0:0,0,0"), 0, 0, 2},
		{"rate 0, no sheets", nil, 0, 0, 2},
		{"rate -1, and never", pile(t, "0:0,0,0", "1:0,0,0"), -1, 0, 2},
		{"not valid", pile(t, "8:0,0,0", "w w"), 1, 0, 1},
		{"not valid, rate 0", pile(t, "8:0,0,0", "w w"), 0, 0, 1},
	} {
		times, code := impl.DryTimes(c.st, c.rate)
		same(t, c.name, list(times, code), list(c.times, c.code))
		want := c.code
		if want == impl.ErrNotFound {
			want = impl.OK
		}
		_, _, code = impl.DryStack(c.st, c.rate)
		same(t, c.name, list(code), list(want))
	}
	for _, n := range wild {
		_, _, c1 := impl.DryStack(pile(t, "8:0,0,0"), n)
		_, c2 := impl.DryTimes(pile(t, "8:0,0,0"), n)
		same(t, "wild numbers", list(n, c1, c2), list(n, 2, 2))
	}
}

func TestWettestSheets(t *testing.T) {
	for _, c := range []struct {
		name           string
		st             impl.Stack
		at, most, code int64
	}{
		{"one", pile(t, "8:16,0,0"), 0, 8, 0},
		{"one that is dry", pile(t, "0:16,0,0"), 0, 0, 0},
		{"the top one", pile(t, "8:0,0,0", "7:0,0,0"), 0, 8, 0},
		{"the lowest one", pile(t, "7:0,0,0", "7:0,0,0", "8:0,0,0"), 2, 8, 0},
		{"the middle one", pile(t, "7:0,0,0", "9:0,0,0", "8:0,0,0"), 1, 9, 0},
		{"the first one of several", pile(t, "7:0,0,0", "9:0,0,0", "8:0,0,0", "9:0,0,0"), 1, 9, 0},
		{"all as wet", pile(t, "7:0,0,0", "7:0,0,0", "7:0,0,0"), 0, 7, 0},
		{"all dry", pile(t, "0:0,0,0", "w", "0:9,9,9"), 0, 0, 0},
		{"all cells together", pile(t, "9:0,0,0 0:0,0,0 w", "3:0,0,0 3:0,0,0 4:0,0,0"), 1, 10, 0},
		{"dye is no matter", pile(t, "1:1000,0,0", "2:0,0,0"), 1, 2, 0},
		{"no sheets", nil, 0, 0, 6},
		{"no sheets, not nil", impl.Stack{}, 0, 0, 6},
		{"not valid", pile(t, "1:0,0,0", "201:0,0,0"), 0, 0, 1},
	} {
		at, most, code := impl.WettestSheet(c.st)
		same(t, c.name, list(at, most, code), list(c.at, c.most, c.code))
	}
	r := rand.New(rand.NewSource(211))
	for range 500 {
		st := stackOf(r, 1+r.Intn(6))
		at, most, code := impl.WettestSheet(st)
		for i, s := range st {
			if _, water := totals(s); water > most || int64(i) < at && water == most || int64(i) == at && water != most || code != 0 {
				t.Fatalf("the sheet %d has %d water; told %d with %d, code %d", i, water, at, most, code)
			}
		}
	}
}
