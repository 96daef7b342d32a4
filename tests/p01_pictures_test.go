package tests

import (
	"fmt"
	"math/rand"
	"slices"
	"strings"
	"sync"
	"testing"

	"loop.example/g01360/impl"
)

// pictureCalls has all functions of chapter 7 that return a code, which is their last result.
var pictureCalls = []call{
	{"BlankPicture", func(in input) []any { p, c := impl.BlankPicture(in.wide, in.high); return list(p, c) }},
	{"CoveredBy", func(in input) []any { l, c := impl.CoveredBy(in.art, in.at); return list(l, c) }},
	{"DropOn", func(in input) []any { p, c := impl.DropOn(in.art, in.drop); return list(p, c) }},
	{"DropAll", func(in input) []any { p, c := impl.DropAll(in.art, in.drops); return list(p, c) }},
	{"CheckDrops", func(in input) []any { b, c := impl.CheckDrops(in.art, in.drops); return list(b, c) }},
	{"InksOf", func(in input) []any { l, c := impl.InksOf(in.art); return list(l, c) }},
	{"CountInk", func(in input) []any { n, c := impl.CountInk(in.art, in.ink); return list(n, c) }},
	{"CanBeLast", func(in input) []any { b, c := impl.CanBeLast(in.art, in.drop); return list(b, c) }},
	{"LastDrops", func(in input) []any { l, c := impl.LastDrops(in.art); return list(l, c) }},
	{"PeelAll", func(in input) []any { l, c := impl.PeelAll(in.art); return list(l, c) }},
	{"DropsBound", func(in input) []any { n, c := impl.DropsBound(in.art); return list(n, c) }},
	{"FewestDrops", func(in input) []any { l, n, c := impl.FewestDrops(in.art, in.budget); return list(l, n, c) }},
	{"UselessDrops", func(in input) []any { l, c := impl.UselessDrops(in.art, in.drops); return list(l, c) }},
	{"UnlikeIn", func(in input) []any { l, c := impl.UnlikeIn(in.art, in.scene); return list(l, c) }},
	{"StencilOf", func(in input) []any { s, c := impl.StencilOf(in.art, in.ink); return list(s, c) }},
	{"FromStencils", func(in input) []any {
		p, c := impl.FromStencils(in.wide, in.high, in.stencils)
		return list(p, c)
	}},
	{"MixFor", func(in input) []any { m, n, c := impl.MixFor(in.want, in.parts); return list(m, n, c) }},
	{"ReadPicture", func(in input) []any { p, c := impl.ReadPicture(in.artText); return list(p, c) }},
	{"PackPicture", func(in input) []any { text, c := impl.PackPicture(in.art); return list(text, c) }},
	{"UnpackPicture", func(in input) []any { p, c := impl.UnpackPicture(in.packed); return list(p, c) }},
}

// plainPictureCalls has the functions of chapter 7 without a code.
var plainPictureCalls = []call{
	{"ValidPicture", func(in input) []any { return list(impl.ValidPicture(in.art)) }},
	{"SamePicture", func(in input) []any { return list(impl.SamePicture(in.art, in.scene)) }},
	{"PictureText", func(in input) []any { return list(impl.PictureText(in.art)) }},
}

// withoutPicture has the functions of chapter 7 with a code that take no picture.
var withoutPicture = []string{"BlankPicture", "FromStencils", "MixFor", "ReadPicture", "UnpackPicture"}

func isPictureCall(c call) bool {
	return slices.ContainsFunc(pictureCalls, func(other call) bool { return other.name == c.name })
}

// someArt returns a picture, most of which are valid.
func someArt(r *rand.Rand) impl.Picture {
	if r.Intn(8) == 0 {
		return brokenArt(r)
	}
	return randomArt(r)
}

// someDrops returns drops of which most are on a picture, with room behind them.
func someDrops(r *rand.Rand, p impl.Picture) []impl.Drop {
	if !impl.ValidPicture(p) {
		p = randomArt(r)
	}
	count := oneOf(r, 0, 1, 2, 5, 100, 101)
	drops := randomDrops(r, p, count+r.Intn(4))
	if len(drops) > 0 && r.Intn(8) == 0 {
		drops[r.Intn(len(drops))] = impl.Drop{At: someSpot(r), Ink: uint8(r.Intn(256))}
	}
	return drops[:count]
}

// someStencils returns stencils of which most do not go beyond a picture.
func someStencils(r *rand.Rand, wide, high int64) [3][8]uint8 {
	var stencils [3][8]uint8
	for ink := range stencils {
		for y := range max(0, min(high, 8)) {
			if wide >= 1 && wide <= 8 {
				stencils[ink][y] = uint8(r.Intn(1 << wide))
			}
		}
	}
	if r.Intn(8) == 0 {
		stencils[r.Intn(3)][r.Intn(8)] |= 1 << r.Intn(8)
	}
	return stencils
}

// addPictures fills in what the functions of chapter 7 take.
func (in *input) addPictures(r *rand.Rand) {
	in.art = someArt(r)
	in.drops = someDrops(r, in.art)
	if impl.ValidPicture(in.art) && r.Intn(2) == 0 {
		in.art, _ = impl.DropAll(whiteOf(in.art), in.drops)
	}
	in.scene = someArt(r)
	if r.Intn(2) == 0 {
		in.scene = in.art
		in.scene.Inked[r.Intn(8)][r.Intn(8)] ^= uint8(r.Intn(4))
	}
	in.drop = impl.Drop{At: someSpot(r), Ink: uint8(oneOf(r, 0, 1, 2, 2, r.Intn(256)))}
	in.budget = someNumber(r, 0, int64(oneOf(r, 10, 100, impl.MaxTries)))
	in.stencils = someStencils(r, in.wide, in.high)
	for ink := range in.want {
		in.want[ink] = int64(r.Intn(oneOf(r, 1, 10, 1001)))
	}
	in.want[r.Intn(3)] = someNumber(r, 0, 1000)
	in.parts = someNumber(r, 1, impl.MaxMix)
	in.artText, in.packed = spoilt(r, handArt(randomArt(r))), spoilt(r, handPacked(randomArt(r)))
}

func TestP1InvalidPicturesComeFirst(t *testing.T) {
	r := rand.New(rand.NewSource(16))
	for range 2000 {
		in := someInput(r)
		in.art = brokenArt(r)
		for _, c := range pictureCalls {
			if slices.Contains(withoutPicture, c.name) {
				continue
			}
			if out := c.run(in); out[len(out)-1] != any(int64(impl.ErrInvalid)) {
				t.Fatalf("%s: got %v for a picture that is not valid: %+v", c.name, out, in.art)
			}
		}
		_, code := impl.UnlikeIn(randomArt(r), in.art)
		same(t, "a second picture that is not valid", list(code, impl.ValidPicture(in.art), impl.PictureText(in.art)), list(1, false, ""))
	}
}

func TestP1HugePictureTextsEnd(t *testing.T) {
	for _, unit := range []string{".", "a", "a\n", "abcabcab\n", "\n", " ", "0", "1", "9", "x", "1a", "1a1b", "64a", "1x1 ", "\x00", "\xff"} {
		long := strings.Repeat(unit, 1000000/len(unit))
		for _, text := range []string{long, "ab\n" + long, long + "\n", "a" + long + "\n"} {
			if p, code := impl.ReadPicture(text); p != (impl.Picture{}) || code != impl.ErrSyntax {
				t.Errorf("%d bytes of %q: %v, code %d", len(text), unit, p, code)
			}
		}
		for _, text := range []string{long, "8x8 " + long, "8x8 1a" + long, "8x" + long + " 64a", long + "x8 64a", "1x1 " + long + "a", "1x1 1" + long} {
			if p, code := impl.UnpackPicture(text); p != (impl.Picture{}) || code != impl.ErrSyntax {
				t.Errorf("%d bytes of %q, packed: %v, code %d", len(text), unit, p, code)
			}
		}
	}
}

func TestP1HugeListsOfDropsEnd(t *testing.T) {
	drops := make([]impl.Drop, 1000000)
	in := input{art: art("ab", "..")}
	for _, last := range []impl.Drop{{}, {Ink: 3}, {At: spot(9, 9)}} {
		drops[999999] = last
		in.drops = drops
		for _, c := range pictureCalls {
			if c.name == "DropAll" || c.name == "CheckDrops" || c.name == "UselessDrops" {
				out := c.run(in)
				same(t, c.name, out[len(out)-1:], list(impl.ErrLimit))
			}
		}
	}
}

// TestP1DropsAreNotKept changes lists behind a call, and those that were returned before another call.
func TestP1DropsAreNotKept(t *testing.T) {
	r := rand.New(rand.NewSource(17))
	for range 300 {
		p := randomWhite(r)
		drops := randomDrops(r, p, 1+r.Intn(5))
		p, _ = impl.DropAll(p, drops)
		in := input{art: p, drops: drops, budget: 1000, scene: whiteOf(p)}
		var first []any
		for _, c := range pictureCalls {
			first = append(first, c.run(in)...)
		}
		before := fmt.Sprint(first)
		var again []any
		for _, c := range pictureCalls {
			again = append(again, c.run(in)...)
		}
		scribble(again)
		scribble(list(drops))
		same(t, "results", list(fmt.Sprint(first)), list(before))
	}
}

// TestP1FewestDropsAtTheSameTime looks for the drops of one picture from several goroutines, which must not be seen in any result.
func TestP1FewestDropsAtTheSameTime(t *testing.T) {
	var group sync.WaitGroup
	results := make([]string, 16)
	for i := range results {
		group.Add(1)
		go func() {
			defer group.Done()
			drops, tries, code := impl.FewestDrops(art("abccbba.", "bbbccaaa", "ab.caaa."), impl.MaxTries)
			results[i] = fmt.Sprint(drops, tries, code)
		}()
	}
	group.Wait()
	if kinds := slices.Compact(results); len(kinds) != 1 {
		t.Fatalf("the results %q", kinds)
	}
}
