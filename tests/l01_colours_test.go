package tests

import (
	"math/rand"
	"testing"

	"loop.example/g01360/impl"
)

func TestColours(t *testing.T) {
	for _, c := range []struct {
		word   string
		colour int64
		letter string
	}{
		{"0:1,0,0", 0, "a"}, {"0:0,1,0", 1, "b"}, {"0:0,0,1", 2, "c"},
		{"0:3,2,2", 0, "a"}, {"0:2,3,2", 1, "b"}, {"0:2,2,3", 2, "c"},
		{"0:3,2,1", 0, "a"}, {"0:1,3,2", 1, "b"}, {"0:1,2,3", 2, "c"},
		{"0:1,1,0", 3, "m"}, {"0:1,0,1", 3, "m"}, {"0:0,1,1", 3, "m"},
		{"0:5,5,0", 3, "m"}, {"0:5,0,5", 3, "m"}, {"0:0,5,5", 3, "m"},
		{"0:5,5,4", 3, "m"}, {"0:5,4,5", 3, "m"}, {"0:4,5,5", 3, "m"},
		{"0:5,5,5", 3, "m"}, {"0:1000,1000,1000", 3, "m"},
		{"0:5,5,6", 2, "c"}, {"0:5,6,5", 1, "b"}, {"0:6,5,5", 0, "a"},
		{"0:0,0,0", -1, "."}, {"200:0,0,0", -1, "."}, {"w", -1, "w"},
	} {
		s := paper(t, c.word)
		colour, c1 := impl.ColourAt(s, spot(0, 0))
		picture, c2 := impl.PictureOf(s)
		same(t, c.word, list(colour, c1, picture, c2), list(c.colour, 0, c.letter+"\n", 0))
	}
}

func TestPictures(t *testing.T) {
	s := paper(t, "0:1,0,0 w 0:0,0,0 3:0,1,0", "1:2,2,0 0:0,0,9 w 5:0,0,0", "w w w 0:0,8,8")
	got, code := impl.PictureOf(s)
	same(t, "picture", list(got, code), list("aw.b\nmcw.\nwwwm\n", 0))
	plain, _ := impl.PlainSheet(8, 8)
	got, code = impl.PictureOf(plain)
	line := "........\n"
	same(t, "plain", list(got, code), list(line+line+line+line+line+line+line+line, 0))
	got, code = impl.PictureOf(impl.Sheet{})
	same(t, "invalid", list(got, code), list("", impl.ErrInvalid))
}

// colourByHand counts the inks of which a cell has as much as of any.
func colourByHand(dyes [3]int16) int64 {
	most, count, colour := max(dyes[0], dyes[1], dyes[2]), 0, int64(0)
	for ink, dye := range dyes {
		if dye == most {
			count++
			colour = int64(ink)
		}
	}
	switch {
	case most == 0:
		return -1
	case count > 1:
		return 3
	}
	return colour
}

func TestColoursAndPicturesOfManySheets(t *testing.T) {
	r := rand.New(rand.NewSource(60))
	for range 300 {
		s := randomSheet(r)
		want := ""
		for _, at := range places(s) {
			colour := colourByHand(s.Dye[at.Y][at.X])
			got, code := impl.ColourAt(s, at)
			same(t, "colour", list(at, got, code), list(at, colour, 0))
			if waxedAt(s, at) {
				want += "w"
			} else {
				want += map[int64]string{-1: ".", 0: "a", 1: "b", 2: "c", 3: "m"}[colour]
			}
			if at.X == s.Wide-1 {
				want += "\n"
			}
		}
		picture, code := impl.PictureOf(s)
		same(t, "picture", list(picture, code), list(want, 0))
	}
}
