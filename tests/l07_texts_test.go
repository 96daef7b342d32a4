package tests

import (
	"fmt"
	"math/rand"
	"regexp"
	"strconv"
	"strings"
	"testing"

	"loop.example/g01360/impl"
)

// handArt writes the text of a picture in another way than the program, whether it has one or not.
func handArt(p impl.Picture) string {
	text := ""
	for y := range max(0, min(p.High, 8)) {
		for x := range max(0, min(p.Wide, 8)) {
			text += string(".abc456789"[p.Inked[y][x]%10])
		}
		text += "\n"
	}
	return text
}

// handPacked writes the packed text of a picture, cell by cell.
func handPacked(p impl.Picture) string {
	text, last, length := fmt.Sprintf("%dx%d ", p.Wide, p.High), byte(0), 0
	for _, letter := range []byte(handArt(p)) {
		switch {
		case letter == '\n':
		case letter == last:
			length++
		default:
			if length > 0 {
				text += fmt.Sprintf("%d%c", length, last)
			}
			last, length = letter, 1
		}
	}
	return text + fmt.Sprintf("%d%c", length, last)
}

var artForm = regexp.MustCompile(`^([.abc]{1,8}\n){1,8}$`)

// isArtText tells by the form of a text whether it is one of a picture.
func isArtText(text string) bool {
	if !artForm.MatchString(text) {
		return false
	}
	for _, line := range strings.SplitAfter(text, "\n") {
		if line != "" && len(line) != strings.Index(text, "\n")+1 {
			return false
		}
	}
	return true
}

var packedForm = regexp.MustCompile(`^([1-8])x([1-8]) (([1-9][0-9]*[.abc])+)$`)

var runForm = regexp.MustCompile(`([0-9]+)([.abc])`)

// artPackedIn returns the rows of letters that a packed text tells, without anything between them; "" if it is none.
func artPackedIn(text string) string {
	parts := packedForm.FindStringSubmatch(text)
	if parts == nil {
		return ""
	}
	letters := ""
	for _, run := range runForm.FindAllStringSubmatch(parts[3], -1) {
		length, err := strconv.Atoi(run[1])
		if err != nil || length > 64 || len(letters) > 64 || letters != "" && letters[len(letters)-1:] == run[2] {
			return ""
		}
		letters += strings.Repeat(run[2], length)
	}
	if len(letters) != int(parts[1][0]-'0')*int(parts[2][0]-'0') {
		return ""
	}
	return letters
}

// checkArtText fails the test if a text is not read as its form tells; it reports whether it is that of a picture.
func checkArtText(t *testing.T, text string) bool {
	t.Helper()
	p, code := impl.ReadPicture(text)
	if !isArtText(text) {
		if p != (impl.Picture{}) || code != impl.ErrSyntax {
			t.Fatalf("%q: %v, code %d", text, p, code)
		}
		return false
	}
	want := art(strings.Fields(text)...)
	if p != want || code != impl.OK || impl.PictureText(p) != text {
		t.Fatalf("%q: %v, code %d, want %v", text, p, code, want)
	}
	return true
}

// checkPacked does so for a packed text.
func checkPacked(t *testing.T, text string) bool {
	t.Helper()
	p, code := impl.UnpackPicture(text)
	letters := artPackedIn(text)
	if letters == "" {
		if p != (impl.Picture{}) || code != impl.ErrSyntax {
			t.Fatalf("%q: %v, code %d", text, p, code)
		}
		return false
	}
	again, c2 := impl.PackPicture(p)
	if code != impl.OK || !impl.ValidPicture(p) || strings.ReplaceAll(handArt(p), "\n", "") != letters || again != text || c2 != impl.OK {
		t.Fatalf("%q: %v, code %d, packed %q, code %d", text, p, code, again, c2)
	}
	return true
}

func TestPicturesAreRead(t *testing.T) {
	r := rand.New(rand.NewSource(300))
	for range 2000 {
		p := randomArt(r)
		text, packed := handArt(p), handPacked(p)
		short, c1 := impl.PackPicture(p)
		read, c2 := impl.ReadPicture(text)
		unpacked, c3 := impl.UnpackPicture(packed)
		same(t, text, list(impl.PictureText(p), short, c1, read, c2, unpacked, c3), list(text, packed, 0, p, 0, p, 0))
		if !checkArtText(t, text) || !checkPacked(t, packed) {
			t.Fatalf("%q or %q have not the form of texts", text, packed)
		}
		broken := brokenArt(r)
		none, code := impl.PackPicture(broken)
		same(t, fmt.Sprint(broken), list(impl.PictureText(broken), none, code), list("", "", impl.ErrInvalid))
	}
}

func TestPictureTextsWithSomeBytesChanged(t *testing.T) {
	r := rand.New(rand.NewSource(301))
	read, unpacked := 0, 0
	for range 8000 {
		p := randomArt(r)
		if checkArtText(t, spoilt(r, handArt(p))) {
			read++
		}
		if checkPacked(t, spoilt(r, handPacked(p))) {
			unpacked++
		}
	}
	if read < 800 || read > 7200 || unpacked < 800 || unpacked > 7200 {
		t.Errorf("%d and %d of 8000 texts were read", read, unpacked)
	}
}

// eachByteOf leaves out, adds and changes each byte of a text in turn.
func eachByteOf(text string, look func(text string)) {
	for i := range len(text) + 1 {
		for b := range 256 {
			look(text[:i] + string([]byte{byte(b)}) + text[i:])
			if i < len(text) {
				look(text[:i] + string([]byte{byte(b)}) + text[i+1:])
			}
		}
		look(text[:i])
		look(text[i:])
		if i < len(text) {
			look(text[:i] + text[i+1:])
		}
	}
}

func TestEachByteOfAPictureText(t *testing.T) {
	for _, text := range []string{".\n", "a.\nbc\n", "abcabcab\n........\n", "c\nc\nc\nc\nc\nc\nc\nc\n"} {
		eachByteOf(text, func(text string) { checkArtText(t, text) })
	}
	for _, text := range []string{"1x1 1.", "2x2 1a1.1b1c", "3x3 1.1a1.2a1b1.2b", "8x8 64c", "8x1 3a5.", "1x8 7b1a", "4x3 11.1a"} {
		eachByteOf(text, func(text string) { checkPacked(t, text) })
	}
}

func TestTextsOfNoPicture(t *testing.T) {
	for _, text := range []string{
		"", "\n", "\n\n", " ", "x", "a", "ab", "a\nb", "ab\nab", "ab\ncd\n", "ab\na\n", "a\nab\n", "ab\nab\na\n", "ab\n\nab\n", "ab\nab\n\n", "\nab\n", "ab\n\n",
		"a b\n", " ab\n", "ab \n", "ab\r\n", "ab\rab\n", "a\tb\n", "A\n", "m\n", "w\n", "d\n", "0\n", "1\n", "-\n", ",\n", "a\x00\n", "\xff\n", "ä\n", "a\u00a0\n",
		"aaaaaaaaa\n", strings.Repeat("a\n", 9), strings.Repeat("aaaaaaaaa\n", 9), strings.Repeat("a", 256) + "\n", strings.Repeat("a", 257) + "\n",
		strings.Repeat("aaaaaaaa\n", 8) + "a", strings.Repeat("aaaaaaaa\n", 8) + "\n", strings.Repeat("a\n", 257), "a\n" + strings.Repeat("a", 257) + "\n",
	} {
		if isArtText(text) {
			t.Fatalf("%q is the text of a picture", text)
		}
		checkArtText(t, text)
	}
}

func TestTextsOfNoPackedPicture(t *testing.T) {
	for _, text := range []string{
		"", " ", "x", "x ", "1x1", "1x1 ", "1x1.", "1x11.", "1x1 .", "1x1 1", "1x1  1.", " 1x1 1.", "1x1 1. ", "1x1 1 .", "1 x1 1.", "1x 1 1.", "1x1 1.\n", "1x1\n1.", "1x1\t1.", "1X1 1.", "1×1 1.",
		"0x1 1.", "1x0 1.", "0x0 ", "0x0 0.", "9x1 9.", "1x9 9.", "01x1 1.", "1x01 1.", "+1x1 1.", "1x+1 1.", "-1x1 1.", "1x-1 1.", "-1x-1 1.", "x1 1.", "1x 1.", "1xx1 1.", "1x1x1 1.", "257x1 1.", "1x257 1.",
		"0x1 ", "1x0 ", "0x8 ", "8x0 ", "x1 ", "1x ", "9x1 ", "1x9 ", "-1x1 ", "1x-1 ", "00x1 ", "ax1 ", "1xa ", "x1", "1x", "0x1", "1x0",
		"2x1 01a1b", "2x1 1a01b", "2x1 02a", "2x1 +2a", "2x1 -2a", "2x1 1a+1b", "2x1 0a2b", "2x1 2b0a", "2x1 1b0a1b", "2x1 1a0b1c", "2x1 1a1a", "4x1 2b2b", "4x1 1b1b2a", "2x2 2a2a", "3x2 1a2b2b1c",
		"2x1 1a", "2x1 3a", "2x1 1a2b", "2x1 1a1b1c", "2x1 2a1b", "2x2 3a", "2x2 5a", "8x8 63a", "8x8 65a", "8x8 64a1b", "8x8 320a", "8x8 65600a", "8x8 18446744073709551680a", "1x1 257a", "1x1 65537a", "1x1 4294967297a",
		"2x1 a2", "2x1 a", "2x1 ab", "2x1 1a1", "2x1 1a1b1", "2x1 2", "2x1 2d", "2x1 2A", "2x1 2w", "2x1 1a1m", "2x1 1a,1b", "2x1 1a 1b", "2x1 1a\n1b", "2x1 0x2a", "2x1 2e0a", "2x1 1_a", "2x1 \u0662a", "2x1 2\xff", "2x1 2a\x00",
		"3x3 1.1a1.2a1b1.1b", "3x3 1.1a1.2a1b1.3b", "3x3 1.1a1.2a1b1.1b1b", "3x3 1.1a1.1a1a1b1.2b", "3x3 1.1a1.2a1b1.2b.", "3x3 1.1a1.2a1b1.2b1", "3x31.1a1.2a1b1.2b", "3x3 1.1a1. 2a1b1.2b",
	} {
		if artPackedIn(text) != "" {
			t.Fatalf("%q is a packed text", text)
		}
		checkPacked(t, text)
	}
}

func TestTextsOfPictures(t *testing.T) {
	many := fullArt(0)
	for i, at := range spotsIn(many) {
		many.Inked[at.Y][at.X] = uint8(i % 4)
	}
	for _, c := range []struct {
		p            impl.Picture
		text, packed string
	}{
		{art("."), ".\n", "1x1 1."},
		{art("c"), "c\n", "1x1 1c"},
		{art(".a.", "aab", ".bb"), ".a.\naab\n.bb\n", "3x3 1.1a1.2a1b1.2b"},
		{art("abc."), "abc.\n", "4x1 1a1b1c1."},
		{art("a", "b", "b"), "a\nb\nb\n", "1x3 1a2b"},
		{art("ab", "bb", "ba"), "ab\nbb\nba\n", "2x3 1a4b1a"}, // a run goes on in the next rows
		{art("aaaaa", "aaaaa"), "aaaaa\naaaaa\n", "5x2 10a"},
		{art("aa", "..", "cc"), "aa\n..\ncc\n", "2x3 2a2.2c"},
		{fullArt(2), strings.Repeat("bbbbbbbb\n", 8), "8x8 64b"},
		{many, strings.Repeat(".abc.abc\n", 8), "8x8 " + strings.Repeat("1.1a1b1c", 16)},
	} {
		packed, c1 := impl.PackPicture(c.p)
		read, c2 := impl.ReadPicture(c.text)
		unpacked, c3 := impl.UnpackPicture(c.packed)
		same(t, c.text, list(impl.PictureText(c.p), packed, c1, read, c2, unpacked, c3), list(c.text, c.packed, 0, c.p, 0, c.p, 0))
	}
}

func TestPicturesWithoutText(t *testing.T) {
	beyond := art("ab")
	beyond.Inked[1][0] = 1
	for name, p := range map[string]impl.Picture{
		"no picture": {}, "no columns": {High: 1}, "no rows": {Wide: 1}, "too wide": {Wide: 9, High: 1}, "too high": {Wide: 1, High: 9}, "less than no rows": {Wide: 1, High: -128},
		"a number too great": art("a4"), "a number far too great": {Wide: 1, High: 1, Inked: [8][8]uint8{{255}}}, "a number that is no cell's": beyond,
	} {
		packed, code := impl.PackPicture(p)
		same(t, name, list(impl.PictureText(p), packed, code), list("", "", 1))
	}
}
