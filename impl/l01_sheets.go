package impl

import (
	"errors"
	"iter"
	"strconv"
	"strings"
)

// Error codes.
const (
	OK          = 0
	ErrInvalid  = 1
	ErrRange    = 2
	ErrLimit    = 3
	ErrState    = 4
	ErrSyntax   = 5
	ErrNotFound = 6
	ErrBudget   = 7
	ErrProof    = 8
)

// Limits of sheets.
const (
	Side   = 8
	Inks   = 3
	MaxWet = 200
	MaxDye = 1000
)

// Colours beside the inks, which are colours by their own numbers.
const (
	noColour    = -1
	mixedColour = 3
)

// Spot tells a cell.
type Spot struct {
	X int8
	Y int8
}

// Sheet has cells with water, dye and wax.
type Sheet struct {
	Wide int8
	High int8
	Wet  [8][8]int16
	Dye  [8][8][3]int16
	Wax  [8]uint8
}

var (
	errInvalid  = errors.New("invalid")
	errRange    = errors.New("range")
	errLimit    = errors.New("limit")
	errState    = errors.New("state")
	errSyntax   = errors.New("syntax")
	errNotFound = errors.New("notfound")
	errBudget   = errors.New("budget")
)

var codeNames = [...]string{
	OK:          "ok",
	ErrInvalid:  "invalid",
	ErrRange:    "range",
	ErrLimit:    "limit",
	ErrState:    "state",
	ErrSyntax:   "syntax",
	ErrNotFound: "notfound",
	ErrBudget:   "budget",
	ErrProof:    "proof",
}

// colourLetters has each colour one place further on, because noColour is less than 0.
var colourLetters = [...]string{
	noColour + 1:    ".",
	0 + 1:           "a",
	1 + 1:           "b",
	2 + 1:           "c",
	mixedColour + 1: "m",
}

// CodeName returns the name of an error code.
func CodeName(code int64) string {
	if code < 0 || code >= int64(len(codeNames)) {
		return ""
	}
	return codeNames[code]
}

// codeOf returns the code of an error; nil has the code OK.
func codeOf(err error) int64 {
	switch {
	case err == nil:
		return OK
	case errors.Is(err, errInvalid):
		return ErrInvalid
	case errors.Is(err, errRange):
		return ErrRange
	case errors.Is(err, errLimit):
		return ErrLimit
	case errors.Is(err, errState):
		return ErrState
	case errors.Is(err, errSyntax):
		return ErrSyntax
	case errors.Is(err, errBudget):
		return ErrBudget
	}
	return ErrNotFound
}

// cells goes over the spots of so many columns and rows, by Y, and then by X.
func cells(wide, high int8) iter.Seq[Spot] {
	return func(yield func(Spot) bool) {
		for y := range high {
			for x := range wide {
				if !yield(Spot{X: x, Y: y}) {
					return
				}
			}
		}
	}
}

func (at Spot) north() Spot { return Spot{X: at.X, Y: at.Y - 1} }
func (at Spot) east() Spot  { return Spot{X: at.X + 1, Y: at.Y} }
func (at Spot) south() Spot { return Spot{X: at.X, Y: at.Y + 1} }
func (at Spot) west() Spot  { return Spot{X: at.X - 1, Y: at.Y} }

// sides returns the ways to the four spots that share a side with a spot; some may be no cells.
func sides() [4]func(Spot) Spot {
	return [4]func(Spot) Spot{Spot.north, Spot.east, Spot.south, Spot.west}
}

// isSize reports whether a sheet may have so many columns and rows.
func isSize(wide, high int64) bool {
	return wide >= 1 && wide <= Side && high >= 1 && high <= Side
}

// inside reports whether a spot is one of so many columns and rows.
func inside(wide, high int8, at Spot) bool {
	return at.X >= 0 && at.X < wide && at.Y >= 0 && at.Y < high
}

// has reports whether a spot is a cell of the sheet.
func (s Sheet) has(at Spot) bool { return inside(s.Wide, s.High, at) }

// waxed reports whether a place is waxed.
func (s Sheet) waxed(at Spot) bool {
	return s.Wax[at.Y]>>at.X&1 == 1
}

// bare reports whether a place has neither water nor dye.
func (s Sheet) bare(at Spot) bool {
	return s.Wet[at.Y][at.X] == 0 && s.Dye[at.Y][at.X] == [Inks]int16{}
}

// withWax returns a row of wax with one bit set or cleared.
func withWax(row uint8, x int8, on bool) uint8 {
	if on {
		return row | 1<<x
	}
	return row &^ (1 << x)
}

// darkness returns the sum of the dyes of a cell.
func darkness(dyes [Inks]int16) int64 {
	sum := int64(0)
	for _, dye := range dyes {
		sum += int64(dye)
	}
	return sum
}

// gaps returns the sizes by which the dyes of two cells differ.
func gaps(dyes, others [Inks]int16) [Inks]int16 {
	var sizes [Inks]int16
	for ink := range sizes {
		sizes[ink] = max(dyes[ink], others[ink]) - min(dyes[ink], others[ink])
	}
	return sizes
}

// ValidSheet reports whether s is valid.
func ValidSheet(s Sheet) bool {
	if !isSize(int64(s.Wide), int64(s.High)) {
		return false
	}
	for at := range cells(Side, Side) {
		if !s.validAt(at) {
			return false
		}
	}
	return true
}

// validAt reports whether a place, cell or not, has what it may have.
func (s Sheet) validAt(at Spot) bool {
	if !s.has(at) {
		return s.bare(at) && !s.waxed(at)
	}
	if s.waxed(at) {
		return s.bare(at)
	}
	for _, dye := range s.Dye[at.Y][at.X] {
		if dye < 0 || dye > MaxDye {
			return false
		}
	}
	wet := s.Wet[at.Y][at.X]
	return wet >= 0 && wet <= MaxWet
}

// SameSheet reports whether two sheets are equal.
func SameSheet(a, b Sheet) bool { return a == b }

func sameSize(a, b Sheet) bool { return a.Wide == b.Wide && a.High == b.High }

func checkSheet(s Sheet) error {
	if !ValidSheet(s) {
		return errInvalid
	}
	return nil
}

func checkCell(s Sheet, at Spot) error {
	if err := checkSheet(s); err != nil {
		return err
	}
	if !s.has(at) {
		return errRange
	}
	return nil
}

func checkInk(s Sheet, at Spot, ink int64) error {
	if err := checkCell(s, at); err != nil {
		return err
	}
	if ink < 0 || ink >= Inks {
		return errRange
	}
	return nil
}

func checkLeast(s Sheet, least int64) error {
	if err := checkSheet(s); err != nil {
		return err
	}
	if least < 1 || least > Inks*MaxDye {
		return errRange
	}
	return nil
}

func checkBlot(s Sheet, at Spot, least int64) error {
	if err := checkLeast(s, least); err != nil {
		return err
	}
	if err := checkCell(s, at); err != nil {
		return err
	}
	if darkness(s.Dye[at.Y][at.X]) < least {
		return errNotFound
	}
	return nil
}

func checkWax(s Sheet, at Spot) error {
	if err := checkCell(s, at); err != nil {
		return err
	}
	if !s.bare(at) {
		return errState
	}
	return nil
}

func checkAmounts(s Sheet, at Spot, ink, amount, water int64) error {
	if err := checkInk(s, at, ink); err != nil {
		return err
	}
	if amount < 0 || amount > MaxDye || water < 0 || water > MaxWet {
		return errRange
	}
	return nil
}

func checkDrop(s Sheet, at Spot, ink, amount, water int64) error {
	if err := checkAmounts(s, at, ink, amount, water); err != nil {
		return err
	}
	if s.waxed(at) {
		return errState
	}
	dye, wet := int64(s.Dye[at.Y][at.X][ink]), int64(s.Wet[at.Y][at.X])
	if dye+amount > MaxDye || wet+water > MaxWet {
		return errLimit
	}
	return nil
}

// PlainSheet returns a sheet without water, ink and wax.
func PlainSheet(wide, high int64) (Sheet, int64) {
	if !isSize(wide, high) {
		return Sheet{}, ErrRange
	}
	return Sheet{Wide: int8(wide), High: int8(high)}, OK
}

// WetAt returns the water of a cell.
func WetAt(s Sheet, at Spot) (int64, int64) {
	if err := checkCell(s, at); err != nil {
		return 0, codeOf(err)
	}
	return int64(s.Wet[at.Y][at.X]), OK
}

// DyeAt returns the dye of a cell.
func DyeAt(s Sheet, at Spot, ink int64) (int64, int64) {
	if err := checkInk(s, at, ink); err != nil {
		return 0, codeOf(err)
	}
	return int64(s.Dye[at.Y][at.X][ink]), OK
}

// DarkAt returns how dark a cell is.
func DarkAt(s Sheet, at Spot) (int64, int64) {
	if err := checkCell(s, at); err != nil {
		return 0, codeOf(err)
	}
	return darkness(s.Dye[at.Y][at.X]), OK
}

// DropInk drops ink and water into a cell.
func DropInk(s Sheet, at Spot, ink, amount, water int64) (Sheet, int64) {
	if err := checkDrop(s, at, ink, amount, water); err != nil {
		return Sheet{}, codeOf(err)
	}
	s.Dye[at.Y][at.X][ink] += int16(amount)
	s.Wet[at.Y][at.X] += int16(water)
	return s, OK
}

// WaxCell waxes a cell, or takes the wax away.
func WaxCell(s Sheet, at Spot, on bool) (Sheet, int64) {
	if err := checkWax(s, at); err != nil {
		return Sheet{}, codeOf(err)
	}
	s.Wax[at.Y] = withWax(s.Wax[at.Y], at.X, on)
	return s, OK
}

// IsWaxed reports whether a cell is waxed.
func IsWaxed(s Sheet, at Spot) (bool, int64) {
	if err := checkCell(s, at); err != nil {
		return false, codeOf(err)
	}
	return s.waxed(at), OK
}

// DyeIn returns the sums of all dyes.
func DyeIn(s Sheet) ([3]int64, int64) {
	if err := checkSheet(s); err != nil {
		return [3]int64{}, codeOf(err)
	}
	return s.dyes(), OK
}

func (s Sheet) dyes() [Inks]int64 {
	var sums [Inks]int64
	for at := range cells(s.Wide, s.High) {
		for ink, dye := range s.Dye[at.Y][at.X] {
			sums[ink] += int64(dye)
		}
	}
	return sums
}

// WaterIn returns the sum of all water.
func WaterIn(s Sheet) (int64, int64) {
	if err := checkSheet(s); err != nil {
		return 0, codeOf(err)
	}
	return s.water(), OK
}

func (s Sheet) water() int64 {
	sum := int64(0)
	for at := range cells(s.Wide, s.High) {
		sum += int64(s.Wet[at.Y][at.X])
	}
	return sum
}

// DyedCells returns all cells that are dark enough.
func DyedCells(s Sheet, least int64) ([]Spot, int64) {
	if err := checkLeast(s, least); err != nil {
		return nil, codeOf(err)
	}
	return s.darkCells(least), OK
}

func (s Sheet) darkCells(least int64) []Spot {
	return s.chosen(func(at Spot) bool { return darkness(s.Dye[at.Y][at.X]) >= least })
}

// spotsThat returns the spots of so many columns and rows that fit, ordered.
func spotsThat(wide, high int8, fits func(at Spot) bool) []Spot {
	var list []Spot
	for at := range cells(wide, high) {
		if fits(at) {
			list = append(list, at)
		}
	}
	return list
}

// chosen returns the cells that fit, ordered.
func (s Sheet) chosen(fits func(at Spot) bool) []Spot { return spotsThat(s.Wide, s.High, fits) }

// first returns the first cell with the greatest number, and this; errNotFound if none is greater than 0.
func (s Sheet) first(number func(at Spot) int64) (Spot, int64, error) {
	found, most := Spot{}, int64(0)
	for at := range cells(s.Wide, s.High) {
		if n := number(at); n > most {
			found, most = at, n
		}
	}
	if most == 0 {
		return Spot{}, 0, errNotFound
	}
	return found, most, nil
}

// DarkestCell returns the darkest cell.
func DarkestCell(s Sheet) (Spot, int64, int64) {
	if err := checkSheet(s); err != nil {
		return Spot{}, 0, codeOf(err)
	}
	at, dark, err := s.darkest()
	return at, dark, codeOf(err)
}

func (s Sheet) darkest() (Spot, int64, error) {
	return s.first(func(at Spot) int64 { return darkness(s.Dye[at.Y][at.X]) })
}

// BlotAt returns the blot of a cell.
func BlotAt(s Sheet, at Spot, least int64) ([]Spot, int64) {
	if err := checkBlot(s, at, least); err != nil {
		return nil, codeOf(err)
	}
	return s.blotOnly(at, least).darkCells(1), OK
}

// blotOnly returns a sheet with the dye of the blot of a cell and with nothing else.
// Being a value, it tells this blot from all others of the sheet, whichever of its cells is given.
func (s Sheet) blotOnly(at Spot, least int64) Sheet {
	blot := Sheet{Wide: s.Wide, High: s.High}
	open := []Spot{at}
	for len(open) > 0 {
		next := open[len(open)-1]
		open = open[:len(open)-1]
		if !s.has(next) || darkness(s.Dye[next.Y][next.X]) < least || !blot.bare(next) {
			continue
		}
		blot.Dye[next.Y][next.X] = s.Dye[next.Y][next.X]
		for _, side := range sides() {
			open = append(open, side(next))
		}
	}
	return blot
}

// BlotsOf returns all blots.
func BlotsOf(s Sheet, least int64) ([][]Spot, int64) {
	if err := checkLeast(s, least); err != nil {
		return nil, codeOf(err)
	}
	return s.blots(least), OK
}

func (s Sheet) blots(least int64) [][]Spot {
	var blots [][]Spot
	known := map[Sheet]bool{}
	for _, at := range s.darkCells(least) {
		blot := s.blotOnly(at, least)
		if !known[blot] {
			known[blot] = true
			blots = append(blots, blot.darkCells(1))
		}
	}
	return blots
}

// colourOf returns the colour that dyes make together.
func colourOf(dyes [Inks]int16) int64 {
	colour, most := int64(noColour), int16(0)
	for ink, dye := range dyes {
		switch {
		case dye > most:
			colour, most = int64(ink), dye
		case dye == most && dye > 0:
			colour = mixedColour
		}
	}
	return colour
}

// ColourAt returns the colour of a cell.
func ColourAt(s Sheet, at Spot) (int64, int64) {
	if err := checkCell(s, at); err != nil {
		return 0, codeOf(err)
	}
	return colourOf(s.Dye[at.Y][at.X]), OK
}

// linesOf returns a line for each row, with the words of its cells and what is between them.
func linesOf(wide, high int8, between string, word func(at Spot) string) string {
	var text strings.Builder
	for at := range cells(wide, high) {
		text.WriteString(word(at))
		if at.X < wide-1 {
			text.WriteString(between)
		} else {
			text.WriteByte('\n')
		}
	}
	return text.String()
}

// PictureOf returns the picture of a sheet.
func PictureOf(s Sheet) (string, int64) {
	if err := checkSheet(s); err != nil {
		return "", codeOf(err)
	}
	return linesOf(s.Wide, s.High, "", s.letter), OK
}

// letter returns the letter of a cell in the picture of the sheet.
func (s Sheet) letter(at Spot) string {
	if s.waxed(at) {
		return "w"
	}
	return colourLetters[colourOf(s.Dye[at.Y][at.X])+1]
}

// DifferBy returns by how much two sheets differ.
func DifferBy(a, b Sheet) (int64, int64) {
	if !ValidSheet(a) || !ValidSheet(b) {
		return 0, ErrInvalid
	}
	if !sameSize(a, b) {
		return 0, ErrState
	}
	sum := int64(0)
	for at := range cells(a.Wide, a.High) {
		sum += darkness(gaps(a.Dye[at.Y][at.X], b.Dye[at.Y][at.X]))
	}
	return sum, OK
}

// DryAll takes all water away.
func DryAll(s Sheet) (Sheet, int64, int64) {
	if err := checkSheet(s); err != nil {
		return Sheet{}, 0, codeOf(err)
	}
	gone := s.water()
	s.Wet = [Side][Side]int16{}
	return s, gone, OK
}

// arranged returns a sheet of a size with the cells of s, each one taken from the spot that from tells.
func (s Sheet) arranged(wide, high int8, from func(at Spot) Spot) Sheet {
	made := Sheet{Wide: wide, High: high}
	for at := range cells(wide, high) {
		was := from(at)
		made.Wet[at.Y][at.X] = s.Wet[was.Y][was.X]
		made.Dye[at.Y][at.X] = s.Dye[was.Y][was.X]
		made.Wax[at.Y] = withWax(made.Wax[at.Y], at.X, s.waxed(was))
	}
	return made
}

// MirrorSheet exchanges west and east.
func MirrorSheet(s Sheet) (Sheet, int64) {
	if err := checkSheet(s); err != nil {
		return Sheet{}, codeOf(err)
	}
	return s.arranged(s.Wide, s.High, s.mirrored), OK
}

// mirrored returns the cell as far from the other end of the row.
func (s Sheet) mirrored(at Spot) Spot { return Spot{X: s.Wide - 1 - at.X, Y: at.Y} }

// TurnSheet turns a sheet by a quarter.
func TurnSheet(s Sheet) (Sheet, int64) {
	if err := checkSheet(s); err != nil {
		return Sheet{}, codeOf(err)
	}
	return s.arranged(s.High, s.Wide, func(at Spot) Spot {
		return Spot{X: at.Y, Y: s.High - 1 - at.X}
	}), OK
}

// CutSheet returns a part of a sheet.
func CutSheet(s Sheet, at Spot, wide, high int64) (Sheet, int64) {
	if err := checkCell(s, at); err != nil {
		return Sheet{}, codeOf(err)
	}
	// The room is subtracted rather than the size added, which could overflow.
	if wide < 1 || high < 1 || wide > int64(s.Wide-at.X) || high > int64(s.High-at.Y) {
		return Sheet{}, ErrRange
	}
	return s.arranged(int8(wide), int8(high), func(to Spot) Spot {
		return Spot{X: at.X + to.X, Y: at.Y + to.Y}
	}), OK
}

// SheetText returns the text of a sheet.
func SheetText(s Sheet) string {
	if !ValidSheet(s) {
		return ""
	}
	return linesOf(s.Wide, s.High, " ", s.word)
}

// word returns the word of a cell in the text of the sheet.
func (s Sheet) word(at Spot) string {
	if s.waxed(at) {
		return "w"
	}
	var dyes [Inks]string
	for ink, dye := range s.Dye[at.Y][at.X] {
		dyes[ink] = strconv.Itoa(int(dye))
	}
	return strconv.Itoa(int(s.Wet[at.Y][at.X])) + ":" + strings.Join(dyes[:], ",")
}

// ReadSheet returns the sheet with the given text.
func ReadSheet(text string) (Sheet, int64) {
	s, err := readRows(text)
	if err == nil && !ValidSheet(s) {
		err = errSyntax
	}
	if err != nil {
		return Sheet{}, codeOf(err)
	}
	return s, OK
}

// readRows reads the lines of a sheet; the numbers may still be beyond their limits.
func readRows(text string) (Sheet, error) {
	rows, err := wordsOf(text)
	if err != nil {
		return Sheet{}, err
	}
	s := Sheet{Wide: int8(len(rows[0])), High: int8(len(rows))}
	for at := range cells(s.Wide, s.High) {
		if err := s.readWord(at, rows[at.Y][at.X]); err != nil {
			return Sheet{}, err
		}
	}
	return s, nil
}

// linesIn returns the lines of a text, 1 to Side of them, each one of which ends with a newline.
func linesIn(text string) ([]string, error) {
	body, ended := strings.CutSuffix(text, "\n")
	lines := strings.SplitN(body, "\n", Side+1)
	if !ended || len(lines) > Side {
		return nil, errSyntax
	}
	return lines, nil
}

// wordsOf returns the words of the lines of a text: 1 to Side lines, and as many words in each one.
func wordsOf(text string) ([][]string, error) {
	lines, err := linesIn(text)
	if err != nil {
		return nil, err
	}
	var rows [][]string
	for _, line := range lines {
		rows = append(rows, strings.SplitN(line, " ", Side+1))
	}
	for _, row := range rows {
		if len(row) > Side || len(row) != len(rows[0]) {
			return nil, errSyntax
		}
	}
	return rows, nil
}

// readWord sets a cell to what its word tells.
func (s *Sheet) readWord(at Spot, word string) error {
	if word == "w" {
		s.Wax[at.Y] = withWax(s.Wax[at.Y], at.X, true)
		return nil
	}
	water, list, found := strings.Cut(word, ":")
	dyes := strings.SplitN(list, ",", Inks+1)
	if !found || len(dyes) != Inks {
		return errSyntax
	}
	wet, err := readNumber(water)
	if err != nil {
		return err
	}
	s.Wet[at.Y][at.X] = wet
	for ink, text := range dyes {
		dye, err := readNumber(text)
		if err != nil {
			return err
		}
		s.Dye[at.Y][at.X][ink] = dye
	}
	return nil
}

// readNumber reads a number in the one way in which it is written: without leading zeros or a plus sign.
func readNumber(text string) (int16, error) {
	number, err := strconv.ParseInt(text, 10, 16)
	if err != nil || strconv.FormatInt(number, 10) != text {
		return 0, errSyntax
	}
	return int16(number), nil
}

// readWithin reads a number that has limits.
func readWithin(text string, least, most int16) (int16, error) {
	number, err := readNumber(text)
	if err != nil || number < least || number > most {
		return 0, errSyntax
	}
	return number, nil
}
