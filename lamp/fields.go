package lamp

import (
	"strconv"
	"strings"

	"linkboy/api"
	"linkboy/whole"
	"linkboy/words"
)

// dots separate the ends of an enclosure in a text.
const dots = ".."

// kindWords has the word of each kind of lamps.
var kindWords = [4]string{api.LmLed: "led", api.LmSodium: "sodium", api.LmMetal: "metal"}

// kindOf returns the kind of lamps with a word.
func kindOf(word string) (kind int, isKind bool) {
	for kind := api.LmLed; kind <= api.LmMetal; kind++ {
		if kindWords[kind] == word {
			return kind, true
		}
	}
	return 0, false
}

// field is a number, or an enclosure, of a lamp: its word, its range, and where the number, or both ends, are (a number has no hi).
type field struct {
	word        string
	least, most int
	ends        func(l *api.LmLamp) (lo, hi *int)
}

// fields returns the fields of a lamp, in the order of its line.
func fields() [9]field {
	return [...]field{
		{"lumens", 1, api.MaxLumens, func(l *api.LmLamp) (lo, hi *int) { return &l.Lumens, nil }},
		{"power", 1, api.MaxPower, func(l *api.LmLamp) (lo, hi *int) { return &l.Power, nil }},
		{"standing", 0, api.MaxPower, func(l *api.LmLamp) (lo, hi *int) { return &l.Standing, nil }},
		{"tolerance", 0, api.All, func(l *api.LmLamp) (lo, hi *int) { return &l.Tolerance, nil }},
		{"ageing", 0, api.All, func(l *api.LmLamp) (lo, hi *int) { return &l.Ageing.Lo, &l.Ageing.Hi }},
		{"dirt", 0, api.All, func(l *api.LmLamp) (lo, hi *int) { return &l.Dirt.Lo, &l.Dirt.Hi }},
		{"life", 1, api.MaxHours, func(l *api.LmLamp) (lo, hi *int) { return &l.Life, nil }},
		{"dim", 0, api.All, func(l *api.LmLamp) (lo, hi *int) { return &l.Dim, nil }},
		{"restrike", 0, api.MaxRestrike, func(l *api.LmLamp) (lo, hi *int) { return &l.Restrike, nil }},
	}
}

// isInRange reports whether what a lamp has in a field is in its range; the Lo of an enclosure is at most its Hi.
func (f field) isInRange(l *api.LmLamp) bool {
	lo, hi := f.ends(l)
	return whole.IsFrom(*lo, f.least, f.most) && (hi == nil || whole.IsFrom(*hi, *lo, f.most))
}

// text returns what a lamp has in a field, as its line has it.
func (f field) text(l *api.LmLamp) string {
	lo, hi := f.ends(l)
	if hi == nil {
		return strconv.Itoa(*lo)
	}
	return strconv.Itoa(*lo) + dots + strconv.Itoa(*hi)
}

// read puts what a line has in a field into a lamp, or reports that it is not as it must be.
func (f field) read(l *api.LmLamp, text string) bool {
	lo, hi := f.ends(l)
	if hi == nil {
		return readNumber(lo, text)
	}
	first, second, isBoth := strings.Cut(text, dots)
	return isBoth && readNumber(lo, first) && readNumber(hi, second)
}

func readNumber(n *int, text string) (isNumber bool) {
	*n, isNumber = words.Number(text)
	return isNumber
}
