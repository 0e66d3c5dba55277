package lamp

import (
	"strconv"
	"strings"

	"linkboy/api"
	"linkboy/words"
)

// dots separate the ends of an enclosure in a text.
const dots = ".."

// kindWords has the word of each kind of lamps.
var kindWords = [4]string{api.LmLed: "led", api.LmSodium: "sodium", api.LmMetal: "metal"}

// kindOf returns the kind of lamps with a word.
func kindOf(word string) (kind int, isKind bool) {
	for kind := api.LmLed; kind <= api.LmMetal; kind++ {
		if kindWords[kind] == word {
			return kind, true
		}
	}
	return 0, false
}

// field is a number, or an enclosure, of a lamp: its word, its range, and where its number, or both of its ends, are.
type field struct {
	word        string
	least, most int
	numbers     func(l *api.LmLamp) []*int
}

// fields returns the fields of a lamp, in the order of its line.
func fields() []field {
	return []field{
		{"lumens", 1, api.MaxLumens, func(l *api.LmLamp) []*int { return []*int{&l.Lumens} }},
		{"power", 1, api.MaxPower, func(l *api.LmLamp) []*int { return []*int{&l.Power} }},
		{"standing", 0, api.MaxPower, func(l *api.LmLamp) []*int { return []*int{&l.Standing} }},
		{"tolerance", 0, api.All, func(l *api.LmLamp) []*int { return []*int{&l.Tolerance} }},
		{"ageing", 0, api.All, func(l *api.LmLamp) []*int { return []*int{&l.Ageing.Lo, &l.Ageing.Hi} }},
		{"dirt", 0, api.All, func(l *api.LmLamp) []*int { return []*int{&l.Dirt.Lo, &l.Dirt.Hi} }},
		{"life", 1, api.MaxHours, func(l *api.LmLamp) []*int { return []*int{&l.Life} }},
		{"dim", 0, api.All, func(l *api.LmLamp) []*int { return []*int{&l.Dim} }},
		{"restrike", 0, api.MaxRestrike, func(l *api.LmLamp) []*int { return []*int{&l.Restrike} }},
	}
}

// isInRange reports whether what a lamp has in a field is in its range; the Lo of an enclosure is at most its Hi.
func (f field) isInRange(l *api.LmLamp) bool {
	least := f.least
	for _, n := range f.numbers(l) {
		if !isFrom(*n, least, f.most) {
			return false
		}
		least = *n
	}
	return true
}

// text returns what a lamp has in a field, as its line has it.
func (f field) text(l *api.LmLamp) string {
	var ends []string
	for _, n := range f.numbers(l) {
		ends = append(ends, strconv.Itoa(*n))
	}
	return strings.Join(ends, dots)
}

// read puts what a line has in a field into a lamp, or reports that it is not as it must be.
func (f field) read(l *api.LmLamp, text string) bool {
	ends := strings.Split(text, dots)
	numbers := f.numbers(l)
	if !areAsMany(ends, numbers) {
		return false
	}
	for i, end := range ends {
		n, isNumber := words.Number(end)
		if !isNumber {
			return false
		}
		*numbers[i] = n
	}
	return true
}
