package lamp

import (
	"strconv"
	"strings"

	"linkboy/api"
)

// Words with which lines begin.
const (
	wordTable = "table"
	wordUs    = "us"
	wordVs    = "vs"
	wordRow   = "row"
	wordSide  = "side"
	wordSky   = "sky"
	wordLamp  = "lamp"
)

// Print writes a catalogue.
func Print(c api.LmCatalog) (string, api.Errno) {
	if _, _, e := Check(c); e != api.OK {
		return "", e
	}
	var text strings.Builder
	for _, t := range c.Tables {
		printTable(&text, t)
	}
	for _, l := range c.Lamps {
		printLamp(&text, l, c.Tables[l.Table].Name)
	}
	if text.Len() > api.MaxLmText {
		return "", api.ErrLong
	}
	return text.String(), api.OK
}

func printTable(text *strings.Builder, t api.LmTable) {
	printLine(text, wordTable, t.Name)
	printLine(text, wordUs, numerals(t.Us)...)
	printLine(text, wordVs, numerals(t.Vs)...)
	for _, row := range t.Values {
		printLine(text, wordRow, numerals(row)...)
	}
	printLine(text, wordSide, strconv.Itoa(t.Side))
	printLine(text, wordSky, strconv.Itoa(t.Sky))
}

func printLamp(text *strings.Builder, l api.LmLamp, table string) {
	line := []string{l.Name, table, kindWords[l.Kind]}
	for _, f := range fields() {
		line = append(line, f.word, f.text(&l))
	}
	printLine(text, wordLamp, line...)
}

func printLine(text *strings.Builder, first string, others ...string) {
	text.WriteString(first)
	for _, word := range others {
		text.WriteString(" " + word)
	}
	text.WriteString("\n")
}

func numerals(numbers []int) []string {
	var all []string
	for _, n := range numbers {
		all = append(all, strconv.Itoa(n))
	}
	return all
}
