package lamp

import (
	"math/rand"
	"reflect"
	"strconv"
	"strings"
	"testing"

	"linkboy/api"
)

const tableText = `table wide
us -1000 0 2000
vs -1000 1000
row 100 300
row 200 600
row 0 100
side 50
sky 5
`

const lampText = "lamp head wide led lumens 8000 power 60000 standing 500 tolerance 50 ageing 2..4 dirt 3..5 life 100000 dim 200 restrike 0\n"

const exampleText = tableText + lampText

// P2.2
func TestPrint(t *testing.T) {
	two := example()
	second := head()
	second.Name, second.Kind, second.Restrike, second.Ageing = "b-2", api.LmSodium, 3600, x(0, 1000)
	third := second
	third.Name, third.Kind = "c", api.LmMetal
	two.Lamps = append(two.Lamps, second, third)
	const rest = " wide sodium lumens 8000 power 60000 standing 500 tolerance 50 ageing 0..1000 dirt 3..5 life 100000 dim 200 restrike 3600\n"
	for _, test := range []struct {
		c    api.LmCatalog
		want string
		e    api.Errno
	}{
		{example(), exampleText, api.OK},
		{api.LmCatalog{}, "", api.OK},
		{api.LmCatalog{Tables: []api.LmTable{wide()}}, tableText, api.OK},
		{two, exampleText + "lamp b-2" + rest + "lamp c" + strings.Replace(rest, "sodium", "metal", 1), api.OK},
		{broken(), "", api.ErrNone},
		{many(11, 0), "", api.ErrLong},
	} {
		if got, e := Print(test.c); got != test.want || e != test.e {
			t.Errorf("Print = %q, %d, want %q, %d", got, e, test.want, test.e)
		}
	}
}

// P2.2
func TestPrintNamesTheTableOfALamp(t *testing.T) {
	c := large()
	c.Lamps[0].Table, c.Lamps[1].Table = 2, 1
	text, e := Print(c)
	if e != api.OK || !strings.Contains(text, "\nlamp a c metal ") || !strings.Contains(text, "\nlamp b b metal ") || !strings.Contains(text, "\nlamp c a metal ") {
		t.Errorf("Print = %q, %d", text, e)
	}
}

// P2.2
func TestParse(t *testing.T) {
	for _, test := range []struct {
		s    string
		want api.LmCatalog
	}{
		{exampleText, example()},
		{"", api.LmCatalog{}},
		{tableText, api.LmCatalog{Tables: []api.LmTable{wide()}}},
	} {
		if c, line, e := Parse(test.s); !reflect.DeepEqual(c, test.want) || line != 0 || e != api.OK {
			t.Errorf("Parse(%q) = %v, %d, %d", test.s, c, line, e)
		}
	}
}

// parseFails checks that a text has an error in a line.
func parseFails(t *testing.T, s string, line int, e api.Errno) {
	t.Helper()
	if c, got, err := Parse(s); !reflect.DeepEqual(c, api.LmCatalog{}) || got != line || err != e {
		t.Errorf("Parse(%q) = %v, %d, %d, want %d, %d", s, c, got, err, line, e)
	}
}

// P2.2
func TestParseOfLinesThatAreNone(t *testing.T) {
	for _, test := range []struct {
		line int // of the example
		text string
	}{
		{1, ""}, {1, "table"}, {1, "table a b"}, {1, " table wide"}, {1, "table wide "}, {1, "table  wide"}, {1, "Table wide"}, {1, "us 1 2"}, {1, "sky 5"}, {1, "tables wide"}, {1, "table\twide"},
		{2, ""}, {2, "us -1000 0 2000 "}, {2, "us -1000  0 2000"}, {2, "vs -1000 0 2000"}, {2, "us -1000 -0 2000"}, {2, "us -1000 00 2000"}, {2, "us -01000 0 2000"}, {2, "us -1000 0 +2000"}, {2, "us -1000 0 2e3"}, {2, "us -1000 0 1000000000"}, {2, "us -1000000000 0 1"}, {2, "us - 0 1"}, {2, "us --1 0 1"}, {2, "us 1- 2 3"}, {2, "us 0x1 2 3"}, {2, "us 1_0 2 3"}, {2, "us\t1 2 3"}, {2, "us 1, 2 3"}, {2, "us 1..2 3 4"}, {2, "us 1.5 2 3"}, {2, "table wide"}, {2, "us 1 2 \r"}, {2, "us 1 2 ٣"},
		{3, "us -1000 1000"}, {3, "vs a b"}, {3, "row 1 2"}, {3, "v -1000 1000"},
		{4, "side 50"}, {4, "row 100 300 x"}, {4, "rows 100 300"}, {4, "100 300"},
		{6, "side 50"}, {6, "sky 5"}, {6, "lamp"},
		{7, "row 0 100"}, {7, "side"}, {7, "side 50 50"}, {7, "side x"}, {7, "sky 5"}, {7, "side 05"},
		{8, "side 50"}, {8, "sky"}, {8, "sky 5 5"}, {8, "sky -"}, {8, "table b"}, {8, strings.TrimSuffix(lampText, "\n")},
		{9, "us 1 2"}, {9, "row 1 2"}, {9, "lamp"}, {9, "side 50"}, {9, "xx"}, {9, " "},
	} {
		lines := strings.SplitAfter(exampleText, "\n")
		lines[test.line-1] = test.text + "\n"
		parseFails(t, strings.Join(lines, ""), test.line, api.ErrForm)
	}
}

// P2.2
func TestParseOfLampsThatAreNone(t *testing.T) {
	for _, test := range [][2]string{
		{"lamp head", "lamps head"}, {"lamp head", "lamp"}, {"lamp head", "lamp head head"}, {"lamp head ", "lamp head  "},
		{"head wide", "head wid"}, {"head wide", "head Wide"}, {"head wide", "head 0"},
		{" led ", " Led "}, {" led ", " 1 "}, {" led ", " lead "}, {" led ", " "},
		{"lumens 8000", "lumen 8000"}, {"lumens 8000", "lumens 8000.."}, {"lumens 8000", "lumens 8000..8000"}, {"lumens 8000", "lumens"}, {"lumens 8000", "lumens 08000"},
		{"power", "lumens"}, {"power 60000 standing 500", "standing 500 power 60000"}, {"tolerance 50", "tolerance x"},
		{"2..4", "2"}, {"2..4", "2.4"}, {"2..4", "2...4"}, {"2..4", "2..04"}, {"2..4", "02..4"}, {"2..4", "..4"}, {"2..4", "2.."}, {"2..4", "2..4..5"}, {"2..4", "2 .. 4"}, {"2..4", "2..x"}, {"2..4", "2..-0"}, {"2..4", ".."}, {"2..4", "2..1000000000"},
		{"3..5", "3"}, {"restrike 0", "restrike 0 0"}, {"restrike 0", "restrike"}, {" restrike 0", ""}, {"restrike 0", "restrike 0 "}, {"dim", "dims"}, {"life 100000 ", ""},
	} {
		text := strings.Replace(exampleText, test[0], test[1], 1)
		if text == exampleText {
			t.Fatalf("no %q", test[0])
		}
		parseFails(t, text, 9, api.ErrForm)
	}
	// a lamp has a table that comes before it, and no table comes behind a lamp
	parseFails(t, lampText+tableText, 1, api.ErrForm)
	parseFails(t, exampleText+tableText, 10, api.ErrForm)
	parseFails(t, exampleText+"\n", 10, api.ErrForm)
}

// P2.2
func TestParseOfTextsThatEndTooSoon(t *testing.T) {
	lines := strings.SplitAfter(exampleText, "\n")
	for at := 1; at < 8; at++ {
		parseFails(t, strings.Join(lines[:at], ""), at+1, api.ErrForm)
	}
	for at := range len(exampleText) {
		if at != 0 && exampleText[at-1] != '\n' {
			parseFails(t, exampleText[:at], strings.Count(exampleText[:at], "\n")+1, api.ErrForm)
		}
	}
	parseFails(t, " ", 1, api.ErrForm)
	parseFails(t, "\n", 1, api.ErrForm)
	parseFails(t, exampleText+" ", 10, api.ErrForm)
	// a line that is none comes before the end
	parseFails(t, "tabel wide\nus 1", 1, api.ErrForm)
}

// P2.2: the lines may have any number of numbers, and any numbers; what is wrong with these Check says.
func TestParseReturnsTheErrorOfCheck(t *testing.T) {
	replace := func(pairs ...string) string { return strings.NewReplacer(pairs...).Replace(exampleText) }
	second := strings.Replace(tableText, "wide", "second", 1)
	for _, test := range []struct {
		s    string
		line int
		e    api.Errno
	}{
		{replace("table wide", "table Wide", "head wide", "head Wide"), 1, api.ErrForm},
		{replace("table wide", "table -", "head wide", "head -"), 1, api.ErrForm},
		{replace("lamp head", "lamp 1"), 9, api.ErrForm},
		{replace("us -1000 0 2000", "us", "row 100 300\nrow 200 600\nrow 0 100\n", ""), 1, api.ErrLong},
		{replace("us -1000 0 2000", "us -1000 0 999999999"), 1, api.ErrRange},
		{replace("us -1000 0 2000", "us -999999999 0 0"), 1, api.ErrRange},
		{replace("us -1000 0 2000", "us 0 0 0"), 1, api.ErrArg},
		{replace("vs -1000 1000", "vs"), 1, api.ErrLong},
		{replace("row 200 600", "row 200"), 1, api.ErrForm},
		{replace("row 200 600", "row"), 1, api.ErrForm},
		{replace("row 200 600", "row 1 2 3"), 1, api.ErrForm},
		{replace("sky 5", "sky -5"), 1, api.ErrRange},
		{replace("lumens 8000", "lumens -1"), 9, api.ErrRange},
		{replace("2..4", "4..2"), 9, api.ErrRange},
		{replace("2..4", "-4..-2"), 9, api.ErrRange},
		{replace("restrike 0", "restrike 1"), 9, api.ErrArg},
		{tableText + tableText, 9, api.ErrTwice},
		{tableText + tableText + lampText, 9, api.ErrTwice},
		{tableText + second + lampText + lampText, 18, api.ErrTwice},
		{tableText + strings.Replace(second, "side 50", "side -1", 1) + lampText, 9, api.ErrRange},
		{tableText + second + lampText + strings.Replace(lampText, "head", "H", 1), 18, api.ErrForm},
		// tables come before lamps
		{replace("lamp head", "lamp 1", "sky 5", "sky -5"), 1, api.ErrRange},
		// a line that is none comes before what Check says
		{replace("lamp head", "lamp  1", "sky 5", "sky -5"), 9, api.ErrForm},
		{strings.Repeat(tableText, 11), 0, api.ErrLong},
		{tableText + strings.Repeat(lampText, 21), 0, api.ErrLong},
	} {
		parseFails(t, test.s, test.line, test.e)
	}
}

// P2.2
func TestParseLimit(t *testing.T) {
	line := func(bytes int) string { return "us " + strings.Repeat("1", bytes-4) + "\n" }
	parseFails(t, line(30001), 0, api.ErrLong)
	parseFails(t, line(30000), 1, api.ErrForm)
	long := "table wide\nus" + strings.Repeat(" 1", 14993) + "\n"
	parseFails(t, long[:30000-1]+"\n", 3, api.ErrForm)
	parseFails(t, tableText+strings.Repeat(" ", 30001), 0, api.ErrLong)
}

// randomCatalog returns a catalogue that Check accepts.
func randomCatalog(r *rand.Rand) api.LmCatalog {
	var c api.LmCatalog
	for i := range 1 + r.Intn(3) {
		c.Tables = append(c.Tables, randomTable(r, "t"+strconv.Itoa(i)))
	}
	for i := range r.Intn(4) {
		l := api.LmLamp{Name: "l-" + strconv.Itoa(i), Table: r.Intn(len(c.Tables)), Kind: 1 + r.Intn(3), Lumens: 1 + r.Intn(1000000), Power: 1 + r.Intn(5000000), Tolerance: r.Intn(1001), Life: 1 + r.Intn(200000), Dim: r.Intn(1001)}
		l.Standing = r.Intn(l.Power + 1)
		l.Ageing, l.Dirt = randomEncl(r, 1001), randomEncl(r, 1001)
		if r.Intn(2) == 0 {
			l.Ageing, l.Dirt = randomEncl(r, 10), randomEncl(r, 10)
		}
		if l.Kind != api.LmLed {
			l.Restrike = r.Intn(3601)
		}
		c.Lamps = append(c.Lamps, l)
	}
	return c
}

// randomTable returns a table that Check accepts.
func randomTable(r *rand.Rand, name string) api.LmTable {
	t := api.LmTable{Name: name, Us: randomTangents(r), Vs: randomTangents(r), Side: r.Intn(1000), Sky: r.Intn(1000)}
	most := []int{3, 1000, 10000001}[r.Intn(3)]
	for range t.Us {
		var row []int
		for range t.Vs {
			row = append(row, r.Intn(most))
		}
		t.Values = append(t.Values, row)
	}
	return t
}

func randomTangents(r *rand.Rand) []int {
	most := []int{4, 100, 5000}[r.Intn(3)]
	for {
		var all []int
		for t := -most; t <= most; t += 1 + r.Intn(most) {
			if len(all) < 12 && r.Intn(3) > 0 {
				all = append(all, t)
			}
		}
		if len(all) >= 2 {
			return all
		}
	}
}

func randomEncl(r *rand.Rand, most int) api.Encl {
	lo := r.Intn(most)
	return x(lo, lo+r.Intn(most-lo))
}

// P2.8
func TestParseOfPrint(t *testing.T) {
	r := rand.New(rand.NewSource(28))
	for range 300 {
		c := randomCatalog(r)
		text, e := Print(c)
		if e != api.OK {
			t.Fatalf("Print(%v): %d", c, e)
		}
		if back, line, e := Parse(text); !reflect.DeepEqual(back, c) || line != 0 || e != api.OK {
			t.Errorf("Parse(%q) = %v, %d, %d, want %v", text, back, line, e, c)
		}
	}
	full := many(10, 20)
	text, e := Print(full)
	if back, _, _ := Parse(text); e != api.OK || !reflect.DeepEqual(back, full) {
		t.Errorf("a full catalogue comes back as %v", back)
	}
}
