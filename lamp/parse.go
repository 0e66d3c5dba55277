package lamp

import (
	"strings"

	"linkboy/api"
	"linkboy/words"
)

// reader is what was read of a catalogue: which lines begin its tables and its lamps, which line is read now, and whether lines of a table are missing.
type reader struct {
	catalog               api.LmCatalog
	tableLines, lampLines []int
	line                  int
	isOpen                bool
}

// step reads a line, as its words, and returns what reads the next one, or nil if the line is not as it must be.
type step func(line []string) step

// Parse reads a catalogue.
func Parse(s string) (c api.LmCatalog, line int, e api.Errno) {
	if len(s) > api.MaxLmText {
		return api.LmCatalog{}, 0, api.ErrLong
	}
	var r reader
	if !r.readAll(s) {
		return api.LmCatalog{}, r.line, api.ErrForm
	}
	if part, at, e := Check(r.catalog); e != api.OK {
		return api.LmCatalog{}, r.lineOf(part, at), e
	}
	return r.catalog, 0, api.OK
}

// readAll reads all lines of a text; if one is not as it must be, it is the last one that is read.
func (r *reader) readAll(s string) bool {
	next := r.item()
	for {
		r.line++
		line, others, isComplete := strings.Cut(s, "\n")
		if !isComplete {
			return s == "" && !r.isOpen
		}
		list, isLine := words.Split(line)
		if !isLine {
			return false
		}
		if next = next(list); next == nil {
			return false
		}
		s = others
	}
}

// lineOf returns the line in which an element of a part of the catalogue begins.
func (r *reader) lineOf(part, at int) int {
	switch part {
	case partTables:
		return r.tableLines[at]
	case partLamps:
		return r.lampLines[at]
	}
	return 0
}

// item expects the first line of a table, if there was no lamp before it, or a lamp.
func (r *reader) item() step {
	return func(line []string) step {
		switch {
		case line[0] == wordTable && len(line) == 2 && len(r.catalog.Lamps) == 0:
			r.tableLines = append(r.tableLines, r.line)
			r.isOpen = true
			return r.tangents(&api.LmTable{Name: line[1]})
		case line[0] == wordLamp && r.readLamp(line[1:]):
			r.lampLines = append(r.lampLines, r.line)
			return r.item()
		}
		return nil
	}
}

// tangents expects the tangents of a table, and then what is behind them.
func (r *reader) tangents(t *api.LmTable) step {
	return numbers(wordUs, func(us []int) step {
		t.Us = us
		return numbers(wordVs, func(vs []int) step {
			t.Vs = vs
			return r.rows(t)
		})
	})
}

// rows expects as many rows of a table as are missing, and then what is behind them.
func (r *reader) rows(t *api.LmTable) step {
	if areAsMany(t.Values, t.Us) {
		return r.others(t)
	}
	return numbers(wordRow, func(row []int) step {
		t.Values = append(t.Values, row)
		return r.rows(t)
	})
}

// others expects the intensities in other directions, which are the end of a table.
func (r *reader) others(t *api.LmTable) step {
	return number(wordSide, func(side int) step {
		t.Side = side
		return number(wordSky, func(sky int) step {
			t.Sky = sky
			r.catalog.Tables = append(r.catalog.Tables, *t)
			r.isOpen = false
			return r.item()
		})
	})
}

// readLamp reads a lamp from the words behind the first one, or reports that they are not as they must be.
func (r *reader) readLamp(line []string) bool {
	all := fields()
	if len(line) != 3+2*len(all) {
		return false
	}
	kind, isKind := kindOf(line[2])
	l := api.LmLamp{Name: line[0], Table: tableOf(r.catalog.Tables, line[1]), Kind: kind}
	if l.Table < 0 || !isKind {
		return false
	}
	for i, f := range all {
		if line[3+2*i] != f.word || !f.read(&l, line[4+2*i]) {
			return false
		}
	}
	r.catalog.Lamps = append(r.catalog.Lamps, l)
	return true
}

// numbers expects a line of a word and numbers, which it gives to a function that says what comes next.
func numbers(word string, take func(all []int) step) step {
	return func(line []string) step {
		if line[0] != word {
			return nil
		}
		all := []int{}
		for _, numeral := range line[1:] {
			n, isNumber := words.Number(numeral)
			if !isNumber {
				return nil
			}
			all = append(all, n)
		}
		return take(all)
	}
}

// number is like numbers, for a single one.
func number(word string, take func(n int) step) step {
	return numbers(word, func(all []int) step {
		if len(all) != 1 {
			return nil
		}
		return take(all[0])
	})
}
