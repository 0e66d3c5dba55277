package sun

import (
	"iter"

	"linkboy/api"
	"linkboy/whole"
)

const (
	maxWait       = 3600    // s
	maxSampleTime = 1000000 // s
)

// What light does to a cell.
const (
	keeps     = 0
	darkens   = 1 // a cell that is off may switch on
	brightens = 2 // a cell that is on may switch off
)

// stretch is all times, one after the other, at which light does the same to a cell.
type stretch struct{ from, until, does int }

func isCell(c api.SnCell) bool {
	return 0 <= c.On && c.On < c.Off && c.Off <= api.MaxLight && isWait(c.OnAfter) && isWait(c.OffAfter)
}

func isWait(seconds int) bool { return whole.IsFrom(seconds, 0, maxWait) }

func areSamples(l []api.SnSample) bool {
	for i, s := range l {
		if !whole.IsFrom(s.Time, 0, maxSampleTime) || !whole.IsFrom(s.Light, 0, api.MaxLight) || i > 0 && s.Time <= l[i-1].Time {
			return false
		}
	}
	return true
}

// switches returns when a cell switches. It does so once in a stretch at most: light that has switched it on does not switch it off.
func switches(c *api.SnCell, l []api.SnSample) (all []api.SnSwitch) {
	isLit := false
	for s := range stretches(c, l) {
		awaited, wait := darkens, c.OnAfter
		if isLit {
			awaited, wait = brightens, c.OffAfter
		}
		if s.does == awaited && s.from+wait <= s.until {
			isLit = !isLit
			all = append(all, api.SnSwitch{Time: s.from + wait, On: isLit})
		}
	}
	return all
}

// stretches yields the stretches of the light that samples tell.
func stretches(c *api.SnCell, l []api.SnSample) iter.Seq[stretch] {
	return func(yield func(stretch) bool) {
		for i := 0; i < len(l); {
			s := stretch{from: l[i].Time, does: effect(c, l[i].Light)}
			for i < len(l) && effect(c, l[i].Light) == s.does {
				s.until = l[i].Time
				i++
			}
			if i < len(l) {
				s.until = l[i].Time - 1
			}
			if !yield(s) {
				return
			}
		}
	}
}

// effect returns what light does to a cell.
func effect(c *api.SnCell, light int) int {
	switch {
	case light <= c.On:
		return darkens
	case light >= c.Off:
		return brightens
	}
	return keeps
}
