package layout

import (
	"errors"
	"math"
	"slices"
	"strconv"

	"linkboy/api"
)

// nowhere is what Accept returns as an index if no reason is to blame.
const nowhere = -1

// unmet is the error of a task that cannot be met.
type unmet struct {
	tried int // layouts
}

func (u unmet) Error() string { return "none of " + strconv.Itoa(u.tried) + " layouts does" }

// codeOf returns the code of the error of a search.
func codeOf(err error) api.Errno {
	var u unmet
	if errors.As(err, &u) {
		return api.ErrDown
	}
	return api.OK
}

// study keeps what was judged of layouts: why they do not do.
type study map[api.LoLayout]api.LoReason

// why returns the reason why a layout does not do.
func (s study) why(d *draft) api.LoReason {
	r, isKept := s[d.layout]
	if !isKept {
		r = d.why()
		s[d.layout] = r
	}
	return r
}

// first returns the first one of some drafts that does.
func (s study) first(some []*draft) (*draft, error) {
	for _, d := range some {
		if s.why(d) == (api.LoReason{}) {
			return d, nil
		}
	}
	return nil, unmet{len(some)}
}

// best returns the best layout of a task, with its certificate.
func best(t *api.LoTask) (api.LoFound, error) {
	s := study{}
	all := drafts(t, layouts(t))
	first, err := s.first(slices.SortedFunc(slices.Values(all), byValue))
	if err != nil {
		return api.LoFound{}, err
	}
	found := api.LoFound{Layout: first.layout, Value: first.value}
	for _, d := range betterThan(first, all) {
		found.Reasons = append(found.Reasons, s.why(d))
	}
	return found, nil
}

// betterThan returns those of some drafts that are better than one.
func betterThan(one *draft, some []*draft) (better []*draft) {
	for _, d := range some {
		if byValue(d, one) < 0 {
			better = append(better, d)
		}
	}
	return better
}

// accept returns the first error of a certificate for one of the layouts of a task, and the index of the reason that has it.
func accept(t *api.LoTask, f api.LoFound) (at int, e api.Errno) {
	d := newDraft(t, f.Layout)
	switch {
	case f.Value != d.value:
		return nowhere, api.LoErrValue
	case d.why() != (api.LoReason{}):
		return nowhere, api.LoErrWhy
	}
	better := betterThan(d, drafts(t, layouts(t)))
	if len(f.Reasons) != len(better) {
		return nowhere, api.LoErrCount
	}
	for at, r := range f.Reasons {
		if !better[at].holds(r) {
			return at, api.LoErrReason
		}
	}
	return 0, api.OK
}

// trade returns the layouts that do, without those for which another one costs and burns as little, and less of one.
func trade(t *api.LoTask) []api.LoLayout {
	var kept []api.LoLayout
	least := math.MaxInt
	for _, d := range slices.SortedFunc(slices.Values(drafts(t, layouts(t))), byCost) {
		// What was kept costs no more than this one, and has at least this power.
		if d.power < least && d.why() == (api.LoReason{}) {
			kept, least = append(kept, d.layout), d.power
		}
	}
	slices.SortFunc(kept, inOrder)
	return kept
}

// lowest returns the lowest level with which a layout does.
func lowest(t *api.LoTask, l api.LoLayout) (int, error) {
	levels := func(yield func(api.LoLayout) bool) {
		for l.Level = range t.Levels {
			if !yield(l) {
				return
			}
		}
	}
	d, err := study{}.first(drafts(t, levels))
	if err != nil {
		return 0, err
	}
	return d.layout.Level, nil
}
