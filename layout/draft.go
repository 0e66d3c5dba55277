package layout

import (
	"cmp"
	"iter"

	"linkboy/api"
	"linkboy/light"
	"linkboy/whole"
)

// mwhPerKwh is how many milliwatt-hours a kilowatt-hour is.
const mwhPerKwh = 1000000

// draft is a layout of a task, and what is known of it.
type draft struct {
	task               *api.LoTask
	layout             api.LoLayout
	scene              api.LtScene
	isWrong            bool
	power, cost, value int                  // 0, if it is wrong
	judged             map[int]api.LtResult // by needs, as far as they were asked for
}

func newDraft(t *api.LoTask, l api.LoLayout) *draft {
	d := &draft{task: t, layout: l, scene: sceneOf(t, l), judged: map[int]api.LtResult{}}
	_, _, e := light.Check(d.scene)
	d.isWrong = e != api.OK || len(d.scene.Road.Columns) == 0
	if d.isWrong {
		return d
	}
	power, _ := light.Power(d.scene)
	d.power = power.Hi
	d.cost = len(d.scene.Road.Columns)*(t.Poles[l.Pole].Price+t.Lamps[l.Lamp].Price) + whole.Up(d.power*t.Hours*t.PerKwh, mwhPerKwh)
	d.value = d.cost
	if t.Goal == api.LoSaving {
		d.value = d.power
	}
	return d
}

// drafts returns drafts of some layouts of a task.
func drafts(t *api.LoTask, some iter.Seq[api.LoLayout]) (all []*draft) {
	for l := range some {
		all = append(all, newDraft(t, l))
	}
	return all
}

// byValue compares two drafts: the better one comes first.
func byValue(a, b *draft) int {
	return cmp.Or(cmp.Compare(a.value, b.value), inOrder(a.layout, b.layout))
}

// byCost compares two drafts by their cost, then by their power, then by their order.
func byCost(a, b *draft) int {
	return cmp.Or(cmp.Compare(a.cost, b.cost), cmp.Compare(a.power, b.power), inOrder(a.layout, b.layout))
}

// ofNeed returns the light of the road of a need.
func (d *draft) ofNeed(need int) api.LtResult {
	r, isKept := d.judged[need]
	if !isKept {
		n := &d.task.Needs[need]
		r, _ = light.Judge(d.scene, n.Road, n.Class)
		d.judged[need] = r
	}
	return r
}
