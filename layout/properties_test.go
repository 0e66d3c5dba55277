package layout

import (
	"math/rand"
	"slices"
	"testing"

	"linkboy/api"
	"linkboy/road"
)

// P5.7: what Best returns is accepted.
func TestBestIsAccepted(t *testing.T) {
	r := rand.New(rand.NewSource(507))
	accepted := 0
	for range 200 {
		task := randomTask(r)
		f, e := Best(task)
		if e == api.ErrDown {
			continue
		}
		accepted++
		if at, e := Accept(task, f); at != 0 || e != api.OK {
			t.Fatalf("Accept(%v, %v) = %d, %d", task, f, at, e)
		}
	}
	if accepted < 50 {
		t.Errorf("%d tasks that can be met", accepted)
	}
}

// anyCertificate returns a certificate for a layout, whose reasons may hold, or not; sometimes its value is another one, or it has a reason too few.
func anyCertificate(r *rand.Rand, task api.LoTask, l api.LoLayout) api.LoFound {
	f := api.LoFound{Layout: l, Value: wantValue(task, l)}
	for other := range layouts(&task) {
		v := wantValue(task, other)
		if v > f.Value || v == f.Value && inOrder(other, l) >= 0 {
			continue
		}
		all := append(wantReasons(task, other), api.LoReason{Kind: from(r, 0, 8)})
		if len(all) > 1 && r.Intn(200) != 0 {
			all = all[:len(all)-1]
		}
		f.Reasons = append(f.Reasons, all[r.Intn(len(all))])
	}
	switch n := len(f.Reasons); {
	case r.Intn(10) == 0:
		f.Value += from(r, -2, 2)
	case r.Intn(10) == 0 && n > 0:
		f.Reasons = f.Reasons[:n-1]
	}
	return f
}

// P5.7: any certificate that is accepted is one for the best layout; its reasons need not be those of Best.
func TestWhatIsAcceptedIsBest(t *testing.T) {
	r := rand.New(rand.NewSource(517))
	accepted, others, refused := 0, 0, 0
	for range 60 {
		task := randomTask(r)
		best, bestError := Best(task)
		all, _ := All(task)
		tried := []api.LoLayout{best.Layout}
		for range 5 {
			tried = append(tried, all[r.Intn(len(all))])
		}
		for _, l := range tried {
			if !isLayout(&task, l) {
				continue
			}
			f := anyCertificate(r, task, l)
			if _, e := Accept(task, f); e != api.OK {
				refused++
				continue
			}
			accepted++
			if !slices.Equal(f.Reasons, best.Reasons) {
				others++
			}
			if bestError != api.OK || best.Layout != f.Layout || best.Value != f.Value {
				t.Fatalf("%v: %v is accepted, but %v is best", task, f, best)
			}
			for other := range layouts(&task) {
				if wantWhy(task, other) == (api.LoReason{}) && wantValue(task, other) < f.Value {
					t.Fatalf("%v: %v is accepted, but %v is better", task, f, other)
				}
			}
		}
	}
	if accepted < 20 || others < 5 || refused < 50 {
		t.Errorf("%d accepted, %d of them with other reasons, %d refused", accepted, others, refused)
	}
}

// P5.8
func TestRoadsOfLayoutsAreLitEverywhere(t *testing.T) {
	r := rand.New(rand.NewSource(508))
	points := map[int]int{}
	for range 400 {
		task := randomTask(r)
		l := randomLayout(r, &task)
		if why, _ := Why(task, l); why.Kind != api.LoNothing {
			continue
		}
		s, _ := Build(task, l)
		for range 200 {
			x, y := place(r), place(r)/3
			for _, n := range task.Needs {
				if on, _ := road.On(s.Road, n.Road, x, y); !on || n.Class.Least == 0 {
					continue
				}
				points[n.Class.Kind]++
				if got := wantOf(s, n.Class, api.RdPatch{X0: x, Y0: y, X1: x, Y1: y}); got.Hi < n.Class.Least {
					t.Fatalf("%v, %v does, but has %v at (%d, %d)", task, l, got, x, y)
				}
			}
		}
	}
	if points[api.LtLux] < 200 || points[api.LtBright] < 200 {
		t.Errorf("points: %v", points)
	}
}

// lesser returns a task that asks for less than another one.
func lesser(r *rand.Rand, t api.LoTask) api.LoTask {
	t.Needs = slices.Clone(t.Needs)
	n := len(t.Needs)
	switch r.Intn(4) {
	case 0:
		t.Sky += from(r, 1, 5000)
	case 1:
		t.Window += from(r, 1, 5000)
	case 2:
		if n > 0 {
			at := r.Intn(n)
			t.Needs = slices.Delete(t.Needs, at, at+1)
		}
	default:
		if n > 0 {
			c := &t.Needs[r.Intn(n)].Class
			for _, limit := range []*int{&c.Average, &c.Least, &c.Uniform} {
				*limit = r.Intn(*limit + 1)
			}
			c.Glare = from(r, c.Glare, api.MaxGlare)
		}
	}
	return t
}

// more returns a task with a further choice; what there is to choose otherwise has the same places as before.
func more(r *rand.Rand, t api.LoTask) api.LoTask {
	switch r.Intn(3) {
	case 0:
		t.Poles = append(slices.Clone(t.Poles), api.LoPole{Height: from(r, 30, 150), Price: 1000 * r.Intn(100)})
	case 1:
		t.Lamps = append(slices.Clone(t.Lamps), api.LoLamp{Lamp: r.Intn(3), Price: 1000 * r.Intn(100)})
	default:
		t.Steps++
	}
	return t
}

// P5.9: with lesser needs all that did does, and the best value is not greater; with more choices it is not greater either.
func TestEasierTasks(t *testing.T) {
	r := rand.New(rand.NewSource(509))
	kept, newer, cheaper := 0, 0, 0
	for range 400 {
		task := randomTask(r)
		easier, wider := lesser(r, task), more(r, task)
		l := randomLayout(r, &task)
		before, _ := Why(task, l)
		after, e := Why(easier, l)
		if before.Kind == api.LoNothing && after.Kind != api.LoNothing || e != api.OK {
			t.Fatalf("%v, %v does, but not with %v: %v, %d", task, l, easier, after, e)
		}
		if before.Kind == api.LoNothing {
			kept++
		} else if after.Kind == api.LoNothing {
			newer++
		}
		best, bestError := Best(task)
		for _, other := range []api.LoTask{easier, wider} {
			got, e := Best(other)
			if bestError == api.OK && (e != api.OK || got.Value > best.Value) {
				t.Fatalf("Best(%v) = %v, Best(%v) = %v, %d", task, best, other, got, e)
			}
			if e == api.OK && (bestError != api.OK || got.Value < best.Value) {
				cheaper++
			}
		}
	}
	if kept < 50 || newer < 5 || cheaper < 20 {
		t.Errorf("%d layouts that did, %d that do now, %d tasks with a lesser value", kept, newer, cheaper)
	}
}

// P5.10
func TestReasonsOfRandomTasks(t *testing.T) {
	r := rand.New(rand.NewSource(510))
	for range 300 {
		task := randomTask(r)
		l := randomLayout(r, &task)
		why, _ := Why(task, l)
		if holds, e := Holds(task, l, why); holds != (why != api.LoReason{}) || e != api.OK {
			t.Fatalf("Holds(%v, %v, %v) = %v, %d", task, l, why, holds, e)
		}
		if does := len(wantReasons(task, l)) == 0; does != (why == api.LoReason{}) {
			t.Fatalf("Why(%v, %v) = %v, but it does: %v", task, l, why, does)
		}
	}
}

// P5.11
func TestTradeHasTheBest(t *testing.T) {
	r := rand.New(rand.NewSource(511))
	several := 0
	for range 200 {
		task := randomTask(r)
		trade, e := Trade(task)
		for goal := api.LoCheap; goal <= api.LoSaving; goal++ {
			task.Goal = goal
			best, bestError := Best(task)
			if e != api.OK || (bestError == api.OK) != (len(trade) > 0) {
				t.Fatalf("Trade(%v) = %v, %d, Best = %v, %d", task, trade, e, best, bestError)
			}
			if bestError != api.OK {
				continue
			}
			least, _ := Value(task, trade[0])
			for _, l := range trade {
				value, _ := Value(task, l)
				least = min(least, value)
			}
			if least != best.Value {
				t.Fatalf("Trade(%v) = %v with the least value %d, Best = %v", task, trade, least, best)
			}
		}
		if len(trade) > 1 {
			several++
		}
	}
	if several < 10 {
		t.Errorf("%d tasks with several layouts to trade", several)
	}
}
