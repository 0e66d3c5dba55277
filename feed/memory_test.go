package feed

import (
	"encoding/json"
	"math"
	"math/rand"
	"reflect"
	"slices"
	"testing"

	"linkboy/api"
)

// separate returns a feeder that shares no memory with another one.
func separate(feeder api.FeFeeder) (f api.FeFeeder) {
	text, err := json.Marshal(feeder)
	if err == nil {
		err = json.Unmarshal(text, &f)
	}
	if err != nil {
		panic(err)
	}
	return f
}

// P6.12
func TestFeedersAreNotModified(t *testing.T) {
	r := rand.New(rand.NewSource(6120))
	for range 200 {
		f := separate(randomFeeder(r))
		was := separate(f)
		open := randomOpen(r, f)
		wasOpen := slices.Clone(open)
		node := r.Intn(len(f.Nodes))
		Check(f)
		Path(f, node)
		Currents(f, node)
		Neutral(f, node)
		Drop(f, node, 0)
		Fault(f, node, true)
		Melt(f, 0, 100)
		Own(f, node)
		First(f, node, 100)
		Judge(f)
		Dark(f, open)
		if !reflect.DeepEqual(f, was) || !slices.Equal(open, wasOpen) {
			t.Fatalf("%v became %v, and %v %v", was, f, wasOpen, open)
		}
	}
}

// P6.12: results are new memory.
func TestResultsAreNew(t *testing.T) {
	f := example()
	f.Limit = 7
	open := []api.FeOpen{{Node: 2}, {Node: 3}}
	path, _ := Path(f, 3)
	faults, _ := Judge(f)
	dark, _ := Dark(f, open)
	path[0], faults[0].Node, dark[0].Node = 7, 7, 7
	if again, _ := Path(f, 3); !slices.Equal(again, []int{1, 2, 3}) {
		t.Errorf("Path = %v", again)
	}
	if again, _ := Judge(f); again[0].Node != 1 {
		t.Errorf("Judge = %v", again)
	}
	if again, _ := Dark(f, open); again[0].Node != 2 || open[0].Node != 2 {
		t.Errorf("Dark = %v, %v are open", again, open)
	}
}

// P6.12: any numbers are accepted.
func TestAnyArguments(t *testing.T) {
	r := rand.New(rand.NewSource(6121))
	any := func() int {
		n := []int{-1, 0, 1, 2, 3, 39, 40, 1000, 5000, 1000000, 100000000, 1000000000, math.MaxInt, math.MinInt, math.MaxInt - 1}
		return n[r.Intn(len(n))]
	}
	accepted := 0
	for range 20000 {
		f := example()
		for range r.Intn(3) {
			spoil(r, &f, any)
		}
		_, _, e := Check(f)
		if e == api.OK {
			accepted++
		}
		open := []api.FeOpen{{Node: any(), Phase: any()}, {}}[:r.Intn(3)]
		faults, e1 := Judge(f)
		dark, e2 := Dark(f, open)
		if e1 != e || e2 != e && e != api.OK || e != api.OK && len(faults)+len(dark) != 0 {
			t.Fatalf("%v: %d, %d, %d", f, e, e1, e2)
		}
		node := any()
		Path(f, node)
		Currents(f, node)
		Neutral(f, node)
		Drop(f, node, any())
		Fault(f, node, r.Intn(2) == 0)
		Melt(f, any(), any())
		Own(f, node)
		First(f, node, any())
	}
	if accepted < 5000 {
		t.Errorf("%d feeders without an error", accepted)
	}
}

// spoil sets some numbers of a feeder to any numbers.
func spoil(r *rand.Rand, f *api.FeFeeder, any func() int) {
	n := &f.Nodes[r.Intn(len(f.Nodes))]
	p := &f.Fuses[r.Intn(2)].Points[r.Intn(2)]
	numbers := []*int{
		&n.Parent, &n.Cable, &n.Length, &n.Fuse, &n.Loads[0].Lo, &n.Loads[1].Hi, &n.Loads[2].Hi, &p.Current, &p.Melt.Lo, &p.Melt.Hi, &f.Fuses[0].Rated,
		&f.Cables[0].Core.Lo, &f.Cables[0].Core.Hi, &f.Cables[0].Earth.Hi, &f.Cables[0].Rated, &f.Volts.Lo, &f.Volts.Hi, &f.Source.Lo, &f.Source.Hi, &f.Drop, &f.Limit,
	}
	*numbers[r.Intn(len(numbers))] = any()
}
