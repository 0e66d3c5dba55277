package sun

import (
	"math/rand"
	"slices"
	"testing"

	"linkboy/api"
)

// rows returns rows from numbers of vehicles and levels, one after the other.
func rows(numbers ...int) (l []api.SnRow) {
	for pair := range slices.Chunk(numbers, 2) {
		l = append(l, api.SnRow{From: pair[0], Level: pair[1]})
	}
	return l
}

func dimming() api.SnDim {
	return api.SnDim{Rows: rows(0, 300, 100, 600, 500, 1000), Up: 200, Down: 100}
}

// P7.7
func TestLevel(t *testing.T) {
	for vehicles, want := range map[int]int{0: 300, 99: 300, 100: 600, 101: 600, 499: 600, 500: 1000, 100000: 1000} {
		if level, e := Level(dimming(), vehicles); level != want || e != api.OK {
			t.Errorf("Level(%d) = %d, %d, want %d", vehicles, level, e, want)
		}
	}
}

// P7.7: the example, and others.
func TestDim(t *testing.T) {
	for i, c := range []struct {
		up, down       int
		vehicles, want []int
	}{
		{200, 100, []int{50, 50, 600, 50, 50}, []int{600, 800, 1000, 900, 800}},
		{200, 100, nil, nil},
		{200, 100, []int{}, nil},
		{200, 100, []int{100}, []int{600}},
		{1000, 1000, []int{50, 600, 50, 100, 600, 0}, []int{300, 1000, 300, 600, 1000, 300}},
		{1, 1, []int{0, 0, 100, 0, 500, 0, 0}, []int{996, 997, 998, 999, 1000, 999, 998}},
		{150, 400, []int{0, 0, 0, 500, 0, 0, 100, 0}, []int{550, 700, 850, 1000, 600, 450, 600, 300}},
	} {
		d := dimming()
		d.Up, d.Down = c.up, c.down
		if got, e := Dim(d, c.vehicles); !slices.Equal(got, c.want) || e != api.OK {
			t.Errorf("case %d: Dim = %v, %d, want %v", i, got, e, c.want)
		}
	}
}

func randomDim(r *rand.Rand, ascends bool) api.SnDim {
	d := api.SnDim{Up: 1 + r.Intn(400), Down: 1 + r.Intn(400)}
	from, level := 0, 0
	for range 1 + r.Intn(10) {
		if !ascends {
			level = 0
		}
		level += r.Intn(1001 - level)
		d.Rows = append(d.Rows, api.SnRow{From: from, Level: level})
		from += 1 + r.Intn(30)
	}
	return d
}

func randomTraffic(r *rand.Rand) (l []int) {
	for range r.Intn(12) {
		l = append(l, r.Intn(150))
	}
	return l
}

// wantLevel looks for the row for so many vehicles.
func wantLevel(d api.SnDim, vehicles int) (level int) {
	for _, r := range d.Rows {
		if vehicles >= r.From {
			level = r.Level
		}
	}
	return level
}

// follows reports whether levels follow traffic.
func follows(d api.SnDim, vehicles, levels []int) bool {
	for i, level := range levels {
		if level < wantLevel(d, vehicles[i]) || level > 1000 || i > 0 && (level > levels[i-1]+d.Up || level < levels[i-1]-d.Down) {
			return false
		}
	}
	return len(levels) == len(vehicles)
}

// wantLevels returns for each quarter the least level of which all other levels can be reached.
func wantLevels(d api.SnDim, vehicles []int) []int {
	least := make([]int, len(vehicles))
	for i := range least {
		for k, n := range vehicles {
			lost := d.Down * (i - k)
			if k > i {
				lost = d.Up * (k - i)
			}
			least[i] = max(least[i], wantLevel(d, n)-lost)
		}
	}
	return least
}

// P7.7, P7.13: for random tables.
func TestRandomLevels(t *testing.T) {
	r := rand.New(rand.NewSource(707))
	for range 5000 {
		d, vehicles := randomDim(r, false), randomTraffic(r)
		got, e := Dim(d, vehicles)
		if !slices.Equal(got, wantLevels(d, vehicles)) || !follows(d, vehicles, got) || e != api.OK {
			t.Fatalf("Dim(%v, %v) = %v, %d, want %v", d, vehicles, got, e, wantLevels(d, vehicles))
		}
		n := r.Intn(150)
		if level, e := Level(d, n); level != wantLevel(d, n) || e != api.OK {
			t.Fatalf("Level(%v, %d) = %d, %d", d, n, level, e)
		}
	}
}

// P7.13: no levels that follow the traffic are below anywhere.
func TestLevelsAreLeast(t *testing.T) {
	r := rand.New(rand.NewSource(713))
	others := 0
	for range 3000 {
		d, vehicles := randomDim(r, false), randomTraffic(r)
		least, _ := Dim(d, vehicles)
		for range 20 {
			levels := slices.Clone(least)
			for range 1 + r.Intn(4) {
				if len(levels) > 0 {
					levels[r.Intn(len(levels))] += r.Intn(300) - 200
				}
			}
			if !follows(d, vehicles, levels) {
				continue
			}
			others++
			for i, level := range levels {
				if level < least[i] {
					t.Fatalf("Dim(%v, %v) = %v, but %v follow the traffic", d, vehicles, least, levels)
				}
			}
		}
	}
	if others < 1000 {
		t.Errorf("%d levels follow the traffic", others)
	}
}

// P7.13: more vehicles, and greater changes.
func TestMoreTraffic(t *testing.T) {
	r := rand.New(rand.NewSource(714))
	for range 5000 {
		d, vehicles := randomDim(r, true), randomTraffic(r)
		more := slices.Clone(vehicles)
		for i := range more {
			more[i] += r.Intn(30) * r.Intn(2)
		}
		quicker := d
		quicker.Up += r.Intn(300)
		quicker.Down += r.Intn(300)
		levels, _ := Dim(d, vehicles)
		higher, _ := Dim(d, more)
		lower, _ := Dim(quicker, vehicles)
		for i := range levels {
			if higher[i] < levels[i] || lower[i] > levels[i] {
				t.Fatalf("%v: %v for %v, %v for %v, %v with %d and %d", d, levels, vehicles, higher, more, lower, quicker.Up, quicker.Down)
			}
		}
	}
}

// P7.7
func TestLevelsThatAreRefused(t *testing.T) {
	refuses := func(d api.SnDim, vehicles []int, want api.Errno) {
		t.Helper()
		if got, e := Dim(d, vehicles); len(got) != 0 || e != want {
			t.Errorf("Dim(%v, %v) = %v, %d, want %d", d, vehicles, got, e, want)
		}
	}
	change := func(spoil func(d *api.SnDim)) {
		t.Helper()
		d := dimming()
		spoil(&d)
		refuses(d, nil, api.ErrRange)
		refuses(d, make([]int, 101), api.ErrRange)
		if level, e := Level(d, 0); level != 0 || e != api.ErrRange {
			t.Errorf("Level(%v) = %d, %d", d, level, e)
		}
	}
	for _, l := range [][]api.SnRow{nil, {}, rows(1, 300), rows(-1, 300), rows(0, 300, 0, 400), rows(0, 300, 9, 400, 8, 500), rows(0, 300, 100001, 400), rows(0, 1001), rows(0, -1), rows(0, 300, 1, 1001)} {
		change(func(d *api.SnDim) { d.Rows = l })
	}
	change(func(d *api.SnDim) {
		for i := range 8 {
			d.Rows = append(d.Rows, api.SnRow{From: 1000 + i})
		}
	})
	for _, n := range append([]int{0, -1, 1001}, extremes...) {
		change(func(d *api.SnDim) { d.Up = n })
		change(func(d *api.SnDim) { d.Down = n })
	}
	for _, n := range append([]int{-1, 100001}, extremes...) {
		change(func(d *api.SnDim) { d.Rows[0].From = n })
		change(func(d *api.SnDim) { d.Rows[2].From = n })
		change(func(d *api.SnDim) { d.Rows[2].Level = n })
		refuses(dimming(), []int{0, n, 5}, api.ErrRange)
		refuses(dimming(), append(make([]int, 100), n), api.ErrLong)
		if level, e := Level(dimming(), n); level != 0 || e != api.ErrRange {
			t.Errorf("Level(%d) = %d, %d", n, level, e)
		}
	}
	refuses(dimming(), make([]int, 101), api.ErrLong)
}

// P7.7: what is allowed.
func TestLevelsThatAreTaken(t *testing.T) {
	d := api.SnDim{Up: 1000, Down: 1}
	for i := range 10 {
		d.Rows = append(d.Rows, api.SnRow{From: i * 11111, Level: 1000 * (i % 2)})
	}
	d.Rows[9].From = 100000
	traffic := make([]int, 100)
	traffic[50] = 100000
	levels, e := Dim(d, traffic)
	if len(levels) != 100 || levels[49] != 0 || levels[50] != 1000 || levels[99] != 951 || e != api.OK {
		t.Errorf("Dim = %v, %d", levels, e)
	}
	if level, e := Level(api.SnDim{Rows: rows(0, 7), Up: 1, Down: 1000}, 100000); level != 7 || e != api.OK {
		t.Errorf("Level = %d, %d", level, e)
	}
}
