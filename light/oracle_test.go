package light

import (
	"math/big"

	"linkboy/api"
	"linkboy/lamp"
	"linkboy/road"
)

// What follows computes as the document says, in fractions, and asks lamp and road with the whole scene.

func number(n int) *big.Rat { return new(big.Rat).SetInt64(int64(n)) }

func product(factors ...*big.Rat) *big.Rat {
	all := number(1)
	for _, f := range factors {
		all.Mul(all, f)
	}
	return all
}

func total(all ...*big.Rat) *big.Rat {
	sum := number(0)
	for _, x := range all {
		sum.Add(sum, x)
	}
	return sum
}

func by(a, b *big.Rat) *big.Rat { return new(big.Rat).Quo(a, b) }

func floor(a *big.Rat) *big.Rat {
	q := new(big.Int).Div(a.Num(), a.Denom()) // rounds down, as the denominator is above 0
	return new(big.Rat).SetInt(q)
}

func ceil(a *big.Rat) *big.Rat { return new(big.Rat).Neg(floor(new(big.Rat).Neg(a))) }

// floorRoot returns the square root of an integer, rounded down.
func floorRoot(a *big.Rat) *big.Rat { return new(big.Rat).SetInt(new(big.Int).Sqrt(a.Num())) }

func ceilRoot(a *big.Rat) *big.Rat {
	root := floorRoot(a)
	if product(root, root).Cmp(a) < 0 {
		root.Add(root, number(1))
	}
	return root
}

// integer returns an integer as an int, if it is one.
func integer(a *big.Rat) int {
	if !a.IsInt() || !a.Num().IsInt64() {
		panic("no integer: " + a.String())
	}
	return int(a.Num().Int64())
}

// wantFrame returns the rectangle around offsets, seen in the direction (dx, dy).
func wantFrame(offsets [][2]int, dx, dy int) api.LmRect {
	var across, along []int
	for _, o := range offsets {
		across = append(across, o[0]*dy-o[1]*dx)
		along = append(along, o[0]*dx+o[1]*dy)
	}
	x0, x1 := wantSpan(across, dx*dx+dy*dy)
	y0, y1 := wantSpan(along, dx*dx+dy*dy)
	return api.LmRect{X0: x0, X1: x1, Y0: y0, Y1: y1}
}

func wantSpan(products []int, square int) (from, to int) {
	least, most := products[0], products[0]
	for _, p := range products {
		least, most = min(least, p), max(most, p)
	}
	thousandfold := product(number(1000000), number(square))
	short, long := floorRoot(thousandfold), ceilRoot(thousandfold)
	lower, upper := long, short
	if least < 0 {
		lower = short
	}
	if most < 0 {
		upper = long
	}
	from = integer(floor(by(number(1000*least), lower)))
	to = integer(ceil(by(number(1000*most), upper)))
	return within(from, 200000), within(to, 200000)
}

func within(n, most int) int {
	if n > most {
		return most
	}
	if n < -most {
		return -most
	}
	return n
}

func cornersFrom(x, y int, p api.RdPatch) [][2]int {
	return [][2]int{{p.X0 - x, p.Y0 - y}, {p.X1 - x, p.Y0 - y}, {p.X0 - x, p.Y1 - y}, {p.X1 - x, p.Y1 - y}}
}

func reversed(offsets [][2]int) [][2]int {
	var all [][2]int
	for _, o := range offsets {
		all = append(all, [2]int{-o[0], -o[1]})
	}
	return all
}

// wantTowards returns the intensity of a column's lamp over a patch, at a depth.
func wantTowards(s api.LtScene, column int, p api.RdPatch, depth int) api.Encl {
	c := s.Road.Columns[column]
	x, e := lamp.Towards(s.Catalog, s.Lamps[column], s.Uses[column], wantFrame(cornersFrom(c.X, c.Y, p), c.DX, c.DY), depth)
	if e != api.OK {
		panic("Towards refuses what the document asks for")
	}
	return x
}

// leastSquare returns the square of the distance of a place to the nearest point of a patch.
func leastSquare(x, y int, p api.RdPatch) int {
	dx, dy := x-min(max(x, p.X0), p.X1), y-min(max(y, p.Y0), p.Y1)
	return dx*dx + dy*dy
}

// greatestSquare returns that to the point that is farthest, which is a corner.
func greatestSquare(x, y int, p api.RdPatch) int {
	most := 0
	for _, o := range cornersFrom(x, y, p) {
		most = max(most, o[0]*o[0]+o[1]*o[1])
	}
	return most
}

// wantShaded returns what trees leave of light on a patch.
func wantShaded(s api.LtScene, column int, p api.RdPatch, light func(depth int) (lo, hi *big.Rat)) api.Encl {
	shade, _ := road.Shade(s.Road, column, p)
	if s.Lamps[column] < 0 || shade == api.RdDark {
		return api.Encl{}
	}
	lo, hi := light(100 * s.Road.Columns[column].Height)
	if shade == api.RdPart {
		lo = number(0)
	}
	return api.Encl{Lo: integer(lo), Hi: integer(hi)}
}

func wantLuxOf(s api.LtScene, column int, p api.RdPatch) api.Encl {
	return wantShaded(s, column, p, func(depth int) (lo, hi *big.Rat) {
		c := s.Road.Columns[column]
		x := wantTowards(s, column, p, depth)
		h := number(depth)
		q := total(number(leastSquare(c.X, c.Y, p)), product(h, h))
		most := total(number(greatestSquare(c.X, c.Y, p)), product(h, h))
		a := floor(by(product(number(1000), number(x.Lo), h), most))
		b := ceil(by(product(number(1000), number(x.Hi), h), q))
		return floor(by(product(number(1000), a), ceilRoot(most))), ceil(by(product(number(1000), b), floorRoot(q)))
	})
}

func wantBrightOf(s api.LtScene, column int, p api.RdPatch, dx, dy int) api.Encl {
	return wantShaded(s, column, p, func(depth int) (lo, hi *big.Rat) {
		c := s.Road.Columns[column]
		x := wantTowards(s, column, p, depth)
		back := reversed(cornersFrom(c.X, c.Y, p))
		r, e := lamp.Over(s.Catalog, s.Surface, wantFrame(back, dx, dy), depth)
		if e != api.OK {
			panic("Over refuses what the document asks for")
		}
		square := product(number(depth), number(depth))
		a := floor(by(product(number(1000), number(x.Lo), number(r.Lo)), square))
		b := ceil(by(product(number(1000), number(x.Hi), number(r.Hi)), square))
		return product(number(100), a), product(number(100), b)
	})
}

// counts reports whether a column makes a veil at a view.
func counts(s api.LtScene, column int, v api.LtView) bool {
	c := s.Road.Columns[column]
	x, y, z := c.X-v.X, c.Y-v.Y, 100*c.Height-1500
	ahead, aside := x*v.DX+y*v.DY, x*v.DY-y*v.DX
	return s.Lamps[column] >= 0 && z > 0 && ahead > 0 && aside*aside+z*z*(v.DX*v.DX+v.DY*v.DY) <= ahead*ahead
}

func wantVeilOf(s api.LtScene, column int, v api.LtView) api.Encl {
	if !counts(s, column, v) {
		return api.Encl{}
	}
	c := s.Road.Columns[column]
	x, y, z := c.X-v.X, c.Y-v.Y, 100*c.Height-1500
	ahead, aside := x*v.DX+y*v.DY, x*v.DY-y*v.DX
	n := number(aside*aside + z*z*(v.DX*v.DX+v.DY*v.DY))
	least := floor(by(product(number(1000), floorRoot(n)), number(ahead)))
	most := ceil(by(product(number(1000), ceilRoot(n)), number(ahead)))
	least, most = number(max(integer(least), 26)), number(max(integer(most), 26))
	i := wantTowards(s, column, api.RdPatch{X0: v.X, Y0: v.Y, X1: v.X, Y1: v.Y}, z)
	q := number(x*x + y*y + z*z)
	million := number(1000000)
	light := floor(by(product(floor(by(product(million, number(i.Lo)), q)), number(707)), number(1000)))
	greatest := ceil(by(product(million, number(i.Hi)), q))
	below := floor(by(product(million, light), product(most, most)))
	part := total(million, product(most, most))
	f := ceil(by(product(part, part), million))
	above := ceil(by(product(greatest, f), product(least, least)))
	return api.Encl{
		Lo: integer(floor(by(product(number(10000), below), number(3283)))),
		Hi: integer(ceil(by(product(number(10000), above), number(3282)))),
	}
}

// wantOnWindow returns how much light a column makes on a window at most.
func wantOnWindow(s api.LtScene, column, front, window int) int {
	faces, _ := road.Faces(s.Road, column, front)
	if s.Lamps[column] < 0 || !faces {
		return 0
	}
	c := s.Road.Columns[column]
	box, _ := road.Window(s.Road, front, window)
	p := api.RdPatch{X0: box.X0, Y0: box.Y0, X1: box.X1, Y1: box.Y1}
	a, b := 100*c.Height-100*box.High, 100*c.Height-100*box.Low
	k := leastSquare(c.X, c.Y, p)
	if a > 0 || b < 0 {
		k += min(a*a, b*b)
	}
	million := number(1000000)
	return integer(ceil(by(product(million, number(wantTowardsWindow(s, column, p, a, b))), number(max(k, 1)))))
}

// wantTowardsWindow returns the greatest intensity towards a window over a patch at depths from a to b.
func wantTowardsWindow(s api.LtScene, column int, p api.RdPatch, a, b int) int {
	c, l := s.Road.Columns[column], s.Catalog.Lamps[s.Lamps[column]]
	table := s.Catalog.Tables[l.Table]
	if a <= 0 {
		intensity := table.Sky
		if b > 0 {
			intensity = max(intensity, table.Side)
			for _, row := range table.Values {
				for _, value := range row {
					intensity = max(intensity, value)
				}
			}
		}
		flux, _ := lamp.Flux(s.Catalog, s.Lamps[column], s.Uses[column])
		return integer(ceil(by(number(intensity*flux.Hi), number(1000))))
	}
	r := wantFrame(cornersFrom(c.X, c.Y, p), c.DX, c.DY)
	for _, lower := range []*int{&r.X0, &r.Y0} {
		if *lower > 0 {
			*lower = integer(floor(by(number(*lower*a), number(b))))
		}
	}
	for _, upper := range []*int{&r.X1, &r.Y1} {
		if *upper < 0 {
			*upper = integer(ceil(by(number(*upper*a), number(b))))
		}
	}
	x, e := lamp.Towards(s.Catalog, s.Lamps[column], s.Uses[column], r, a)
	if e != api.OK {
		panic("Towards refuses what the document asks for")
	}
	return x.Hi
}

// overColumns adds up enclosures of all columns.
func overColumns(s api.LtScene, of func(column int) api.Encl) api.Encl {
	var all api.Encl
	for column := range s.Road.Columns {
		x := of(column)
		all = api.Encl{Lo: all.Lo + x.Lo, Hi: all.Hi + x.Hi}
	}
	return all
}

func wantLux(s api.LtScene, p api.RdPatch) api.Encl {
	return overColumns(s, func(column int) api.Encl { return wantLuxOf(s, column, p) })
}

func wantBright(s api.LtScene, p api.RdPatch, dx, dy int) api.Encl {
	return overColumns(s, func(column int) api.Encl { return wantBrightOf(s, column, p, dx, dy) })
}

func wantVeil(s api.LtScene, v api.LtView) api.Encl {
	return overColumns(s, func(column int) api.Encl { return wantVeilOf(s, column, v) })
}

func wantWindow(s api.LtScene, front, window int) int {
	return overColumns(s, func(column int) api.Encl { return api.Encl{Hi: wantOnWindow(s, column, front, window)} }).Hi
}

func wantSky(s api.LtScene) int {
	return overColumns(s, func(column int) api.Encl {
		if s.Lamps[column] < 0 {
			return api.Encl{}
		}
		flux, _ := lamp.Flux(s.Catalog, s.Lamps[column], s.Uses[column])
		sky := s.Catalog.Tables[s.Catalog.Lamps[s.Lamps[column]].Table].Sky
		return api.Encl{Hi: integer(ceil(by(number(sky*flux.Hi), number(1000))))}
	}).Hi
}

func wantPower(s api.LtScene) api.Encl {
	return overColumns(s, func(column int) api.Encl {
		x, _ := lamp.Power(s.Catalog, s.Lamps[column], s.Uses[column].Level)
		return x // none without a lamp
	})
}

// wantJudge returns the light of a road for a class.
func wantJudge(s api.LtScene, index int, c api.LtClass) api.LtResult {
	squares, _ := road.Patches(s.Road, index, c.Step)
	var values []api.Encl
	worst := 0
	for _, p := range squares {
		if p.X0 > 100000 || p.X1 < -100000 || p.Y0 > 100000 || p.Y1 < -100000 {
			continue
		}
		p = api.RdPatch{X0: within(p.X0, 100000), Y0: within(p.Y0, 100000), X1: within(p.X1, 100000), Y1: within(p.Y1, 100000)}
		if c.Kind == api.LtLux {
			values = append(values, wantLux(s, p))
			continue
		}
		values = append(values, wantBright(s, p, c.DX, c.DY))
		x, y := floor(by(number(p.X0+p.X1), number(2))), floor(by(number(p.Y0+p.Y1), number(2)))
		worst = max(worst, wantVeil(s, api.LtView{X: integer(x), Y: integer(y), DX: c.DX, DY: c.DY}).Hi)
	}
	return wantResult(values, worst, c.Kind)
}

// wantResult returns the light of a road whose patches have these values, and in whose middles there is at most this veil.
func wantResult(values []api.Encl, veil, kind int) api.LtResult {
	r := api.LtResult{Least: values[0], Patches: len(values)}
	lo, hi := number(0), number(0)
	for i, x := range values {
		lo, hi = total(lo, number(x.Lo)), total(hi, number(x.Hi))
		if x.Lo < values[r.Worst].Lo {
			r.Worst = i
		}
		r.Least = api.Encl{Lo: min(r.Least.Lo, x.Lo), Hi: min(r.Least.Hi, x.Hi)}
	}
	count := number(len(values))
	r.Average = api.Encl{Lo: integer(floor(by(lo, count))), Hi: integer(ceil(by(hi, count)))}
	if r.Average.Hi != 0 {
		r.Uniform = integer(floor(by(product(number(1000), number(r.Least.Lo)), number(r.Average.Hi))))
	}
	if kind == api.LtBright {
		r.Glare = 1000000
		if r.Average.Lo != 0 {
			r.Glare = min(r.Glare, integer(ceil(by(product(number(1000), number(veil)), number(r.Average.Lo)))))
		}
	}
	return r
}
