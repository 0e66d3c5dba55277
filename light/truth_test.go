package light

import (
	"math"
	"math/rand"
	"testing"

	"linkboy/api"
	"linkboy/road"
)

// What follows computes the light that there is at real points, in floats, which are exact to tiny.
const tiny = 1e-9

// span is from a number to another one.
type span struct{ lo, hi float64 }

func (s span) plus(t span) span { return span{s.lo + t.lo, s.hi + t.hi} }

func (s span) times(f float64) span { return span{s.lo * f, s.hi * f} }

// isIn reports whether a span is in an enclosure, up to what floats may have lost.
func (s span) isIn(x api.Encl) bool {
	return float64(x.Lo) <= s.lo*(1+tiny)+tiny && s.hi <= float64(x.Hi)*(1+tiny)+tiny
}

// trueIntensity returns what a table has in a direction, or reports that it is too near to the edge of the table to say this.
func trueIntensity(t api.LmTable, u, v float64) (intensity span, isClear bool) {
	i, across, isIn, isClear := trueField(t.Us, u)
	k, along, isAlso, isClearToo := trueField(t.Vs, v)
	if !isIn || !isAlso {
		return span{0, float64(t.Side)}, isClear && isClearToo
	}
	row := func(i int) float64 { return float64(t.Values[i][k])*(1-along) + float64(t.Values[i][k+1])*along }
	value := row(i)*(1-across) + row(i+1)*across
	return span{value, value}, isClear && isClearToo
}

// trueField returns the field of a list of tangents in which a tangent is, and its share of the field.
func trueField(tangents []int, x float64) (at int, share float64, isIn, isClear bool) {
	first, last := float64(tangents[0]), float64(tangents[len(tangents)-1])
	isClear = math.Abs(x-first) > 1e-6 && math.Abs(x-last) > 1e-6
	if x < first || x > last {
		return 0, 0, false, isClear
	}
	for at = range len(tangents) - 1 {
		if x <= float64(tangents[at+1]) {
			break
		}
	}
	return at, (x - float64(tangents[at])) / float64(tangents[at+1]-tangents[at]), true, isClear
}

// trueFlux returns the lumens that a lamp in use has.
func trueFlux(l api.LmLamp, u api.LmUse) span {
	rest := func(ageing, dirt int) float64 {
		return float64(l.Lumens) * max(0, 1-float64(ageing*u.Hours)/1e6) * max(0, 1-float64(dirt*u.Months)/1e3) * float64(u.Level) / 1e3
	}
	return span{rest(l.Ageing.Hi, l.Dirt.Hi), rest(l.Ageing.Lo, l.Dirt.Lo)}
}

// tangentsTo returns the tangents in per mille of an offset, seen in a direction, at a depth.
func tangentsTo(x, y float64, dx, dy int, depth float64) (u, v float64) {
	length := math.Hypot(float64(dx), float64(dy)) / 1000
	return (x*float64(dy) - y*float64(dx)) / length / depth, (x*float64(dx) + y*float64(dy)) / length / depth
}

// trueTowards returns the intensity of the lamp of a column towards an offset from it, at a depth.
func trueTowards(s api.LtScene, column int, x, y, depth float64) (intensity span, isClear bool) {
	c, l := s.Road.Columns[column], s.Catalog.Lamps[s.Lamps[column]]
	u, v := tangentsTo(x, y, c.DX, c.DY, depth)
	table, isClear := trueIntensity(s.Catalog.Tables[l.Table], u, v)
	flux := trueFlux(l, s.Uses[column])
	return span{table.lo * flux.lo / 1000, table.hi * flux.hi / 1000}, isClear
}

// isTrulyShaded reports whether a tree is between a lamp and a point, which may be too near to its edge to say this.
func isTrulyShaded(s api.LtScene, column int, x, y float64) (isShaded, isClear bool) {
	c := s.Road.Columns[column]
	isClear = true
	for _, tree := range s.Road.Trees {
		if tree.Low > c.Height {
			continue
		}
		at := func(height int) (float64, float64) {
			share := float64(height) / float64(c.Height)
			return x + (float64(c.X)-x)*share - float64(tree.X), y + (float64(c.Y)-y)*share - float64(tree.Y)
		}
		ax, ay := at(tree.Low)
		bx, by := at(min(tree.High, c.Height))
		wx, wy := bx-ax, by-ay
		nearest := 0.0
		if square := wx*wx + wy*wy; square > 0 {
			nearest = min(max(-(ax*wx+ay*wy)/square, 0), 1)
		}
		distance := math.Hypot(ax+wx*nearest, ay+wy*nearest)
		isShaded = isShaded || distance <= float64(tree.R)
		isClear = isClear && math.Abs(distance-float64(tree.R)) > 1e-6
	}
	return isShaded, isClear
}

// trueLight returns the light and the luminance that there are at a point, or reports that it is too near to an edge.
func trueLight(s api.LtScene, x, y float64, dx, dy int) (lux, bright span, isClear bool) {
	isClear = true
	for column, c := range s.Road.Columns {
		if s.Lamps[column] < 0 {
			continue
		}
		ox, oy, h := x-float64(c.X), y-float64(c.Y), float64(100*c.Height)
		isShaded, isClearOfTrees := isTrulyShaded(s, column, x, y)
		intensity, isClearlySent := trueTowards(s, column, ox, oy, h)
		u, v := tangentsTo(-ox, -oy, dx, dy, h)
		reflectance, isClearlySeen := trueIntensity(s.Catalog.Tables[s.Surface], u, v)
		isClear = isClear && isClearOfTrees && isClearlySent && isClearlySeen
		if isShaded {
			continue
		}
		lux = lux.plus(intensity.times(1e6 * h / math.Pow(ox*ox+oy*oy+h*h, 1.5)))
		seen := span{intensity.lo * reflectance.lo, intensity.hi * reflectance.hi}
		bright = bright.plus(seen.times(1e5 / h / h))
	}
	return lux, bright, isClear
}

// P4.7: all enclosures contain the light that there is at points of the patch.
func TestEnclosuresContainTheLight(t *testing.T) {
	r := rand.New(rand.NewSource(47))
	lit, checked := 0, 0
	for range 4000 {
		s := randomScene(r, sizeOf(r))
		p := randomPatch(r, s)
		dx, dy := randomDirection(r)
		lux, _ := Lux(s, p)
		bright, _ := Bright(s, p, dx, dy)
		for range 10 {
			x := float64(p.X0) + r.Float64()*float64(p.X1-p.X0)
			y := float64(p.Y0) + r.Float64()*float64(p.Y1-p.Y0)
			trueLux, trueBright, isClear := trueLight(s, x, y, dx, dy)
			if !isClear {
				continue
			}
			if !trueLux.isIn(lux) || !trueBright.isIn(bright) {
				t.Fatalf("%v at (%v, %v) of %v: %v and %v are not in %v and %v", s, x, y, p, trueLux, trueBright, lux, bright)
			}
			checked++
			if trueLux.lo > 0 && trueBright.lo > 0 {
				lit++
			}
		}
	}
	if checked < 30000 || lit < 3000 {
		t.Errorf("%d points, %d of them are lit", checked, lit)
	}
}

// trueVeil returns the veil that a lamp makes that counts, or reports that this is not clear.
func trueVeil(s api.LtScene, column int, v api.LtView) (veil span, isClear bool) {
	c := s.Road.Columns[column]
	x, y, z := float64(c.X-v.X), float64(c.Y-v.Y), float64(100*c.Height-1500)
	ahead := (x*float64(v.DX) + y*float64(v.DY)) / math.Hypot(float64(v.DX), float64(v.DY))
	distance := math.Sqrt(x*x + y*y + z*z)
	angle := math.Acos(min(ahead/distance, 1))
	intensity, isClear := trueTowards(s, column, -x, -y, z)
	degrees := angle * 180 / math.Pi
	veil = intensity.times(1e6 / 1e3 * math.Cos(angle) / distance / distance * 10 / degrees / degrees * 1e6)
	return veil, isClear && math.Tan(angle) >= 0.02601
}

// P4.4, T1: a veil contains the one that there is, which is 10 times the light in lux on the eye, by the square of the angle in degrees.
func TestVeilsContainTheVeil(t *testing.T) {
	r := rand.New(rand.NewSource(48))
	checked := 0
	for range 6000 {
		s := randomScene(r, sizeOf(r))
		v := randomView(r, s)
		got, _ := Veil(s, v)
		var want span
		isClear := true
		for column := range s.Road.Columns {
			if !counts(s, column, v) {
				continue
			}
			one, isClearToo := trueVeil(s, column, v)
			want, isClear = want.plus(one), isClear && isClearToo
		}
		if !isClear {
			continue
		}
		if !want.isIn(got) {
			t.Fatalf("%v, %v: %v is not in %v", s, v, want, got)
		}
		if want.lo > 0 {
			checked++
		}
	}
	if checked < 200 {
		t.Errorf("%d veils", checked)
	}
}

// trueOnWindow returns the most light that the lamp of a column makes at a point of a window, or reports that this is not clear.
func trueOnWindow(s api.LtScene, column int, x, y, height float64) (light float64, isClear bool) {
	c, l := s.Road.Columns[column], s.Catalog.Lamps[s.Lamps[column]]
	ox, oy, depth := x-float64(c.X), y-float64(c.Y), float64(100*c.Height)-height
	square := ox*ox + oy*oy + depth*depth
	most := float64(s.Catalog.Tables[l.Table].Sky) * trueFlux(l, s.Uses[column]).hi / 1000
	isClear = true
	if depth > 0 {
		var intensity span
		intensity, isClear = trueTowards(s, column, ox, oy, depth)
		most = intensity.hi
	}
	return most * 1e6 / square, isClear && square >= 1 && math.Abs(depth) > 1e-3
}

// P4.13
func TestWindowsGetNoMoreLight(t *testing.T) {
	r := rand.New(rand.NewSource(413))
	below, above, tight := 0, 0, 0
	for range 8000 {
		s := randomScene(r, sizeOf(r))
		front := r.Intn(len(s.Road.Fronts))
		window := r.Intn(len(s.Road.Fronts[front].Windows))
		f := s.Road.Fronts[front]
		w := f.Windows[window]
		got, _ := Window(s, front, window)
		for range 10 {
			share := (float64(w.From) + r.Float64()*float64(w.To-w.From)) / 1000
			height := 100 * (float64(w.Low) + r.Float64()*float64(w.High-w.Low))
			x := float64(f.A[0]) + share*float64(f.B[0]-f.A[0])
			y := float64(f.A[1]) + share*float64(f.B[1]-f.A[1])
			light, isClear := 0.0, true
			for column, c := range s.Road.Columns {
				if faces, _ := road.Faces(s.Road, column, front); s.Lamps[column] < 0 || !faces {
					continue
				}
				one, isClearToo := trueOnWindow(s, column, x, y, height)
				light, isClear = light+one, isClear && isClearToo
				if one > 0 && height < float64(100*c.Height) {
					below++
				} else if one > 0 {
					above++
				}
			}
			if isClear && light > float64(got)*(1+tiny)+tiny {
				t.Fatalf("%v, window %d of front %d: %v at (%v, %v, %v), but not above %d", s, window, front, light, x, y, height, got)
			}
			if isClear && got > 100 && light > 0.8*float64(got) {
				tight++
			}
		}
	}
	if below < 5000 || above < 5000 || tight < 300 {
		t.Errorf("%d points below a lamp, %d above one, %d of them nearly as bright as may be", below, above, tight)
	}
}
