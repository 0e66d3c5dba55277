package light

import (
	"iter"

	"linkboy/api"
	"linkboy/lamp"
	"linkboy/plane"
	"linkboy/road"
	"linkboy/whole"
)

const (
	tableLumens = 1000 // for which a table is written
	dm          = 100  // in mm
)

// luminaire is a lamp in use on a column. Its catalogue has no other lamp, and its scene no other column, so that the layers below have little to check: the scene that they come from has no errors, nor have they.
type luminaire struct {
	catalog api.LmCatalog
	use     api.LmUse
	scene   api.RdScene
}

// luminaires yields those of the columns that have a lamp.
func luminaires(s api.LtScene) iter.Seq[luminaire] {
	return func(yield func(luminaire) bool) {
		for at, index := range s.Lamps {
			if index >= 0 && !yield(luminaireAt(s, at)) {
				return
			}
		}
	}
}

func luminaireAt(s api.LtScene, at int) luminaire {
	l := s.Catalog.Lamps[s.Lamps[at]]
	tables := s.Catalog.Tables[l.Table : l.Table+1]
	l.Table = 0
	return luminaire{
		catalog: api.LmCatalog{Tables: tables, Lamps: []api.LmLamp{l}},
		use:     s.Uses[at],
		scene:   api.RdScene{Trees: s.Road.Trees, Fronts: s.Road.Fronts, Columns: s.Road.Columns[at : at+1]},
	}
}

// sum adds up, end by end, what one adds for each column with a lamp.
func sum(s api.LtScene, one func(l luminaire) api.Encl) (all api.Encl) {
	for l := range luminaires(s) {
		all = whole.Add(all, one(l))
	}
	return all
}

func (l luminaire) column() *api.RdColumn { return &l.scene.Columns[0] }

func (l luminaire) table() *api.LmTable { return &l.catalog.Tables[0] }

// towards encloses the intensity towards a patch that is so deep below the lamp.
func (l luminaire) towards(p api.RdPatch, depth int) api.Encl {
	x, _ := lamp.Towards(l.catalog, 0, l.use, frameFrom(l.column(), p), depth)
	return x
}

// atMost returns the greatest intensity where the table has this one.
func (l luminaire) atMost(intensity int) int {
	flux, _ := lamp.Flux(l.catalog, 0, l.use)
	return up.quotient(intensity*flux.Hi, tableLumens)
}

func (l luminaire) toSky() api.Encl { return whole.Only(l.atMost(l.table().Sky)) }

func (l luminaire) power() api.Encl {
	x, _ := lamp.Power(l.catalog, 0, l.use.Level)
	return x
}

// lux encloses the light on a patch.
func (l luminaire) lux(p api.RdPatch) api.Encl {
	return l.behindTrees(p, func(intensity api.Encl, depth int) api.Encl {
		square := squares(l.column(), p)
		return api.Encl{
			Lo: luxAt(intensity.Lo, depth, square.Hi+depth*depth, down.quotient, up.root),
			Hi: luxAt(intensity.Hi, depth, square.Lo+depth*depth, up.quotient, down.root),
		}
	})
}

// luxAt returns the light on the ground that an intensity makes at a depth, at a distance with this square.
func luxAt(intensity, depth, square int, quotient func(a, b int) int, root func(a int) int) int {
	return quotient(1000*quotient(1000*intensity*depth, square), root(square))
}

// bright encloses the luminance of a patch with a surface, seen in a direction.
func (l luminaire) bright(surface api.LmCatalog, p api.RdPatch, direction plane.Vector) api.Encl {
	return l.behindTrees(p, func(intensity api.Encl, depth int) api.Encl {
		// The way from a point to the lamp, seen in a direction, is the way from the lamp to the point, seen against it.
		against := plane.Vector{}.Minus(direction)
		reflectance, _ := lamp.Over(surface, 0, frame(offsets(l.column(), p), against), depth)
		return api.Encl{
			Lo: 100 * down.quotient(1000*intensity.Lo*reflectance.Lo, depth*depth),
			Hi: 100 * up.quotient(1000*intensity.Hi*reflectance.Hi, depth*depth),
		}
	})
}

// behindTrees encloses what trees leave on a patch of something that the intensity of the lamp makes there, at a depth below it.
func (l luminaire) behindTrees(p api.RdPatch, made func(intensity api.Encl, depth int) api.Encl) api.Encl {
	shade, _ := road.Shade(l.scene, 0, p)
	if shade == api.RdDark {
		return api.Encl{}
	}
	depth := dm * l.column().Height
	x := made(l.towards(p, depth), depth)
	if shade == api.RdPart {
		x.Lo = 0
	}
	return x
}
