package tests

import (
	"slices"
	"testing"

	"loop.example/s01121/impl"
)

// sizes are the edges of both numbers: enough where a scene is great.
func sizes() []shape {
	var all []shape
	for _, depth := range []int{0, 1, impl.MaxDepth} {
		for _, leaf := range []int{1, 2, impl.MaxTris} {
			all = append(all, shape{depth, leaf})
		}
	}
	return all
}

// exactPicture goes by the library's fractions, triangle by triangle.
func exactPicture(s impl.Scene) impl.Picture {
	p := impl.Picture{Lights: len(s.Lights)}
	for _, r := range s.Rays {
		id := -1
		if all := exactHits(s.Tris, r); len(all) > 0 {
			id = all[0]
		}
		p.Ids = append(p.Ids, id)
		for _, light := range s.Lights {
			p.Lit = append(p.Lit, id >= 0 && exactlyLit(s.Tris, r, id, light))
		}
	}
	return p
}

func exactlyLit(tris []impl.Tri, r impl.Ray, id int, light impl.Point) bool {
	for i, tri := range tris {
		if i == id {
			continue
		}
		if dark, _ := exactShadow(tri, r, tris[id], light); dark {
			return false
		}
	}
	return true
}

// checkTrace wants this picture from Trace and its bytes from Look, for each of
// the shapes; it tells the first that has another.
func checkTrace(t *testing.T, what string, s impl.Scene, want impl.Picture, all []shape) {
	t.Helper()
	b, wantBytes := sceneBytes(s), pictureBytes(want)
	for _, form := range all {
		if p, code := impl.Trace(s, form.depth, form.leaf); code != impl.CodeOK || !samePicture(p, want) {
			t.Errorf("%s, %v: Trace of %x is %v, code %d, want %v", what, form, s, p, code, want)
			return
		}
		if out, code, at := impl.Look(b, form.depth, form.leaf); code != impl.CodeOK || at != 0 || !slices.Equal(out, wantBytes) {
			t.Errorf("%s, %v: Look of %v is %v, code %d at %d, want %v", what, form, b, out, code, at, wantBytes)
			return
		}
	}
}

// checkTraceExactly takes the library's fractions for it, and answers the
// picture.
func checkTraceExactly(t *testing.T, what string, s impl.Scene, all []shape) impl.Picture {
	t.Helper()
	want := exactPicture(s)
	checkTrace(t, what, s, want, all)
	return want
}

// checkNoTrace wants CodeBad, with nothing beside it.
func checkNoTrace(t *testing.T, what string, s impl.Scene, form shape) {
	t.Helper()
	if p, code := impl.Trace(s, form.depth, form.leaf); code != impl.CodeBad || !samePicture(p, impl.Picture{}) {
		t.Errorf("%s, %v: %v, code %d, want nothing, code %d", what, form, p, code, impl.CodeBad)
	}
}

// checkNoLook wants this fault, with nothing beside it.
func checkNoLook(t *testing.T, what string, b []byte, form shape, code, at int) {
	t.Helper()
	out, gotCode, gotAt := impl.Look(b, form.depth, form.leaf)
	if gotCode != code || gotAt != at || len(out) != 0 {
		t.Errorf("%s, %v: Look of %v is %v, code %d at %d, want nothing, code %d at %d", what, form, b, out, gotCode, gotAt, code, at)
	}
}

// kinds counts what rays and lights do in pictures, so that a test can ask for
// enough of each.
type kinds struct {
	misses, lit, dark int
}

func (k *kinds) count(p impl.Picture) {
	for i, id := range p.Ids {
		if id < 0 {
			k.misses++
			continue
		}
		for _, lit := range p.Lit[i*p.Lights : (i+1)*p.Lights] {
			if lit {
				k.lit++
			} else {
				k.dark++
			}
		}
	}
}

func (k kinds) check(t *testing.T, least int) {
	t.Helper()
	if k.misses < least || k.lit < least || k.dark < least {
		t.Errorf("too few of a kind: %+v", k)
	}
}

// gridScene has some triangles twice, and lights where rays begin, at corners
// and elsewhere.
func (c *chance) gridScene(tris, rays, lights int, limit uint32, exponent int) impl.Scene {
	s := impl.Scene{Tris: c.scene(tris, limit, exponent)}
	for range rays {
		s.Rays = append(s.Rays, c.gridRay(limit, exponent))
	}
	for range lights {
		light := c.grid(limit, exponent)
		switch c.below(6) {
		case 0:
			if rays > 0 {
				light = s.Rays[c.below(uint32(rays))].O
			}
		case 1:
			if tris > 0 {
				light = s.Tris[c.below(uint32(tris))].B
			}
		}
		s.Lights = append(s.Lights, light)
	}
	return s
}

// sceneWithOtherZeros has the sign of each zero changed.
func sceneWithOtherZeros(s impl.Scene) impl.Scene {
	changed := copyOfScene(s)
	for _, place := range floatsIn(changed) {
		if *place&^signBit == 0 {
			*place ^= signBit
		}
	}
	return changed
}
