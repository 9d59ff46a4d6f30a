package tests

import (
	"encoding/binary"
	"slices"
	"testing"

	"loop.example/s01121/impl"
)

// The bytes of a scene: where its parts begin, and how long they are.
const (
	atTris   = 4
	atRays   = 6
	atLights = 8
	atFloats = 9

	triSize   = 36
	raySize   = 24
	pointSize = 12
)

// sceneBytes is written by the library. The scene need not be valid.
func sceneBytes(s impl.Scene) []byte {
	b := []byte{83, 67, 69, 78}
	b = binary.LittleEndian.AppendUint16(b, uint16(len(s.Tris)))
	b = binary.LittleEndian.AppendUint16(b, uint16(len(s.Rays)))
	b = append(b, byte(len(s.Lights)))
	for _, part := range []any{s.Tris, s.Rays, s.Lights} {
		b, _ = binary.Append(b, binary.LittleEndian, part)
	}
	return b
}

// sceneFault is the document's list of faults, by places that are reckoned from
// the numbers of triangles, rays and lights.
func sceneFault(b []byte) (code, at int) {
	for i, want := range []byte{83, 67, 69, 78} {
		if i >= len(b) {
			return impl.CodeShort, len(b)
		}
		if b[i] != want {
			return impl.CodeMagic, i
		}
	}
	if len(b) < atTris+2 {
		return impl.CodeShort, len(b)
	}
	tris := int(b[atTris]) + 256*int(b[atTris+1])
	if tris > 40 {
		return impl.CodeLimit, atTris
	}
	if len(b) < atRays+2 {
		return impl.CodeShort, len(b)
	}
	rays := int(b[atRays]) + 256*int(b[atRays+1])
	if rays > 40 {
		return impl.CodeLimit, atRays
	}
	if len(b) < atLights+1 {
		return impl.CodeShort, len(b)
	}
	if b[atLights] > 4 {
		return impl.CodeLimit, atLights
	}
	firstRay := atFloats + triSize*tris
	firstLight := firstRay + raySize*rays
	return floatsFault(b, firstRay, firstLight, firstLight+pointSize*int(b[atLights]))
}

func floatsFault(b []byte, firstRay, firstLight, end int) (code, at int) {
	for at := atFloats; at < end; at += 4 {
		if len(b) < at+4 {
			return impl.CodeShort, len(b)
		}
		if !finite(binary.LittleEndian.Uint32(b[at:])) {
			return impl.CodeNumber, at
		}
		if at > firstRay && at < firstLight && (at+4-firstRay)%raySize == 0 && allZeros(b[at-8:at+4]) {
			return impl.CodeZero, at - 8
		}
	}
	if len(b) > end {
		return impl.CodeTrailing, end
	}
	return impl.CodeOK, 0
}

// allZeros takes zeros of both signs.
func allZeros(floats []byte) bool {
	for i, b := range floats {
		if b != 0 && (i%4 != 3 || b != 128) {
			return false
		}
	}
	return true
}

func sameScene(a, b impl.Scene) bool {
	return slices.Equal(a.Tris, b.Tris) && slices.Equal(a.Rays, b.Rays) && slices.Equal(a.Lights, b.Lights)
}

func copyOfScene(s impl.Scene) impl.Scene {
	return impl.Scene{Tris: slices.Clone(s.Tris), Rays: slices.Clone(s.Rays), Lights: slices.Clone(s.Lights)}
}

// checkScene wants the scene there and back, bit for bit, and is for valid ones.
func checkScene(t *testing.T, what string, s impl.Scene) {
	t.Helper()
	if !impl.ValidScene(s) {
		t.Errorf("%s: ValidScene of %x is false", what, s)
	}
	b := impl.EncodeScene(s)
	if want := sceneBytes(s); !slices.Equal(b, want) {
		t.Errorf("%s: EncodeScene of %x is %v, want %v", what, s, b, want)
	}
	if got, code, at := impl.DecodeScene(b); code != impl.CodeOK || at != 0 || !sameScene(got, s) {
		t.Errorf("%s: %v is %x, code %d at %d, want %x", what, b, got, code, at, s)
	}
}

// checkNoScene is for scenes that are not valid.
func checkNoScene(t *testing.T, what string, s impl.Scene) {
	t.Helper()
	if impl.ValidScene(s) {
		t.Errorf("%s: ValidScene of %x is true", what, s)
	}
	if b := impl.EncodeScene(s); len(b) != 0 {
		t.Errorf("%s: EncodeScene of %x is %v, want none", what, s, b)
	}
}

// checkFault wants this fault, with nothing beside it.
func checkFault(t *testing.T, what string, b []byte, code, at int) {
	t.Helper()
	s, gotCode, gotAt := impl.DecodeScene(b)
	if gotCode != code || gotAt != at || len(s.Tris)+len(s.Rays)+len(s.Lights) != 0 {
		t.Errorf("%s: %v is %x, code %d at %d, want nothing, code %d at %d", what, b, s, gotCode, gotAt, code, at)
	}
}

// checkBytes wants the fault of sceneFault, or a scene with these bytes.
func checkBytes(t *testing.T, what string, b []byte) (code int) {
	t.Helper()
	code, at := sceneFault(b)
	if code != impl.CodeOK {
		checkFault(t, what, b, code, at)
		return code
	}
	s, gotCode, gotAt := impl.DecodeScene(b)
	if gotCode != impl.CodeOK || gotAt != 0 || !slices.Equal(sceneBytes(s), b) {
		t.Errorf("%s: %v is %x, code %d at %d, want its scene", what, b, s, gotCode, gotAt)
	}
	if !impl.ValidScene(s) || !slices.Equal(impl.EncodeScene(s), b) {
		t.Errorf("%s: %v is %x, with the bytes %v", what, b, s, impl.EncodeScene(s))
	}
	return code
}

// finiteBits has any finite float.
func (c *chance) finiteBits() uint32 {
	for {
		if bits := c.below(1<<16)<<16 | c.below(1<<16); finite(bits) {
			return bits
		}
	}
}

func (c *chance) anyPoint() impl.Point {
	return impl.Point{X: c.finiteBits(), Y: c.finiteBits(), Z: c.finiteBits()}
}

// validScene has these numbers of triangles, rays and lights.
func (c *chance) validScene(tris, rays, lights int) impl.Scene {
	var s impl.Scene
	for range tris {
		s.Tris = append(s.Tris, impl.Tri{A: c.anyPoint(), B: c.anyPoint(), C: c.anyPoint()})
	}
	for range rays {
		// The least float keeps it proper, whatever the others are.
		s.Rays = append(s.Rays, impl.Ray{O: c.anyPoint(), D: with(c.anyPoint(), int(c.below(3)), 1)})
	}
	for range lights {
		s.Lights = append(s.Lights, c.anyPoint())
	}
	return s
}

// someScenes are valid: without one or two of the lists, with all of them short,
// and with all of them as long as they may be.
func someScenes() []impl.Scene {
	var c chance
	var all []impl.Scene
	for _, n := range [][3]int{{0, 0, 0}, {1, 0, 0}, {0, 1, 0}, {0, 0, 1}, {2, 0, 1}, {0, 3, 2}, {2, 2, 0}, {1, 2, 3}, {3, 1, 2}, {40, 40, 4}} {
		all = append(all, c.validScene(n[0], n[1], n[2]))
	}
	return all
}

// floatsIn answers where the floats of a scene lie, in the order of its bytes.
func floatsIn(s impl.Scene) []*uint32 {
	var all []*uint32
	add := func(points ...*impl.Point) {
		for _, p := range points {
			xyz := coordinates(p)
			all = append(all, xyz[:]...)
		}
	}
	for i := range s.Tris {
		add(&s.Tris[i].A, &s.Tris[i].B, &s.Tris[i].C)
	}
	for i := range s.Rays {
		add(&s.Rays[i].O, &s.Rays[i].D)
	}
	for i := range s.Lights {
		add(&s.Lights[i])
	}
	return all
}

// withByte is b with another byte in one place.
func withByte(b []byte, at int, value byte) []byte {
	changed := slices.Clone(b)
	changed[at] = value
	return changed
}

// withFloat is b with other bits in one place.
func withFloat(b []byte, at int, bits uint32) []byte {
	changed := slices.Clone(b)
	binary.LittleEndian.PutUint32(changed[at:], bits)
	return changed
}
