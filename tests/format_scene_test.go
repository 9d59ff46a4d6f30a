package tests

import (
	"fmt"
	"math"
	"slices"
	"testing"

	"loop.example/s01121/impl"
)

func TestP13ByHand(t *testing.T) {
	cases := []struct {
		name  string
		scene impl.Scene
		bytes string
	}{
		{"nothing", impl.Scene{}, "SCEN\x00\x00\x00\x00\x00"},
		{"empty lists", impl.Scene{Tris: []impl.Tri{}, Rays: []impl.Ray{}, Lights: []impl.Point{}}, "SCEN\x00\x00\x00\x00\x00"},
		{"a triangle", impl.Scene{Tris: []impl.Tri{{
			A: impl.Point{X: 0x04030201, Y: 0x08070605, Z: 0x0c0b0a09},
			B: impl.Point{X: 0x14131211, Y: 0x18171615, Z: 0x1c1b1a19},
			C: impl.Point{X: 0x24232221, Y: 0x28272625, Z: 0x2c2b2a29},
		}}}, "SCEN\x01\x00\x00\x00\x00" +
			"\x01\x02\x03\x04\x05\x06\x07\x08\x09\x0a\x0b\x0c" +
			"\x11\x12\x13\x14\x15\x16\x17\x18\x19\x1a\x1b\x1c" +
			"\x21\x22\x23\x24\x25\x26\x27\x28\x29\x2a\x2b\x2c"},
		{"a ray", impl.Scene{Rays: []impl.Ray{ray(1, -1, 0, 0, 0, 2)}}, "SCEN\x00\x00\x01\x00\x00" +
			"\x00\x00\x80\x3f\x00\x00\x80\xbf\x00\x00\x00\x00" +
			"\x00\x00\x00\x00\x00\x00\x00\x00\x00\x00\x00\x40"},
		{"two lights", impl.Scene{Lights: []impl.Point{point(1, 2, -1), {X: signBit, Y: 1, Z: greatestFloat}}}, "SCEN\x00\x00\x00\x00\x02" +
			"\x00\x00\x80\x3f\x00\x00\x00\x40\x00\x00\x80\xbf" +
			"\x00\x00\x00\x80\x01\x00\x00\x00\xff\xff\x7f\x7f"},
	}
	for _, c := range cases {
		if b := impl.EncodeScene(c.scene); string(b) != c.bytes {
			t.Errorf("%s: %q, want %q", c.name, b, c.bytes)
		}
		if s, code, at := impl.DecodeScene([]byte(c.bytes)); code != impl.CodeOK || at != 0 || !sameScene(s, c.scene) {
			t.Errorf("%s: %x, code %d at %d, want %x", c.name, s, code, at, c.scene)
		}
		checkScene(t, c.name, c.scene)
	}
}

// TestP13OfEverySize has each number of triangles, rays and lights that is
// within the limits.
func TestP13OfEverySize(t *testing.T) {
	var c chance
	for n := range impl.MaxTris + 1 {
		for lights := range impl.MaxLights + 1 {
			checkScene(t, fmt.Sprint(n, " triangles, ", lights, " lights"), c.validScene(n, 0, lights))
			checkScene(t, fmt.Sprint(n, " rays, ", lights, " lights"), c.validScene(0, n, lights))
			checkScene(t, fmt.Sprint(n, " of both, ", lights, " lights"), c.validScene(impl.MaxTris-n, n, lights))
		}
	}
	checkScene(t, "the greatest", c.validScene(40, 40, 4))
}

// TestP13FloatsOfAllKinds has every kind of float in every place: negative
// zeros, the least and the greatest ones too.
func TestP13FloatsOfAllKinds(t *testing.T) {
	var c chance
	s := c.validScene(1, 2, 2)
	places := floatsIn(s)
	for i, place := range places {
		was := *place
		for _, bits := range chosenFloats() {
			*place = bits
			if isZeroVector(s.Rays[0].D) || isZeroVector(s.Rays[1].D) {
				continue
			}
			checkScene(t, fmt.Sprintf("%x in place %d", bits, i), s)
		}
		*place = was
	}
	for _, bits := range []uint32{signBit, 1, signBit | 1, leastNormal, greatestFloat, signBit | greatestFloat} {
		for _, place := range places {
			*place = bits
		}
		s.Rays[0].D.Y, s.Rays[1].D.Z = 1, signBit|1
		checkScene(t, fmt.Sprintf("%x everywhere", bits), s)
	}
}

// TestP13FlatTrianglesAndEqualPoints: a scene need not make sense to be valid.
func TestP13FlatTrianglesAndEqualPoints(t *testing.T) {
	checkScene(t, "flat ones", impl.Scene{Tris: flats(), Rays: []impl.Ray{ray(0, 0, 0, 0, 0, 1)}, Lights: []impl.Point{{}}})
	checkScene(t, "all alike", impl.Scene{
		Tris:   make([]impl.Tri, 40),
		Rays:   slices.Repeat([]impl.Ray{{D: impl.Point{Z: 1}}}, 40),
		Lights: make([]impl.Point, 4),
	})
}

// TestP13DirectionsOfOneFloat has a single float that keeps a ray proper, with
// zeros of both signs beside it.
func TestP13DirectionsOfOneFloat(t *testing.T) {
	for _, zeros := range signedZeros() {
		for axis := range 3 {
			for _, bits := range []uint32{1, signBit | 1, leastNormal, 0x00000100, 0x00010000, 0x3f800000, signBit | greatestFloat} {
				for at := range 3 {
					var c chance
					s := c.validScene(1, 3, 1)
					s.Rays[at].D = with(zeros, axis, bits)
					checkScene(t, fmt.Sprintf("ray %d", at), s)
				}
			}
		}
	}
}

// signedZeros are the eight points with the value 0.
func signedZeros() []impl.Point {
	var all []impl.Point
	for i := range uint32(8) {
		all = append(all, impl.Point{X: i << 31, Y: i >> 1 << 31, Z: i >> 2 << 31})
	}
	return all
}

func TestScenesWithTooMany(t *testing.T) {
	var c chance
	for _, n := range [][3]int{
		{41, 0, 0}, {0, 41, 0}, {0, 0, 5}, {41, 40, 4}, {40, 41, 4}, {40, 40, 5}, {41, 41, 5}, {256, 1, 1}, {1, 257, 1}, {1, 1, 257},
		{1, 1, 256}, {65536, 0, 0}, {0, 65537, 0},
	} {
		checkNoScene(t, fmt.Sprint(n), c.validScene(n[0], n[1], n[2]))
	}
	checkScene(t, "not too many", c.validScene(impl.MaxTris, impl.MaxRays, impl.MaxLights))
}

func TestScenesWithFloatsThatAreNotFinite(t *testing.T) {
	for i, s := range someScenes() {
		for k, place := range floatsIn(s) {
			was := *place
			for _, bits := range wrongFloats() {
				*place = bits
				checkNoScene(t, fmt.Sprintf("scene %d, %x in place %d", i, bits, k), s)
			}
			*place = was
		}
		checkScene(t, "all put back", s)
	}
}

func TestScenesWithRaysThatGoNowhere(t *testing.T) {
	for i, s := range someScenes() {
		for k := range s.Rays {
			was := s.Rays[k]
			for _, zeros := range signedZeros() {
				s.Rays[k].D = zeros
				checkNoScene(t, fmt.Sprint("scene ", i, ", ray ", k), s)
				s.Rays[k] = impl.Ray{O: zeros, D: point(0, math.SmallestNonzeroFloat32, 0)}
				checkScene(t, "a ray that begins at zero", s)
			}
			s.Rays[k] = was
		}
	}
}
