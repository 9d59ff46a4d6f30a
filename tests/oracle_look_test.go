package tests

import (
	"fmt"
	"slices"
	"testing"

	"loop.example/s01121/impl"
)

// checkLook wants the fault of sceneFault, or the bytes of the picture by the
// library's fractions, for each of the shapes.
func checkLook(t *testing.T, what string, b []byte, all []shape) (code int) {
	t.Helper()
	code, at := sceneFault(b)
	if code != impl.CodeOK {
		for _, form := range all {
			checkNoLook(t, what, b, form, code, at)
		}
		return code
	}
	s, _, _ := impl.DecodeScene(b)
	checkTraceExactly(t, what, s, all)
	if !slices.Equal(sceneBytes(s), b) {
		t.Errorf("%s: %x is not the scene of %v", what, s, b)
	}
	return code
}

func TestP16ByHand(t *testing.T) {
	const (
		triangle = "\x00\x00\x00\x00\x00\x00\x00\x00\x00\x00\x00\x00" +
			"\x00\x00\x80\x40\x00\x00\x00\x00\x00\x00\x00\x80" +
			"\x00\x00\x00\x00\x00\x00\x80\x40\x00\x00\x00\x00"
		down = "\x00\x00\x80\x3f\x00\x00\x80\x3f\x00\x00\x80\x3f" +
			"\x00\x00\x00\x00\x00\x00\x00\x80\x00\x00\x80\xbf"
		up = "\x00\x00\x80\x3f\x00\x00\x80\x3f\x00\x00\x80\x3f" +
			"\x00\x00\x00\x00\x00\x00\x00\x00\x00\x00\x80\x3f"
		inPlane = "\x00\x00\x40\x40\x00\x00\x80\x3f\x00\x00\x00\x00"
		above   = "\x00\x00\x80\x3f\x00\x00\x80\x3f\x00\x00\x80\x40"
	)
	for _, c := range []struct{ name, scene, picture string }{
		{"nothing", "SCEN\x00\x00\x00\x00\x00", "PICT\x00\x00\x00"},
		{"a triangle", "SCEN\x01\x00\x00\x00\x00" + triangle, "PICT\x00\x00\x00"},
		{"a ray", "SCEN\x00\x00\x01\x00\x00" + down, "PICT\x01\x00\x00\xff\xff\xff\xff"},
		{"a light", "SCEN\x00\x00\x00\x00\x01" + above, "PICT\x00\x00\x01"},
		{"a hit", "SCEN\x01\x00\x01\x00\x00" + triangle + down, "PICT\x01\x00\x00\x00\x00\x00\x00"},
		{"a lit hit", "SCEN\x01\x00\x01\x00\x01" + triangle + down + above, "PICT\x01\x00\x01\x00\x00\x00\x00\x01"},
		{"a light in the plane", "SCEN\x01\x00\x01\x00\x01" + triangle + down + inPlane, "PICT\x01\x00\x01\x00\x00\x00\x00\x01"},
		{"the triangle twice", "SCEN\x02\x00\x01\x00\x02" + triangle + triangle + down + inPlane + above, "PICT\x01\x00\x02\x00\x00\x00\x00\x02"},
		{"a hit and a miss", "SCEN\x01\x00\x02\x00\x02" + triangle + up + down + inPlane + above, "PICT\x02\x00\x02\xff\xff\xff\xff\x00\x00\x00\x00\x0c"},
		{"nine bits", "SCEN\x01\x00\x03\x00\x03" + triangle + down + up + down + above + above + inPlane, "PICT\x03\x00\x03\x00\x00\x00\x00\xff\xff\xff\xff\x00\x00\x00\x00\xc7\x01"},
	} {
		for _, form := range shapes() {
			if out, code, at := impl.Look([]byte(c.scene), form.depth, form.leaf); code != impl.CodeOK || at != 0 || string(out) != c.picture {
				t.Errorf("%s, %v: %q, code %d at %d, want %q", c.name, form, out, code, at, c.picture)
			}
		}
		checkLook(t, c.name, []byte(c.scene), sizes())
	}
}

// TestP16LookIsItsParts holds it against DecodeScene, Trace and EncodePicture.
func TestP16LookIsItsParts(t *testing.T) {
	for i, b := range memoryBytes() {
		for _, form := range sizes() {
			s, code, at := impl.DecodeScene(b)
			var want []byte
			if code == impl.CodeOK {
				p, _ := impl.Trace(s, form.depth, form.leaf)
				want = impl.EncodePicture(p)
				if len(want) == 0 {
					t.Errorf("list %d: the picture %v has no bytes", i, p)
				}
			}
			if out, gotCode, gotAt := impl.Look(b, form.depth, form.leaf); gotCode != code || gotAt != at || !slices.Equal(out, want) {
				t.Errorf("list %d, %v: %v, code %d at %d, want %v, code %d at %d", i, form, out, gotCode, gotAt, want, code, at)
			}
		}
	}
}

func TestP16CutAnywhere(t *testing.T) {
	for i, s := range someScenes() {
		b := sceneBytes(s)
		for n := range b {
			checkNoLook(t, fmt.Sprint("scene ", i, ", ", n, " bytes"), b[:n], sizes()[n%9], impl.CodeShort, n)
		}
		for _, behind := range [][]byte{{0}, {255}, make([]byte, pointSize), make([]byte, 70000), b} {
			checkNoLook(t, fmt.Sprint("scene ", i, ", and more"), slices.Concat(b, behind), sizes()[i%9], impl.CodeTrailing, len(b))
		}
	}
	for _, form := range shapes() {
		checkNoLook(t, "nil", nil, form, impl.CodeShort, 0)
		checkNoLook(t, "no bytes", []byte{}, form, impl.CodeShort, 0)
		checkNoLook(t, "a picture", []byte("PICT\x00\x00\x00"), form, impl.CodeMagic, 0)
	}
}

func TestP16FaultsInEveryPlace(t *testing.T) {
	for i, s := range someScenes() {
		b := sceneBytes(s)
		for at := range 4 {
			checkNoLook(t, "a wrong first byte", withByte(b, at, 'x'), sizes()[i%9], impl.CodeMagic, at)
		}
		for at, most := range map[int]byte{atTris: impl.MaxTris, atRays: impl.MaxRays, atLights: impl.MaxLights} {
			checkNoLook(t, "too many", withByte(b, at, most+1), sizes()[i%9], impl.CodeLimit, at)
			checkNoLook(t, "far too many", withByte(b, at, 255), sizes()[i%9], impl.CodeLimit, at)
		}
		for at := atFloats; at < len(b); at += 4 {
			for k, bits := range wrongFloats() {
				checkNoLook(t, fmt.Sprintf("%x at %d", bits, at), withFloat(b, at, bits), sizes()[k%9], impl.CodeNumber, at)
			}
		}
		for k := range s.Rays {
			for n, zeros := range signedZeros() {
				changed := copyOfScene(s)
				changed.Rays[k].D = zeros
				at := atFloats + triSize*len(s.Tris) + raySize*k + pointSize
				checkNoLook(t, fmt.Sprint("scene ", i, ", ray ", k), sceneBytes(changed), sizes()[n], impl.CodeZero, at)
			}
		}
	}
}

// TestP16EveryByteChanged takes values at which faults begin and end, in every
// place.
func TestP16EveryByteChanged(t *testing.T) {
	for i, s := range someScenes()[:9] {
		b := sceneBytes(s)
		for at := range b {
			for k, value := range []byte{0, 1, 2, 4, 5, 40, 41, 127, 128, 255} {
				checkLook(t, fmt.Sprint("scene ", i, ", ", value, " at ", at), withByte(b, at, value), sizes()[k%9:k%9+1])
			}
		}
	}
}

// TestP16BytesOfAllKinds has each code often.
func TestP16BytesOfAllKinds(t *testing.T) {
	var c chance
	var seen [9]int
	for i := range 6000 {
		seen[checkLook(t, fmt.Sprint("list ", i), c.nearlyScene(), sizes()[i%9:i%9+1])]++
	}
	for _, code := range sceneCodes() {
		if seen[code] < 50 {
			t.Errorf("code %d only %d times", code, seen[code])
		}
	}
}

// TestLookWantsItsBoundsFirst: a depth or leaf outside the bounds is told ahead
// of whatever is wrong with the bytes.
func TestLookWantsItsBoundsFirst(t *testing.T) {
	var seen [9]int
	for i, b := range memoryBytes() {
		code, _ := sceneFault(b)
		seen[code]++
		for _, form := range wrongShapes() {
			checkNoLook(t, fmt.Sprint("list ", i), b, form, impl.CodeBad, 0)
		}
	}
	for _, code := range sceneCodes() {
		if seen[code] == 0 {
			t.Errorf("no list with code %d", code)
		}
	}
}
