package tests

import (
	"encoding/binary"
	"fmt"
	"slices"
	"testing"

	"loop.example/s01121/impl"
)

// TestP13CutAnywhere: of bytes that are right as far as they go, the first that
// is missing is told.
func TestP13CutAnywhere(t *testing.T) {
	for i, s := range someScenes() {
		b := sceneBytes(s)
		for n := range b {
			checkFault(t, fmt.Sprint("scene ", i, ", ", n, " bytes"), b[:n], impl.CodeShort, n)
			checkFault(t, fmt.Sprint("scene ", i, ", ", n, " bytes alone"), slices.Clip(slices.Clone(b[:n])), impl.CodeShort, n)
		}
	}
	checkFault(t, "nil", nil, impl.CodeShort, 0)
	checkFault(t, "no bytes", []byte{}, impl.CodeShort, 0)
}

// TestP13FirstFour has each wrong byte in each place, whatever comes behind it.
func TestP13FirstFour(t *testing.T) {
	var c chance
	b := sceneBytes(c.validScene(1, 1, 1))
	for at := range 4 {
		for value := range 256 {
			wrong := withByte(b, at, byte(value))
			if wrong[at] == b[at] {
				continue
			}
			for _, n := range []int{at + 1, at + 2, 3, 4, 5, 8, 9, len(b) - 1, len(b)} {
				if n > at {
					checkFault(t, "a wrong byte", wrong[:n], impl.CodeMagic, at)
				}
			}
			for n := range at + 1 {
				checkFault(t, "cut ahead of it", wrong[:n], impl.CodeShort, n)
			}
			checkFault(t, "more bytes", append(wrong, 1, 2, 3), impl.CodeMagic, at)
			for other := at; other < 4; other++ {
				checkFault(t, "two wrong bytes", withByte(wrong, other, byte(value)), impl.CodeMagic, at)
			}
		}
	}
	for _, text := range []string{"PICT\x00\x00\x00", "scen\x00\x00\x00\x00\x00", "NECS", "S", "SC", "SCE", "SCEN", "X", "SX", "SCX", "SCEX"} {
		checkBytes(t, text, []byte(text))
	}
}

// TestP13CountsAboveTheirLimits are told where they begin, as soon as they are
// read, ahead of whatever comes behind.
func TestP13CountsAboveTheirLimits(t *testing.T) {
	var c chance
	b := sceneBytes(c.validScene(1, 2, 3))
	for _, place := range []struct{ at, size int }{{atTris, 2}, {atRays, 2}, {atLights, 1}} {
		values := []int{41, 42, 255, 256, 257, 296, 297, 0x2800, 0x2900, 0x8000, 0xff00, 0xffff}
		if place.size == 1 {
			values = []int{5, 6, 40, 41, 128, 255}
		}
		for _, n := range values {
			wrong := slices.Clone(b)
			for i := range place.size {
				wrong[place.at+i] = byte(n >> (8 * i))
			}
			what := fmt.Sprint(n, " at ", place.at)
			for end := range len(wrong) + 1 {
				if end < place.at+place.size {
					checkFault(t, what, wrong[:end], impl.CodeShort, end)
				} else {
					checkFault(t, what, wrong[:end], impl.CodeLimit, place.at)
				}
			}
			checkFault(t, what+", with more", append(slices.Clone(wrong), 1, 2), impl.CodeLimit, place.at)
			checkFault(t, what+", with a wrong float", withFloat(wrong, atFloats, 0x7f800000), impl.CodeLimit, place.at)
			checkFault(t, what+", a wrong first byte", withByte(wrong, 0, 'T'), impl.CodeMagic, 0)
		}
	}
}

// TestP13MoreThanOneCount: the first is told.
func TestP13MoreThanOneCount(t *testing.T) {
	head := func(tris, rays, lights int) []byte {
		b := binary.LittleEndian.AppendUint16([]byte("SCEN"), uint16(tris))
		return append(binary.LittleEndian.AppendUint16(b, uint16(rays)), byte(lights))
	}
	for _, c := range []struct {
		b        []byte
		code, at int
	}{
		{head(41, 41, 5), impl.CodeLimit, 4}, {head(41, 0, 5), impl.CodeLimit, 4}, {head(40, 41, 5), impl.CodeLimit, 6},
		{head(40, 40, 5), impl.CodeLimit, 8}, {head(40, 40, 4), impl.CodeShort, 9}, {head(0, 0, 4), impl.CodeShort, 9},
		{head(0, 40, 0), impl.CodeShort, 9}, {head(0, 41, 0)[:8], impl.CodeLimit, 6}, {head(0, 41, 0)[:7], impl.CodeShort, 7},
		{head(41, 0, 0)[:6], impl.CodeLimit, 4}, {head(41, 0, 0)[:5], impl.CodeShort, 5}, {head(40, 0, 0)[:6], impl.CodeShort, 6},
		{head(0, 40, 0)[:8], impl.CodeShort, 8}, {head(0, 256, 0)[:7], impl.CodeShort, 7}, {head(256, 0, 0)[:6], impl.CodeLimit, 4},
		// What may be triangles may not be lights, and the other way round.
		{head(5, 5, 5), impl.CodeLimit, 8}, {head(4, 4, 4), impl.CodeShort, 9},
	} {
		checkFault(t, fmt.Sprint(c.b), c.b, c.code, c.at)
	}
}

// TestP13CountsThatDoNotFit has fewer or more triangles, rays and lights than
// the bytes are for.
func TestP13CountsThatDoNotFit(t *testing.T) {
	var c chance
	b := sceneBytes(c.validScene(2, 2, 2))
	for lights := range byte(2) {
		checkFault(t, "fewer lights", withByte(b, atLights, lights), impl.CodeTrailing, len(b)-pointSize*int(2-lights))
		checkFault(t, "more lights", withByte(b, atLights, 3+lights), impl.CodeShort, len(b))
	}
	for n := range 256 {
		for _, at := range []int{4, 5, 6, 7, 8} {
			checkBytes(t, fmt.Sprint(n, " at ", at), withByte(b, at, byte(n)))
		}
	}
}

// TestP13FloatsThatAreNotFinite has each of them in each place: it is told where
// it begins as soon as its bytes are there, whatever is missing or wrong behind.
func TestP13FloatsThatAreNotFinite(t *testing.T) {
	for i, s := range someScenes() {
		b := sceneBytes(s)
		for at := atFloats; at < len(b); at += 4 {
			for _, bits := range wrongFloats() {
				what := fmt.Sprintf("scene %d, %x at %d", i, bits, at)
				wrong := withFloat(b, at, bits)
				for _, n := range []int{at + 4, at + 5, at + 8, len(b) - 1, len(b)} {
					if n >= at+4 && n <= len(b) {
						checkFault(t, what, wrong[:n], impl.CodeNumber, at)
					}
				}
				for n := at; n < at+4; n++ {
					checkFault(t, what+", cut", wrong[:n], impl.CodeShort, n)
				}
				checkFault(t, what+", with more", append(slices.Clone(wrong), 0), impl.CodeNumber, at)
				for later := at + 4; later < min(len(b), at+40); later += 4 {
					checkFault(t, what+", and another", withFloat(wrong, later, bits), impl.CodeNumber, at)
				}
			}
		}
	}
}

// TestP13DirectionsOfZero are told at the first byte of D, but only when all of
// it is there.
func TestP13DirectionsOfZero(t *testing.T) {
	for i, s := range someScenes() {
		for k := range s.Rays {
			was := s.Rays[k]
			for _, zeros := range signedZeros() {
				s.Rays[k].D = zeros
				b := sceneBytes(s)
				at := atFloats + triSize*len(s.Tris) + raySize*k + pointSize
				what := fmt.Sprintf("scene %d, %x in ray %d", i, zeros, k)
				for n := at; n < at+pointSize; n++ {
					checkFault(t, what+", cut", b[:n], impl.CodeShort, n)
				}
				for n := at + pointSize; n <= min(len(b), at+40); n++ {
					checkFault(t, what, b[:n], impl.CodeZero, at)
				}
				checkFault(t, what, b, impl.CodeZero, at)
				checkFault(t, what+", with more", append(slices.Clone(b), 0), impl.CodeZero, at)
				checkZeroBeside(t, what, b, at)
			}
			s.Rays[k] = was
		}
	}
}

// checkZeroBeside has floats that are not finite ahead of the direction at this
// place, in it and behind it.
func checkZeroBeside(t *testing.T, what string, b []byte, at int) {
	t.Helper()
	for _, bits := range []uint32{0x7f800000, 0xff800000, 0x7fc00001} {
		for wrong := max(atFloats, at-pointSize); wrong < min(len(b), at+2*pointSize); wrong += 4 {
			changed := withFloat(b, wrong, bits)
			if wrong < at+pointSize {
				checkFault(t, what+", not finite", changed, impl.CodeNumber, wrong)
				checkFault(t, what+", not finite, cut", changed[:wrong+4], impl.CodeNumber, wrong)
				checkFault(t, what+", not finite, cut short", changed[:wrong+3], impl.CodeShort, wrong+3)
			} else {
				checkFault(t, what+", not finite behind it", changed, impl.CodeZero, at)
			}
		}
	}
}

// TestP13TwoDirectionsOfZero: the first is told.
func TestP13TwoDirectionsOfZero(t *testing.T) {
	var c chance
	s := c.validScene(2, 4, 1)
	for first := range s.Rays {
		for second := first; second < len(s.Rays); second++ {
			copied := copyOfScene(s)
			copied.Rays[first].D, copied.Rays[second].D = impl.Point{}, impl.Point{Y: signBit}
			checkFault(t, fmt.Sprint(first, second), sceneBytes(copied), impl.CodeZero, atFloats+2*triSize+first*raySize+pointSize)
		}
	}
}

func TestP13BytesBehindTheLastLight(t *testing.T) {
	for i, s := range someScenes() {
		b := sceneBytes(s)
		for _, behind := range [][]byte{{0}, {1}, {255}, {0, 0, 0, 0}, make([]byte, pointSize), make([]byte, 70000), b} {
			checkFault(t, fmt.Sprint("scene ", i), slices.Concat(b, behind), impl.CodeTrailing, len(b))
		}
	}
}

// TestP13EveryByteChanged takes every value in every place, and cuts and adds.
func TestP13EveryByteChanged(t *testing.T) {
	for i, s := range someScenes()[:9] {
		b := sceneBytes(s)
		for at := range b {
			for value := range 256 {
				checkBytes(t, fmt.Sprint("scene ", i, ", ", value, " at ", at), withByte(b, at, byte(value)))
			}
		}
	}
}

// nearlyScene is the bytes of a scene, of which some are often changed, cut off
// or added, to values at which faults begin and end.
func (c *chance) nearlyScene() []byte {
	values := []byte{0, 1, 2, 3, 4, 5, 39, 40, 41, 63, 127, 128, 191, 254, 255, 'S', 'C', 'E', 'N'}
	s := c.validScene(int(c.below(3)), int(c.below(4)), int(c.below(3)))
	for _, place := range floatsIn(s) {
		switch n := c.below(90); {
		case n < 30:
			*place = n % 2 << 31
		case n == 30:
			*place = wrongFloats()[c.below(12)]
		}
	}
	b := sceneBytes(s)
	for range c.below(4) {
		b[int(c.below(uint32(len(b))))] = values[c.below(uint32(len(values)))]
	}
	if c.below(3) == 0 {
		b = b[:c.below(uint32(len(b)))]
	}
	for c.below(4) == 0 {
		b = append(b, values[c.below(uint32(len(values)))])
	}
	return b
}

// sceneCodes are those that DecodeScene can answer.
func sceneCodes() []int {
	return []int{impl.CodeOK, impl.CodeLimit, impl.CodeMagic, impl.CodeShort, impl.CodeNumber, impl.CodeZero, impl.CodeTrailing}
}

// TestP13BytesOfAllKinds has each code often.
func TestP13BytesOfAllKinds(t *testing.T) {
	var c chance
	var seen [9]int
	for i := range 60000 {
		seen[checkBytes(t, fmt.Sprint("list ", i), c.nearlyScene())]++
	}
	for _, code := range sceneCodes() {
		if seen[code] < 500 {
			t.Errorf("code %d only %d times", code, seen[code])
		}
	}
}
