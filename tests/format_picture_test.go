package tests

import (
	"encoding/binary"
	"fmt"
	"math"
	"slices"
	"testing"

	"loop.example/s01121/impl"
)

// pictureBytes is written by the library. The picture need not be valid.
func pictureBytes(p impl.Picture) []byte {
	b := []byte{80, 73, 67, 84}
	b = binary.LittleEndian.AppendUint16(b, uint16(len(p.Ids)))
	b = append(b, byte(p.Lights))
	for _, id := range p.Ids {
		b = binary.LittleEndian.AppendUint32(b, uint32(id))
	}
	packed := make([]byte, (len(p.Lit)+7)/8)
	for i, lit := range p.Lit {
		if lit {
			packed[i/8] += 1 << (i % 8)
		}
	}
	return append(b, packed...)
}

// pictureOf answers the picture of these bytes, if there is one, by the places
// that are reckoned from their numbers.
func pictureOf(b []byte) (p impl.Picture, ok bool) {
	if len(b) < 7 || string(b[:4]) != "PICT" {
		return p, false
	}
	ids, lights := int(b[4])+256*int(b[5]), int(b[6])
	if ids > 40 || lights > 4 || len(b) != 7+4*ids+(ids*lights+7)/8 {
		return p, false
	}
	p.Lights = lights
	for i := range ids {
		id := binary.LittleEndian.Uint32(b[7+4*i:])
		if id > 39 && id != math.MaxUint32 {
			return impl.Picture{}, false
		}
		p.Ids = append(p.Ids, int(int32(id)))
	}
	for i := range 8 * (len(b) - 7 - 4*ids) {
		lit := b[7+4*ids+i/8]&(1<<(i%8)) != 0
		if i < ids*lights {
			p.Lit = append(p.Lit, lit)
		} else if lit {
			return impl.Picture{}, false
		}
	}
	return p, true
}

func samePicture(p, q impl.Picture) bool {
	return slices.Equal(p.Ids, q.Ids) && p.Lights == q.Lights && slices.Equal(p.Lit, q.Lit)
}

func copyOfPicture(p impl.Picture) impl.Picture {
	return impl.Picture{Ids: slices.Clone(p.Ids), Lights: p.Lights, Lit: slices.Clone(p.Lit)}
}

// checkPicture wants the picture there and back, and is for valid ones.
func checkPicture(t *testing.T, what string, p impl.Picture) {
	t.Helper()
	b := impl.EncodePicture(p)
	if want := pictureBytes(p); !slices.Equal(b, want) {
		t.Errorf("%s: EncodePicture of %v is %v, want %v", what, p, b, want)
	}
	if got, code := impl.DecodePicture(b); code != impl.CodeOK || !samePicture(got, p) {
		t.Errorf("%s: %v is %v, code %d, want %v", what, b, got, code, p)
	}
}

// checkNoPicture is for pictures that are not valid.
func checkNoPicture(t *testing.T, what string, p impl.Picture) {
	t.Helper()
	if b := impl.EncodePicture(p); len(b) != 0 {
		t.Errorf("%s: EncodePicture of %v is %v, want none", what, p, b)
	}
}

// checkNotTaken is for bytes that are no picture.
func checkNotTaken(t *testing.T, what string, b []byte) {
	t.Helper()
	if p, code := impl.DecodePicture(b); code != impl.CodeBad || !samePicture(p, impl.Picture{}) {
		t.Errorf("%s: %v is %v, code %d, want nothing, code %d", what, b, p, code, impl.CodeBad)
	}
}

// checkPictureBytes wants the picture of pictureOf, or none.
func checkPictureBytes(t *testing.T, what string, b []byte) (taken bool) {
	t.Helper()
	want, ok := pictureOf(b)
	if !ok {
		checkNotTaken(t, what, b)
		return false
	}
	p, code := impl.DecodePicture(b)
	if code != impl.CodeOK || !samePicture(p, want) {
		t.Errorf("%s: %v is %v, code %d, want %v", what, b, p, code, want)
	}
	if again := impl.EncodePicture(p); !slices.Equal(again, b) {
		t.Errorf("%s: %v is %v, with the bytes %v", what, b, p, again)
	}
	return true
}

// validPicture has these numbers of Ids and lights.
func (c *chance) validPicture(ids, lights int) impl.Picture {
	p := impl.Picture{Lights: lights}
	for range ids {
		p.Ids = append(p.Ids, int(c.below(41))-1)
	}
	for range ids * lights {
		p.Lit = append(p.Lit, c.below(2) == 1)
	}
	return p
}

// somePictures are valid, with numbers of bits beside the ends of a byte.
func somePictures() []impl.Picture {
	var c chance
	var all []impl.Picture
	for _, n := range [][2]int{{0, 0}, {0, 4}, {1, 0}, {1, 1}, {7, 1}, {8, 1}, {2, 4}, {9, 1}, {3, 3}, {5, 3}, {4, 4}, {40, 0}, {40, 4}} {
		all = append(all, c.validPicture(n[0], n[1]))
	}
	return all
}

func TestP14ByHand(t *testing.T) {
	const yes, no = true, false
	cases := []struct {
		name    string
		picture impl.Picture
		bytes   string
	}{
		{"nothing", impl.Picture{}, "PICT\x00\x00\x00"},
		{"empty lists", impl.Picture{Ids: []int{}, Lit: []bool{}}, "PICT\x00\x00\x00"},
		{"only lights", impl.Picture{Lights: 4}, "PICT\x00\x00\x04"},
		{"no lights", impl.Picture{Ids: []int{-1, 0, 39}}, "PICT\x03\x00\x00\xff\xff\xff\xff\x00\x00\x00\x00\x27\x00\x00\x00"},
		{"one that is lit", impl.Picture{Ids: []int{5}, Lights: 1, Lit: []bool{yes}}, "PICT\x01\x00\x01\x05\x00\x00\x00\x01"},
		{"one that is not", impl.Picture{Ids: []int{5}, Lights: 1, Lit: []bool{no}}, "PICT\x01\x00\x01\x05\x00\x00\x00\x00"},
		{"one that is lit, but meets nothing", impl.Picture{Ids: []int{-1}, Lights: 1, Lit: []bool{yes}}, "PICT\x01\x00\x01\xff\xff\xff\xff\x01"},
		{"eight bits", impl.Picture{Ids: []int{1, 2}, Lights: 4, Lit: []bool{no, yes, no, no, no, no, no, yes}},
			"PICT\x02\x00\x04\x01\x00\x00\x00\x02\x00\x00\x00\x82"},
		{"nine bits", impl.Picture{Ids: []int{1, 2, 3}, Lights: 3, Lit: []bool{no, no, yes, no, no, no, no, no, yes}},
			"PICT\x03\x00\x03\x01\x00\x00\x00\x02\x00\x00\x00\x03\x00\x00\x00\x04\x01"},
	}
	for _, c := range cases {
		if b := impl.EncodePicture(c.picture); string(b) != c.bytes {
			t.Errorf("%s: %q, want %q", c.name, b, c.bytes)
		}
		if p, code := impl.DecodePicture([]byte(c.bytes)); code != impl.CodeOK || !samePicture(p, c.picture) {
			t.Errorf("%s: %v, code %d, want %v", c.name, p, code, c.picture)
		}
		checkPicture(t, c.name, c.picture)
	}
}

// TestP14OfEverySize has each number of Ids and lights that is within the limits.
func TestP14OfEverySize(t *testing.T) {
	var c chance
	for ids := range impl.MaxRays + 1 {
		for lights := range impl.MaxLights + 1 {
			what := fmt.Sprint(ids, " Ids, ", lights, " lights")
			p := c.validPicture(ids, lights)
			checkPicture(t, what, p)
			for _, lit := range []bool{false, true} {
				p.Lit = slices.Repeat([]bool{lit}, ids*lights)
				checkPicture(t, what, p)
				for i := range p.Lit {
					p.Lit[i] = !lit
					checkPicture(t, what, p)
					p.Lit[i] = lit
				}
			}
		}
	}
}

func TestP14EveryId(t *testing.T) {
	for id := -1; id < impl.MaxTris; id++ {
		checkPicture(t, "alone", impl.Picture{Ids: []int{id}})
		checkPicture(t, "last", impl.Picture{Ids: []int{39, -1, 0, id}, Lights: 1, Lit: make([]bool, 4)})
		checkPicture(t, "everywhere", impl.Picture{Ids: slices.Repeat([]int{id}, 40), Lights: 1, Lit: make([]bool, 40)})
	}
}

func TestPicturesWithWrongIds(t *testing.T) {
	for _, wrong := range []int{-2, -3, -40, 40, 41, 255, 256, math.MaxInt32, math.MinInt32, math.MaxUint32, 1 << 32, 1<<32 + 39, -1 << 32, -1<<32 - 1, math.MaxInt, math.MinInt} {
		for _, p := range somePictures() {
			for i := range p.Ids {
				copied := copyOfPicture(p)
				copied.Ids[i] = wrong
				checkNoPicture(t, fmt.Sprint(wrong, " in place ", i), copied)
			}
		}
	}
}

func TestPicturesWithTooManyIds(t *testing.T) {
	var c chance
	for _, ids := range []int{41, 42, 256, 257, 65536} {
		for lights := range 5 {
			checkNoPicture(t, fmt.Sprint(ids, " Ids"), c.validPicture(ids, lights))
		}
	}
}

// TestPicturesWithWrongLights has lists that would fit, too: also where the
// product of both numbers is more than an int holds.
func TestPicturesWithWrongLights(t *testing.T) {
	var c chance
	for _, ids := range []int{0, 1, 2, 4, 8, 40} {
		for _, lights := range []int{5, 6, 255, 256, 257, 260} {
			checkNoPicture(t, fmt.Sprint(ids, " Ids, ", lights, " lights"), c.validPicture(ids, lights))
		}
		for _, lights := range []int{-1, -4, -256, -255, math.MinInt, math.MaxInt, 1 << 62, -1 << 62, 1 << 61, 1<<62 + 1} {
			p := c.validPicture(ids, 0)
			p.Lights = lights
			checkNoPicture(t, fmt.Sprint(ids, " Ids, ", lights, " lights"), p)
			p.Lit = make([]bool, ids)
			checkNoPicture(t, fmt.Sprint(ids, " Ids, ", lights, " lights, bits"), p)
		}
	}
}

func TestPicturesWithWrongNumbersOfBits(t *testing.T) {
	for i, p := range somePictures() {
		for n := range 200 {
			if n == len(p.Lit) {
				continue
			}
			copied := copyOfPicture(p)
			copied.Lit = make([]bool, n)
			checkNoPicture(t, fmt.Sprint("picture ", i, ", ", n, " bits"), copied)
		}
	}
}

func TestP14CutOrLonger(t *testing.T) {
	for i, p := range somePictures() {
		b := pictureBytes(p)
		for n := range b {
			checkNotTaken(t, fmt.Sprint("picture ", i, ", ", n, " bytes"), b[:n])
			checkNotTaken(t, fmt.Sprint("picture ", i, ", ", n, " bytes alone"), slices.Clip(slices.Clone(b[:n])))
		}
		for value := range 256 {
			checkNotTaken(t, fmt.Sprint("picture ", i, ", with ", value), append(slices.Clone(b), byte(value)))
		}
		checkNotTaken(t, fmt.Sprint("picture ", i, ", twice"), slices.Concat(b, b))
	}
	checkNotTaken(t, "nil", nil)
	checkNotTaken(t, "no bytes", []byte{})
	checkNotTaken(t, "a scene", impl.EncodeScene(impl.Scene{}))
}

// TestP14IdsAsBytes has Ids just outside the bounds, and such that only one of
// their bytes is wrong.
func TestP14IdsAsBytes(t *testing.T) {
	for i, p := range somePictures() {
		b := pictureBytes(p)
		for k := range p.Ids {
			for _, id := range []uint32{40, 41, 128, 255, 0x127, 0x10000, 0x1000000, 0x7fffffff, 0x80000000, 0xffffff00, 0x00ffffff, 0xffff, 0xff, 0xfffffffe, 0xfffffffd, 0xfeffffff, 0xfffeffff} {
				checkNotTaken(t, fmt.Sprintf("picture %d, %x in place %d", i, id, k), withFloat(b, 7+4*k, id))
			}
			for _, id := range []uint32{0, 1, 38, 39, math.MaxUint32} {
				if !checkPictureBytes(t, fmt.Sprintf("picture %d, %x in place %d", i, id, k), withFloat(b, 7+4*k, id)) {
					t.Errorf("%x is a valid Id", id)
				}
			}
		}
	}
}

// TestP14BitsThatAreNotUsed sets each of them, alone and all at once.
func TestP14BitsThatAreNotUsed(t *testing.T) {
	var c chance
	for ids := range 41 {
		for lights := range 5 {
			used := ids * lights % 8
			if used == 0 {
				continue
			}
			b := pictureBytes(c.validPicture(ids, lights))
			last := len(b) - 1
			for bit := used; bit < 8; bit++ {
				checkNotTaken(t, fmt.Sprint(ids, " Ids, ", lights, " lights, bit ", bit), withByte(b, last, b[last]|1<<bit))
			}
			checkNotTaken(t, fmt.Sprint(ids, " Ids, ", lights, " lights, all"), withByte(b, last, b[last]|255<<used))
		}
	}
}

// TestP14EveryByteChanged takes every value in every place.
func TestP14EveryByteChanged(t *testing.T) {
	for i, p := range somePictures() {
		b := pictureBytes(p)
		for at := range b {
			for value := range 256 {
				checkPictureBytes(t, fmt.Sprint("picture ", i, ", ", value, " at ", at), withByte(b, at, byte(value)))
			}
		}
	}
}

// TestP14BytesOfAllKinds changes some bytes at once, and takes and refuses often.
func TestP14BytesOfAllKinds(t *testing.T) {
	var c chance
	values := []byte{0, 1, 2, 3, 4, 5, 8, 39, 40, 41, 128, 254, 255}
	var taken [2]int
	for i := range 60000 {
		b := pictureBytes(c.validPicture(int(c.below(5)), int(c.below(5))))
		for range c.below(3) {
			b[4+c.below(uint32(len(b)-4))] = values[c.below(uint32(len(values)))]
		}
		if c.below(6) == 0 {
			b = b[:c.below(uint32(len(b)))]
		}
		for c.below(6) == 0 {
			b = append(b, values[c.below(uint32(len(values)))])
		}
		if checkPictureBytes(t, fmt.Sprint("list ", i), b) {
			taken[1]++
		} else {
			taken[0]++
		}
	}
	if taken[0] < 5000 || taken[1] < 5000 {
		t.Errorf("refused and taken: %v", taken)
	}
}
