package tests

import (
	"fmt"
	"slices"
	"testing"

	"loop.example/s01121/impl"
)

// memoryBytes are scenes and pictures as bytes, and lists with every fault.
func memoryBytes() [][]byte {
	var all [][]byte
	for _, s := range someScenes() {
		b := sceneBytes(s)
		all = append(all, b, b[:len(b)-1], append(slices.Clone(b), 0), withByte(b, 0, 0), withByte(b, atTris, 41))
		if len(b) > atFloats {
			all = append(all, withFloat(b, len(b)-4, 0x7f800000))
		}
		if len(s.Rays) > 0 {
			nowhere := copyOfScene(s)
			nowhere.Rays[len(s.Rays)-1].D = impl.Point{X: signBit}
			all = append(all, sceneBytes(nowhere))
		}
	}
	for _, p := range somePictures() {
		b := pictureBytes(p)
		all = append(all, b, b[:len(b)-1], append(slices.Clone(b), 0))
	}
	return append(all, nil)
}

// sceneWithRoom has all lists in one stretch of memory each, with marks behind.
func sceneWithRoom(s impl.Scene) (roomy, all impl.Scene) {
	roomy.Tris, all.Tris = withRoom(s.Tris, level(9))
	roomy.Rays, all.Rays = withRoom(s.Rays, ray(9, 9, 9, 9, 9, 9))
	roomy.Lights, all.Lights = withRoom(s.Lights, point(9, 9, 9))
	return roomy, all
}

func pictureWithRoom(p impl.Picture) (roomy, all impl.Picture) {
	roomy.Ids, all.Ids = withRoom(p.Ids, 9)
	roomy.Lit, all.Lit = withRoom(p.Lit, true)
	roomy.Lights, all.Lights = p.Lights, p.Lights
	return roomy, all
}

// memoryScenesWhole are valid ones, and ones that are not.
func memoryScenesWhole() []impl.Scene {
	var c chance
	all := append(someScenes(), c.validScene(41, 2, 2), c.validScene(2, 41, 2), c.validScene(2, 2, 5))
	wrong := c.validScene(3, 3, 3)
	wrong.Rays[1].D = impl.Point{Y: signBit}
	return append(all, wrong)
}

func memoryPictures() []impl.Picture {
	var c chance
	all := append(somePictures(), c.validPicture(41, 1), c.validPicture(2, 5))
	return append(all, impl.Picture{Ids: []int{3, 40, 2}}, impl.Picture{Ids: []int{1}, Lights: 1})
}

// checkEncoded writes over an answer, and asks again.
func checkEncoded(t *testing.T, what string, encode func() []byte) {
	t.Helper()
	first, second := encode(), encode()
	want := slices.Clone(first)
	scribble(first, 0xa5)
	if third := encode(); !slices.Equal(second, want) || !slices.Equal(third, want) {
		t.Errorf("%s: two answers share memory, or one was kept", what)
	}
}

func TestEncodeAnswersNewMemory(t *testing.T) {
	for i, s := range memoryScenesWhole() {
		what := fmt.Sprint("scene ", i)
		roomy, all := sceneWithRoom(s)
		was := copyOfScene(all)
		checkEncoded(t, what, func() []byte { return impl.EncodeScene(roomy) })
		if !sameScene(all, was) {
			t.Errorf("%s: an argument was changed", what)
		}
		b, want := impl.EncodeScene(roomy), impl.EncodeScene(s)
		scribble(all.Tris, level(-7))
		scribble(all.Rays, ray(7, 7, 7, 7, 7, 7))
		scribble(all.Lights, point(7, 7, 7))
		if !slices.Equal(b, want) {
			t.Errorf("%s: the answer shares memory with an argument", what)
		}
	}
	for i, p := range memoryPictures() {
		what := fmt.Sprint("picture ", i)
		roomy, all := pictureWithRoom(p)
		was := copyOfPicture(all)
		checkEncoded(t, what, func() []byte { return impl.EncodePicture(roomy) })
		if !samePicture(all, was) {
			t.Errorf("%s: an argument was changed", what)
		}
	}
}

// TestDecodeSceneAnswersNewMemory writes over the argument and over the lists of
// an answer one by one, with all the room behind them, and looks at the others.
func TestDecodeSceneAnswersNewMemory(t *testing.T) {
	for i, list := range memoryBytes() {
		what := fmt.Sprint("list ", i)
		b, all := withRoom(list, 0x3c)
		was := slices.Clone(all)
		first, code, at := impl.DecodeScene(b)
		second, _, _ := impl.DecodeScene(b)
		want := copyOfScene(first)
		scribble(first.Tris, level(-7))
		scribble(first.Rays, ray(7, 7, 7, 7, 7, 7))
		if !slices.Equal(first.Lights, want.Lights) || len(first.Tris) > 0 && first.Tris[0] != level(-7) {
			t.Errorf("%s: two lists share memory", what)
		}
		scribble(first.Lights, point(7, 7, 7))
		if len(first.Tris) > 0 && first.Tris[0] != level(-7) || len(first.Rays) > 0 && first.Rays[0] != ray(7, 7, 7, 7, 7, 7) {
			t.Errorf("%s: two lists share memory", what)
		}
		if !slices.Equal(all, was) {
			t.Errorf("%s: an argument was changed", what)
		}
		third, lastCode, lastAt := impl.DecodeScene(b)
		scribble(all, 0x5a)
		if !sameScene(second, want) || !sameScene(third, want) || lastCode != code || lastAt != at {
			t.Errorf("%s: two answers share memory, or one with the argument", what)
		}
	}
}

func TestDecodePictureAnswersNewMemory(t *testing.T) {
	for i, list := range memoryBytes() {
		what := fmt.Sprint("list ", i)
		b, all := withRoom(list, 0x3c)
		was := slices.Clone(all)
		first, code := impl.DecodePicture(b)
		second, _ := impl.DecodePicture(b)
		want := copyOfPicture(first)
		scribble(first.Ids, -7)
		if !slices.Equal(first.Lit, want.Lit) {
			t.Errorf("%s: two lists share memory", what)
		}
		scribble(first.Lit, true)
		if !slices.Equal(all, was) {
			t.Errorf("%s: an argument was changed", what)
		}
		third, lastCode := impl.DecodePicture(b)
		scribble(all, 0x5a)
		if !samePicture(second, want) || !samePicture(third, want) || lastCode != code {
			t.Errorf("%s: two answers share memory, or one with the argument", what)
		}
	}
}

// TestBytesKeepTheirArguments asks twice, with every call in between.
func TestBytesKeepTheirArguments(t *testing.T) {
	lists, scenes, pictures := memoryBytes(), memoryScenesWhole(), memoryPictures()
	ask := func(i int) string {
		b, allBytes := withRoom(lists[i%len(lists)], 0x3c)
		s, allScene := sceneWithRoom(scenes[i%len(scenes)])
		p, allPicture := pictureWithRoom(pictures[i%len(pictures)])
		bytesWere, sceneWas, pictureWas := slices.Clone(allBytes), copyOfScene(allScene), copyOfPicture(allPicture)
		scene, code, at := impl.DecodeScene(b)
		picture, pictureCode := impl.DecodePicture(b)
		got := fmt.Sprint(scene, code, at, picture, pictureCode, impl.ValidScene(s), impl.EncodeScene(s), impl.EncodePicture(p))
		if !slices.Equal(allBytes, bytesWere) || !sameScene(allScene, sceneWas) || !samePicture(allPicture, pictureWas) {
			t.Errorf("asked %d: an argument was changed", i)
		}
		return got
	}
	checkAskedTwice(t, 300, ask)
}
