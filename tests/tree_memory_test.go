package tests

import (
	"fmt"
	"slices"
	"testing"

	"loop.example/s01121/impl"
)

// memoryScenes are valid ones of all sizes, and wrong ones.
func memoryScenes() [][]impl.Tri {
	var c chance
	var all [][]impl.Tri
	for _, n := range []int{0, 1, 2, 3, 7, 20, impl.MaxTris, impl.MaxTris + 1} {
		all = append(all, c.scene(n, 2, 0))
	}
	wrong := c.scene(9, 2, 0)
	wrong[4].B.Y = 0x7f800000
	return append(all, flats(), wrong)
}

func copyOfTree(nodes []impl.Node) []impl.Node {
	copied := slices.Clone(nodes)
	for i := range copied {
		copied[i].Tris = slices.Clone(copied[i].Tris)
	}
	return copied
}

func sameTree(a, b []impl.Node) bool {
	return slices.EqualFunc(a, b, func(m, n impl.Node) bool {
		return m.Lo == n.Lo && m.Hi == n.Hi && m.Left == n.Left && m.Right == n.Right && slices.Equal(m.Tris, n.Tris)
	})
}

// TestBuildTreeAnswersNewMemory writes over the lists of an answer one by one,
// with all the room behind them, and looks at all others each time.
func TestBuildTreeAnswersNewMemory(t *testing.T) {
	for i, scene := range memoryScenes() {
		for _, s := range shapes() {
			what := fmt.Sprint("scene ", i, " ", s)
			tris, all := withRoom(scene, level(9))
			was := slices.Clone(all)
			first, code := impl.BuildTree(tris, s.depth, s.leaf)
			second, _ := impl.BuildTree(tris, s.depth, s.leaf)
			want := copyOfTree(first)
			for k := range first {
				scribble(first[k].Tris, -7)
				want[k].Tris = slices.Repeat([]int{-7}, len(want[k].Tris))
				if !sameTree(first, want) {
					t.Fatalf("%s: the list of node %d shares memory with another", what, k)
				}
			}
			scribble(first, impl.Node{Left: -9})
			if !slices.Equal(all, was) {
				t.Errorf("%s: an argument was changed, or the answer shares its memory", what)
			}
			third, lastCode := impl.BuildTree(tris, s.depth, s.leaf)
			scribble(all, level(-9))
			if !sameTree(second, third) || code != lastCode {
				t.Errorf("%s: two answers share memory, or one was kept", what)
			}
			if fresh, _ := impl.BuildTree(scene, s.depth, s.leaf); !sameTree(second, fresh) {
				t.Errorf("%s: the answer shares memory with an argument", what)
			}
		}
	}
}

func TestAllHitsAnswersNewMemory(t *testing.T) {
	for i, scene := range memoryScenes() {
		for _, r := range []impl.Ray{ray(0, 0, 0, 1, 1, 0), ray(-3, 0.5, 0.25, 1, 0, 0), ray(9, 9, 9, 1, 1, 1), {}} {
			what := fmt.Sprintf("scene %d, %x", i, r)
			tris, all := withRoom(scene, level(9))
			was := slices.Clone(all)
			first, code := impl.AllHits(tris, r)
			second, _ := impl.AllHits(tris, r)
			want := slices.Clone(first)
			scribble(first, -7)
			if !slices.Equal(all, was) {
				t.Errorf("%s: an argument was changed", what)
			}
			third, lastCode := impl.AllHits(tris, r)
			scribble(all, level(-9))
			if !slices.Equal(second, want) || !slices.Equal(third, want) || code != lastCode {
				t.Errorf("%s: two answers share memory, or one was kept", what)
			}
		}
	}
}

// TestTreesKeepTheirArguments asks twice, with every call in between.
func TestTreesKeepTheirArguments(t *testing.T) {
	scenes := memoryScenes()
	rays := []impl.Ray{ray(0, 0, 0, 1, 1, 0), ray(-3, 0.5, 0.25, 1, 0, 0), ray(9, 9, 9, 1, 1, 1), ray(1, 2, 3, -1, -2, -3), {}}
	forms := append(shapes(), wrongShapes()...)
	ask := func(i int) string {
		tris, all := withRoom(scenes[i%len(scenes)], level(9))
		was := slices.Clone(all)
		r, s := rays[i%len(rays)], forms[i%len(forms)]
		nodes, code := impl.BuildTree(tris, s.depth, s.leaf)
		id, idCode := impl.FirstHit(tris, r, s.depth, s.leaf)
		hits, hitsCode := impl.AllHits(tris, r)
		if !slices.Equal(all, was) {
			t.Errorf("asked %d: an argument was changed", i)
		}
		return fmt.Sprint(nodes, code, id, idCode, hits, hitsCode)
	}
	checkAskedTwice(t, 10*len(forms), ask)
}
