package tests

import (
	"fmt"
	"runtime"
	"slices"
	"sync"
	"testing"

	"loop.example/s01121/impl"
)

// memoryTraces are scenes with hits, misses, lit and dark ones, of all sizes, and
// ones that are not valid.
func memoryTraces() []impl.Scene {
	var c chance
	all := memoryScenesWhole()
	for _, n := range [][3]int{{6, 3, 2}, {12, 8, 4}, {9, 1, 1}, {20, 9, 0}, {impl.MaxTris, impl.MaxRays, impl.MaxLights}} {
		all = append(all, c.gridScene(n[0], n[1], n[2], 3, 0))
	}
	return all
}

// TestTraceAnswersNewMemory writes over the argument and over the lists of an
// answer one by one, with all the room behind them, and looks at the others.
func TestTraceAnswersNewMemory(t *testing.T) {
	for i, s := range memoryTraces() {
		for _, form := range append(sizes(), shape{-1, 1}) {
			what := fmt.Sprint("scene ", i, " ", form)
			roomy, all := sceneWithRoom(s)
			was := copyOfScene(all)
			first, code := impl.Trace(roomy, form.depth, form.leaf)
			second, _ := impl.Trace(roomy, form.depth, form.leaf)
			want := copyOfPicture(first)
			scribble(first.Ids, -7)
			if !slices.Equal(first.Lit, want.Lit) {
				t.Errorf("%s: two lists share memory", what)
			}
			scribble(first.Lit, true)
			if len(first.Ids) > 0 && first.Ids[0] != -7 {
				t.Errorf("%s: two lists share memory", what)
			}
			if !sameScene(all, was) {
				t.Errorf("%s: an argument was changed", what)
			}
			third, lastCode := impl.Trace(roomy, form.depth, form.leaf)
			scribble(all.Tris, level(-7))
			scribble(all.Rays, ray(7, 7, 7, 7, 7, 7))
			scribble(all.Lights, point(7, 7, 7))
			if !samePicture(second, want) || !samePicture(third, want) || code != lastCode {
				t.Errorf("%s: two answers share memory, or one with the argument", what)
			}
		}
	}
}

func TestLookAnswersNewMemory(t *testing.T) {
	lists := memoryBytes()
	for _, s := range memoryTraces() {
		lists = append(lists, sceneBytes(s))
	}
	for i, list := range lists {
		for _, form := range []shape{{0, 1}, {impl.MaxDepth, 1}, {3, impl.MaxTris}, {65, 1}} {
			what := fmt.Sprint("list ", i, " ", form)
			b, all := withRoom(list, 0x3c)
			was := slices.Clone(all)
			checkEncoded(t, what, func() []byte {
				out, _, _ := impl.Look(b, form.depth, form.leaf)
				return out
			})
			if !slices.Equal(all, was) {
				t.Errorf("%s: an argument was changed", what)
			}
			out, _, _ := impl.Look(b, form.depth, form.leaf)
			want := slices.Clone(out)
			scribble(all, 0x5a)
			if !slices.Equal(out, want) {
				t.Errorf("%s: the answer shares memory with the argument", what)
			}
		}
	}
}

// TestOracleKeepsItsArguments asks twice, with every call in between.
func TestOracleKeepsItsArguments(t *testing.T) {
	scenes, lists := memoryTraces(), memoryBytes()
	forms := append(sizes(), wrongShapes()...)
	ask := func(i int) string {
		s, allScene := sceneWithRoom(scenes[i%len(scenes)])
		b, allBytes := withRoom(lists[i%len(lists)], 0x3c)
		sceneWas, bytesWere := copyOfScene(allScene), slices.Clone(allBytes)
		form := forms[i%len(forms)]
		p, code := impl.Trace(s, form.depth, form.leaf)
		out, outCode, at := impl.Look(b, form.depth, form.leaf)
		if !sameScene(allScene, sceneWas) || !slices.Equal(allBytes, bytesWere) {
			t.Errorf("asked %d: an argument was changed", i)
		}
		return fmt.Sprint(p, code, out, outCode, at)
	}
	checkAskedTwice(t, 300, ask)
}

// TestTraceAtTheSameTime has many that trace one scene, on one core and on all.
func TestTraceAtTheSameTime(t *testing.T) {
	var c chance
	s := c.gridScene(20, impl.MaxRays, impl.MaxLights, 4, 0)
	want := exactPicture(s)
	b, wantBytes := sceneBytes(s), pictureBytes(want)
	for _, cores := range []int{1, 2, runtime.NumCPU()} {
		was := runtime.GOMAXPROCS(cores)
		var all sync.WaitGroup
		for i := range 40 {
			all.Add(1)
			go func() {
				defer all.Done()
				form := sizes()[i%9]
				if p, code := impl.Trace(s, form.depth, form.leaf); code != impl.CodeOK || !samePicture(p, want) {
					t.Errorf("%d cores, %v: %v, code %d, want %v", cores, form, p, code, want)
				}
				if out, code, at := impl.Look(b, form.depth, form.leaf); code != impl.CodeOK || at != 0 || !slices.Equal(out, wantBytes) {
					t.Errorf("%d cores, %v: %v, code %d at %d, want %v", cores, form, out, code, at, wantBytes)
				}
			}()
		}
		all.Wait()
		runtime.GOMAXPROCS(was)
	}
}

// TestTraceLeavesNothingRunning: as many goroutines are left as there were. One
// that has told its end may need a moment to be gone.
func TestTraceLeavesNothingRunning(t *testing.T) {
	var c chance
	s := c.gridScene(8, impl.MaxRays, 2, 3, 0)
	before := runtime.NumGoroutine()
	for range 50 {
		impl.Trace(s, 3, 1)
		impl.Trace(s, -1, 1)
		impl.Look(sceneBytes(s), 3, 1)
	}
	for range 1000000 {
		if runtime.NumGoroutine() <= before {
			return
		}
		runtime.Gosched()
	}
	t.Errorf("%d goroutines, %d before", runtime.NumGoroutine(), before)
}
