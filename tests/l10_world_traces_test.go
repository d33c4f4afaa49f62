package tests

import (
	"fmt"
	"math/rand"
	"slices"
	"testing"

	"loop.example/kiln/impl"
)

// likelyEvent is an event that most often does something; none is left out.
func likelyEvent(t *testing.T, r *rand.Rand, w impl.World) impl.Event {
	t.Helper()
	parcel := r.Intn(len(w.Flight) + 1)
	worker := 1 + r.Intn(len(w.Workers))
	switch d := r.Intn(60); {
	case !w.Boss.Up && r.Intn(4) == 0:
		return event(impl.EvRise, 0)
	case w.Boss.Width == 1 && r.Intn(10) == 0 && len(w.Boss.Store.Texts) > 0 && len(w.Boss.Tree.Files) > 0:
		twin := twinOf(t, w.Boss.Store.Texts[r.Intn(len(w.Boss.Store.Texts))], r.Intn(3))
		return editEvent(fileEntry(w.Boss.Tree.Files[r.Intn(len(w.Boss.Tree.Files))].Name, twin))
	case d < 16:
		return event(impl.EvTick)
	case d < 36:
		return event(impl.EvBring, parcel)
	case d < 38:
		return event(impl.EvDouble, parcel)
	case d < 40:
		return event(impl.EvLose, parcel)
	case d < 42:
		return event(impl.EvBend, parcel, r.Intn(40), r.Intn(600)-10)
	case d < 43:
		return event(impl.EvFall, 0, r.Intn(len(w.Boss.Log.Loose)+2)-1)
	case d < 44:
		return event(impl.EvFall, worker, r.Intn(3))
	case d < 46:
		return event(impl.EvRise, worker, r.Intn(3))
	case d < 52:
		return askEvent(randomThing(r))
	case d < 56:
		return editEvent(likelyEdit(t, r, w.Boss))
	case d < 58:
		return event(impl.EvPack)
	case d < 59:
		return event(r.Intn(14)-2, r.Intn(7)-2, r.Intn(7)-2, r.Intn(7)-2)
	}
	return askEvent(randomName(r))
}

// strangeTurn changes a world in ways that no event does; what it gives need not be valid.
func strangeTurn(r *rand.Rand, w impl.World) impl.World {
	w = copyOf(w)
	worker := r.Intn(len(w.Workers))
	m := likelyMessage(r, w.Boss)
	to := r.Intn(len(w.Workers) + 1)
	if r.Intn(3) == 0 {
		m = offerOf(1+r.Intn(len(w.Workers)), max(w.Boss.Epoch, 1), w.Boss.Edit, randomMake(r), randomLooks(r))
		to = m.To
	}
	switch r.Intn(10) {
	case 0:
		w.Boss = strangeChange(r, w.Boss)
	case 1:
		w.Key = []string{"", "key", "k", xs(impl.MaxKey), xs(impl.MaxKey + 1)}[r.Intn(5)]
	case 2:
		w.Workers[worker] = withOffer(worker+1, m)
	case 3:
		w.Flight = append(w.Flight, forgedParcel(to, m, w.Key))
	case 4:
		w.Flight = append(w.Flight, parcelOf(to, m, w.Key))
	case 5:
		w.Forged = []string{"", "forged"}[r.Intn(2)]
	case 6:
		w.Answers = append(w.Answers, impl.Answer{Name: randomName(r), Deeds: []impl.Deed{{Looks: randomLooks(r)}}})
	case 7:
		w.Flight = append(w.Flight, impl.Parcel{To: r.Intn(6) - 1})
	case 8:
		room := r.Intn(8) - 1
		w.Flight = slices.Repeat(append(w.Flight, parcelOf(0, hereOf(1), w.Key)), impl.MaxFlight+1)[:impl.MaxFlight-room]
	case 9:
		room := r.Intn(5) - 1
		w.Answers = slices.Repeat(append(w.Answers, impl.Answer{}), impl.MaxAnswers+1)[:impl.MaxAnswers-room]
	}
	return w
}

// TestWorldsByTheWords leads worlds through all that may happen to them, true and strange, and holds each step against the slow world.
func TestWorldsByTheWords(t *testing.T) {
	t.Parallel()
	r := rand.New(rand.NewSource(100))
	strange, wrong, forged, doubts, answers, full := 0, 0, 0, 0, 0, 0
	for range 100 {
		w := worldOf(t, []int{1, 2, 8, 8}[r.Intn(4)], 1+r.Intn(4), randomTree(t, r))
		for range 80 {
			if t.Failed() {
				t.FailNow()
			}
			if r.Intn(6) == 0 {
				changed := strangeTurn(r, w)
				if impl.ValidWorld(changed) != slowValidWorld(changed) {
					t.Fatalf("%+v is valid: %v", changed, slowValidWorld(changed))
				}
				if !slowValidWorld(changed) {
					wrong++
					continue
				}
				strange++
				w = changed
			}
			e := likelyEvent(t, r, w)
			after := do(t, w, e)
			checkWorld(t, after, slowDo(w, e))
			w = after
			if full += len(w.Flight) / impl.MaxFlight; len(w.Flight) > 400 && r.Intn(3) == 0 {
				w.Flight = w.Flight[:5]
			}
			if answers += len(w.Answers) / impl.MaxAnswers; len(w.Answers) > 80 && r.Intn(3) == 0 {
				w.Answers = w.Answers[:5]
			}
			checkRight(t, w, slowRight(w))
			first, second, _ := slowDoubt(w)
			checkDoubt(t, w, first, second)
			if w.Forged != "" {
				forged++
			}
			if first+second != "" {
				doubts++
			}
		}
		answers += len(w.Answers)
		checkWorld(t, calm(t, w, 3), slowCalm(w, 3))
	}
	if strange < 300 || wrong < 50 || forged < 300 || doubts < 80 || answers < 500 || full < 30 {
		t.Errorf("%d strange, %d wrong, %d forged, %d doubts, %d answers, %d full", strange, wrong, forged, doubts, answers, full)
	}
}

func TestStrangeWorldsByTheWords(t *testing.T) {
	t.Parallel()
	r := rand.New(rand.NewSource(101))
	for _, c := range strangeWorlds(t) {
		checkWorld(t, do(t, c.world, event(impl.EvTick)), slowDo(c.world, event(impl.EvTick)))
		checkWorld(t, calm(t, c.world, 2), slowCalm(c.world, 2))
		for range 3 {
			e := likelyEvent(t, r, c.world)
			checkWorld(t, do(t, c.world, e), slowDo(c.world, e))
		}
		first, second, _ := slowDoubt(c.world)
		checkDoubt(t, c.world, first, second)
		checkRight(t, c.world, slowRight(c.world))
		if t.Failed() {
			t.Fatal(c.what)
		}
	}
}

// isWhole says whether nothing stands against a world's being right.
func isWhole(w impl.World) bool {
	_, _, ok := impl.Doubt(w)
	return w.Forged == "" && !ok
}

// checkWhole asks for what has to be right in a world: each answer, each run that is over, and what it was made of.
func checkWhole(t *testing.T, w impl.World) {
	t.Helper()
	if !impl.Right(w) {
		t.Errorf("%+v are not right", w.Answers)
	}
	for _, a := range w.Answers {
		if a.Result != impl.Want(a.Tree, a.Name) || !same(a.Deeds, impl.Deeds(a.Tree, a.Name)) {
			t.Errorf("%+v is not what is wanted", a)
		}
	}
	checkRunsOver(t, w.Boss)
	for _, run := range w.Boss.Runs {
		if run.Mode == impl.RunOver && !same(slowAnswerDeeds(w.Boss, run.Name), impl.Deeds(w.Boss.Tree, run.Name)) {
			t.Errorf("by %+v %s is made of other deeds than %+v", w.Boss.Runs, run.Name, impl.Deeds(w.Boss.Tree, run.Name))
		}
	}
}

// namedRounds are the rounds behind which all is answered.
func namedRounds(w impl.World) int {
	return 20 + 34*len(impl.Plan(w.Boss.Tree))
}

// checkLively lets the named number of rounds go by in a world whose boss and a worker are Up, and asks that all roots are answered, with the tree that there was.
func checkLively(t *testing.T, w impl.World) {
	t.Helper()
	w.Answers = nil // so that there is room
	after := calm(t, w, namedRounds(w))
	if !isWhole(after) {
		return
	}
	checkWhole(t, after)
	var names []string
	for _, a := range after.Answers {
		names = append(names, a.Name)
		if !same(a.Tree, w.Boss.Tree) {
			t.Errorf("%s is answered with the tree %+v, asked for in %+v", a.Name, a.Tree, w.Boss.Tree)
		}
	}
	slices.Sort(names)
	if want := slices.Sorted(slices.Values(w.Boss.Roots)); len(after.Boss.Roots) != 0 || !slices.Equal(names, want) {
		t.Errorf("behind %d rounds %q of %q are answered", namedRounds(w), names, want)
	}
}

func isAnyUp(w impl.World) bool {
	return w.Boss.Up && slices.ContainsFunc(w.Workers, func(worker impl.Worker) bool { return worker.Up })
}

// checkSent asks that all that is sent in a tick has a form: with room for it, each message of the boss and of the workers comes into flight.
func checkSent(t *testing.T, before, after impl.World) {
	t.Helper()
	sent := len(slowTick(before.Boss).Out)
	for _, worker := range before.Workers {
		_, out := impl.WorkerTick(worker)
		sent += len(out)
	}
	if want := min(impl.MaxFlight, len(before.Flight)+sent); len(after.Flight) != want {
		t.Errorf("with %d parcels and %d messages sent %d are in flight", len(before.Flight), sent, len(after.Flight))
	}
}

// trail leads a world through events, and tells what happened in it.
type trail struct {
	world                         impl.World
	kept                          *impl.Tree // that of the last tick, if it was not changed since
	answers, falls, lively, edits int
}

func (l *trail) step(t *testing.T, e impl.Event) {
	t.Helper()
	before := l.world
	l.world = do(t, before, e)
	tree := l.world.Boss.Tree
	switch e.Kind {
	case impl.EvTick:
		checkSent(t, before, l.world)
		l.answers += len(l.world.Answers) - len(before.Answers)
		if before.Boss.Up {
			l.kept = &tree
		}
	case impl.EvEdit:
		if l.world.Boss.Edit != before.Boss.Edit {
			l.kept = nil
			l.edits++
		}
	case impl.EvFall:
		if e.A == 0 && before.Boss.Up {
			l.falls++
		}
	case impl.EvRise:
		if e.A == 0 && !before.Boss.Up && l.kept != nil && !same(tree, *l.kept) {
			t.Errorf("it rises with the tree %+v, was %+v", tree, *l.kept)
		}
	}
}

// checkKeptInAWorld asks that the tree of the last tick is there behind any fall and rise.
func checkKeptInAWorld(t *testing.T, w impl.World, kept *impl.Tree) {
	t.Helper()
	for keep := -1; kept != nil && keep <= len(w.Boss.Log.Loose)+1; keep++ {
		up := do(t, w, event(impl.EvFall, 0, keep), event(impl.EvRise, 0))
		if !up.Boss.Up || !same(up.Boss.Tree, *kept) {
			t.Errorf("with %d of %q kept the tree is %+v, was %+v", keep, w.Boss.Log.Loose, up.Boss.Tree, *kept)
		}
	}
}

// TestTheWhole leads worlds through all kinds of events, and asks behind each, as long as nothing is forged and nothing in doubt, that all is right; now and then also that what is kept is kept, and that from there all is answered.
func TestTheWhole(t *testing.T) {
	t.Parallel()
	r := rand.New(rand.NewSource(102))
	var all trail
	doubted := 0
	for i := range 150 {
		l := &trail{world: worldOf(t, []int{8, 8, 3, 2, 1}[i%5], 1+r.Intn(4), randomTree(t, r))}
		for range 100 {
			if t.Failed() {
				t.FailNow()
			}
			l.step(t, likelyEvent(t, r, l.world))
			if !isWhole(l.world) {
				doubted++
				l.world = worldOf(t, 1+r.Intn(2), 1+r.Intn(4), randomTree(t, r))
				l.kept = nil
			}
			checkWhole(t, l.world)
			if r.Intn(10) == 0 {
				checkKeptInAWorld(t, l.world, l.kept)
			}
			if isAnyUp(l.world) && r.Intn(20) == 0 {
				l.lively++
				checkLively(t, l.world)
			}
		}
		all.answers += l.answers
		all.falls += l.falls
		all.lively += l.lively
		all.edits += l.edits
	}
	if all.answers < 400 || all.falls < 50 || all.lively < 100 || all.edits < 300 || doubted < 5 {
		t.Errorf("%d answers, %d falls, %d lively, %d edits, %d in doubt", all.answers, all.falls, all.lively, all.edits, doubted)
	}
}

// TestAllIsAnsweredInTheNamedRounds has things that need as many rounds as there can be, with the fewest workers.
func TestAllIsAnsweredInTheNamedRounds(t *testing.T) {
	t.Parallel()
	most := toolText("arg; cat \"\"; ask; put; arg; ask; put; arg; ask; put; arg; ask; put; arg; ask; put; arg; ask; put; arg; ask; put; arg; ask; put; arg; ask; put; arg; ask; put; arg; ask; put; go 1")
	var line, wide []string
	for c := byte('a'); c < 'w'; c++ {
		line = append(line, fmt.Sprintf("%c T %c", c, c+1))
		wide = append(wide, fmt.Sprintf("%c T w", c))
	}
	circle := append(slices.Clone(line[:21]), "v T a")
	for what, makes := range map[string][]string{"line": line, "wide": wide, "circle": circle} {
		for _, tool := range []string{most, catTool, "none"} {
			for workers := 1; workers <= impl.MaxWorkers; workers += 3 {
				w := worldOf(t, 8, workers, treeOf(t, "T", tool, "w", "", "plan", planText(t, makes...)))
				if workers > 1 {
					w.Boss.Now = impl.MaxTime - 3000 - 2 // two rounds go by before
				}
				for _, name := range []string{"a", "b", "v", "c", "k", "j", "i", "h", "g", "f"} {
					w = do(t, w, askEvent(name))
				}
				// all but the last worker fall when they have been heard, so that they are offered what they do not do
				w = calm(t, w, 2)
				for number := 1; number < workers; number++ {
					w = do(t, w, event(impl.EvFall, number))
				}
				checkLively(t, w)
				if t.Failed() {
					t.Fatal(what, workers)
				}
			}
		}
	}
}

// TestOnlyTheTreeCounts asks for the same things of the same trees, while the store is cleared and taught, the log packed, and workers fall and rise; and in peace.
func TestOnlyTheTreeCounts(t *testing.T) {
	t.Parallel()
	r := rand.New(rand.NewSource(103))
	met, others := 0, 0
	for range 40 {
		first := randomTree(t, r)
		trees := []impl.Tree{first, changedTree(t, r, first), changedTree(t, r, first)}
		var names []string
		for range 5 {
			names = append(names, randomThing(r))
		}
		answers := map[string]impl.Answer{}
		for variant := range 4 {
			w := worldOf(t, 8, 1+r.Intn(4), first)
			for i, tree := range trees {
				w = becoming(t, w, tree)
				for _, name := range names {
					w = do(t, w, askEvent(name))
				}
				before := len(w.Answers)
				for n := 0; n < 30 && variant > 0; n++ {
					w = disturbed(t, r, w)
				}
				if w = impl.Calm(impl.Do(w, event(impl.EvRise, 1)), namedRounds(w)); !isWhole(w) {
					t.Fatalf("forged or in doubt: %+v", w)
				}
				for _, a := range w.Answers[before:] {
					key := fmt.Sprint(i, a.Name)
					if other, ok := answers[key]; ok && !same(other, a) {
						t.Fatalf("%+v and %+v", other, a)
					}
					met++
					answers[key] = copyOf(a)
				}
			}
		}
		for _, a := range answers {
			if !same(answers[fmt.Sprint(0, a.Name)].Result, a.Result) {
				others++
			}
		}
		if distinct := len(slices.Compact(slices.Sorted(slices.Values(names)))); len(answers) != distinct*len(trees) {
			t.Fatalf("of %d things in %d trees %d are answered", distinct, len(trees), len(answers))
		}
	}
	if met < 1000 || others < 40 {
		t.Errorf("%d answers, %d others in other trees", met, others)
	}
}

// becoming changes a world's files until its tree is another one.
func becoming(t *testing.T, w impl.World, tree impl.Tree) impl.World {
	t.Helper()
	for _, f := range w.Boss.Tree.Files {
		if _, code := impl.DropFile(tree, f.Name); code != 0 {
			w = impl.Do(w, editEvent(dropEntry(f.Name)))
		}
	}
	for _, f := range tree.Files {
		w = impl.Do(w, editEvent(fileEntry(f.Name, f.Text)))
	}
	if !same(w.Boss.Tree, tree) {
		t.Fatalf("the tree is %+v, want %+v", w.Boss.Tree, tree)
	}
	return w
}

// disturbed lets something happen that changes no tree and keeps the boss Up.
func disturbed(t *testing.T, r *rand.Rand, w impl.World) impl.World {
	t.Helper()
	worker := 1 + r.Intn(len(w.Workers))
	switch r.Intn(10) {
	case 0:
		return impl.Do(w, editEvent(clearEntry()))
	case 1:
		if deeds := knownOf(changedTree(t, r, w.Boss.Tree)); len(deeds) > 0 {
			d := deeds[r.Intn(len(deeds))]
			return impl.Do(w, editEvent(ranEntry(d.Make, d.Looks, d.Result)))
		}
	case 2:
		return impl.Do(impl.Do(w, event(impl.EvTick)), event(impl.EvPack))
	case 3:
		return impl.Do(w, event(impl.EvFall, worker))
	case 4:
		return impl.Do(w, event(impl.EvRise, worker))
	case 5, 6:
		return impl.Calm(w, r.Intn(4))
	case 7:
		return impl.Do(w, event(impl.EvLose, r.Intn(len(w.Flight)+1)))
	case 8:
		return impl.Do(w, event(impl.EvDouble, r.Intn(len(w.Flight)+1)))
	}
	return impl.Do(w, event(impl.EvBring, r.Intn(len(w.Flight)+1)))
}

// TestCalmInTwoParts lets rounds go by at once and in two parts.
func TestCalmInTwoParts(t *testing.T) {
	t.Parallel()
	r := rand.New(rand.NewSource(104))
	for range 40 {
		w := worldOf(t, []int{1, 8}[r.Intn(2)], 1+r.Intn(4), randomTree(t, r))
		for range 60 {
			e := likelyEvent(t, r, w)
			w = impl.Do(w, e)
			if r.Intn(4) == 0 {
				if changed := strangeTurn(r, w); impl.ValidWorld(changed) {
					w = changed
				}
			}
		}
		w = do(t, w, event(impl.EvRise, 0), askEvent("a"), askEvent("b"), askEvent("c"), askEvent("d"))
		for _, c := range [][2]int{{0, 0}, {0, 5}, {5, 0}, {1, 1}, {r.Intn(10), r.Intn(30)}, {r.Intn(100), r.Intn(100)}} {
			checkWorld(t, calm(t, calm(t, w, c[0]), c[1]), calm(t, w, c[0]+c[1]))
		}
		if t.Failed() {
			t.FailNow()
		}
	}
	w := do(t, worldOf(t, 8, 3, randomTree(t, r)), askEvent("a"), askEvent("b"))
	for _, a := range []int{1, 7, impl.MaxCalm / 2, impl.MaxCalm - 1, impl.MaxCalm} {
		checkWorld(t, calm(t, calm(t, w, a), impl.MaxCalm-a), calm(t, w, impl.MaxCalm))
	}
}
