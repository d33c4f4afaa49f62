package tests

import (
	"fmt"
	"slices"
	"strconv"
	"strings"
	"testing"

	"loop.example/kiln/impl"
)

func checkCode(t *testing.T, what string, d impl.Did, code int) {
	t.Helper()
	if d.Code != code {
		t.Errorf("%s: code %d, want %d", what, d.Code, code)
	}
}

// readyBoss is a boss with so many runs, a and so on, that are ready, none of which is offered.
func readyBoss(t *testing.T, workers, runs int) impl.Boss {
	t.Helper()
	var makes, names []string
	for c := byte('a'); c < 'a'+byte(runs); c++ {
		makes = append(makes, fmt.Sprintf("%c cat one", c))
		names = append(names, string(c))
	}
	b := well(t, tick(t, asking(t, bossOfTree(t, workers, basicTree(t, makes...)), names...)))
	if len(b.Runs) != runs || len(b.Jobs) != 0 {
		t.Fatalf("runs are %s", runsOf(b))
	}
	return b
}

func TestMostTime(t *testing.T) {
	b := hearing(t, readyBoss(t, 2, 1), 1)
	b.Now = impl.MaxTime - 1
	b.Heard = []int{impl.MaxTime - 4, impl.MaxTime - 5}
	b = well(t, edit(t, asking(t, b, "gone"), clearEntry()))
	last := tick(t, b)
	checkAnswers(t, last, "gone")
	checkAt(t, last.Boss, "a:w1", fmt.Sprintf("a@1<%d", impl.MaxTime+impl.LeaseTicks))
	if last.Boss.Now != impl.MaxTime || len(last.Boss.Log.Loose) != 0 {
		t.Errorf("%+v", last.Boss)
	}
	b = asking(t, well(t, edit(t, last.Boss, clearEntry())), "gone", "one")
	checkDid(t, tick(t, b), impl.Did{Boss: b})
	b = hearing(t, b, 2)
	if b.Heard[1] != impl.MaxTime {
		t.Errorf("heard are %v", b.Heard)
	}
	b = turned(t, b, "a", 1, over(impl.Failed, "", 3))
	checkAt(t, b, "a:o1=1", "")
	checkDid(t, tick(t, b), impl.Did{Boss: b})
	b = rise(t, fall(t, b, 9))
	if !b.Up || b.Now != impl.MaxTime || b.Epoch != 2 {
		t.Errorf("%+v", b)
	}
}

// TestWorkersThatAreThere hears a worker so many ticks ago, early and late.
func TestWorkersThatAreThere(t *testing.T) {
	ready := readyBoss(t, 1, 1)
	for _, now := range []int{0, 1, 2, 3, 4, 5, 6, 100, impl.MaxTime - 1} {
		b := copyOf(ready)
		b.Now = now
		for heard := max(-1, now-8); heard <= now; heard++ {
			b.Heard[0] = heard
			d := tick(t, b)
			isThere := heard != -1 && now+1-heard <= 4
			if isThere != (len(d.Out) == 1) || isThere != (len(d.Boss.Jobs) == 1) || d.Boss.Heard[0] != heard {
				t.Errorf("heard at %d, at %d it is sent %+v", heard, now+1, d.Out)
			}
		}
		b.Heard[0] = -1
		if d := tick(t, b); len(d.Out) != 0 {
			t.Errorf("never heard, at %d it is sent %+v", now+1, d.Out)
		}
	}
	// one of several
	four := readyBoss(t, impl.MaxWorkers, 3)
	four.Now, four.Heard = 20, []int{16, 17, -1, 20}
	checkAt(t, well(t, tick(t, four)), "a:w1 b:w1 c:w1", "a@2<27 b@4<27")
}

func TestFewerWorkersThanRuns(t *testing.T) {
	for workers := 1; workers <= impl.MaxWorkers; workers++ {
		for runs := 1; runs <= 6; runs++ {
			b := readyBoss(t, workers, runs)
			for worker := range workers {
				b = hearing(t, b, workers-worker)
			}
			d := tick(t, b)
			var jobs []string
			for i := range min(workers, runs) {
				jobs = append(jobs, fmt.Sprintf("%c@%d<8", 'a'+i, i+1))
				m := impl.Make{Name: string(rune('a' + i)), Tool: "cat", Arg: "one"}
				if want := offerOf(i+1, 1, b.Edit, m, []impl.Look{catLook()}); len(d.Out) <= i || !sameMessage(d.Out[i], want) {
					t.Errorf("%d workers, %d runs: sent is %+v, want %+v", workers, runs, d.Out, want)
				}
			}
			checkAt(t, d.Boss, runsOf(b), strings.Join(jobs, " "))
			if len(d.Out) != len(jobs) || len(tick(t, d.Boss).Out) != 0 {
				t.Errorf("%d workers, %d runs: sent is %+v", workers, runs, d.Out)
			}
		}
	}
	// whoever is free gets the first that has no job
	b := hearing(t, readyBoss(t, 3, 6), 1, 2, 3)
	b = well(t, tick(t, b))
	b = turned(t, b, "b", 1, stop(false, "gone", 2))
	checkAt(t, well(t, tick(t, b)), "a:w1 b:w2 c:w1 d:w1 e:w1 f:w1", "a@1<8 b@2<9 c@3<8")
	b = turned(t, b, "a", 1, over(impl.Done, "", 4))
	checkAt(t, well(t, tick(t, b)), "a:o1=0 b:w2 c:w1 d:w1 e:w1 f:w1", "b@1<9 c@3<8 d@2<9")
}

func TestLeasesThatEnd(t *testing.T) {
	b := hearing(t, readyBoss(t, 2, 1), 2)
	d := tick(t, b)
	checkAt(t, d.Boss, "a:w1", "a@2<8")
	b = d.Boss
	for b.Now < 8 { // to the last tick of its lease
		d = tick(t, b)
		checkAt(t, d.Boss, "a:w1", "a@2<8")
		if len(d.Out) != 0 {
			t.Errorf("at %d is sent %+v", d.Boss.Now, d.Out)
		}
		b = d.Boss
	}
	gone := tick(t, b)
	checkAt(t, gone.Boss, "a:w1", "")
	for worker := 1; worker <= 2; worker++ {
		d = tick(t, hearing(t, b, worker))
		checkAt(t, d.Boss, "a:w1", fmt.Sprintf("a@%d<15", worker))
		if len(d.Out) != 1 || d.Out[0].To != worker {
			t.Errorf("sent is %+v", d.Out)
		}
	}
	// one whose lease has ended may still tell
	checkAt(t, turned(t, gone.Boss, "a", 1, over(impl.Done, "1", 4)), "a:o1=01", "")
	// of two leases only the one that ends is gone
	two := readyBoss(t, 2, 2)
	two.Now, two.Jobs = 10, []impl.Job{{Name: "a", Worker: 1, Until: 10}, {Name: "b", Worker: 2, Until: 11}}
	checkAt(t, well(t, tick(t, two)), "a:w1 b:w1", "b@2<11")
}

func TestMostRoots(t *testing.T) {
	b := readyBoss(t, 1, 1)
	for i := 1; i < impl.MaxRoots; i++ {
		b = asking(t, b, "r"+strconv.Itoa(i))
	}
	if len(b.Roots) != impl.MaxRoots {
		t.Fatalf("roots are %q", b.Roots)
	}
	checkCode(t, "one more", ask(t, b, "r"), 3)
	checkCode(t, "no name ahead of one more", ask(t, b, ""), 2)
	for _, root := range b.Roots {
		checkDid(t, ask(t, b, root), impl.Did{Boss: b})
	}
	d := tick(t, b)
	checkAnswers(t, d, b.Roots[1:]...)
	if got := asking(t, d.Boss, "z", "r3", "z", "a", "b").Roots; !slices.Equal(got, []string{"a", "z", "r3", "b"}) {
		t.Errorf("roots are %q", got)
	}
}

func TestNamesThatAreNone(t *testing.T) {
	b := richBoss(t)
	for _, name := range wrongNames {
		checkCode(t, fmt.Sprintf("ask of %q", name), ask(t, b, name), 2)
	}
	for _, name := range []string{"~", "!", "\"", xs(impl.MaxName)} {
		if got := well(t, ask(t, b, name)); !slices.Equal(got.Roots, append(slices.Clone(b.Roots), name)) {
			t.Errorf("roots are %q", got.Roots)
		}
	}
}

// TestEdits does each kind of entry, and asks for all that has changed.
func TestEdits(t *testing.T) {
	b := richBoss(t)
	looks := []impl.Look{catLook(), asked("q", res(impl.Failed, "why"))}
	learnt := impl.Make{Name: "q", Tool: "cat", Arg: "q"}
	for _, c := range []struct {
		e      impl.Entry
		form   string
		change func(b *impl.Boss)
	}{
		{fileEntry("one", "2"), "file one \"2\"\n", func(b *impl.Boss) { b.Tree = setFile(t, b.Tree, "one", "2") }},
		{fileEntry("one", "1"), "file one \"1\"\n", func(b *impl.Boss) {}},
		{fileEntry("new", ""), "file new \"\"\n", func(b *impl.Boss) { b.Tree = setFile(t, b.Tree, "new", "") }},
		{dropEntry("one"), "drop one\n", func(b *impl.Boss) { b.Tree = dropFile(t, b.Tree, "one") }},
		{dropEntry("plan"), "drop plan\n", func(b *impl.Boss) { b.Tree = dropFile(t, b.Tree, "plan") }},
		{clearEntry(), "clear\n", func(b *impl.Boss) { b.Store = impl.Store{Width: 8} }},
		{ranEntry(learnt, looks, res(impl.Below, "q")), "ran q cat \"q\"\nask cat 0 \"arg\\0aask\\0aput\\0aend\\0a\"\nask q 1 \"why\"\ngave 5 \"q\"\n", func(b *impl.Boss) { b.Store = keep(t, b.Store, learnt, looks, res(impl.Below, "q")) }},
		{ranEntry(impl.Make{Name: "f", Tool: "cat", Arg: "e"}, []impl.Look{catLook(), asked("e", res(impl.Done, "one"))}, res(impl.Done, "one")), b.Log.Safe[len(b.Log.Safe)-1], func(b *impl.Boss) {}},
	} {
		want := copyOf(b)
		c.change(&want)
		want.Log.Loose = append(want.Log.Loose, c.form)
		if c.e.Kind == impl.EntFile || c.e.Kind == impl.EntDrop {
			want.Edit++
			want.Runs, want.Jobs = nil, nil
		}
		checkDid(t, edit(t, b, c.e), impl.Did{Boss: want})
	}
}

func TestEntriesThatAreNoEdits(t *testing.T) {
	b := richBoss(t)
	for epoch := -1; epoch <= 3; epoch++ {
		checkCode(t, "an epoch", edit(t, b, epochEntry(epoch)), 2)
	}
	for _, kind := range []int{-1, 0, impl.EntClear + 1, 1<<32 + impl.EntClear} {
		checkCode(t, "another kind", edit(t, b, impl.Entry{Kind: kind}), 2)
		e := fileEntry("one", "2")
		e.Kind = kind
		checkCode(t, "another kind", edit(t, b, e), 2)
	}
	for _, name := range wrongNames {
		checkCode(t, "a file that is no name", edit(t, b, fileEntry(name, "")), 2)
		checkCode(t, "a drop that is no name", edit(t, b, dropEntry(name)), 2)
	}
	for _, m := range wrongRuns() {
		checkCode(t, "a run that is none", edit(t, b, ranEntry(m, nil, impl.Result{})), 2)
	}
	for _, looks := range wrongLooks() {
		checkCode(t, "looks that are none", edit(t, b, ranEntry(catRun, looks, impl.Result{})), 2)
	}
	for _, r := range wrongResults() {
		checkCode(t, "a result that is none", edit(t, b, ranEntry(catRun, []impl.Look{catLook()}, r)), 2)
	}
	checkCode(t, "a text too long", edit(t, b, fileEntry("one", xs(impl.MaxText+1))), 2)
	well(t, edit(t, b, fileEntry("one", xs(impl.MaxText))))
	// what is not used is nothing
	for _, field := range entryFields {
		e := clearEntry()
		field.set(&e)
		checkCode(t, "clear with "+field.name, edit(t, b, e), 2)
	}
}

func TestEditsThatCannotBeDone(t *testing.T) {
	b := richBoss(t)
	for _, name := range []string{"a", "gone", "plan2", "wor", "wordy"} {
		checkCode(t, "drop of "+name, edit(t, b, dropEntry(name)), 3)
	}
	for len(b.Tree.Files) < impl.MaxFiles {
		b = well(t, edit(t, b, fileEntry("f"+strconv.Itoa(len(b.Tree.Files)), "")))
	}
	checkCode(t, "one file more", edit(t, b, fileEntry("f", "")), 3)
	well(t, edit(t, b, fileEntry("one", "changed")))
	well(t, edit(t, well(t, edit(t, b, dropEntry("one"))), fileEntry("f", "")))
}

// TestStrangersAreLookedAt tells runs that Go does not say.
func TestStrangersAreLookedAt(t *testing.T) {
	b := richBoss(t)
	m, most := askingRun(impl.MaxLooks - 1)
	well(t, edit(t, b, ranEntry(m, most, impl.Result{})))
	one := asked("a", res(impl.Done, "one"))
	well(t, edit(t, b, ranEntry(catRun, []impl.Look{catLook(), one}, res(impl.Done, "one"))))
	for i, c := range []struct {
		looks []impl.Look
		r     impl.Result
	}{
		{nil, impl.Result{}}, {nil, res(impl.Done, "one")}, {[]impl.Look{catLook()}, impl.Result{}}, {[]impl.Look{catLook()}, res(impl.Done, "one")}, // it is not over
		{[]impl.Look{catLook(), one}, impl.Result{}}, {[]impl.Look{catLook(), one}, res(impl.Failed, "one")}, {[]impl.Look{catLook(), one}, res(impl.Done, "two")}, // with another result
		{[]impl.Look{catLook(), one, one}, res(impl.Done, "one")}, {[]impl.Look{one, catLook()}, res(impl.Done, "one")}, {[]impl.Look{catLook(), found("a")}, res(impl.Done, "one")}, {[]impl.Look{one}, res(impl.Done, "one")}, // with looks that it does not make
		{[]impl.Look{catLook(), one, one}, impl.Result{}}, {[]impl.Look{found("cat")}, impl.Result{}},
		{[]impl.Look{asked("cat", res(impl.Missing, "cat"))}, res(impl.Below, "cat")}, {[]impl.Look{asked("cat", res(impl.Done, "x"))}, res(impl.Done, "x")},
	} {
		checkCode(t, fmt.Sprint("lie ", i), edit(t, b, ranEntry(catRun, c.looks, c.r)), 3)
	}
	for looks := range impl.MaxLooks {
		checkCode(t, "a run cut short", edit(t, b, ranEntry(m, most[:looks], impl.Result{})), 3)
	}
}

func TestMostEdits(t *testing.T) {
	b := richBoss(t)
	b.Edit = impl.MaxEdits - 1
	last := well(t, edit(t, b, fileEntry("one", "2")))
	if last.Edit != impl.MaxEdits {
		t.Errorf("edit is %d", last.Edit)
	}
	well(t, edit(t, b, dropEntry("one")))
	b.Edit = impl.MaxEdits
	for _, b := range []impl.Boss{last, b} {
		checkCode(t, "a file at the limit", edit(t, b, fileEntry("one", "3")), 3)
		checkCode(t, "a drop at the limit", edit(t, b, dropEntry("one")), 3)
		checkCode(t, "no form at the limit", edit(t, b, dropEntry("")), 2)
		cleared := well(t, edit(t, b, clearEntry()))
		learnt := well(t, edit(t, cleared, ranEntry(catRun, []impl.Look{asked("cat", res(impl.Missing, "cat"))}, res(impl.Missing, "cat"))))
		if learnt.Edit != impl.MaxEdits || len(learnt.Store.Records) != 1 || runsOf(learnt) != runsOf(b) {
			t.Errorf("%+v", learnt)
		}
	}
	d := tick(t, hearing(t, b, 1, 2, 3))
	if len(d.Out) != 1 || d.Out[0].Edit != impl.MaxEdits {
		t.Errorf("sent is %+v", d.Out)
	}
	if r := rise(t, fall(t, last, 99)); r.Edit != 0 || well(t, edit(t, r, fileEntry("one", "3"))).Edit != 1 {
		t.Errorf("%+v", r)
	}
}

// nearlyFull is a ready boss, of a worker that is there, with so many entries in its log.
func nearlyFull(t *testing.T, entries int) impl.Boss {
	t.Helper()
	safe := []string{"file cat \"arg\\0aask\\0aput\\0aend\\0a\"\n", "file one \"1\"\n", "file plan \"make a cat \\22one\\22\\0a\"\n"}
	safe = append(safe, slices.Repeat([]string{"clear\n"}, entries-len(safe)-1)...)
	b := hearing(t, asking(t, bossOfLog(t, 8, 1, safe...), "a"), 1)
	b = well(t, tick(t, b))
	checkAt(t, b, "a:w1", "a@1<7")
	return b
}

func TestMostEntries(t *testing.T) {
	learnt := ranEntry(catRun, []impl.Look{asked("cat", res(impl.Missing, "cat"))}, res(impl.Missing, "cat"))
	end := over(impl.Done, "1", 4)
	full := nearlyFull(t, impl.MaxLog)
	for _, e := range []impl.Entry{fileEntry("one", "2"), dropEntry("one"), clearEntry(), learnt} {
		b := well(t, edit(t, nearlyFull(t, impl.MaxLog-1), e))
		if len(logOf(b)) != impl.MaxLog {
			t.Errorf("the log has %d entries", len(logOf(b)))
		}
		for _, b := range []impl.Boss{b, full} {
			checkCode(t, "a full log", edit(t, b, e), 3)
		}
	}
	checkCode(t, "no form with a full log", edit(t, full, epochEntry(2)), 2)
	// the run is over all the same, but nobody remembers it
	b := turned(t, full, "a", 1, end)
	checkAt(t, b, "a:o1=01", "")
	if len(logOf(b)) != impl.MaxLog || len(b.Store.Records) != 0 || len(b.Store.Texts) != 0 {
		t.Errorf("%d entries, store %+v", len(logOf(b)), b.Store)
	}
	if d := tick(t, b); len(d.Answers) != 1 || d.Answers[0].Result != end.Result {
		t.Errorf("answers are %+v", d.Answers)
	}
	b = turned(t, nearlyFull(t, impl.MaxLog-1), "a", 1, end)
	checkAt(t, b, "a:o1=01", "")
	if len(logOf(b)) != impl.MaxLog || len(b.Store.Records) != 1 {
		t.Errorf("%d entries, store %+v", len(logOf(b)), b.Store)
	}
	// a full log keeps a boss from rising, unless its end is lost
	down := fall(t, full, 0)
	checkBoss(t, rise(t, down), down)
	if r := rise(t, fall(t, b, 0)); !r.Up || r.Epoch != 2 || len(logOf(r)) != impl.MaxLog {
		t.Errorf("up is %v, epoch %d, %d entries", r.Up, r.Epoch, len(logOf(r)))
	}
	down = fall(t, b, 1)
	checkBoss(t, rise(t, down), down)
	packed := well(t, pack(t, full))
	if len(packed.Log.Safe) != 4 {
		t.Errorf("packed it has %q", packed.Log.Safe)
	}
	well(t, edit(t, packed, clearEntry()))
}

func TestMostEpochs(t *testing.T) {
	var epochs []string
	for epoch := 1; epoch <= impl.MaxEpoch; epoch++ {
		epochs = append(epochs, fmt.Sprintf("epoch %d\n", epoch))
	}
	b := bossOfLog(t, 8, 1, epochs[:impl.MaxEpoch-1]...)
	if b.Epoch != impl.MaxEpoch || !slices.Equal(b.Log.Loose, epochs[impl.MaxEpoch-1:]) {
		t.Errorf("epoch %d, %q", b.Epoch, b.Log.Loose)
	}
	again := rise(t, fall(t, b, 0)) // the last epoch was lost, and no message bears it
	checkBoss(t, again, b)
	down := fall(t, b, 1)
	checkBoss(t, rise(t, down), down)
	down = fall(t, well(t, tick(t, b)), 0)
	checkBoss(t, rise(t, down), down)
	packed := well(t, pack(t, well(t, tick(t, b))))
	if !slices.Equal(packed.Log.Safe, epochs) {
		t.Errorf("packed it has %q", packed.Log.Safe)
	}
}

// TestRisesUpToTheLimit falls and rises with a tick between, so that each epoch counts.
func TestRisesUpToTheLimit(t *testing.T) {
	b := impl.NewBoss(8, 1)
	for epoch := 1; epoch <= impl.MaxEpoch; epoch++ {
		if !b.Up || b.Epoch != epoch {
			t.Fatalf("behind %d rises: %+v", epoch-1, b)
		}
		b = rise(t, fall(t, well(t, tick(t, b)), 0))
	}
	if b.Up || b.Now != impl.MaxEpoch {
		t.Errorf("it is Up at epoch %d, at %d", b.Epoch, b.Now)
	}
}

func TestMostLooksOfARun(t *testing.T) {
	ready := readyBoss(t, 1, 2)
	most, _ := looksAndLines(impl.MaxLooks)
	with := func(looks int, wait string) impl.Boss {
		b := copyOf(ready)
		b.Runs[0].Looks, b.Runs[0].Wait = most[:looks], wait
		b.Jobs = nil
		if wait == "" {
			b.Jobs = []impl.Job{{Name: "a", Worker: 1, Until: b.Now + 3}}
		}
		return b
	}
	last := impl.MaxLooks - 1
	b := turned(t, with(last, ""), "a", last, stop(true, "b", 9))
	checkAt(t, b, "a:w15 b:w1", "")
	if !slices.Equal(b.Runs[0].Looks, append(slices.Clone(most[:last]), found("b"))) {
		t.Errorf("looks are %+v", b.Runs[0].Looks)
	}
	b = turned(t, with(last, ""), "a", last, stop(false, "gone", 9))
	checkAt(t, b, "a:w14>gone b:w1", "")
	checkAt(t, well(t, tick(t, b)), "a:w15 b:w1", "a@1<8")
	// no look goes behind the last one
	full := with(impl.MaxLooks, "")
	for _, turn := range []impl.Turn{stop(true, "b", 9), stop(true, "gone", 9), stop(false, "b", 9), stop(false, "one", 9)} {
		want := copyOf(full)
		want.Heard[0] = want.Now
		checkBoss(t, turned(t, full, "a", impl.MaxLooks, turn), want)
	}
	b = turned(t, full, "a", impl.MaxLooks, over(impl.Spent, "", 9))
	checkAt(t, b, "a:o15=3 b:w1", "")
	if len(b.Log.Loose) != 1 || len(b.Store.Records) != 1 || len(b.Store.Records[0].Looks) != impl.MaxLooks {
		t.Errorf("%+v", b)
	}
	for _, wait := range []string{"one", "gone", "cat"} {
		checkAt(t, well(t, tick(t, with(last, wait))), "a:w15 b:w1", "")
		checkAt(t, well(t, tick(t, with(impl.MaxLooks, wait))), "a:w15>"+wait+" b:w1", "")
	}
	checkAt(t, well(t, tick(t, with(last, "b"))), "a:w14>b b:w1", "")
	// the offer tells all of them
	if d := tick(t, hearing(t, func() impl.Boss { b := copyOf(full); b.Jobs = nil; return b }(), 1)); len(d.Out) != 1 || !slices.Equal(d.Out[0].Looks, most) {
		t.Errorf("sent is %+v", d.Out)
	}
}

func TestMostWorkers(t *testing.T) {
	for workers := 1; workers <= impl.MaxWorkers; workers++ {
		b := readyBoss(t, workers, 1)
		end := over(impl.Done, "1", 4)
		for from := 1; from <= impl.MaxWorkers; from++ {
			here, told := take(t, b, hereOf(from)), take(t, b, turnOf(from, 1, b.Edit, "a", 1, end))
			if from > workers {
				checkDid(t, here, impl.Did{Boss: b})
				checkDid(t, told, impl.Did{Boss: b})
				continue
			}
			want := copyOf(b)
			want.Heard[from-1] = want.Now
			checkDid(t, here, impl.Did{Boss: want})
			checkAt(t, well(t, told), "a:o1=01", "")
			if !slices.Equal(told.Boss.Heard, want.Heard) {
				t.Errorf("heard are %v, want %v", told.Boss.Heard, want.Heard)
			}
		}
	}
}

// TestTurnsThatAreNotTaken brings turns of another epoch, edit or count, and of runs that do not wait for one; all of them are heard.
func TestTurnsThatAreNotTaken(t *testing.T) {
	b := richBoss(t) // a is over, c and f wait, b, d and e are ready with a look each
	b.Epoch, b.Log.Loose = 2, append(b.Log.Loose, "epoch 2\n")
	good := turnOf(3, 2, b.Edit, "b", 1, stop(false, "one", 3))
	checkAt(t, well(t, take(t, b, good)), "a:o2=01 b:w1>one c:w1>c d:w1 e:w1 f:r1>e", "d@2<12")
	want := copyOf(b)
	want.Heard[2] = want.Now
	for _, m := range []impl.Message{
		turnOf(3, 1, b.Edit, "b", 1, good.Turn), turnOf(3, 3, b.Edit, "b", 1, good.Turn), turnOf(3, 2, b.Edit-1, "b", 1, good.Turn), turnOf(3, 2, b.Edit+1, "b", 1, good.Turn), turnOf(3, 2, 0, "b", 1, good.Turn),
		turnOf(3, 2, b.Edit, "b", 0, good.Turn), turnOf(3, 2, b.Edit, "b", 2, good.Turn), turnOf(3, 2, b.Edit, "b", impl.MaxLooks, good.Turn),
		turnOf(3, 2, b.Edit, "a", 2, good.Turn), turnOf(3, 2, b.Edit, "c", 1, good.Turn), turnOf(3, 2, b.Edit, "f", 1, good.Turn), turnOf(3, 2, b.Edit, "g", 1, good.Turn), turnOf(3, 2, b.Edit, "one", 1, good.Turn), turnOf(3, 2, b.Edit, "cat", 0, good.Turn),
	} {
		checkDid(t, take(t, b, m), impl.Did{Boss: want})
		for _, turn := range []impl.Turn{over(impl.Done, "lie", 4), stop(true, "one", 3)} {
			m.Turn = turn
			checkDid(t, take(t, b, m), impl.Did{Boss: want})
		}
	}
	checkDid(t, take(t, b, hereOf(3)), impl.Did{Boss: want})
}

func TestMessagesThatAreNone(t *testing.T) {
	b := richBoss(t)
	good := turnOf(3, 1, b.Edit, "b", 1, stop(false, "one", 3))
	wrong := []impl.Message{{}, {From: 3}, {Kind: 4, From: 3}, {Kind: -1, From: 3}, {Kind: impl.MsgOffer, From: 3}, hereOf(0), hereOf(-1), hereOf(4), hereOf(5), hereOf(1<<32 + 3), offerOf(3, 1, b.Edit, catRun, nil), offerOf(3, 1, b.Edit, impl.Make{Name: "b", Tool: "two", Arg: "one\na"}, []impl.Look{catLook()})}
	for _, from := range []int{0, -1, 4, 5, 1<<32 + 3} {
		m := good
		m.From = from
		wrong = append(wrong, m)
	}
	for _, turn := range wrongTurns() {
		m := good
		m.Turn = turn
		wrong = append(wrong, m)
	}
	for _, field := range messageFields {
		switch field.name {
		case "to", "make", "looks":
			m := good
			field.set(&m)
			here := hereOf(3)
			field.set(&here)
			wrong = append(wrong, m, here)
		case "epoch", "edit", "name", "count", "turn":
			here := hereOf(3)
			field.set(&here)
			wrong = append(wrong, here)
		}
	}
	for _, change := range []func(m *impl.Message){
		func(m *impl.Message) { m.Epoch = impl.MaxEpoch + 1 }, func(m *impl.Message) { m.Epoch = 0 }, func(m *impl.Message) { m.Edit = -1 }, func(m *impl.Message) { m.Edit = impl.MaxEdits + 1 },
		func(m *impl.Message) { m.Count = -1 }, func(m *impl.Message) { m.Count = impl.MaxLooks + 1 }, func(m *impl.Message) { m.Turn.Steps = -1 }, func(m *impl.Message) { m.Turn.Steps = impl.MaxSteps + 1 }, func(m *impl.Message) { m.Make.Name = "" },
	} {
		m := good
		change(&m)
		wrong = append(wrong, m)
	}
	for _, m := range wrong {
		if form := impl.FormMessage(m, "k"); form != "" && m.Kind != impl.MsgOffer && m.From <= 3 {
			t.Errorf("%+v has a form", m)
		}
		checkDid(t, take(t, b, m), impl.Did{Boss: b})
	}
}

// TestRunsThatKeepRefuses ends runs that can't be remembered: for a text with the sum of another one, or for want of room.
func TestRunsThatKeepRefuses(t *testing.T) {
	formA, formB := textTwins(t, 1)
	twin, _ := impl.ReadResult(formA)
	other, _ := impl.ReadResult(formB)
	files := []string{"file cat \"" + "arg\\0aask\\0aput\\0aend\\0a\"\n", "file one \"1\"\n", "file plan \"make a cat \\22one\\22\\0a\"\n"}
	var rans, small []string // with two texts each, and with the same ones all
	for i := range impl.MaxRecords {
		n := strconv.Itoa(i)
		made := impl.Make{Name: "x", Tool: "cat", Arg: n}
		rans = append(rans, formsOf(t, ranEntry(made, []impl.Look{asked("x", res(impl.Done, n))}, res(impl.Failed, n)))...)
		small = append(small, formsOf(t, ranEntry(made, nil, impl.Result{}))...)
	}
	for _, c := range []struct {
		what  string
		width int
		rans  []string
		r     impl.Result
		keeps bool
	}{
		{"a twin", 1, formsOf(t, ranEntry(catRun, nil, other)), twin, false},
		{"the same text", 1, formsOf(t, ranEntry(catRun, nil, twin)), twin, impl.Sum(impl.FormResult(twin), 1) != impl.Sum(impl.FormResult(catLook().Result), 1)},
		{"a twin with a greater width", 8, formsOf(t, ranEntry(catRun, nil, other)), twin, true},
		{"a full store", 8, rans, res(impl.Done, "1"), false},
		{"a full store that is cleared", 8, append(slices.Clone(rans), "clear\n"), res(impl.Done, "1"), true},
		{"no room for a record", 8, small, res(impl.Done, "1"), false},
		{"room for a record", 8, small[1:], res(impl.Done, "1"), true},
		{"room for a record and two texts", 8, rans[1:], res(impl.Done, "fresh"), true},
		{"room for a record, but for one text only", 8, append(slices.Clone(rans[2:]), formsOf(t, ranEntry(catRun, []impl.Look{asked("x", res(impl.Done, "p")), asked("x", res(impl.Done, "q"))}, res(impl.Done, "r")))...), res(impl.Done, "fresh"), false},
	} {
		b := bossOfLog(t, c.width, 1, append(slices.Clone(files), c.rans...)...)
		b = well(t, tick(t, asking(t, b, "a")))
		checkAt(t, b, "a:w1", "")
		made := impl.Make{Name: "a", Tool: "cat", Arg: "one"}
		store, code := impl.Keep(b.Store, made, b.Runs[0].Looks, c.r)
		if c.keeps != (code == 0) {
			t.Fatalf("%s: keep has code %d", c.what, code)
		}
		want := copyOf(b)
		want.Runs[0].Mode, want.Runs[0].Result = impl.RunOver, c.r
		want.Heard[0] = want.Now
		if c.keeps {
			want.Store = store
			want.Log.Loose = formsOf(t, ranEntry(made, b.Runs[0].Looks, c.r))
		}
		checkBoss(t, turned(t, b, "a", 1, impl.Turn{Over: true, Result: c.r}), want)
		if d := edit(t, b, ranEntry(made, []impl.Look{catLook(), asked("one", c.r)}, c.r)); d.Code == 0 != c.keeps {
			t.Errorf("%s: learnt with code %d", c.what, d.Code)
		}
	}
}

// TestPacks packs logs that hold more than counts.
func TestPacks(t *testing.T) {
	b := richBoss(t)
	checkCode(t, "a loose log", pack(t, b), 3)
	b = well(t, tick(t, b))
	rans := slices.DeleteFunc(slices.Clone(b.Log.Safe), func(s string) bool { return !strings.HasPrefix(s, "ran ") })
	var files []string
	for _, f := range b.Tree.Files {
		files = append(files, formsOf(t, fileEntry(f.Name, f.Text))...)
	}
	if len(rans) != 3 {
		t.Fatalf("rans are %q", rans)
	}
	packed := well(t, pack(t, b))
	if want := slices.Concat([]string{"epoch 1\n"}, files, rans); !slices.Equal(packed.Log.Safe, want) {
		t.Errorf("packed it has %q, want %q", packed.Log.Safe, want)
	}
	checkDid(t, pack(t, packed), impl.Did{Boss: packed})
	// changes that others undo, a run told twice, and a rise
	for _, e := range []impl.Entry{fileEntry("new", "1"), fileEntry("one", "2"), fileEntry("one", "1"), dropEntry("new"), dropEntry("word"), fileEntry("word", "one")} {
		b = well(t, edit(t, b, e))
	}
	b = rise(t, fall(t, b, 6))
	learnt, _ := impl.ReadEntry(rans[2])
	b = well(t, tick(t, well(t, edit(t, b, learnt))))
	packed = well(t, pack(t, b))
	if want := slices.Concat([]string{"epoch 1\n", "epoch 2\n"}, files, rans, rans[2:]); !slices.Equal(packed.Log.Safe, want) {
		t.Errorf("packed it has %q, want %q", packed.Log.Safe, want)
	}
	// behind a clearing, and behind the last of two
	b = well(t, edit(t, well(t, edit(t, b, clearEntry())), learnt))
	b = well(t, tick(t, b))
	packed = well(t, pack(t, b))
	if want := slices.Concat([]string{"epoch 1\n", "epoch 2\n"}, files, rans[2:]); !slices.Equal(packed.Log.Safe, want) {
		t.Errorf("packed it has %q, want %q", packed.Log.Safe, want)
	}
	b = well(t, tick(t, well(t, edit(t, b, clearEntry()))))
	packed = well(t, pack(t, b))
	if want := slices.Concat([]string{"epoch 1\n", "epoch 2\n"}, files); !slices.Equal(packed.Log.Safe, want) {
		t.Errorf("packed it has %q, want %q", packed.Log.Safe, want)
	}
	if r := rise(t, fall(t, packed, 0)); r.Epoch != 3 || !same(r.Tree, b.Tree) || !same(r.Store, b.Store) {
		t.Errorf("%+v", r)
	}
	checkCode(t, "a new boss", pack(t, impl.NewBoss(8, 1)), 3)
	if b := well(t, pack(t, well(t, tick(t, impl.NewBoss(8, 1))))); !slices.Equal(b.Log.Safe, []string{"epoch 1\n"}) {
		t.Errorf("packed it has %q", b.Log.Safe)
	}
}

// TestFallsAndRises falls with every number of entries to keep.
func TestFallsAndRises(t *testing.T) {
	loose := bossOfTree(t, 2, richTree(t))
	both := richBoss(t)
	both = well(t, edit(t, well(t, edit(t, both, dropEntry("word"))), clearEntry()))
	for _, b := range []impl.Boss{loose, both, rise(t, fall(t, both, 1)), well(t, tick(t, both))} {
		n := len(b.Log.Loose)
		for _, keep := range append([]int{-1 << 63, -2, n + 1, n + 2, 1<<63 - 1}, slices.Collect(func(yield func(int) bool) {
			for keep := -1; keep <= n && yield(keep); keep++ {
			}
		})...) {
			left := slices.Concat(b.Log.Safe, b.Log.Loose[:max(0, min(n, keep))])
			down := fall(t, b, keep)
			checkBoss(t, down, impl.Boss{Width: b.Width, Now: b.Now, Log: impl.Log{Safe: left}, Heard: slices.Repeat([]int{-1}, len(b.Heard))})
			memory := impl.Replay(left, b.Width)
			want := copyOf(down)
			want.Up, want.Epoch, want.Tree, want.Store = true, memory.Epoch+1, memory.Tree, memory.Store
			want.Log.Loose = []string{fmt.Sprintf("epoch %d\n", memory.Epoch+1)}
			up := rise(t, down)
			checkBoss(t, up, want)
			checkBoss(t, rise(t, up), up)
			checkBoss(t, fall(t, down, keep), down)
		}
		checkBoss(t, rise(t, b), b)
	}
	// one that is not Up and has a loose log
	down := impl.Boss{Width: 8, Log: impl.Log{Safe: []string{"epoch 1\n"}, Loose: []string{"clear\n", "file a \"\"\n"}}, Heard: []int{-1}}
	if up := rise(t, down); up.Epoch != 2 || len(up.Tree.Files) != 1 || !slices.Equal(up.Log.Loose, []string{"clear\n", "file a \"\"\n", "epoch 2\n"}) || !slices.Equal(up.Log.Safe, down.Log.Safe) {
		t.Errorf("%+v", up)
	}
	for keep, safe := range [][]string{{"epoch 1\n"}, {"epoch 1\n", "clear\n"}, {"epoch 1\n", "clear\n", "file a \"\"\n"}} {
		checkBoss(t, fall(t, down, keep), impl.Boss{Width: 8, Log: impl.Log{Safe: safe}, Heard: []int{-1}})
	}
}
