package tests

import (
	"fmt"
	"slices"
	"strings"
	"testing"

	"loop.example/kiln/impl"
)

// yard is a boss with workers that do all that they are offered, over links on which nothing is lost.
type yard struct {
	boss    impl.Boss
	workers []impl.Worker
	offers  []impl.Message
	answers []impl.Answer
}

func yardOf(b impl.Boss) *yard {
	y := &yard{boss: b}
	for i := range b.Heard {
		y.workers = append(y.workers, impl.Worker{Number: i + 1, Up: true})
	}
	return y
}

// round lets all tick and brings what they send; answers and runs that are over are held against what is wanted.
func (y *yard) round(t *testing.T) {
	t.Helper()
	roots := y.boss.Roots
	d := tick(t, y.boss)
	y.boss = well(t, d)
	var names []string
	for _, a := range d.Answers {
		names = append(names, a.Name)
	}
	checkAnswers(t, d, names...)
	left := slices.DeleteFunc(slices.Clone(roots), func(root string) bool { return slices.Contains(names, root) })
	if !slices.Equal(left, y.boss.Roots) {
		t.Errorf("of the roots %q, with %q answered, %q are left", roots, names, y.boss.Roots)
	}
	y.answers = append(y.answers, d.Answers...)
	y.offers = append(y.offers, d.Out...)
	for _, m := range d.Out {
		y.workers[m.To-1] = impl.WorkerTake(y.workers[m.To-1], m)
	}
	for i := range y.workers {
		var out []impl.Message
		y.workers[i], out = impl.WorkerTick(y.workers[i])
		for _, m := range out {
			y.boss = well(t, take(t, y.boss, m))
		}
	}
	checkRunsOver(t, y.boss)
}

// checkRunsOver asks that the runs that are over have come to what is wanted.
func checkRunsOver(t *testing.T, b impl.Boss) {
	t.Helper()
	for _, run := range b.Runs {
		if run.Mode == impl.RunOver && (run.Result != impl.Want(b.Tree, run.Name) || !slices.Equal(run.Looks, impl.Looks(b.Tree, run.Name))) {
			t.Errorf("%+v is over, wanted is %+v with %+v", run, impl.Want(b.Tree, run.Name), impl.Looks(b.Tree, run.Name))
		}
	}
}

// answered goes through rounds until all roots are answered, and gives how many there were.
func (y *yard) answered(t *testing.T) int {
	t.Helper()
	most := 20 + 34*len(impl.Plan(y.boss.Tree))
	for rounds := range most {
		if len(y.boss.Roots) == 0 {
			return rounds
		}
		y.round(t)
	}
	t.Errorf("behind %d rounds %q are not answered", most, y.boss.Roots)
	return most
}

// offered are the names of what was offered since it was last asked, each once, in order.
func (y *yard) offered() string {
	var names []string
	for _, m := range y.offers {
		names = append(names, m.Make.Name)
	}
	y.offers = nil
	slices.Sort(names)
	return strings.Join(slices.Compact(names), " ")
}

func TestAllKindsOfThingsAreMade(t *testing.T) {
	tree := basicTree(t, "a cat one", "b two one,a", "c fail why", "d cat c", "e has c", "f cat gone", "g cat f", "h loop ", "i follow word", "j gone one", "k empty one", "l b one")
	for workers := 1; workers <= impl.MaxWorkers; workers++ {
		names := []string{"l", "b", "a", "c", "d", "e", "one", "f", "g", "nothing"}
		y := yardOf(asking(t, bossOfTree(t, workers, tree), names...))
		y.answered(t)
		for _, name := range []string{"h", "i", "j", "k"} {
			y.boss = asking(t, y.boss, name)
		}
		y.answered(t)
		if len(y.answers) != 14 || len(y.boss.Runs) != 12 || len(y.boss.Store.Records) != 12 {
			t.Errorf("%d workers: %d answers, runs %s", workers, len(y.answers), runsOf(y.boss))
		}
		if offered := y.offered(); offered != "a b c d e f g h i j k l" {
			t.Errorf("%d workers: offered are %s", workers, offered)
		}
	}
}

// TestTurnByTurn leads two runs, one of a look of Has, by hand.
func TestTurnByTurn(t *testing.T) {
	tree := treeOf(t, "cat", catTool, "if", ifHasTool, "one", "1", "plan", planText(t, "x if y,y", "y cat one"))
	b := bossOfTree(t, 2, tree)
	b = asking(t, b, "x", "gone")
	d := tick(t, b)
	checkAt(t, d.Boss, "x:w1", "")
	checkAnswers(t, d, "gone")
	if d.Boss.Now != 1 || len(d.Out) != 0 || len(d.Boss.Log.Loose) != 0 || !slices.Equal(d.Boss.Log.Safe, b.Log.Loose) || !slices.Equal(d.Boss.Roots, []string{"x"}) {
		t.Errorf("%+v", d)
	}
	b = hearing(t, d.Boss, 2)
	if !slices.Equal(b.Heard, []int{-1, 1}) {
		t.Errorf("heard are %v", b.Heard)
	}
	d = tick(t, b)
	x := impl.Make{Name: "x", Tool: "if", Arg: "y\ny"}
	looks := []impl.Look{asked("if", res(impl.Done, ifHasTool))}
	want := impl.Did{Boss: b, Out: []impl.Message{offerOf(2, 1, 4, x, looks)}}
	want.Boss.Now, want.Boss.Jobs = 2, []impl.Job{{Name: "x", Worker: 2, Until: 8}}
	checkDid(t, d, want)
	// the look of Has is answered at once, and has to be offered anew
	b = turned(t, d.Boss, "x", 1, stop(true, "y", 3))
	looks = append(looks, found("y"))
	checkAt(t, b, "x:w2", "")
	if !slices.Equal(b.Runs[0].Looks, looks) || !slices.Equal(b.Heard, []int{2, 1}) {
		t.Errorf("%+v", b)
	}
	d = tick(t, b)
	checkAt(t, d.Boss, "x:w2", "x@1<9")
	if !slices.EqualFunc(d.Out, []impl.Message{offerOf(1, 1, 4, x, looks)}, sameMessage) {
		t.Errorf("sent is %+v", d.Out)
	}
	b = turned(t, d.Boss, "x", 2, stop(false, "y", 8))
	checkAt(t, b, "x:w2>y y:r0", "")
	d = tick(t, b)
	checkAt(t, d.Boss, "x:w2>y y:w1", "y@1<10")
	b = turned(t, d.Boss, "y", 1, stop(false, "one", 2))
	checkAt(t, b, "x:w2>y y:w1>one", "")
	d = tick(t, b)
	checkAt(t, d.Boss, "x:w2>y y:w2", "y@1<11")
	b = turned(t, d.Boss, "y", 2, over(impl.Done, "1", 4))
	checkAt(t, b, "x:w2>y y:o2=01", "")
	ran := "ran y cat \"one\"\nask cat 0 \"arg\\0aask\\0aput\\0aend\\0a\"\nask one 0 \"1\"\ngave 0 \"1\"\n"
	if !slices.Equal(b.Log.Loose, []string{ran}) || !same(b.Store, keep(t, impl.Store{Width: 8}, impl.Make{Name: "y", Tool: "cat", Arg: "one"}, b.Runs[1].Looks, res(impl.Done, "1"))) {
		t.Errorf("log %q, store %+v", b.Log.Loose, b.Store)
	}
	d = tick(t, b)
	checkAt(t, d.Boss, "x:w3 y:o2=01", "x@1<12")
	b = turned(t, d.Boss, "x", 3, over(impl.Done, "1", 10))
	checkAt(t, b, "x:o3=01 y:o2=01", "")
	d = tick(t, b)
	checkAnswers(t, d, "x")
	checkAt(t, d.Boss, "x:o3=01 y:o2=01", "")
	if len(d.Boss.Roots) != 0 || len(d.Boss.Log.Safe) != 7 || len(d.Out) != 0 {
		t.Errorf("%+v", d)
	}
}

// TestRecalledAndMadeAnew changes files that count and files that do not.
func TestRecalledAndMadeAnew(t *testing.T) {
	// s says whether a is 1, and t puts that together with b: what a is counts for t only by s
	tree := treeOf(t, "cat", catTool, "if", ifTool, "two", twoTool, "has", hasTool, "a", "1", "b", "bee", "yes", "y", "no", "n", "plan", planText(t, "s if a,yes,no", "t two s,b", "u cat t", "v has a"))
	y := yardOf(asking(t, bossOfTree(t, 2, tree), "u", "v"))
	check := func(what string, e impl.Entry, offered string) {
		t.Helper()
		y.offered()
		y.boss = asking(t, well(t, edit(t, y.boss, e)), "u", "v")
		if e.Kind == impl.EntFile && len(y.boss.Runs)+len(y.boss.Jobs) > 0 {
			t.Errorf("%s: runs %s are left", what, runsOf(y.boss))
		}
		y.answered(t)
		if got := y.offered(); got != offered {
			t.Errorf("%s: made anew are %q, want %q", what, got, offered)
		}
	}
	y.answered(t)
	if got := y.offered(); got != "s t u v" {
		t.Errorf("made are %s", got)
	}
	check("elsewhere", fileEntry("zz", "1"), "")
	check("the same text", fileEntry("a", "1"), "")
	check("no longer 1", fileEntry("a", "2"), "s t u")
	check("not 1 either: cut off behind s", fileEntry("a", "3"), "s")
	check("1 again", fileEntry("a", "1"), "")
	check("b", fileEntry("b", "boo"), "t u")
	check("b as before", fileEntry("b", "bee"), "")
	check("a is gone", dropEntry("a"), "s t u v")
	check("a is there", fileEntry("a", "3"), "")
	check("another tool", fileEntry("cat", "lit \"\"\n"+catTool), "u")
	check("learnt what is there", ranEntry(impl.Make{Name: "q", Tool: "cat", Arg: "q"}, []impl.Look{asked("cat", res(impl.Missing, "cat"))}, res(impl.Missing, "cat")), "")
	check("all is over, and stays so", clearEntry(), "")
	check("behind a clearing all is made", fileEntry("zz", "2"), "s t u v")
}

// TestLearning tells a boss runs that it then needs no workers for.
func TestLearning(t *testing.T) {
	tree := basicTree(t, "a cat one", "b two one,a", "c cat b", "d has c")
	b := bossOfTree(t, 1, tree)
	for _, d := range knownOf(tree) {
		other := d.Make
		other.Name = "other"
		b = well(t, edit(t, b, ranEntry(other, d.Looks, d.Result)))
	}
	before := copyOf(b)
	if b.Edit != len(tree.Files) || len(b.Store.Records) != 4 || len(b.Log.Loose) != 1+len(tree.Files)+4 {
		t.Errorf("%+v", b)
	}
	d := tick(t, asking(t, b, "d", "c"))
	checkAnswers(t, d, "d", "c")
	checkAt(t, d.Boss, "a:o2=01 b:o3=011 c:o2=011 d:o2=01", "")
	b = well(t, edit(t, d.Boss, clearEntry()))
	if b.Edit != before.Edit || runsOf(b) != runsOf(d.Boss) || !same(b.Store, impl.Store{Width: 8}) || !slices.Equal(b.Log.Loose, []string{"clear\n"}) || !same(b.Tree, before.Tree) {
		t.Errorf("%+v", b)
	}
	// what is learnt while a run waits in recall leads it on; what is cleared then lets workers do it
	b = asking(t, before, "c")
	b = well(t, edit(t, b, clearEntry()))
	deeds := knownOf(tree)
	b = well(t, edit(t, b, ranEntry(deeds[2].Make, deeds[2].Looks, deeds[2].Result)))
	waits := well(t, tick(t, hearing(t, b, 1)))
	checkAt(t, waits, "b:w1 c:r1>b", "b@1<7")
	b = well(t, edit(t, waits, ranEntry(deeds[0].Make, deeds[0].Looks, deeds[0].Result)))
	checkAt(t, b, "b:w1 c:r1>b", "b@1<7")
	b = well(t, edit(t, waits, clearEntry()))
	checkAt(t, b, "b:w1 c:r1>b", "b@1<7")
	checkAt(t, well(t, tick(t, b)), "b:w1 c:w1", "b@1<7")
}

// TestThingsThatWaitForThemselves asks for such things, alone and beside others that can still be made.
func TestThingsThatWaitForThemselves(t *testing.T) {
	tree := basicTree(t, "a cat a", "b cat c", "c cat b", "d two one,b", "e cat one", "f e one", "g g one", "h ifHas a,one", "i two e,a")
	for _, names := range [][]string{{"a"}, {"b"}, {"c", "b"}, {"d"}, {"a", "b", "c", "d", "g"}, {"a", "e", "b", "one", "f", "d", "h", "i", "gone", "g"}, {"i", "h", "f", "e"}} {
		for workers := 1; workers <= 3; workers++ {
			y := yardOf(asking(t, bossOfTree(t, workers, tree), names...))
			y.answered(t)
			if len(y.answers) != len(names) {
				t.Errorf("%q: answered are %+v", names, y.answers)
			}
			// and again, by what is known
			y.boss, y.answers = asking(t, y.boss, names...), nil
			if y.answered(t) != 1 || len(y.answers) != len(names) {
				t.Errorf("%q again: answered are %+v", names, y.answers)
			}
		}
	}
}

// TestOthersAreStuckOnlyIfNoRunCanGoOn holds a circle beside a run that a worker has, one that none has, and none.
func TestOthersAreStuckOnlyIfNoRunCanGoOn(t *testing.T) {
	tree := basicTree(t, "a cat a", "b cat one", "c cat c")
	b := hearing(t, asking(t, bossOfTree(t, 1, tree), "a"), 1)
	b = turned(t, well(t, tick(t, b)), "a", 1, stop(false, "a", 2))
	checkAt(t, b, "a:w1>a", "")
	d := tick(t, b)
	checkAnswers(t, d, "a")
	checkAt(t, d.Boss, "a:w1>a", "")
	d = tick(t, asking(t, b, "b"))
	checkAnswers(t, d)
	checkAt(t, d.Boss, "a:w1>a b:w1", "b@1<8")
	// the root is not asked for any longer, but its run can go on
	b = turned(t, d.Boss, "b", 1, stop(false, "one", 2))
	d = tick(t, b)
	checkAt(t, d.Boss, "a:w1>a b:w2", "b@1<9")
	checkAnswers(t, d)
	b = turned(t, d.Boss, "b", 2, over(impl.Done, "1", 4))
	b = asking(t, b, "gone", "c", "one")
	d = tick(t, b)
	checkAnswers(t, d, "b", "gone", "one") // a waits as long as c can go on
	if !slices.Equal(d.Boss.Roots, []string{"a", "c"}) {
		t.Errorf("roots are %q", d.Boss.Roots)
	}
	for range 10 { // no worker is there any longer, but one might come
		d = tick(t, d.Boss)
		checkAnswers(t, d)
	}
	checkAt(t, d.Boss, "a:w1>a b:o2=01 c:w1", "")
	b = turned(t, d.Boss, "c", 1, stop(false, "c", 2))
	d = tick(t, asking(t, b, "b"))
	checkAnswers(t, d, "a", "c", "b")
	if len(d.Boss.Roots) != 0 {
		t.Errorf("roots are %q", d.Boss.Roots)
	}
}

// TestCirclesOfWhatIsRemembered waits in recall for what waits in recall.
func TestCirclesOfWhatIsRemembered(t *testing.T) {
	ran := func(name, other string) impl.Entry {
		return ranEntry(impl.Make{Name: name, Tool: "cat", Arg: other}, []impl.Look{catLook(), asked(other, res(impl.Done, "v"))}, res(impl.Done, "v"))
	}
	b := bossOfTree(t, 1, basicTree(t, "a cat b", "b cat c", "c cat a", "d cat d"))
	for _, e := range []impl.Entry{ran("a", "b"), ran("b", "c"), ran("c", "a"), ran("d", "d")} {
		b = well(t, edit(t, b, e))
	}
	d := tick(t, asking(t, b, "d", "b"))
	checkAt(t, d.Boss, "a:r1>b b:r1>c c:r1>a d:r1>d", "")
	checkAnswers(t, d, "d", "b")
}

// TestSettlingGoesOn learns all of a long line of things, each made of the one behind it in the order of the plan, so that each pass leads one on.
func TestSettlingGoesOn(t *testing.T) {
	var makes []string
	for c := byte('a'); c < 'r'; c++ {
		makes = append(makes, fmt.Sprintf("%c T %c", c, c+1))
	}
	for _, first := range []string{"r", "0"} { // known last, or first
		makes := append(slices.Clone(makes), "r T 0")
		tree := treeOf(t, "T", catTool, "0", first, "plan", planText(t, makes...))
		b := bossOfTree(t, 1, tree)
		for _, d := range knownOf(tree) {
			b = well(t, edit(t, b, ranEntry(d.Make, d.Looks, d.Result)))
		}
		d := tick(t, asking(t, b, "a"))
		checkAnswers(t, d, "a")
		if len(d.Boss.Runs) != 18 || len(d.Out) != 0 {
			t.Errorf("runs are %s", runsOf(d.Boss))
		}
	}
	// and against the order: each is made of the one before it
	tree := treeOf(t, "T", catTool, "0", "v", "plan", planText(t, "a T 0", "b T a", "c T b", "d T c", "e T d", "f T e"))
	b := bossOfTree(t, 1, tree)
	for _, d := range knownOf(tree) {
		b = well(t, edit(t, b, ranEntry(d.Make, d.Looks, d.Result)))
	}
	checkAnswers(t, tick(t, asking(t, b, "f")), "f")
	// a run that waits in work goes on by what is recalled
	b = bossOfTree(t, 1, tree)
	for _, d := range knownOf(tree)[:3] {
		b = well(t, edit(t, b, ranEntry(d.Make, d.Looks, d.Result)))
	}
	b = turned(t, well(t, tick(t, asking(t, b, "d"))), "d", 1, stop(false, "c", 2))
	checkAt(t, b, "c:r0 d:w1>c", "")
	checkAt(t, well(t, tick(t, b)), "a:o2=0v b:o2=0v c:o2=0v d:w2", "d@1<8")
}

// TestSettlingOfALongPlan has as many runs as a plan can have here, most of them to be looked at twice.
func TestSettlingOfALongPlan(t *testing.T) {
	var makes []string
	var runs []impl.Run
	for c := byte('a'); c <= 'w'; c++ {
		of := "w"
		switch {
		case c == 'w':
			of = "0"
		case c > 'k':
			of = "a"
		}
		makes = append(makes, fmt.Sprintf("%c T %s", c, of))
		runs = append(runs, impl.Run{Name: string(c)})
	}
	b := bossOfTree(t, 1, treeOf(t, "T", catTool, "0", "v", "plan", planText(t, makes...)))
	for _, of := range []string{"w", "a"} {
		b = well(t, edit(t, b, ranEntry(impl.Make{Name: "x", Tool: "T", Arg: of}, []impl.Look{asked("T", res(impl.Done, catTool)), asked(of, res(impl.Done, "v"))}, res(impl.Done, "v"))))
	}
	b.Runs = runs
	b = well(t, tick(t, b))
	for i, run := range b.Runs[:22] {
		if wait := []string{"w", "a"}[i/11]; run.Mode != impl.RunRecall || run.Wait != wait {
			t.Errorf("%+v does not wait for %s", run, wait)
		}
	}
	d := tick(t, turned(t, b, "w", 1, over(impl.Done, "v", 4)))
	for _, run := range d.Boss.Runs {
		if run.Mode != impl.RunOver || run.Result != res(impl.Done, "v") {
			t.Errorf("%+v is not over", run)
		}
	}
}

// TestToolsThatAreMade waits for a tool in work, and for one in recall.
func TestToolsThatAreMade(t *testing.T) {
	tree := treeOf(t, "cat", catTool, "source", catTool, "one", "1", "plan", planText(t, "made cat source", "x made one"))
	y := yardOf(asking(t, bossOfTree(t, 1, tree), "x"))
	y.boss = well(t, tick(t, y.boss))
	checkAt(t, y.boss, "made:w1 x:w0>made", "")
	y.answered(t)
	if y.answers[0].Result != res(impl.Done, "1") || y.offered() != "made x" {
		t.Errorf("%+v", y.answers)
	}
	y.boss = asking(t, well(t, edit(t, y.boss, fileEntry("source", "lit \"\"\n"+catTool))), "x")
	d := tick(t, y.boss)
	checkAt(t, d.Boss, "made:w1 x:r0>made", "made@1<"+fmt.Sprint(d.Boss.Now+impl.LeaseTicks))
	y.answered(t)
	if y.offered() != "made x" {
		t.Error("x is not made anew with its new tool")
	}
}
