package tests

import (
	"fmt"
	"slices"
	"strings"
	"testing"

	"loop.example/kiln/impl"
)

// call lets a boss do something, and asks what every call owes: its arguments are left as they are, its answer is new memory, all but the code is nothing where it is refused, and the boss stays valid.
func call(t *testing.T, b impl.Boss, do func(b impl.Boss) impl.Did) impl.Did {
	t.Helper()
	given := roomy(b)
	did := do(given)
	checkUntouched(t, given, b)
	checkApart(t, did, given)
	if did.Code != 0 && !same(did, impl.Did{Code: did.Code}) {
		t.Errorf("beside code %d stands %+v", did.Code, did)
	}
	if did.Code == 0 && !impl.ValidBoss(did.Boss) {
		t.Errorf("%+v is not valid", did.Boss)
	}
	for _, m := range did.Out {
		if impl.FormMessage(m, "k") == "" {
			t.Errorf("%+v is sent, and has no form", m)
		}
	}
	return did
}

func tick(t *testing.T, b impl.Boss) impl.Did {
	t.Helper()
	return call(t, b, impl.BossTick)
}

func take(t *testing.T, b impl.Boss, m impl.Message) impl.Did {
	t.Helper()
	given := roomy(m)
	did := call(t, b, func(b impl.Boss) impl.Did { return impl.BossTake(b, given) })
	checkUntouched(t, given, m)
	checkApart(t, did, given)
	return did
}

func ask(t *testing.T, b impl.Boss, name string) impl.Did {
	t.Helper()
	return call(t, b, func(b impl.Boss) impl.Did { return impl.BossAsk(b, name) })
}

func edit(t *testing.T, b impl.Boss, e impl.Entry) impl.Did {
	t.Helper()
	given := roomy(e)
	did := call(t, b, func(b impl.Boss) impl.Did { return impl.BossEdit(b, given) })
	checkUntouched(t, given, e)
	checkApart(t, did, given)
	return did
}

func pack(t *testing.T, b impl.Boss) impl.Did {
	t.Helper()
	did := call(t, b, impl.BossPack)
	if did.Code == 0 {
		after := did.Boss
		after.Log = b.Log
		if !same(after, b) || len(did.Boss.Log.Safe) > len(b.Log.Safe) || len(did.Boss.Log.Loose) > 0 {
			t.Errorf("pack of %+v: %+v", b, did.Boss)
		}
	}
	return did
}

func fall(t *testing.T, b impl.Boss, keep int) impl.Boss {
	t.Helper()
	return call(t, b, func(b impl.Boss) impl.Did { return impl.Did{Boss: impl.BossFall(b, keep)} }).Boss
}

func rise(t *testing.T, b impl.Boss) impl.Boss {
	t.Helper()
	return call(t, b, func(b impl.Boss) impl.Did { return impl.Did{Boss: impl.BossRise(b)} }).Boss
}

// well gives the boss of a call that is not refused.
func well(t *testing.T, did impl.Did) impl.Boss {
	t.Helper()
	if did.Code != 0 {
		t.Fatalf("code %d", did.Code)
	}
	return did.Boss
}

func checkDid(t *testing.T, got, want impl.Did) {
	t.Helper()
	if !same(got, want) {
		t.Errorf("did %+v, want %+v", got, want)
	}
}

func checkBoss(t *testing.T, got, want impl.Boss) {
	t.Helper()
	if !same(got, want) {
		t.Errorf("boss %+v, want %+v", got, want)
	}
}

// bossOf is a new boss of so many workers that is told entries.
func bossOf(t *testing.T, workers int, entries ...impl.Entry) impl.Boss {
	t.Helper()
	b := impl.NewBoss(impl.MaxWidth, workers)
	for _, e := range entries {
		b = well(t, edit(t, b, e))
	}
	return b
}

// bossOfTree is a new boss of so many workers that is told the files of a tree.
func bossOfTree(t *testing.T, workers int, tree impl.Tree) impl.Boss {
	t.Helper()
	var entries []impl.Entry
	for _, f := range tree.Files {
		entries = append(entries, fileEntry(f.Name, f.Text))
	}
	return bossOf(t, workers, entries...)
}

// bossOfLog is a boss that has risen with a log.
func bossOfLog(t *testing.T, width, workers int, safe ...string) impl.Boss {
	t.Helper()
	b := rise(t, impl.Boss{Width: width, Log: impl.Log{Safe: safe}, Heard: slices.Repeat([]int{-1}, workers)})
	if !b.Up {
		t.Fatalf("it does not rise with %d entries", len(safe))
	}
	return b
}

// asking asks for names.
func asking(t *testing.T, b impl.Boss, names ...string) impl.Boss {
	t.Helper()
	for _, name := range names {
		b = well(t, ask(t, b, name))
	}
	return b
}

// hearing takes a MsgHere of workers.
func hearing(t *testing.T, b impl.Boss, workers ...int) impl.Boss {
	t.Helper()
	for _, worker := range workers {
		b = well(t, take(t, b, hereOf(worker)))
	}
	return b
}

// turned takes a turn of a run with so many looks, from worker 1, of the boss's own epoch and edit.
func turned(t *testing.T, b impl.Boss, name string, count int, turn impl.Turn) impl.Boss {
	t.Helper()
	return well(t, take(t, b, turnOf(1, b.Epoch, b.Edit, name, count, turn)))
}

// runsOf tells runs in short: the name, r (recall), w (work) or o (over), the number of looks, and what is waited for or the result.
func runsOf(b impl.Boss) string {
	var words []string
	for _, run := range b.Runs {
		word := fmt.Sprintf("%s:%c%d", run.Name, "rwo"[run.Mode], len(run.Looks))
		if run.Wait != "" {
			word += ">" + run.Wait
		}
		if run.Mode == impl.RunOver {
			word += fmt.Sprintf("=%d%s", run.Result.Code, run.Result.Text)
		}
		words = append(words, word)
	}
	return strings.Join(words, " ")
}

// jobsOf tells jobs in short: the name, the worker and the last tick.
func jobsOf(b impl.Boss) string {
	var words []string
	for _, job := range b.Jobs {
		words = append(words, fmt.Sprintf("%s@%d<%d", job.Name, job.Worker, job.Until))
	}
	return strings.Join(words, " ")
}

func checkAt(t *testing.T, b impl.Boss, runs, jobs string) {
	t.Helper()
	if runsOf(b) != runs || jobsOf(b) != jobs {
		t.Errorf("runs %q and jobs %q, want %q and %q", runsOf(b), jobsOf(b), runs, jobs)
	}
}

// checkAnswers asks that names are answered, in this order, with what is wanted in the boss's tree, and what that is made of.
func checkAnswers(t *testing.T, d impl.Did, names ...string) {
	t.Helper()
	var want []impl.Answer
	for _, name := range names {
		want = append(want, impl.Answer{Name: name, Tree: d.Boss.Tree, Result: impl.Want(d.Boss.Tree, name), Deeds: impl.Deeds(d.Boss.Tree, name)})
	}
	if !same(d.Answers, want) {
		t.Errorf("answers %+v, want %+v", d.Answers, want)
	}
}

func TestNewBosses(t *testing.T) {
	for width := -1; width <= impl.MaxWidth+1; width++ {
		for workers := -1; workers <= impl.MaxWorkers+1; workers++ {
			var want impl.Boss
			if width >= 1 && width <= impl.MaxWidth && workers >= 1 && workers <= impl.MaxWorkers {
				want = impl.Boss{Width: width, Up: true, Epoch: 1, Log: impl.Log{Loose: []string{"epoch 1\n"}}, Store: impl.Store{Width: width}, Heard: slices.Repeat([]int{-1}, workers)}
			}
			got := impl.NewBoss(width, workers)
			checkBoss(t, got, want)
			checkApart(t, got)
			if impl.ValidBoss(got) != (want.Width > 0) {
				t.Errorf("width %d, workers %d: %v", width, workers, got)
			}
		}
	}
	for _, c := range [][2]int{{1 << 32, 1}, {1<<32 + 8, 1}, {8, 1<<32 + 1}, {8, -1 << 63}, {1<<63 - 1, 1<<63 - 1}} {
		checkBoss(t, impl.NewBoss(c[0], c[1]), impl.Boss{})
	}
}

// richTree has things in which a boss has runs of all modes, one with three looks among them.
func richTree(t *testing.T) impl.Tree {
	t.Helper()
	return basicTree(t, "a cat one", "b two one,a", "c cat c", "d has b", "e cat word", "f cat e")
}

// richBoss is a valid boss with runs of all modes, two jobs, roots, a store and both parts of a log.
func richBoss(t *testing.T) impl.Boss {
	t.Helper()
	b := bossOfTree(t, 3, richTree(t))
	b = well(t, tick(t, asking(t, b, "a")))
	b = hearing(t, b, 1)
	b = well(t, tick(t, b))
	b = turned(t, b, "a", 1, stop(false, "one", 2))
	b = well(t, tick(t, b))
	b = turned(t, b, "a", 2, over(impl.Done, "1", 4))
	b = hearing(t, well(t, tick(t, b)), 1, 2)
	b = well(t, edit(t, b, ranEntry(impl.Make{Name: "f", Tool: "cat", Arg: "e"}, []impl.Look{catLook(), asked("e", res(impl.Done, "one"))}, res(impl.Done, "one"))))
	b = well(t, tick(t, asking(t, b, "c", "b", "d", "f", "gone")))
	b = turned(t, b, "c", 1, stop(false, "c", 2))
	b = hearing(t, well(t, tick(t, b)), 2)
	b = well(t, edit(t, b, ranEntry(impl.Make{Name: "g", Tool: "gone"}, []impl.Look{asked("gone", res(impl.Missing, "gone"))}, res(impl.Missing, "gone"))))
	checkAt(t, b, "a:o2=01 b:w1 c:w1>c d:w1 e:w1 f:r1>e", "b@1<11 d@2<12")
	if b.Now != 6 || !slices.Equal(b.Heard, []int{5, 6, -1}) || !slices.Equal(b.Roots, []string{"c", "b", "d", "f"}) || len(b.Log.Loose) != 1 || len(b.Log.Safe) != 15 || len(b.Store.Records) != 3 {
		t.Fatalf("%+v", b)
	}
	return b
}

type wrongBoss struct {
	what string
	boss impl.Boss
}

// bosses collects bosses, each a change of one that is valid.
type bosses struct {
	from impl.Boss
	list []wrongBoss
}

func (c *bosses) with(what string, change func(b *impl.Boss)) {
	b := copyOf(c.from)
	change(&b)
	c.list = append(c.list, wrongBoss{what, b})
}

// addWrongParts breaks what holds for a boss whether it is Up or not.
func (c *bosses) addWrongParts() {
	for _, width := range []int{-1, 0, 7, impl.MaxWidth + 1, 1<<32 + 8} {
		c.with(fmt.Sprint("width ", width), func(b *impl.Boss) { b.Width = width })
	}
	c.with("no heard", func(b *impl.Boss) { b.Heard = nil })
	c.with("empty heard", func(b *impl.Boss) { b.Heard = []int{} })
	c.with("too many heard", func(b *impl.Boss) { b.Heard = []int{-1, -1, -1, -1, -1} })
	for i := range 3 {
		c.with("heard below -1", func(b *impl.Boss) { b.Heard[i] = -2 })
		c.with("heard later than now", func(b *impl.Boss) { b.Heard[i] = b.Now + 1 })
	}
	c.with("now below 0", func(b *impl.Boss) { b.Now, b.Heard, b.Jobs = -1, []int{-1, -1}, nil })
	c.with("now above the limit", func(b *impl.Boss) { b.Now, b.Jobs = impl.MaxTime+1, nil })
	for _, entry := range []string{"", "clear", "epoch 1\n", "epoch 3\n", "drop nothing\n", "file  \"\"\n", "ran x cat \"a\"\n"} {
		c.with("an entry that can't be done: "+entry, func(b *impl.Boss) { b.Log.Loose = append(b.Log.Loose, entry) })
		c.with("a safe entry that can't be done: "+entry, func(b *impl.Boss) { b.Log.Safe = append([]string{entry}, b.Log.Safe...) })
	}
	c.with("one entry too many", func(b *impl.Boss) {
		clears := impl.MaxLog + 1 - len(logOf(*b))
		b.Log.Loose = append(b.Log.Loose, slices.Repeat([]string{"clear\n"}, clears)...)
		if b.Up {
			b.Store = impl.Store{Width: b.Width}
		}
	})
}

// addWrongMemory breaks what a boss that is Up remembers.
func (c *bosses) addWrongMemory() {
	for _, epoch := range []int{-1, 0, 2, impl.MaxEpoch} {
		c.with(fmt.Sprint("epoch ", epoch), func(b *impl.Boss) { b.Epoch = epoch })
	}
	c.with("nothing in the log", func(b *impl.Boss) {
		*b = impl.Boss{Width: 8, Up: true, Store: impl.Store{Width: 8}, Heard: []int{-1}}
	})
	c.with("no epoch in the log", func(b *impl.Boss) {
		*b = impl.Boss{Width: 8, Up: true, Epoch: 1, Store: impl.Store{Width: 8}, Heard: []int{-1}}
	})
	c.with("edit below 0", func(b *impl.Boss) { b.Edit = -1 })
	c.with("edit above the limit", func(b *impl.Boss) { b.Edit = impl.MaxEdits + 1 })
	c.with("no tree", func(b *impl.Boss) { b.Tree, b.Runs, b.Jobs = impl.Tree{}, nil, nil })
	c.with("another text", func(b *impl.Boss) { b.Tree.Files[3].Text += " " })
	c.with("another name", func(b *impl.Boss) { b.Tree.Files[3].Name += "!" })
	c.with("a file more", func(b *impl.Boss) { b.Tree.Files = append(b.Tree.Files, impl.File{Name: "zz"}) })
	c.with("no store", func(b *impl.Boss) { b.Store = impl.Store{} })
	c.with("another width of the store", func(b *impl.Boss) { b.Store.Width = 7 })
	c.with("a text less", func(b *impl.Boss) { b.Store.Texts = b.Store.Texts[1:] })
	c.with("another text of the store", func(b *impl.Boss) { b.Store.Texts[1] += " " })
	c.with("a record less", func(b *impl.Boss) { b.Store.Records = b.Store.Records[1:] })
	c.with("records in another order", func(b *impl.Boss) { slices.Reverse(b.Store.Records) })
	c.with("another key", func(b *impl.Boss) { b.Store.Records[0].Key += " " })
	c.with("another out", func(b *impl.Boss) { b.Store.Records[0].Out = b.Store.Records[1].Out })
	c.with("another glance", func(b *impl.Boss) { b.Store.Records[1].Looks[0].Has = true })
	c.with("a glance less", func(b *impl.Boss) { b.Store.Records[1].Looks = b.Store.Records[1].Looks[1:] })
	c.with("an entry less", func(b *impl.Boss) { b.Log.Loose = nil })
	c.with("a safe entry less", func(b *impl.Boss) { b.Log.Safe = slices.Delete(b.Log.Safe, 2, 3) })
}

// addWrongRuns breaks roots and runs.
func (c *bosses) addWrongRuns() {
	c.with("too many roots", func(b *impl.Boss) { b.Roots = strings.Split("q r s t u v w x y z zz", " ") })
	c.with("a root twice", func(b *impl.Boss) { b.Roots = append(b.Roots, b.Roots[1]) })
	for _, name := range wrongNames {
		c.with("a root that is no name: "+name, func(b *impl.Boss) { b.Roots[1] = name })
		if name != "" {
			c.with("a wait that is no name: "+name, func(b *impl.Boss) { b.Runs[2].Wait = name })
			c.with("a wait in recall that is no name: "+name, func(b *impl.Boss) { b.Runs[5].Wait = name })
		}
		c.with("a run that is no name: "+name, func(b *impl.Boss) { b.Runs[0].Name = name })
	}
	c.with("a run that is not in the plan", func(b *impl.Boss) { b.Runs = append(b.Runs, impl.Run{Name: "g"}) })
	c.with("a run of a file", func(b *impl.Boss) { b.Runs = append(b.Runs, impl.Run{Name: "word"}) })
	c.with("a run twice", func(b *impl.Boss) { b.Runs = slices.Insert(b.Runs, 0, b.Runs[0]) })
	c.with("runs in another order", func(b *impl.Boss) { b.Runs[0], b.Runs[1] = b.Runs[1], b.Runs[0] })
	c.with("a plan that is none any longer", func(b *impl.Boss) {
		b.Tree = impl.Tree{Files: append(b.Tree.Files, impl.File{Name: "zz"})}
		b.Log.Loose = append(b.Log.Loose, "file plan \"\"\n", "file zz \"\"\n")
		for i := range b.Tree.Files {
			if b.Tree.Files[i].Name == "plan" {
				b.Tree.Files[i].Text = ""
			}
		}
		b.Jobs = nil
	})
	for _, mode := range []int{-1, 3, 1 << 32} {
		c.with(fmt.Sprint("mode ", mode), func(b *impl.Boss) { b.Runs[2].Mode = mode })
		c.with(fmt.Sprint("mode ", mode, " and over"), func(b *impl.Boss) { b.Runs[0].Mode = mode })
	}
	for i := range 6 {
		for _, looks := range wrongLooks() {
			c.with(fmt.Sprint("wrong looks of run ", i), func(b *impl.Boss) { b.Runs[i].Looks = looks })
		}
		c.with(fmt.Sprint("a look too many of run ", i), func(b *impl.Boss) {
			b.Runs[i].Looks = slices.Repeat([]impl.Look{found("a")}, impl.MaxLooks+1)
		})
	}
	for i := 1; i < 6; i++ {
		for _, r := range []impl.Result{res(impl.Done, "r"), res(impl.Spent, ""), res(impl.Circle, ""), res(impl.Missing, "a")} {
			c.with(fmt.Sprint("a result of run ", i), func(b *impl.Boss) { b.Runs[i].Result = r })
		}
	}
	for _, r := range append(wrongResults(), res(impl.Circle, "")) {
		c.with(fmt.Sprint("an end with ", r), func(b *impl.Boss) { b.Runs[0].Result = r })
	}
	c.with("an end that waits", func(b *impl.Boss) { b.Runs[0].Wait = "e" })
}

// addWrongJobs breaks jobs.
func (c *bosses) addWrongJobs() {
	for _, name := range []string{"", "a", "c", "f", "g", "word", "aa"} { // over, waits, in recall, none
		c.with("a job of "+name, func(b *impl.Boss) { b.Jobs = []impl.Job{{Name: name, Worker: 1, Until: b.Now}} })
	}
	for _, worker := range []int{-1, 0, 4, 5, 1<<32 + 1} {
		c.with(fmt.Sprint("a job of worker ", worker), func(b *impl.Boss) { b.Jobs[1].Worker = worker })
	}
	c.with("two jobs of a worker", func(b *impl.Boss) { b.Jobs[1].Worker = b.Jobs[0].Worker })
	c.with("two jobs of a worker, not side by side", func(b *impl.Boss) {
		b.Jobs = []impl.Job{{Name: "b", Worker: 1, Until: b.Now}, {Name: "d", Worker: 2, Until: b.Now}, {Name: "e", Worker: 1, Until: b.Now}}
	})
	c.with("two jobs of a run", func(b *impl.Boss) { b.Jobs[1].Name = b.Jobs[0].Name })
	c.with("jobs in another order", func(b *impl.Boss) { slices.Reverse(b.Jobs) })
	for i := range 2 {
		c.with("a job that has ended", func(b *impl.Boss) { b.Jobs[i].Until = b.Now - 1 })
		c.with("a job for too long", func(b *impl.Boss) { b.Jobs[i].Until = b.Now + impl.LeaseTicks + 1 })
	}
}

// addLeftovers leaves to a boss that is not Up what it loses.
func (c *bosses) addLeftovers(up impl.Boss) {
	c.with("up without anything", func(b *impl.Boss) { b.Up = true })
	c.with("epoch", func(b *impl.Boss) { b.Epoch = up.Epoch })
	c.with("edit", func(b *impl.Boss) { b.Edit = 1 })
	c.with("tree", func(b *impl.Boss) { b.Tree = up.Tree })
	c.with("store", func(b *impl.Boss) { b.Store = up.Store })
	c.with("width of the store", func(b *impl.Boss) { b.Store.Width = 8 })
	c.with("texts", func(b *impl.Boss) { b.Store.Texts = up.Store.Texts })
	c.with("records", func(b *impl.Boss) { b.Store.Records = up.Store.Records })
	c.with("roots", func(b *impl.Boss) { b.Roots = []string{"a"} })
	c.with("runs", func(b *impl.Boss) { b.Runs = []impl.Run{{Name: "a"}} })
	c.with("jobs", func(b *impl.Boss) { b.Jobs = []impl.Job{{}} })
	for i := range 3 {
		c.with("heard at 0", func(b *impl.Boss) { b.Heard[i] = 0 })
		c.with("heard now", func(b *impl.Boss) { b.Heard[i] = b.Now })
	}
}

// wrongBosses are bosses that are not valid, each for one reason.
func wrongBosses(t *testing.T) []wrongBoss {
	t.Helper()
	up := richBoss(t)
	c := &bosses{from: up}
	c.list = append(c.list, wrongBoss{"nothing", impl.Boss{}})
	c.addWrongParts()
	c.addWrongMemory()
	c.addWrongRuns()
	c.addWrongJobs()
	down := &bosses{from: fall(t, up, 1)}
	down.addWrongParts()
	down.addLeftovers(up)
	return slices.Concat(c.list, slices.DeleteFunc(down.list, func(w wrongBoss) bool {
		return w.what == "width 7" // with nothing remembered it is a width as good as any
	}))
}

// strangeBosses are bosses that nobody leads to, but that are valid.
func strangeBosses(t *testing.T) []wrongBoss {
	t.Helper()
	up := richBoss(t)
	c := &bosses{from: up}
	c.with("as it is", func(b *impl.Boss) {})
	c.with("now at the limit", func(b *impl.Boss) {
		b.Now, b.Jobs = impl.MaxTime, []impl.Job{{Name: "b", Worker: 3, Until: impl.MaxTime + impl.LeaseTicks}}
	})
	c.with("at the beginning", func(b *impl.Boss) {
		b.Now, b.Heard, b.Jobs = 0, []int{-1, 0, -1, 0}, []impl.Job{{Name: "b", Worker: 4, Until: 0}, {Name: "e", Worker: 1, Until: 6}}
	})
	c.with("edit at the limit", func(b *impl.Boss) { b.Edit = impl.MaxEdits })
	c.with("no edit", func(b *impl.Boss) { b.Edit = 0 })
	c.with("all heard now", func(b *impl.Boss) { b.Heard = []int{b.Now, b.Now, b.Now, b.Now} })
	c.with("as many roots as there may be", func(b *impl.Boss) { b.Roots = strings.Split("z y x w v u t s r q", " ") })
	c.with("empty lists", func(b *impl.Boss) { b.Roots, b.Runs, b.Jobs = []string{}, []impl.Run{}, []impl.Job{} })
	c.with("all is loose", func(b *impl.Boss) { b.Log = impl.Log{Loose: logOf(*b)} })
	c.with("all is safe", func(b *impl.Boss) { b.Log = impl.Log{Safe: logOf(*b)} })
	c.with("jobs to the last tick", func(b *impl.Boss) {
		b.Jobs = []impl.Job{{Name: "b", Worker: 3, Until: b.Now}, {Name: "d", Worker: 2, Until: b.Now + impl.LeaseTicks}, {Name: "e", Worker: 1, Until: b.Now}}
	})
	looks, _ := looksAndLines(impl.MaxLooks)
	for i := range 6 {
		c.with(fmt.Sprint("most looks of run ", i), func(b *impl.Boss) { b.Runs[i].Looks = looks })
		c.with(fmt.Sprint("no looks of run ", i), func(b *impl.Boss) { b.Runs[i].Looks = []impl.Look{} })
		for _, wait := range []string{"", "a", "b", "f", "word", "gone", xs(impl.MaxName)} {
			c.with(fmt.Sprint("work of run ", i, " that waits for ", wait), func(b *impl.Boss) {
				b.Runs[i], b.Jobs = impl.Run{Name: b.Runs[i].Name, Mode: impl.RunWork, Wait: wait}, nil
			})
			c.with(fmt.Sprint("work of run ", i, " with most looks that waits for ", wait), func(b *impl.Boss) {
				b.Runs[i], b.Jobs = impl.Run{Name: b.Runs[i].Name, Mode: impl.RunWork, Looks: looks, Wait: wait}, nil
			})
			c.with(fmt.Sprint("recall of run ", i, " that waits for ", wait), func(b *impl.Boss) {
				b.Runs[i], b.Jobs = impl.Run{Name: b.Runs[i].Name, Looks: looks[:3], Wait: wait}, nil
			})
		}
		c.with(fmt.Sprint("run ", i, " alone"), func(b *impl.Boss) { b.Runs, b.Jobs = b.Runs[i:i+1], nil })
		c.with(fmt.Sprint("without run ", i), func(b *impl.Boss) { b.Runs, b.Jobs = slices.Delete(b.Runs, i, i+1), nil })
	}
	for _, r := range []impl.Result{{}, res(impl.Failed, xs(impl.MaxText)), res(impl.Broken, "40"), res(impl.Spent, ""), res(impl.Missing, "?"), res(impl.Below, "b"), res(impl.NoTool, "cat")} {
		c.with(fmt.Sprint("an end with ", r), func(b *impl.Boss) { b.Runs[0].Result = r })
	}
	down := &bosses{from: fall(t, up, 1)}
	down.with("not up", func(b *impl.Boss) {})
	down.with("not up with a loose log", func(b *impl.Boss) { b.Log = impl.Log{Loose: logOf(*b)} })
	down.with("not up with a log of both", func(b *impl.Boss) { b.Log.Loose = []string{"epoch 2\n", "clear\n"} })
	down.with("not up with another width", func(b *impl.Boss) { b.Width = 7 })
	down.with("not up with nothing in the log", func(b *impl.Boss) { b.Log, b.Now = impl.Log{}, 0 })
	down.with("not up at the limit", func(b *impl.Boss) { b.Now = impl.MaxTime })
	down.with("not up with empty lists", func(b *impl.Boss) { b.Roots, b.Store.Texts = []string{}, []string{} })
	return append(c.list, down.list...)
}

func TestValidBosses(t *testing.T) {
	for _, c := range strangeBosses(t) {
		given := roomy(c.boss)
		if !impl.ValidBoss(given) || !slowValidBoss(c.boss) {
			t.Errorf("%s: it is valid", c.what)
		}
		checkUntouched(t, given, c.boss)
	}
	for _, c := range wrongBosses(t) {
		given := roomy(c.boss)
		if impl.ValidBoss(given) || slowValidBoss(c.boss) {
			t.Errorf("%s: it is not valid", c.what)
		}
		checkUntouched(t, given, c.boss)
	}
}

func TestWrongBossesAreRefused(t *testing.T) {
	for _, c := range wrongBosses(t) {
		for i, did := range []impl.Did{
			impl.BossTick(c.boss), impl.BossTake(c.boss, hereOf(1)), impl.BossTake(c.boss, impl.Message{}), impl.BossAsk(c.boss, "a"), impl.BossAsk(c.boss, ""),
			impl.BossEdit(c.boss, clearEntry()), impl.BossEdit(c.boss, impl.Entry{}), impl.BossPack(c.boss),
		} {
			if !same(did, impl.Did{Code: 1}) {
				t.Errorf("%s: call %d gives %+v", c.what, i, did)
			}
		}
		for keep := -1; keep <= 1; keep++ {
			checkBoss(t, impl.BossFall(c.boss, keep), impl.Boss{})
		}
		checkBoss(t, impl.BossRise(c.boss), impl.Boss{})
	}
}

func TestABossThatIsNotUp(t *testing.T) {
	for _, c := range strangeBosses(t) {
		if c.boss.Up {
			continue
		}
		b := c.boss
		checkDid(t, tick(t, b), impl.Did{Boss: b})
		for _, m := range []impl.Message{hereOf(1), turnOf(1, 1, 12, "b", 1, stop(false, "one", 2)), {}} {
			checkDid(t, take(t, b, m), impl.Did{Boss: b})
		}
		for _, did := range []impl.Did{ask(t, b, "a"), ask(t, b, ""), edit(t, b, fileEntry("a", "")), edit(t, b, clearEntry()), edit(t, b, epochEntry(2)), edit(t, b, impl.Entry{}), pack(t, b)} {
			checkDid(t, did, impl.Did{Code: 2})
		}
	}
}
