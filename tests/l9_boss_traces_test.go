package tests

import (
	"math/rand"
	"slices"
	"testing"

	"loop.example/kiln/impl"
)

// checkSteps lets a boss do all that it can be asked for, and holds that against the slow boss.
func checkSteps(t *testing.T, b impl.Boss, m impl.Message, name string, e impl.Entry, keep int) {
	t.Helper()
	checkDid(t, tick(t, b), slowTick(b))
	checkDid(t, take(t, b, m), slowTake(b, m))
	checkDid(t, ask(t, b, name), slowAsk(b, name))
	checkDid(t, edit(t, b, e), slowEdit(b, e))
	checkDid(t, pack(t, b), slowPack(b))
	checkBoss(t, fall(t, b, keep), slowFall(b, keep))
	checkBoss(t, rise(t, b), slowRise(b))
}

func TestStrangeBossesByTheWords(t *testing.T) {
	r := rand.New(rand.NewSource(90))
	for _, c := range strangeBosses(t) {
		for range 3 {
			checkSteps(t, c.boss, likelyMessage(r, c.boss), randomThing(r), fileEntry("one", randomText(r, 3)), r.Intn(4)-1)
		}
		heard := copyOf(c.boss)
		for i := range heard.Heard {
			heard.Heard[i] = heard.Now
		}
		if heard.Up {
			checkSteps(t, heard, likelyMessage(r, heard), randomThing(r), clearEntry(), r.Intn(4)-1)
		}
		if t.Failed() {
			t.Fatal(c.what)
		}
	}
}

// likelyMessage is a message of a worker that most often fits one of the runs.
func likelyMessage(r *rand.Rand, b impl.Boss) impl.Message {
	if r.Intn(5) == 0 || len(b.Runs) == 0 {
		return hereOf(1 + r.Intn(len(b.Heard)+1))
	}
	run := b.Runs[r.Intn(len(b.Runs))]
	m := turnOf(1+r.Intn(len(b.Heard)), b.Epoch, b.Edit, run.Name, len(run.Looks), stop(r.Intn(2) == 0, randomThing(r), 3))
	if r.Intn(3) == 0 {
		result := randomResult(r)
		m.Turn = over(result.Code, result.Text, 3)
	}
	switch r.Intn(12) {
	case 0:
		m.Epoch += r.Intn(3) - 1
	case 1:
		m.Edit += r.Intn(3) - 1
	case 2:
		m.Count += r.Intn(3) - 1
	case 3:
		return randomMessage(r)
	}
	return m
}

// likelyEdit is an entry that most often is an edit that can be done.
func likelyEdit(t *testing.T, r *rand.Rand, b impl.Boss) impl.Entry {
	t.Helper()
	other := changedTree(t, r, randomTree(t, r))
	if len(b.Tree.Files) > 0 && r.Intn(2) == 0 {
		other = changedTree(t, r, b.Tree)
	}
	switch deeds := knownOf(other); r.Intn(10) {
	case 0:
		return clearEntry()
	case 1:
		if len(b.Tree.Files) > 0 {
			return dropEntry(b.Tree.Files[r.Intn(len(b.Tree.Files))].Name)
		}
		return dropEntry(randomThing(r))
	case 2, 3, 4:
		if len(deeds) > 0 {
			d := deeds[r.Intn(len(deeds))]
			if r.Intn(10) == 0 {
				d.Result = randomResult(r)
			}
			return ranEntry(d.Make, d.Looks, d.Result)
		}
	case 5:
		if r.Intn(4) == 0 {
			return randomEntry(r)
		}
	}
	if len(other.Files) == 0 {
		return fileEntry("a", "")
	}
	f := other.Files[r.Intn(len(other.Files))]
	return fileEntry(f.Name, f.Text)
}

// strangeChange changes a boss in ways that no call does; what it gives need not be valid.
func strangeChange(r *rand.Rand, b impl.Boss) impl.Boss {
	b = copyOf(b)
	plan := impl.Plan(b.Tree)
	switch d := r.Intn(9); {
	case d == 0:
		b.Now += r.Intn(9) - 2
	case d == 1:
		b.Heard[r.Intn(len(b.Heard))] = b.Now - r.Intn(9)
	case d == 2:
		b.Edit += r.Intn(3) - 1
	case d == 3:
		b.Roots = append(b.Roots, randomThing(r))
	case d == 4 && len(plan) > 0:
		run := impl.Run{Name: plan[r.Intn(len(plan))].Name, Mode: r.Intn(3), Looks: randomLooks(r)}
		if r.Intn(2) == 0 {
			run.Wait = randomThing(r)
		}
		if run.Mode == impl.RunOver && r.Intn(8) > 0 {
			run.Wait, run.Result = "", randomResult(r)
		}
		b.Runs = append(b.Runs, run)
		slices.SortStableFunc(b.Runs, func(x, y impl.Run) int { return int(x.Name[0]) - int(y.Name[0]) })
	case d == 5 && len(b.Runs) > 0:
		i := r.Intn(len(b.Runs))
		b.Runs = slices.Delete(b.Runs, i, i+1)
	case d == 6 && len(b.Runs) > 0:
		i := r.Intn(len(b.Runs))
		b.Runs[i] = impl.Run{Name: b.Runs[i].Name, Mode: r.Intn(2), Looks: b.Runs[i].Looks, Wait: []string{"", randomThing(r)}[r.Intn(2)]}
	case d == 7 && len(b.Runs) > 0:
		b.Jobs = append(b.Jobs, impl.Job{Name: b.Runs[r.Intn(len(b.Runs))].Name, Worker: 1 + r.Intn(4), Until: b.Now + r.Intn(8)})
	case len(b.Jobs) > 0:
		b.Jobs[r.Intn(len(b.Jobs))].Until += r.Intn(5) - 2
	}
	return b
}

// TestBossesByTheWords leads bosses through all that may happen to them, true and strange, and holds each step against the slow boss.
func TestBossesByTheWords(t *testing.T) {
	r := rand.New(rand.NewSource(91))
	strange, wrong, ups, answers, offers, records := 0, 0, 0, 0, 0, 0
	for range 250 {
		b := bossOfLog(t, []int{1, 2, 8, 8}[r.Intn(4)], 1+r.Intn(4))
		for _, f := range randomTree(t, r).Files {
			b = well(t, edit(t, b, fileEntry(f.Name, f.Text)))
		}
		for range 60 {
			if t.Failed() {
				t.FailNow()
			}
			switch d := r.Intn(20); {
			case !b.Up && r.Intn(2) == 0:
				up := rise(t, b)
				checkBoss(t, up, slowRise(b))
				b = up
				ups++
			case d < 6:
				did := tick(t, b)
				checkDid(t, did, slowTick(b))
				b = did.Boss
				answers += len(did.Answers)
				offers += len(did.Out)
			case d < 13:
				m := likelyMessage(r, b)
				did := take(t, b, m)
				checkDid(t, did, slowTake(b, m))
				b = did.Boss
			case d < 15:
				name := randomThing(r)
				did := ask(t, b, name)
				checkDid(t, did, slowAsk(b, name))
				if did.Code == 0 {
					b = did.Boss
				}
			case d < 16 || d < 18 && len(b.Runs) == 0:
				e := likelyEdit(t, r, b)
				did := edit(t, b, e)
				checkDid(t, did, slowEdit(b, e))
				if did.Code == 0 {
					b = did.Boss
				}
			case d < 17:
				did := pack(t, b)
				checkDid(t, did, slowPack(b))
				if did.Code == 0 {
					b = did.Boss
				}
			case d < 18 && r.Intn(4) == 0:
				keep := r.Intn(len(b.Log.Loose)+3) - 1
				down := fall(t, b, keep)
				checkBoss(t, down, slowFall(b, keep))
				b = down
			default:
				changed := strangeChange(r, b)
				if impl.ValidBoss(changed) != slowValidBoss(changed) {
					t.Fatalf("%+v is valid: %v", changed, slowValidBoss(changed))
				}
				if !slowValidBoss(changed) {
					wrong++
					continue
				}
				strange++
				b = changed
			}
			records += len(b.Store.Records)
		}
	}
	if strange < 300 || wrong < 200 || ups < 20 || answers < 300 || offers < 300 || records < 300 {
		t.Errorf("%d strange, %d wrong, %d rises, %d answers, %d offers, %d records", strange, wrong, ups, answers, offers, records)
	}
}

// mailbag holds what is under way between a boss and its workers; all of it may be lost, doubled, held and turned around.
type mailbag struct {
	messages []impl.Message
	lastSent int // the greatest epoch that a message bears
}

func (g *mailbag) put(messages ...impl.Message) {
	for _, m := range messages {
		g.lastSent = max(g.lastSent, m.Epoch)
	}
	g.messages = append(g.messages, messages...)
}

// bring gives one of the messages, which sometimes stays.
func (g *mailbag) bring(r *rand.Rand) (impl.Message, bool) {
	if len(g.messages) == 0 {
		return impl.Message{}, false
	}
	i := r.Intn(len(g.messages))
	m := g.messages[i]
	if r.Intn(5) > 0 {
		g.messages = slices.Delete(g.messages, i, i+1)
	}
	return m, true
}

// checkKept asks, for every number of entries to keep, that a boss rises with an epoch that no message bears, and with the tree of its last tick, if that has not changed since.
func checkKept(t *testing.T, b impl.Boss, lastSent int, kept *impl.Tree) {
	t.Helper()
	for keep := -1; keep <= len(b.Log.Loose)+1; keep++ {
		up := rise(t, fall(t, b, keep))
		if !up.Up || up.Epoch <= lastSent {
			t.Errorf("with %d of %+v kept it rises as %+v, messages bear %d", keep, b.Log, up, lastSent)
		}
		if kept != nil && !same(up.Tree, *kept) {
			t.Errorf("with %d of %+v kept the tree is %+v, was %+v", keep, b.Log, up.Tree, *kept)
		}
	}
	for first := range len(b.Log.Loose) + 1 {
		if memory := impl.Replay(slices.Concat(b.Log.Safe, b.Log.Loose[:first]), b.Width); memory.Code != 0 {
			t.Errorf("replay of the first %d of %+v: code %d", first, b.Log, memory.Code)
		}
	}
}

// TestAnswersAreWhatIsWanted lets true workers work for a boss over bad links, while its tree is changed, its memory cleared and taught, and all of them fall and rise; in the end it is quiet, and all is answered.
func TestAnswersAreWhatIsWanted(t *testing.T) {
	r := rand.New(rand.NewSource(92))
	answers, circles, falls, records := 0, 0, 0, 0
	for range 150 {
		b := bossOfTree(t, 1+r.Intn(3), randomTree(t, r))
		y := yardOf(b)
		bag := &mailbag{}
		var kept *impl.Tree
		for range 80 {
			if t.Failed() {
				t.FailNow()
			}
			switch d := r.Intn(24); {
			case d < 8:
				did := tick(t, y.boss)
				y.boss = well(t, did)
				tree := y.boss.Tree
				kept = &tree
				bag.put(did.Out...)
				var names []string
				for _, a := range did.Answers {
					names = append(names, a.Name)
					if a.Result.Code == impl.Circle {
						circles++
					}
				}
				answers += len(names)
				checkAnswers(t, did, names...)
			case d < 12:
				i := r.Intn(len(y.workers))
				var out []impl.Message
				y.workers[i], out = impl.WorkerTick(y.workers[i])
				bag.put(out...)
			case d < 18:
				if m, ok := bag.bring(r); ok && m.Kind == impl.MsgOffer {
					y.workers[m.To-1] = impl.WorkerTake(y.workers[m.To-1], m)
				} else if ok {
					y.boss = well(t, take(t, y.boss, m))
				}
			case d < 20:
				if did := ask(t, y.boss, randomThing(r)); did.Code == 0 {
					y.boss = did.Boss
				}
			case d < 21 || d < 22 && len(y.boss.Store.Records) == 0:
				e := likelyEdit(t, r, y.boss)
				if did := edit(t, y.boss, e); did.Code == 0 {
					y.boss = did.Boss
					if e.Kind == impl.EntFile || e.Kind == impl.EntDrop {
						kept = nil
					}
				}
			case d < 22:
				if did := pack(t, y.boss); did.Code == 0 {
					y.boss = did.Boss
				}
			case d < 23 && r.Intn(3) == 0:
				y.boss = rise(t, fall(t, y.boss, r.Intn(len(y.boss.Log.Loose)+2)-1))
				falls++
				kept = nil
			case d < 24 && r.Intn(3) == 0:
				i := r.Intn(len(y.workers))
				y.workers[i] = impl.Worker{Number: i + 1, Up: true}
			}
			checkRunsOver(t, y.boss)
			if r.Intn(5) == 0 {
				checkKept(t, y.boss, bag.lastSent, kept)
			}
		}
		y.answered(t)
		for _, a := range y.answers {
			if a.Result.Code == impl.Circle {
				circles++
			}
		}
		records += len(y.boss.Store.Records)
	}
	if answers < 500 || circles < 10 || falls < 20 || records < 150 {
		t.Errorf("%d answers, %d circles, %d falls, %d records", answers, circles, falls, records)
	}
}
