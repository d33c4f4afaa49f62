package tests

import (
	"fmt"
	"slices"
	"strings"
	"testing"

	"loop.example/kiln/impl"
)

// event is an event of a kind, with the numbers A, B and C.
func event(kind int, numbers ...int) impl.Event {
	e := impl.Event{Kind: kind}
	for i, n := range numbers {
		*[]*int{&e.A, &e.B, &e.C}[i] = n
	}
	return e
}

func askEvent(name string) impl.Event {
	return impl.Event{Kind: impl.EvAsk, Name: name}
}

func editEvent(e impl.Entry) impl.Event {
	return impl.Event{Kind: impl.EvEdit, Entry: e}
}

// do lets events happen, and asks of each what every call owes: its arguments are left as they are, its answer is new memory, and the world stays valid.
func do(t *testing.T, w impl.World, events ...impl.Event) impl.World {
	t.Helper()
	for _, e := range events {
		given, event := roomy(w), roomy(e)
		after := impl.Do(given, event)
		checkUntouched(t, given, w)
		checkUntouched(t, event, e)
		checkApart(t, after, given, event)
		if !impl.ValidWorld(after) {
			t.Fatalf("behind %+v the world %+v is not valid", e, after)
		}
		w = after
	}
	return w
}

// calm lets rounds go by, and asks what every call owes.
func calm(t *testing.T, w impl.World, rounds int) impl.World {
	t.Helper()
	given := roomy(w)
	after := impl.Calm(given, rounds)
	checkUntouched(t, given, w)
	checkApart(t, after, given)
	if !impl.ValidWorld(after) {
		t.Fatalf("behind %d rounds the world %+v is not valid", rounds, after)
	}
	return after
}

// doubt is Doubt, and asks what every call owes.
func doubt(t *testing.T, w impl.World) (string, string, bool) {
	t.Helper()
	given := roomy(w)
	x, y, ok := impl.Doubt(given)
	checkUntouched(t, given, w)
	width := w.Boss.Width
	if ok && (x == y || impl.Sum(x, width) != impl.Sum(y, width)) || !ok && x+y != "" {
		t.Errorf("doubt is %q, %q, %v", x, y, ok)
	}
	return x, y, ok
}

func checkWorld(t *testing.T, got, want impl.World) {
	t.Helper()
	if !same(got, want) {
		t.Errorf("world %+v, want %+v", got, want)
	}
}

// checkRight asks whether Right holds, which leaves the world as it is.
func checkRight(t *testing.T, w impl.World, want bool) {
	t.Helper()
	given := roomy(w)
	if got := impl.Right(given); got != want {
		t.Errorf("right is %v of %+v", got, w.Answers)
	}
	checkUntouched(t, given, w)
}

// worldOf is a new world of so many workers whose boss is told the files of a tree.
func worldOf(t *testing.T, width, workers int, tree impl.Tree) impl.World {
	t.Helper()
	w := impl.NewWorld(width, workers, "key")
	for _, f := range tree.Files {
		w = do(t, w, editEvent(fileEntry(f.Name, f.Text)))
	}
	if !same(w.Boss.Tree, tree) {
		t.Fatalf("the tree is %+v, want %+v", w.Boss.Tree, tree)
	}
	return w
}

// answersOf tells answers in short: the name, the code and the text.
func answersOf(w impl.World) string {
	var words []string
	for _, a := range w.Answers {
		words = append(words, fmt.Sprintf("%s=%d%s", a.Name, a.Result.Code, a.Result.Text))
	}
	return strings.Join(words, " ")
}

// flightOf tells parcels in short: whom each is to, and its lines without the tag, on one line.
func flightOf(t *testing.T, w impl.World) string {
	t.Helper()
	var words []string
	for _, p := range w.Flight {
		if p.Sent != p.Bytes || p.Sent != tagged(p.Sent[8:], w.Key) {
			t.Errorf("%+v is not as it was sent", p)
		}
		words = append(words, fmt.Sprintf("%d<%s", p.To, strings.ReplaceAll(strings.TrimSuffix(p.Sent[8:], "\n"), "\n", "; ")))
	}
	return strings.Join(words, " | ")
}

// parcelOf is a parcel that was sent as it is.
func parcelOf(to int, m impl.Message, key string) impl.Parcel {
	form := impl.FormMessage(m, key)
	return impl.Parcel{To: to, Sent: form, Bytes: form}
}

func TestNewWorlds(t *testing.T) {
	for width := -1; width <= impl.MaxWidth+1; width++ {
		for workers := -1; workers <= impl.MaxWorkers+1; workers++ {
			for _, key := range []string{"", "k", xs(impl.MaxKey), "\x00\xff", xs(impl.MaxKey + 1)} {
				var want impl.World
				if boss := impl.NewBoss(width, workers); boss.Up && len(key) <= impl.MaxKey {
					want = impl.World{Key: key, Boss: boss}
					for number := 1; number <= workers; number++ {
						want.Workers = append(want.Workers, impl.Worker{Number: number, Up: true})
					}
				}
				got := impl.NewWorld(width, workers, key)
				checkWorld(t, got, want)
				checkApart(t, got)
				if impl.ValidWorld(got) != (len(want.Workers) > 0) {
					t.Errorf("width %d, %d workers, key %q: %+v", width, workers, key, got)
				}
			}
		}
	}
	for _, c := range [][2]int{{1<<32 + 8, 1}, {8, 1<<32 + 1}, {8, -1 << 63}, {1<<63 - 1, 1<<63 - 1}, {8, 1<<63 - 1}} {
		checkWorld(t, impl.NewWorld(c[0], c[1], ""), impl.World{})
	}
}

// richWorld is a world with a rich boss, a worker with an offer, one that is not Up, parcels of all kinds and answers.
func richWorld(t *testing.T) impl.World {
	t.Helper()
	w := impl.World{Key: "a key", Boss: richBoss(t)}
	tree := richTree(t)
	offer := offerOf(1, 1, 12, impl.Make{Name: "b", Tool: "two", Arg: "one\na"}, []impl.Look{asked("two", res(impl.Done, twoTool))})
	w.Workers = []impl.Worker{withOffer(1, offer), {Number: 2, Up: true}, {Number: 3}}
	other := offer
	other.To = 2
	w.Flight = []impl.Parcel{parcelOf(2, other, w.Key), parcelOf(0, hereOf(3), w.Key), parcelOf(0, turnOf(1, 1, 12, "b", 1, stop(false, "one", 3)), w.Key), {To: 3}, {To: 1, Sent: "x", Bytes: impl.FormMessage(offer, w.Key)}}
	for _, name := range []string{"a", "b", "c", "gone"} {
		w.Answers = append(w.Answers, impl.Answer{Name: name, Tree: tree, Result: impl.Want(tree, name), Deeds: impl.Deeds(tree, name)})
	}
	w = copyOf(w)
	if !impl.ValidWorld(w) || !slowValidWorld(w) {
		t.Fatalf("%+v is not valid", w)
	}
	return w
}

type oneWorld struct {
	what  string
	world impl.World
}

// worlds collects worlds, each a change of one that is valid.
type worlds struct {
	from impl.World
	list []oneWorld
}

func (c *worlds) with(what string, change func(w *impl.World)) {
	w := copyOf(c.from)
	change(&w)
	c.list = append(c.list, oneWorld{what, w})
}

// wrongWorlds are worlds that are not valid, each for one reason.
func wrongWorlds(t *testing.T) []oneWorld {
	t.Helper()
	c := &worlds{from: richWorld(t), list: []oneWorld{{"nothing", impl.World{}}}}
	c.with("a key that is too long", func(w *impl.World) { w.Key = xs(impl.MaxKey + 1) })
	for _, b := range wrongBosses(t) {
		c.with("a wrong boss: "+b.what, func(w *impl.World) { w.Boss = b.boss })
	}
	c.with("no workers", func(w *impl.World) { w.Workers, w.Flight = nil, nil })
	c.with("a worker less", func(w *impl.World) { w.Workers, w.Flight = w.Workers[:2], nil })
	c.with("a worker more", func(w *impl.World) { w.Workers = append(w.Workers, impl.Worker{Number: 4, Up: true}) })
	c.with("heard of one more", func(w *impl.World) { w.Boss.Heard = append(w.Boss.Heard, -1) })
	c.with("a worker twice", func(w *impl.World) { w.Workers[1].Number = 1 })
	c.with("numbers from 2", func(w *impl.World) {
		w.Workers = []impl.Worker{{Number: 2}, {Number: 3}, {Number: 4}}
	})
	c.with("numbers from 0", func(w *impl.World) {
		w.Workers = []impl.Worker{{Number: 0}, {Number: 1}, {Number: 2}}
	})
	c.with("workers in another order", func(w *impl.World) { slices.Reverse(w.Workers) })
	for _, worker := range wrongWorkers() {
		c.with(fmt.Sprintf("a wrong worker %+v", worker), func(w *impl.World) { w.Workers[1] = worker })
	}
	c.with("a first worker that has an offer and is not up", func(w *impl.World) { w.Workers[0].Up = false })
	c.with("a last worker with a part of an offer", func(w *impl.World) { w.Workers[2].Offer.Kind = impl.MsgOffer })
	for _, to := range []int{-1, 4, 5, 1 << 32, -1 << 63} {
		for i := range c.from.Flight {
			c.with(fmt.Sprint("parcel ", i, " to ", to), func(w *impl.World) { w.Flight[i].To = to })
		}
	}
	for i := range c.from.Flight {
		c.with(fmt.Sprint("too much was sent in parcel ", i), func(w *impl.World) { w.Flight[i].Sent = xs(impl.MaxBytes + 1) })
		c.with(fmt.Sprint("too much is in parcel ", i), func(w *impl.World) { w.Flight[i].Bytes = xs(impl.MaxBytes + 1) })
	}
	c.with("a parcel too many", func(w *impl.World) { w.Flight = slices.Repeat(w.Flight[:1], impl.MaxFlight+1) })
	c.with("an answer too many", func(w *impl.World) { w.Answers = slices.Repeat(w.Answers[:1], impl.MaxAnswers+1) })
	c.with("an empty answer too many", func(w *impl.World) { w.Answers = make([]impl.Answer, impl.MaxAnswers+1) })
	return c.list
}

// strangeWorlds are worlds that nobody leads to, but that are valid.
func strangeWorlds(t *testing.T) []oneWorld {
	t.Helper()
	c := &worlds{from: richWorld(t)}
	c.with("as it is", func(w *impl.World) {})
	for _, key := range []string{"", "another", xs(impl.MaxKey), "\x00\n"} {
		c.with(fmt.Sprintf("the key %q", key), func(w *impl.World) { w.Key = key })
	}
	for _, b := range strangeBosses(t) {
		c.with("a strange boss: "+b.what, func(w *impl.World) {
			w.Boss, w.Flight = b.boss, slices.DeleteFunc(w.Flight, func(p impl.Parcel) bool { return p.To > len(b.boss.Heard) })
			w.Workers = append(w.Workers, impl.Worker{Number: 4, Up: true})[:len(b.boss.Heard)]
		})
	}
	for _, offer := range someOffers(2) {
		c.with(fmt.Sprintf("the offer %+v", offer), func(w *impl.World) { w.Workers[1] = withOffer(2, offer) })
	}
	c.with("no worker up", func(w *impl.World) { w.Workers = []impl.Worker{{Number: 1}, {Number: 2}, {Number: 3}} })
	c.with("nothing in flight", func(w *impl.World) { w.Flight = nil })
	c.with("an empty flight", func(w *impl.World) { w.Flight = []impl.Parcel{} })
	c.with("as many parcels as there may be", func(w *impl.World) { w.Flight = slices.Repeat(w.Flight, impl.MaxFlight/5) })
	c.with("a parcel less", func(w *impl.World) { w.Flight = slices.Repeat(w.Flight, impl.MaxFlight/5)[1:] })
	for to := range 4 {
		c.with(fmt.Sprint("as much as there may be in a parcel to ", to), func(w *impl.World) {
			w.Flight[4] = impl.Parcel{To: to, Sent: xs(impl.MaxBytes), Bytes: strings.ToUpper(xs(impl.MaxBytes))}
		})
		c.with(fmt.Sprint("an offer to ", to), func(w *impl.World) { w.Flight[0].To = to })
		c.with(fmt.Sprint("a turn to ", to), func(w *impl.World) { w.Flight[2].To = to })
	}
	c.with("forged", func(w *impl.World) { w.Forged = xs(2 * impl.MaxBytes) })
	c.with("no answers", func(w *impl.World) { w.Answers = nil })
	c.with("as many answers as there may be", func(w *impl.World) { w.Answers = slices.Repeat(w.Answers, impl.MaxAnswers/4) })
	c.with("answers of any kind", func(w *impl.World) {
		w.Answers = []impl.Answer{{}, {Name: xs(100), Tree: impl.Tree{Files: []impl.File{{Name: "b"}, {Name: "a"}}}, Result: res(99, xs(1000)), Deeds: []impl.Deed{{}, {Looks: []impl.Look{{}, {}}}}}}
	})
	return c.list
}

func TestValidWorlds(t *testing.T) {
	for _, c := range strangeWorlds(t) {
		given := roomy(c.world)
		if !impl.ValidWorld(given) || !slowValidWorld(c.world) {
			t.Errorf("%s: it is valid", c.what)
		}
		checkUntouched(t, given, c.world)
	}
	for _, c := range wrongWorlds(t) {
		given := roomy(c.world)
		if impl.ValidWorld(given) || slowValidWorld(c.world) {
			t.Errorf("%s: it is not valid", c.what)
		}
		checkUntouched(t, given, c.world)
	}
}

func TestNothingBecomesOfWrongWorlds(t *testing.T) {
	for _, c := range wrongWorlds(t) {
		for kind := range impl.EvPack + 2 {
			e := event(kind, 1, 1, 1)
			e.Name, e.Entry = "a", fileEntry("a", "b")
			checkWorld(t, impl.Do(c.world, e), impl.World{})
		}
		for _, rounds := range []int{-1, 0, 1, impl.MaxCalm + 1} {
			checkWorld(t, impl.Calm(c.world, rounds), impl.World{})
		}
		if x, y, ok := impl.Doubt(c.world); x+y != "" || ok || impl.Right(c.world) {
			t.Errorf("%s: doubt %q, %q, %v, right %v", c.what, x, y, ok, impl.Right(c.world))
		}
	}
}

// TestNothingHappens has events that change nothing in a world.
func TestNothingHappens(t *testing.T) {
	w := richWorld(t)
	for _, kind := range []int{-1, 0, 11, 12, 1<<32 + 1, -1 << 63} {
		e := event(kind, 1, 1, 1)
		e.Name, e.Entry = "a", fileEntry("a", "b")
		checkWorld(t, do(t, w, e), w)
	}
	for _, place := range []int{-1, len(w.Flight), len(w.Flight) + 1, 1 << 32, -1 << 63, 1<<63 - 1} {
		for _, kind := range []int{impl.EvBring, impl.EvDouble, impl.EvLose, impl.EvBend} {
			checkWorld(t, do(t, w, event(kind, place, 0, 1)), w)
		}
	}
	for _, worker := range []int{-1, 4, 5, 1<<32 + 1, -1 << 63, 1<<63 - 1} {
		checkWorld(t, do(t, w, event(impl.EvFall, worker)), w)
		checkWorld(t, do(t, w, event(impl.EvRise, worker)), w)
	}
	// what has no use in an event is not looked at
	full := impl.Event{Kind: impl.EvTick, A: -1, B: -1, C: -1, Name: "\n", Entry: impl.Entry{Kind: 9}}
	checkWorld(t, do(t, w, full), do(t, w, event(impl.EvTick)))
	full.Kind, full.A = impl.EvBring, 2
	checkWorld(t, do(t, w, full), do(t, w, event(impl.EvBring, 2)))
}

// TestRefusedEvents has codes that are not 0.
func TestRefusedEvents(t *testing.T) {
	w := richWorld(t)
	for _, name := range wrongNames {
		checkWorld(t, do(t, w, askEvent(name)), w)
	}
	ten := copyOf(w)
	ten.Boss.Roots = strings.Split("z y x w v u t s r q", " ")
	checkWorld(t, do(t, ten, askEvent("a")), ten)
	checkWorld(t, do(t, ten, askEvent("q")), ten)
	ten.Boss.Roots = ten.Boss.Roots[:9]
	after := do(t, ten, askEvent("a"))
	ten.Boss.Roots = append(ten.Boss.Roots, "a")
	checkWorld(t, after, ten)
	for _, e := range []impl.Entry{{}, epochEntry(2), dropEntry("gone"), fileEntry("", ""), fileEntry("a", xs(impl.MaxText+1)), ranEntry(catRun, nil, res(impl.Done, "one")), {Kind: impl.EntClear, Epoch: 1}} {
		checkWorld(t, do(t, w, editEvent(e)), w)
	}
	checkWorld(t, do(t, w, event(impl.EvPack)), w) // a part of the log is loose
	edits := copyOf(w)
	edits.Boss.Edit = impl.MaxEdits
	checkWorld(t, do(t, edits, editEvent(fileEntry("zz", ""))), edits)
	if cleared := do(t, edits, editEvent(clearEntry())); len(cleared.Boss.Store.Texts) != 0 {
		t.Errorf("%+v", cleared.Boss.Store)
	}
	down := do(t, w, event(impl.EvFall, 0, 1))
	for _, e := range []impl.Event{askEvent("a"), editEvent(fileEntry("a", "")), editEvent(clearEntry()), event(impl.EvPack)} {
		checkWorld(t, do(t, down, e), down)
	}
}

// TestRightIsOfEachAnswer breaks each part of each answer.
func TestRightIsOfEachAnswer(t *testing.T) {
	w := richWorld(t)
	checkRight(t, w, true)
	c := &worlds{from: w}
	for i := range w.Answers {
		c.with("name", func(w *impl.World) { w.Answers[i].Name += "x" })
		c.with("no name", func(w *impl.World) { w.Answers[i].Name = "" })
		c.with("code", func(w *impl.World) { w.Answers[i].Result.Code++ })
		c.with("text", func(w *impl.World) { w.Answers[i].Result.Text += "x" })
		c.with("no deeds", func(w *impl.World) { w.Answers[i].Deeds = nil })
		c.with("a deed less", func(w *impl.World) { w.Answers[i].Deeds = w.Answers[i].Deeds[1:] })
		c.with("a deed more", func(w *impl.World) { w.Answers[i].Deeds = append(w.Answers[i].Deeds, impl.Deed{Name: "zz"}) })
		for j, d := range w.Answers[i].Deeds {
			c.with("deed's name", func(w *impl.World) { w.Answers[i].Deeds[j].Name += "x" })
			c.with("made", func(w *impl.World) { w.Answers[i].Deeds[j].Made = !d.Made })
			c.with("make's name", func(w *impl.World) { w.Answers[i].Deeds[j].Make.Name += "x" })
			c.with("make's tool", func(w *impl.World) { w.Answers[i].Deeds[j].Make.Tool += "x" })
			c.with("make's arg", func(w *impl.World) { w.Answers[i].Deeds[j].Make.Arg += "x" })
			c.with("deed's code", func(w *impl.World) { w.Answers[i].Deeds[j].Result.Code++ })
			c.with("deed's text", func(w *impl.World) { w.Answers[i].Deeds[j].Result.Text += "x" })
			c.with("a look more", func(w *impl.World) { w.Answers[i].Deeds[j].Looks = append(w.Answers[i].Deeds[j].Looks, found("a")) })
			for k := range d.Looks {
				c.with("has", func(w *impl.World) { w.Answers[i].Deeds[j].Looks[k].Has = !d.Looks[k].Has })
				c.with("look's name", func(w *impl.World) { w.Answers[i].Deeds[j].Looks[k].Name += "x" })
				c.with("look's text", func(w *impl.World) { w.Answers[i].Deeds[j].Looks[k].Result.Text += "x" })
			}
		}
		c.with("a tree that is none", func(w *impl.World) { slices.Reverse(w.Answers[i].Tree.Files) })
	}
	for _, i := range []int{0, 1} {
		c.with("a file that counts", func(w *impl.World) { w.Answers[i].Tree = setFile(t, w.Answers[i].Tree, "one", "other") })
	}
	if len(c.list) < 100 {
		t.Fatalf("%d changes", len(c.list))
	}
	for _, c := range c.list {
		if impl.Right(c.world) || slowRight(c.world) {
			t.Errorf("right with another %s", c.what)
		}
	}
}

// TestRightAnswersOfOtherTrees has answers of trees that are not the boss's, of names that are none, and none at all.
func TestRightAnswersOfOtherTrees(t *testing.T) {
	w := richWorld(t)
	w.Answers = nil
	checkRight(t, w, true)
	for _, tree := range append(wrongTrees(), impl.Tree{}, basicTree(t, "a cat b", "b cat a"), setFile(t, richTree(t), "elsewhere", "1")) {
		for _, name := range append([]string{"a", "b", "plan"}, wrongNames...) {
			w.Answers = append(w.Answers[:min(len(w.Answers), impl.MaxAnswers-1)], impl.Answer{Name: name, Tree: tree, Result: impl.Want(tree, name), Deeds: impl.Deeds(tree, name)})
			checkRight(t, w, true)
			wrong := copyOf(w)
			wrong.Answers[len(wrong.Answers)-1].Result.Text += "!"
			checkRight(t, wrong, false)
		}
	}
	w.Answers = []impl.Answer{{Result: res(impl.Broken, ""), Deeds: []impl.Deed{}}}
	checkRight(t, w, true)
	down := do(t, w, event(impl.EvFall, 0, 0))
	checkRight(t, down, true)
	down.Answers[0].Result = impl.Result{}
	checkRight(t, down, false)
}
