package tests

import (
	"math/rand"
	"reflect"
	"slices"
	"testing"

	"loop.example/kiln/impl"
)

func sameWorker(a, b impl.Worker) bool {
	return a.Number == b.Number && a.Up == b.Up && a.Has == b.Has && sameMessage(a.Offer, b.Offer)
}

func withOffer(number int, offer impl.Message) impl.Worker {
	return impl.Worker{Number: number, Up: true, Has: true, Offer: offer}
}

func checkTake(t *testing.T, w impl.Worker, m impl.Message, want impl.Worker) {
	t.Helper()
	if got := impl.WorkerTake(w, m); !sameWorker(got, want) {
		t.Errorf("take of %+v by %+v: %+v, want %+v", m, w, got, want)
	}
}

func checkTick(t *testing.T, w impl.Worker, want impl.Worker, out ...impl.Message) {
	t.Helper()
	if got, sent := impl.WorkerTick(w); !sameWorker(got, want) || !slices.EqualFunc(sent, out, sameMessage) {
		t.Errorf("tick of %+v: %+v and %+v, want %+v and %+v", w, got, sent, want, out)
	}
}

// someOffers are offers to a worker: of runs with no look, some and as many as there may be, and of one that is not led as its Looks say.
func someOffers(to int) []impl.Message {
	m, most := askingRun(impl.MaxLooks - 1)
	spent, looks := askingRun(impl.MaxLooks)
	return []impl.Message{
		offerOf(to, 1, 0, catRun, nil), offerOf(to, 1, 0, catRun, []impl.Look{}), offerOf(to, 2, 3, catRun, []impl.Look{catLook()}), offerOf(to, impl.MaxEpoch, impl.MaxEdits, catRun, []impl.Look{catLook(), asked("a", res(impl.Done, "one"))}),
		offerOf(to, 4, 5, m, most), offerOf(to, 4, 5, m, most[:impl.MaxLooks-1]), offerOf(to, 4, 5, spent, looks[:impl.MaxLooks]),
		offerOf(to, 1, 1, catRun, []impl.Look{asked("cat", res(impl.Missing, "cat"))}), offerOf(to, 1, 1, catRun, []impl.Look{asked("dog", res(impl.Missing, "cat"))}),
	}
}

// notOffersTo are messages that no worker of a number takes.
func notOffersTo(number int) []impl.Message {
	looks, _ := looksAndLines(impl.MaxLooks)
	not := []impl.Message{
		{}, hereOf(number), turnOf(number, 1, 0, "x", 0, stop(false, "cat", 0)), turnOf(number, 1, 0, "x", 1, over(impl.Done, "", 2)), {Kind: impl.MsgOffer}, {Kind: impl.MsgOffer, To: number}, {Kind: 4, To: number, Epoch: 1, Make: catRun},
		offerOf(number, 0, 0, catRun, nil), offerOf(number, impl.MaxEpoch+1, 0, catRun, nil), offerOf(number, 1, -1, catRun, nil), offerOf(number, 1, impl.MaxEdits+1, catRun, nil), offerOf(number, 1, 0, catRun, append(looks, found("a"))),
	}
	for to := -1; to <= impl.MaxWorkers+1; to++ {
		if to != number {
			not = append(not, someOffers(to)...)
		}
	}
	for _, m := range wrongRuns() {
		not = append(not, offerOf(number, 1, 0, m, nil))
	}
	for _, looks := range wrongLooks() {
		not = append(not, offerOf(number, 1, 0, catRun, looks))
	}
	for _, field := range messageFields {
		if m := offerOf(number, 1, 0, catRun, nil); field.name == "from" || field.name == "count" || field.name == "turn" {
			field.set(&m)
			not = append(not, m)
		}
	}
	return not
}

// wrongWorkers are workers that are not valid.
func wrongWorkers() []impl.Worker {
	var wrong []impl.Worker
	offer := someOffers(2)[2]
	for _, number := range []int{0, -1, impl.MaxWorkers + 1, 1 << 32, 1<<32 + 1, -1 << 63} {
		to := offer
		to.To = number
		wrong = append(wrong, impl.Worker{Number: number}, impl.Worker{Number: number, Up: true}, withOffer(number, to), withOffer(number, offer))
	}
	wrong = append(wrong, impl.Worker{Number: 2, Has: true}, impl.Worker{Number: 2, Has: true, Offer: offer}, impl.Worker{Number: 2, Offer: offer}, impl.Worker{Number: 2, Up: true, Offer: offer}, withOffer(2, impl.Message{}))
	for _, m := range notOffersTo(2) {
		wrong = append(wrong, withOffer(2, m))
	}
	for _, field := range messageFields {
		for _, up := range []bool{false, true} {
			w := impl.Worker{Number: 2, Up: up}
			field.set(&w.Offer)
			wrong = append(wrong, w)
		}
	}
	return wrong
}

func TestValidWorkers(t *testing.T) {
	for number := 1; number <= impl.MaxWorkers; number++ {
		valid := []impl.Worker{{Number: number}, {Number: number, Up: true}, {Number: number, Up: true, Offer: impl.Message{Looks: []impl.Look{}}}}
		for _, offer := range someOffers(number) {
			valid = append(valid, withOffer(number, offer))
		}
		for _, w := range valid {
			if !impl.ValidWorker(w) {
				t.Errorf("%+v is valid", w)
			}
		}
	}
	for _, w := range wrongWorkers() {
		if impl.ValidWorker(w) {
			t.Errorf("%+v is not valid", w)
		}
	}
}

func TestWrongWorkersDoNothing(t *testing.T) {
	for _, w := range wrongWorkers() {
		checkTick(t, w, impl.Worker{})
		checkTake(t, w, impl.Message{}, impl.Worker{})
		for _, m := range someOffers(2) {
			checkTake(t, w, m, impl.Worker{})
		}
	}
}

func TestWorkersTakeOffers(t *testing.T) {
	for number := 1; number <= impl.MaxWorkers; number++ {
		up, down := impl.Worker{Number: number, Up: true}, impl.Worker{Number: number}
		offers := someOffers(number)
		for _, offer := range offers {
			checkTake(t, up, offer, withOffer(number, offer))
			checkTake(t, down, offer, down)
			for _, other := range offers {
				checkTake(t, withOffer(number, other), offer, withOffer(number, offer))
			}
		}
		for _, m := range notOffersTo(number) {
			checkTake(t, up, m, up)
			checkTake(t, down, m, down)
			checkTake(t, withOffer(number, offers[2]), m, withOffer(number, offers[2]))
		}
	}
}

func TestWorkersTick(t *testing.T) {
	down, up := impl.Worker{Number: 3}, impl.Worker{Number: 3, Up: true}
	checkTick(t, down, down)
	checkTick(t, up, up, hereOf(3))
	has := impl.Make{Name: "y", Tool: "has", Arg: "b"}
	most, looks := askingRun(impl.MaxLooks - 1)
	spent, more := askingRun(impl.MaxLooks)
	for _, c := range []struct {
		offer impl.Message
		turn  impl.Turn
	}{
		{offerOf(3, 1, 0, catRun, nil), stop(false, "cat", 0)},
		{offerOf(3, 7, 8, catRun, []impl.Look{catLook()}), stop(false, "a", 2)},
		{offerOf(3, impl.MaxEpoch, impl.MaxEdits, catRun, []impl.Look{catLook(), asked("a", res(impl.Done, "one"))}), over(impl.Done, "one", 4)},
		{offerOf(3, 1, 0, catRun, []impl.Look{asked("cat", res(impl.Missing, "z"))}), over(impl.Missing, "cat", 0)},
		{offerOf(3, 1, 0, catRun, []impl.Look{asked("cat", res(impl.Done, "z"))}), over(impl.NoTool, "cat", 0)},
		{offerOf(3, 1, 0, has, []impl.Look{asked("has", res(impl.Done, hasTool))}), stop(true, "b", 2)},
		{offerOf(3, 1, 0, has, []impl.Look{asked("has", res(impl.Done, hasTool)), unfound("b")}), over(impl.Done, "0", 4)},
		{offerOf(3, 1, 0, most, looks[:impl.MaxLooks-1]), stop(true, "one", 28)},
		{offerOf(3, 1, 0, most, looks), over(impl.Done, "", 30)},
		{offerOf(3, 1, 0, spent, more[:impl.MaxLooks]), over(impl.Spent, "", 30)},
		{offerOf(3, 1, 0, impl.Make{Name: "x", Tool: "loop"}, []impl.Look{asked("loop", res(impl.Done, loopTool))}), over(impl.Spent, "", impl.MaxSteps)},
		{offerOf(3, 1, 0, catRun, []impl.Look{found("cat")}), impl.Turn{}}, // no look that the run makes: Go gives nothing
	} {
		sent := turnOf(3, c.offer.Epoch, c.offer.Edit, c.offer.Make.Name, len(c.offer.Looks), c.turn)
		checkTick(t, withOffer(3, c.offer), up, hereOf(3), sent)
		if form := impl.FormMessage(sent, "k"); (form != "") != (c.turn != impl.Turn{}) {
			t.Errorf("form of %+v: %q", sent, form)
		}
	}
}

// TestLifeOfAWorker offers something, and another thing before it ticks, and lets it tick twice.
func TestLifeOfAWorker(t *testing.T) {
	first, second := offerOf(2, 1, 3, catRun, []impl.Look{catLook()}), offerOf(2, 1, 4, impl.Make{Name: "y", Tool: "two"}, nil)
	w := impl.WorkerTake(impl.Worker{Number: 2, Up: true}, first)
	w = impl.WorkerTake(w, hereOf(1))
	w = impl.WorkerTake(w, second)
	w = impl.WorkerTake(w, offerOf(1, 1, 4, catRun, nil))
	checkTick(t, w, impl.Worker{Number: 2, Up: true}, hereOf(2), turnOf(2, 1, 4, "y", 0, stop(false, "two", 0)))
	w, _ = impl.WorkerTick(w)
	checkTick(t, w, impl.Worker{Number: 2, Up: true}, hereOf(2))
	w, _ = impl.WorkerTick(w)
	w = impl.WorkerTake(w, first)
	checkTick(t, w, impl.Worker{Number: 2, Up: true}, hereOf(2), turnOf(2, 1, 3, "x", 1, stop(false, "a", 2)))
}

func TestWorkersAreNewMemory(t *testing.T) {
	room := append(make([]impl.Look, 0, 10), catLook(), asked("a", res(impl.Done, "one")))
	offer := offerOf(2, 1, 0, catRun, room)
	before := []impl.Look{catLook(), asked("a", res(impl.Done, "one"))}
	has := withOffer(2, offer)
	ticked, out := impl.WorkerTick(has)
	for _, w := range []impl.Worker{impl.WorkerTake(impl.Worker{Number: 2, Up: true}, offer), impl.WorkerTake(has, hereOf(2)), impl.WorkerTake(has, offer), ticked} {
		for i := range w.Offer.Looks[:cap(w.Offer.Looks)] {
			w.Offer.Looks[:cap(w.Offer.Looks)][i] = impl.Look{Name: "spoilt"}
		}
	}
	if len(out) != 2 || len(out[1].Looks) != 0 || len(ticked.Offer.Looks) != 0 {
		t.Errorf("%+v %+v", ticked, out)
	}
	if !slices.Equal(room, before) || !slices.Equal(room[:cap(room)][2:], make([]impl.Look, 8)) {
		t.Errorf("the looks have become %+v", room[:cap(room)])
	}
	if !reflect.DeepEqual(has.Offer, offer) || !has.Has {
		t.Errorf("the worker has become %+v", has)
	}
}

// TestWorkersStayValid brings a worker all kinds of messages; what it sends by offers of runs as they are has a form.
func TestWorkersStayValid(t *testing.T) {
	r := rand.New(rand.NewSource(80))
	overs, stops := 0, 0
	strange := notOffersTo(2)
	for range 100 {
		tree := randomTree(t, r)
		known := knownOf(tree)
		w := impl.Worker{Number: 2, Up: true}
		for range 30 {
			var bring impl.Message
			switch d := r.Intn(4); {
			case d == 0:
				bring = strange[r.Intn(len(strange))]
			case d == 1 || len(known) == 0:
				bring = randomMessage(r)
				bring.To = min(bring.To, 1)
			default:
				deed := known[r.Intn(len(known))]
				bring = offerOf(2, 1+r.Intn(impl.MaxEpoch), r.Intn(impl.MaxEdits+1), deed.Make, deed.Looks[:r.Intn(len(deed.Looks)+1)])
			}
			w = impl.WorkerTake(w, bring)
			if !impl.ValidWorker(w) {
				t.Fatalf("behind %+v: %+v", bring, w)
			}
			if r.Intn(2) == 0 {
				continue
			}
			had, offer := w.Has, w.Offer
			var out []impl.Message
			w, out = impl.WorkerTick(w)
			if !sameWorker(w, impl.Worker{Number: 2, Up: true}) || !impl.ValidWorker(w) || had != (len(out) == 2) {
				t.Fatalf("behind a tick: %+v, %+v", w, out)
			}
			for _, m := range out {
				form := impl.FormMessage(m, "k")
				if read, ok := impl.ReadMessage(form, "k"); !ok || !sameMessage(read, m) || m.From != 2 {
					t.Fatalf("%+v is sent, which has the form %q", m, form)
				}
			}
			if had && !sameMessage(out[1], turnOf(2, offer.Epoch, offer.Edit, offer.Make.Name, len(offer.Looks), goBy(offer.Make, offer.Looks))) {
				t.Fatalf("%+v is done as %+v", offer, out[1])
			}
			if had && out[1].Turn.Over {
				overs++
			} else if had {
				stops++
			}
		}
	}
	if overs < 100 || stops < 100 {
		t.Errorf("%d over, %d stopped", overs, stops)
	}
}
