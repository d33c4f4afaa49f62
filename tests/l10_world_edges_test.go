package tests

import (
	"fmt"
	"slices"
	"strings"
	"testing"

	"loop.example/kiln/impl"
)

// turnByTurn are things that need several ticks: y is made of x, x of a.
func turnByTurn(t *testing.T) impl.Tree {
	t.Helper()
	return treeOf(t, "cat", catTool, "a", "one", "plan", planText(t, "x cat a", "y cat x"))
}

// TestARoundByHand leads a world by its events, and tells all that is sent.
func TestARoundByHand(t *testing.T) {
	w := worldOf(t, 8, 2, turnByTurn(t))
	w = do(t, w, askEvent("x"), askEvent("gone"), event(impl.EvTick))
	if got := flightOf(t, w); got != "0<here 1 | 0<here 2" || answersOf(w) != "gone=4gone" {
		t.Errorf("in flight are %s, answers %s", got, answersOf(w))
	}
	w = do(t, w, event(impl.EvBring, 1))
	if got := flightOf(t, w); got != "0<here 1" || !slices.Equal(w.Boss.Heard, []int{-1, 1}) {
		t.Errorf("in flight are %s, heard %v", got, w.Boss.Heard)
	}
	w = do(t, w, event(impl.EvTick))
	offer := "offer 2 1 3 x cat \"a\"; ask cat 0 \"arg\\0aask\\0aput\\0aend\\0a\""
	if got := flightOf(t, w); got != "0<here 1 | 2<"+offer+" | 0<here 1 | 0<here 2" {
		t.Errorf("in flight are %s", got)
	}
	checkAt(t, w.Boss, "x:w1", "x@2<8")
	w = do(t, w, event(impl.EvBring, 1))
	if w.Workers[0].Has || !w.Workers[1].Has || w.Workers[1].Offer.Make.Name != "x" {
		t.Errorf("%+v", w.Workers)
	}
	w = do(t, w, event(impl.EvLose, 0), event(impl.EvLose, 0), event(impl.EvLose, 0), event(impl.EvTick))
	if got := flightOf(t, w); got != "0<here 1 | 0<here 2 | 0<turn 2 1 3 x 1 2; ask a" || w.Workers[1].Has {
		t.Errorf("in flight are %s", got)
	}
	w = do(t, w, event(impl.EvBring, 2), event(impl.EvBring, 1), event(impl.EvTick))
	if got := flightOf(t, w); got != "0<here 1 | 2<"+offer+"; ask a 0 \"one\" | 0<here 1 | 0<here 2" {
		t.Errorf("in flight are %s", got)
	}
	w = do(t, w, event(impl.EvBring, 1), event(impl.EvTick), event(impl.EvBring, 5))
	if got := runsOf(w.Boss); got != "x:o2=0one" {
		t.Errorf("runs are %s", got)
	}
	w = do(t, w, askEvent("plan"), event(impl.EvTick))
	if got := answersOf(w); got != "gone=4gone x=0one plan=0"+planText(t, "x cat a", "y cat x") {
		t.Errorf("answers are %s", got)
	}
	checkRight(t, w, true)
}

// TestTheOrderOfATick has all of a world send and answer in one tick, behind what is in flight and answered already.
func TestTheOrderOfATick(t *testing.T) {
	tree := treeOf(t, "cat", catTool, "a", "one", "b", "two", "plan", planText(t, "p cat a", "q cat b", "r cat a", "s cat b"))
	for workers := 1; workers <= impl.MaxWorkers; workers++ {
		w := worldOf(t, 8, workers, tree)
		for _, name := range []string{"s", "q", "b", "r", "p", "gone", "a"} {
			w = do(t, w, askEvent(name))
		}
		w.Boss = hearing(t, w.Boss, []int{1, 2, 3, 4}[:workers]...)
		for number := 1; number <= workers; number++ {
			w.Workers[number-1] = withOffer(number, offerOf(number, 1, 1, catRun, nil))
		}
		first := []impl.Parcel{{To: workers, Sent: "s", Bytes: "b"}, {}}
		w.Flight = first
		w.Answers = []impl.Answer{{Name: "first"}, {}}
		after := do(t, w, event(impl.EvTick))
		var want []string
		for i, name := range []string{"p cat \"a\"", "q cat \"b\"", "r cat \"a\"", "s cat \"b\""}[:workers] {
			want = append(want, fmt.Sprintf("%d<offer %d 1 4 %s; ask cat 0 %s", i+1, i+1, name, slowQuote(catTool)))
		}
		for number := 1; number <= workers; number++ {
			want = append(want, fmt.Sprintf("0<here %d", number), fmt.Sprintf("0<turn %d 1 1 %s 0 0; ask cat", number, catRun.Name))
		}
		if !slices.Equal(after.Flight[:2], first) || answersOf(after) != "first=0 =0 b=0two gone=4gone a=0one" {
			t.Errorf("%+v", after)
		}
		after.Flight = after.Flight[2:]
		if got := flightOf(t, after); got != strings.Join(want, " | ") {
			t.Errorf("in flight are %s, want %s", got, strings.Join(want, " | "))
		}
		if !slices.Equal(after.Boss.Roots, []string{"s", "q", "r", "p"}) {
			t.Errorf("roots are %q", after.Boss.Roots)
		}
	}
}

// busyWorld is one whose next tick sends eight parcels: two offers, a here and a turn of worker 1, and of worker 2, and a here of the two others.
func busyWorld(t *testing.T) impl.World {
	t.Helper()
	tree := treeOf(t, "cat", catTool, "a", "one", "plan", planText(t, "p cat a", "q cat a"))
	w := do(t, worldOf(t, 8, 4, tree), askEvent("p"), askEvent("q"), askEvent("a"), askEvent("cat"), askEvent("gone"))
	w.Boss = hearing(t, w.Boss, 1, 3)
	w.Workers[0] = withOffer(1, offerOf(1, 1, 1, catRun, nil))
	w.Workers[1] = withOffer(2, offerOf(2, 1, 1, catRun, nil))
	return w
}

// TestRoomInFlight leaves room for none, some and all of what is sent.
func TestRoomInFlight(t *testing.T) {
	w := busyWorld(t)
	all := do(t, w, event(impl.EvTick))
	if got := flightOf(t, all); len(all.Flight) != 8 || !strings.HasPrefix(got, "1<offer 1 1 3 p") || !strings.HasSuffix(got, " | 0<here 4") {
		t.Fatalf("in flight are %s", got)
	}
	for room := range 10 {
		full := copyOf(w)
		full.Flight = slices.Repeat([]impl.Parcel{{To: 1, Sent: "s", Bytes: "b"}}, impl.MaxFlight-room)
		want := copyOf(all)
		want.Flight = slices.Concat(full.Flight, all.Flight[:min(room, 8)])
		after := do(t, full, event(impl.EvTick))
		checkWorld(t, after, want) // what found no room is gone: its job, and the worker's offer too
		if room == 0 && len(after.Flight) != impl.MaxFlight {
			t.Errorf("%d are in flight", len(after.Flight))
		}
		doubled := do(t, full, event(impl.EvDouble, 3))
		if len(doubled.Flight) != min(impl.MaxFlight, impl.MaxFlight-room+1) {
			t.Errorf("with room for %d, behind doubling %d are in flight", room, len(doubled.Flight))
		}
	}
}

// TestRoomForAnswers leaves room for none, some and all answers; a root that is answered is one no longer, even so.
func TestRoomForAnswers(t *testing.T) {
	w := busyWorld(t)
	all := do(t, w, event(impl.EvTick))
	if got := answersOf(all); !strings.HasPrefix(got, "a=0one cat=0arg") || !strings.HasSuffix(got, " gone=4gone") || len(all.Answers) != 3 {
		t.Fatalf("answers are %s", got)
	}
	for room := range 5 {
		full := copyOf(w)
		full.Answers = slices.Repeat([]impl.Answer{{Name: "before"}}, impl.MaxAnswers-room)
		want := copyOf(all)
		want.Answers = slices.Concat(full.Answers, all.Answers[:min(room, 3)])
		after := do(t, full, event(impl.EvTick))
		checkWorld(t, after, want)
		checkWorld(t, impl.Calm(after, 30), slowCalm(after, 30))
	}
}

// TestAMessageWithoutAForm has a worker with an offer whose looks the run does not make.
func TestAMessageWithoutAForm(t *testing.T) {
	w := worldOf(t, 8, 3, turnByTurn(t))
	w.Workers[1] = withOffer(2, offerOf(2, 1, 3, catRun, []impl.Look{asked("dog", res(impl.Missing, "cat"))}))
	w.Workers[0] = withOffer(1, offerOf(1, 1, 3, catRun, nil))
	after := do(t, w, event(impl.EvTick))
	if got := flightOf(t, after); got != "0<here 1 | 0<turn 1 1 3 x 0 0; ask cat | 0<here 2 | 0<here 3" || after.Workers[1].Has {
		t.Errorf("in flight are %s", got)
	}
	// it takes no room either
	w.Flight = make([]impl.Parcel, impl.MaxFlight-4)
	after = do(t, w, event(impl.EvTick))
	if last := after.Flight[impl.MaxFlight-1]; !strings.HasSuffix(last.Sent, "here 3\n") {
		t.Errorf("last in flight is %+v", last)
	}
}

// offered is a world with an offer of x to worker 1 in flight, behind a here.
func offered(t *testing.T) impl.World {
	t.Helper()
	w := do(t, worldOf(t, 8, 1, turnByTurn(t)), askEvent("x"), event(impl.EvTick), event(impl.EvBring), event(impl.EvTick))
	if got := flightOf(t, w); !strings.HasPrefix(got, "1<offer 1 1 3 x") || !strings.HasSuffix(got, " | 0<here 1") || len(w.Flight) != 2 {
		t.Fatalf("in flight are %s", got)
	}
	return w
}

func TestBending(t *testing.T) {
	w := offered(t)
	sent := w.Flight[0].Sent
	last := len(sent) - 1
	for _, at := range []int{0, 1, 7, 8, 20, last - 1, last} {
		for _, by := range []int{1, 128, 255, 256 + 1, 1 << 40, 1<<40 + 2, 1<<63 - 1} {
			bent := do(t, w, event(impl.EvBend, 0, at, by))
			want := copyOf(w)
			want.Flight[0].Bytes = sent[:at] + string([]byte{sent[at] ^ byte(by%256)}) + sent[at+1:]
			checkWorld(t, bent, want)
			if by%256 == 0 {
				checkWorld(t, bent, w)
				continue
			}
			brought := do(t, bent, event(impl.EvBring, 0))
			if brought.Workers[0].Has || brought.Forged != "" || len(brought.Flight) != 1 {
				t.Errorf("bent at %d by %d it has brought %+v", at, by, brought)
			}
			back := do(t, bent, event(impl.EvBend, 0, at, by%256+512))
			checkWorld(t, back, w)
			if brought := do(t, back, event(impl.EvBring, 0)); !brought.Workers[0].Has || brought.Forged != "" {
				t.Errorf("bent back at %d it has brought %+v", at, brought)
			}
		}
		for _, by := range []int{-1, -256, -255, -1 << 63, 0, 256, 512} {
			checkWorld(t, do(t, w, event(impl.EvBend, 0, at, by)), w)
		}
	}
	for _, at := range []int{-1, last + 1, last + 2, 1 << 32, -1 << 63} {
		checkWorld(t, do(t, w, event(impl.EvBend, 0, at, 1)), w)
	}
	w.Flight[1].Bytes = ""
	checkWorld(t, do(t, w, event(impl.EvBend, 1, 0, 1)), w)
}

func TestDoublingAndLosing(t *testing.T) {
	w := offered(t)
	w = do(t, w, event(impl.EvBend, 0, 3, 1), event(impl.EvDouble, 0), event(impl.EvDouble, 1))
	bent, here := w.Flight[0], w.Flight[1]
	if !slices.Equal(w.Flight, []impl.Parcel{bent, here, bent, here}) || bent.Sent == bent.Bytes {
		t.Errorf("%+v", w.Flight)
	}
	// each is bent alone
	w = do(t, w, event(impl.EvBend, 2, 3, 1))
	if w.Flight[0] != bent || w.Flight[2].Bytes != bent.Sent {
		t.Errorf("%+v", w.Flight)
	}
	before := w
	w = do(t, w, event(impl.EvLose, 0), event(impl.EvLose, 2))
	if !slices.Equal(w.Flight, []impl.Parcel{here, {To: 1, Sent: bent.Sent, Bytes: bent.Sent}}) {
		t.Errorf("%+v", w.Flight)
	}
	before.Flight = w.Flight
	checkWorld(t, w, before) // nothing else has changed
	// a double is taken like the first: the run goes on, whichever comes
	w = do(t, w, event(impl.EvDouble, 1), event(impl.EvBring, 1), event(impl.EvTick))
	turn := len(w.Flight) - 1
	w = do(t, w, event(impl.EvDouble, turn), event(impl.EvBring, turn))
	checkAt(t, w.Boss, "x:w1>a", "")
	again := do(t, w, event(impl.EvBring, len(w.Flight)-1))
	checkBoss(t, again.Boss, w.Boss)
	if got := answersOf(calm(t, again, 20)); got != "x=0one" {
		t.Errorf("answers are %s", got)
	}
}

// TestBroughtLate brings offers and turns of an earlier edit, of an earlier epoch, and to a worker that is not Up.
func TestBroughtLate(t *testing.T) {
	w := offered(t)
	down := do(t, w, event(impl.EvFall, 1))
	brought := do(t, down, event(impl.EvBring, 0))
	if brought.Workers[0] = (impl.Worker{Number: 1}); !same(brought.Workers, down.Workers) || len(brought.Flight) != 1 || brought.Forged != "" {
		t.Errorf("%+v", brought)
	}
	if ticked := do(t, down, event(impl.EvTick)); len(ticked.Flight) != 2 {
		t.Errorf("one that is not up sends %+v", ticked.Flight)
	}
	checkBoss(t, brought.Boss, w.Boss)
	if up := do(t, brought, event(impl.EvRise, 1), event(impl.EvTick)); up.Workers[0].Has || !strings.HasSuffix(flightOf(t, up), "0<here 1 | 0<here 1") {
		t.Errorf("%+v", up)
	}
	// a turn of an earlier edit, then one of an earlier epoch
	turned := do(t, w, event(impl.EvBring, 0), event(impl.EvTick))
	for what, changes := range map[string][]impl.Event{
		"edit":  {editEvent(fileEntry("a", "two"))},
		"epoch": {event(impl.EvFall, 0, 0), event(impl.EvRise, 0), askEvent("x")},
	} {
		late := do(t, do(t, turned, changes...), event(impl.EvTick))
		before := late.Boss
		late = do(t, late, event(impl.EvBring, 2))
		before.Heard = []int{late.Boss.Now}
		checkBoss(t, late.Boss, before)
		late = calm(t, late, 30)
		if len(late.Answers) != 1 || late.Answers[0].Result != impl.Want(late.Boss.Tree, "x") {
			t.Errorf("behind a late turn of an earlier %s answers are %s", what, answersOf(late))
		}
		checkRight(t, late, true)
	}
	// a boss that is not Up takes nothing, but what is brought to it is gone
	fallen := do(t, turned, event(impl.EvFall, 0, 0))
	after := do(t, fallen, event(impl.EvBring, 2))
	checkBoss(t, after.Boss, fallen.Boss)
	if len(after.Flight) != len(fallen.Flight)-1 {
		t.Errorf("%+v", after.Flight)
	}
}

func TestFallsAndRisesInAWorld(t *testing.T) {
	w := richWorld(t)
	for number := 1; number <= 3; number++ {
		down := do(t, w, event(impl.EvFall, number, 7, 7))
		want := copyOf(w)
		want.Workers[number-1] = impl.Worker{Number: number}
		checkWorld(t, down, want)
		checkWorld(t, do(t, down, event(impl.EvFall, number)), want)
		up := do(t, down, event(impl.EvRise, number))
		want.Workers[number-1].Up = true
		checkWorld(t, up, want)
		checkWorld(t, do(t, up, event(impl.EvRise, number)), want)
	}
	checkWorld(t, do(t, w, event(impl.EvRise, 0)), w)
	checkWorld(t, do(t, w, event(impl.EvRise, 1)), w) // its offer is still there
	for keep := -2; keep <= 3; keep++ {
		down := do(t, w, event(impl.EvFall, 0, keep))
		want := copyOf(w)
		want.Boss = impl.BossFall(w.Boss, keep)
		checkWorld(t, down, want)
		want.Boss = impl.BossRise(want.Boss)
		checkWorld(t, do(t, down, event(impl.EvRise, 0)), want)
		want.Boss = impl.BossFall(down.Boss, 0)
		checkWorld(t, do(t, down, event(impl.EvFall, 0, 0)), want)
	}
}

// forgedParcel has bytes that are read, but were not sent.
func forgedParcel(to int, m impl.Message, key string) impl.Parcel {
	p := parcelOf(to, m, key)
	p.Sent += "x"
	return p
}

func TestForged(t *testing.T) {
	w := offered(t)
	w.Forged = ""
	turn := forgedParcel(0, turnOf(1, 1, 3, "x", 1, over(impl.Done, "made up", 3)), "key")
	here := forgedParcel(0, hereOf(1), "key")
	offer := forgedParcel(1, offerOf(1, 1, 3, catRun, nil), "key")
	w.Flight = []impl.Parcel{here, turn, offer, {Sent: "x", Bytes: "y"}, {Sent: here.Bytes, Bytes: tagged("here 1\n", "another")}, parcelOf(0, hereOf(1), "key"), forgedParcel(0, offerOf(1, 1, 3, catRun, nil), "key"), forgedParcel(1, hereOf(1), "key")}
	for _, place := range []int{3, 4, 5} { // not read, or as it was sent
		if after := do(t, w, event(impl.EvBring, place)); after.Forged != "" {
			t.Errorf("parcel %d: forged is %q", place, after.Forged)
		}
	}
	for _, place := range []int{0, 1, 2, 6, 7} { // the last two are read by one that has no use for them
		after := do(t, w, event(impl.EvBring, place))
		if after.Forged != w.Flight[place].Bytes {
			t.Errorf("parcel %d: forged is %q", place, after.Forged)
		}
		// only the first is shown
		for range 7 {
			after = do(t, after, event(impl.EvBring, 0))
		}
		if after.Forged != w.Flight[place].Bytes || len(after.Flight) != 0 {
			t.Errorf("behind parcel %d: forged is %q", place, after.Forged)
		}
	}
	// it is shown even where nobody is Up to take it, and it is taken where one is
	down := do(t, w, event(impl.EvFall, 0), event(impl.EvFall, 1))
	if got := do(t, down, event(impl.EvBring, 1)).Forged; got != turn.Bytes {
		t.Errorf("forged is %q", got)
	}
	if got := do(t, down, event(impl.EvBring, 2)).Forged; got != offer.Bytes {
		t.Errorf("forged is %q", got)
	}
	after := do(t, w, event(impl.EvBring, 2), event(impl.EvBring, 1))
	if !after.Workers[0].Has || runsOf(after.Boss) != "x:o1=0made up" {
		t.Errorf("%+v", after)
	}
	after = do(t, after, event(impl.EvTick))
	if answersOf(after) != "x=0made up" {
		t.Errorf("answers are %s", answersOf(after))
	}
	checkRight(t, after, false)
	// another Forged stays, whatever it is
	w.Forged = "z"
	if got := do(t, w, event(impl.EvBring, 0)).Forged; got != "z" {
		t.Errorf("forged is %q", got)
	}
	// a parcel whose Sent is nothing was changed too
	w.Forged, w.Flight[0].Sent = "", ""
	if got := do(t, w, event(impl.EvBring, 0)).Forged; got != here.Bytes {
		t.Errorf("forged is %q", got)
	}
	// with nothing in its bytes it is not read
	w.Flight[0] = impl.Parcel{Sent: here.Bytes}
	if got := do(t, w, event(impl.EvBring, 0)).Forged; got != "" {
		t.Errorf("forged is %q", got)
	}
}

// TestAForgedTagByBending bends a parcel into another one with a right tag.
func TestAForgedTagByBending(t *testing.T) {
	w := offered(t)
	other := impl.FormMessage(offerOf(1, 1, 4, impl.Make{Name: "x", Tool: "cat", Arg: "a"}, []impl.Look{catLook()}), "key")
	for i := range len(other) {
		w = do(t, w, event(impl.EvBend, 0, i, int(w.Flight[0].Bytes[i]^other[i])))
	}
	w = do(t, w, event(impl.EvBring, 0))
	if w.Forged != other || !w.Workers[0].Has || w.Workers[0].Offer.Edit != 4 {
		t.Errorf("%+v", w)
	}
}

// TestTheLastTick has a boss whose time is over: it does not tick, but its workers do, and what is brought is taken.
func TestTheLastTick(t *testing.T) {
	w := do(t, worldOf(t, 8, 2, turnByTurn(t)), askEvent("x"), askEvent("a"))
	w.Boss.Now = impl.MaxTime - 1
	w = do(t, w, event(impl.EvTick))
	if w.Boss.Now != impl.MaxTime || answersOf(w) != "a=0one" || len(w.Flight) != 2 || len(w.Boss.Log.Loose) != 0 {
		t.Errorf("%+v", w)
	}
	w = do(t, w, askEvent("cat"), editEvent(fileEntry("b", "")))
	before := copyOf(w)
	w = do(t, w, event(impl.EvTick))
	before.Flight = append(before.Flight, before.Flight...)
	checkWorld(t, w, before)
	w = do(t, w, event(impl.EvBring, 3))
	if !slices.Equal(w.Boss.Heard, []int{-1, impl.MaxTime}) {
		t.Errorf("heard are %v", w.Boss.Heard)
	}
	w = calm(t, w, 3)
	if len(w.Flight) != 0 || len(w.Answers) != 1 || w.Boss.Now != impl.MaxTime || len(w.Boss.Log.Loose) != 1 {
		t.Errorf("%+v", w)
	}
}

func TestRoundsOfCalm(t *testing.T) {
	w := do(t, worldOf(t, 8, 2, turnByTurn(t)), askEvent("y"))
	for _, rounds := range []int{0, -1, -1 << 63} {
		checkWorld(t, calm(t, w, rounds), w)
	}
	for rounds := range 20 {
		after := calm(t, w, rounds)
		checkWorld(t, after, slowCalm(w, rounds))
		if after.Boss.Now != rounds || len(after.Flight) != 0 {
			t.Errorf("%d rounds: %+v", rounds, after)
		}
	}
	for _, rounds := range []int{impl.MaxCalm - 1, impl.MaxCalm, impl.MaxCalm + 1, 1<<63 - 1} {
		if now := calm(t, w, rounds).Boss.Now; now != min(rounds, impl.MaxCalm) {
			t.Errorf("%d rounds: now is %d", rounds, now)
		}
	}
	// all that is in flight behind the tick is brought, be it much; what was there before is brought first
	full := copyOf(w)
	heres := []impl.Parcel{parcelOf(0, hereOf(1), "key"), {To: 1, Bytes: "x"}}
	full.Flight = slices.Repeat(heres, impl.MaxFlight/2)
	after := calm(t, full, 1)
	checkWorld(t, after, slowCalm(full, 1))
	if len(after.Flight) != 0 || !slices.Equal(after.Boss.Heard, []int{1, -1}) {
		t.Errorf("%+v", after)
	}
	late := offerOf(2, 1, 1, catRun, nil)
	w = calm(t, w, 1)
	w.Flight = []impl.Parcel{parcelOf(2, late, "key"), parcelOf(1, offerOf(1, 1, 1, catRun, nil), "key")}
	after = calm(t, w, 1)
	if got := after.Workers[0].Offer.Make.Name + after.Workers[1].Offer.Make.Name; got != "yx" || after.Workers[0].Offer.Edit != 3 || after.Workers[1].Offer.Edit != 1 {
		t.Errorf("%+v", after.Workers)
	}
}

// twinOf is a text whose form as Done has the sum, of one byte, of another text, with a number for another one each time.
func twinOf(t *testing.T, other string, n int) string {
	t.Helper()
	for i := range 100000 {
		text := fmt.Sprint("twin ", i)
		if form := "0:" + text; form != other && impl.Sum(form, 1) == impl.Sum(other, 1) {
			if n == 0 {
				return text
			}
			n--
		}
	}
	t.Fatalf("%q has no twin", other)
	return ""
}

func checkDoubt(t *testing.T, w impl.World, first, second string) {
	t.Helper()
	x, y, ok := doubt(t, w)
	if x != first || y != second || ok != (first+second != "") {
		t.Errorf("doubt is %q, %q, %v, want %q, %q", x, y, ok, first, second)
	}
	if x, y, ok := slowDoubt(w); x != first || y != second || ok != (first+second != "") {
		t.Errorf("slow doubt is %q, %q, %v, want %q, %q", x, y, ok, first, second)
	}
}

// TestDoubtOfEachText has twins, of one byte, in all places where Doubt looks, and in those where it does not.
func TestDoubtOfEachText(t *testing.T) {
	form := func(text string) string { return impl.FormResult(res(impl.Done, text)) }
	none := impl.NewWorld(1, 1, "")
	checkDoubt(t, none, "", "")
	one, zero := twinOf(t, "1", 0), twinOf(t, "0", 0)
	plan := planText(t, "x cat a")
	base := treeOf(t, "cat", catTool, "plan", plan, "a", "v")
	checkDoubt(t, worldOf(t, 1, 1, base), "", "")
	for _, c := range []struct {
		what, first, second string
		tree                impl.Tree
	}{
		{"a look", form(catTool), form(twinOf(t, form(catTool), 0)), setFile(t, base, "a", twinOf(t, form(catTool), 0))},
		{"a look with 1", "1", form(one), setFile(t, base, "a", one)},
		{"a look with 0", "0", form(zero), setFile(t, base, "a", zero)},
		{"a file that is not looked at", "", "", setFile(t, base, "b", one)},
		{"the first j", "1", form(one), treeOf(t, "cat", catTool, "plan", planText(t, "x cat a", "y cat b"), "a", one, "b", zero)},
		{"what it comes to", "1", form(one), treeOf(t, "tool", toolText("lit "+slowQuote(one)+"; put; end"), "plan", planText(t, "x tool a"))},
		{"a thing that fails", "1:" + "q", form(twinOf(t, "1:q", 0)), treeOf(t, "fail", failTool, "cat", catTool, "plan", planText(t, "x fail q", "y cat b"), "b", twinOf(t, "1:q", 0))},
		{"the tool's text alone", "1", form(toolTwin(t, "1")), treeOf(t, "tool", toolTwin(t, "1"), "plan", planText(t, "x tool a"))},
	} {
		t.Run(c.what, func(t *testing.T) { checkDoubt(t, worldOf(t, 1, 1, c.tree), c.first, c.second) })
	}
}

// toolTwin is a tool whose text's form has the sum, of one byte, of another text.
func toolTwin(t *testing.T, other string) string {
	t.Helper()
	for i := range 100000 {
		tool := toolText("lit \"" + fmt.Sprint(i) + "\"; put; end")
		if impl.Sum("0:"+tool, 1) == impl.Sum(other, 1) && impl.Sum(fmt.Sprint("0:", i), 1) != impl.Sum(other, 1) {
			return tool
		}
	}
	t.Fatalf("%q has no twin", other)
	return ""
}

// TestNoDoubtOfHasAndCircle has twins of what a look of Has would come to if it were another look, and of the text that a thing without a result has.
func TestNoDoubtOfHasAndCircle(t *testing.T) {
	for what, other := range map[string]string{"a thing": "0:", "no thing": "4:gone", "circle": ""} {
		twin := twinOf(t, other, 0)
		tree := treeOf(t, "has", hasTool, "cat", catTool, "a", twin, "plan", planText(t, "w cat a", "x has gone", "y has plan", "z cat z"))
		texts := []string{"1", "0", "0:" + catTool, "0:" + twin, "0:" + hasTool, "0:0", "0:1"}
		if _, _, ok := slowClash(texts, 1); ok {
			t.Fatalf("%s: %q have twins beside the ones that are asked for", what, texts)
		}
		checkDoubt(t, worldOf(t, 1, 1, tree), "", "")
	}
}

// learnt is an edit by which a store has two texts more: that of a tool, and that of a run which fails with a text.
func learnt(text string) impl.Event {
	tool := toolText("lit " + slowQuote(text) + "; fail")
	return editEvent(ranEntry(impl.Make{Name: "q", Tool: "lit"}, []impl.Look{asked("lit", res(impl.Done, tool))}, res(impl.Failed, text)))
}

// TestDoubtIsOfTheFirstText has a store with twins of 0 and of 1.
func TestDoubtIsOfTheFirstText(t *testing.T) {
	var zeros, ones []string
	for i := range 5000 {
		text := fmt.Sprint("fail ", i)
		switch impl.Sum("1:"+text, 1) {
		case impl.Sum("0", 1):
			zeros = append(zeros, text)
		case impl.Sum("1", 1):
			ones = append(ones, text)
		}
	}
	met := 0
	for i := range min(len(zeros), len(ones)) {
		w := do(t, impl.NewWorld(1, 1, ""), learnt(zeros[i]), learnt(ones[i]))
		x, y, ok := slowClash(append(slices.Clone(w.Boss.Store.Texts), "1"), 1)
		if len(w.Boss.Store.Texts) == 4 && ok && y == "1" && x == "1:"+ones[i] {
			met++
			checkDoubt(t, w, x, y)
		}
	}
	if met == 0 {
		t.Errorf("no store with both, of %d and %d texts", len(zeros), len(ones))
	}
}

// TestDoubtOfTheStore has twins in the store, beside the tree, beside 1 and 0; two within a store there can't be.
func TestDoubtOfTheStore(t *testing.T) {
	base := treeOf(t, "cat", catTool, "plan", planText(t, "x cat a"), "a", "v")
	w := worldOf(t, 1, 1, base)
	for _, other := range []string{"1", "0", "0:v", "0:" + catTool} {
		met := false
		for i := 0; i < 10000 && !met; i++ {
			text := fmt.Sprint(i)
			tool := "0:" + toolText("lit "+slowQuote(text)+"; fail")
			texts := append([]string{"1:" + text, tool}, "1", "0", "0:"+catTool, "0:v")
			x, y, ok := slowClash(texts, 1)
			if !ok || y != other || x != "1:"+text || impl.Sum(tool, 1) == impl.Sum(x, 1) {
				continue
			}
			met = true
			taught := do(t, w, learnt(text))
			if len(taught.Boss.Store.Texts) != 2 {
				t.Fatalf("it is not learnt: %+v", taught.Boss.Store)
			}
			checkDoubt(t, taught, x, y)
			checkDoubt(t, do(t, taught, editEvent(clearEntry())), "", "")
			checkDoubt(t, do(t, taught, event(impl.EvFall, 0, 0)), "", "")
			checkDoubt(t, do(t, taught, event(impl.EvFall, 0, 9)), "", "")
			checkDoubt(t, do(t, taught, event(impl.EvFall, 0, 9), event(impl.EvRise, 0)), x, y)
			twins := copyOf(taught)
			twins.Boss.Store.Texts[1] = "0:" + twinOf(t, twins.Boss.Store.Texts[0], 0)
			if x, y, ok := impl.Doubt(twins); x+y != "" || ok {
				t.Errorf("doubt of a world that is not valid is %q, %q, %v", x, y, ok)
			}
		}
		if !met {
			t.Errorf("no text with the sum of %q", other)
		}
	}
	// what is made is remembered; the tree is another one then, and the text that is remembered has a twin in it
	w = calm(t, do(t, w, askEvent("x")), 20)
	checkDoubt(t, w, "", "")
	w = do(t, w, editEvent(fileEntry("a", twinOf(t, "0:v", 0))))
	checkDoubt(t, w, "0:v", "0:"+twinOf(t, "0:v", 0))
	// it is right to be in doubt
	w = calm(t, do(t, w, askEvent("x")), 20)
	checkRight(t, w, false)
}
