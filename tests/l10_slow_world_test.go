package tests

import (
	"loop.example/kiln/impl"
)

// The slow world does what the document says, word by word, with the slow boss; worlds are held against it.

func slowValidWorld(w impl.World) bool {
	if len(w.Key) > impl.MaxKey || !slowValidBoss(w.Boss) || len(w.Workers) != len(w.Boss.Heard) {
		return false
	}
	for i, worker := range w.Workers {
		if worker.Number != i+1 || !impl.ValidWorker(worker) {
			return false
		}
	}
	if len(w.Flight) > impl.MaxFlight || len(w.Answers) > impl.MaxAnswers {
		return false
	}
	for _, p := range w.Flight {
		if p.To < 0 || p.To > len(w.Workers) || len(p.Sent) > impl.MaxBytes || len(p.Bytes) > impl.MaxBytes {
			return false
		}
	}
	return true
}

func slowDo(w impl.World, e impl.Event) impl.World {
	w = copyOf(w)
	if !slowValidWorld(w) {
		return impl.World{}
	}
	isParcel := e.A >= 0 && e.A < len(w.Flight)
	isWorker := e.A >= 1 && e.A <= len(w.Workers)
	switch e.Kind {
	case impl.EvTick:
		slowTickAll(&w)
	case impl.EvBring:
		if isParcel {
			slowBring(&w, e.A)
		}
	case impl.EvDouble:
		if isParcel && len(w.Flight) < impl.MaxFlight {
			w.Flight = append(w.Flight, w.Flight[e.A])
		}
	case impl.EvLose:
		if isParcel {
			slowTakeOut(&w, e.A)
		}
	case impl.EvBend:
		if isParcel && e.C >= 0 {
			w.Flight[e.A].Bytes = slowBend(w.Flight[e.A].Bytes, e.B, e.C)
		}
	case impl.EvFall:
		if e.A == 0 {
			w.Boss = slowFall(w.Boss, e.B)
		} else if isWorker {
			w.Workers[e.A-1] = impl.Worker{Number: e.A}
		}
	case impl.EvRise:
		if e.A == 0 {
			w.Boss = slowRise(w.Boss)
		} else if isWorker {
			w.Workers[e.A-1].Up = true
		}
	case impl.EvAsk:
		slowServe(&w, slowAsk(w.Boss, e.Name))
	case impl.EvEdit:
		slowServe(&w, slowEdit(w.Boss, e.Entry))
	case impl.EvPack:
		slowServe(&w, slowPack(w.Boss))
	}
	return w
}

func slowServe(w *impl.World, d impl.Did) {
	if d.Code == 0 {
		w.Boss = d.Boss
	}
}

func slowTickAll(w *impl.World) {
	d := slowTick(w.Boss)
	w.Boss = d.Boss
	for _, m := range d.Out {
		slowSend(w, m.To, m)
	}
	for i := range w.Workers {
		var out []impl.Message
		w.Workers[i], out = impl.WorkerTick(w.Workers[i])
		for _, m := range out {
			slowSend(w, 0, m)
		}
	}
	for _, a := range d.Answers {
		if len(w.Answers) < impl.MaxAnswers {
			w.Answers = append(w.Answers, a)
		}
	}
}

func slowSend(w *impl.World, to int, m impl.Message) {
	form := impl.FormMessage(m, w.Key)
	if form != "" && len(w.Flight) < impl.MaxFlight {
		w.Flight = append(w.Flight, impl.Parcel{To: to, Sent: form, Bytes: form})
	}
}

func slowTakeOut(w *impl.World, place int) impl.Parcel {
	var left []impl.Parcel
	for i, p := range w.Flight {
		if i != place {
			left = append(left, p)
		}
	}
	p := w.Flight[place]
	w.Flight = left
	return p
}

func slowBring(w *impl.World, place int) {
	p := slowTakeOut(w, place)
	m, ok := impl.ReadMessage(p.Bytes, w.Key)
	switch {
	case !ok:
		return
	case p.To == 0:
		w.Boss = slowTake(w.Boss, m).Boss
	default:
		w.Workers[p.To-1] = impl.WorkerTake(w.Workers[p.To-1], m)
	}
	if w.Forged == "" && p.Bytes != p.Sent {
		w.Forged = p.Bytes
	}
}

func slowBend(text string, at, by int) string {
	bent := ""
	for i := range len(text) {
		b := text[i]
		if i == at {
			b ^= byte(by % 256)
		}
		bent += string([]byte{b})
	}
	return bent
}

func slowCalm(w impl.World, rounds int) impl.World {
	if !slowValidWorld(w) {
		return impl.World{}
	}
	w = copyOf(w)
	for i := 0; i < rounds && i < impl.MaxCalm; i++ {
		w = slowDo(w, impl.Event{Kind: impl.EvTick})
		for n := len(w.Flight); n > 0; n-- {
			w = slowDo(w, impl.Event{Kind: impl.EvBring})
		}
	}
	return w
}

func slowRight(w impl.World) bool {
	if !slowValidWorld(w) {
		return false
	}
	for _, a := range w.Answers {
		if impl.Want(a.Tree, a.Name) != a.Result || !same(impl.Deeds(a.Tree, a.Name), a.Deeds) {
			return false
		}
	}
	return true
}

func slowDoubt(w impl.World) (string, string, bool) {
	if !slowValidWorld(w) {
		return "", "", false
	}
	var texts []string
	texts = append(texts, w.Boss.Store.Texts...)
	texts = append(texts, "1", "0")
	for _, m := range impl.Plan(w.Boss.Tree) {
		for _, look := range impl.Looks(w.Boss.Tree, m.Name) {
			if !look.Has {
				texts = append(texts, impl.FormResult(look.Result))
			}
		}
		if r := impl.Want(w.Boss.Tree, m.Name); r.Code != impl.Circle {
			texts = append(texts, impl.FormResult(r))
		}
	}
	return slowClash(texts, w.Boss.Width)
}
