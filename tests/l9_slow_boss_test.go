package tests

import (
	"cmp"
	"slices"
	"strings"

	"loop.example/kiln/impl"
)

// The slow boss does what the document says, word by word, by going through lists; bosses are held against it.

func slowMake(b impl.Boss, name string) (impl.Make, bool) {
	for _, m := range impl.Plan(b.Tree) {
		if m.Name == name {
			return m, true
		}
	}
	return impl.Make{}, false
}

func slowRun(b *impl.Boss, name string) *impl.Run {
	for i := range b.Runs {
		if b.Runs[i].Name == name {
			return &b.Runs[i]
		}
	}
	return nil
}

func logOf(b impl.Boss) []string {
	return slices.Concat(b.Log.Safe, b.Log.Loose)
}

func slowValidLook(look impl.Look) bool {
	if look.Has && look.Result != (impl.Result{}) && look.Result != res(impl.Missing, look.Name) {
		return false
	}
	_, code := impl.Keep(impl.Store{Width: 8}, catRun, []impl.Look{look}, impl.Result{})
	return code == 0
}

func slowIsName(name string) bool {
	return impl.ValidResult(res(impl.Below, name))
}

func slowValidBoss(b impl.Boss) bool {
	if b.Width < 1 || b.Width > impl.MaxWidth || len(b.Heard) < 1 || len(b.Heard) > impl.MaxWorkers || b.Now < 0 || b.Now > impl.MaxTime {
		return false
	}
	for _, heard := range b.Heard {
		if heard < -1 || heard > b.Now || !b.Up && heard != -1 {
			return false
		}
	}
	memory := impl.Replay(logOf(b), b.Width)
	if memory.Code != 0 {
		return false
	}
	if !b.Up {
		return same(b, impl.Boss{Width: b.Width, Now: b.Now, Log: b.Log, Heard: b.Heard})
	}
	if b.Epoch < 1 || !same(memory, impl.Memory{Epoch: b.Epoch, Tree: b.Tree, Store: b.Store}) || b.Edit < 0 || b.Edit > impl.MaxEdits {
		return false
	}
	return slowValidRoots(b) && slowValidRuns(b) && slowValidJobs(b)
}

func slowValidRoots(b impl.Boss) bool {
	for i, root := range b.Roots {
		if i >= impl.MaxRoots || !slowIsName(root) || slices.Index(b.Roots, root) != i {
			return false
		}
	}
	return true
}

func slowValidRuns(b impl.Boss) bool {
	for i, run := range b.Runs {
		if _, made := slowMake(b, run.Name); !made || i > 0 && b.Runs[i-1].Name >= run.Name {
			return false
		}
		if len(run.Looks) > impl.MaxLooks || run.Wait != "" && !slowIsName(run.Wait) || run.Mode < impl.RunRecall || run.Mode > impl.RunOver {
			return false
		}
		for _, look := range run.Looks {
			if !slowValidLook(look) {
				return false
			}
		}
		if run.Mode != impl.RunOver && run.Result != (impl.Result{}) || run.Mode == impl.RunOver && (!impl.ValidResult(run.Result) || run.Wait != "") {
			return false
		}
	}
	return true
}

func slowValidJobs(b impl.Boss) bool {
	for i, job := range b.Jobs {
		run := slowRun(&b, job.Name)
		if i > 0 && b.Jobs[i-1].Name >= job.Name || run == nil || run.Mode != impl.RunWork || run.Wait != "" {
			return false
		}
		if job.Worker < 1 || job.Worker > len(b.Heard) || job.Until < b.Now || job.Until > b.Now+impl.LeaseTicks {
			return false
		}
		for _, other := range b.Jobs[:i] {
			if other.Worker == job.Worker {
				return false
			}
		}
	}
	return true
}

func slowWanted(b *impl.Boss, name string) {
	if _, made := slowMake(*b, name); made && slowRun(b, name) == nil {
		b.Runs = append(b.Runs, impl.Run{Name: name})
		slices.SortFunc(b.Runs, func(a, b impl.Run) int { return strings.Compare(a.Name, b.Name) })
	}
}

// overDeeds are the deeds of the Runs that are over.
func overDeeds(b impl.Boss) []impl.Deed {
	var deeds []impl.Deed
	for _, run := range b.Runs {
		if run.Mode == impl.RunOver {
			deeds = append(deeds, deedOf(run.Name, run.Result))
		}
	}
	return deeds
}

func slowSettleOne(b *impl.Boss, name string) {
	run := slowRun(b, name)
	switch m, _ := slowMake(*b, name); run.Mode {
	case impl.RunRecall:
		turn, looks := impl.Recall(b.Store, b.Tree, m, overDeeds(*b))
		switch {
		case turn.Over:
			*run = impl.Run{Name: name, Mode: impl.RunOver, Looks: looks, Result: turn.Result}
		case turn.Name != "":
			run.Wait, run.Looks = turn.Name, looks
			slowWanted(b, turn.Name)
		default:
			*run = impl.Run{Name: name, Mode: impl.RunWork, Wait: m.Tool}
			slowWanted(b, m.Tool)
		}
	case impl.RunWork:
		if r, known, _ := slowKnown(b.Tree, overDeeds(*b), run.Wait); run.Wait != "" && known && len(run.Looks) < impl.MaxLooks {
			run.Looks = append(run.Looks, asked(run.Wait, r))
			run.Wait = ""
		}
	}
}

func slowSettle(b *impl.Boss) {
	for {
		before := copyOf(b.Runs)
		for _, run := range before {
			slowSettleOne(b, run.Name)
		}
		if same(before, b.Runs) {
			return
		}
	}
}

func slowTick(b impl.Boss) impl.Did {
	b = copyOf(b)
	if !slowValidBoss(b) {
		return impl.Did{Code: 1}
	}
	if !b.Up || b.Now == impl.MaxTime {
		return impl.Did{Boss: b}
	}
	d := impl.Did{}
	b.Now++
	b.Log = impl.Log{Safe: logOf(b)}
	b.Jobs = slices.DeleteFunc(b.Jobs, func(job impl.Job) bool { return job.Until < b.Now })
	for _, root := range b.Roots {
		slowWanted(&b, root)
	}
	slowSettle(&b)
	open := 0
	for _, run := range b.Runs {
		if run.Mode != impl.RunWork || run.Wait != "" {
			continue
		}
		open++
		if worker := slowFree(b); worker > 0 && !slices.ContainsFunc(b.Jobs, func(job impl.Job) bool { return job.Name == run.Name }) {
			m, _ := slowMake(b, run.Name)
			d.Out = append(d.Out, copyOf(offerOf(worker, b.Epoch, b.Edit, m, run.Looks)))
			b.Jobs = append(b.Jobs, impl.Job{Name: run.Name, Worker: worker, Until: b.Now + impl.LeaseTicks})
		}
	}
	slices.SortFunc(b.Jobs, func(a, b impl.Job) int { return cmp.Compare(a.Name, b.Name) })
	roots := b.Roots
	b.Roots = nil
	for _, root := range roots {
		r, known, _ := slowKnown(b.Tree, overDeeds(b), root)
		switch {
		case known:
			d.Answers = append(d.Answers, impl.Answer{Name: root, Tree: b.Tree, Result: r, Deeds: slowAnswerDeeds(b, root)})
		case open == 0:
			d.Answers = append(d.Answers, impl.Answer{Name: root, Tree: b.Tree, Result: res(impl.Circle, ""), Deeds: slowAnswerDeeds(b, root)})
		default:
			b.Roots = append(b.Roots, root)
		}
	}
	d.Boss = b
	return d
}

// slowFree is the least worker that is there and has no job, 0 if there is none.
func slowFree(b impl.Boss) int {
	for i, heard := range b.Heard {
		if heard >= 0 && b.Now-heard <= 4 && !slices.ContainsFunc(b.Jobs, func(job impl.Job) bool { return job.Worker == i+1 }) {
			return i + 1
		}
	}
	return 0
}

// slowAnswerDeeds gathers names until there are no more, and tells their deeds by the Runs.
func slowAnswerDeeds(b impl.Boss, name string) []impl.Deed {
	names := map[string]bool{name: true}
	for before := 0; before < len(names); {
		before = len(names)
		for _, run := range b.Runs {
			if !names[run.Name] {
				continue
			}
			for _, look := range run.Looks {
				if !look.Has {
					names[look.Name] = true
				}
			}
			if run.Wait != "" {
				names[run.Wait] = true
			}
		}
	}
	var deeds []impl.Deed
	for name := range names {
		d := impl.Deed{Name: name}
		if d.Make, d.Made = slowMake(b, name); !d.Made {
			d.Result, _, _ = slowKnown(b.Tree, nil, name)
		} else {
			d.Result = res(impl.Circle, "")
		}
		if run := slowRun(&b, name); run != nil {
			d.Looks = slices.Clone(run.Looks)
			if run.Mode == impl.RunOver {
				d.Result = run.Result
			}
		}
		deeds = append(deeds, d)
	}
	slices.SortFunc(deeds, func(a, b impl.Deed) int { return strings.Compare(a.Name, b.Name) })
	return deeds
}

func slowTake(b impl.Boss, m impl.Message) impl.Did {
	b = copyOf(b)
	if !slowValidBoss(b) {
		return impl.Did{Code: 1}
	}
	if !b.Up || impl.FormMessage(m, "") == "" || m.From == 0 || m.From > len(b.Heard) {
		return impl.Did{Boss: b}
	}
	b.Heard[m.From-1] = b.Now
	run := slowRun(&b, m.Make.Name)
	if m.Kind != impl.MsgTurn || m.Epoch != b.Epoch || m.Edit != b.Edit || run == nil || run.Mode != impl.RunWork || run.Wait != "" || m.Count != len(run.Looks) {
		return impl.Did{Boss: b}
	}
	if !m.Turn.Over && len(run.Looks) == impl.MaxLooks {
		return impl.Did{Boss: b}
	}
	b.Jobs = slices.DeleteFunc(b.Jobs, func(job impl.Job) bool { return job.Name == run.Name })
	switch made, _ := slowMake(b, run.Name); {
	case m.Turn.Over:
		run.Mode, run.Result = impl.RunOver, m.Turn.Result
		store, code := impl.Keep(b.Store, made, run.Looks, run.Result)
		form := impl.FormEntry(ranEntry(made, run.Looks, run.Result))
		if code == 0 && form != "" && len(logOf(b)) < impl.MaxLog {
			b.Store, b.Log.Loose = store, append(b.Log.Loose, form)
		}
	case m.Turn.Has:
		if _, _, thing := slowKnown(b.Tree, nil, m.Turn.Name); thing {
			run.Looks = append(run.Looks, found(m.Turn.Name))
		} else {
			run.Looks = append(run.Looks, unfound(m.Turn.Name))
		}
	default:
		run.Wait = m.Turn.Name
		slowWanted(&b, m.Turn.Name)
	}
	return impl.Did{Boss: b}
}

// slowRefused is the code that all but ticks and messages begin with, 0 for a boss that is valid and Up.
func slowRefused(b impl.Boss) int {
	switch {
	case !slowValidBoss(b):
		return 1
	case !b.Up:
		return 2
	}
	return 0
}

func slowAsk(b impl.Boss, name string) impl.Did {
	b = copyOf(b)
	switch code := slowRefused(b); {
	case code != 0:
		return impl.Did{Code: code}
	case !slowIsName(name):
		return impl.Did{Code: 2}
	case slices.Contains(b.Roots, name):
		return impl.Did{Boss: b}
	case len(b.Roots) >= impl.MaxRoots:
		return impl.Did{Code: 3}
	}
	b.Roots = append(b.Roots, name)
	return impl.Did{Boss: b}
}

func slowEdit(b impl.Boss, e impl.Entry) impl.Did {
	b = copyOf(b)
	form := impl.FormEntry(e)
	changesTree := e.Kind == impl.EntFile || e.Kind == impl.EntDrop
	turn := impl.Go(e.Make, e.Looks)
	memory := impl.Replay(append(logOf(b), form), b.Width)
	switch code := slowRefused(b); {
	case code != 0:
		return impl.Did{Code: code}
	case form == "" || e.Kind == impl.EntEpoch:
		return impl.Did{Code: 2}
	case memory.Code != 0 || changesTree && b.Edit == impl.MaxEdits || e.Kind == impl.EntRan && (!turn.Over || turn.Result != e.Result):
		return impl.Did{Code: 3}
	}
	b.Log.Loose = append(b.Log.Loose, form)
	b.Tree, b.Store = memory.Tree, memory.Store
	if changesTree {
		b.Edit++
		b.Runs, b.Jobs = nil, nil
	}
	return impl.Did{Boss: b}
}

func slowPack(b impl.Boss) impl.Did {
	b = copyOf(b)
	if code := slowRefused(b); code != 0 {
		return impl.Did{Code: code}
	}
	if len(b.Log.Loose) > 0 {
		return impl.Did{Code: 3}
	}
	var epochs, files, rans []string
	for _, form := range b.Log.Safe {
		switch e, _ := impl.ReadEntry(form); e.Kind {
		case impl.EntEpoch:
			epochs = append(epochs, form)
		case impl.EntRan:
			rans = append(rans, form)
		case impl.EntClear:
			rans = nil
		}
	}
	for _, file := range b.Tree.Files {
		files = append(files, impl.FormEntry(impl.Entry{Kind: impl.EntFile, File: file}))
	}
	b.Log.Safe = slices.Concat(epochs, files, rans)
	return impl.Did{Boss: b}
}

func slowFall(b impl.Boss, keep int) impl.Boss {
	if !slowValidBoss(b) {
		return impl.Boss{}
	}
	fallen := impl.Boss{Width: b.Width, Now: b.Now, Log: impl.Log{Safe: slices.Clone(b.Log.Safe)}, Heard: slices.Repeat([]int{-1}, len(b.Heard))}
	for i, form := range b.Log.Loose {
		if i < keep {
			fallen.Log.Safe = append(fallen.Log.Safe, form)
		}
	}
	return fallen
}

func slowRise(b impl.Boss) impl.Boss {
	b = copyOf(b)
	if !slowValidBoss(b) {
		return impl.Boss{}
	}
	memory := impl.Replay(logOf(b), b.Width)
	if b.Up || memory.Epoch == impl.MaxEpoch || len(logOf(b)) == impl.MaxLog {
		return b
	}
	b.Up, b.Epoch, b.Tree, b.Store = true, memory.Epoch+1, memory.Tree, memory.Store
	b.Log.Loose = append(b.Log.Loose, impl.FormEntry(epochEntry(b.Epoch)))
	return b
}
