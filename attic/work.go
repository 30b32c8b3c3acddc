package attic

import "sync"

// gate keeps questions back until the imports ahead of them are made.
type gate struct {
	made  sync.WaitGroup
	shelf shelf // what the last of the imports leaves: to be read when it is made
}

// task is a request with its place among the answers.
type task struct {
	*request
	place  int
	ahead  *gate // of the imports that stand ahead of it
	behind *gate // of an import alone: the gate that it opens
}

// serve answers the requests, and the shelf that their imports leave.
func (s shelf) serve(requests []*request, workers int) ([]string, shelf) {
	answers := make([]string, len(requests))
	imports, questions, last := part(requests, s)
	var all sync.WaitGroup
	all.Go(func() { makeImports(imports, answers) })
	var desks []chan task
	for range workers {
		// A desk with room for all lets no question wait for a slower worker.
		desk := make(chan task, len(questions))
		desks = append(desks, desk)
		all.Go(func() { answerQuestions(desk, answers) })
	}
	deal(questions, desks)
	all.Wait()
	return answers, last.shelf
}

// part answers the imports, the questions, and the gate behind all imports. The
// first gate is open, and holds the shelf as it is.
func part(requests []*request, s shelf) (imports, questions []task, last *gate) {
	last = &gate{shelf: s}
	for place, q := range requests {
		t := task{request: q, place: place, ahead: last}
		if q.kind != requestImport {
			questions = append(questions, t)
			continue
		}
		last = new(gate)
		last.made.Add(1)
		t.behind = last
		imports = append(imports, t)
	}
	return imports, questions, last
}

func makeImports(imports []task, answers []string) {
	for _, t := range imports {
		t.behind.shelf, answers[t.place] = t.ahead.shelf.add(t.request)
		t.behind.made.Done()
	}
}

func answerQuestions(desk <-chan task, answers []string) {
	for t := range desk {
		t.ahead.made.Wait()
		answers[t.place] = t.ahead.shelf.answer(t.request)
	}
}

// deal deals the questions out by turns.
func deal(questions []task, desks []chan task) {
	for i, t := range questions {
		desks[i%len(desks)] <- t
	}
	for _, desk := range desks {
		close(desk)
	}
}
