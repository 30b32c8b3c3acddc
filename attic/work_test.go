package attic

import (
	"fmt"
	"math/rand/v2"
	"runtime"
	"strings"
	"sync"
	"testing"
	"time"
)

// randomBatch answers a batch of which the versions' names, accounts and
// numbers are such that refusals are among its answers, but not too many.
func randomBatch(r *rand.Rand, versions int) string {
	version := func() string {
		if r.IntN(3) == 0 {
			return "h"
		}
		return fmt.Sprint(r.IntN(min(versions+2, 100)))
	}
	letter := func() string { i := r.IntN(8); return accountNames[i : i+1] }
	var requests []string
	for range 1 + r.IntN(24) {
		v := version()
		switch r.IntN(9) {
		case 0, 1, 2:
			block := randomBlock(r, letter)
			requests = append(requests, "i"+v+":"+letter()+"/"+block)
			versions++
		case 3:
			requests = append(requests, "b"+v+":"+letter())
		case 4:
			requests = append(requests, "r"+v)
		case 5:
			requests = append(requests, "u"+v)
		case 6:
			requests = append(requests, "d"+v+":"+version())
		case 7:
			requests = append(requests, "l"+v)
		case 8:
			requests = append(requests, "g"+v+":"+letter()+"f")
		}
	}
	batch := strings.Join(requests, ";")
	for len(batch) > 1200 {
		batch = batch[:strings.LastIndexByte(batch, ';')]
	}
	return batch
}

func randomBlock(r *rand.Rand, letter func() string) string {
	var all []string
	for range r.IntN(5) {
		if r.IntN(4) == 0 {
			all = append(all, letter()+"{"+"kd*r"[:r.IntN(5)]+"}")
			continue
		}
		all = append(all, letter()+">"+letter()+"="+fmt.Sprint(r.IntN([]int{2, 100, 600, 1100}[r.IntN(4)])))
	}
	return strings.Join(all, ",")
}

// The same batches with every number of workers, held against the other
// reading.
func TestRandomBatches(t *testing.T) {
	for seed := range uint64(30) {
		onEach(t, func(t *testing.T, a *Attic) {
			r := rand.New(rand.NewPCG(seed, 1))
			model := newPlain()
			for range 12 {
				batch := randomBatch(r, len(*model))
				wantAnswer(t, a, batch, model.ask(batch))
				wantVersions(t, a, len(*model))
			}
		})
	}
}

func requestsOf(t *testing.T, batch string) []*request {
	t.Helper()
	requests, _, whole := readBatch(batch)
	if !whole {
		t.Fatalf("%q is no batch", batch)
	}
	return requests
}

// A question waits for the imports ahead of it and for no others.
func TestGates(t *testing.T) {
	answers := make([]string, 5)
	imports, questions, last := part(requestsOf(t, "b1:a;i0:a/;b1:a;ih:a/;b2:a"), firstShelf())
	desk := make(chan task)
	var done sync.WaitGroup
	done.Go(func() { answerQuestions(desk, answers) })
	for i, q := range questions {
		desk <- q // taken when the one ahead of it has been answered
		if i > 0 {
			makeImports(imports[i-1:i], answers)
		}
	}
	close(desk)
	done.Wait()
	if got := strings.Join(answers, ";"); got != "!3;1;1050;2;1100" {
		t.Errorf("answered %q", got)
	}
	if len(last.shelf) != 3 {
		t.Errorf("%d versions are left", len(last.shelf))
	}
}

// An import that is slow keeps the questions behind it back, whichever worker
// has them.
func TestQuestionsWaitForImports(t *testing.T) {
	answers := make([]string, 3)
	imports, questions, _ := part(requestsOf(t, "ih:a/;bh:a;b1:a"), firstShelf())
	desks := []chan task{make(chan task, 2), make(chan task, 2)}
	var done sync.WaitGroup
	for _, desk := range desks {
		done.Go(func() { answerQuestions(desk, answers) })
	}
	deal(questions, desks)
	time.Sleep(20 * time.Millisecond)
	makeImports(imports, answers)
	done.Wait()
	if got := strings.Join(answers, ";"); got != "1;1050;1050" {
		t.Errorf("answered %q", got)
	}
}

func TestDealtByTurns(t *testing.T) {
	for workers := 1; workers <= 8; workers++ {
		_, questions, _ := part(requestsOf(t, many("r0;i0:a/", ";", 11)), firstShelf())
		var desks []chan task
		for range workers {
			desks = append(desks, make(chan task, len(questions)))
		}
		deal(questions, desks)
		for i, desk := range desks {
			turn := i
			for q := range desk { // it ends: the desk is closed
				if q.place != 2*turn {
					t.Errorf("%d workers: the desk %d has the request of place %d, want %d", workers, i, q.place, 2*turn)
				}
				turn += workers
			}
			if turn < len(questions) {
				t.Errorf("%d workers: the desk %d has too few", workers, i)
			}
		}
	}
}

func TestGoroutinesEnd(t *testing.T) {
	ahead := runtime.NumGoroutine()
	a := newAttic(t, 8)
	for range 50 {
		a.Ask("ih:a/;bh:a;b1:b;rh")
		a.Ask("")
		a.Ask("bh")
	}
	// A goroutine that has told its end may still be on its way out.
	for range 100 {
		if runtime.NumGoroutine() <= ahead {
			return
		}
		time.Sleep(10 * time.Millisecond)
	}
	t.Errorf("%d goroutines, ahead of it there were %d", runtime.NumGoroutine(), ahead)
}

// What has been made is not written into by what is made on it.
func TestVersionsStay(t *testing.T) {
	onEach(t, func(t *testing.T, a *Attic) {
		r := rand.New(rand.NewPCG(7, 7))
		told := map[string]string{}
		for a.Versions() < 40 {
			a.Ask("i" + fmt.Sprint(r.IntN(a.Versions())) + ":a/" + randomBlock(r, func() string { return "bcd"[r.IntN(3):][:1] }))
			for v := range a.Versions() {
				question := strings.ReplaceAll("r%;b%:a;u%;l%;d%:0", "%", fmt.Sprint(v))
				answer, _ := a.Ask(question)
				if first, there := told[question]; there && first != answer {
					t.Fatalf("%q was answered %q, then %q", question, first, answer)
				}
				told[question] = answer
			}
		}
	})
}
