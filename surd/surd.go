// Package surd answers lines: see doc/08-surd.md.
package surd

import (
	"strings"
	"sync"
	"sync/atomic"

	"surd/api"
)

const mostWorkers = 16

// Line answers a line (K1).
func Line(s string) string {
	name, rest, ok := strings.Cut(s, " ")
	for _, w := range words {
		// Counted ahead of being cut, since a line may have any number of parts.
		if ok && w.name == name && w.parts == strings.Count(rest, ";")+1 {
			return w.answerTo(strings.Split(rest, ";"))
		}
	}
	return string(refused(api.ErrForm))
}

// Run answers lines by several goroutines (K2).
func Run(lines []string, workers int) ([]string, api.Errno) {
	if workers < 1 || workers > mostWorkers {
		return nil, api.ErrRange
	}
	answers := make([]string, len(lines))
	var taken atomic.Int64
	var all sync.WaitGroup
	for range workers {
		all.Go(func() {
			for i := taken.Add(1) - 1; i < int64(len(lines)); i = taken.Add(1) - 1 {
				answers[i] = Line(lines[i])
			}
		})
	}
	all.Wait()
	return answers, api.OK
}
