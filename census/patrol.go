package census

import (
	"cmp"
	"sort"

	"lombard/api"
)

func isLoss(n int) bool { return within(n, 1, api.MaxLoss) }

func areLosses(l []int) bool { return within(len(l), 1, api.MaxPosts) && all(l, isLoss) }

func isWeight(n int) bool { return within(n, 0, api.PatrolAll) }

// areWeights reports whether a list is weights of so many rooms.
func areWeights(l []int, rooms int) bool {
	return len(l) == rooms && all(l, isWeight) && sum(l) == api.PatrolAll
}

// Risk returns the risk of weights.
func Risk(losses, weights []int) (int, api.Errno) {
	if !areLosses(losses) || !areWeights(weights, len(losses)) {
		return 0, api.ErrPatrol
	}
	risk := 0
	for room, loss := range losses {
		risk = max(risk, loss*(api.PatrolAll-weights[room]))
	}
	return risk, api.OK
}

// least returns the least of several numbers.
func least[T cmp.Ordered](first T, others ...T) T {
	for _, x := range others {
		if x < first {
			first = x
		}
	}
	return first
}

// weightsFor returns the least weights with which no product of a room is greater than a risk.
func weightsFor(losses []int, risk int) []int {
	var weights []int
	for _, loss := range losses {
		away := least(api.PatrolAll, risk/loss) // the nights on which the patrol need not be there
		weights = append(weights, api.PatrolAll-away)
	}
	return weights
}

// Need returns what a risk needs.
func Need(losses []int, risk int) (int, api.Errno) {
	if !areLosses(losses) {
		return 0, api.ErrPatrol
	}
	if risk < 0 {
		return 0, api.ErrRange
	}
	return sum(weightsFor(losses, risk)), api.OK
}

// Patrol returns weights with the least risk.
func Patrol(losses []int) (weights []int, risk int, e api.Errno) {
	if !areLosses(losses) {
		return nil, 0, api.ErrPatrol
	}
	isEnough := func(risk int) bool { return sum(weightsFor(losses, risk)) <= api.PatrolAll }
	risk = sort.Search(api.MaxLoss*api.PatrolAll, isEnough)
	weights = weightsFor(losses, risk)
	weights[0] += api.PatrolAll - sum(weights) // nights that are left over may be spent anywhere
	return weights, risk, api.OK
}
