package bear

import (
	"iter"
	"sort"

	"sastrugi/api"
	"sastrugi/check"
)

// Speed returns the verdict on a speed: Sure if it is critical at no depth, Never if it is at all of them.
func Speed(p api.Plate, depth api.Span, shore, v int) (int, api.Errno) {
	if e := check.First(checkWaves(p, depth, shore), check.Number(v, 0, api.MaxSpeed)); e != api.OK {
		return 0, e
	}
	return calm(p, depth, shore, v), api.OK
}

// calm returns what Speed does.
func calm(p api.Plate, depth api.Span, shore, v int) int {
	c := critical(p, shore, v)
	both := api.Span{Lo: max(depth.Lo, c.Lo), Hi: min(depth.Hi, c.Hi)}
	switch {
	case both.Lo > both.Hi:
		return api.Sure
	case both == depth:
		return api.Never
	}
	return api.Open
}

// critical returns the depths at which a speed is critical; there is none if its Lo is above its Hi.
func critical(p api.Plate, shore, v int) api.Span {
	parts, square := band(p, shore), v*v*api.Mil
	// The waves are faster where it is deeper: first the speed is too great for the band, then it lies in it, then it is too small.
	from := sort.Search(api.MaxDepth+1, func(depth int) bool { return square <= parts.Hi*p.Gravity*depth })
	behind := sort.Search(api.MaxDepth+1, func(depth int) bool { return square < parts.Lo*p.Gravity*depth })
	return api.Span{Lo: from, Hi: behind - 1}
}

// band returns from which part of the square of the waves' speed, to which one, that of a speed is critical, so far from the shore.
func band(p api.Plate, shore int) api.Span {
	if shore >= p.Shore {
		return api.Span{Lo: p.Low, Hi: p.High}
	}
	return api.Span{
		Lo: p.Low * (api.Mil - p.Wider) / api.Mil,
		Hi: (p.High*(api.Mil+p.Wider) + api.Mil - 1) / api.Mil,
	}
}

// Speeds returns the speeds that are Sure.
func Speeds(p api.Plate, depth api.Span, shore int) ([]api.Span, api.Errno) {
	if e := checkWaves(p, depth, shore); e != api.OK {
		return nil, e
	}
	return spans(sure(p, depth, shore)), api.OK
}

// sure hands out the speeds that are Sure, ascending.
func sure(p api.Plate, depth api.Span, shore int) iter.Seq[int] {
	return func(yield func(int) bool) {
		for v := range api.MaxSpeed + 1 {
			if calm(p, depth, shore, v) == api.Sure && !yield(v) {
				return
			}
		}
	}
}

// spans puts ascending numbers together, each span as long as can be.
func spans(numbers iter.Seq[int]) []api.Span {
	var list []api.Span
	for n := range numbers {
		if last := len(list) - 1; last >= 0 && list[last].Hi == n-1 {
			list[last].Hi = n
		} else {
			list = append(list, api.Span{Lo: n, Hi: n})
		}
	}
	return list
}
