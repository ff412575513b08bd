package canoe

import (
	"motu/api"
	"motu/bounds"
	"motu/set"
)

// unseen stands for the star path of an hour in which none was seen.
const unseen = -1

func isSea(s api.CanoeSea) bool {
	return bounds.In(s.Cells, 1, api.CanoeCells) && bounds.In(s.Start, 1, allCells(s)) &&
		areCourses(s) && areStars(s) &&
		len(s.Boats) <= api.CanoeBoats && areCells(s, s.Boats) &&
		len(s.Roads) == s.Cells && bounds.AllIn(s.Roads, 0, allCells(s))
}

func areCourses(s api.CanoeSea) bool {
	if !bounds.In(len(s.Courses), 1, api.CanoeCourses) {
		return false
	}
	for _, course := range s.Courses {
		if len(course) != s.Cells || !bounds.AllIn(course, 1, allCells(s)) {
			return false
		}
	}
	return true
}

func areStars(s api.CanoeSea) bool {
	return len(s.Stars) <= api.CanoeStars && bounds.AllIn(s.Stars, 1, allCells(s))
}

// allCells returns the set of all cells of a sea, which is the greatest one.
func allCells(s api.CanoeSea) int { return 1<<s.Cells - 1 }

func isCell(s api.CanoeSea, cell int) bool { return bounds.In(cell, 0, s.Cells-1) }

func areCells(s api.CanoeSea, list []int) bool { return bounds.AllIn(list, 0, s.Cells-1) }

func isCourse(s api.CanoeSea, course int) bool { return bounds.In(course, 0, len(s.Courses)-1) }

func isLong(log []api.CanoeHour) bool { return len(log) > api.CanoeHours }

func isLog(s api.CanoeSea, log []api.CanoeHour) bool {
	return areHours(log, len(s.Courses), len(s.Stars))
}

// checkHours returns the error of a log that is for any sea.
func checkHours(log []api.CanoeHour) api.Errno {
	if isLong(log) {
		return api.ErrLong
	}
	if !areHours(log, api.CanoeCourses, api.CanoeStars) {
		return api.ErrArg
	}
	return api.OK
}

// areHours reports whether hours have courses and star paths of which there are so many.
func areHours(log []api.CanoeHour, courses, stars int) bool {
	for _, hour := range log {
		if !bounds.In(hour.Course, 0, courses-1) || !bounds.In(hour.Star, unseen, stars-1) {
			return false
		}
	}
	return true
}

func isPlan(s api.CanoeSea, plan [][]int) bool {
	boats := s.Boats
	for _, cells := range plan {
		if !canGo(s, boats, cells) {
			return false
		}
		boats = cells
	}
	return true
}

// canGo reports whether boats can be in some cells an hour after they were in others.
func canGo(s api.CanoeSea, from, to []int) bool {
	if len(to) != len(from) || !areCells(s, to) {
		return false
	}
	for boat, cell := range to {
		if !reach(s, from[boat]).Has(cell) {
			return false
		}
	}
	return true
}

// reach returns the cells in which a boat can be an hour after it was in one.
func reach(s api.CanoeSea, cell int) set.Set { return set.Set(s.Roads[cell]).With(cell) }
