package bench

import (
	"strings"

	"strobe/api"
	"strobe/common"
)

// sumMark is the byte between the body of a record and its checksum.
const sumMark = '#'

// recordOf returns the record of an event.
func recordOf(event api.Event) string {
	body := bodyOf(event)
	return body + string(sumMark) + checksum(body) + "\n"
}

// readRecord returns the event with a number and a record, whose line feed is left out.
func readRecord(number int, record string) (api.Event, api.Errno) {
	mark := len(record) - sumDigits - 1
	if mark < 0 || record[mark] != sumMark || !isSum(record[mark+1:]) {
		return api.Event{}, api.ErrSyntax
	}
	body := record[:mark]
	if checksum(body) != record[mark+1:] {
		return api.Event{}, api.ErrCheck
	}
	event, isBody := readBody(body)
	if !isBody {
		return api.Event{}, api.ErrSyntax
	}
	if event.Number != number {
		return api.Event{}, api.ErrOrder
	}
	return event, api.OK
}

// Recover returns the events of the longest prefix that is a log.
func Recover(log string) ([]api.Event, int, api.Errno) {
	if len(log) > api.MaxLog {
		return nil, 0, api.ErrLong
	}
	var events []api.Event
	rest := log
	for rest != "" {
		record, after, isWhole := strings.Cut(rest, "\n")
		if !isWhole {
			return events, len(log) - len(rest), api.ErrTorn
		}
		event, e := readRecord(len(events)+1, record)
		if e != api.OK {
			return events, len(log) - len(rest), e
		}
		events, rest = append(events, event), after
	}
	return events, len(log), api.OK
}

// Append returns a log with one more record.
func Append(log string, event api.Event) (string, api.Errno) {
	events, _, e := Recover(log)
	if e := common.FirstError(e, CheckEvent(event), common.ErrorIf(event.Number != len(events)+1, api.ErrOrder)); e != api.OK {
		return "", e
	}
	longer := log + recordOf(event)
	if len(longer) > api.MaxLog {
		return "", api.ErrLong
	}
	return longer, api.OK
}
