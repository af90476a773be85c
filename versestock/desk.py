"""The calls."""

from versestock.measures import MeasureRefused, read_measure
from versestock.rows import AfterRefused, Search, check_after
from versestock.words import StockRefused, read_stock

NO_MEASURE = -22
NO_STOCK = -23
NO_AFTER = -24


def next_row(most, measure, after, stock):
    try:
        told = read_measure(measure)
        words = read_stock(stock, most)
        check_after(after, most, len(words))
    except MeasureRefused:
        return [NO_MEASURE]
    except StockRefused:
        return [NO_STOCK]
    except AfterRefused:
        return [NO_AFTER]
    row = Search(told, words, most).first_row_behind(after)
    return [len(row)] + row
