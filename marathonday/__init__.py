"""A marathon, whole: waves and a narrow, tables with cups, roads closed and crossed."""
