"""An editor that is driven by keys alone; keyeditor.editor.answers is its interface."""
