"""The tests of the program."""

import faulthandler

# All tests take half a minute. A world that never comes to rest ends the run with a failure instead of letting it hang.
faulthandler.dump_traceback_later(600, exit=True)
