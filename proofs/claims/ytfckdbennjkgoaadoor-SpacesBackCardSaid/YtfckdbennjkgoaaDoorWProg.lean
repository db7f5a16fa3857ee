/- spaces: what a step of a walk does. -/
import Derived.Test.YtfckdbennjkgoaaDoorWPag
import Derived.Test.YtfckdbennjkgoaaDoorWNod
import Derived.Test.YtfckdbennjkgoaaDoorWNo2
