/- spaces: what a step of a walk does. -/
import Derived.Test.YtjolojomgfcfbaaDoorWPag
import Derived.Test.YtjolojomgfcfbaaDoorWNod
import Derived.Test.YtjolojomgfcfbaaDoorWNo2
