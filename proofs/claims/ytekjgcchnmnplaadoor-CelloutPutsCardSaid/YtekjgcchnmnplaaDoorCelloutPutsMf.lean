/- Texts that CelloutPuts's proof stands on, part 6 of 37. No condition of its own. -/
import Derived.Test.YtekjgcchnmnplaaDoorCelloutPutsMa
import Derived.Test.YtekjgcchnmnplaaDoorCelloutPutsMc
import Derived.Test.YtekjgcchnmnplaaDoorCelloutPutsMd
import Derived.Test.YtekjgcchnmnplaaDoorCelloutPutsMe
