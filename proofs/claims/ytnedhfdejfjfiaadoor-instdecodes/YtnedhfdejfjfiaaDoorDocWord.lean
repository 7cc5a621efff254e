/- The document's call Word of layer 3, all forms. -/
import Derived.Test.YtnedhfdejfjfiaaDoorDocWord1
import Derived.Test.YtnedhfdejfjfiaaDoorDocWord2
import Derived.Test.YtnedhfdejfjfiaaDoorDocWord3
import Derived.Test.YtnedhfdejfjfiaaDoorDocWord4
import Derived.Test.YtnedhfdejfjfiaaDoorDocWord5
import Derived.Test.YtnedhfdejfjfiaaDoorDocWord6
