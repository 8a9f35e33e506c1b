/- All of the earlier texts of this seat. -/
import Derived.Test.YtjjkikghfmnikaaGreatDoorQ44
import Derived.Test.YtjjkikghfmnikaaGreatDoorQ45
import Derived.Test.YtjjkikghfmnikaaGreatDoorQ49
import Derived.Test.YtjjkikghfmnikaaGreatDoorQ48
