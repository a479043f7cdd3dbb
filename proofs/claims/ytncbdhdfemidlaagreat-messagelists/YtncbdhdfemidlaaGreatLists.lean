import Derived.Test.YtncbdhdfemidlaaGreatQmnAll
import Derived.Test.YtncbdhdfemidlaaGreatQp
import Derived.Test.YtncbdhdfemidlaaGreatMr
namespace Go.Proofs.YtncbdhdfemidlaaGreat
theorem messageLists_holds:Rows.MessageListsSaid:=messageLists_of read_good (goes_of read_good goes1)
end Go.Proofs.YtncbdhdfemidlaaGreat
