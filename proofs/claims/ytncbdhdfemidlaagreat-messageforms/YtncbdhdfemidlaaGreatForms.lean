/-
  MessageForms: for every input the law returns true, and its argument reads as before. No condition.
-/
import Derived.Test.YtncbdhdfemidlaaGreatOe
import Derived.Test.YtncbdhdfemidlaaGreatMr
namespace Go.Proofs.YtncbdhdfemidlaaGreat
theorem messageForms_holds : Rows.MessageFormsSaid := messageForms_of read_good
end Go.Proofs.YtncbdhdfemidlaaGreat
