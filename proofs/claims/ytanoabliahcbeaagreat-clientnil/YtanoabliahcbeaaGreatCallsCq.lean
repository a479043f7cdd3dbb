import Derived.Test.YtanoabliahcbeaaGreatCnAll
import Derived.Deep.DeepCutAuto
import Derived.Laws.OwnMore
namespace Go.Proofs.YtanoabliahcbeaaGreat.Calls
open Go.RowKit Disk
open Names (Str)
def Fit (l:List POp):Prop:=l.length<=1034834473200/\∀o ∈ l,o.key.length<=140737488355328/\o.value.length<=140737488355328/\o.old.length<=140737488355328/\o.to.length<=140737488355328
end Go.Proofs.YtanoabliahcbeaaGreat.Calls
