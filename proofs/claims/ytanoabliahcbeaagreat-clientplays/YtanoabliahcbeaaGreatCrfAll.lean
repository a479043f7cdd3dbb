import Derived.Test.YtanoabliahcbeaaGreatCrlAll
namespace Go.Proofs.YtanoabliahcbeaaGreat.Calls
open Go.RowKit Disk
open Names (Str)
theorem og {r:PRow}(h:cu r=true):(ci r).length<=532:=by
 simp only [cu,Bool.and_eq_true] at h
 have h1:=ke h.1
 have h2:r.2.length<=256:=by simpa [Names.aT] using h.2
 have h3:=aq r.1 (by omega)
 have h4:=aq r.2 (by omega)
 unfold ci
 rw [List.length_append]
 omega
theorem fV:∀{l:List PRow},l.all cu=true->(l.flatMap ci).length<=532*l.length
 | [],_=>by simp
 | x :: l,h=>by
  simp only [List.all_cons,Bool.and_eq_true] at h
  have h1:=og h.1
  have h2:=fV h.2
  simp only [List.flatMap_cons,List.length_append,List.length_cons]
  omega
theorem oh {o:POut}(h:bY o=true):(bg o).length<=34400:=by
 simp only [bY,Bool.and_eq_true,decide_eq_true_eq] at h
 have h2:o.value.length<=256:=by simpa [Names.aT] using h.1.1.1
 have h3:=aq o.value (by omega)
 have h4:=fV h.2
 have h5:=Wire.aE o.rows.length (by omega)
 have h6:(aJ o.has).length=1:=by cases o.has <;> rfl
 unfold bg cD
 simp only [List.length_append]
 omega
theorem iN:∀{l:List POut},l.all bY=true->(l.flatMap bg).length<=34400*l.length
 | [],_=>by simp
 | x :: l,h=>by
  simp only [List.all_cons,Bool.and_eq_true] at h
  have h1:=oh h.1
  have h2:=iN h.2
  simp only [List.flatMap_cons,List.length_append,List.length_cons]
  omega
end Go.Proofs.YtanoabliahcbeaaGreat.Calls
