import Derived.Test.YtanoabliahcbeaaGreatCrlAll
namespace Go.Proofs.YtanoabliahcbeaaGreat.Calls
open Go.RowKit Disk
open Names (Str)
theorem rowForm_len {r:PRow}(h:mayRow r=true):(rowForm r).length<=532:=by
 simp only [mayRow,Bool.and_eq_true] at h
 have h1:=key_len h.1
 have h2:r.2.length<=256:=by simpa [Names.valueB] using h.2
 have h3:=bytesForm_len r.1 (by omega)
 have h4:=bytesForm_len r.2 (by omega)
 unfold rowForm
 rw [List.length_append]
 omega
theorem formsRow_len:∀{l:List PRow},l.all mayRow=true->(l.flatMap rowForm).length<=532*l.length
 | [],_=>by simp
 | x :: l,h=>by
  simp only [List.all_cons,Bool.and_eq_true] at h
  have h1:=rowForm_len h.1
  have h2:=formsRow_len h.2
  simp only [List.flatMap_cons,List.length_append,List.length_cons]
  omega
theorem outForm_len {o:POut}(h:mayOut o=true):(outForm o).length<=34400:=by
 simp only [mayOut,Bool.and_eq_true,decide_eq_true_eq] at h
 have h2:o.value.length<=256:=by simpa [Names.valueB] using h.1.1.1
 have h3:=bytesForm_len o.value (by omega)
 have h4:=formsRow_len h.2
 have h5:=Wire.numForm_len10 o.rows.length (by omega)
 have h6:(flagForm o.has).length=1:=by cases o.has <;> rfl
 unfold outForm listForm
 simp only [List.length_append]
 omega
theorem formsOut_len:∀{l:List POut},l.all mayOut=true->(l.flatMap outForm).length<=34400*l.length
 | [],_=>by simp
 | x :: l,h=>by
  simp only [List.all_cons,Bool.and_eq_true] at h
  have h1:=outForm_len h.1
  have h2:=formsOut_len h.2
  simp only [List.flatMap_cons,List.length_append,List.length_cons]
  omega
end Go.Proofs.YtanoabliahcbeaaGreat.Calls
