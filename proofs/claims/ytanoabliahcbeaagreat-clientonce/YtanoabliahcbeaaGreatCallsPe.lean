import Derived.Test.YtanoabliahcbeaaGreatCpwAll
namespace Go.Proofs.YtanoabliahcbeaaGreat.Calls
abbrev PRow:=Bs × Bs
def rowForm (r:PRow):Bs:=bytesForm r.1 ++ bytesForm r.2
def mayRow (r:PRow):Bool:=Names.keyB r.1 && Names.valueB r.2
def riseB:List PRow->Bool
 | []=>true
 | [_]=>true
 | a :: b :: l=>decide (Names.cmpL a.1 b.1<0) && riseB (b :: l)
def outForm (o:POut):Bs:=flagForm o.has ++ (bytesForm o.value ++ listForm rowForm o.rows)
def mayOut (o:POut):Bool:=Names.valueB o.value && decide (o.rows.length<=64) && riseB o.rows && o.rows.all mayRow
theorem rise_iff:∀(l:List PRow),riseB l=true<->∀i (h:i+1<l.length),Names.cmpL l[i].1 l[i+1].1<0
 | []=>by simp [riseB]
 | [_]=>by simp [riseB]
 | a :: b :: l=>by
  have ih:=rise_iff (b :: l)
  simp only [riseB,Bool.and_eq_true,decide_eq_true_eq,ih]
  constructor
  ·rintro ⟨h0,h1⟩ i hi
   rcases i with _ | i
   ·exact h0
   ·exact h1 i (by simpa using hi)
  ·intro h
   exact ⟨h 0 (by simp),fun i hi=>h (i+1) (by simpa using hi)⟩
def pRow (L:Bs):Option (PRow × Bs):=(pBytes 64 L).bind fun k=>(pBytes 256 k.2).bind fun v=>if Names.keyB k.1=true then some ((k.1,v.1),v.2) else none
def pOut (L:Bs):Option (POut × Bs):=(pFlag L).bind fun h=>(pBytes 256 h.2).bind fun v=>(pList pRow 64 v.2).bind fun l=>if riseB l.1=true then some (⟨h.1,v.1,l.1⟩,l.2) else none
def pRes0 (L:Bs):Option (PRes × Bs):=(pNum 3 L).bind fun a=>if a.1=0 then (pList pOut 16 a.2).bind fun l=>if l.1.length=0 then none else some (⟨0,0,l.1⟩,l.2) else (pNum 15 a.2).bind fun p=>some (⟨a.1,p.1,[]⟩,p.2)
def pRes (L:Bs):Option PRes:=(pRes0 L).bind fun r=>if r.2.length=0 then some r.1 else none
theorem pRow_inv {r:PRow}{L M:Bs}(h:pRow L=some (r,M)):mayRow r=true/\L=rowForm r ++ M:=by
 unfold pRow at h
 cases hk:pBytes 64 L with
 | none=>rw [hk] at h;cases h
 | some k =>
  rw [hk] at h
  simp only [Option.bind_some] at h
  cases hv:pBytes 256 k.2 with
  | none=>rw [hv] at h;cases h
  | some v =>
   rw [hv] at h
   simp only [Option.bind_some] at h
   split at h
   ·rename_i hkk
    simp at h
    obtain ⟨rfl,rfl⟩:=h
    have h1:=pBytes_inv (b:=k.1) (M:=k.2) hk
    have h2:=pBytes_inv (b:=v.1) (M:=v.2) hv
    refine ⟨?_,?_⟩
    ·simp only [mayRow,Bool.and_eq_true]
     exact ⟨hkk,by simp [Names.valueB,h2.2]⟩
    ·rw [h1.1,h2.1];simp [rowForm]
   ·cases h
theorem pOut_inv {o:POut}{L M:Bs}(h:pOut L=some (o,M)):mayOut o=true/\L=outForm o ++ M:=by
 unfold pOut at h
 cases hf:pFlag L with
 | none=>rw [hf] at h;cases h
 | some f =>
  rw [hf] at h
  simp only [Option.bind_some] at h
  cases hv:pBytes 256 f.2 with
  | none=>rw [hv] at h;cases h
  | some v =>
   rw [hv] at h
   simp only [Option.bind_some] at h
   cases hl:pList pRow 64 v.2 with
   | none=>rw [hl] at h;cases h
   | some l =>
    rw [hl] at h
    simp only [Option.bind_some] at h
    split at h
    ·rename_i hr
     simp at h
     obtain ⟨rfl,rfl⟩:=h
     have h1:=pFlag_inv (is:=f.1) (M:=f.2) hf
     have h2:=pBytes_inv (b:=v.1) (M:=v.2) hv
     have h3:=pList_inv (f:=rowForm) (ok:=mayRow) (fun _ _ _=>pRow_inv) (l:=l.1) (M:=l.2) hl
     refine ⟨?_,?_⟩
     ·simp only [mayOut,Bool.and_eq_true,decide_eq_true_eq]
      exact ⟨⟨⟨by simp [Names.valueB,h2.2],h3.1⟩,hr⟩,h3.2.1⟩
     ·rw [h1,h2.1,h3.2.2];simp [outForm]
    ·cases h
def readR (b:Bs):PRes × Int:=match pRes b with | some r=>(r,0) | none=>(⟨0,0,[]⟩,4)
end Go.Proofs.YtanoabliahcbeaaGreat.Calls
