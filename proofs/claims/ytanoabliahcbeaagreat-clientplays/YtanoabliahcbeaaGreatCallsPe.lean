import Derived.Test.YtanoabliahcbeaaGreatCpwAll
namespace Go.Proofs.YtanoabliahcbeaaGreat.Calls
abbrev PRow:=Bs × Bs
def rowForm (r:PRow):Bs:=bytesForm r.1 ++ bytesForm r.2
def mayRow (r:PRow):Bool:=Names.keyB r.1 && Names.valueB r.2
def riseB:List PRow->Bool
 | []=>true
 | [_]=>true
 | a :: b :: l=>decide (Names.cmpL a.1 b.1<0) && riseB (b :: l)
def outForm (o:POut):Bs:=flagForm o.has ++ (bytesForm o.value ++ listForm rowForm o.rows)
def mayOut (o:POut):Bool:=Names.valueB o.value && decide (o.rows.length<=64) && riseB o.rows && o.rows.all mayRow
def resForm (r:PRes):Bs:=if r.abort=0 then Wire.numForm 0 ++ listForm outForm r.outs else Wire.numForm r.abort.toNat ++ Wire.numForm r.place.toNat
def mayRes (r:PRes):Bool:=if r.abort=0 then decide (r.place=0) && decide (1<=r.outs.length) && decide (r.outs.length<=16) && r.outs.all mayOut else decide (1<=r.abort) && decide (r.abort<=3) && decide (0<=r.place) && decide (r.place<16) && decide (r.outs.length=0)
theorem rise_iff:∀(l:List PRow),riseB l=true<->∀i (h:i+1<l.length),Names.cmpL l[i].1 l[i+1].1<0
 | []=>by simp [riseB]
 | [_]=>by simp [riseB]
 | a :: b :: l=>by
  have ih:=rise_iff (b :: l)
  simp only [riseB,Bool.and_eq_true,decide_eq_true_eq,ih]
  constructor
  ·rintro ⟨h0,h1⟩ i hi
   rcases i with _ | i
   ·exact h0
   ·exact h1 i (by simpa using hi)
  ·intro h
   exact ⟨h 0 (by simp),fun i hi=>h (i+1) (by simpa using hi)⟩
def pRow (L:Bs):Option (PRow × Bs):=(pBytes 64 L).bind fun k=>(pBytes 256 k.2).bind fun v=>if Names.keyB k.1=true then some ((k.1,v.1),v.2) else none
def pOut (L:Bs):Option (POut × Bs):=(pFlag L).bind fun h=>(pBytes 256 h.2).bind fun v=>(pList pRow 64 v.2).bind fun l=>if riseB l.1=true then some (⟨h.1,v.1,l.1⟩,l.2) else none
def pRes0 (L:Bs):Option (PRes × Bs):=(pNum 3 L).bind fun a=>if a.1=0 then (pList pOut 16 a.2).bind fun l=>if l.1.length=0 then none else some (⟨0,0,l.1⟩,l.2) else (pNum 15 a.2).bind fun p=>some (⟨a.1,p.1,[]⟩,p.2)
def pRes (L:Bs):Option PRes:=(pRes0 L).bind fun r=>if r.2.length=0 then some r.1 else none
theorem key_len {L:Bs}(h:Names.keyB L=true):L.length<=64:=by simp [Names.keyB] at h;exact h.2
theorem pRow_form {r:PRow}(h:mayRow r=true)(M:Bs):pRow (rowForm r ++ M)=some (r,M):=by
 simp only [mayRow,Bool.and_eq_true] at h
 unfold pRow rowForm
 rw [List.append_assoc,pBytes_form (key_len h.1) (by decide)]
 simp only [Option.bind_some]
 rw [pBytes_form (by simpa [Names.valueB] using h.2) (by decide)]
 simp [h.1]
theorem pRow_inv {r:PRow}{L M:Bs}(h:pRow L=some (r,M)):mayRow r=true/\L=rowForm r ++ M:=by
 unfold pRow at h
 cases hk:pBytes 64 L with
 | none=>rw [hk] at h;cases h
 | some k =>
  rw [hk] at h
  simp only [Option.bind_some] at h
  cases hv:pBytes 256 k.2 with
  | none=>rw [hv] at h;cases h
  | some v =>
   rw [hv] at h
   simp only [Option.bind_some] at h
   split at h
   ·rename_i hkk
    simp at h
    obtain ⟨rfl,rfl⟩:=h
    have h1:=pBytes_inv (b:=k.1) (M:=k.2) hk
    have h2:=pBytes_inv (b:=v.1) (M:=v.2) hv
    refine ⟨?_,?_⟩
    ·simp only [mayRow,Bool.and_eq_true]
     exact ⟨hkk,by simp [Names.valueB,h2.2]⟩
    ·rw [h1.1,h2.1];simp [rowForm]
   ·cases h
theorem pOut_form {o:POut}(h:mayOut o=true)(M:Bs):pOut (outForm o ++ M)=some (o,M):=by
 simp only [mayOut,Bool.and_eq_true,decide_eq_true_eq] at h
 unfold pOut outForm
 rw [List.append_assoc,pFlag_form]
 simp only [Option.bind_some,List.append_assoc]
 rw [pBytes_form (by simpa [Names.valueB] using h.1.1.1) (by decide)]
 simp only [Option.bind_some]
 rw [pList_form (ok:=mayRow) (fun x M hx=>pRow_form hx M) M h.2 h.1.1.2 (by decide)]
 simp [h.1.2]
theorem pOut_inv {o:POut}{L M:Bs}(h:pOut L=some (o,M)):mayOut o=true/\L=outForm o ++ M:=by
 unfold pOut at h
 cases hf:pFlag L with
 | none=>rw [hf] at h;cases h
 | some f =>
  rw [hf] at h
  simp only [Option.bind_some] at h
  cases hv:pBytes 256 f.2 with
  | none=>rw [hv] at h;cases h
  | some v =>
   rw [hv] at h
   simp only [Option.bind_some] at h
   cases hl:pList pRow 64 v.2 with
   | none=>rw [hl] at h;cases h
   | some l =>
    rw [hl] at h
    simp only [Option.bind_some] at h
    split at h
    ·rename_i hr
     simp at h
     obtain ⟨rfl,rfl⟩:=h
     have h1:=pFlag_inv (is:=f.1) (M:=f.2) hf
     have h2:=pBytes_inv (b:=v.1) (M:=v.2) hv
     have h3:=pList_inv (f:=rowForm) (ok:=mayRow) (fun _ _ _=>pRow_inv) (l:=l.1) (M:=l.2) hl
     refine ⟨?_,?_⟩
     ·simp only [mayOut,Bool.and_eq_true,decide_eq_true_eq]
      exact ⟨⟨⟨by simp [Names.valueB,h2.2],h3.1⟩,hr⟩,h3.2.1⟩
     ·rw [h1,h2.1,h3.2.2];simp [outForm]
    ·cases h
theorem pRes_iff {L:Bs}{r:PRes}:pRes L=some r<->mayRes r=true/\L=resForm r:=by
 constructor
 ·intro h
  unfold pRes pRes0 at h
  cases ha:pNum 3 L with
  | none=>rw [ha] at h;cases h
  | some a =>
   rw [ha] at h
   simp only [Option.bind_some] at h
   have h1:=pNum_inv (n:=a.1) (M:=a.2) ha
   by_cases h0:a.1=0
   ·rw [if_pos h0] at h
    cases hl:pList pOut 16 a.2 with
    | none=>rw [hl] at h;cases h
    | some l =>
     rw [hl] at h
     simp only [Option.bind_some] at h
     have h3:=pList_inv (f:=outForm) (ok:=mayOut) (fun _ _ _=>pOut_inv) (l:=l.1) (M:=l.2) hl
     by_cases hz:l.1.length=0
     ·rw [if_pos hz] at h;cases h
     ·rw [if_neg hz] at h
      simp only [Option.bind_some] at h
      split at h
      ·rename_i hm
       simp at h hm
       subst h
       refine ⟨?_,?_⟩
       ·simp only [mayRes,if_true,Bool.and_eq_true,decide_eq_true_eq]
        exact ⟨⟨⟨trivial,by omega⟩,h3.1⟩,h3.2.1⟩
       ·rw [h1.1,h3.2.2,hm,h0];simp [resForm]
      ·cases h
   ·rw [if_neg h0] at h
    cases hp:pNum 15 a.2 with
    | none=>rw [hp] at h;cases h
    | some p =>
     rw [hp] at h
     simp only [Option.bind_some] at h
     have h2:=pNum_inv (n:=p.1) (M:=p.2) hp
     split at h
     ·rename_i hm
      simp at h hm
      subst h
      have hne:¬((a.1:Nat):Int)=0:=by omega
      refine ⟨?_,?_⟩
      ·simp only [mayRes,if_neg hne,Bool.and_eq_true,decide_eq_true_eq]
       refine ⟨⟨⟨⟨by omega,by omega⟩,by omega⟩,by omega⟩,rfl⟩
      ·rw [h1.1,h2.1,hm];simp [resForm,h0]
     ·cases h
 ·rintro ⟨h,rfl⟩
  unfold pRes pRes0 resForm
  by_cases h0:r.abort=0
  ·simp only [mayRes,if_pos h0,Bool.and_eq_true,decide_eq_true_eq] at h
   rw [if_pos h0,pNum_form (by omega) (by decide)]
   simp only [Option.bind_some,if_true]
   have:=pList_form (p:=pOut) (f:=outForm) (ok:=mayOut) (fun x M hx=>pOut_form hx M) (l:=r.outs) (most:=16) [] h.2 h.1.2 (by decide)
   rw [List.append_nil] at this
   rw [this]
   simp only [Option.bind_some]
   rw [if_neg (by omega)]
   obtain ⟨a,p,o⟩:=r
   simp at h0 h ⊢
   exact ⟨h0.symm,h.1.1.1.symm⟩
  ·simp only [mayRes,if_neg h0,Bool.and_eq_true,decide_eq_true_eq] at h
   rw [if_neg h0,pNum_form (by omega) (by decide)]
   simp only [Option.bind_some]
   rw [if_neg (by omega)]
   have:=pNum_form (n:=r.place.toNat) (most:=15) (by omega) (by decide) []
   rw [List.append_nil] at this
   rw [this]
   obtain ⟨a,p,o⟩:=r
   simp at h0 h ⊢
   refine ⟨by omega,by omega,?_⟩
   exact List.eq_nil_of_length_eq_zero (by simpa using h.2)
def readR (b:Bs):PRes × Int:=match pRes b with | some r=>(r,0) | none=>(⟨0,0,[]⟩,4)
end Go.Proofs.YtanoabliahcbeaaGreat.Calls
