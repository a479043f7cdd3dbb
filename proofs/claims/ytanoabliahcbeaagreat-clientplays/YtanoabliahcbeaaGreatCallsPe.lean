import Derived.Test.YtanoabliahcbeaaGreatCpwAll
namespace Go.Proofs.YtanoabliahcbeaaGreat.Calls
abbrev PRow:=Bs × Bs
def ci (r:PRow):Bs:=ah r.1 ++ ah r.2
def cu (r:PRow):Bool:=Names.keyB r.1 && Names.aT r.2
def fB:List PRow->Bool
 | []=>true
 | [_]=>true
 | a :: b :: l=>decide (Names.cmpL a.1 b.1<0) && fB (b :: l)
def bg (o:POut):Bs:=aJ o.has ++ (ah o.value ++ cD ci o.rows)
def bY (o:POut):Bool:=Names.aT o.value && decide (o.rows.length<=64) && fB o.rows && o.rows.all cu
def bH (r:PRes):Bs:=if r.abort=0 then Wire.al 0 ++ cD bg r.outs else Wire.al r.abort.toNat ++ Wire.al r.place.toNat
def bB (r:PRes):Bool:=if r.abort=0 then decide (r.place=0) && decide (1<=r.outs.length) && decide (r.outs.length<=16) && r.outs.all bY else decide (1<=r.abort) && decide (r.abort<=3) && decide (0<=r.place) && decide (r.place<16) && decide (r.outs.length=0)
theorem gy:∀(l:List PRow),fB l=true<->∀i (h:i+1<l.length),Names.cmpL l[i].1 l[i+1].1<0
 | []=>by simp [fB]
 | [_]=>by simp [fB]
 | a :: b :: l=>by
  have ih:=gy (b :: l)
  simp only [fB,Bool.and_eq_true,decide_eq_true_eq,ih]
  constructor
  ·rintro ⟨h0,h1⟩ i hi
   rcases i with _ | i
   ·exact h0
   ·exact h1 i (by simpa using hi)
  ·intro h
   exact ⟨h 0 (by simp),fun i hi=>h (i+1) (by simpa using hi)⟩
def pRow (L:Bs):Option (PRow × Bs):=(aZ 64 L).bind fun k=>(aZ 256 k.2).bind fun v=>if Names.keyB k.1=true then some ((k.1,v.1),v.2) else none
def pOut (L:Bs):Option (POut × Bs):=(dE L).bind fun h=>(aZ 256 h.2).bind fun v=>(aH pRow 64 v.2).bind fun l=>if fB l.1=true then some (⟨h.1,v.1,l.1⟩,l.2) else none
def ex (L:Bs):Option (PRes × Bs):=(pNum 3 L).bind fun a=>if a.1=0 then (aH pOut 16 a.2).bind fun l=>if l.1.length=0 then none else some (⟨0,0,l.1⟩,l.2) else (pNum 15 a.2).bind fun p=>some (⟨a.1,p.1,[]⟩,p.2)
def pRes (L:Bs):Option PRes:=(ex L).bind fun r=>if r.2.length=0 then some r.1 else none
theorem ke {L:Bs}(h:Names.keyB L=true):L.length<=64:=by simp [Names.keyB] at h;exact h.2
theorem rJ {r:PRow}(h:cu r=true)(M:Bs):pRow (ci r ++ M)=some (r,M):=by
 simp only [cu,Bool.and_eq_true] at h
 unfold pRow ci
 rw [List.append_assoc,cM (ke h.1) (by decide)]
 simp only [Option.bind_some]
 rw [cM (by simpa [Names.aT] using h.2) (by decide)]
 simp [h.1]
theorem nO {r:PRow}{L M:Bs}(h:pRow L=some (r,M)):cu r=true/\L=ci r ++ M:=by
 unfold pRow at h
 cases hk:aZ 64 L with
 | none=>rw [hk] at h;cases h
 | some k =>
  rw [hk] at h
  simp only [Option.bind_some] at h
  cases hv:aZ 256 k.2 with
  | none=>rw [hv] at h;cases h
  | some v =>
   rw [hv] at h
   simp only [Option.bind_some] at h
   split at h
   ·rename_i hkk
    simp at h
    obtain ⟨rfl,rfl⟩:=h
    have h1:=cA (b:=k.1) (M:=k.2) hk
    have h2:=cA (b:=v.1) (M:=v.2) hv
    refine ⟨?_,?_⟩
    ·simp only [cu,Bool.and_eq_true]
     exact ⟨hkk,by simp [Names.aT,h2.2]⟩
    ·rw [h1.1,h2.1];simp [ci]
   ·cases h
theorem rK {o:POut}(h:bY o=true)(M:Bs):pOut (bg o ++ M)=some (o,M):=by
 simp only [bY,Bool.and_eq_true,decide_eq_true_eq] at h
 unfold pOut bg
 rw [List.append_assoc,kH]
 simp only [Option.bind_some,List.append_assoc]
 rw [cM (by simpa [Names.aT] using h.1.1.1) (by decide)]
 simp only [Option.bind_some]
 rw [iw (ok:=cu) (fun x M hx=>rJ hx M) M h.2 h.1.1.2 (by decide)]
 simp [h.1.2]
theorem nP {o:POut}{L M:Bs}(h:pOut L=some (o,M)):bY o=true/\L=bg o ++ M:=by
 unfold pOut at h
 cases hf:dE L with
 | none=>rw [hf] at h;cases h
 | some f =>
  rw [hf] at h
  simp only [Option.bind_some] at h
  cases hv:aZ 256 f.2 with
  | none=>rw [hv] at h;cases h
  | some v =>
   rw [hv] at h
   simp only [Option.bind_some] at h
   cases hl:aH pRow 64 v.2 with
   | none=>rw [hl] at h;cases h
   | some l =>
    rw [hl] at h
    simp only [Option.bind_some] at h
    split at h
    ·rename_i hr
     simp at h
     obtain ⟨rfl,rfl⟩:=h
     have h1:=jq (is:=f.1) (M:=f.2) hf
     have h2:=cA (b:=v.1) (M:=v.2) hv
     have h3:=jr (f:=ci) (ok:=cu) (fun _ _ _=>nO) (l:=l.1) (M:=l.2) hl
     refine ⟨?_,?_⟩
     ·simp only [bY,Bool.and_eq_true,decide_eq_true_eq]
      exact ⟨⟨⟨by simp [Names.aT,h2.2],h3.1⟩,hr⟩,h3.2.1⟩
     ·rw [h1,h2.1,h3.2.2];simp [bg]
    ·cases h
theorem nQ {L:Bs}{r:PRes}:pRes L=some r<->bB r=true/\L=bH r:=by
 constructor
 ·intro h
  unfold pRes ex at h
  cases ha:pNum 3 L with
  | none=>rw [ha] at h;cases h
  | some a =>
   rw [ha] at h
   simp only [Option.bind_some] at h
   have h1:=ez (n:=a.1) (M:=a.2) ha
   by_cases h0:a.1=0
   ·rw [if_pos h0] at h
    cases hl:aH pOut 16 a.2 with
    | none=>rw [hl] at h;cases h
    | some l =>
     rw [hl] at h
     simp only [Option.bind_some] at h
     have h3:=jr (f:=bg) (ok:=bY) (fun _ _ _=>nP) (l:=l.1) (M:=l.2) hl
     by_cases hz:l.1.length=0
     ·rw [if_pos hz] at h;cases h
     ·rw [if_neg hz] at h
      simp only [Option.bind_some] at h
      split at h
      ·rename_i hm
       simp at h hm
       subst h
       refine ⟨?_,?_⟩
       ·simp only [bB,if_true,Bool.and_eq_true,decide_eq_true_eq]
        exact ⟨⟨⟨trivial,by omega⟩,h3.1⟩,h3.2.1⟩
       ·rw [h1.1,h3.2.2,hm,h0];simp [bH]
      ·cases h
   ·rw [if_neg h0] at h
    cases hp:pNum 15 a.2 with
    | none=>rw [hp] at h;cases h
    | some p =>
     rw [hp] at h
     simp only [Option.bind_some] at h
     have h2:=ez (n:=p.1) (M:=p.2) hp
     split at h
     ·rename_i hm
      simp at h hm
      subst h
      have hne:¬((a.1:Nat):Int)=0:=by omega
      refine ⟨?_,?_⟩
      ·simp only [bB,if_neg hne,Bool.and_eq_true,decide_eq_true_eq]
       refine ⟨⟨⟨⟨by omega,by omega⟩,by omega⟩,by omega⟩,rfl⟩
      ·rw [h1.1,h2.1,hm];simp [bH,h0]
     ·cases h
 ·rintro ⟨h,rfl⟩
  unfold pRes ex bH
  by_cases h0:r.abort=0
  ·simp only [bB,if_pos h0,Bool.and_eq_true,decide_eq_true_eq] at h
   rw [if_pos h0,cV (by omega) (by decide)]
   simp only [Option.bind_some,if_true]
   have:=iw (p:=pOut) (f:=bg) (ok:=bY) (fun x M hx=>rK hx M) (l:=r.outs) (most:=16) [] h.2 h.1.2 (by decide)
   rw [List.append_nil] at this
   rw [this]
   simp only [Option.bind_some]
   rw [if_neg (by omega)]
   obtain ⟨a,p,o⟩:=r
   simp at h0 h ⊢
   exact ⟨h0.symm,h.1.1.1.symm⟩
  ·simp only [bB,if_neg h0,Bool.and_eq_true,decide_eq_true_eq] at h
   rw [if_neg h0,cV (by omega) (by decide)]
   simp only [Option.bind_some]
   rw [if_neg (by omega)]
   have:=cV (n:=r.place.toNat) (most:=15) (by omega) (by decide) []
   rw [List.append_nil] at this
   rw [this]
   obtain ⟨a,p,o⟩:=r
   simp at h0 h ⊢
   refine ⟨by omega,by omega,?_⟩
   exact List.eq_nil_of_length_eq_zero (by simpa using h.2)
def dB (b:Bs):PRes × Int:=match pRes b with | some r=>(r,0) | none=>(⟨0,0,[]⟩,4)
end Go.Proofs.YtanoabliahcbeaaGreat.Calls
