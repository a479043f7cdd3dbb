import Derived.Test.YtakmlhhapegpoaaGreatShiAll
import Derived.Test.YtakmlhhapegpoaaGreatCaAll
import Derived.Test.YtakmlhhapegpoaaGreatCdxAll
namespace Go.Proofs.YtakmlhhapegpoaaGreat
open Go.RowKit Disk Table
open Names (Str cmpL keyB valueB tabB)
open _root_.Go.Proofs.YtakmlhhapegpoaaGreat.Calls (POp POut PRes opV OpSeg mayOp Ops OpAt ops_at ops_open chk rds mayCall callForm opForm wrt)
theorem owns_cells {w:World}{B e size n:Nat}{v:Value}{xs:List Value}(h:w.ownsRow B e size v n xs):∃ao cap,v=.slice ao n cap/\∀j u,xs[j]? = some u->∃g,ao=some ⟨g,0,none⟩/\w.cell? ⟨g,0+j,none⟩=some u:=by
 rcases h.2 with ⟨h1,h2⟩ | ⟨g,cap,cur,h1,h2,h3,h4,h5,h6,h7⟩
 ·refine ⟨none,0,by rw [h1,h2],fun j u hu=>?_⟩
  have:=(List.getElem?_eq_some_iff.1 hu).1
  have:=h.1
  rw [h2] at this
  omega
 ·refine ⟨_,cap,h1,fun j u hu=>⟨g,rfl,?_⟩⟩
  rw [h1] at h
  have hj:=(List.getElem?_eq_some_iff.1 hu).1
  rw [Nat.zero_add,World.ownsRow.cellAt h j (by have:=h.1;omega)]
  exact hu
theorem rws_of {w:World}{B:Nat}{v:Value}{l:List PRow}(h:TRws w B v l)(hl:l.length<=1000000):Calls.Rws w v l:=by
 obtain ⟨ks,h1,h2⟩:=h
 obtain ⟨ao,cap,hv,hc⟩:=owns_cells h1
 refine ⟨ao,cap,hv,by omega,fun j hj=>?_⟩
 have hk:j<ks.length:=by rw [h2.1];exact hj
 have hr:=rcells_at ks j hk
 obtain ⟨g,rfl,c0⟩:=hc _ _ hr.1
 obtain ⟨g',e,c1⟩:=hc _ _ hr.2
 simp at e
 subst e
 exact ⟨g,0,ks[j].1,ks[j].2,rfl,c0,c1,(h2.2 j hk hj).1.seg,(h2.2 j hk hj).2.seg⟩
theorem outs_of {w:World}{B:Nat}{v:Value}{l:List POut}(h:OutsN w B v l)(hl:l.length<=1000000)(hr:∀o ∈ l,o.rows.length<=1000000):Calls.Outs w v l:=by
 obtain ⟨ks,h1,h2,_⟩:=h
 obtain ⟨ao,cap,hv,hc⟩:=owns_cells h1
 refine ⟨ao,cap,hv,by omega,fun j hj=>?_⟩
 have hk:j<ks.length:=by rw [h2.1];exact hj
 have ho:=ocells_at ks j hk
 obtain ⟨g,rfl,c0⟩:=hc _ _ ho.1
 obtain ⟨g',e,c1⟩:=hc _ _ ho.2.1
 simp at e
 subst e
 obtain ⟨g',e,c2⟩:=hc _ _ ho.2.2
 simp at e
 subst e
 have hn:=h2.2 j hk hj
 rw [hn.has] at c0
 exact ⟨g,0,ks[j].2.1,ks[j].2.2,rfl,⟨c0,c1,c2⟩,⟨hn.value.seg,rws_of hn.rows (hr _ (List.getElem_mem hj))⟩⟩
theorem opD_rows {q:Int × Int}{D D':DB}{o:POp}{r:POut}(h:DbQ q D)(ho:opD q D o=.ok (r,D')):r.rows.length<=1000000:=by
 unfold opD at ho
 split at ho
 ·simp at ho
  simp [<-ho.1]
 ·split at ho
  ·simp at ho
   simp [<-ho.1]
  ·split at ho
   ·simp at ho
    rw [<-ho.1]
    have h1:=rows_len D o.table h.good.rise.nodup
    have h2:=h.good.few
    simp [scanL]
    omega
   ·split at ho
    ·cases ho
    ·unfold putR at ho
     split at ho
     ·simp at ho
      simp [<-ho.1]
     ·cases ho
theorem callD_rows {q:Int × Int}:∀{l:List POp} {D D':DB} {outs outs':List POut},DbQ q D->(∀o ∈ l,mayOp o=true)->(∀r ∈ outs,r.rows.length<=1000000)->callD q D outs l=.ok (outs',D')->(∀r ∈ outs',r.rows.length<=1000000)/\outs'.length=outs.length+l.length
 | [],D,D',outs,outs',_,_,ho,hc=>by
  simp [callD] at hc
  rw [<-hc.1]
  exact ⟨ho,by simp⟩
 | o :: l,D,D',outs,outs',h,hm,ho,hc=>by
  unfold callD at hc
  cases hop:opD q D o with
  | error c=>rw [hop] at hc;cases hc
  | ok x =>
   rw [hop] at hc
   have:=callD_rows (opD_ok (r:=x.1) h (hm o (by simp)) hop) (fun p hp=>hm p (by simp [hp])) (fun r hr=>by
    rw [List.mem_append] at hr
    rcases hr with hr | hr
    ·exact ho r hr
    ·simp at hr
     rw [hr]
     exact opD_rows (r:=x.1) (D':=x.2) h hop) hc
   refine ⟨this.1,?_⟩
   rw [this.2]
   simp
   omega
theorem opD_read {q:Int × Int}{D D':DB}{o:POp}{r:POut}(h:wrt o=false)(ho:opD q D o=.ok (r,D')):D'=D:=by
 unfold wrt at h
 simp only [decide_eq_false_iff_not,ne_eq] at h
 unfold opD at ho
 split at ho
 ·simp at ho
  exact ho.2.symm
 ·split at ho
  ·rename_i h3
   exfalso
   exact h ⟨by omega,by omega⟩
  ·split at ho
   ·simp at ho
    exact ho.2.symm
   ·exfalso
    exact h ⟨by assumption,by assumption⟩
theorem callD_read {q:Int × Int}:∀{l:List POp} {D D':DB} {outs outs':List POut},(∀o ∈ l,wrt o=false)->callD q D outs l=.ok (outs',D')->D'=D
 | [],D,D',outs,outs',_,hc=>by
  simp [callD] at hc
  exact hc.2.symm
 | o :: l,D,D',outs,outs',h,hc=>by
  unfold callD at hc
  cases hop:opD q D o with
  | error c=>rw [hop] at hc;cases hc
  | ok x =>
   rw [hop] at hc
   have e:=callD_read (fun p hp=>h p (by simp [hp])) hc
   rw [e]
   exact opD_read (r:=x.1) (h o (by simp)) hop
theorem rds_read {l:List POp}(h:rds l=true):∀o ∈ l,wrt o=false:=fun o ho=>by
 unfold rds at h
 simp only [Bool.and_eq_true,Bool.not_eq_true',List.any_eq_false] at h
 have:=h.2 o ho
 simpa using this
end Go.Proofs.YtakmlhhapegpoaaGreat
