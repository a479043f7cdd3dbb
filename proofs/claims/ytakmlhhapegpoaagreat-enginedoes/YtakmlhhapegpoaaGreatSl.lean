import Derived.Test.YtakmlhhapegpoaaGreatSj
import Derived.Test.YtakmlhhapegpoaaGreatNabAll
namespace Go.Proofs.YtakmlhhapegpoaaGreat
open Go.RowKit Disk Table
open Names (Str cmpL keyB valueB tabB)
open _root_.Go.Proofs.YtakmlhhapegpoaaGreat.Calls (POp POut PRes opV OpSeg mayOp Ops OpAt ops_at ops_open chk rds mayCall callForm opForm wrt)
structure DoP where
 err:Int
 abort:Int
 place:Nat
 outs:List POut
 db:DB
def doP (q:Int × Int)(D:DB)(l:List POp):DoP:=if chk l≠0 then ⟨chk l,0,0,[],D⟩ else match callD q D [] l with
 | .ok (outs,D')=>⟨0,0,0,outs,D'⟩
 | .error (c,p)=>⟨0,c,p,[],D⟩
structure DoF (q:Int × Int)(D:DB)(l:List POp)(r:DoP):Prop where
 dbq:DbQ q r.db
 tab:TabD r.db
 same:r.err≠0\/r.abort≠0\/rds l=true->r.db=D
 gave:r.err=0->r.abort≠0->chk l=0/\callD q D [] l=.error (r.abort,r.place)
 len:r.outs.length<=1000000
 rows:∀o ∈ r.outs,o.rows.length<=1000000
theorem callD_dbq {q:Int × Int}:∀{l:List POp} {D D':DB} {outs outs':List POut},DbQ q D->(∀o ∈ l,mayOp o=true)->callD q D outs l=.ok (outs',D')->DbQ q D'
 | [],D,D',outs,outs',h,_,hc=>by
  simp [callD] at hc
  rw [<-hc.2]
  exact h
 | o :: l,D,D',outs,outs',h,hm,hc=>by
  unfold callD at hc
  cases hop:opD q D o with
  | error c=>rw [hop] at hc;cases hc
  | ok x =>
   rw [hop] at hc
   exact callD_dbq (opD_ok (r:=x.1) h (hm o (by simp)) hop) (fun p hp=>hm p (by simp [hp])) hc
theorem doF {q:Int × Int}{D:DB}{l:List POp}(h:DbQ q D)(hT:TabD D):DoF q D l (doP q D l):=by
 unfold doP
 split
 ·rename_i hc
  exact ⟨h,hT,fun _=>rfl,fun h0=>absurd h0 hc,by simp,by simp⟩
 ·rename_i hc
  have hc0:chk l=0:=by simpa using hc
  cases hcall:callD q D [] l with
  | ok x =>
   obtain ⟨outs,D'⟩:=x
   have hr:=callD_rows h (chk_may hc0).1 (by simp) hcall
   refine ⟨callD_dbq h (chk_may hc0).1 hcall,callD_tab hT (chk_tab hc0) hcall,fun hh=>?_,fun _ h0=>absurd rfl h0,?_,hr.1⟩
   ·rcases hh with hh | hh | hh
    ·exact absurd rfl hh
    ·exact absurd rfl hh
    ·exact callD_read (rds_read hh) hcall
   ·have:=hr.2
    have:=(chk_may hc0).2.2
    simp at *
    omega
  | error x =>
   obtain ⟨c,p⟩:=x
   exact ⟨h,hT,fun _=>rfl,fun _ _=>⟨hc0,hcall⟩,by simp,by simp⟩
def DoZY (X:Nat->Prop)(q:Int × Int)(D:DB)(l:List POp)(b:Nat)(w:World)(e:Ending)(w':World):Prop :=
 ∃v m' Y,e=.returned (.tuple #[.agg #[.int .i64 (doP q D l).abort,.int .i64 ((doP q D l).place:Int),v],.int .i64 (doP q D l).err])/\OutsY Y w' w.heap.size v (doP q D l).outs/\(∀g,Y g->w.heap.size<=g/\g<w'.heap.size)/\EngB w' b q m'/\EM (XY X Y) w' m' (doP q D l).db/\w.grownBy w' (some b)
theorem do17zy {X:Nat->Prop}(b m:Nat)(q:Int × Int)(D:DB)(hD:DbQ q D)(v:Value)(l:List POp)(w:World)(hX:∀g,X g->g<w.heap.size)(hb:EngB w b q m)(hm:EM X w m D)(hv:Ops w v l):Calls Tryz.prog 17 #[.pointer (some ⟨b,0,none⟩),.agg #[v]] w (DoZY X q D l b w):=by
 refine (do17y b m q D hD v l w hX hb hm hv).mono ?_
 rintro e w' (⟨h0,g,rfl⟩ | ⟨h0,g,⟨outs,D',hc,_,Y,hE,hYb,u,rfl,hO⟩ | ⟨c,n,hc,hE,hM,rfl⟩⟩)
 ·refine ⟨.slice none 0 0,m,noY,?_,?_,fun g hg=>hg.elim,Blk.grown hb g (by simp),?_,⟨g.os,g.tape,g.output,g.size,fun k hk _=>g.block k hk (by simp)⟩⟩
  ·simp [doP,h0,resV3]
  ·simp [doP,h0]
   exact OutsY.nil _ _ _
  ·simp [doP,h0]
   exact em_noY (hm.grown g)
 ·obtain ⟨m',hE',hM'⟩:=hE
  refine ⟨u,m',Y,?_,?_,hYb,hE',?_,g⟩
  ·simp [doP,h0,hc,resV3]
  ·simp [doP,h0,hc]
   exact hO
  ·simp [doP,h0,hc]
   exact hM'
 ·refine ⟨.slice none 0 0,m,noY,?_,?_,fun g hg=>hg.elim,hE,?_,g⟩
  ·simp [doP,h0,hc,resV3]
  ·simp [doP,h0,hc]
   exact OutsY.nil _ _ _
  ·simp [doP,h0,hc]
   exact em_noY hM
end Go.Proofs.YtakmlhhapegpoaaGreat
