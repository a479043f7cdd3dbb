import Derived.Test.YtanoabliahcbeaaGreatProg
import Derived.KernelRfl
import Derived.WalkKit
import Derived.WalkSpells
import Derived.WalkLawsBesides
import Derived.Laws.AppendOwnNone
import Derived.BigFrame
import Derived.Deep.RegionHeld3
import Derived.Deep.DrawnRows
import Derived.Deep.QuietTactic
import Derived.BigQuiet
import Derived.Deep.AppendLies
import Derived.Deep.DeepAppendRoom
set_option maxHeartbeats 400000
set_option maxRecDepth 100000
namespace Go.Proofs.YtanoabliahcbeaaGreat.Disk
open Go.RowKit
def BV (L:List UInt8):List Value:=L.map fun u=>Value.int .u8 (u.toNat:Int)
theorem BV_append (L M:List UInt8):BV (L ++ M)=BV L ++ BV M:=by simp [BV]
theorem BV_take (L:List UInt8)(n:Nat):BV (L.take n)=(BV L).take n:=by simp [BV,List.map_take]
theorem BV_one (L:List UInt8):∀u ∈ BV L,u.oneCell'=true:=by
 intro u hu;simp [BV] at hu;obtain ⟨x,_,rfl⟩:=hu;rfl
def Seg (w:World)(v:Value)(L:List UInt8):Prop :=
 ∃ao cap,v=.slice ao L.length cap/\L.length<=cap/\cap<=maxLen/\(ao=none->cap=0)/\∀j (hj:j<L.length),∃b off,ao=some ⟨b,off,none⟩/\w.cell? ⟨b,off+j,none⟩=some (.int .u8 (L[j].toNat:Int))
def Own (w:World)(B:Nat)(v:Value)(L:List UInt8):Prop:=w.ownsRow B 5 1 v L.length (BV L)
def Blk (w:World)(b t:Nat)(c:Array Value):Prop:=w.heap[b]? = some (.cells c t (0,0))
theorem grown_refl (w:World)(r:Option Nat):w.grownBy w r:=⟨rfl,rfl,rfl,Nat.le_refl _,fun _ _ _=>rfl⟩
theorem grown_weak {w w':World}(h:w.grownBy w' none)(r:Option Nat):w.grownBy w' r:=⟨h.os,h.tape,h.output,h.size,fun k hk _=>h.block k hk (by simp)⟩
theorem grown_trans {a b c:World}{r:Option Nat}(h:a.grownBy b r)(k:b.grownBy c r):a.grownBy c r :=
 ⟨k.os.trans h.os,k.tape.trans h.tape,k.output.trans h.output,Nat.le_trans h.size k.size,fun i hi hr=>(k.block i (Nat.lt_of_lt_of_le hi h.size) hr).trans (h.block i hi hr)⟩
theorem grown_new {a b c:World}{r q:Option Nat}(h:a.grownBy b r)(k:b.grownBy c q)(hq:∀x,q=some x->a.heap.size<=x):a.grownBy c r :=
 ⟨k.os.trans h.os,k.tape.trans h.tape,k.output.trans h.output,Nat.le_trans h.size k.size,fun i hi hr=>(k.block i (Nat.lt_of_lt_of_le hi h.size) (fun e=>by have:=hq i e.symm;omega)).trans (h.block i hi hr)⟩
theorem grown_drew (w:World)(r:Option Nat):w.grownBy w.drew r:=⟨rfl,rfl,rfl,Nat.le_refl _,fun _ _ _=>rfl⟩
theorem grown_drewN (w:World)(q:Nat)(r:Option Nat):w.grownBy (w.drewN q) r:=⟨rfl,rfl,rfl,Nat.le_refl _,fun _ _ _=>rfl⟩
theorem grown_setCell (w:World)(b o:Nat)(v:Value):w.grownBy (w.setCell ⟨b,o,none⟩ v) (some b) :=
 ⟨rfl,rfl,rfl,by simp [World.setCell],fun k _ hk=>heap_setCell_other w ⟨b,o,none⟩ k v (fun e=>hk (by simp [e]))⟩
theorem grown_below {w w':World}(h:w.grownBy w' none):Below w.heap.size w w':=⟨h.os,h.tape,h.output,h.size,fun k hk=>h.block k hk (by simp)⟩
theorem Blk.lt {w:World}{b t:Nat}{c:Array Value}(h:Blk w b t c):b<w.heap.size:=(Array.getElem?_eq_some_iff.1 h).1
theorem Blk.cell {w:World}{b t:Nat}{c:Array Value}(h:Blk w b t c)(j:Nat):w.cell? ⟨b,j,none⟩=c[j]?:=cell_of_row w b j _ _ _ h
theorem Blk.free {w:World}{b t:Nat}{c:Array Value}(h:Blk w b t c)(j:Nat):w.frozen? ⟨b,j,none⟩=false:=frozen_of_row w b j _ _ h
theorem Blk.store {w:World}{b t:Nat}{c:Array Value}(h:Blk w b t c)(i:Nat)(v:Value):Blk (w.setCell ⟨b,i,none⟩ v) b t (c.setIfInBounds i v):=heap_setCell_same w b i _ _ v h
theorem Blk.grown {w w':World}{b t:Nat}{c:Array Value}{r:Option Nat}(h:Blk w b t c)(hg:w.grownBy w' r)(hr:r≠some b):Blk w' b t c :=
 (hg.block b h.lt (fun e=>hr e.symm)).trans h
theorem Blk.same {w w':World}{b t:Nat}{c:Array Value}(h:Blk w b t c)(hs:w'.heap[b]? = w.heap[b]?):Blk w' b t c:=hs.trans h
theorem Seg.len {w:World}{v:Value}{L:List UInt8}(h:Seg w v L):L.length<=9223372036854775807:=by
 obtain ⟨ao,cap,_,h1,h2,_⟩:=h
 unfold maxLen at h2;omega
theorem Seg.shape {w:World}{v:Value}{L:List UInt8}(h:Seg w v L):∃ao cap,v=.slice ao L.length cap:=by obtain ⟨ao,cap,h,_⟩:=h;exact ⟨ao,cap,h⟩
theorem seg_nil (w:World):Seg w (.slice none 0 0) []:=⟨none,0,rfl,Nat.le_refl _,Nat.zero_le _,fun _=>rfl,fun j hj=>absurd hj (by simp)⟩
theorem Seg.of_cells {w w':World}{v:Value}{L:List UInt8}(h:Seg w v L)(hc:∀b j (x:Int),w.cell? ⟨b,j,none⟩=some (.int .u8 x)->w'.cell? ⟨b,j,none⟩=some (.int .u8 x)):Seg w' v L:=by
 obtain ⟨ao,cap,hv,h1,h2,h3,h4⟩:=h
 refine ⟨ao,cap,hv,h1,h2,h3,fun j hj=>?_⟩
 obtain ⟨b,off,e,hcell⟩:=h4 j hj
 exact ⟨b,off,e,hc _ _ _ hcell⟩
theorem Seg.grown {w w':World}{v:Value}{L:List UInt8}(h:Seg w v L)(hg:w.grownBy w' none):Seg w' v L :=
 h.of_cells fun _ _ _ hc=>hg.cell hc (by simp)
theorem Own.seg {w:World}{B:Nat}{v:Value}{L:List UInt8}(h:Own w B v L):Seg w v L:=by
 rcases h.2 with ⟨rfl,hn⟩ | ⟨g,cap,cur,rfl,hb,hg,hnc,hcm,hcs,ht⟩
 ·have:L=[]:=List.eq_nil_of_length_eq_zero hn
  subst this
  exact seg_nil w
 ·refine ⟨_,cap,rfl,hnc,hcm,by simp,fun j hj=>⟨g,0,rfl,?_⟩⟩
  have:=h.cellAt j (by omega)
  rw [Nat.zero_add,this]
  simp [BV,hj]
theorem Own.nil (w:World)(B:Nat):Own w B (.slice none 0 0) []:=World.ownsRow_nil w B 5 1
theorem Own.mono {w:World}{B B':Nat}{v:Value}{L:List UInt8}(h:Own w B v L)(hB:B'<=B):Own w B' v L:=by
 refine ⟨h.1,?_⟩
 rcases h.2 with h2 | ⟨g,cap,cur,h1,hb,h3⟩
 ·exact .inl h2
 ·exact .inr ⟨g,cap,cur,h1,by omega,h3⟩
theorem Own.grown {w w':World}{B:Nat}{v:Value}{L:List UInt8}(h:Own w B v L)(hg:w.grownBy w' none):Own w' B v L:=h.kept hg (by cases v.ownBlock <;> simp)
theorem Own.same {w w':World}{B:Nat}{v:Value}{L:List UInt8}(h:Own w B v L)(hs:∀k,v.ownBlock=some k->w'.heap[k]? = w.heap[k]?):Own w' B v L:=by
 refine ⟨h.1,?_⟩
 rcases h.2 with h2 | ⟨g,cap,cur,rfl,hb,hg,h3⟩
 ·exact .inl h2
 ·exact .inr ⟨g,cap,cur,rfl,hb,(hs g rfl).trans hg,h3⟩
theorem Own.alloc {w:World}{B:Nat}{v:Value}{L:List UInt8}(h:Own w B v L)(o:Obj):Own (w.alloc o) B v L:=World.ownsRow.alloc h o
theorem Own.lt {w:World}{B:Nat}{v:Value}{L:List UInt8}(h:Own w B v L):∀k,v.ownBlock=some k->B<=k/\k<w.heap.size:=fun k hk=>World.ownsRow.lt h k hk
theorem own_empty (w:World):Own (w.alloc (.cells #[] 5)) w.heap.size (.slice (some ⟨w.heap.size,0,none⟩) 0 0) []:=World.ownsRow_made (base:=w.heap.size) (e:=5) (size:=1) w #[] 0 (Nat.le_refl _) (Nat.zero_le _) rfl
theorem Own.shape {w:World}{B:Nat}{v:Value}{L:List UInt8}(h:Own w B v L):(v=.slice none 0 0/\L=[])\/∃g cap,v=.slice (some ⟨g,0,none⟩) L.length cap/\B<=g/\g<w.heap.size:=by
 rcases h.2 with ⟨rfl,hn⟩ | ⟨g,cap,cur,rfl,hb,hg,_⟩
 ·exact .inl ⟨rfl,List.eq_nil_of_length_eq_zero hn⟩
 ·exact .inr ⟨g,cap,rfl,hb,(Array.getElem?_eq_some_iff.1 hg).1⟩
theorem Own.take {w:World}{B:Nat}{ao:Option Addr}{cap:Nat}{L:List UInt8}(h:Own w B (.slice ao L.length cap) L)(n:Nat)(hn:n<=L.length):Own w B (.slice ao n cap) (L.take n):=by
 refine ⟨by simp [BV],?_⟩
 have hl:(L.take n).length=n:=by simp [hn]
 rcases h.2 with ⟨he,h0⟩ | ⟨g,c,cur,he,hb,hg,h1,h2,h3,h4⟩
 ·simp at he
  obtain ⟨rfl,h00,rfl⟩:=he
  have e0:n=0:=by omega
  subst e0
  exact .inl ⟨rfl,by simp⟩
 ·simp at he
  obtain ⟨rfl,rfl⟩:=he
  refine .inr ⟨g,cap,cur,by rw [hl],hb,hg,by rw [hl];omega,h2,h3,?_⟩
  rw [hl,BV_take,<-h4,List.take_take]
  congr 1
  omega
theorem Own.other {w:World}{B:Nat}{v:Value}{L:List UInt8}{b t:Nat}{c:Array Value}(h:Own w B v L)(hb:Blk w b t c)(ht:t≠5):v.ownBlock≠some b:=by
 rcases h.2 with ⟨rfl,_⟩ | ⟨g,cap,cur,rfl,_,hg,_⟩
 ·simp [Value.ownBlock]
 ·intro e
  simp [Value.ownBlock] at e
  subst e
  unfold Blk at hb
  rw [hg] at hb
  simp at hb
  exact ht hb.2.symm
theorem seg_take {w:World}{ao:Option Addr}{cap:Nat}{L:List UInt8}(m:Nat)(hm:m<=L.length)(h:Seg w (.slice ao L.length cap) L):Seg w (.slice ao m cap) (L.take m):=by
 obtain ⟨ao',cap',hv,h1,h2,h3,h4⟩:=h
 simp at hv;obtain ⟨rfl,rfl⟩:=hv
 refine ⟨ao,cap,by simp [hm],by simp;omega,h2,h3,fun j hj=>?_⟩
 simp at hj
 obtain ⟨b,off,e,hc⟩:=h4 j (by omega)
 exact ⟨b,off,e,by simpa using hc⟩
theorem seg_drop {w:World}{ao:Option Addr}{cap:Nat}{L:List UInt8}(m:Nat)(hm:m<=L.length)(h:Seg w (.slice ao L.length cap) L):Seg w (.slice (Option.map (fun x=>x.add m) ao) (L.length-m) (cap-m)) (L.drop m):=by
 obtain ⟨ao',cap',hv,h1,h2,h3,h4⟩:=h
 simp at hv;obtain ⟨rfl,rfl⟩:=hv
 refine ⟨Option.map (fun x=>x.add m) ao,cap-m,by simp,by simp;omega,by omega,fun h=>by simp at h;have:=h3 h;omega,fun j hj=>?_⟩
 simp at hj
 obtain ⟨b,off,e,hc⟩:=h4 (m+j) (by omega)
 refine ⟨b,off+m,?_,by rw [Nat.add_assoc];simpa using hc⟩
 rw [e];simp only [Option.map_some,Addr.add]
 by_cases hz:m=0
 ·subst hz;simp
 ·simp [hz]
theorem seg_drop_all {w:World}{ao:Option Addr}{cap:Nat}{L:List UInt8}(m:Nat)(hm:m<=L.length)(hc:cap=m)(h:Seg w (.slice ao L.length cap) L):Seg w (.slice ao (L.length-m) 0) (L.drop m):=by
 obtain ⟨ao',cap',hv,h1,h2,h3,h4⟩:=h
 simp at hv;obtain ⟨rfl,rfl⟩:=hv
 have:L.length=m:=by omega
 refine ⟨ao,0,by simp,by simp;omega,by omega,fun _=>rfl,fun j hj=>?_⟩
 simp at hj;omega
structure Fr (w w':World)(F:Nat->Prop):Prop where
 os:w'.os=w.os
 tape:w'.tape=w.tape
 output:w'.output=w.output
 size:w.heap.size<=w'.heap.size
 block:∀k,k<w.heap.size->¬F k->w'.heap[k]? = w.heap[k]?
structure Aft (w:World)(F:Nat->Prop)(w':World)(F':Nat->Prop):Prop where
 fr:Fr w w' F
 sub:∀k,F' k->F k\/w.heap.size<=k
theorem Fr.of {w w':World}{r:Option Nat}{F:Nat->Prop}(h:w.grownBy w' r)(hr:∀k,r=some k->F k):Fr w w' F :=
 ⟨h.os,h.tape,h.output,h.size,fun k hk hn=>h.block k hk (fun e=>hn (hr k e.symm))⟩
theorem Fr.grown {w w':World}{F:Nat->Prop}(h:Fr w w' F)(hF:∀k,F k->w.heap.size<=k):w.grownBy w' none :=
 ⟨h.os,h.tape,h.output,h.size,fun k hk _=>h.block k hk (fun e=>by have:=hF k e;omega)⟩
theorem Fr.trans {a b c:World}{F G:Nat->Prop}(h:Fr a b F)(k:Fr b c G)(hG:∀i,G i->F i\/a.heap.size<=i):Fr a c F :=
 ⟨k.os.trans h.os,k.tape.trans h.tape,k.output.trans h.output,Nat.le_trans h.size k.size,fun i hi hn=>(k.block i (Nat.lt_of_lt_of_le hi h.size) (fun e=>by rcases hG i e with h1 | h1;exact hn h1;omega)).trans (h.block i hi hn)⟩
theorem Fr.mono {w w':World}{F G:Nat->Prop}(h:Fr w w' F)(hs:∀k,F k->G k):Fr w w' G:=⟨h.os,h.tape,h.output,h.size,fun k hk hn=>h.block k hk (fun e=>hn (hs k e))⟩
theorem Fr.after {a b c:World}{F:Nat->Prop}(h:a.grownBy b none)(k:Fr b c F)(_hF:∀i,F i->i<a.heap.size\/a.heap.size<=i):Fr a c F :=
 ⟨k.os.trans h.os,k.tape.trans h.tape,k.output.trans h.output,Nat.le_trans h.size k.size,fun i hi hn=>(k.block i (Nat.lt_of_lt_of_le hi h.size) hn).trans (h.block i hi (by simp))⟩
theorem Fr.same {w w':World}{F G:Nat->Prop}(h:Fr w w' F)(hl:∀k,G k->k<w.heap.size)(hd:∀k,G k->¬F k):∀k,G k->w'.heap[k]? = w.heap[k]?:=fun k hk=>h.block k (hl k hk) (hd k hk)
theorem Aft.trans {a b c:World}{F G H:Nat->Prop}(h:Aft a F b G)(k:Aft b G c H):Aft a F c H :=
 ⟨h.fr.trans k.fr h.sub,fun i hi=>by
  rcases k.sub i hi with h1 | h1
  ·exact h.sub i h1
  ·exact .inr (Nat.le_trans h.fr.size h1)⟩
theorem Tryz.info5:(Tryz.prog.info? 5).map (fun i=>(i.zero,i.size,i.bytes))=some (some (.int .u8 0),1,1):=by kernel_rfl
theorem seg_news {w:World}{ad:Addr}{n cap:Nat}{L:List UInt8}(h:Seg w (.slice (some ad) n cap) L):n=L.length/\∀j u,(BV L)[j]? = some u->w.cell? (ad.add j)=some u:=by
 obtain ⟨ao,cap',hv,h1,h2,h3,h4⟩:=h
 simp at hv;obtain ⟨rfl,rfl,rfl⟩:=hv
 refine ⟨rfl,fun j u hj=>?_⟩
 have hjl:j<L.length:=by
  have:=(List.getElem?_eq_some_iff.1 hj).1
  simpa [BV] using this
 obtain ⟨b,off,e,hc⟩:=h4 j hjl
 simp at e;subst e
 have e2:(⟨b,off,none⟩:Addr).add j=⟨b,off+j,none⟩:=by
  unfold Addr.add;by_cases hz:j=0
  ·subst hz;simp
  ·simp [hz]
 rw [e2,hc]
 simp [BV,hjl] at hj
 rw [hj]
theorem app22_wp {o:Oper}{a:Act}{K:Act->World->Prop}{Q:Exit->Act->World->Prop}(w:World)(s x:Operand)
  (ho:o.op=.call { callee:=.builtin .append,args:=#[s,x],argTypes:=#[41,41] })
  (B:Nat) (v:Value) (L:List UInt8) (u:Value) (M:List UInt8) (hs:a.eval s=v) (hx:a.eval x=u) (hown:Own w B v L) (hseg:Seg w u M) (hb:L.length+M.length<=140737488355328) (hB:B<=w.heap.size)
  (h:∀v' w',Own w' B v' (L ++ M)->w.grownBy w' v.ownBlock->(∀k,v'.ownBlock=some k->v.ownBlock=some k\/w.heap.size<=k)->K (a.put o.dst v') w'):o.wp Tryz.prog a w K Q:=by
 obtain ⟨i0,hi,hz0,hz1,hz2⟩:=info_parts Tryz.info5
 have hsg:=hseg
 obtain ⟨ao,cap,rfl,h1,h2,h3,h4⟩:=hsg
 cases ao with
 | none =>
  have hM0:M=[]:=List.eq_nil_of_length_eq_zero (by have:=h3 rfl;omega)
  have hc0:cap=0:=h3 rfl
  subst hM0;subst hc0
  have hrun:=run_append_owned_none (P:=Tryz.prog) (w:=w) B 41 o.type 5 i0 1 Tryz.underlying41 hi v _ _ hown
  have hx':a.eval x=.slice none 0 0:=hx
  unfold Oper.wp
  simp only [execOp,ho,resolve,invoke,builtin,Sem.run_bind,Sem.run_pure,Result.andThen_ok,List.map_toArray,List.map_cons,List.map_nil,hs,hx',hrun]
  exact h v w (by simpa using hown) (grown_refl _ _) (fun k hk=>.inl hk)
 | some ad =>
  obtain ⟨_,hnews⟩:=seg_news hseg
  by_cases hm:0<M.length
  ·refine wp_append_lies w s x 41 ho B 5 i0 (.int .u8 0) 1 1 Tryz.underlying41 hi hz0 hz1 hz2 rfl (by decide) v L.length (BV L) hs hown ad M.length cap (BV M) hx (by simp [BV]) hnews (BV_one M) hm (by unfold maxLen;omega) (by omega) hB w.heap.size rfl ?_
   intro g cap' w' h1 h2 h3 _
   refine h _ w' (by unfold Own;rw [BV_append,List.length_append];exact h1) h2 fun k hk=>?_
   simp [Value.ownBlock] at hk
   subst hk
   rcases h3 with h3 | h3
   ·exact .inl h3
   ·exact .inr (by omega)
  ·have hM0:M=[]:=List.eq_nil_of_length_eq_zero (by omega)
   subst hM0
   rcases hown.shape with ⟨rfl,rfl⟩ | ⟨g,c,rfl,_,_⟩
   ·refine wp_append_own w s x 41 ho w.heap.size 5 i0 (.int .u8 0) 1 1 Tryz.underlying41 hi hz0 hz1 hz2 rfl (by decide) _ 0 [] hs (World.ownsRow_nil _ _ _ _) ad 0 cap [] hx rfl (by simp) (by simp) (by unfold maxLen;omega) (by omega) (Nat.le_refl _) ?_
    intro v' w' h1 h2 _
    exact h v' w' ((show Own w' w.heap.size v' [] from h1).mono hB) h2 fun k hk=>.inr (World.ownsRow.lt h1 k hk).1
   ·refine wp_append_own_spare w s x 41 ho B 5 i0 1 Tryz.underlying41 hi hz1 g L.length c (BV L) hs hown ad 0 cap [] hx rfl (by simp) (by simp) (by have:=hown.2;simp at this;omega) ?_
    intro w' h1 h2
    refine h _ w' ?_ h2 fun k hk=>.inl hk
    simpa [Own] using h1
theorem app22 {ops:Array Oper}{rest:List Oper}{o:Oper}{a:Act}{Q:Exit->Act->World->Prop}(w:World)(hw:Region.wanted o (yielded ops a.tmps)=true)(s x:Operand)
  (ho:o.op=.call { callee:=.builtin .append,args:=#[s,x],argTypes:=#[41,41] })
  (B:Nat) (v:Value) (L:List UInt8) (u:Value) (M:List UInt8) (hs:a.eval s=v) (hx:a.eval x=u) (hown:Own w B v L) (hseg:Seg w u M) (hb:L.length+M.length<=140737488355328) (hB:B<=w.heap.size)
  (h:∀v' w',Own w' B v' (L ++ M)->w.grownBy w' v.ownBlock->(∀k,v'.ownBlock=some k->v.ownBlock=some k\/w.heap.size<=k)->wpList Tryz.prog ops Q rest (a.put o.dst v') w'):wpList Tryz.prog ops Q (o :: rest) a w :=
 BigFrame.wpList_want hw fun _ hK=>app22_wp w s x ho B v L u M hs hx hown hseg hb hB fun v' w' h1 h2 h3=>hK _ _ (h v' w' h1 h2 h3)
theorem seg_str {w:World}{v:Value}{L:List UInt8}(h:Seg w v L):(convert 41 9 v).run Tryz.prog w=.ok (.string ⟨L.toArray⟩) w:=by
 have hs:=h
 obtain ⟨ao,cap,rfl,h1,h2,h3,h4⟩:=h
 cases ao with
 | none =>
  have hL:L=[]:=List.eq_nil_of_length_eq_zero (by have:=h3 rfl;omega)
  subst hL
  rw [run_convert_bytes_nil w 41 5 Tryz.underlying41 Tryz.underlying5 _ _ 9 Tryz.underlying9]
  rfl
 | some ad =>
  refine run_convert_bytes_back w 41 9 5 ad cap L Tryz.underlying41 Tryz.underlying5 Tryz.underlying9 fun j hj=>?_
  exact (seg_news hs).2 j _ (by simp [BV,hj])
theorem eql22:∀(w:World) (a:Option Addr) (n c n' c':Nat),(binOp .eql 41 (.slice a n c) (.slice none n' c')).run Tryz.prog w=.ok (.bool a.isNone) w:=fun w a n c n' c'=>Lib.run_eql_slice_nil w 41 5 a n c n' c' Tryz.underlying41
theorem seg_alloc {w:World}{v:Value}{L:List UInt8}(h:Seg w v L)(o:Obj):Seg (w.alloc o) v L:=h.grown (World.grownBy_alloc _ _ _)
theorem seg_lit (w:World)(C:Array Value)(fr:Nat × Nat)(L:List UInt8)(hx:C.toList=BV L)(hl:L.length<=9223372036854775807):Seg (w.alloc (.cells C 5 fr)) (.slice (some ⟨w.heap.size,0,none⟩) L.length L.length) L:=by
 refine ⟨_,L.length,rfl,Nat.le_refl _,by unfold maxLen;omega,by simp,fun j hj=>⟨w.heap.size,0,rfl,?_⟩⟩
 rw [cell_of_row _ _ _ _ _ _ (heap_alloc_new w _),Nat.zero_add,<-Array.getElem?_toList,hx]
 simp [BV,hj]
theorem clone25 (v:Value)(L:List UInt8)(w:World)(hs:Seg w v L)(hL:L.length<=140737488355328) :
  Calls Tryz.prog 107 #[v] w fun e w'=>∃u,e=.returned u/\Own w' w.heap.size u L/\w.grownBy w' none:=by
 obtain ⟨ao,cap,hsv⟩:=hs.shape
 subst hsv
 have q:=eql22
 cases ao with
 | none =>
  have hL0:L=[]:=by
   obtain ⟨ao',cap',hv,h1,_,h3,_⟩:=hs
   simp at hv
   have:=h3 hv.1.symm
   exact List.eq_nil_of_length_eq_zero (by omega)
  subst hL0
  clear hL hs
  go_enter Tryz.func107,Tryz.ntmps107
  go_wp2
  go_ret
  exact ⟨_,rfl,Own.nil _ _,grown_refl _ _⟩
 | some ad =>
  have HS:Hid _:=hs
  have HL:Hid _:=hL
  clear hs hL
  go_enter Tryz.func107,Tryz.ntmps107
  go_wp2_with (at_builtin;refine app22 _ rfl _ _ rfl w.heap.size _ [] _ L rfl rfl (own_empty w) (seg_alloc HS.out _) ?c0 ?c1 ?_)
  case c0=>have:=HL.out;simpa using this
  case c1=>simp
  intro v' w1 hown hg hl
  have F:Hid _:=And.intro hown hg
  clear hown hg hl
  go_wp2_with fail
  go_ret
  obtain ⟨hown,hg⟩:=F.out
  exact ⟨_,rfl,hown,grown_new (World.grownBy_alloc w _ none) hg (by intro x hx;simp [Value.ownBlock] at hx;omega)⟩
def Lent (w:World)(B:Nat)(v:Value)(L:List UInt8):Prop:=∃g cap,v=.slice (some ⟨g,0,none⟩) L.length cap/\Own w B (.slice (some ⟨g,0,none⟩) (L.length+1) cap) (L ++ [165])
theorem Lent.same {w w':World}{B:Nat}{v:Value}{L:List UInt8}(h:Lent w B v L)(hs:∀k,v.ownBlock=some k->w'.heap[k]? = w.heap[k]?):Lent w' B v L:=by
 obtain ⟨g,cap,rfl,ho⟩:=h
 exact ⟨g,cap,rfl,ho.same fun k hk=>hs k hk⟩
theorem Lent.lt {w:World}{B:Nat}{v:Value}{L:List UInt8}(h:Lent w B v L):∀k,v.ownBlock=some k->B<=k/\k<w.heap.size:=by
 obtain ⟨g,cap,rfl,ho⟩:=h
 exact fun k hk=>ho.lt k hk
theorem Lent.mono {w:World}{B B':Nat}{v:Value}{L:List UInt8}(h:Lent w B v L)(hB:B'<=B):Lent w B' v L:=by
 obtain ⟨g,cap,rfl,ho⟩:=h
 exact ⟨g,cap,rfl,ho.mono hB⟩
theorem Lent.seg {w:World}{B:Nat}{v:Value}{L:List UInt8}(h:Lent w B v L):Seg w v L:=by
 obtain ⟨g,cap,rfl,ho⟩:=h
 have h1:Own w B (.slice (some ⟨g,0,none⟩) (L ++ [165]).length cap) (L ++ [165]):=by simpa using ho
 have h2:=(h1.take L.length (by simp)).seg
 simpa using h2
section
variable {P:Program} {ops:Array Oper} {Q:Exit->Act->World->Prop} {md:Region.Mode} {H:World->Prop} {z:Nat}
def wpHold (P:Program)(z:Nat)(H:World->Prop)(md:Region.Mode)(ops:Array Oper)(Q:Exit->Act->World->Prop):Nat->Array Bool->Act->World->Prop
 | 0,listed,a,w=>Region.ready md ops listed=[]/\Q .normal a w
 | n+1,listed,a,w=>(Region.ready md ops listed=[]->Q .normal a w) ∧
   ∀i ∈ Region.ready md ops listed,wpOp P ops Q i (fun a' w'=>(i≠z->H w')/\wpHold P z H md ops Q n (listed.setIfInBounds i true) a' w') a w
theorem wpAny_of_hold:∀(n:Nat) (listed:Array Bool) (a:Act) (w:World),wpHold P z H md ops Q n listed a w->wpAny P md ops Q n listed a w
 | 0,_,_,_,h=>h
 | n+1,_,_,_,h=>⟨h.1,fun i hi=>wpOp_mono (fun a' w' h'=>wpAny_of_hold n _ a' w' h'.2) (h.2 i hi)⟩
def waitsV (md:Region.Mode)(ops:Array Oper):Nat->Nat->Nat->Bool
 | 0,_,_=>false
 | n+1,z,i=>match ops[z]? with
  | some o=>o.after.any fun e=>Region.binds md e && (e.on==i || waitsV md ops n e.on i)
  | none=>false
def waitsH (md:Region.Mode)(ops:Array Oper)(z i:Nat):Bool:=match ops[z]? with
 | some _=>waitsV md ops ops.size z i
 | none=>true
def Shutdown (md:Region.Mode)(ops:Array Oper)(listed:Array Bool):Prop:=∀(j:Nat) (o:Oper),ops[j]? = some o->listed.getD j false=true->∀e ∈ o.after,Region.binds md e=true->listed.getD e.on false=true
def shutB (md:Region.Mode)(ops:Array Oper)(listed:Array Bool):Bool:=(List.range ops.size).all fun j=>!listed.getD j false || ((ops[j]?).map (·.after.all fun e=>!Region.binds md e || listed.getD e.on false)).getD true
theorem shutB_spec {listed:Array Bool}(h:shutB md ops listed=true):Shutdown md ops listed:=by
 intro j o hj hl e he hb
 have hjs:j<ops.size:=(Array.getElem?_eq_some_iff.1 hj).1
 have h1:=List.all_eq_true.1 h j (List.mem_range.2 hjs)
 rw [hl,hj] at h1
 simp only [Bool.not_true,Bool.false_or,Option.map_some,Option.getD_some] at h1
 have h2:=Array.all_eq_true'.1 h1 e he
 rw [hb] at h2
 simpa using h2
theorem getD_ready {listed:Array Bool}{i:Nat}(h:i ∈ Region.ready md ops listed):listed.getD i false=false:=by
 have h0:=(mem_ready.1 h).1
 rcases Nat.lt_or_ge i listed.size with h' | h'
 ·simp [h'] at h0 ⊢;exact h0
 ·simp [Array.getElem?_eq_none h']
theorem Shutdown.set {listed:Array Bool}{j:Nat}(h:Shutdown md ops listed)(hj:j ∈ Region.ready md ops listed):Shutdown md ops (listed.setIfInBounds j true):=by
 intro k o hk hl e he hb
 have q:listed.getD e.on false=true->(listed.setIfInBounds j true).getD e.on false=true:=fun hx=>by
  by_cases hje:j=e.on
  ·subst hje
   rw [getD_ready hj] at hx;cases hx
  ·rw [getD_set_ne false hje];exact hx
 by_cases hkj:j=k
 ·subst hkj
  obtain ⟨_,oj,hoj,hall⟩:=mem_ready.1 hj
  rw [hoj] at hk
  cases hk
  exact q (hall e he hb)
 ·rw [getD_set_ne false hkj] at hl
  exact q (h k o hk hl e he hb)
theorem waitsV_listed {listed:Array Bool}(hs:Shutdown md ops listed)(i:Nat):∀(n z:Nat),waitsV md ops n z i=true->(∀o,ops[z]? = some o->∀e ∈ o.after,Region.binds md e=true->listed.getD e.on false=true)->listed.getD i false=true
 | 0,_,h,_=>by cases h
 | n+1,z,h,hz=>by
  unfold waitsV at h
  cases ho:ops[z]? with
  | none=>rw [ho] at h;cases h
  | some o =>
   rw [ho] at h
   obtain ⟨e,he,h1⟩:=Array.any_eq_true'.1 h
   simp only [Bool.and_eq_true,Bool.or_eq_true,beq_iff_eq] at h1
   have hl:=hz o ho e he h1.1
   rcases h1.2 with h2 | h2
   ·rw [<-h2];exact hl
   ·exact waitsV_listed hs i n e.on h2 (fun o' ho' e' he' hb'=>hs e.on o' ho' hl e' he' hb')
theorem waitsH_not {i j:Nat}{listed:Array Bool}(hs:Shutdown md ops listed)(hw:waitsH md ops z i=true)(hi:i ∈ Region.ready md ops listed)(hj:j ∈ Region.ready md ops listed):j≠z:=by
 rintro rfl
 obtain ⟨_,oj,hoj,hall⟩:=mem_ready.1 hj
 unfold waitsH at hw
 rw [hoj] at hw
 have h1:=waitsV_listed hs i _ j hw (fun o ho e he hb=>by rw [hoj] at ho;cases ho;exact hall e he hb)
 rw [getD_ready hi] at h1
 cases h1
theorem wpHold_first {i:Nat}{oi:Oper}{v:Value}(hi:ops[i]? = some oi)(hsel:∀(j:Nat) (o:Oper) cs b,ops[j]? = some o->o.op≠.select cs b)
  (hz:waitsH md ops z i=true)
  (hQ:∀c a w,Q (.panic c) (a.put oi.dst v) w->Q (.panic c) a w) :
  ∀(n:Nat) (listed:Array Bool) (a:Act) (w:World),Shutdown md ops listed->H w →
   (∀j oj,ops[j]? = some oj->j≠i->listed.getD j true=false->(∀e ∈ oj.after,Region.binds md e=true->e.on≠i)->oi.apart ops oj=true) →
   i ∈ Region.ready md ops listed->YieldsIf P ops H oi v a →
   wpHold P z H md ops Q n (listed.setIfInBounds i true) (a.put oi.dst v) w->wpHold P z H md ops Q (n+1) listed a w:=by
 intro n
 induction n with
 | zero =>
  intro listed a w _ hH _ hr hy W
  refine ⟨fun h=>(by rw [h] at hr;cases hr),fun j hj=>?_⟩
  by_cases hji:j=i
  ·subst hji;exact hy.wpOp hi hH ⟨fun _=>hH,W⟩
  ·have h0:=ready_mono hj hji
   rw [W.1] at h0
   cases h0
 | succ n ih =>
  intro listed a w hsd hH hfree hr hy W
  refine ⟨fun h=>(by rw [h] at hr;cases hr),fun j hj=>?_⟩
  by_cases hji:j=i
  ·subst hji;exact hy.wpOp hi hH ⟨fun _=>hH,W⟩
  ·have h1:=W.2 j (ready_mono hj hji)
   obtain ⟨hjun,oj,hoj,hall⟩:=mem_ready.1 hj
   have hnot:∀e ∈ oj.after,Region.binds md e=true->e.on≠i:=fun e he hb heq=>by
    have h2:=hall e he hb
    have h0:=(mem_ready.1 hr).1
    rw [heq] at h2
    rcases Nat.lt_or_ge i listed.size with h' | h'
    ·simp [h'] at h0 h2;rw [h0] at h2;cases h2
    ·simp [Array.getElem?_eq_none h'] at h2
   have h2:=wpOp_putIf hoj (hfree j oj hoj hji hjun hnot) (fun cs b=>hsel i oi cs b hi) (fun cs b=>hsel j oj cs b hoj) hQ hy h1
   have hfree':∀k ok,ops[k]? = some ok->k≠i->(listed.setIfInBounds j true).getD k true=false →
     (∀e ∈ ok.after,Region.binds md e=true->e.on≠i)->oi.apart ops ok=true:=fun k ok hk hki hun hno=>by
    refine hfree k ok hk hki ?_ hno
    by_cases hjk:j=k
    ·subst hjk;exact hjun
    ·rw [getD_set_ne true hjk] at hun;exact hun
   have hjz:j≠z:=waitsH_not hsd hz hr hj
   refine wpOp_mono (fun a' w' h3=>⟨h3.2.1,ih (listed.setIfInBounds j true) a' w' (hsd.set hj) (h3.2.1 hjz) hfree' (ready_mono hr (Ne.symm hji)) h3.1 ?_⟩) h2
   rw [Array.setIfInBounds_comm _ _ hji]
   exact h3.2.2
theorem get_of_dropH {i:Nat}{oi:Oper}{l:List Oper}(h:ops.toList.drop i=oi :: l):ops[i]? = some oi:=by
 have h1:(ops.toList.drop i)[0]? = some oi:=by rw [h];rfl
 rw [List.getElem?_drop] at h1
 simpa using h1
theorem wpHold_take {i:Nat}{oi:Oper}{l:List Oper}{d:Option Tmp}{v:Value}{n:Nat}{listed:Array Bool}{a:Act}{w:World}(hH:H w)(hi:ops.toList.drop i=oi :: l)(hd:oi.dst=d)
  (hs:Region.noSelect ops=true) (hz:waitsH md ops z i=true) (hsd:shutB md ops listed=true) (hf:Region.free md ops listed i=true) (hr:(Region.ready md ops listed).contains i=true)
  (hQ:∀c a w,Q (.panic c) (a.put d v) w->Q (.panic c) a w) (hw:Region.wanted oi (yielded ops a.tmps)=true) (hy:∀x:World,H x->(execOp a.eval oi).run P x=.ok (.value v) x)
  (h:wpHold P z H md ops Q n (listed.setIfInBounds i true) (a.put d v) w):wpHold P z H md ops Q (n+1) listed a w:=by
 subst hd
 exact wpHold_first (get_of_dropH hi) (Region.noSelect_spec hs) hz hQ n listed a w (shutB_spec hsd) hH (Region.free_spec (get_of_dropH hi) hf) (by simpa using hr) (.inl ⟨hw,hy⟩) h
def Idx (_:List Nat):Prop:=True
theorem Idx.tl {i:Nat}{l:List Nat}(_:Idx (i :: l)):Idx l:=trivial
theorem tK {i:Nat}{l':List Nat}(_:Idx (i :: l')){oi:Oper}{l:List Oper}{d:Option Tmp}{v:Value}{n:Nat}{listed:Array Bool}{a:Act}{w:World}(hH:H w)(hi:ops.toList.drop i=oi :: l)(hd:oi.dst=d)
  (hy:∀x:World,H x->(execOp a.eval oi).run P x=.ok (.value v) x)
  (h:wpHold P z H md ops Q n (listed.setIfInBounds i true) (a.put d v) w)
  (hs:Region.noSelect ops=true:=by kernel_rfl) (hz:waitsH md ops z i=true:=by kernel_rfl) (hsd:shutB md ops listed=true:=by kernel_rfl) (hf:Region.free md ops listed i=true:=by kernel_rfl) (hr:(Region.ready md ops listed).contains i=true:=by kernel_rfl)
  (hQ:∀c a w,Q (.panic c) (a.put d v) w->Q (.panic c) a w:=by exact fun _ _ _ h=>h) (hw:Region.wanted oi (yielded ops a.tmps)=true:=by rfl):wpHold P z H md ops Q (n+1) listed a w:=wpHold_take hH hi hd hs hz hsd hf hr hQ hw hy h
theorem sk {i:Nat}{l':List Nat}(_:Idx (i :: l')){oi:Oper}{l:List Oper}{d:Option Tmp}{n:Nat}{listed:Array Bool}{a:Act}{w:World}(hH:H w)(hi:ops.toList.drop i=oi :: l)(hd:oi.dst=d)
  (h:wpHold P z H md ops Q n (listed.setIfInBounds i true) (a.put d undef) w)
  (hs:Region.noSelect ops=true:=by kernel_rfl) (hz:waitsH md ops z i=true:=by kernel_rfl) (hsd:shutB md ops listed=true:=by kernel_rfl) (hf:Region.free md ops listed i=true:=by kernel_rfl) (hr:(Region.ready md ops listed).contains i=true:=by kernel_rfl)
  (hQ:∀c a w,Q (.panic c) (a.put d undef) w->Q (.panic c) a w:=by exact fun _ _ _ h=>h) (hw:Region.wanted oi (yielded ops a.tmps)=false:=by rfl):wpHold P z H md ops Q (n+1) listed a w:=by
 subst hd
 exact wpHold_first (v:=undef) (get_of_dropH hi) (Region.noSelect_spec hs) hz hQ n listed a w (shutB_spec hsd) hH (Region.free_spec (get_of_dropH hi) hf) (by simpa using hr) (.inr ⟨hw,rfl⟩) h
theorem pN:(∀(a:Act) (d:Tmp) (v:Value),a.put (some d) v={ a with tmps:=a.tmps.setIfInBounds d v })/\(∀(a:Act) (v:Value),a.put none v=a)/\(∀(l:List Value) (i:Nat) (v:Value),l.toArray.setIfInBounds i v=(l.set i v).toArray)/\(∀(x:Value) (l:List Value) (v:Value),(x :: l).set 0 v=v :: l)/\(∀(x:Value) (l:List Value) (i:Nat) (v:Value),(x :: l).set (i+1) v=x :: l.set i v):=⟨fun _ _ _=>rfl,fun _ _=>rfl,fun _ _ _=>by simp,fun _ _ _=>rfl,fun _ _ _ _=>rfl⟩
theorem wpHold_one {i:Nat}{oi:Oper}{l:List Oper}{n:Nat}{listed:Array Bool}{a:Act}{w:World}(hi:ops.toList.drop i=oi :: l)(hr:Region.ready md ops listed=[i])(hw:Region.wanted oi (yielded ops a.tmps)=true)
  (h:∀K:Act->World->Prop,Shut (∀a' w',(i≠z->H w')->wpHold P z H md ops Q n (listed.setIfInBounds i true) a' w'->K a' w')->Oper.wp P oi a w K Q):wpHold P z H md ops Q (n+1) listed a w:=by
 refine ⟨fun h0=>(by rw [hr] at h0;cases h0),fun j hj=>?_⟩
 rw [hr] at hj
 have e:j=i:=by simpa using hj
 subst e
 refine wpOp_step (get_of_dropH hi) fun K hK=>?_
 rw [if_pos hw]
 exact h K fun a' w' h1 h2=>hK a' w' ⟨h1,h2⟩
theorem wpHold_done {n:Nat}{listed:Array Bool}{a:Act}{w:World}(hr:Region.ready md ops listed=[])(h:Q .normal a w):wpHold P z H md ops Q n listed a w:=by
 cases n with
 | zero=>exact ⟨hr,h⟩
 | succ n=>exact ⟨fun _=>h,by rw [hr];simp⟩
theorem wp_region_hold (z:Nat)(H:World->Prop){id:Nat}{a:Act}{w:World}(hm:P.follows .mixedOrders=true)(h:wpHold P z H .any ops Q ops.size (Array.replicate ops.size false) a w.drew):(Code.region id ops true).wp P Q a w :=
 wp_region_any hm (wpAny_of_hold _ _ _ _ h)
end
end Go.Proofs.YtanoabliahcbeaaGreat.Disk
