import Derived.Test.YtncbdhdfemidlaaGreatOabAll
namespace Go.Proofs.YtncbdhdfemidlaaGreat
open Go.RowKit Disk
open _root_.Go.Proofs.YtncbdhdfemidlaaGreat.Calls _root_.Go.Proofs.YtncbdhdfemidlaaGreat.Command
structure MsAt (w:World)(b p:Nat)(ov av:Value)(m:PMsg):Prop where
 c0:w.cell? ⟨b,p+0,none⟩=some (.int .i64 m.kind)
 c1:w.cell? ⟨b,p+1,none⟩=some (.int .i64 m.client)
 c2:w.cell? ⟨b,p+2,none⟩=some (.int .i64 m.ask.kind)
 c3:w.cell? ⟨b,p+3,none⟩=some (.int .i64 m.ask.token)
 c4:w.cell? ⟨b,p+4,none⟩=some (.int .i64 m.ask.session)
 c5:w.cell? ⟨b,p+5,none⟩=some (.int .i64 m.ask.number)
 c6:w.cell? ⟨b,p+6,none⟩=some (.int .i64 m.ask.mark)
 c7:w.cell? ⟨b,p+7,none⟩=some (ov)
 c8:w.cell? ⟨b,p+8,none⟩=some (.int .i64 m.tell.kind)
 c9:w.cell? ⟨b,p+9,none⟩=some (.int .i64 m.tell.token)
 c10:w.cell? ⟨b,p+10,none⟩=some (.int .i64 m.tell.session)
 c11:w.cell? ⟨b,p+11,none⟩=some (.int .i64 m.tell.number)
 c12:w.cell? ⟨b,p+12,none⟩=some (av)
theorem MsAt.grown {w w':World}{b p:Nat}{ov av:Value}{m:PMsg}(h:MsAt w b p ov av m)(hg:w.grownBy w' none):MsAt w' b p ov av m :=
 ⟨hg.cell h.c0 (by simp),hg.cell h.c1 (by simp),hg.cell h.c2 (by simp),hg.cell h.c3 (by simp),hg.cell h.c4 (by simp),hg.cell h.c5 (by simp),hg.cell h.c6 (by simp),hg.cell h.c7 (by simp),hg.cell h.c8 (by simp),hg.cell h.c9 (by simp),hg.cell h.c10 (by simp),hg.cell h.c11 (by simp),hg.cell h.c12 (by simp)⟩
structure GoodM (m:PMsg):Prop where
 inm:InM m
 fit:Fit m.ask.ops
 len:m.tell.answer.length<=140737488351232
def Msgs (w:World)(v:Value)(l:List PMsg):Prop :=
 ∃ao cap,v=.slice ao l.length cap/\l.length<=1034834473200/\∀j (hj:j<l.length),∃b off ov av,ao=some ⟨b,off,none⟩/\MsAt w b (off+j*13) ov av l[j]/\Ops w ov l[j].ask.ops/\Seg w av l[j].tell.answer
theorem Msgs.grown {w w':World}{v:Value}{l:List PMsg}(h:Msgs w v l)(hg:w.grownBy w' none):Msgs w' v l:=by
 obtain ⟨ao,cap,e,hl,h⟩:=h
 refine ⟨ao,cap,e,hl,fun j hj=>?_⟩
 obtain ⟨b,off,ov,av,e,h1,h2,h3⟩:=h j hj
 exact ⟨b,off,ov,av,e,h1.grown hg,h2.grown hg,h3.grown hg⟩
theorem msgs_open {w:World}{v:Value}{l:List PMsg}(h:Msgs w v l):∃ao n cap,v=.slice ao n cap/\l.length=n/\n<=1034834473200/\Hid (Msgs w (.slice ao n cap) l):=by
 obtain ⟨ao,cap,e,hl,h'⟩:=id h
 exact ⟨ao,_,cap,e,rfl,hl,by rw [<-e];exact h⟩
theorem msgs_at {w:World}{ao:Option Addr}{n cap:Nat}{l:List PMsg}(h:Msgs w (.slice ao n cap) l)(j:Nat)(hj:j<l.length):∃b off o1 o2 o3 a1 a2 a3,ao=some ⟨b,off,none⟩/\MsAt w b (off+j*13) (.slice o1 o2 o3) (.slice a1 a2 a3) l[j]/\Ops w (.slice o1 o2 o3) l[j].ask.ops/\Seg w (.slice a1 a2 a3) l[j].tell.answer:=by
 obtain ⟨ao',cap',e,_,h⟩:=h
 obtain ⟨b,off,ov,av,e2,h1,h2,h3⟩:=h j hj
 obtain ⟨o1,o2,o3,rfl⟩:=isSl_ops h2
 obtain ⟨a1,a2,a3,rfl⟩:=isSl_seg h3
 simp at e
 exact ⟨b,off,o1,o2,o3,a1,a2,a3,e.1.trans e2,h1,h2,h3⟩
def MsR (B:Nat)(w:World)(x:List Value)(m:PMsg):Prop:=∃ov av,x=[.int .i64 m.kind,.int .i64 m.client,.int .i64 m.ask.kind,.int .i64 m.ask.token,.int .i64 m.ask.session,.int .i64 m.ask.number,.int .i64 m.ask.mark,ov,.int .i64 m.tell.kind,.int .i64 m.tell.token,.int .i64 m.tell.session,.int .i64 m.tell.number,av]/\OpsOwn w B ov m.ask.ops/\Own w B av m.tell.answer
theorem msR_stab (B:Nat):Stab (fun t=>t=5\/t=116) (MsR B):=by
 refine ⟨fun w w' vs x h hg=>?_,fun w w' vs x g t cur h hb ht hg=>?_⟩
 ·obtain ⟨ov,av,e,h1,h2⟩:=h
  exact ⟨ov,av,e,h1.grown hg,h2.grown hg⟩
 ·obtain ⟨ov,av,e,h1,h2⟩:=h
  exact ⟨ov,av,e,h1.set hb (fun h=>ht (.inr h)) (fun h=>ht (.inl h)) hg,own_set h2 hb (fun h=>ht (.inl h)) hg⟩
def MsgsOwn (w:World)(B:Nat)(v:Value)(l:List PMsg):Prop:=LRow 34 13 (MsR B) w B v l/\l.length<=1034834473200
theorem MsgsOwn.grown {w w':World}{B:Nat}{v:Value}{l:List PMsg}(h:MsgsOwn w B v l)(hg:w.grownBy w' none):MsgsOwn w' B v l:=⟨h.1.grown (msR_stab B) hg,h.2⟩
theorem MsgsOwn.set {w w':World}{B x t':Nat}{v:Value}{l:List PMsg}{cc:Array Value}(h:MsgsOwn w B v l)(hx:Blk w x t' cc)(h1:t'≠34)(h2:t'≠5)(h3:t'≠116)(hg:w.grownBy w' (some x)):MsgsOwn w' B v l:=⟨h.1.set (msR_stab B) hx h1 (fun e=>by rcases e with e | e;exact h2 e;exact h3 e) hg,h.2⟩
theorem MsgsOwn.slice {w:World}{B:Nat}{v:Value}{l:List PMsg}(h:MsgsOwn w B v l):∃x n y,v=.slice x n y/\n=l.length:=by obtain ⟨x,y,e⟩:=h.1.shape;exact ⟨x,_,y,e,rfl⟩
theorem MsgsOwn.far {w w':World}{B g:Nat}{v:Value}{l:List PMsg}(h:MsgsOwn w B v l)(hg:w.grownBy w' (some g))(hB:g<B):MsgsOwn w' B v l:=by
 obtain ⟨⟨vs,h1,h2,h3,h4⟩,hl⟩:=h
 refine ⟨⟨vs,h1.kept hg ?_,h2,h3,fun j hj hj'=>?_⟩,hl⟩
 ·cases hv:v.ownBlock with
  | none=>simp
  | some k =>
   refine .inr fun e=>?_
   have:=(World.ownsRow.lt h1 k hv).1
   simp at e
   omega
 ·obtain ⟨ov,av,e,h5,h6⟩:=h4 j hj hj'
  exact ⟨ov,av,e,opsOwn_far h5 hg hB,own_far h6 hg hB⟩
theorem MsgsOwn.msgs {w:World}{B:Nat}{v:Value}{l:List PMsg}(h:MsgsOwn w B v l):Msgs w v l:=by
 obtain ⟨h,hl⟩:=h
 obtain ⟨x,y,e⟩:=h.shape
 refine ⟨x,y,e,hl,fun j hj=>?_⟩
 obtain ⟨g,cap,cs,e2,hlen,⟨ov,av,rfl,h1,h2⟩,_,_,hc⟩:=h.cell j hj
 rw [e] at e2
 simp at e2
 refine ⟨g,0,ov,av,e2.1,?_,OpsOwn.ops h1,h2.seg⟩
 rw [Nat.zero_add]
 exact ⟨hc 0 (by omega),hc 1 (by omega),hc 2 (by omega),hc 3 (by omega),hc 4 (by omega),hc 5 (by omega),hc 6 (by omega),hc 7 (by omega),hc 8 (by omega),hc 9 (by omega),hc 10 (by omega),hc 11 (by omega),hc 12 (by omega)⟩
theorem Tryz.info34:(Tryz.prog.info? 34).map (fun i=>(i.zero,i.size,i.bytes))=some (some (.agg #[.int .i64 0,.int .i64 0,.int .i64 0,.int .i64 0,.int .i64 0,.int .i64 0,.int .i64 0,.slice none 0 0,.int .i64 0,.int .i64 0,.int .i64 0,.int .i64 0,.slice none 0 0]),13,136):=by kernel_rfl
def setAll:List Value->Nat->List Value->List Value
 | l,_,[]=>l
 | l,p,y :: ys=>setAll (l.set p y) (p+1) ys
def setCs (g:Nat):World->Nat->List Value->World
 | w,_,[]=>w
 | w,p,y :: ys=>setCs g (w.setCell ⟨g,p,none⟩ y) (p+1) ys
theorem setAll_mid (a x y b:List Value)(h:x.length=y.length):setAll (a ++ (y ++ b)) a.length x=a ++ (x ++ b):=by
 induction x generalizing a y with
 | nil =>
  have:y=[]:=List.length_eq_zero_iff.mp h.symm
  subst this
  rfl
 | cons c x ih =>
  cases y with
  | nil=>simp at h
  | cons d y =>
   simp at h
   have e:(a ++ (d :: y ++ b)).set a.length c=(a ++ [c]) ++ (y ++ b):=by simp
   have i:=ih (a ++ [c]) y h
   rw [show (a ++ [c]).length=a.length+1 by simp] at i
   show setAll ((a ++ (d :: y ++ b)).set a.length c) (a.length+1) x=_
   rw [e,i]
   simp
theorem flat_len13 {c:Nat}(vs:List (List Value))(h:∀x ∈ vs,x.length=c):vs.flatten.length=vs.length*c:=by
 induction vs with
 | nil=>simp
 | cons x vs ih =>
  rw [List.flatten_cons,List.length_append,ih fun y hy=>h y (by simp [hy]),h x (by simp),List.length_cons,Nat.add_mul]
  omega
theorem setAll_flat {c:Nat}(vs:List (List Value))(h:∀x ∈ vs,x.length=c)(j:Nat)(hj:j<vs.length)(x:List Value)(hx:x.length=c):setAll vs.flatten (j*c) x=(vs.set j x).flatten:=by
 have e1:vs.flatten=(vs.take j).flatten ++ (vs[j] ++ (vs.drop (j+1)).flatten):=by
  conv=>lhs;rw [<-List.take_append_drop j vs,List.drop_eq_getElem_cons hj]
  rw [List.flatten_append,List.flatten_cons]
 have e2:(vs.set j x).flatten=(vs.take j).flatten ++ (x ++ (vs.drop (j+1)).flatten):=by
  rw [List.set_eq_take_append_cons_drop,if_pos hj]
  simp
 have e3:j*c=(vs.take j).flatten.length:=by
  rw [flat_len13 _ fun y hy=>h y (List.mem_of_mem_take hy),List.length_take,Nat.min_eq_left (by omega)]
 rw [e1,e2,e3]
 exact setAll_mid _ _ _ _ (by rw [hx,h _ (List.getElem_mem hj)])
theorem owns_setCs {B e s g n cap:Nat}(ys:List Value):∀(w:World) (p:Nat) (xs:List Value),w.ownsRow B e s (.slice (some ⟨g,0,none⟩) n cap) n xs->(setCs g w p ys).ownsRow B e s (.slice (some ⟨g,0,none⟩) n cap) n (setAll xs p ys)/\w.grownBy (setCs g w p ys) (some g):=by
 induction ys with
 | nil=>exact fun w p xs h=>⟨h,grown_refl _ _⟩
 | cons y ys ih =>
  intro w p xs h
  obtain ⟨h1,h2⟩:=h.stored p y
  obtain ⟨h3,h4⟩:=ih _ (p+1) _ h1
  exact ⟨h3,grown_trans h2 h4⟩
theorem lrow_put {α:Type}{t c:Nat}{R:World->List Value->α->Prop}{T:Nat->Prop}{w:World}{B g n cap:Nat}{l:List α}(h:LRow t c R w B (.slice (some ⟨g,0,none⟩) n cap) l)(hs:Stab T R)(hT:¬T t)(j:Nat)(hj:j<l.length)(x:List Value)(a:α)(hx:x.length=c)(ha:R w x a) :
  LRow t c R (setCs g w (j*c) x) B (.slice (some ⟨g,0,none⟩) n cap) (l.set j a)/\w.grownBy (setCs g w (j*c) x) (some g):=by
 have hn:n=l.length:=by obtain ⟨x,y,e⟩:=h.shape;simp at e;exact e.2.1
 subst hn
 obtain ⟨vs,h1,h2,h3,h4⟩:=h
 obtain ⟨cur,hb⟩:=owns_blk h1 (k:=g) rfl
 obtain ⟨k1,k2⟩:=owns_setCs (g:=g) x w (j*c) _ h1
 have keep:∀{y b},R w y b->R (setCs g w (j*c) x) y b:=fun hy=>hs.2 _ _ _ _ _ _ _ hy hb hT k2
 refine ⟨⟨vs.set j x,?_,by simp [h2],?_,fun i hi hi'=>?_⟩,k2⟩
 ·rw [setAll_flat vs h3 j (by omega) x hx] at k1
  simpa using k1
 ·intro y hy
  rcases List.mem_or_eq_of_mem_set hy with hy | rfl
  ·exact h3 y hy
  ·exact hx
 ·by_cases e:j=i
  ·subst e
   simpa using keep ha
  ·rw [List.getElem_set_ne e,List.getElem_set_ne e]
   exact keep (h4 i (by simpa using hi) (by simpa using hi'))
theorem msgsOwn_put {w:World}{B g n cap:Nat}{l:List PMsg}(h:MsgsOwn w B (.slice (some ⟨g,0,none⟩) n cap) l)(j:Nat)(hj:j<l.length)(ov av:Value)(m:PMsg)(ho:OpsOwn w B ov m.ask.ops)(ha:Own w B av m.tell.answer) :
  ∃W,setCs g w (j*13) [.int .i64 m.kind,.int .i64 m.client,.int .i64 m.ask.kind,.int .i64 m.ask.token,.int .i64 m.ask.session,.int .i64 m.ask.number,.int .i64 m.ask.mark,ov,.int .i64 m.tell.kind,.int .i64 m.tell.token,.int .i64 m.tell.session,.int .i64 m.tell.number,av]=W/\Hid (MsgsOwn W B (.slice (some ⟨g,0,none⟩) n cap) (l.set j m)/\w.grownBy W (some g)):=by
 obtain ⟨h1,h2⟩:=lrow_put h.1 (msR_stab B) (by decide) j hj _ m rfl ⟨ov,av,rfl,ho,ha⟩
 exact ⟨_,rfl,⟨h1,by simpa using h.2⟩,h2⟩
theorem msgsOwn_free {w:World}{B g n cap:Nat}{l:List PMsg}(h:MsgsOwn w B (.slice (some ⟨g,0,none⟩) n cap) l)(k:Nat):w.frozen? ⟨g,k,none⟩=false:=by
 obtain ⟨⟨vs,h1,_⟩,_⟩:=h
 rcases h1.2 with ⟨h',_⟩ | ⟨g',cap',cur,h',_,hg,_⟩
 ·simp at h'
 ·simp only [Value.slice.injEq,Option.some.injEq,Addr.mk.injEq,and_true] at h'
  obtain ⟨rfl,_,rfl⟩:=h'
  exact frozen_of_row w g k cur 34 hg
theorem made_flat (z:List Value)(hz:0<z.length)(n:Nat):(madeCells z.toArray (n*z.length)).toList=(List.replicate n z).flatten:=by
 apply List.ext_getElem?
 intro k
 by_cases hk:k<n*z.length
 ·have hj:k / z.length<n:=by
   rw [Nat.div_lt_iff_lt_mul hz];exact hk
  have hm:=Nat.mod_lt k hz
  have e:k=k / z.length*z.length+k % z.length:=by rw [Nat.mul_comm];exact (Nat.div_add_mod k z.length).symm
  have f:=flatten_get (List.replicate n z) (k / z.length) (k % z.length) (c:=z.length) (by simp +contextual) (by simpa using hj) hm
  rw [<-e] at f
  rw [f]
  simp [madeCells,hk,hm]
 ·have h1:(List.replicate n z).flatten.length=n*z.length:=by simp
  rw [List.getElem?_eq_none (by simp [madeCells];omega),List.getElem?_eq_none (by omega)]
theorem make54 (n:Nat)(x:Int)(hx:x=(n:Int))(hn:n<=1034834473200)(w:World):∃W,(Instr.makeSlice 54 (.int .i64 x) (.int .i64 x)).run Tryz.prog w=.ok (.slice (some ⟨w.heap.size,0,none⟩) n n) W/\Hid (MsgsOwn W w.heap.size (.slice (some ⟨w.heap.size,0,none⟩) n n) (List.replicate n zeroM)/\w.grownBy W none):=by
 subst hx
 obtain ⟨i0,hi,hz0,hz1,hz2⟩:=info_parts Tryz.info34
 obtain ⟨W,h1,h2,h3⟩:=run_make_full (P:=Tryz.prog) w w.heap.size 54 34 i0 _ 13 Tryz.underlying54 hi hz0 hz1 .i64 .i64 n (by rw [hz2];omega) (by simp [maxLen];omega) (Nat.le_refl _)
 refine ⟨W,h1,⟨⟨List.replicate n [.int .i64 0,.int .i64 0,.int .i64 0,.int .i64 0,.int .i64 0,.int .i64 0,.int .i64 0,.slice none 0 0,.int .i64 0,.int .i64 0,.int .i64 0,.int .i64 0,.slice none 0 0],?_,by simp,by simp +contextual,fun j hj hj'=>?_⟩,by simpa using hn⟩,h3⟩
 ·have e:=made_flat [.int .i64 0,.int .i64 0,.int .i64 0,.int .i64 0,.int .i64 0,.int .i64 0,.int .i64 0,.slice none 0 0,.int .i64 0,.int .i64 0,.int .i64 0,.int .i64 0,.slice none 0 0] (by simp) n
  rw [<-e,List.length_replicate]
  exact h2
 ·simp only [List.getElem_replicate]
  exact ⟨_,_,rfl,opsOwn_nil _ _,own_nil _ _⟩
end Go.Proofs.YtncbdhdfemidlaaGreat
