import Derived.Test.YtanoabliahcbeaaGreatKstAll
set_option maxHeartbeats 2000000
set_option maxRecDepth 100000
namespace Go.Proofs.YtanoabliahcbeaaGreat.Wn
open Go.RowKit Disk Table
open _root_.Go.Proofs.YtanoabliahcbeaaGreat.Calls _root_.Go.Proofs.YtanoabliahcbeaaGreat.Command
variable {Q F:Nat->Prop} {w w':World} {b:Nat} {oa wo:Option Addr} {wc:Nat} {s:CS}
theorem Okc.id (h:Okc s)(hl:s.last<1000000000000):Okc s.id:=by
 refine ⟨h.num,h.size,h.most,h.tmo,h.tok,h.askAt,h.ses,h.none,?_,h.now,h.few,h.call,h.wait⟩
 have:=h.last
 simp only [CS.id]
 omega
def InvP (Q F:Nat->Prop)(b:Nat)(s:CS)(ops:List POp)(w:World)(e:Ending)(w':World):Prop:=e=.returned (.tuple #[.int .i64 (s.last+1),.int .i64 (openW s ops)])/\∃s',((openW s ops=0/\∃o n c,s'=s.id.put ⟨s.last+1,o,n,c,ops,false,0⟩)\/(openW s ops≠0/\s'=s.id))/\Stp Q F w b s' w'
theorem invoke9 (w:World)(ov:Value)(ops:List POp)(h:Cm Q F w b oa wo wc s)(ho:∀y,Fr w y F->Ops y ov ops)(hlast:s.last<1000000000000):Calls Tryz.prog 9 #[.pointer (some ⟨b,0,none⟩),.agg #[ov]] w (InvP Q F b s ops w):=by
 obtain ⟨ao,an,ac,rfl⟩:=isSl_ops (ho w (Fr.of (grown_refl w none) (by simp)))
 have HC:Hid (Cm Q F w b oa wo wc s/\(∀y,Fr w y F->Ops y (.slice ao an ac) ops)/\s.last<1000000000000):=⟨h,ho,hlast⟩
 have d1:IntKind.i64.wrap (s.last+1)=s.last+1:=by have:=h.ok.last;rw [IntKind.wrap_i64];omega
 clear h ho hlast
 go_enter Tryz.func9,Tryz.ntmps9
 go_upto_region 1 with fail
 obtain ⟨w1,hw1,H1⟩:=al1 w #[.slice ao an ac] 35
 rw [hw1]
 clear hw1
 obtain ⟨x3,hx3⟩:∃x,w.heap.size=x:=⟨_,rfl⟩
 rw [hx3] at H1 ⊢
 have HX:Hid (w.heap.size=x3):=hx3
 clear hx3
 have C1:=HC.out.1.grown H1.out.2.1
 have c10:w1.cell? ⟨b,10,none⟩=some (.int .i64 s.last):=C1.blk.cell 10
 have f10:=C1.blk.free 10
 have HB:Hid (Cm Q F (w1.setCell ⟨b,10,none⟩ (.int .i64 (s.last+1))) b oa wo wc s.id/\w.grownBy (w1.setCell ⟨b,10,none⟩ (.int .i64 (s.last+1))) (some b)/\Blk (w1.setCell ⟨b,10,none⟩ (.int .i64 (s.last+1))) x3 35 #[.slice ao an ac]/\Ops (w1.setCell ⟨b,10,none⟩ (.int .i64 (s.last+1))) (.slice ao an ac) ops):=by
  have gs:=grown_setCell w1 b 10 (.int .i64 (s.last+1))
  refine ⟨C1.put gs (C1.blk.store 10 _) rfl rfl rfl rfl (HC.out.1.ok.id HC.out.2.2),grown_trans (grown_mono H1.out.2.1) gs,H1.out.1.grown gs ?_,?_⟩
  ·have:=HC.out.1.blk.lt
   have:=HX.out
   simp
   omega
  ·refine HC.out.2.1 _ (Fr.of (grown_trans (grown_mono H1.out.2.1) gs) fun k hk=>?_)
   simp at hk
   exact hk ▸ HC.out.1.fb
 clear C1
 go_wp2_with fail
 refine (there_cl w1 (HC.out.1.grown H1.out.2.1)).mono ?_
 rintro e w2 ⟨rfl,rfl⟩
 go_upto_region 4 with fail
 generalize w2.setCell ⟨b,10,none⟩ (.int .i64 (s.last+1))=w3 at HB ⊢
 clear c10 f10 d1
 have q0:=HB.out.2.2.1.cell 0
 simp at q0
 go_wp2_with fail
 refine (open31 w3 (.slice ao an ac) ops HB.out.1 HB.out.2.2.2 (by have:=HC.out.1.ok.last;simp only [CS.id];omega)).mono ?_
 rintro e w4 ⟨rfl,s',hs',Q1,F1,⟨oa1,wo1,wc1,hc⟩,hf,hF,hQ⟩
 have e1:openW s.id ops=openW s ops:=rfl
 rw [e1] at hs' ⊢
 have hl:s'.last=s.last+1:=by
  rcases hs' with ⟨_,o,n,c,rfl⟩ | ⟨_,rfl⟩ <;> rfl
 have k10:w4.cell? ⟨b,10,none⟩=some (.int .i64 (s.last+1)):=by rw [<-hl];exact hc.blk.cell 10
 have HF:Hid (((openW s ops=0/\∃o n c,s'=s.id.put ⟨s.last+1,o,n,c,ops,false,0⟩)\/(openW s ops≠0/\s'=s.id))/\Stp Q F w b s' w4):=by
  refine ⟨hs',Stp.to (Fr.of HB.out.2.1 fun k hk=>?_) (fun i hi=>.inl hi) (fun i hi=>.inl hi) ⟨Q1,F1,⟨_,_,_,hc⟩,hf,hF,hQ⟩⟩
  simp at hk
  exact hk ▸ HC.out.1.fb
 obtain ⟨oc,hoc⟩:∃x,openW s ops=x:=⟨_,rfl⟩
 have HOC:Hid (openW s ops=oc):=hoc
 rw [hoc]
 clear hs' hc hf hF hQ hl e1 q0 hoc
 go_wp2_with fail
 go_ret2
 unfold InvP
 rw [HOC.out] at HF ⊢
 exact ⟨rfl,s',HF.out⟩
variable {Q F:Nat->Prop} {w w':World} {b:Nat} {oa wo:Option Addr} {wc:Nat} {s:CS}
def SeR:World->List Value->PSent->Prop:=fun _ x p=>x=[.int .i64 p.id,.int .i64 p.number,.int .i64 p.tm]
theorem seR_stab:Stab (fun _=>False) SeR:=⟨fun _ _ _ _ h _=>h,fun _ _ _ _ _ _ _ h _ _ _=>h⟩
def Sents (w:World)(B:Nat)(v:Value)(l:List PSent):Prop:=LRow 113 3 SeR w B v l
theorem Sents.grown {w w':World}{B:Nat}{v:Value}{l:List PSent}(h:Sents w B v l)(hg:w.grownBy w' none):Sents w' B v l:=LRow.grown h seR_stab hg
theorem Sents.set {w w':World}{B x t':Nat}{v:Value}{l:List PSent}{cc:Array Value}(h:Sents w B v l)(hx:Blk w x t' cc)(h1:t'≠113)(hg:w.grownBy w' (some x)):Sents w' B v l:=LRow.set h seR_stab hx h1 (fun h=>h) hg
theorem Sents.tx {n0:Nat}{w w':World}{B:Nat}{v:Value}{l:List PSent}(h:Sents w B v l)(ht:Tx n0 w w'):Sents w' B v l:=by
 obtain ⟨vs,h1,h2,h3,h4⟩:=h
 exact ⟨vs,ht.row h1 (by decide),h2,h3,h4⟩
theorem Sents.slice {w:World}{B:Nat}{v:Value}{l:List PSent}(h:Sents w B v l):∃x n y,v=.slice x n y:=by
 obtain ⟨x,y,e⟩:=LRow.shape h
 exact ⟨x,_,y,e⟩
theorem Sents.blk {w:World}{B:Nat}{v:Value}{l:List PSent}(h:Sents w B v l):∀i,v.ownBlock=some i->B<=i/\i<w.heap.size/\∃C,Blk w i 113 C:=by
 intro i hi
 obtain ⟨vs,h1,_⟩:=h
 exact ⟨(World.ownsRow.lt h1 i hi).1,(World.ownsRow.lt h1 i hi).2,owns_blk h1 hi⟩
structure Og (w:World)(x3 sz:Nat)(l:List PSent)(vl:Value)(A:World):Prop where
 gr:w.grownBy A none
 b3:Blk A x3 110 #[vl]
 ms:Sents A w.heap.size vl l
 szs:sz<=A.heap.size
 x3:w.heap.size<=x3/\x3<sz
 row:∀i,vl.ownBlock=some i->sz+2<=i
theorem Og.tx {w A A':World}{x3 sz n0:Nat}{l:List PSent}{vl:Value}(h:Og w x3 sz l vl A)(ht:Tx n0 A A')(hn:w.heap.size<=n0):Og w x3 sz l vl A' :=
 ⟨tx_grown ht h.gr hn,ht.blk h.b3 (.inl (by decide)),h.ms.tx ht,Nat.le_trans h.szs ht.size,h.x3,h.row⟩
theorem Og.grown {w A A':World}{x3 sz:Nat}{l:List PSent}{vl:Value}(h:Og w x3 sz l vl A)(hg:A.grownBy A' none):Og w x3 sz l vl A' :=
 ⟨grown_trans h.gr hg,h.b3.grown hg (by simp),h.ms.grown hg,Nat.le_trans h.szs hg.size,h.x3,h.row⟩
end Go.Proofs.YtanoabliahcbeaaGreat.Wn
