import Derived.Test.YtncbdhdfemidlaaGreatNd
set_option maxHeartbeats 4000000
set_option maxRecDepth 100000
namespace Go.Proofs.YtncbdhdfemidlaaGreat
open Go.RowKit Disk
open _root_.Go.Proofs.YtncbdhdfemidlaaGreat.Calls _root_.Go.Proofs.YtncbdhdfemidlaaGreat.Command
def NxP (d ob:Nat)(ao:Option Addr)(cap:Nat)(L:Bs)(k:Nat)(b:Bool)(w:World)(e:Ending)(w':World):Prop :=
 ∃n k' b',e=.returned (.int .i64 ((n:Nat):Int))/\n<=9223372036854775807/\DkPost d ob ao cap L k' b' w w'/\((pNum 9223372036854775807 (L.drop k)=some (n,L.drop k')/\b'=b)\/(pNum 9223372036854775807 (L.drop k)=none/\b'=false))
theorem next41 (d ob:Nat)(ao:Option Addr)(cap:Nat)(L:Bs)(k:Nat)(b:Bool)(w:World)(h:RK w d ob ao cap L k b) :
  Calls Tryz.prog 41 #[.pointer (some ⟨d,0,none⟩),.pointer (some ⟨ob,0,none⟩)] w (NxP d ob ao cap L k b w):=by
 have HR:Hid (RK w d ob ao cap L k b):=h
 clear h
 go_enter Tryz.func41,Tryz.ntmps41
 go_wp2_with (go_at_call 65;refine (Wire.number39 d ao cap k L _ HR.out.rf HR.out.seg HR.out.le).mono ?_)
 rintro e w1 ⟨rfl,k',hk',hM,hrf,hg⟩
 have H1:Hid (RK w1 d ob ao cap L k' b/\Fr w w1 (RF d ob)):=⟨HR.out.at hk' hrf hg,fr_d hg⟩
 have hx64:=Wire.rdNum_lt (L.drop k)
 have HP:Hid (((Wire.rdNum (L.drop k)).2.1=0/\(Wire.rdNum (L.drop k)).1<=9223372036854775807->pNum 9223372036854775807 (L.drop k)=some ((Wire.rdNum (L.drop k)).1,L.drop k'))/\(¬((Wire.rdNum (L.drop k)).2.1=0/\(Wire.rdNum (L.drop k)).1<=9223372036854775807)->pNum 9223372036854775807 (L.drop k)=none)):=by
  rw [hM]
  unfold pNum Wire.rdNum
  cases hs:Wire.scan 0 0 (L.drop k) with
  | none=>exact ⟨fun h=>by simp at h,fun _=>rfl⟩
  | some y =>
   obtain ⟨n,q⟩:=y
   refine ⟨fun h=>?_,fun h=>?_⟩
   ·dsimp only at h ⊢
    rw [if_pos h.2]
   ·dsimp only at h ⊢
    rw [if_neg (fun hn=>h ⟨rfl,hn⟩)]
 obtain ⟨x,hx⟩:∃x,(Wire.rdNum (L.drop k)).1=x:=⟨_,rfl⟩
 obtain ⟨er,her⟩:∃x,(Wire.rdNum (L.drop k)).2.1=x:=⟨_,rfl⟩
 rw [hx] at hx64 HP ⊢
 rw [her] at HP ⊢
 clear hx her hM hrf hg hk'
 have c0:=H1.out.1.ok.cell 0
 have c1:=H1.out.1.ok.free 0
 by_cases he:er=0
 ·subst he
  by_cases hn:x<=9223372036854775807
  ·have HQ:Hid (pNum 9223372036854775807 (L.drop k)=some (x,L.drop k')/\x<=9223372036854775807):=⟨HP.out.1 ⟨rfl,hn⟩,hn⟩
   have j1:((x:Int) > 9223372036854775807)=False:=eq_false (by omega)
   have j2:((9223372036854775807:Int)<(x:Int))=False:=eq_false (by omega)
   have j3:(9223372036854775807<x)=False:=eq_false (by omega)
   have wi:IntKind.i64.wrap (x:Int)=(x:Int):=by rw [IntKind.wrap_i64];omega
   clear HP hn
   go_wp2_with fail
   go_ret
   exact ⟨x,k',b,rfl,HQ.out.2,⟨H1.out.1,H1.out.2⟩,.inl ⟨HQ.out.1,rfl⟩⟩
  ·have HQ:Hid (pNum 9223372036854775807 (L.drop k)=none):=HP.out.2 (fun h=>hn h.2)
   have j1:((x:Int) > 9223372036854775807)=True:=eq_true (by omega)
   have j2:((9223372036854775807:Int)<(x:Int))=True:=eq_true (by omega)
   have j3:(9223372036854775807<x)=True:=eq_true (by omega)
   clear HP hn
   go_wp2_with fail
   go_ret
   exact ⟨0,k',false,rfl,by omega,⟨H1.out.1.say _,fr_t H1.out.2 (fr_ob _)⟩,.inr ⟨HQ.out,rfl⟩⟩
 ·have HQ:Hid (pNum 9223372036854775807 (L.drop k)=none):=HP.out.2 (fun h=>he h.1)
  have q1:(er != 0)=true:=by simp [he]
  clear HP he
  go_wp2_with fail
  go_ret
  exact ⟨0,k',false,rfl,by omega,⟨H1.out.1.say _,fr_t H1.out.2 (fr_ob _)⟩,.inr ⟨HQ.out,rfl⟩⟩
def Inv (m0:PMsg)(M0:Bs)(rem:List (Nat × Int))(r:PMsg)(N:Bs)(b:Bool):Prop :=
 (b=true->readNums (fld m0) m0 M0=readNums rem r N)/\(b=false->readNums (fld m0) m0 M0=none)
theorem inv_start (m0:PMsg)(M0:Bs):Inv m0 M0 (fld m0) m0 M0 true:=⟨fun _=>rfl,fun h=>by cases h⟩
theorem Inv.step {m0:PMsg}{M0:Bs}{f:Nat × Int}{rem:List (Nat × Int)}{r:PMsg}{N N':Bs}{b b':Bool}{n:Nat}(h:Inv m0 M0 (f :: rem) r N b)(hn:(pNum 9223372036854775807 N=some (n,N')/\b'=b)\/(pNum 9223372036854775807 N=none/\b'=false)):Inv m0 M0 rem (setV r f.1 n) N' b':=by
 rcases hn with ⟨hp,rfl⟩ | ⟨hp,rfl⟩
 ·refine ⟨fun hb=>?_,h.2⟩
  rw [h.1 hb,readNums,hp]
  rfl
 ·refine ⟨(fun hb=>by cases hb),fun _=>?_⟩
  cases b
  ·exact h.2 rfl
  ·rw [h.1 rfl,readNums,hp]
   rfl
def Rel (L:Bs)(r:PMsg)(k:Nat)(b op:Bool):Prop:=if b=true/\(op=true\/L.drop k=[])/\okM r=true then readM L=(r,0) else readM L=(zeroM,4)
theorem readM_none {L:Bs}(h:pMsg L=none):readM L=(zeroM,4):=by unfold readM;rw [h]
theorem readM_some {L:Bs}{r:PMsg}(h:pMsg L=some r):readM L=if okM r=true then (r,0) else (zeroM,4):=by unfold readM;rw [h]
theorem nums_kinds {m0 r:PMsg}{M N:Bs}(hi:InM m0)(h:readNums (fld m0) m0 M=some (r,N)):callsB r=callsB m0/\answersB r=answersB m0:=by
 obtain ⟨_,_,h3,_,h5,h6,_⟩:=readNums_inv _ _ r M N (fun f hf=>(fld_off _ f hf).1) (fld_distinct _) hi h
 unfold callsB answersB
 rw [h3,h5,h6]
 exact ⟨rfl,rfl⟩
theorem rel_plain {k0 c0 s0:UInt8}{M:Bs}{r:PMsg}{k:Nat}{b:Bool}(hc:callsB (beginM (k0.toNat:Int) (c0.toNat:Int) (s0.toNat:Int))=false)(ha:answersB (beginM (k0.toNat:Int) (c0.toNat:Int) (s0.toNat:Int))=false)
  (h:Inv (beginM (k0.toNat:Int) (c0.toNat:Int) (s0.toNat:Int)) M [] r ((k0 :: c0 :: s0 :: M).drop k) b):Rel (k0 :: c0 :: s0 :: M) r k b false:=by
 unfold Rel
 cases b
 ·rw [if_neg (fun h=>by cases h.1)]
  refine readM_none ?_
  simp only [pMsg,restM,h.2 rfl]
  rfl
 ·have h1:=h.1 rfl
  rw [readNums] at h1
  obtain ⟨q1,q2⟩:=nums_kinds (begin_in k0 c0 s0) h1
  rw [hc] at q1
  rw [ha] at q2
  have hp:pMsg (k0 :: c0 :: s0 :: M)=if (k0 :: c0 :: s0 :: M).drop k=[] then some r else none:=by
   simp only [pMsg,restM,h1,Option.bind_some,lastOf]
   rw [if_neg (by rw [q1];decide),if_neg (by rw [q2];decide)]
  by_cases hd:(k0 :: c0 :: s0 :: M).drop k=[]
  ·rw [if_pos hd] at hp
   rw [readM_some hp]
   by_cases hok:okM r=true
   ·rw [if_pos ⟨rfl,.inr hd,hok⟩,if_pos hok]
   ·rw [if_neg (fun h=>hok h.2.2),if_neg hok]
  ·rw [if_neg hd] at hp
   rw [if_neg (fun h=>hd (h.2.1.resolve_left (by decide)))]
   exact readM_none hp
theorem rel_call {k0 c0 s0:UInt8}{M:Bs}{r:PMsg}{k:Nat}{b:Bool}(hc:callsB (beginM (k0.toNat:Int) (c0.toNat:Int) (s0.toNat:Int))=true)
  (h:Inv (beginM (k0.toNat:Int) (c0.toNat:Int) (s0.toNat:Int)) M [] r ((k0 :: c0 :: s0 :: M).drop k) b):Rel (k0 :: c0 :: s0 :: M) (setOps r (readC ((k0 :: c0 :: s0 :: M).drop k)).1) k (b && ((readC ((k0 :: c0 :: s0 :: M).drop k)).2==0)) true:=by
 unfold Rel
 cases b
 ·rw [if_neg (fun h=>by cases h.1)]
  refine readM_none ?_
  simp only [pMsg,restM,h.2 rfl]
  rfl
 ·have h1:=h.1 rfl
  rw [readNums] at h1
  obtain ⟨q1,q2⟩:=nums_kinds (begin_in k0 c0 s0) h1
  rw [hc] at q1
  have hp:pMsg (k0 :: c0 :: s0 :: M)=if (readC ((k0 :: c0 :: s0 :: M).drop k)).2=0 then some (setOps r (readC ((k0 :: c0 :: s0 :: M).drop k)).1) else none:=by
   simp only [pMsg,restM,h1,Option.bind_some,lastOf]
   rw [if_pos q1]
  by_cases hd:(readC ((k0 :: c0 :: s0 :: M).drop k)).2=0
  ·rw [if_pos hd] at hp
   rw [readM_some hp]
   by_cases hok:okM (setOps r (readC ((k0 :: c0 :: s0 :: M).drop k)).1)=true
   ·rw [if_pos ⟨by rw [hd];rfl,.inl rfl,hok⟩,if_pos hok]
   ·rw [if_neg (fun h=>hok h.2.2),if_neg hok]
  ·rw [if_neg hd] at hp
   rw [if_neg (fun h=>hd (by simpa using h.1))]
   exact readM_none hp
theorem rel_ans {k0 c0 s0:UInt8}{M:Bs}{r:PMsg}{k:Nat}{b:Bool}(hc:callsB (beginM (k0.toNat:Int) (c0.toNat:Int) (s0.toNat:Int))=false)(ha:answersB (beginM (k0.toNat:Int) (c0.toNat:Int) (s0.toNat:Int))=true)
  (h:Inv (beginM (k0.toNat:Int) (c0.toNat:Int) (s0.toNat:Int)) M [] r ((k0 :: c0 :: s0 :: M).drop k) b):Rel (k0 :: c0 :: s0 :: M) (setAns r ((k0 :: c0 :: s0 :: M).drop k)) k b true:=by
 unfold Rel
 cases b
 ·rw [if_neg (fun h=>by cases h.1)]
  refine readM_none ?_
  simp only [pMsg,restM,h.2 rfl]
  rfl
 ·have h1:=h.1 rfl
  rw [readNums] at h1
  obtain ⟨q1,q2⟩:=nums_kinds (begin_in k0 c0 s0) h1
  rw [hc] at q1
  rw [ha] at q2
  have hp:pMsg (k0 :: c0 :: s0 :: M)=some (setAns r ((k0 :: c0 :: s0 :: M).drop k)):=by
   simp only [pMsg,restM,h1,Option.bind_some,lastOf]
   rw [if_neg (by rw [q1];decide),if_pos q2]
  rw [readM_some hp]
  by_cases hok:okM (setAns r ((k0 :: c0 :: s0 :: M).drop k))=true
  ·rw [if_pos ⟨rfl,.inl rfl,hok⟩,if_pos hok]
  ·rw [if_neg (fun h=>hok h.2.2),if_neg hok]
end Go.Proofs.YtncbdhdfemidlaaGreat
