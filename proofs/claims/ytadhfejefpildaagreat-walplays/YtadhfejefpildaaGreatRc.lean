import Derived.Test.YtadhfejefpildaaGreatRb
import Derived.Test.YtadhfejefpildaaGreatEc
import Derived.Shelf.Abstract
set_option maxHeartbeats 8000000
set_option maxRecDepth 100000
namespace Go.Proofs.YtadhfejefpildaaGreat
open Go.RowKit Disk Table
open Go.Proofs.YtadhfejefpildaaGreat.Calls
open Go.Proofs.YtadhfejefpildaaGreat.Command
open Go.Proofs.YtadhfejefpildaaGreat.Frame (Frs)
section
variable {P:Program} {ops:Array Oper} {Q:Exit->Act->World->Prop} {md:Region.Mode} {H:World->Prop} {z:Nat} {Y:(Act->World->Prop)->Act->World->Prop}
theorem tky {i:Nat}{l':List Nat}(_:Idx (i :: l')){oi:Oper}{l:List Oper}{d:Option Tmp}{v:Value}{n:Nat}{listed:Array Bool}{a:Act}{w:World}(hH:H w)(hi:ops.toList.drop i=oi :: l)(hd:oi.dst=d)
  (hy:∀x:World,H x->(execOp a.eval oi).run P x=.ok (.value v) x)
  (h:cm P z H md ops Q Y n (listed.setIfInBounds i true) (a.put d v) w)
  (hiz:i≠z:=by decide) (hzl:listed.getD z false=false:=by kernel_rfl) (hs:Region.noSelect ops=true:=by kernel_rfl) (hz:dJ md ops z i=true:=by kernel_rfl) (hsd:gW md ops listed=true:=by kernel_rfl) (hf:Region.free md ops listed i=true:=by kernel_rfl) (hr:(Region.ready md ops listed).contains i=true:=by kernel_rfl)
  (hQ:∀c a w,Q (.panic c) (a.put d v) w->Q (.panic c) a w:=by exact fun _ _ _ h=>h) (hw:Region.wanted oi (yielded ops a.tmps)=true:=by rfl):cm P z H md ops Q Y (n+1) listed a w:=lw hH hi hd hiz hzl hs hz hsd hf hr hQ hw hy h
end
theorem iO {w w':World}{B:Nat}{v:Value}{l:List POp}(h:aC w B v l)(hs:∀i t c,Blk w i t c->t=147\/t=5->w'.heap[i]? = w.heap[i]?):aC w' B v l:=by
 obtain ⟨⟨vs,h1,h2,h3,h4⟩,hl⟩:=h
 have own:∀{y:Value} {L:Bs},Disk.Own w B y L->Disk.Own w' B y L:=fun {y L} ho=>ho.same fun g hg=>by
  obtain ⟨cur,hb⟩:=eM ho hg
  exact hs _ _ _ hb (.inr rfl)
 have cut:∀{y:Value} {L:Bs},_root_.Go.Proofs.YtadhfejefpildaaGreat.Names.Cut w B y L->_root_.Go.Proofs.YtadhfejefpildaaGreat.Names.Cut w' B y L:=fun {y L} hc=>by
  rcases hc with h | ⟨g,cap,rfl,h⟩
  ·exact .inl (own h)
  ·exact .inr ⟨g,cap,rfl,own h⟩
 refine ⟨⟨vs,?_,h2,h3,fun j a b=>?_⟩,hl⟩
 ·refine ⟨h1.1,?_⟩
  rcases h1.2 with h0 | ⟨g,cap,cur,e,hb,hg,hr⟩
  ·exact .inl h0
  ·exact .inr ⟨g,cap,cur,e,hb,(hs g 147 cur hg (.inl rfl)).trans hg,hr⟩
 ·obtain ⟨k,v,ol,t,e,ho⟩:=h4 j a b
  exact ⟨k,v,ol,t,e,cut ho.key,cut ho.value,cut ho.old,cut ho.tos,ho.fits⟩
theorem qr {n0:Nat}{w w':World}{B:Nat}{v:Value}{l:List POp}(h:aC w B v l)(ht:Tx n0 w w'):aC w' B v l:=iO h fun i t c hb e=>ht.block i hb.lt (.inr ⟨_,_,_,hb,by rcases e with rfl | rfl <;> decide⟩)
def recV (p q:Nat)(ov:Value)(e:PEnt):Value:=.agg #[.int .i64 p,.int .i64 q,.int .i64 e.1,.int .i64 e.2.kind,.int .i64 e.2.token,.int .i64 e.2.session,.int .i64 e.2.number,.int .i64 e.2.mark,ov]
def aR (fs:Frs)(k:Nat):Nat:=(Frame.flat (fs.take k)).length
def Xr (fs:Frs)(k:Nat)(W0 W1:World)(xs:Array Value):Prop :=
 (∃(h:k<(az 0 fs).1.length) (ov:Value),xs=#[recV (aR fs k) (aR fs (k+1)) ov (az 0 fs).1[k],.int .i64 0]/\aC W1 W0.heap.size ov (az 0 fs).1[k].2.ops)\/(k=(az 0 fs).1.length/\k<fs.length/\xs=#[recV 0 0 (.slice none 0 0) (0,bi),.int .i64 8])
def Nr (fs:Frs):Nat:=if (az 0 fs).2=true then (az 0 fs).1.length else (az 0 fs).1.length+1
theorem nW {fs:Frs}(h:(az 0 fs).1.length=fs.length):Nr fs=fs.length:=by unfold Nr;rw [if_pos ((dm fs 0).2 h),h]
theorem lu {fs:Frs}(h:(az 0 fs).1.length<fs.length):Nr fs=(az 0 fs).1.length+1:=by
 unfold Nr
 rw [if_neg]
 intro h'
 have:=(dm fs 0).1 h'
 omega
theorem wC {fs:Frs}{k:Nat}(h:k<(az 0 fs).1.length):k<Nr fs:=by unfold Nr;split <;> omega
theorem mw (Fw:Nat->Prop)(Cx Bx:Nat)(v:Value)(L:Bs)(fs:Frs)(R:Bs)(w:World)(hc:Blk w Cx 141 #[.func (.func 108) #[] #[.pointer (some ⟨Bx,0,none⟩)]])(hb:Blk w Bx 23 #[v])(hs:Seg w v L)(hsc:Frame.Sc L fs R)(hL:L.length<=140737488355328)(hP:¬Fw Bx)(hPs:L≠[]->∀b off n c,v=.slice (some ⟨b,off,none⟩) n c->¬Fw b)(hFw:∀i,Fw i->i<w.heap.size) :
  jO Tryz.prog 80 #[.pointer (some ⟨Cx,0,none⟩)] (Nr fs) (Xr fs) Fw w:=by
 intro lp J Jx W hgW hJ hJx hY h0
 obtain ⟨W2,hW2,H2⟩:=al2' W #[.func (.yield lp) #[] #[]] #[.int .i64 0] 143 2
 have HG:Hid (jO Tryz.prog 108 #[.pointer (some ⟨Bx,0,none⟩)] fs.length (Frame.Xf fs) (fun i=>Fw i\/(w.heap.size<=i/\i<W.heap.size)\/i=W.heap.size+1) W2):=by
  have g:=aa hgW H2.out.2.2.1
  have hz:=hgW.size
  refine uo _ Bx v L fs R W2 (hb.grown g (by simp)) (hs.grown g) hsc hL ?_ ?_ ?_
  ·have:=hb.lt
   rintro (h | h | h)
   ·exact hP h
   ·omega
   ·omega
  ·intro hne b off n c e
   have:=Frame.dK hs hne e
   rintro (h | h | h)
   ·exact hPs hne b off n c e h
   ·omega
   ·omega
  ·have:=H2.out.2.2.2
   rintro i (h | h | h)
   ·have:=hFw i h;omega
   ·omega
   ·omega
 have HC:Hid (w.heap.size<=W.heap.size/\(∀i,Fw i->i<w.heap.size)/\L.length<=140737488355328/\Frame.Sc L fs R):=⟨hgW.size,hFw,hL,hsc⟩
 have HJ:Hid _:=hJ
 have HJX:Hid _:=hJx
 have HY:Hid _:=hY
 have H0:Hid (J 0 (fun _=>False) W):=h0
 have c0:=(hc.grown (aa hgW H2.out.2.2.1) (by simp)).cell 0
 simp at c0
 clear hc hb hs hsc hL hP hPs hFw hJ hJx hY h0 hgW
 show Calls Tryz.prog 80 #[.func (.yield lp) #[] #[],.pointer (some ⟨Cx,0,none⟩)] W _
 refine di Tryz.func80 rfl ?_
 simp only [Tryz.ntmps80,List.size_toArray,List.length_cons,List.length_nil,Nat.reduceAdd,Nat.reduceSub,Array.replicate_succ,Array.replicate_zero,List.push_toArray,List.append_toArray,List.nil_append,List.cons_append]
 go_wp2_with fail
 clear c0
 obtain ⟨yb,hyb⟩:∃x,W.heap.size=x:=⟨_,rfl⟩
 have HW:Hid (Blk W2 yb 143 #[.func (.yield lp) #[] #[]]/\Blk W2 (yb+1) 2 #[.int .i64 0]/\W2.heap.size=yb+2/\W.heap.size=yb/\W.grownBy W2 none/\w.heap.size<=yb):=by
  have h:=H2.out
  rw [hyb] at h
  exact ⟨h.1,h.2.1,h.2.2.2,hyb,h.2.2.1,by have:=HC.out.1;omega⟩
 rw [hyb] at HG HJ HJX HY ⊢
 clear hW2 H2 hyb
 obtain ⟨m,hm⟩:∃x,(az 0 fs).1.length=x:=⟨_,rfl⟩
 have HM:Hid ((az 0 fs).1.length=m/\m<=fs.length):=⟨hm,by rw [<-hm];exact cP fs 0⟩
 clear hm
 refine iG (gf:=108) (lb:=#[.pointer (some ⟨Bx,0,none⟩)]) rfl (enters_of Tryz.func108 (by kernel_rfl) rfl) HG.out ?hps
  (fun k G A=>Hid (k<=m/\J k G A/\Blk A yb 143 #[.func (.yield lp) #[] #[]]/\Blk A (yb+1) 2 #[.int .i64 (cT 0 (az 0 fs).1 k)]/\yb+2<=A.heap.size/\∀i,G i->yb+4<=i/\i<A.heap.size))
  (fun A=>Hid ((∃G,J (Nr fs) G A)\/Jx A)) ?hIg ?hXg ?h0 ?hround ?hdone ?hstop
 case hps =>
  rintro k k' W0 W1 xs ⟨_,_,_,x,rfl,_⟩
  rfl
 case hIg =>
  rintro k G A B HA ht
  have hz:=HW.out.2.2.1
  exact ⟨HA.out.1,HJ.out _ _ _ _ HA.out.2.1 (ht.mono (by omega)),ht.blk HA.out.2.2.1 (.inl (by decide)),ht.blk HA.out.2.2.2.1 (.inr (by omega)),Nat.le_trans HA.out.2.2.2.2.1 ht.size,fun i hi=>⟨(HA.out.2.2.2.2.2 i hi).1,Nat.lt_of_lt_of_le (HA.out.2.2.2.2.2 i hi).2 ht.size⟩⟩
 case hXg =>
  rintro A B HA ht
  have hz:=HW.out.2.2.1
  rcases HA.out with ⟨G,h⟩ | h
  ·exact .inl ⟨G,HJ.out _ _ _ _ h (ht.mono (by omega))⟩
  ·exact .inr (HJX.out _ _ h (ht.mono (by omega)))
 case h0=>exact ⟨Nat.zero_le _,HJ.out _ _ _ _ H0.out (Tx.of_grown HW.out.2.2.2.2.1),HW.out.1,HW.out.2.1,Nat.le_of_eq HW.out.2.2.1.symm,fun _ h=>h.elim⟩
 case hstop =>
  intro A HA hd
  have HD:Hid _:=hd
  clear hd
  go_wp2_with fail
  refine ⟨by simp,.inl ⟨_,_,rfl,run_takeDeferred HD.out,?_⟩⟩
  have hz:=HW.out.2.2.1
  have ht:=Tx.putD (n0:=yb) (.deferred none) HD.out (by omega)
  refine ⟨_,results_none rfl _ _ _,⟨_,rfl⟩,?_⟩
  rcases HA.out with ⟨G,h⟩ | h
  ·exact .inl ⟨_,G,rfl,HJ.out _ _ _ _ h ht⟩
  ·exact .inr (HJX.out _ _ h ht)
 case hdone =>
  rintro A s G hs HA hd
  have HD:Hid _:=hd
  have HS:Hid (s=fs.length):=hs
  clear hd hs
  go_wp2_with fail
  refine ⟨by simp,.inl ⟨_,_,rfl,run_takeDeferred HD.out,?_⟩⟩
  have hz:=HW.out.2.2.1
  have ht:=Tx.putD (n0:=yb) (.deferred none) HD.out (by omega)
  have hml:=HA.out.1
  rw [HS.out] at hml
  have e:Nr fs=s:=by rw [nW (by have:=HM.out;omega),HS.out]
  exact ⟨_,results_none rfl _ _ _,⟨_,rfl⟩,.inl ⟨_,G,rfl,by rw [e];exact HJ.out _ _ _ _ HA.out.2.1 ht⟩⟩
 case hround =>
  rintro l' k k' G W0 W1 xs HI hlt0 htn ⟨rfl,hk,hkk,u,rfl,ou,hub,hsz⟩ ⟨rc,hrc⟩
  obtain ⟨ua,uc,eu⟩:=ou.seg.shape
  subst eu
  have HO:Hid (Disk.Own W1 W0.heap.size (.slice ua fs[k].2.length uc) fs[k].2/\Tx (W2.heap.size+2) W0 W1/\W2.heap.size+1<W0.heap.size/\W1.heap[W2.heap.size+1]? = some (.loop rc)/\W0.heap.size<W1.heap.size):=⟨ou,htn,hlt0,hrc,hsz⟩
  clear ou htn hlt0 hrc hub hsz
  obtain ⟨ul,hul⟩:∃x,fs[k].2.length=x:=⟨_,rfl⟩
  obtain ⟨kd,hkd⟩:∃x,fs[k].1=x:=⟨_,rfl⟩
  obtain ⟨pl,hpl⟩:∃x,(Frame.flat (fs.take k)).length=x:=⟨_,rfl⟩
  have HL:Hid (fs[k].2.length=ul/\fs[k].1=kd/\aR fs k=pl/\aR fs (k+1)=pl+(9+ul)/\pl+(9+ul)<=140737488355328):=by
   have h1:=(HC.out.2.2.2.at k hk).2.2.2
   have h2:=HC.out.2.2.1
   have h3:=Frame.cx fs k hk
   refine ⟨hul,hkd,hpl,?_,by omega⟩
   unfold aR
   omega
  rw [hul] at HO ⊢
  rw [hkd,hpl]
  clear hul hkd hpl
  simp only [List.zip_toArray,List.zip_cons_cons,List.zip_nil_right,List.foldl_toArray',List.size_toArray,List.foldl_cons,List.foldl_nil,List.setIfInBounds_toArray,List.set_cons_zero,List.set_cons_succ]
  refine wpIn_seq ?_
  refine aF (by rintro ⟨_,_,h⟩;exact h) rfl ?_
  go_wp2_with fail
  refine aF (by rintro ⟨_,_,h⟩;exact h) rfl ?_
  obtain ⟨Wa,hWa,HA⟩:=al1 W1 #[.int .i64 kd,.slice ua ul uc] 109
  go_wp2_with fail
  try rw [hWa]
  refine ⟨HA.out.2.1,fun r=>?_⟩
  obtain ⟨fb,hfb⟩:∃x,W1.heap.size=x:=⟨_,rfl⟩
  obtain ⟨W3,hW3⟩:∃W3,Wa.putObj (W2.heap.size+1) (.loop r)=W3:=⟨_,rfl⟩
  have HT3:Hid (Tx (W2.heap.size+1) W1 W3/\W3.heap.size=fb+1/\W1.heap.size=fb/\(∀i,i≠W2.heap.size+1->W3.heap[i]? = Wa.heap[i]?)/\Blk W3 fb 109 #[.int .i64 kd,.slice ua ul uc]/\Seg W3 (.slice ua ul uc) fs[k].2):=by
   have hl:Wa.heap[W2.heap.size+1]? = some (.loop rc):=(HA.out.2.1.block _ (by have:=HO.out;omega) (by simp)).trans HO.out.2.2.2.1
   have ht:Tx (W2.heap.size+1) Wa W3:=by rw [<-hW3];exact Tx.put _ hl (Nat.le_refl _)
   have hb:=HA.out.1
   rw [hfb] at hb
   refine ⟨(Tx.of_grown HA.out.2.1).trans ht,?_,hfb,fun i hi=>by rw [<-hW3];exact World.putObj_heap_other hi,ht.blk hb (.inl (by decide)),(ht.own (HO.out.1.grown HA.out.2.1)).seg⟩
   rw [<-hW3]
   simp [World.putObj]
   have:=HA.out.2.2
   omega
  rw [hW3]
  rw [hfb]
  clear hWa hW3 hfb
  have HT0:Hid (Tx (W2.heap.size+1) W0 W3):=(HO.out.2.1.mono (Nat.le_succ _)).trans HT3.out.1
  obtain ⟨c0,c1⟩:=blk2 HT3.out.2.2.2.2.1
  refine wpIn_block (wpIn_seq ?_)
  refine aF (by rintro ⟨_,_,h⟩;exact h) rfl ?_
  go_wp2_with fail
  refine (vw kd (.slice ua ul uc) fs[k].2 W3 HT3.out.2.2.2.2.2 (by have:=HL.out;omega)).mono ?_
  rintro e w4 ⟨g4,hR⟩
  obtain ⟨pv,hpv⟩:∃x,cT 0 (az 0 fs).1 k=x:=⟨_,rfl⟩
  have HP:Hid (cT 0 (az 0 fs).1 k=pv):=hpv
  rw [hpv] at HI
  clear hpv
  have keep:∀(w5 W':World) (xs:Array Value),W3.grownBy w5 none->(∀i,kC xs i->fb<i)->il w.heap.size yb Fw G xs w5 W'->(W'.heap[W2.heap.size]? = W3.heap[W2.heap.size]?/\W'.heap[W2.heap.size+1]? = W3.heap[W2.heap.size+1]?)/\il W2.heap.size (W2.heap.size+2) (fun i=>Fw i\/(w.heap.size<=i/\i<yb)\/i=yb+1) G #[.int .i64 pl,.agg #[.int .i64 kd,.slice ua ul uc]] W1 W'/\Blk W' yb 143 #[.func (.yield lp) #[] #[]]/\Blk W' (yb+1) 2 #[.int .i64 pv]/\w5.heap.size<=W'.heap.size/\fb+1<=w5.heap.size/\(∀i,fb<i->i<w5.heap.size->¬kC xs i->W'.heap[i]? = w5.heap[i]?):=by
   intro w5 W' xs g5 hx hkp
   have z1:=HW.out
   have z2:=HT3.out
   have z3:=g5.size
   have z4:=HI.out
   have z5:=HO.out
   have z6:=HC.out
   have hnF:∀i,yb<=i->¬Fw i:=fun i h hf=>by have:=z6.2.1 i hf;omega
   have hnG:∀i,i<yb+4->¬G i:=fun i h hg=>by have:=(z4.2.2.2.2.2 i hg).1;omega
   have hsame:∀i,i<=fb->(i<w.heap.size\/yb<=i)->¬Fw i->¬G i->W'.heap[i]? = W3.heap[i]?:=fun i h1 h2 h3 h4=>(hkp.2 i (by omega) h2 h3 (fun h=>by have:=hx i h;omega) h4).trans (g5.block i (by omega) (by simp))
   refine ⟨⟨hsame _ (by omega) (.inr (by omega)) (hnF _ (by omega)) (hnG _ (by omega)),hsame _ (by omega) (.inr (by omega)) (hnF _ (by omega)) (hnG _ (by omega))⟩,⟨by have:=hkp.1;omega,fun i h1 h2 h3 _ h5=>?_⟩,?_,?_,hkp.1,by omega,fun i h1 h2 h3=>hkp.2 i h2 (.inr (by omega)) (hnF _ (by omega)) h3 (fun hg=>by have:=(z4.2.2.2.2.2 i hg).2;omega)⟩
   ·rw [hsame i (by omega) ?_ (fun h=>h3 (.inl h)) h5,z2.2.2.2.1 i (by omega)]
    ·exact HA.out.2.1.block i h1 (by simp)
    ·rcases Nat.lt_or_ge i w.heap.size with h | h
     ·exact .inl h
     ·rcases Nat.lt_or_ge i yb with h6 | h6
      ·exact absurd (.inr (.inl ⟨h,h6⟩)) h3
      ·exact .inr h6
   ·exact (HT0.out.blk z4.2.2.1 (.inl (by decide))).same (hsame _ (by omega) (.inr (by omega)) (hnF _ (by omega)) (hnG _ (by omega)))
   ·exact (HT0.out.blk z4.2.2.2.1 (.inr (by omega))).same (hsame _ (by omega) (.inr (by omega)) (hnF _ (by omega)) (hnG _ (by omega)))
  have HQ:Hid (W3.grownBy w4 none/\w4.heap.size ≥ fb+1):=⟨g4,by have:=g4.size;have:=HT3.out.2.1;omega⟩
  clear g4 c0 c1
  by_cases hkm:k<m
  ·have hE:=gZ fs 0 k (by rw [HM.out.1];exact hkm) hk
   rw [HP.out] at hE
   obtain ⟨e1,he1⟩:∃x,(az 0 fs).1[k]'(by rw [HM.out.1];exact hkm)=x:=⟨_,rfl⟩
   rw [he1] at hE
   have hin:1<=e1.1/\e1.1<=4611686018427387904:=by
    have h:=(ko hE.1).1
    have:=bZ.1 h
    exact ⟨this.1,this.2.1⟩
   have hfk:(fs[k].1,fs[k].2)=fs[k]:=rfl
   rw [HL.out.2.1] at hfk
   rcases hR with ⟨e,ov,he,rfl,oo⟩ | ⟨he,_⟩
   rotate_left
   ·rw [hfk,hE.1] at he
    cases he
   rw [hfk,hE.1] at he
   cases he
   obtain ⟨o1,o2,o3,eo,hol⟩:=aC.slice oo
   subst eo
   have HE:Hid (aC w4 W3.heap.size (.slice o1 o2 o3) e1.2.ops/\(az 0 fs).1[k]'(by rw [HM.out.1];exact hkm)=e1):=⟨oo,he1⟩
   have hpe:=hE.2
   clear hol oo he1 hE hfk
   simp only [entV,entA]
   obtain ⟨w5,hw5,H5⟩:=al1 w4 #[.int .i64 e1.1,.int .i64 e1.2.kind,.int .i64 e1.2.token,.int .i64 e1.2.session,.int .i64 e1.2.number,.int .i64 e1.2.mark,.slice o1 o2 o3] 34
   go_wp2_with fail
   try rw [hw5]
   obtain ⟨eb,heb⟩:∃x,w4.heap.size=x:=⟨_,rfl⟩
   rw [heb] at H5 ⊢
   have HB:Hid (fb<eb/\w5.heap.size=eb+1/\W3.grownBy w5 none/\w4.heap.size=eb):=⟨by have:=HQ.out.2;omega,H5.out.2.2,aa HQ.out.1 H5.out.2.1,heb⟩
   clear hw5 heb
   have k3:=((HT0.out.blk HI.out.2.2.2.1 (.inr (by have:=HW.out;omega))).grown HB.out.2.2.1 (by simp)).cell 0
   have k0:=H5.out.1.cell 0
   simp at k0 k3
   have HCASE:Hid ((0<pv)=False\/((0<pv)=True/\(e1.1 != pv+1)=false/\IntKind.i64.wrap (pv+1)=pv+1)):=by
    rcases Int.lt_or_le 0 pv with h | h
    ·have h2:e1.1=pv+1:=Classical.byContradiction fun hne=>hpe ⟨h,hne⟩
     refine .inr ⟨eq_true h,by rw [h2];simp,?_⟩
     unfold IntKind.wrap
     simp [IntKind.bits,IntKind.signed]
     omega
    ·exact .inl (eq_false (by omega))
   clear hpe hin
   refine wpIn_seq (wpIn_seq ?_)
   rcases HCASE.out with q1 | ⟨q1,q2,q3⟩
   all_goals
    clear HCASE
    refine aF (by rintro ⟨_,_,h⟩;exact h) rfl ?_
    go_wp2_with fail
    refine wpIn_cond_false rfl (wpIn_skip ?_)
    clear q1 k0 k3
    try clear q2 q3
    obtain ⟨sz,hsz⟩:∃x,9+ul=x:=⟨_,rfl⟩
    obtain ⟨qn,hqn⟩:∃x,pl+sz=x:=⟨_,rfl⟩
    have hs1:(pl:Int)+(sz:Int)=(qn:Int):=by omega
    have hs2:IntKind.i64.wrap (qn:Int)=(qn:Int):=by
     have:=HL.out
     unfold IntKind.wrap
     simp [IntKind.bits,IntKind.signed]
     omega
    have HN:Hid (9+ul=sz/\aR fs (k+1)=qn/\aR fs k=pl):=⟨hsz,by have:=HL.out;omega,HL.out.2.2.1⟩
    clear hsz hqn
    have HMM:Hid (∀y:World,w5.grownBy y none->y.cell? ⟨yb,0,none⟩=some (.func (.yield lp) #[] #[])/\y.cell? ⟨fb,1,none⟩=some (.slice ua ul uc)/\y.cell? ⟨eb,0,none⟩=some (.int .i64 e1.1)/\y.cell? ⟨eb,1,none⟩=some (.int .i64 e1.2.kind)/\y.cell? ⟨eb,2,none⟩=some (.int .i64 e1.2.token)/\y.cell? ⟨eb,3,none⟩=some (.int .i64 e1.2.session)/\y.cell? ⟨eb,4,none⟩=some (.int .i64 e1.2.number)/\y.cell? ⟨eb,5,none⟩=some (.int .i64 e1.2.mark)/\y.cell? ⟨eb,6,none⟩=some (.slice o1 o2 o3)):=fun y hy=>by
     have g:=aa HB.out.2.2.1 hy
     exact ⟨((HT0.out.blk HI.out.2.2.1 (.inl (by decide))).grown g (by simp)).cell 0,(HT3.out.2.2.2.2.1.grown g (by simp)).cell 1,blk7 (H5.out.1.grown hy (by simp))⟩
    refine wpIn_seq (wpIn_seq ?_)
    refine gN 9 (fun y=>w5.grownBy y none) (fun K a w=>wpOpIn (Fence.wide.inRound l') 0 Tryz.prog _ _ 9 K a w) (by rintro ⟨_,_,h⟩;exact h) rfl (by kernel_rfl) (fun K K' a w h hh=>wpOpIn_mono h hh) ?_
    have G0:Hid (w5.grownBy w5.drew none):=af _ _
    generalize w5.drew=wd at G0 ⊢
    have Jx':Idx [0,1,2,3,4,7]:=trivial
    iterate 6 (refine tky Jx' (G0.out) rfl rfl (fun wk hk=>by obtain ⟨m0,m1,m2,m3,m4,m5,m6,m7,m8⟩:=HMM.out wk hk;go_simp;try rfl) ?_;replace Jx':=Jx'.tl;try simp only [pN])
    refine fQ (i:=5) rfl (by decide) (by kernel_rfl) (by rfl) (fun K hK=>?_)
    go_wp2_with fail
    refine (Frame.kX ua ul uc wd (by have:=HL.out;omega)).mono ?_
    rintro e wx ⟨rfl,hwx⟩
    rw [hwx,HN.out.1]
    clear hwx
    go_wp2_with fail
    refine hK.out _ _ (fun _=>G0.out) ?_
    clear hK K Jx'
    try simp only [pN]
    have Jx':Idx [6,8]:=trivial
    iterate 2 (refine tky Jx' (G0.out) rfl rfl (fun wk hk=>by obtain ⟨m0,m1,m2,m3,m4,m5,m6,m7,m8⟩:=HMM.out wk hk;go_simp;try rfl) ?_;replace Jx':=Jx'.tl;try simp only [pN])
    clear Jx'
    refine qt (by kernel_rfl) ?_
    show wpOpIn _ _ _ _ _ 9 _ _ _
    have HXR:Hid (Xr fs k W0 wd #[recV pl qn (.slice o1 o2 o3) e1,.int .i64 0]):=by
     refine .inl ⟨by rw [HM.out.1];exact hkm,.slice o1 o2 o3,by rw [HE.out.2,HN.out.2.1,HN.out.2.2],?_⟩
     rw [HE.out.2]
     exact ((HE.out.1.grown H5.out.2.1).grown G0.out).mono (by have:=HT3.out;have:=HO.out;omega)
    have HYY:=HY.out k (k+1) G W0 wd _ HI.out.2.1 (by have:=HI.out.2.2.2.2.1;have:=HW.out;omega) ((HT0.out.mono (by have:=HW.out;omega)).trans (Tx.of_grown (aa HB.out.2.2.1 G0.out))) ⟨rfl,wC (by rw [HM.out.1];exact hkm),HXR.out⟩
    have hxs:∀i,kC #[recV pl qn (.slice o1 o2 o3) e1,.int .i64 0] i->fb<i/\i≠eb:=by
     rintro i (⟨x,hx,hb⟩ | ⟨c,x,hc,hx,hb⟩)
     ·simp at hx
      rcases hx with rfl | rfl <;> simp [recV,Value.ownBlock] at hb
     ·simp [recV] at hc
      subst hc
      simp at hx
      have hh:x=.slice o1 o2 o3:=by
       rcases hx with rfl | rfl | rfl | rfl | rfl | rfl | rfl | rfl | rfl <;> first | rfl | simp [Value.ownBlock] at hb
      subst hh
      have h1:=(HE.out.1.1.lt i hb).1
      refine ⟨by have:=HT3.out;omega,fun hie=>?_⟩
      have h2:=(HE.out.1.1.lt i hb).2
      have:=HB.out
      have:=H5.out.2.2
      omega
    refine iP (l':=l') HYY rfl rfl rfl rfl ?_
    rintro e W' (⟨rfl,G',hnew,hJ',hkept⟩ | ⟨rfl,hx,hkept⟩)
    ·refine ⟨_,rfl,?_⟩
     simp only [Act.put,List.setIfInBounds_toArray]
     have HK:Hid (J (k+1) G' W'/\il w.heap.size yb Fw G #[recV pl qn (.slice o1 o2 o3) e1,.int .i64 0] wd W'/\NewG G G' wd W'):=⟨hJ',hkept,hnew⟩
     clear hJ' hkept hnew HYY
     refine fQ (i:=10) rfl (by decide) (by kernel_rfl) (by rfl) (fun K hK=>?_)
     go_wp2_with fail
     refine hK.out _ _ (fun h=>by simp at h) ?_
     clear hK K
     try simp only [pN]
     refine im (by kernel_rfl) ?_
     refine wpIn_cond_false rfl (wpIn_skip ?_)
     have hh:=keep wd W' _ (aa HB.out.2.2.1 G0.out) (fun i hi=>(hxs i hi).1) HK.out.2.1
     have HH:Hid _:=hh
     have HEB:Hid (Blk W' eb 34 #[.int .i64 e1.1,.int .i64 e1.2.kind,.int .i64 e1.2.token,.int .i64 e1.2.session,.int .i64 e1.2.number,.int .i64 e1.2.mark,.slice o1 o2 o3]):=(H5.out.1.grown G0.out (by simp)).same (hh.2.2.2.2.2.2 eb HB.out.1 (by have:=G0.out.size;have:=HB.out;omega) (fun hi=>(hxs eb hi).2 rfl))
     have b0:=HEB.out.cell 0
     have b1:=hh.2.2.2.1.cell 0
     have b2:=hh.2.2.2.1.free 0
     simp at b0 b1
     clear hh
     refine aF (by rintro ⟨_,_,h⟩;exact h) rfl ?_
     go_wp2_with fail
     have hh:=HH.out
     have hset:=ae W' (yb+1) 0 (.int .i64 e1.1)
     have hbk:=hh.2.2.2.1.store 0 (.int .i64 e1.1)
     have hzs:(W'.setCell ⟨yb+1,0,none⟩ (.int .i64 e1.1)).heap.size=W'.heap.size:=by simp
     have htx:=Tx.set2 hh.2.2.2.1 (n0:=yb) (by omega) (.int .i64 e1.1)
     generalize W'.setCell ⟨yb+1,0,none⟩ (.int .i64 e1.1)=W9 at hset hbk hzs htx ⊢
     have z1:=HW.out
     have z2:=HK.out
     have z3:=HO.out
     have z4:=HI.out
     have hsz':=hh.2.2.2.2
     have hfb:=HT3.out.2.2.1
     have hno:∀i,i≠yb+1->i<W'.heap.size->W9.heap[i]? = W'.heap[i]?:=fun i h1 h2=>hset.block i h2 (by simp;omega)
     refine ⟨⟨(hno _ (by omega) (by omega)).trans hh.1.1,(hno _ (by omega) (by omega)).trans hh.1.2⟩,G',fun i hi=>⟨?_,by rw [hzs];exact (z2.2.2 i hi).2⟩,⟨by have:=hh.2.1.1;omega,fun i h1 h2 h3 h4 h5=>?_⟩,?_⟩
     ·rcases (z2.2.2 i hi).1 with h | h
      ·exact .inl h
      ·exact .inr (by omega)
     ·rw [hno i (fun e=>h3 (.inr (.inr e))) (by have:=hh.2.1.1;omega)]
      exact hh.2.1.2 i h1 h2 h3 h4 h5
     ·refine ⟨by omega,HJ.out _ _ _ _ z2.1 htx,hh.2.2.1.grown hset (by simp),?_,by omega,fun i hi=>⟨?_,by rw [hzs];exact (z2.2.2 i hi).2⟩⟩
      ·have hp':cT 0 (az 0 fs).1 (k+1)=e1.1:=by
        simp only [cT]
        rw [List.getElem?_eq_getElem (by rw [HM.out.1];exact hkm),HE.out.2]
       rw [hp']
       exact hbk
      ·rcases (z2.2.2 i hi).1 with h | h
       ·exact (z4.2.2.2.2.2 i h).1
       ·omega
    ·refine ⟨_,rfl,?_⟩
     simp only [Act.put,List.setIfInBounds_toArray]
     have HXX:Hid (Jx W'/\il w.heap.size yb Fw G #[recV pl qn (.slice o1 o2 o3) e1,.int .i64 0] wd W'):=⟨hx,hkept⟩
     clear hx HYY hkept
     refine fQ (i:=10) rfl (by decide) (by kernel_rfl) (by rfl) (fun K hK=>?_)
     go_wp2_with fail
     refine hK.out _ _ (fun h=>by simp at h) ?_
     clear hK K
     try simp only [pN]
     refine im (by kernel_rfl) ?_
     refine wpIn_cond_true rfl (wpIn_ret ?_)
     have hh:=keep wd W' _ (aa HB.out.2.2.1 G0.out) (fun i hi=>(hxs i hi).1) HXX.out.2
     exact ⟨hh.1,hh.2.1,.inr HXX.out.1⟩
  ·have hkm':k=m:=by have:=HI.out.1;omega
   have hlt:(az 0 fs).1.length<fs.length:=by rw [HM.out.1];omega
   have hB:=jx fs 0 hlt
   have hfk:(kd,fs[k].2)=fs[k]:=by rw [<-HL.out.2.1]
   rw [hfk] at hR
   have hB':bV fs[k]=none\/∃e,bV fs[k]=some e/\0<pv/\e.1≠pv+1:=by
    rw [<-HP.out]
    have e0:(az 0 fs).1.length=k:=by rw [HM.out.1,hkm']
    simp only [e0] at hB
    exact hB
   have hcase:∃(e1:PEnt) (o1:Option Addr) (o2 o3:Nat) (b:Bool),e=.returned (.tuple #[entV (.slice o1 o2 o3) e1,.bool b])/\(b=true->(0<pv)=True/\(e1.1 != pv+1)=true/\IntKind.i64.wrap (pv+1)=pv+1):=by
    rcases hR with ⟨e1,ov,he,rfl,oo⟩ | ⟨he,rfl⟩
    ·obtain ⟨o1,o2,o3,eo,_⟩:=aC.slice oo
     subst eo
     refine ⟨e1,o1,o2,o3,true,rfl,fun _=>?_⟩
     rcases hB' with h | ⟨e',h1,h2,h3⟩
     ·rw [h] at he;cases he
     ·rw [h1] at he
      cases he
      have hpv:pv<=4611686018427387904:=by
       have h4:=HP.out
       cases k with
       | zero=>simp [cT] at h4;omega
       | succ j =>
        have hj:j<(az 0 fs).1.length:=by rw [HM.out.1];omega
        simp only [cT] at h4
        rw [List.getElem?_eq_getElem hj] at h4
        simp only at h4
        rw [<-h4]
        exact (bZ.1 (fj hj).1).2.1
      refine ⟨eq_true h2,by simpa using h3,?_⟩
      unfold IntKind.wrap
      simp [IntKind.bits,IntKind.signed]
      omega
    ·exact ⟨_,_,_,_,false,rfl,fun h=>by cases h⟩
   obtain ⟨e1,o1,o2,o3,b,rfl,hb⟩:=hcase
   clear hB' hB hR hfk
   simp only [entV,entA]
   obtain ⟨w5,hw5,H5⟩:=al1 w4 #[.int .i64 e1.1,.int .i64 e1.2.kind,.int .i64 e1.2.token,.int .i64 e1.2.session,.int .i64 e1.2.number,.int .i64 e1.2.mark,.slice o1 o2 o3] 34
   have HBB:Hid (b=true->(0<pv)=True/\(e1.1 != pv+1)=true/\IntKind.i64.wrap (pv+1)=pv+1):=hb
   clear hb
   go_wp2_with fail
   try rw [hw5]
   obtain ⟨eb,heb⟩:∃x,w4.heap.size=x:=⟨_,rfl⟩
   rw [heb] at H5 ⊢
   have HB:Hid (fb<eb/\w5.heap.size=eb+1/\W3.grownBy w5 none):=⟨by have:=HQ.out.2;omega,H5.out.2.2,aa HQ.out.1 H5.out.2.1⟩
   have HKM:Hid (k=m/\(az 0 fs).1.length<fs.length):=⟨hkm',hlt⟩
   clear hw5 heb hkm hkm' hlt
   have k3:=((HT0.out.blk HI.out.2.2.2.1 (.inr (by have:=HW.out;omega))).grown HB.out.2.2 (by simp)).cell 0
   have k2:=((HT0.out.blk HI.out.2.2.1 (.inl (by decide))).grown HB.out.2.2 (by simp)).cell 0
   have k0:=H5.out.1.cell 0
   simp at k0 k2 k3
   refine wpIn_seq (wpIn_seq ?_)
   cases b
   all_goals
    try obtain ⟨q1,q2,q3⟩:=HBB.out rfl
    clear HBB
    refine aF (by rintro ⟨_,_,h⟩;exact h) rfl ?_
    go_wp2_with fail
    refine wpIn_cond_true rfl (wpIn_seq ?_)
    refine wpIn_region_lit ?_
    refine wpListIn_plain rfl fun K1 hK1=>da l' 0 (fun c=>by simp) ?_
    have HK1:Hid _:=hK1
    clear hK1
    go_wp2_with fail
    refine HK1.out _ _ ?_
    clear HK1 K1
    refine wpListIn_plain rfl fun K1 hK1=>da l' 0 (fun c=>by simp) ?_
    have HK1:Hid _:=hK1
    clear hK1
    go_wp2_with fail
    refine HK1.out _ _ ?_
    clear HK1 K1
    have HXR:Hid (Xr fs k W0 w5 #[recV 0 0 (.slice none 0 0) (0,bi),.int .i64 8]):=.inr ⟨by rw [HM.out.1];exact HKM.out.1,hk,rfl⟩
    have HYY:=HY.out k (k+1) G W0 w5 _ HI.out.2.1 (by have:=HI.out.2.2.2.2.1;have:=HW.out;omega) ((HT0.out.mono (by have:=HW.out;omega)).trans (Tx.of_grown HB.out.2.2)) ⟨rfl,by rw [lu HKM.out.2,HM.out.1,HKM.out.1];omega,HXR.out⟩
    have hxs:∀i,kC #[recV 0 0 (.slice none 0 0) (0,bi),.int .i64 8] i->fb<i:=by
     rintro i (⟨x,hx,hb⟩ | ⟨c,x,hc,hx,hb⟩)
     ·simp at hx
      rcases hx with rfl | rfl <;> simp [recV,Value.ownBlock] at hb
     ·simp [recV] at hc
      subst hc
      simp at hx
      rcases hx with rfl | rfl | rfl | rfl | rfl | rfl | rfl | rfl | rfl <;> simp [Value.ownBlock] at hb
    refine wpListIn_plain rfl fun K1 hK1=>iP (l':=l') HYY rfl rfl rfl rfl ?_
    rintro e W' (⟨rfl,G',hnew,hJ',hkept⟩ | ⟨rfl,hx,hkept⟩)
    ·refine ⟨_,rfl,hK1 _ _ ?_⟩
     refine wpListIn_nil ?_
     refine wpIn_ret ?_
     have hh:=keep w5 W' _ HB.out.2.2 hxs hkept
     exact ⟨hh.1,hh.2.1,.inl ⟨G',by rw [lu HKM.out.2,HM.out.1,<-HKM.out.1];exact hJ'⟩⟩
    ·refine ⟨_,rfl,hK1 _ _ ?_⟩
     refine wpListIn_nil ?_
     refine wpIn_ret ?_
     have hh:=keep w5 W' _ HB.out.2.2 hxs hkept
     exact ⟨hh.1,hh.2.1,.inr hx⟩
end Go.Proofs.YtadhfejefpildaaGreat
