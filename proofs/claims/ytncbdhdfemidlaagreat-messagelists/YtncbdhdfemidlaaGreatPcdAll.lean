import Derived.Test.YtncbdhdfemidlaaGreatPabAll
import Derived.Test.YtncbdhdfemidlaaGreatPrqAll
set_option maxHeartbeats 4000000
set_option maxRecDepth 100000
namespace Go.Proofs.YtncbdhdfemidlaaGreat
open Go.RowKit Disk Table
open _root_.Go.Proofs.YtncbdhdfemidlaaGreat.Calls _root_.Go.Proofs.YtncbdhdfemidlaaGreat.Command
def Stay (B E:Nat)(w:World)(v:Value)(l:List PMsg):Prop:=E<=w.heap.size/\∀W:World,(∀i,B<=i->i<E->W.heap[i]? = w.heap[i]?)->Msgs W v l
def Xw (l:List PMsg)(s s':Nat)(W0 W1:World)(xs:Array Value):Prop :=
 ∃(p:Nat) (h:p<l.length) (bv:Value),s<=p/\s'=p+1/\(∀i (hi:i<l.length),s<=i->i<p->okM l[i]=false)/\okM l[p]=true/\xs=#[.int .i64 (p:Nat),bv]/\Disk.Own W1 W0.heap.size bv (formM l[p])
def FinW (l:List PMsg)(s:Nat):Prop:=∀i (hi:i<l.length),s<=i->okM l[i]=false
theorem writtenS (Fw:Nat->Prop)(Bx B E:Nat)(v:Value)(l:List PMsg)(w:World)(hb:Blk w Bx 54 #[v])(hs:Stay B E w v l)(hG:∀m ∈ l,GoodM m)(hPs:∀i,B<=i->i<E->¬Fw i) :
  GivesS Tryz.prog 69 #[.pointer (some ⟨Bx,0,none⟩)] 0 (FinW l) (Xw l) Fw w:=by
 intro lp J Jx W hgW hJ hJx hY h0
 obtain ⟨ao,n,cap,rfl,hn,hn',_⟩:=msgs_open (hs.2 w fun _ _ _=>rfl)
 have HS:Hid (Stay B E w (.slice ao n cap) l/\(∀m ∈ l,GoodM m)/\(∀i,B<=i->i<E->¬Fw i)/\w.grownBy W none/\l.length=n):=⟨hs,hG,hPs,hgW,hn⟩
 have c0:=(hb.grown hgW (by simp)).cell 0
 simp at c0
 have HY:Hid _:=hY
 have HJT:Hid _:=hJ
 have HJ:Hid (J 0 (fun _=>False) W):=h0
 clear hn hs hb hgW hY hPs h0 hJ hJx hG
 show Calls Tryz.prog 69 #[.func (.yield lp) #[] #[],.pointer (some ⟨Bx,0,none⟩)] W _
 go_enter Tryz.func69,Tryz.ntmps69
 go_wp2_with fail
 go_loopw [9] (fun p wr=>∃(k s:Nat) (G:Nat->Prop),k<=n/\p=.int .i64 (k:Nat)/\Hid (s<=k/\(∀i (hi:i<l.length),s<=i->i<k->okM l[i]=false)/\J s G wr/\(∀i,G i->W.heap.size<=i/\i<wr.heap.size)/\W.heap.size<=wr.heap.size/\(∀i,B<=i->i<E->wr.heap[i]? = w.heap[i]?))) (fun p _=>n-(intOf p).toNat)
 case atStart=>exact ⟨0,0,fun _=>False,Nat.zero_le _,rfl,Nat.le_refl _,fun i _ _ h=>absurd h (by omega),HJ.out,fun _ h=>h.elim,Nat.le_refl _,fun i _ h=>HS.out.2.2.2.1.block i (Nat.lt_of_lt_of_le h HS.out.1.1) (by simp)⟩
 case round =>
  obtain ⟨k,s,G,hk,rfl,HI⟩:=hrel
  by_cases hlt:k<n
  ·obtain ⟨m,hm⟩:∃m,l[k]'(by rw [HS.out.2.2.2.2];exact hlt)=m:=⟨_,rfl⟩
   obtain ⟨b,off,o1,o2,o3,a1,a2,a3,e,q,qo,qa⟩:=msgs_at (HS.out.1.2 wr HI.out.2.2.2.2.2) k (by rw [HS.out.2.2.2.2];exact hlt)
   rw [hm] at q qo qa
   subst e
   have HM:Hid (Ops wr (.slice o1 o2 o3) m.ask.ops/\Seg wr (.slice a1 a2 a3) m.tell.answer/\GoodM m/\∃h:k<l.length,l[k]=m):=⟨qo,qa,HS.out.2.1 m (by rw [<-hm];exact List.getElem_mem _),_,hm⟩
   clear qo qa hm
   obtain ⟨q0,q1,q2,q3,q4,q5,q6,q7,q8,q9,q10,q11,q12⟩:=q
   rw [Nat.add_zero] at q0
   have i1:(k:Int)<(n:Int):=by omega
   have i2:(0:Int)<=(k:Int):=by omega
   go_upto_region 3 with fail
   clear q0 q1 q2 q3 q4 q5 q6 q7 q8 q9 q10 q11 q12
   obtain ⟨w1,hw1,H1⟩:=boxM wr o1 o2 o3 a1 a2 a3 m
   rw [hw1]
   clear hw1
   obtain ⟨q0,q1,q2,q3,q4,q5,q6,q7,q8,q9,q10,q11,q12⟩:=H1.out.1.cells
   go_wp2_with fail
   refine (bytes9 (.slice o1 o2 o3) (.slice a1 a2 a3) m w1 (HM.out.1.grown H1.out.2.1) (HM.out.2.1.grown H1.out.2.1) (by have:=HM.out.2.2.1.len;omega) HM.out.2.2.1.inm).mono ?_
   rintro e w2 ⟨u,rfl,ou,g2⟩
   obtain ⟨u1,u2,u3,rfl⟩:=isSl_on ou
   have G2:Hid (Disk.Own w2 w1.heap.size (.slice u1 u2 u3) (if okM m=true then formM m else [])/\wr.grownBy w2 none/\w1.heap.size=wr.heap.size+1):=⟨ou,grown_trans H1.out.2.1 g2,H1.out.2.2⟩
   clear ou g2 H1 q0 q1 q2 q3 q4 q5 q6 q7 q8 q9 q10 q11 q12
   by_cases hok:okM m=true
   ·have he:errM m=0:=by simp [errM,hok]
    rw [he]
    clear he
    go_upto_region 4 with fail
    rw [if_pos hok] at G2
    have HX:Hid (Xw l s (k+1) wr w2 #[.int .i64 (k:Nat),.slice u1 u2 u3]):=by
     obtain ⟨h1,h2⟩:=HM.out.2.2.2
     refine ⟨k,h1,.slice u1 u2 u3,HI.out.1,rfl,HI.out.2.1,by rw [h2];exact hok,rfl,?_⟩
     rw [h2]
     exact G2.out.1.mono (by have:=G2.out.2.2;omega)
    refine (wpIn_wide (n:=0)).1 (wpIn_region_lit ?_)
    iterate 6
     refine wpListIn_step fun K1 hK1=>?_
     rw [if_pos (by rfl)]
     refine Table.oper_wide 0 ?_
     have HK1:Hid _:=hK1
     clear hK1
     go_wp2_with fail
     refine HK1.out _ _ ?_
     clear HK1 K1
    refine wpListIn_step fun K1 hK1=>?_
    rw [if_pos (by rfl)]
    refine Table.yield_wide (HY.out s (k+1) G wr w2 _ HI.out.2.2.1 HI.out.2.2.2.2.1 (Tx.of_grown G2.out.2.1) HX.out) rfl rfl rfl rfl ?_
    rintro e W' (⟨rfl,G',hnew,hJ',hkept⟩ | ⟨rfl,hx,_⟩)
    ·refine ⟨_,rfl,hK1 _ _ ?_⟩
     clear hK1 K1
     simp only [Act.put,List.setIfInBounds_toArray,List.set_cons_zero,List.set_cons_succ]
     iterate 2
      refine wpListIn_step fun K1 hK1=>?_
      rw [if_pos (by rfl)]
      refine Table.oper_wide 0 ?_
      have HK1:Hid _:=hK1
      clear hK1
      go_wp2_with fail
      refine HK1.out _ _ ?_
      clear HK1 K1
     refine wpListIn_nil ?_
     refine (‹∀(a:Act) (w:World),Code.wp Tryz.prog _ (Exit.inBlock 1 _) a w->_› _ _ ?_)
     have HK:Hid (J (k+1) G' W'/\(∀i,G' i->W.heap.size<=i/\i<W'.heap.size)/\W.heap.size<=W'.heap.size/\(∀i,B<=i->i<E->W'.heap[i]? = w.heap[i]?)):=by
      have s1:=HI.out
      have s2:=HS.out.2.2.2.1.size
      have s3:=G2.out
      have s4:=s3.2.1.size
      have s5:=HS.out.1.1
      refine ⟨hJ',fun i hi=>⟨?_,(hnew i hi).2⟩,by have:=hkept.1;omega,fun i h1 h2=>?_⟩
      ·rcases (hnew i hi).1 with h | h
       ·exact (s1.2.2.2.1 i h).1
       ·omega
      ·rw [hkept.2 i (by omega) (.inl (by omega)) (HS.out.2.2.1 i h1 h2) ?_ fun h=>by have:=s1.2.2.2.1 i h;omega]
       ·rw [s3.2.1.block i (by omega) (by simp)]
        exact s1.2.2.2.2.2 i h1 h2
       ·rintro (⟨u,hu,hb⟩ | ⟨c,u,hc,hu,hb⟩)
        ·simp at hu
         rcases hu with rfl | rfl
         ·simp [Value.ownBlock] at hb
         ·have:=s3.1.lt i hb
          omega
        ·simp at hc
     clear hJ' hkept hnew
     go_wp2_with fail
     go_roundw
     case rel=>exact ⟨k+1,k+1,G',by omega,by go_num,Nat.le_refl _,fun i _ h1 h2=>absurd h2 (by omega),HK.out.1,HK.out.2.1,HK.out.2.2.1,HK.out.2.2.2⟩
     case measure=>simp [intOf];omega
    ·refine ⟨_,rfl,hK1 _ _ ?_⟩
     clear hK1 K1
     simp only [Act.put,List.setIfInBounds_toArray,List.set_cons_zero,List.set_cons_succ]
     iterate 2
      refine wpListIn_step fun K1 hK1=>?_
      rw [if_pos (by rfl)]
      refine Table.oper_wide 0 ?_
      have HK1:Hid _:=hK1
      clear hK1
      go_wp2_with fail
      refine HK1.out _ _ ?_
      clear HK1 K1
     refine wpListIn_nil ?_
     refine (‹∀(a:Act) (w:World),Code.wp Tryz.prog _ (Exit.inBlock 1 _) a w->_› _ _ ?_)
     have HXX:Hid (Jx W'):=hx
     clear hx
     go_wp2_with fail
     exact ⟨rfl,_,results_none rfl _ _ _,⟨_,rfl⟩,.inr HXX.out⟩
   ·have he:∃c,errM m=c/\¬c=0:=⟨_,rfl,by simp [errM,hok]⟩
    obtain ⟨c,hc,hc0⟩:=he
    rw [hc]
    clear hc
    have HK:Hid (J s G w2/\(∀i,G i->W.heap.size<=i/\i<w2.heap.size)/\W.heap.size<=w2.heap.size/\(∀i,B<=i->i<E->w2.heap[i]? = w.heap[i]?)/\s<=k+1/\∀i (hi:i<l.length),s<=i->i<k+1->okM l[i]=false):=by
     have s1:=HI.out
     have s2:=HS.out.2.2.2.1.size
     have s3:=G2.out
     have s4:=s3.2.1.size
     have s5:=HS.out.1.1
     refine ⟨HJT.out _ _ _ _ s1.2.2.1 (Tx.of_grown s3.2.1),fun i hi=>⟨(s1.2.2.2.1 i hi).1,by have:=(s1.2.2.2.1 i hi).2;omega⟩,by omega,fun i h1 h2=>?_,by omega,fun i hi h1 h2=>?_⟩
     ·rw [s3.2.1.block i (by omega) (by simp)]
      exact s1.2.2.2.2.2 i h1 h2
     ·by_cases e:i=k
      ·subst e
       obtain ⟨_,h⟩:=HM.out.2.2.2
       rw [h]
       simpa using hok
      ·exact s1.2.1 i hi h1 (by omega)
    go_wp2_with fail
    go_roundw
    case rel=>exact ⟨k+1,s,G,by omega,by go_num,HK.out.2.2.2.2.1,HK.out.2.2.2.2.2,HK.out.1,HK.out.2.1,HK.out.2.2.1,HK.out.2.2.2.1⟩
    case measure=>simp [intOf];omega
  ·have i1:¬(k:Int)<(n:Int):=by omega
   go_wp2_with fail
   refine ⟨rfl,_,results_none rfl _ _ _,⟨_,rfl⟩,.inl ⟨s,fun i hi h1=>HI.out.2.1 i hi h1 ?_,G,HI.out.2.2.1⟩⟩
   have:=HS.out.2.2.2.2
   omega
theorem opsOwn_keep {w w':World}{B:Nat}{v:Value}{l:List POp}(h:OpsOwn w B v l)(hs:∀i t c,Blk w i t c->B<=i->t=116\/t=5->w'.heap[i]? = w.heap[i]?):OpsOwn w' B v l:=by
 obtain ⟨⟨vs,h1,h2,h3,h4⟩,hl⟩:=h
 have own:∀{y:Value} {L:Bs},Disk.Own w B y L->Disk.Own w' B y L:=fun {y L} ho=>ho.same fun g hg=>by
  obtain ⟨cur,hb⟩:=owns_blk ho hg
  exact hs _ _ _ hb (ho.lt g hg).1 (.inr rfl)
 have cut:∀{y:Value} {L:Bs},Names.Cut w B y L->Names.Cut w' B y L:=fun {y L} hc=>by
  rcases hc with h | ⟨g,cap,rfl,h⟩
  ·exact .inl (own h)
  ·exact .inr ⟨g,cap,rfl,own h⟩
 refine ⟨⟨vs,?_,h2,h3,fun j a b=>?_⟩,hl⟩
 ·refine ⟨h1.1,?_⟩
  rcases h1.2 with h0 | ⟨g,cap,cur,e,hb,hg,hr⟩
  ·exact .inl h0
  ·exact .inr ⟨g,cap,cur,e,hb,(hs g 116 cur hg hb (.inl rfl)).trans hg,hr⟩
 ·obtain ⟨k,v,ol,t,e,ho⟩:=h4 j a b
  exact ⟨k,v,ol,t,e,cut ho.key,cut ho.value,cut ho.old,cut ho.tos,ho.fits⟩
theorem MsgsOwn.keep {w w':World}{B:Nat}{v:Value}{l:List PMsg}(h:MsgsOwn w B v l)(hs:∀i t c,Blk w i t c->B<=i->t=34\/t=116\/t=5->w'.heap[i]? = w.heap[i]?):MsgsOwn w' B v l:=by
 obtain ⟨⟨vs,h1,h2,h3,h4⟩,hl⟩:=h
 refine ⟨⟨vs,?_,h2,h3,fun j a b=>?_⟩,hl⟩
 ·refine ⟨h1.1,?_⟩
  rcases h1.2 with h0 | ⟨g,cap,cur,e,hb,hg,hr⟩
  ·exact .inl h0
  ·exact .inr ⟨g,cap,cur,e,hb,(hs g 34 cur hg hb (.inl rfl)).trans hg,hr⟩
 ·obtain ⟨ov,av,e,ho,ha⟩:=h4 j a b
  exact ⟨ov,av,e,opsOwn_keep ho fun i t c hb hB ht=>hs i t c hb hB (.inr ht),ha.same fun g hg=>by
   obtain ⟨cur,hb⟩:=owns_blk ha hg
   exact hs _ _ _ hb (ha.lt g hg).1 (.inr (.inr rfl))⟩
theorem MsgsOwn.tx {n0:Nat}{w w':World}{B:Nat}{v:Value}{l:List PMsg}(h:MsgsOwn w B v l)(ht:Tx n0 w w'):MsgsOwn w' B v l:=h.keep fun i t c hb _ e=>ht.block i hb.lt (.inr ⟨_,_,_,hb,by rcases e with rfl | rfl | rfl <;> decide⟩)
theorem MsgsOwn.stay {w:World}{B:Nat}{v:Value}{l:List PMsg}(h:MsgsOwn w B v l):Stay B w.heap.size w v l:=⟨Nat.le_refl _,fun _ hW=>(h.keep fun i _ _ hb hB _=>hW i hB hb.lt).msgs⟩
theorem cell_heap {w w':World}(h:∀i,i<w.heap.size->w'.heap[i]? = w.heap[i]?){b j:Nat}{v:Value}(hc:w.cell? ⟨b,j,none⟩=some v):w'.cell? ⟨b,j,none⟩=some v:=by
 have hb:w'.heap[b]? = w.heap[b]?:=by
  by_cases hlt:b<w.heap.size
  ·exact h b hlt
  ·unfold World.cell? at hc
   rw [Array.getElem?_eq_none (by simp;omega)] at hc
   simp at hc
 unfold World.cell? at hc ⊢
 simp only [hb]
 exact hc
theorem Ops.of_cells {w w':World}{v:Value}{l:List POp}(h:Ops w v l)(hc:∀b j (x:Value),w.cell? ⟨b,j,none⟩=some x->w'.cell? ⟨b,j,none⟩=some x):Ops w' v l:=by
 obtain ⟨ao,cap,hv,hl,h4⟩:=h
 refine ⟨ao,cap,hv,hl,fun j hj=>?_⟩
 obtain ⟨b,off,k,x,ol,t,e,h1,h2⟩:=h4 j hj
 exact ⟨b,off,k,x,ol,t,e,⟨hc _ _ _ h1.c0,hc _ _ _ h1.c1,hc _ _ _ h1.c2,hc _ _ _ h1.c3,hc _ _ _ h1.c4,hc _ _ _ h1.c5,hc _ _ _ h1.c6,hc _ _ _ h1.c7⟩,⟨h2.key.of_cells fun _ _ _ h=>hc _ _ _ h,h2.value.of_cells fun _ _ _ h=>hc _ _ _ h,h2.old.of_cells fun _ _ _ h=>hc _ _ _ h,h2.to.of_cells fun _ _ _ h=>hc _ _ _ h,h2.fits⟩⟩
theorem Msgs.stay {w:World}{v:Value}{l:List PMsg}(h:Msgs w v l):Stay 0 w.heap.size w v l:=by
 refine ⟨Nat.le_refl _,fun W hW=>?_⟩
 have hc:∀b j (x:Value),w.cell? ⟨b,j,none⟩=some x->W.cell? ⟨b,j,none⟩=some x:=fun b j x h=>cell_heap (fun i hi=>hW i (Nat.zero_le _) hi) h
 obtain ⟨ao,cap,e,hl,h⟩:=h
 refine ⟨ao,cap,e,hl,fun j hj=>?_⟩
 obtain ⟨b,off,ov,av,e,h1,h2,h3⟩:=h j hj
 exact ⟨b,off,ov,av,e,⟨hc _ _ _ h1.c0,hc _ _ _ h1.c1,hc _ _ _ h1.c2,hc _ _ _ h1.c3,hc _ _ _ h1.c4,hc _ _ _ h1.c5,hc _ _ _ h1.c6,hc _ _ _ h1.c7,hc _ _ _ h1.c8,hc _ _ _ h1.c9,hc _ _ _ h1.c10,hc _ _ _ h1.c11,hc _ _ _ h1.c12⟩,Ops.of_cells h2 hc,h3.of_cells fun _ _ _ h=>hc _ _ _ h⟩
theorem Stay.grown {B E:Nat}{w w':World}{v:Value}{l:List PMsg}(h:Stay B E w v l)(hz:E<=w'.heap.size)(hs:∀i,B<=i->i<E->w'.heap[i]? = w.heap[i]?):Stay B E w' v l:=⟨hz,fun W hW=>h.2 W fun i h1 h2=>(hW i h1 h2).trans (hs i h1 h2)⟩
def nowM (m:PMsg):PMsg:=if okM m=true then m else zeroM
def updM (l:List PMsg)(s:Nat):List PMsg:=l.mapIdx fun i m=>if i<s then nowM m else zeroM
theorem updM_zero (l:List PMsg):updM l 0=List.replicate l.length zeroM:=by
 apply List.ext_getElem
 ·simp [updM]
 ·intro i h1 h2
  simp [updM]
theorem updM_set {l:List PMsg}{s p:Nat}(hp:p<l.length)(hs:s<=p)(hb:∀i (hi:i<l.length),s<=i->i<p->okM l[i]=false)(hok:okM l[p]=true):(updM l s).set p l[p]=updM l (p+1):=by
 apply List.ext_getElem
 ·simp [updM]
 ·intro i h1 h2
  have hi:i<l.length:=by simpa [updM] using h2
  by_cases e:p=i
  ·subst e
   simp [updM,nowM,hok]
  ·rw [List.getElem_set_ne e]
   simp only [updM,List.getElem_mapIdx]
   by_cases h3:i<s
   ·rw [if_pos h3,if_pos (by omega)]
   ·rw [if_neg h3]
    by_cases h4:i<p+1
    ·rw [if_pos h4]
     simp [nowM,hb i hi (by omega) (by omega)]
    ·rw [if_neg h4]
theorem updM_fin {l:List PMsg}{s:Nat}(h:FinW l s):updM l s=l.map nowM:=by
 apply List.ext_getElem
 ·simp [updM]
 ·intro i h1 h2
  have hi:i<l.length:=by simpa using h2
  simp only [updM,List.getElem_mapIdx,List.getElem_map]
  by_cases h3:i<s
  ·rw [if_pos h3]
  ·rw [if_neg h3]
   simp [nowM,h i hi (by omega)]
theorem written44 (ao:Option Addr)(n cap:Nat)(w:World):Calls Tryz.prog 44 #[.slice ao n cap] w fun e w'=>e=.returned (.func (.func 69) #[] #[.pointer (some ⟨w.heap.size,0,none⟩)])/\Blk w' w.heap.size 54 #[.slice ao n cap]/\w.grownBy w' none/\w'.heap.size=w.heap.size+1:=by
 obtain ⟨W,hW,HW⟩:=al1 w #[.slice ao n cap] 54
 go_enter Tryz.func44,Tryz.ntmps44
 go_wp2_with fail
 go_ret
 exact ⟨rfl,HW.out⟩
def EachP (l:List PMsg)(w:World)(e:Ending)(w':World):Prop:=∃bx g,e=.returned (.func (.func 69) #[] #[.pointer (some ⟨bx,0,none⟩)])/\w.heap.size<=bx/\Blk w' bx 54 #[.slice (some ⟨g,0,none⟩) l.length l.length]/\MsgsOwn w' w.heap.size (.slice (some ⟨g,0,none⟩) l.length l.length) (l.map nowM)/\w.grownBy w' none
end Go.Proofs.YtncbdhdfemidlaaGreat
