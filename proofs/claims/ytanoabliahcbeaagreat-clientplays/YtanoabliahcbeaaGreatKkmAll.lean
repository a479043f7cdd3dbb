import Derived.Test.YtanoabliahcbeaaGreatKhiAll
set_option maxHeartbeats 8000000
set_option maxRecDepth 100000
namespace Go.Proofs.YtanoabliahcbeaaGreat.Wn
open Go.RowKit Disk Table
open _root_.Go.Proofs.YtanoabliahcbeaaGreat.Calls _root_.Go.Proofs.YtanoabliahcbeaaGreat.Command
variable {Q F:Nat->Prop} {w w':World} {b:Nat} {oa wo:Option Addr} {wc:Nat} {s:CS}
theorem al5 (w:World)(A B C D E:Array Value)(s t u x y:Nat):∃W,((((w.alloc (.cells A s)).alloc (.cells B t)).alloc (.cells C u)).alloc (.cells D x)).alloc (.cells E y)=W/\Hid (Blk W w.heap.size s A/\Blk W (w.heap.size+1) t B/\Blk W (w.heap.size+1+1) u C/\Blk W (w.heap.size+1+1+1) x D/\Blk W (w.heap.size+1+1+1+1) y E/\w.grownBy W none/\W.heap.size=w.heap.size+5):=by
 obtain ⟨w3,h3,H3⟩:=al3 w A B C s t u
 obtain ⟨W,hW,HW⟩:=al2 w3 D E x y
 have hz:w3.heap.size=w.heap.size+1+1+1:=by have:=H3.out.2.2.2.2;omega
 have g:=HW.out.2.2.1
 refine ⟨W,by rw [h3,hW],H3.out.1.grown g (by simp),H3.out.2.1.grown g (by simp),H3.out.2.2.1.grown g (by simp),?_,?_,grown_trans H3.out.2.2.2.1 g,by have:=HW.out.2.2.2;omega⟩
 ·rw [<-hz]
  exact HW.out.1
 ·rw [<-hz]
  exact HW.out.2.1
def RtR (B:Nat)(w:World)(x:List Value)(r:PRet):Prop:=∃av,x=[.int .i64 r.id,.int .i64 r.what,av]/\Disk.Own w B av r.ans
theorem rtR_stab (B:Nat):Stab (fun t=>t=5) (RtR B):=by
 refine ⟨fun w w' vs x h hg=>?_,fun w w' vs x g t cur h hb ht hg=>?_⟩
 ·obtain ⟨av,e,h1⟩:=h
  exact ⟨av,e,h1.grown hg⟩
 ·obtain ⟨av,e,h1⟩:=h
  exact ⟨av,e,own_set h1 hb ht hg⟩
def Rets (w:World)(B:Nat)(v:Value)(l:List PRet):Prop:=LRow 78 3 (RtR B) w B v l
theorem rets_nil (w:World)(B:Nat):Rets w B (.slice none 0 0) []:=lrow_nil _ _
theorem Rets.grown {w w':World}{B:Nat}{v:Value}{l:List PRet}(h:Rets w B v l)(hg:w.grownBy w' none):Rets w' B v l:=LRow.grown h (rtR_stab B) hg
theorem Rets.set {w w':World}{B x t':Nat}{v:Value}{l:List PRet}{cc:Array Value}(h:Rets w B v l)(hx:Blk w x t' cc)(h1:t'≠78)(h2:t'≠5)(hg:w.grownBy w' (some x)):Rets w' B v l:=LRow.set h (rtR_stab B) hx h1 h2 hg
theorem Rets.tx {n0:Nat}{w w':World}{B:Nat}{v:Value}{l:List PRet}(h:Rets w B v l)(ht:Tx n0 w w'):Rets w' B v l:=by
 obtain ⟨vs,h1,h2,h3,h4⟩:=h
 refine ⟨vs,ht.row h1 (by decide),h2,h3,fun j a b=>?_⟩
 obtain ⟨av,e,ha⟩:=h4 j a b
 exact ⟨av,e,ht.own ha⟩
theorem Rets.fr {w w':World}{G:Nat->Prop}{B:Nat}{v:Value}{l:List PRet}(h:Rets w B v l)(hf:Fr w w' G)(hG:Gt w G)(hv:∀k,v.ownBlock=some k->¬G k):Rets w' B v l:=by
 obtain ⟨vs,h1,h2,h3,h4⟩:=h
 refine ⟨vs,owns_fr h1 hf hv,h2,h3,fun j a b=>?_⟩
 obtain ⟨av,e,ha⟩:=h4 j a b
 exact ⟨av,e,own_fr ha hf hG⟩
theorem Rets.slice {w:World}{B:Nat}{v:Value}{l:List PRet}(h:Rets w B v l):∃x n y,v=.slice x n y:=by
 obtain ⟨x,y,e⟩:=LRow.shape h
 exact ⟨x,_,y,e⟩
theorem Rets.blk {w:World}{B:Nat}{v:Value}{l:List PRet}(h:Rets w B v l):∀i,v.ownBlock=some i->B<=i/\i<w.heap.size/\∃C,Blk w i 78 C:=by
 intro i hi
 obtain ⟨vs,h1,_⟩:=h
 exact ⟨(World.ownsRow.lt h1 i hi).1,(World.ownsRow.lt h1 i hi).2,owns_blk h1 hi⟩
theorem own_made (w:World):Disk.Own (w.alloc (.cells #[] 5)) w.heap.size (.slice (some ⟨w.heap.size,0,none⟩) 0 0) [] :=
 ⟨rfl,.inr ⟨w.heap.size,0,#[],rfl,Nat.le_refl _,heap_alloc_new w _,Nat.le_refl _,Nat.zero_le _,rfl,rfl⟩⟩
def CloneB (L:Bs)(w:World)(e:Ending)(w':World):Prop:=∃u,e=.returned u/\Disk.Own w' w.heap.size u L/\w.grownBy w' none
theorem clone107 (v:Value)(L:Bs)(w:World)(h:Seg w v L)(hl:L.length<=140737488355328):Calls Tryz.prog 107 #[v] w (CloneB L w):=by
 have e1:=eql22
 obtain ⟨ao,cap,rfl,h1,h2,h3,h4⟩:=id h
 obtain ⟨n,hn⟩:∃n,L.length=n:=⟨_,rfl⟩
 have HN:Hid (Seg w (.slice ao n cap) L/\n<=140737488355328/\(ao=none->L=[])/\L.length=n):=⟨by rw [<-hn];exact h,by omega,fun e=>List.eq_nil_of_length_eq_zero (by have:=h3 e;omega),hn⟩
 rw [hn]
 clear h hl h1 h2 h3 h4 hn
 cases ao with
 | none =>
  go_enter Tryz.func107,Tryz.ntmps107
  go_wp2_with fail
  go_ret
  refine ⟨_,rfl,?_,grown_refl _ _⟩
  rw [show L=[] from HN.out.2.2.1 trivial]
  exact Own.nil _ _
 | some ad =>
  go_enter Tryz.func107,Tryz.ntmps107
  go_wp2_with (at_builtin;refine app22 _ rfl _ _ rfl w.heap.size _ [] _ L rfl rfl (own_made w) (HN.out.1.grown (World.grownBy_alloc _ _ _)) ?c0 ?c1 ?_)
  case c0=>have:=HN.out;simp;omega
  case c1=>simp
  intro v' w1 hr hg hv
  have H1:Hid (Disk.Own w1 w.heap.size v' L/\w.grownBy w1 none):=⟨hr,grown_new (World.grownBy_alloc w _ none) hg (by intro x hx;simp [Value.ownBlock] at hx;omega)⟩
  clear hr hg hv
  go_wp2_with fail
  go_ret
  exact ⟨_,rfl,H1.out⟩
theorem info78:(Tryz.prog.info? 78).map (fun i=>(i.zero,i.size,i.bytes))=some (some (.agg #[.int .i64 0,.int .i64 0,.slice none 0 0]),3,40):=by kernel_rfl
variable {Q F:Nat->Prop} {w w':World} {b:Nat} {oa wo:Option Addr} {wc:Nat} {s:CS}
structure Eg (Q F:Nat->Prop)(w:World)(b ob:Nat)(v:Value)(wo:Option Addr)(wc:Nat)(s:CS)(fv:Value)(P:Nat->Bool)(what:Int)(av:Value)(ans:Bs)(x4 x5 x6 x7 x9 sz:Nat)(k:Nat)(vl:Value)(Qk:Nat->Prop)(A:World):Prop where
 rg:Rg Q F w b ob v wo wc s (mapUp (endF P) s.L k) Qk A
 b4:Blk A x4 27 #[.pointer (some ⟨b,0,none⟩)]
 b5:Blk A x5 116 #[fv]
 b6:Blk A x6 52 #[.int .i64 what]
 b7:Blk A x7 41 #[av]
 own:Disk.Own A 0 av ans
 b9:Blk A x9 61 #[vl]
 ms:Rets A w.heap.size vl (gather (endG P what ans) s.L k)
 szs:sz<=A.heap.size
 row:∀i,vl.ownBlock=some i->sz+2<=i
section
variable {fv av vl v:Value} {P:Nat->Bool} {what:Int} {ans:Bs} {ob x4 x5 x6 x7 x9 sz k n0:Nat} {Qk:Nat->Prop} {A A':World}
theorem Eg.tx (h:Eg Q F w b ob v wo wc s fv P what av ans x4 x5 x6 x7 x9 sz k vl Qk A)(ht:Tx n0 A A')(hn:w.heap.size<=n0):Eg Q F w b ob v wo wc s fv P what av ans x4 x5 x6 x7 x9 sz k vl Qk A' :=
 ⟨h.rg.tx ht hn,ht.blk h.b4 (.inl (by decide)),ht.blk h.b5 (.inl (by decide)),ht.blk h.b6 (.inl (by decide)),ht.blk h.b7 (.inl (by decide)),ht.own h.own,ht.blk h.b9 (.inl (by decide)),h.ms.tx ht,Nat.le_trans h.szs ht.size,h.row⟩
theorem Eg.grown (h:Eg Q F w b ob v wo wc s fv P what av ans x4 x5 x6 x7 x9 sz k vl Qk A)(hg:A.grownBy A' none):Eg Q F w b ob v wo wc s fv P what av ans x4 x5 x6 x7 x9 sz k vl Qk A' :=
 ⟨h.rg.grown hg,h.b4.grown hg (by simp),h.b5.grown hg (by simp),h.b6.grown hg (by simp),h.b7.grown hg (by simp),h.own.grown hg,h.b9.grown hg (by simp),h.ms.grown hg,Nat.le_trans h.szs hg.size,h.row⟩
theorem eg_put {g n cap:Nat}{M:List (Option Cr)}{l l':List PRet}{A2:World}(hrg:Rg Q F w b ob v wo wc s M Qk A)(hM:M=mapUp (endF P) s.L k)(h4:Blk A x4 27 #[.pointer (some ⟨b,0,none⟩)])(h5:Blk A x5 116 #[fv])(h6:Blk A x6 52 #[.int .i64 what])(h7:Blk A x7 41 #[av])(ho:Disk.Own A 0 av ans)(h9:Blk A x9 61 #[vl])(hw9:w.heap.size<=x9)
  (hrow:Rets A w.heap.size vl l) (hrr:∀i,vl.ownBlock=some i->sz+2<=i) (hr2:Rets A2 w.heap.size (.slice (some ⟨g,0,none⟩) n cap) l') (hl':l'=gather (endG P what ans) s.L k) (hg:A.grownBy A2 vl.ownBlock) (hgg:vl.ownBlock=some g\/g=A.heap.size) (hsz:sz+2<=A.heap.size) :
  Eg Q F w b ob v wo wc s fv P what av ans x4 x5 x6 x7 x9 sz k (.slice (some ⟨g,0,none⟩) n cap) (Bx (Bx Qk A) A2) (A2.setCell ⟨x9,0,none⟩ (.slice (some ⟨g,0,none⟩) n cap))/\Fr A (A2.setCell ⟨x9,0,none⟩ (.slice (some ⟨g,0,none⟩) n cap)) (fun i=>i=x9\/vl.ownBlock=some i)/\g<A2.heap.size:=by
 subst hM
 subst hl'
 have gs:=grown_setCell A2 x9 0 (.slice (some ⟨g,0,none⟩) n cap)
 have ne:∀{t:Nat} {c:Array Value} {x:Nat},Blk A x t c->t≠78->vl.ownBlock≠some x:=fun hx ht e=>by
  obtain ⟨_,_,C,hC⟩:=hrow.blk _ e
  exact ht (blk_type hx hC)
 have nx:∀{t:Nat} {c:Array Value} {x:Nat},Blk A x t c->t≠61->x≠x9:=fun hx ht e=>by
  subst e
  exact ht (blk_type hx h9)
 have keep:∀{t:Nat} {c:Array Value} {x:Nat},Blk A x t c->t≠78->t≠61->Blk (A2.setCell ⟨x9,0,none⟩ (.slice (some ⟨g,0,none⟩) n cap)) x t c:=fun hx h1 h2=>(hx.grown hg (ne hx h1)).grown gs (by have:=nx hx h2;simp;omega)
 have b9:=h9.grown hg (ne h9 (by decide))
 have fr:Fr A (A2.setCell ⟨x9,0,none⟩ (.slice (some ⟨g,0,none⟩) n cap)) (fun i=>i=x9\/vl.ownBlock=some i):=(Fr.of (F:=fun i=>i=x9\/vl.ownBlock=some i) hg fun k hk=>.inr hk).trans (Fr.of (F:=fun i=>i=x9\/vl.ownBlock=some i) gs fun k hk=>by simp at hk;exact .inl hk.symm) fun i hi=>.inl hi
 have hG:Gt A (fun i=>i=x9\/vl.ownBlock=some i):=fun i hi=>by
  rcases hi with hi | hi
  ·subst hi
   exact ⟨61,_,h9,by decide,by decide⟩
  ·obtain ⟨_,_,C,hC⟩:=hrow.blk _ hi
   exact ⟨78,C,hC,by decide,by decide⟩
 refine ⟨⟨(hrg.but hg fun x hx=>?_).but gs fun x hx=>?_,keep h4 (by decide) (by decide),keep h5 (by decide) (by decide),keep h6 (by decide) (by decide),keep h7 (by decide) (by decide),own_fr ho fr hG,b9.store 0 _,hr2.set b9 (by decide) (by decide) gs,?_,fun i hi=>?_⟩,fr,?_⟩
 ·obtain ⟨e1,_,C,hC⟩:=hrow.blk x hx
  exact ⟨e1,78,C,hC,by unfold KT;omega,by decide,by decide⟩
 ·simp at hx
  subst hx
  exact ⟨hw9,61,_,b9,by unfold KT;omega,by decide,by decide⟩
 ·have:=hg.size
  have:=gs.size
  omega
 ·simp [Value.ownBlock] at hi
  subst hi
  rcases hgg with e | e
  ·exact hrr _ e
  ·omega
 ·exact (hr2.blk g rfl).2.1
end
def EndP (Q F:Nat->Prop)(b:Nat)(s:CS)(P:Nat->Bool)(what:Int)(ans:Bs)(w:World)(e:Ending)(w':World):Prop:=∃v,e=.returned v/\Rets w' w.heap.size v (s.rets P what ans)/\Stp Q F w b (s.ended P) w'
theorem end_80 (w:World)(P:Nat->Bool)(what:Int)(ao:Option Addr)(an ac:Nat)(ans:Bs)(h:Cm Q F w b oa wo wc s)(h0:s.ses≠0)(ha:Disk.Own w 0 (.slice ao an ac) ans)(hl:ans.length<=140737488355328)
  (hfv:∀y,Fr w y F->y.cell? ⟨b,7,none⟩=some (.int .i64 s.ses)->∀j:Nat,(j:Int)<=1000000000000->Calls Tryz.prog 80 #[.int .i64 ((j:Int)+1)] y fun e y'=>e=.returned (.bool (P j))/\y.grownBy y' none) :
  Calls Tryz.prog 79 #[.pointer (some ⟨b,0,none⟩),.func (.func 80) #[] #[],.int .i64 what,.slice ao an ac] w (EndP Q F b s P what ans w):=by
 obtain ⟨h1,ob,v,rfl,hw,hF⟩:=h.yeswin h0
 have HC:Hid (Cm Q F w b (some ⟨ob,0,none⟩) wo wc s/\Win Q w ob v s.size s.L (lead s.L)/\1<=s.ses/\(∀i,FN ob v i->F i)/\Goes (some ⟨ob,0,none⟩) s.L w):=⟨h,hw,h1,hF,wgoes w h⟩
 have HA0:Hid (Disk.Own w 0 (.slice ao an ac) ans/\ans.length<=140737488355328):=⟨ha,hl⟩
 have HFV:Hid (∀y,Fr w y F->y.cell? ⟨b,7,none⟩=some (.int .i64 s.ses)->∀j:Nat,(j:Int)<=1000000000000->Calls Tryz.prog 80 #[.int .i64 ((j:Int)+1)] y fun e y'=>e=.returned (.bool (P j))/\y.grownBy y' none):=hfv
 have HFN:Hid (∀i,FN ob v i->i<w.heap.size/\∀c,¬Blk w i 105 c):=fun i hi=>⟨hw.lt i hi,fun c hb=>h.fn_ne hw hb (by decide) (by decide) hi⟩
 have c8:=h.blk.cell 8
 simp at c8
 clear h hw h1 hF h0 ha hl hfv
 refine calls_marks Tryz.func79 rfl ?_
 simp only [Tryz.ntmps79,List.size_toArray,List.length_cons,List.length_nil,Nat.reduceAdd,Nat.reduceSub,Array.replicate_succ,Array.replicate_zero,List.push_toArray,List.append_toArray,List.nil_append,List.cons_append]
 go_upto_region 2 with fail
 obtain ⟨w1,hw1,H1⟩:=al5 w #[.pointer (some ⟨b,0,none⟩)] #[.func (.func 80) #[] #[]] #[.int .i64 what] #[.slice ao an ac] #[.slice none 0 0] 27 116 52 41 61
 obtain ⟨x4,hx4⟩:∃x,w.heap.size=x:=⟨_,rfl⟩
 obtain ⟨x5,hx5⟩:∃x,x4+1=x:=⟨_,rfl⟩
 obtain ⟨x6,hx6⟩:∃x,x5+1=x:=⟨_,rfl⟩
 obtain ⟨x7,hx7⟩:∃x,x6+1=x:=⟨_,rfl⟩
 obtain ⟨x9,hx9⟩:∃x,x7+1=x:=⟨_,rfl⟩
 rw [hw1]
 rw [hx4,hx5,hx6,hx7,hx9] at H1 ⊢
 clear hw1
 have k0:=H1.out.1.cell 0
 have k8:=H1.out.2.2.2.2.2.1.cell c8 (by simp)
 simp at k0
 go_wp2_with fail
 refine (all_any (some ⟨ob,0,none⟩) w1).mono ?_
 rintro e w2 ⟨rfl,hbk,hg2,hsz2⟩
 obtain ⟨bx,hbx⟩:∃x,w1.heap.size=x:=⟨_,rfl⟩
 rw [hbx] at hbk hsz2 ⊢
 have H2:Hid (Blk w2 x4 27 #[.pointer (some ⟨b,0,none⟩)]/\Blk w2 x5 116 #[.func (.func 80) #[] #[]]/\Blk w2 x6 52 #[.int .i64 what]/\Blk w2 x7 41 #[.slice ao an ac]/\Blk w2 x9 61 #[.slice none 0 0]/\Blk w2 bx 82 #[.pointer (some ⟨ob,0,none⟩)]/\w.grownBy w2 none/\w2.heap.size=bx+1/\w.heap.size=x4/\x4<x5/\x5<x6/\x6<x7/\x7<x9/\x9<bx):=by
  have h:=H1.out
  exact ⟨h.1.grown hg2 (by simp),h.2.1.grown hg2 (by simp),h.2.2.1.grown hg2 (by simp),h.2.2.2.1.grown hg2 (by simp),h.2.2.2.2.1.grown hg2 (by simp),hbk,grown_trans h.2.2.2.2.2.1 hg2,hsz2,hx4,by omega,by omega,by omega,by omega,by have:=h.2.2.2.2.2.2;omega⟩
 clear hbk hg2 hsz2 hbx hx4 hx5 hx6 hx7 hx9 H1 k0 k8 c8
 go_wp2_with fail
 obtain ⟨sz,hsz⟩:∃x,w2.heap.size=x:=⟨_,rfl⟩
 have HSZ:Hid (w2.heap.size=sz/\x9<sz/\sz=bx+1):=⟨hsz,by have:=H2.out;omega,by have:=H2.out;omega⟩
 clear hsz
 have HGV:Hid (GivesS Tryz.prog 91 #[.pointer (some ⟨bx,0,none⟩)] 0 (Fino s.L) (Xo s.L) (fun i=>FN ob v i\/i=x9) w2):=HC.out.2.2.2.2 bx w2 H2.out.2.2.2.2.2.2.1 H2.out.2.2.2.2.2.1 _ fun i hi=>by
  have h2:=H2.out
  rcases hi with hi | hi
  ·have:=HFN.out i hi
   exact ⟨by have:=h2.2.2.2.2.2.2.1.size;omega,this.2⟩
  ·have hi':i=x9:=hi
   exact ⟨by omega,fun c hb=>by have:=hb.lt;omega⟩
 refine wp_rangeB (id:=0) (gf:=91) (lb:=#[.pointer (some ⟨bx,0,none⟩)]) rfl (enters_of Tryz.func91 (by kernel_rfl) rfl) HGV.out ?hps
  (fun k G A=>Hid (∃vl Qk,Eg Q F w b ob v wo wc s (.func (.func 80) #[] #[]) P what (.slice ao an ac) ans x4 x5 x6 x7 x9 sz k vl Qk A/\(∀i,vl.ownBlock=some i->G i)))
  (fun _=>False) ?hIg ?hXg ?h0 ?hround
  (fun A=>Hid (∃vl Qk,Eg Q F w b ob v wo wc s (.func (.func 80) #[] #[]) P what (.slice ao an ac) ans x4 x5 x6 x7 x9 sz s.L.length vl Qk A)) ?hdone ?hstop ?hnext
 case hps =>
  rintro k k' W0 W1 xs ⟨_,_,_,_,_,_,rfl⟩
  rfl
 case hIg =>
  rintro k G A B HI ht
  obtain ⟨vl,Qk,hs,hG⟩:=HI.out
  exact ⟨vl,Qk,hs.tx ht (by have:=H2.out;have:=HSZ.out;omega),hG⟩
 case hXg=>exact fun _ _ h _=>h
 case h0 =>
  have h2:=H2.out
  refine ⟨.slice none 0 0,Q,⟨?_,h2.1,h2.2.1,h2.2.2.1,h2.2.2.2.1,HA0.out.1.grown h2.2.2.2.2.2.2.1,h2.2.2.2.2.1,rets_nil _ _,Nat.le_of_eq HSZ.out.1.symm,fun i hi=>by simp [Value.ownBlock] at hi⟩,fun i hi=>by simp [Value.ownBlock] at hi⟩
  rw [mapUp_zero]
  exact (Rg.of HC.out.1 HC.out.2.1 HC.out.2.2.1 HC.out.2.2.2.1).grown h2.2.2.2.2.2.2.1
 case hdone =>
  rintro A k G hfin HI
  obtain ⟨vl,Qk,hs,hG⟩:=HI.out
  refine ⟨vl,Qk,?_⟩
  obtain ⟨a1,a2,a3,a4,a5,a6,a7,a8,a9,a10⟩:=hs
  rw [mapUp_fin hfin] at a1
  rw [gather_fin hfin] at a8
  exact ⟨a1,a2,a3,a4,a5,a6,a7,a8,a9,a10⟩
 case hstop=>exact fun _ h=>h.elim
 case hnext =>
  intro A HB hd
  obtain ⟨vl,Qk,hs⟩:=HB.out
  have HS:Hid (Eg Q F w b ob v wo wc s (.func (.func 80) #[] #[]) P what (.slice ao an ac) ans x4 x5 x6 x7 x9 sz s.L.length vl Qk A):=hs
  clear HB hs
  refine (‹∀(a:Act) (w:World),Code.wp Tryz.prog _ _ a w->_› _ _ ?_)
  have v0:=HS.out.b9.cell 0
  simp at v0
  have HD:Hid (A.heap[w2.heap.size]? = some (.deferred (some []))):=hd
  clear hd
  go_wp2_with fail
  refine ⟨by simp,.inl ⟨_,_,rfl,run_takeDeferred HD.out,?_⟩⟩
  have t1:=Tx.putD (n0:=w.heap.size) (.deferred none) HD.out (by have:=HSZ.out;have:=H2.out;omega)
  exact ⟨_,by simp [results,Tryz.results79,go_sem],vl,rfl,HS.out.ms.tx t1,(HS.out.rg.tx t1 (Nat.le_refl _)).stp⟩
 case hround =>
  rintro l' k k' G W0 W1 xs HI0 hlt0 htn ⟨j,c,hkj,hj,hno,rfl,rfl⟩ ⟨rc,hrc⟩
  obtain ⟨vl,Qk,hs,hG⟩:=HI0.out
  obtain ⟨vo,vn,vc,rfl⟩:=hs.ms.slice
  have HNP:Hid (∀i,F i\/Qk i->i<W1.heap.size):=fun i hi=>by
   have:=htn.size
   rcases hi with hi | hi
   ·have:=hs.rg.cm.flt i hi;omega
   ·have:=hs.rg.cm.qlt i hi;omega
  have HK:Hid (k<=j/\s.L[j]? = some (some c)/\(∀i,k<=i->i<j->s.L[i]? = some none)/\j<s.L.length):=⟨hkj,hj,hno,(List.getElem?_eq_some_iff.1 hj).1⟩
  have HMU:Hid ((mapUp (endF P) s.L k)[j]? = some (some c)/\mapUp (endF P) s.L (j+1)=(mapUp (endF P) s.L k).set j (endF P j c)/\gather (endG P what ans) s.L (j+1)=gather (endG P what ans) s.L k ++ endG P what ans j c):=⟨mapUp_at hkj hj,mapUp_step hkj hj hno,gather_step hkj hj hno⟩
  have HO:Hid (Tx (w2.heap.size+2) W0 W1/\w2.heap.size+1<W0.heap.size/\W1.heap[w2.heap.size+1]? = some (.loop rc)):=⟨htn,hlt0,hrc⟩
  have HS0:Hid (Eg Q F w b ob v wo wc s (.func (.func 80) #[] #[]) P what (.slice ao an ac) ans x4 x5 x6 x7 x9 sz k (.slice vo vn vc) Qk W0/\(∀i,(Value.slice vo vn vc).ownBlock=some i->G i)):=⟨hs,hG⟩
  clear htn hlt0 hrc hkj hj hno hs hG HI0
  simp only [List.zip_toArray,List.zip_cons_cons,List.zip_nil_right,List.foldl_toArray',List.size_toArray,List.foldl_cons,List.foldl_nil,List.setIfInBounds_toArray,List.set_cons_zero,List.set_cons_succ]
  refine wpIn_seq ?_
  refine region_round (by rintro ⟨_,_,h⟩;exact h) rfl ?_
  go_wp2_with fail
  have HZ:Hid (Blk (W1.alloc (.cells #[.int .i64 0,.slice none 0 0,.bool false,.int .i64 0] 105)) W1.heap.size 105 #[.int .i64 0,.slice none 0 0,.bool false,.int .i64 0]):=heap_alloc_new W1 _
  obtain ⟨y0,y1,y2,y3⟩:=cells4 HZ.out
  obtain ⟨z0,z1,z2,z3⟩:=frees4 HZ.out
  obtain ⟨Wa,hWa,HA⟩:=al1 W1 #[.int .i64 c.id,.slice c.o c.n c.c,.bool c.was,.int .i64 c.tm] 105
  have HWa:Hid (W1.alloc (.cells #[.int .i64 c.id,.slice c.o c.n c.c,.bool c.was,.int .i64 c.tm] 105)=Wa):=hWa
  clear hWa
  refine region_round (by rintro ⟨_,_,h⟩;exact h) rfl ?_
  go_wp2_with fail
  rw [HWa.out]
  obtain ⟨p5,hp5⟩:∃x,W1.heap.size=x:=⟨_,rfl⟩
  rw [hp5] at HA ⊢
  have HP5:Hid (W1.heap.size=p5/\sz+2<=p5):=⟨hp5,by have:=HO.out.1.size;have:=HO.out.2.1;have:=HSZ.out;omega⟩
  clear y0 y1 y2 y3 z0 z1 z2 z3 HZ HWa hp5
  refine ⟨HA.out.2.1,fun r=>?_⟩
  obtain ⟨W4,hW4⟩:∃W,Wa.putObj (w2.heap.size+1) (.loop r)=W:=⟨_,rfl⟩
  have HL:Hid (Wa.heap[w2.heap.size+1]? = some (.loop rc)):=by
   rw [Hid,HA.out.2.1.block _ (by have:=HO.out;have:=this.1.size;omega) (by simp)]
   exact HO.out.2.2
  have HT4:Hid (Tx (w2.heap.size+1) W0 W4/\W4.heap.size=p5+1/\(∀i,i≠w2.heap.size+1->W4.heap[i]? = Wa.heap[i]?)/\Blk W4 p5 105 #[.int .i64 c.id,.slice c.o c.n c.c,.bool c.was,.int .i64 c.tm]):=by
   have ht:Tx (w2.heap.size+1) Wa W4:=by rw [<-hW4];exact Tx.put _ HL.out (Nat.le_refl _)
   exact ⟨((HO.out.1.mono (Nat.le_succ _)).trans (Tx.of_grown HA.out.2.1)).trans ht,by rw [<-hW4];simp only [World.putObj,Array.size_setIfInBounds];have:=HA.out.2.2;have:=HP5.out;omega,fun i hi=>by rw [<-hW4,World.putObj_heap_other hi],ht.blk HA.out.1 (.inl (by decide))⟩
  rw [hW4]
  clear hW4
  have HS4:Hid (Eg Q F w b ob v wo wc s (.func (.func 80) #[] #[]) P what (.slice ao an ac) ans x4 x5 x6 x7 x9 sz k (.slice vo vn vc) Qk W4):=HS0.out.1.tx HT4.out.1 (by have:=H2.out;have:=HSZ.out;omega)
  have HEND:Hid (∀(vl':Value) (Q':Nat->Prop) (W':World),Eg Q F w b ob v wo wc s (.func (.func 80) #[] #[]) P what (.slice ao an ac) ans x4 x5 x6 x7 x9 sz (j+1) vl' Q' W'->Fr W4 W' (fun i=>FN ob v i\/i=x9\/(Value.slice vo vn vc).ownBlock=some i\/i=p5)->(∀i,vl'.ownBlock=some i->((Value.slice vo vn vc).ownBlock=some i\/p5<=i)/\i<W'.heap.size) →
    (W'.heap[w2.heap.size]? = W4.heap[w2.heap.size]?/\W'.heap[w2.heap.size+1]? = W4.heap[w2.heap.size+1]?)/\∃G',NewG G G' W1 W'/\KeptG w2.heap.size (w2.heap.size+2) (fun i=>FN ob v i\/i=x9) G #[.int .i64 (j+1:Nat),.agg #[.int .i64 c.id,.slice c.o c.n c.c,.bool c.was,.int .i64 c.tm]] W1 W'/\Hid (∃vl Qk,Eg Q F w b ob v wo wc s (.func (.func 80) #[] #[]) P what (.slice ao an ac) ans x4 x5 x6 x7 x9 sz (j+1) vl Qk W'/\(∀i,vl.ownBlock=some i->G' i))):=by
   intro vl' Q' W' hs' hf hn
   have h2:=H2.out
   have hz:=HSZ.out
   have h4:=HT4.out
   have hp:=HP5.out
   have hr:=HS0.out
   have nf:∀i,sz<=i->i<sz+2->¬(FN ob v i\/i=x9\/(Value.slice vo vn vc).ownBlock=some i\/i=p5):=by
    rintro i hi hi2 (e | e | e | e)
    ·have:=HFN.out i e
     have:=h2.2.2.2.2.2.2.1.size
     omega
    ·omega
    ·have:=hr.1.row i e
     omega
    ·omega
   refine ⟨⟨hf.block _ (by omega) (nf _ (by omega) (by omega)),hf.block _ (by omega) (nf _ (by omega) (by omega))⟩,fun i=>vl'.ownBlock=some i,fun i hi=>?_,⟨?_,fun i h1 h2' h3 h5 h6=>?_⟩,vl',Q',hs',fun i hi=>hi⟩
   ·have:=hn i hi
    refine ⟨?_,this.2⟩
    rcases this.1 with e | e
    ·exact .inl (hr.2 i e)
    ·exact .inr (by omega)
   ·have:=hf.size
    omega
   ·rw [hf.block i (by omega) ?_,h4.2.2.1 i (by omega),HA.out.2.1.block i (by omega) (by simp)]
    rintro (e | e | e | e)
    ·exact h3 (.inl e)
    ·exact h3 (.inr e)
    ·exact h6 (hr.2 i e)
    ·omega
  have HB5:Hid (Blk W4 p5 105 #[.int .i64 c.id,.slice c.o c.n c.c,.bool c.was,.int .i64 c.tm]/\W4.heap.size=p5+1/\(∀i,F i\/Qk i->i<p5)):=⟨HT4.out.2.2.2,HT4.out.2.1,fun i hi=>by have:=HNP.out i hi;have:=HP5.out;omega⟩
  clear HT4 HA HNP HL
  obtain ⟨d,hd⟩:∃d,P j=d:=⟨_,rfl⟩
  have HDU:Hid (P j=d):=hd
  clear hd
  have m5:=HS4.out.b5.cell 0
  simp at m5
  refine wpIn_block (wpIn_seq ?_)
  refine region_round (by rintro ⟨_,_,h⟩;exact h) rfl ?_
  go_wp2_with fail
  refine (HFV.out W4 HS4.out.rg.fr (HS4.out.rg.cm.blk.cell 7) j (by have:=HK.out;have:=HC.out.1.len.1;omega)).mono ?_
  rintro e w5 ⟨rfl,hg⟩
  rw [HDU.out]
  have G5:Hid (W4.grownBy w5 none):=hg
  clear hg m5
  go_wp2_with fail
  have HS5:Hid (Eg Q F w b ob v wo wc s (.func (.func 80) #[] #[]) P what (.slice ao an ac) ans x4 x5 x6 x7 x9 sz k (.slice vo vn vc) Qk w5/\Blk w5 p5 105 #[.int .i64 c.id,.slice c.o c.n c.c,.bool c.was,.int .i64 c.tm]):=⟨HS4.out.grown G5.out,HB5.out.1.grown G5.out (by simp)⟩
  cases d with
  | false =>
   have HX:Hid (endF P j c=some c/\endG P what ans j c=[]):=⟨by unfold endF;rw [HDU.out];rfl,by unfold endG;rw [HDU.out];rfl⟩
   refine wpIn_cond_false rfl (wpIn_skip ?_)
   refine HEND.out (.slice vo vn vc) Qk w5 ?_ (Fr.of G5.out (by simp)) fun i hi=>⟨.inl hi,(HS5.out.1.ms.blk i hi).2.1⟩
   obtain ⟨a1,a2,a3,a4,a5,a6,a7,a8,a9,a10⟩:=HS5.out.1
   refine ⟨?_,a2,a3,a4,a5,a6,a7,?_,a9,a10⟩
   ·rw [HMU.out.2.1,HX.out.1,set_same HMU.out.1]
    exact a1
   ·rw [HMU.out.2.2,HX.out.2,List.append_nil]
    exact a8
  | true =>
   have HX:Hid (endF P j c=none/\endG P what ans j c=[⟨c.id,what,ans⟩]):=⟨by unfold endF;rw [HDU.out];rfl,by unfold endG;rw [HDU.out];rfl⟩
   refine wpIn_cond_true rfl ?_
   have m1:=HS5.out.1.b4.cell 0
   have c8:w5.cell? ⟨b,8,none⟩=some (.pointer (some ⟨ob,0,none⟩)):=HS5.out.1.rg.cm.blk.cell 8
   simp at m1
   refine wpIn_seq ?_
   refine region_round (by rintro ⟨_,_,h⟩;exact h) rfl ?_
   go_wp2_with fail
   refine (back_yes ob v s.size (mapUp (endF P) s.L k) ((j+1:Nat):Int) w5 HS5.out.1.rg.win (by rw [mapUp_len];exact HC.out.1.len.1)).mono ?_
   rintro e w7 ⟨rfl,hw7,hf7⟩
   have H7:Hid (Rg Q F w b ob v wo wc s (mapUp (endF P) s.L (j+1)) Qk w7/\Fr w5 w7 (FN ob v)):=by
    have e:outD (mapUp (endF P) s.L k) ((j+1:Nat):Int)=some c:=by rw [outD_nat,HMU.out.1];rfl
    rw [putL_some e,<-HX.out.1,<-HMU.out.2.1] at hw7
    refine ⟨HS5.out.1.rg.turn hw7 hf7 (fun i hi=>.inl hi) (fun c' hc'=>?_) (HC.out.1.ok.endUp HC.out.2.2.1 _ _),hf7⟩
    rw [HMU.out.2.1,HX.out.1] at hc'
    rcases List.mem_or_eq_of_mem_set hc' with h | h
    ·exact ⟨c',h,rfl,rfl,rfl,rfl⟩
    ·cases h
   clear hw7 hf7 m1 c8
   go_wp2_with fail
   have HB7:Hid (Blk w7 x4 27 #[.pointer (some ⟨b,0,none⟩)]/\Blk w7 x5 116 #[.func (.func 80) #[] #[]]/\Blk w7 x6 52 #[.int .i64 what]/\Blk w7 x7 41 #[.slice ao an ac]/\Disk.Own w7 0 (.slice ao an ac) ans/\Blk w7 x9 61 #[.slice vo vn vc]/\Rets w7 w.heap.size (.slice vo vn vc) (gather (endG P what ans) s.L k)/\Blk w7 p5 105 #[.int .i64 c.id,.slice c.o c.n c.c,.bool c.was,.int .i64 c.tm]/\Fr W4 w7 (fun i=>FN ob v i\/i=p5)):=by
    have h2:=H2.out
    have hz:=HSZ.out
    have h5:=HP5.out
    have nx:∀i,w.heap.size<=i->¬FN ob v i:=fun i hi e=>by
     have:=HFN.out i e
     omega
    have hG:Gt w5 (FN ob v):=fun i hi=>HS5.out.1.rg.cm.gt i (HC.out.2.2.2.1 i hi)
    have f7:=H7.out.2
    have a:=HS5.out.1
    refine ⟨a.b4.same (f7.block _ a.b4.lt (nx _ (by omega))),a.b5.same (f7.block _ a.b5.lt (nx _ (by omega))),a.b6.same (f7.block _ a.b6.lt (nx _ (by omega))),a.b7.same (f7.block _ a.b7.lt (nx _ (by omega))),own_fr a.own f7 hG,a.b9.same (f7.block _ a.b9.lt (nx _ (by omega))),a.ms.fr f7 hG fun i hi e=>nx i ?_ e,?_,?_⟩
    ·have:=a.row i hi
     omega
    ·have hb:=HS5.out.2
     exact hb.same (f7.block _ hb.lt (nx _ (by omega)))
    ·exact (Fr.of (F:=fun i=>FN ob v i\/i=p5) G5.out (by simp)).trans (f7.mono (G:=fun i=>FN ob v i\/i=p5) fun i hi=>.inl hi) fun i hi=>.inl hi
   clear HS5
   have HRD:Hid (∀y,w7.grownBy y (Value.slice vo vn vc).ownBlock->y.cell? ⟨x6,0,none⟩=some (.int .i64 what)/\y.cell? ⟨x7,0,none⟩=some (.slice ao an ac)/\y.cell? ⟨x9,0,none⟩=some (.slice vo vn vc)/\y.cell? ⟨p5,0,none⟩=some (.int .i64 c.id)):=by
    intro y hy
    have ne:∀{t:Nat} {C:Array Value} {x:Nat},Blk w7 x t C->t≠78->(Value.slice vo vn vc).ownBlock≠some x:=fun hx ht e=>by
     obtain ⟨_,_,C,hC⟩:=HB7.out.2.2.2.2.2.2.1.blk _ e
     exact ht (blk_type hx hC)
    have hb:=HB7.out
    exact ⟨(hb.2.2.1.grown hy (ne hb.2.2.1 (by decide))).cell 0,(hb.2.2.2.1.grown hy (ne hb.2.2.2.1 (by decide))).cell 0,(hb.2.2.2.2.2.1.grown hy (ne hb.2.2.2.2.2.1 (by decide))).cell 0,(hb.2.2.2.2.2.2.2.1.grown hy (ne hb.2.2.2.2.2.2.2.1 (by decide))).cell 0⟩
   refine region_round_hold 9 (fun y=>w7.grownBy y (Value.slice vo vn vc).ownBlock) (by rintro ⟨_,_,h⟩;exact h) rfl (by kernel_rfl) ?_
   have G7:Hid (w7.grownBy w7.drew none):=grown_drew _ _
   generalize w7.drew=wd7 at G7 ⊢
   have J:Idx [0,1,2,3,4]:=trivial
   iterate 5 (refine tK J ((grown_mono G7.out)) rfl rfl (fun wk hk=>by obtain ⟨k1,k2,k3,k4⟩:=HRD.out wk hk;go_simp;try rfl) ?_;replace J:=J.tl;try simp only [pN])
   clear J
   refine wpHold_one (i:=5) rfl (by kernel_rfl) (by rfl) (fun K hK=>?_)
   go_wp2_with fail
   refine (clone107 (.slice ao an ac) ans wd7 (HB7.out.2.2.2.2.1.grown G7.out).seg HA0.out.2).mono ?_
   rintro e w8 ⟨u,rfl,hu,hg⟩
   have H8:Hid (w7.grownBy w8 none/\Disk.Own w8 w.heap.size u ans):=⟨grown_trans G7.out hg,hu.mono (Nat.le_trans H7.out.1.fr.size G7.out.size)⟩
   obtain ⟨uo,un,uc,rfl⟩:=isSl_on hu
   clear hu hg
   go_wp2_with fail
   refine hK.out _ _ (fun _=>grown_mono H8.out.1) ?_
   clear hK K
   try simp only [pN]
   have J:Idx [6]:=trivial
   iterate 1 (refine tK J ((grown_mono H8.out.1)) rfl rfl (fun wk hk=>by obtain ⟨k1,k2,k3,k4⟩:=HRD.out wk hk;go_simp;try rfl) ?_;replace J:=J.tl;try simp only [pN])
   clear J
   refine wpHold_one (i:=7) rfl (by kernel_rfl) (by rfl) (fun K hK=>?_)
   obtain ⟨w9,hw9,H9'⟩:=al1 w8 #[.int .i64 c.id,.int .i64 what,.slice uo un uc] 78
   obtain ⟨p9,hp9⟩:∃x,w8.heap.size=x:=⟨_,rfl⟩
   rw [hp9] at H9'
   have HW9:Hid (w8.alloc (.cells #[.int .i64 c.id,.int .i64 what,.slice uo un uc] 78)=w9/\w8.heap.size=p9):=⟨hw9,hp9⟩
   clear hw9 hp9
   go_wp2_with fail
   rw [HW9.out.1,HW9.out.2]
   have H9:Hid (Blk w9 p9 78 #[.int .i64 c.id,.int .i64 what,.slice uo un uc]/\w7.grownBy w9 none/\Disk.Own w9 w.heap.size (.slice uo un uc) ans):=⟨H9'.out.1,grown_trans H8.out.1 H9'.out.2.1,H8.out.2.grown H9'.out.2.1⟩
   clear HW9 H9'
   refine hK.out _ _ (fun _=>grown_mono H9.out.2.1) ?_
   clear hK K
   try simp only [pN]
   refine wpHold_one (i:=8) rfl (by kernel_rfl) (by rfl) (fun K hK=>?_)
   refine appL_wp (t:=78) (c:=3) (by':=40) (rtR_stab w.heap.size) (by decide) 61 Tryz.underlying61 info78 rfl (by decide) (by decide) w9 _ _ rfl w.heap.size (.slice vo vn vc) (gather (endG P what ans) s.L k) ⟨c.id,what,ans⟩ p9 [.int .i64 c.id,.int .i64 what,.slice uo un uc] _ rfl rfl (HB7.out.2.2.2.2.2.2.1.grown H9.out.2.1) H9.out.1 rfl rfl ⟨_,rfl,H9.out.2.2⟩ (by simp [Value.oneCell']) ?g0 ?g1 ?_
   case g0 =>
    have:=gather_len (g:=endG P what ans) (L:=s.L) (fun k c=>by unfold endG;split <;> simp) k
    have:=HK.out
    have:=HC.out.1.ok.few
    have:=HC.out.2.1.long
    have:=HC.out.1.len.1
    omega
   case g1=>exact Nat.le_trans H7.out.1.fr.size H9.out.2.1.size
   intro g' cap' w10 hr hg hgg
   have H10:Hid (Eg Q F w b ob v wo wc s (.func (.func 80) #[] #[]) P what (.slice ao an ac) ans x4 x5 x6 x7 x9 sz (j+1) (.slice (some ⟨g',0,none⟩) ((gather (endG P what ans) s.L k).length+1) cap') (Bx (Bx Qk w9) w10) (w10.setCell ⟨x9,0,none⟩ (.slice (some ⟨g',0,none⟩) ((gather (endG P what ans) s.L k).length+1) cap'))/\Fr w9 (w10.setCell ⟨x9,0,none⟩ (.slice (some ⟨g',0,none⟩) ((gather (endG P what ans) s.L k).length+1) cap')) (fun i=>i=x9\/(Value.slice vo vn vc).ownBlock=some i)/\g'<w10.heap.size):=by
    have h2:=H2.out
    have hz:=HSZ.out
    have hb:=HB7.out
    have h9:=H9.out
    have hw9:=h9.2.1.size
    have hw7:=hb.2.2.2.2.2.2.2.1.lt
    have hp:=HP5.out
    exact eg_put (H7.out.1.grown h9.2.1) rfl (hb.1.grown h9.2.1 (by simp)) (hb.2.1.grown h9.2.1 (by simp)) (hb.2.2.1.grown h9.2.1 (by simp)) (hb.2.2.2.1.grown h9.2.1 (by simp)) (hb.2.2.2.2.1.grown h9.2.1) (hb.2.2.2.2.2.1.grown h9.2.1 (by simp)) (by omega) (hb.2.2.2.2.2.2.1.grown h9.2.1) HS0.out.1.row hr (by rw [HMU.out.2.2,HX.out.2]) hg hgg (by omega)
   have H11:Hid (w7.grownBy w10 (Value.slice vo vn vc).ownBlock/\((Value.slice vo vn vc).ownBlock=some g'\/p5<=g')/\(∃x,w10.cell? ⟨x9,0,none⟩=some x)/\w10.frozen? ⟨x9,0,none⟩=false):=by
    have hb:=HB7.out
    have g:=grown_trans (grown_mono (r:=(Value.slice vo vn vc).ownBlock) H9.out.2.1) hg
    have ne:(Value.slice vo vn vc).ownBlock≠some x9:=fun e=>by
     obtain ⟨_,_,C,hC⟩:=hb.2.2.2.2.2.2.1.blk _ e
     exact absurd (blk_type hb.2.2.2.2.2.1 hC) (by decide)
    have b9:=hb.2.2.2.2.2.1.grown g ne
    refine ⟨g,?_,⟨_,b9.cell 0⟩,b9.free 0⟩
    rcases hgg with e | e
    ·exact .inl e
    ·have:=hb.2.2.2.2.2.2.2.1.lt
     have:=H9.out.2.1.size
     exact .inr (by omega)
   clear hr hg hgg
   refine hK.out _ _ (fun _=>H11.out.1) ?_
   clear hK K
   try simp only [pN]
   refine wpHold_one (i:=9) rfl (by kernel_rfl) (by rfl) (fun K hK=>?_)
   obtain ⟨⟨x0,hx0⟩,hf0⟩:=H11.out.2.2
   go_wp2_with fail
   refine hK.out _ _ (fun h=>absurd rfl h) ?_
   clear hK K
   try simp only [pN]
   refine wpHold_done (by kernel_rfl) ?_
   refine HEND.out _ _ _ H10.out.1 ?_ fun i hi=>?_
   ·have f1:=HB7.out.2.2.2.2.2.2.2.2.mono (G:=fun i=>FN ob v i\/i=x9\/(Value.slice vo vn vc).ownBlock=some i\/i=p5) fun i hi=>by
     rcases hi with h | h
     ·exact .inl h
     ·exact .inr (.inr (.inr h))
    have f2:=Fr.of (F:=fun i=>FN ob v i\/i=x9\/(Value.slice vo vn vc).ownBlock=some i\/i=p5) H9.out.2.1 (by simp)
    have f3:=H10.out.2.1.mono (G:=fun i=>FN ob v i\/i=x9\/(Value.slice vo vn vc).ownBlock=some i\/i=p5) fun i hi=>by
     rcases hi with h | h
     ·exact .inr (.inl h)
     ·exact .inr (.inr (.inl h))
    exact (f1.trans f2 fun i hi=>.inl hi).trans f3 fun i hi=>.inl hi
   ·simp [Value.ownBlock] at hi
    subst hi
    refine ⟨H11.out.2.1,?_⟩
    have:=H10.out.2.2
    simpa using this
variable {Q F:Nat->Prop} {w w':World} {b:Nat} {oa wo:Option Addr} {wc:Nat} {s:CS}
theorem end_133 (rb kb:Nat)(w:World)(P:Nat->Bool)(what:Int)(ao:Option Addr)(an ac:Nat)(ans:Bs)(h:Cm Q F w b oa wo wc s)(h0:s.ses≠0)(ha:Disk.Own w 0 (.slice ao an ac) ans)(hl:ans.length<=140737488355328)
  (hfv:∀y,Fr w y F->y.cell? ⟨b,7,none⟩=some (.int .i64 s.ses)->∀j:Nat,(j:Int)<=1000000000000->Calls Tryz.prog 133 #[.int .i64 ((j:Int)+1),.pointer (some ⟨rb,0,none⟩),.pointer (some ⟨kb,0,none⟩)] y fun e y'=>e=.returned (.bool (P j))/\y.grownBy y' none) :
  Calls Tryz.prog 79 #[.pointer (some ⟨b,0,none⟩),.func (.func 133) #[] #[.pointer (some ⟨rb,0,none⟩),.pointer (some ⟨kb,0,none⟩)],.int .i64 what,.slice ao an ac] w (EndP Q F b s P what ans w):=by
 obtain ⟨h1,ob,v,rfl,hw,hF⟩:=h.yeswin h0
 have HC:Hid (Cm Q F w b (some ⟨ob,0,none⟩) wo wc s/\Win Q w ob v s.size s.L (lead s.L)/\1<=s.ses/\(∀i,FN ob v i->F i)/\Goes (some ⟨ob,0,none⟩) s.L w):=⟨h,hw,h1,hF,wgoes w h⟩
 have HA0:Hid (Disk.Own w 0 (.slice ao an ac) ans/\ans.length<=140737488355328):=⟨ha,hl⟩
 have HFV:Hid (∀y,Fr w y F->y.cell? ⟨b,7,none⟩=some (.int .i64 s.ses)->∀j:Nat,(j:Int)<=1000000000000->Calls Tryz.prog 133 #[.int .i64 ((j:Int)+1),.pointer (some ⟨rb,0,none⟩),.pointer (some ⟨kb,0,none⟩)] y fun e y'=>e=.returned (.bool (P j))/\y.grownBy y' none):=hfv
 have HFN:Hid (∀i,FN ob v i->i<w.heap.size/\∀c,¬Blk w i 105 c):=fun i hi=>⟨hw.lt i hi,fun c hb=>h.fn_ne hw hb (by decide) (by decide) hi⟩
 have c8:=h.blk.cell 8
 simp at c8
 clear h hw h1 hF h0 ha hl hfv
 refine calls_marks Tryz.func79 rfl ?_
 simp only [Tryz.ntmps79,List.size_toArray,List.length_cons,List.length_nil,Nat.reduceAdd,Nat.reduceSub,Array.replicate_succ,Array.replicate_zero,List.push_toArray,List.append_toArray,List.nil_append,List.cons_append]
 go_upto_region 2 with fail
 obtain ⟨w1,hw1,H1⟩:=al5 w #[.pointer (some ⟨b,0,none⟩)] #[.func (.func 133) #[] #[.pointer (some ⟨rb,0,none⟩),.pointer (some ⟨kb,0,none⟩)]] #[.int .i64 what] #[.slice ao an ac] #[.slice none 0 0] 27 116 52 41 61
 obtain ⟨x4,hx4⟩:∃x,w.heap.size=x:=⟨_,rfl⟩
 obtain ⟨x5,hx5⟩:∃x,x4+1=x:=⟨_,rfl⟩
 obtain ⟨x6,hx6⟩:∃x,x5+1=x:=⟨_,rfl⟩
 obtain ⟨x7,hx7⟩:∃x,x6+1=x:=⟨_,rfl⟩
 obtain ⟨x9,hx9⟩:∃x,x7+1=x:=⟨_,rfl⟩
 rw [hw1]
 rw [hx4,hx5,hx6,hx7,hx9] at H1 ⊢
 clear hw1
 have k0:=H1.out.1.cell 0
 have k8:=H1.out.2.2.2.2.2.1.cell c8 (by simp)
 simp at k0
 go_wp2_with fail
 refine (all_any (some ⟨ob,0,none⟩) w1).mono ?_
 rintro e w2 ⟨rfl,hbk,hg2,hsz2⟩
 obtain ⟨bx,hbx⟩:∃x,w1.heap.size=x:=⟨_,rfl⟩
 rw [hbx] at hbk hsz2 ⊢
 have H2:Hid (Blk w2 x4 27 #[.pointer (some ⟨b,0,none⟩)]/\Blk w2 x5 116 #[.func (.func 133) #[] #[.pointer (some ⟨rb,0,none⟩),.pointer (some ⟨kb,0,none⟩)]]/\Blk w2 x6 52 #[.int .i64 what]/\Blk w2 x7 41 #[.slice ao an ac]/\Blk w2 x9 61 #[.slice none 0 0]/\Blk w2 bx 82 #[.pointer (some ⟨ob,0,none⟩)]/\w.grownBy w2 none/\w2.heap.size=bx+1/\w.heap.size=x4/\x4<x5/\x5<x6/\x6<x7/\x7<x9/\x9<bx):=by
  have h:=H1.out
  exact ⟨h.1.grown hg2 (by simp),h.2.1.grown hg2 (by simp),h.2.2.1.grown hg2 (by simp),h.2.2.2.1.grown hg2 (by simp),h.2.2.2.2.1.grown hg2 (by simp),hbk,grown_trans h.2.2.2.2.2.1 hg2,hsz2,hx4,by omega,by omega,by omega,by omega,by have:=h.2.2.2.2.2.2;omega⟩
 clear hbk hg2 hsz2 hbx hx4 hx5 hx6 hx7 hx9 H1 k0 k8 c8
 go_wp2_with fail
 obtain ⟨sz,hsz⟩:∃x,w2.heap.size=x:=⟨_,rfl⟩
 have HSZ:Hid (w2.heap.size=sz/\x9<sz/\sz=bx+1):=⟨hsz,by have:=H2.out;omega,by have:=H2.out;omega⟩
 clear hsz
 have HGV:Hid (GivesS Tryz.prog 91 #[.pointer (some ⟨bx,0,none⟩)] 0 (Fino s.L) (Xo s.L) (fun i=>FN ob v i\/i=x9) w2):=HC.out.2.2.2.2 bx w2 H2.out.2.2.2.2.2.2.1 H2.out.2.2.2.2.2.1 _ fun i hi=>by
  have h2:=H2.out
  rcases hi with hi | hi
  ·have:=HFN.out i hi
   exact ⟨by have:=h2.2.2.2.2.2.2.1.size;omega,this.2⟩
  ·have hi':i=x9:=hi
   exact ⟨by omega,fun c hb=>by have:=hb.lt;omega⟩
 refine wp_rangeB (id:=0) (gf:=91) (lb:=#[.pointer (some ⟨bx,0,none⟩)]) rfl (enters_of Tryz.func91 (by kernel_rfl) rfl) HGV.out ?hps
  (fun k G A=>Hid (∃vl Qk,Eg Q F w b ob v wo wc s (.func (.func 133) #[] #[.pointer (some ⟨rb,0,none⟩),.pointer (some ⟨kb,0,none⟩)]) P what (.slice ao an ac) ans x4 x5 x6 x7 x9 sz k vl Qk A/\(∀i,vl.ownBlock=some i->G i)))
  (fun _=>False) ?hIg ?hXg ?h0 ?hround
  (fun A=>Hid (∃vl Qk,Eg Q F w b ob v wo wc s (.func (.func 133) #[] #[.pointer (some ⟨rb,0,none⟩),.pointer (some ⟨kb,0,none⟩)]) P what (.slice ao an ac) ans x4 x5 x6 x7 x9 sz s.L.length vl Qk A)) ?hdone ?hstop ?hnext
 case hps =>
  rintro k k' W0 W1 xs ⟨_,_,_,_,_,_,rfl⟩
  rfl
 case hIg =>
  rintro k G A B HI ht
  obtain ⟨vl,Qk,hs,hG⟩:=HI.out
  exact ⟨vl,Qk,hs.tx ht (by have:=H2.out;have:=HSZ.out;omega),hG⟩
 case hXg=>exact fun _ _ h _=>h
 case h0 =>
  have h2:=H2.out
  refine ⟨.slice none 0 0,Q,⟨?_,h2.1,h2.2.1,h2.2.2.1,h2.2.2.2.1,HA0.out.1.grown h2.2.2.2.2.2.2.1,h2.2.2.2.2.1,rets_nil _ _,Nat.le_of_eq HSZ.out.1.symm,fun i hi=>by simp [Value.ownBlock] at hi⟩,fun i hi=>by simp [Value.ownBlock] at hi⟩
  rw [mapUp_zero]
  exact (Rg.of HC.out.1 HC.out.2.1 HC.out.2.2.1 HC.out.2.2.2.1).grown h2.2.2.2.2.2.2.1
 case hdone =>
  rintro A k G hfin HI
  obtain ⟨vl,Qk,hs,hG⟩:=HI.out
  refine ⟨vl,Qk,?_⟩
  obtain ⟨a1,a2,a3,a4,a5,a6,a7,a8,a9,a10⟩:=hs
  rw [mapUp_fin hfin] at a1
  rw [gather_fin hfin] at a8
  exact ⟨a1,a2,a3,a4,a5,a6,a7,a8,a9,a10⟩
 case hstop=>exact fun _ h=>h.elim
 case hnext =>
  intro A HB hd
  obtain ⟨vl,Qk,hs⟩:=HB.out
  have HS:Hid (Eg Q F w b ob v wo wc s (.func (.func 133) #[] #[.pointer (some ⟨rb,0,none⟩),.pointer (some ⟨kb,0,none⟩)]) P what (.slice ao an ac) ans x4 x5 x6 x7 x9 sz s.L.length vl Qk A):=hs
  clear HB hs
  refine (‹∀(a:Act) (w:World),Code.wp Tryz.prog _ _ a w->_› _ _ ?_)
  have v0:=HS.out.b9.cell 0
  simp at v0
  have HD:Hid (A.heap[w2.heap.size]? = some (.deferred (some []))):=hd
  clear hd
  go_wp2_with fail
  refine ⟨by simp,.inl ⟨_,_,rfl,run_takeDeferred HD.out,?_⟩⟩
  have t1:=Tx.putD (n0:=w.heap.size) (.deferred none) HD.out (by have:=HSZ.out;have:=H2.out;omega)
  exact ⟨_,by simp [results,Tryz.results79,go_sem],vl,rfl,HS.out.ms.tx t1,(HS.out.rg.tx t1 (Nat.le_refl _)).stp⟩
 case hround =>
  rintro l' k k' G W0 W1 xs HI0 hlt0 htn ⟨j,c,hkj,hj,hno,rfl,rfl⟩ ⟨rc,hrc⟩
  obtain ⟨vl,Qk,hs,hG⟩:=HI0.out
  obtain ⟨vo,vn,vc,rfl⟩:=hs.ms.slice
  have HNP:Hid (∀i,F i\/Qk i->i<W1.heap.size):=fun i hi=>by
   have:=htn.size
   rcases hi with hi | hi
   ·have:=hs.rg.cm.flt i hi;omega
   ·have:=hs.rg.cm.qlt i hi;omega
  have HK:Hid (k<=j/\s.L[j]? = some (some c)/\(∀i,k<=i->i<j->s.L[i]? = some none)/\j<s.L.length):=⟨hkj,hj,hno,(List.getElem?_eq_some_iff.1 hj).1⟩
  have HMU:Hid ((mapUp (endF P) s.L k)[j]? = some (some c)/\mapUp (endF P) s.L (j+1)=(mapUp (endF P) s.L k).set j (endF P j c)/\gather (endG P what ans) s.L (j+1)=gather (endG P what ans) s.L k ++ endG P what ans j c):=⟨mapUp_at hkj hj,mapUp_step hkj hj hno,gather_step hkj hj hno⟩
  have HO:Hid (Tx (w2.heap.size+2) W0 W1/\w2.heap.size+1<W0.heap.size/\W1.heap[w2.heap.size+1]? = some (.loop rc)):=⟨htn,hlt0,hrc⟩
  have HS0:Hid (Eg Q F w b ob v wo wc s (.func (.func 133) #[] #[.pointer (some ⟨rb,0,none⟩),.pointer (some ⟨kb,0,none⟩)]) P what (.slice ao an ac) ans x4 x5 x6 x7 x9 sz k (.slice vo vn vc) Qk W0/\(∀i,(Value.slice vo vn vc).ownBlock=some i->G i)):=⟨hs,hG⟩
  clear htn hlt0 hrc hkj hj hno hs hG HI0
  simp only [List.zip_toArray,List.zip_cons_cons,List.zip_nil_right,List.foldl_toArray',List.size_toArray,List.foldl_cons,List.foldl_nil,List.setIfInBounds_toArray,List.set_cons_zero,List.set_cons_succ]
  refine wpIn_seq ?_
  refine region_round (by rintro ⟨_,_,h⟩;exact h) rfl ?_
  go_wp2_with fail
  have HZ:Hid (Blk (W1.alloc (.cells #[.int .i64 0,.slice none 0 0,.bool false,.int .i64 0] 105)) W1.heap.size 105 #[.int .i64 0,.slice none 0 0,.bool false,.int .i64 0]):=heap_alloc_new W1 _
  obtain ⟨y0,y1,y2,y3⟩:=cells4 HZ.out
  obtain ⟨z0,z1,z2,z3⟩:=frees4 HZ.out
  obtain ⟨Wa,hWa,HA⟩:=al1 W1 #[.int .i64 c.id,.slice c.o c.n c.c,.bool c.was,.int .i64 c.tm] 105
  have HWa:Hid (W1.alloc (.cells #[.int .i64 c.id,.slice c.o c.n c.c,.bool c.was,.int .i64 c.tm] 105)=Wa):=hWa
  clear hWa
  refine region_round (by rintro ⟨_,_,h⟩;exact h) rfl ?_
  go_wp2_with fail
  rw [HWa.out]
  obtain ⟨p5,hp5⟩:∃x,W1.heap.size=x:=⟨_,rfl⟩
  rw [hp5] at HA ⊢
  have HP5:Hid (W1.heap.size=p5/\sz+2<=p5):=⟨hp5,by have:=HO.out.1.size;have:=HO.out.2.1;have:=HSZ.out;omega⟩
  clear y0 y1 y2 y3 z0 z1 z2 z3 HZ HWa hp5
  refine ⟨HA.out.2.1,fun r=>?_⟩
  obtain ⟨W4,hW4⟩:∃W,Wa.putObj (w2.heap.size+1) (.loop r)=W:=⟨_,rfl⟩
  have HL:Hid (Wa.heap[w2.heap.size+1]? = some (.loop rc)):=by
   rw [Hid,HA.out.2.1.block _ (by have:=HO.out;have:=this.1.size;omega) (by simp)]
   exact HO.out.2.2
  have HT4:Hid (Tx (w2.heap.size+1) W0 W4/\W4.heap.size=p5+1/\(∀i,i≠w2.heap.size+1->W4.heap[i]? = Wa.heap[i]?)/\Blk W4 p5 105 #[.int .i64 c.id,.slice c.o c.n c.c,.bool c.was,.int .i64 c.tm]):=by
   have ht:Tx (w2.heap.size+1) Wa W4:=by rw [<-hW4];exact Tx.put _ HL.out (Nat.le_refl _)
   exact ⟨((HO.out.1.mono (Nat.le_succ _)).trans (Tx.of_grown HA.out.2.1)).trans ht,by rw [<-hW4];simp only [World.putObj,Array.size_setIfInBounds];have:=HA.out.2.2;have:=HP5.out;omega,fun i hi=>by rw [<-hW4,World.putObj_heap_other hi],ht.blk HA.out.1 (.inl (by decide))⟩
  rw [hW4]
  clear hW4
  have HS4:Hid (Eg Q F w b ob v wo wc s (.func (.func 133) #[] #[.pointer (some ⟨rb,0,none⟩),.pointer (some ⟨kb,0,none⟩)]) P what (.slice ao an ac) ans x4 x5 x6 x7 x9 sz k (.slice vo vn vc) Qk W4):=HS0.out.1.tx HT4.out.1 (by have:=H2.out;have:=HSZ.out;omega)
  have HEND:Hid (∀(vl':Value) (Q':Nat->Prop) (W':World),Eg Q F w b ob v wo wc s (.func (.func 133) #[] #[.pointer (some ⟨rb,0,none⟩),.pointer (some ⟨kb,0,none⟩)]) P what (.slice ao an ac) ans x4 x5 x6 x7 x9 sz (j+1) vl' Q' W'->Fr W4 W' (fun i=>FN ob v i\/i=x9\/(Value.slice vo vn vc).ownBlock=some i\/i=p5)->(∀i,vl'.ownBlock=some i->((Value.slice vo vn vc).ownBlock=some i\/p5<=i)/\i<W'.heap.size) →
    (W'.heap[w2.heap.size]? = W4.heap[w2.heap.size]?/\W'.heap[w2.heap.size+1]? = W4.heap[w2.heap.size+1]?)/\∃G',NewG G G' W1 W'/\KeptG w2.heap.size (w2.heap.size+2) (fun i=>FN ob v i\/i=x9) G #[.int .i64 (j+1:Nat),.agg #[.int .i64 c.id,.slice c.o c.n c.c,.bool c.was,.int .i64 c.tm]] W1 W'/\Hid (∃vl Qk,Eg Q F w b ob v wo wc s (.func (.func 133) #[] #[.pointer (some ⟨rb,0,none⟩),.pointer (some ⟨kb,0,none⟩)]) P what (.slice ao an ac) ans x4 x5 x6 x7 x9 sz (j+1) vl Qk W'/\(∀i,vl.ownBlock=some i->G' i))):=by
   intro vl' Q' W' hs' hf hn
   have h2:=H2.out
   have hz:=HSZ.out
   have h4:=HT4.out
   have hp:=HP5.out
   have hr:=HS0.out
   have nf:∀i,sz<=i->i<sz+2->¬(FN ob v i\/i=x9\/(Value.slice vo vn vc).ownBlock=some i\/i=p5):=by
    rintro i hi hi2 (e | e | e | e)
    ·have:=HFN.out i e
     have:=h2.2.2.2.2.2.2.1.size
     omega
    ·omega
    ·have:=hr.1.row i e
     omega
    ·omega
   refine ⟨⟨hf.block _ (by omega) (nf _ (by omega) (by omega)),hf.block _ (by omega) (nf _ (by omega) (by omega))⟩,fun i=>vl'.ownBlock=some i,fun i hi=>?_,⟨?_,fun i h1 h2' h3 h5 h6=>?_⟩,vl',Q',hs',fun i hi=>hi⟩
   ·have:=hn i hi
    refine ⟨?_,this.2⟩
    rcases this.1 with e | e
    ·exact .inl (hr.2 i e)
    ·exact .inr (by omega)
   ·have:=hf.size
    omega
   ·rw [hf.block i (by omega) ?_,h4.2.2.1 i (by omega),HA.out.2.1.block i (by omega) (by simp)]
    rintro (e | e | e | e)
    ·exact h3 (.inl e)
    ·exact h3 (.inr e)
    ·exact h6 (hr.2 i e)
    ·omega
  have HB5:Hid (Blk W4 p5 105 #[.int .i64 c.id,.slice c.o c.n c.c,.bool c.was,.int .i64 c.tm]/\W4.heap.size=p5+1/\(∀i,F i\/Qk i->i<p5)):=⟨HT4.out.2.2.2,HT4.out.2.1,fun i hi=>by have:=HNP.out i hi;have:=HP5.out;omega⟩
  clear HT4 HA HNP HL
  obtain ⟨d,hd⟩:∃d,P j=d:=⟨_,rfl⟩
  have HDU:Hid (P j=d):=hd
  clear hd
  have m5:=HS4.out.b5.cell 0
  simp at m5
  refine wpIn_block (wpIn_seq ?_)
  refine region_round (by rintro ⟨_,_,h⟩;exact h) rfl ?_
  go_wp2_with fail
  refine (HFV.out W4 HS4.out.rg.fr (HS4.out.rg.cm.blk.cell 7) j (by have:=HK.out;have:=HC.out.1.len.1;omega)).mono ?_
  rintro e w5 ⟨rfl,hg⟩
  rw [HDU.out]
  have G5:Hid (W4.grownBy w5 none):=hg
  clear hg m5
  go_wp2_with fail
  have HS5:Hid (Eg Q F w b ob v wo wc s (.func (.func 133) #[] #[.pointer (some ⟨rb,0,none⟩),.pointer (some ⟨kb,0,none⟩)]) P what (.slice ao an ac) ans x4 x5 x6 x7 x9 sz k (.slice vo vn vc) Qk w5/\Blk w5 p5 105 #[.int .i64 c.id,.slice c.o c.n c.c,.bool c.was,.int .i64 c.tm]):=⟨HS4.out.grown G5.out,HB5.out.1.grown G5.out (by simp)⟩
  cases d with
  | false =>
   have HX:Hid (endF P j c=some c/\endG P what ans j c=[]):=⟨by unfold endF;rw [HDU.out];rfl,by unfold endG;rw [HDU.out];rfl⟩
   refine wpIn_cond_false rfl (wpIn_skip ?_)
   refine HEND.out (.slice vo vn vc) Qk w5 ?_ (Fr.of G5.out (by simp)) fun i hi=>⟨.inl hi,(HS5.out.1.ms.blk i hi).2.1⟩
   obtain ⟨a1,a2,a3,a4,a5,a6,a7,a8,a9,a10⟩:=HS5.out.1
   refine ⟨?_,a2,a3,a4,a5,a6,a7,?_,a9,a10⟩
   ·rw [HMU.out.2.1,HX.out.1,set_same HMU.out.1]
    exact a1
   ·rw [HMU.out.2.2,HX.out.2,List.append_nil]
    exact a8
  | true =>
   have HX:Hid (endF P j c=none/\endG P what ans j c=[⟨c.id,what,ans⟩]):=⟨by unfold endF;rw [HDU.out];rfl,by unfold endG;rw [HDU.out];rfl⟩
   refine wpIn_cond_true rfl ?_
   have m1:=HS5.out.1.b4.cell 0
   have c8:w5.cell? ⟨b,8,none⟩=some (.pointer (some ⟨ob,0,none⟩)):=HS5.out.1.rg.cm.blk.cell 8
   simp at m1
   refine wpIn_seq ?_
   refine region_round (by rintro ⟨_,_,h⟩;exact h) rfl ?_
   go_wp2_with fail
   refine (back_yes ob v s.size (mapUp (endF P) s.L k) ((j+1:Nat):Int) w5 HS5.out.1.rg.win (by rw [mapUp_len];exact HC.out.1.len.1)).mono ?_
   rintro e w7 ⟨rfl,hw7,hf7⟩
   have H7:Hid (Rg Q F w b ob v wo wc s (mapUp (endF P) s.L (j+1)) Qk w7/\Fr w5 w7 (FN ob v)):=by
    have e:outD (mapUp (endF P) s.L k) ((j+1:Nat):Int)=some c:=by rw [outD_nat,HMU.out.1];rfl
    rw [putL_some e,<-HX.out.1,<-HMU.out.2.1] at hw7
    refine ⟨HS5.out.1.rg.turn hw7 hf7 (fun i hi=>.inl hi) (fun c' hc'=>?_) (HC.out.1.ok.endUp HC.out.2.2.1 _ _),hf7⟩
    rw [HMU.out.2.1,HX.out.1] at hc'
    rcases List.mem_or_eq_of_mem_set hc' with h | h
    ·exact ⟨c',h,rfl,rfl,rfl,rfl⟩
    ·cases h
   clear hw7 hf7 m1 c8
   go_wp2_with fail
   have HB7:Hid (Blk w7 x4 27 #[.pointer (some ⟨b,0,none⟩)]/\Blk w7 x5 116 #[.func (.func 133) #[] #[.pointer (some ⟨rb,0,none⟩),.pointer (some ⟨kb,0,none⟩)]]/\Blk w7 x6 52 #[.int .i64 what]/\Blk w7 x7 41 #[.slice ao an ac]/\Disk.Own w7 0 (.slice ao an ac) ans/\Blk w7 x9 61 #[.slice vo vn vc]/\Rets w7 w.heap.size (.slice vo vn vc) (gather (endG P what ans) s.L k)/\Blk w7 p5 105 #[.int .i64 c.id,.slice c.o c.n c.c,.bool c.was,.int .i64 c.tm]/\Fr W4 w7 (fun i=>FN ob v i\/i=p5)):=by
    have h2:=H2.out
    have hz:=HSZ.out
    have h5:=HP5.out
    have nx:∀i,w.heap.size<=i->¬FN ob v i:=fun i hi e=>by
     have:=HFN.out i e
     omega
    have hG:Gt w5 (FN ob v):=fun i hi=>HS5.out.1.rg.cm.gt i (HC.out.2.2.2.1 i hi)
    have f7:=H7.out.2
    have a:=HS5.out.1
    refine ⟨a.b4.same (f7.block _ a.b4.lt (nx _ (by omega))),a.b5.same (f7.block _ a.b5.lt (nx _ (by omega))),a.b6.same (f7.block _ a.b6.lt (nx _ (by omega))),a.b7.same (f7.block _ a.b7.lt (nx _ (by omega))),own_fr a.own f7 hG,a.b9.same (f7.block _ a.b9.lt (nx _ (by omega))),a.ms.fr f7 hG fun i hi e=>nx i ?_ e,?_,?_⟩
    ·have:=a.row i hi
     omega
    ·have hb:=HS5.out.2
     exact hb.same (f7.block _ hb.lt (nx _ (by omega)))
    ·exact (Fr.of (F:=fun i=>FN ob v i\/i=p5) G5.out (by simp)).trans (f7.mono (G:=fun i=>FN ob v i\/i=p5) fun i hi=>.inl hi) fun i hi=>.inl hi
   clear HS5
   have HRD:Hid (∀y,w7.grownBy y (Value.slice vo vn vc).ownBlock->y.cell? ⟨x6,0,none⟩=some (.int .i64 what)/\y.cell? ⟨x7,0,none⟩=some (.slice ao an ac)/\y.cell? ⟨x9,0,none⟩=some (.slice vo vn vc)/\y.cell? ⟨p5,0,none⟩=some (.int .i64 c.id)):=by
    intro y hy
    have ne:∀{t:Nat} {C:Array Value} {x:Nat},Blk w7 x t C->t≠78->(Value.slice vo vn vc).ownBlock≠some x:=fun hx ht e=>by
     obtain ⟨_,_,C,hC⟩:=HB7.out.2.2.2.2.2.2.1.blk _ e
     exact ht (blk_type hx hC)
    have hb:=HB7.out
    exact ⟨(hb.2.2.1.grown hy (ne hb.2.2.1 (by decide))).cell 0,(hb.2.2.2.1.grown hy (ne hb.2.2.2.1 (by decide))).cell 0,(hb.2.2.2.2.2.1.grown hy (ne hb.2.2.2.2.2.1 (by decide))).cell 0,(hb.2.2.2.2.2.2.2.1.grown hy (ne hb.2.2.2.2.2.2.2.1 (by decide))).cell 0⟩
   refine region_round_hold 9 (fun y=>w7.grownBy y (Value.slice vo vn vc).ownBlock) (by rintro ⟨_,_,h⟩;exact h) rfl (by kernel_rfl) ?_
   have G7:Hid (w7.grownBy w7.drew none):=grown_drew _ _
   generalize w7.drew=wd7 at G7 ⊢
   have J:Idx [0,1,2,3,4]:=trivial
   iterate 5 (refine tK J ((grown_mono G7.out)) rfl rfl (fun wk hk=>by obtain ⟨k1,k2,k3,k4⟩:=HRD.out wk hk;go_simp;try rfl) ?_;replace J:=J.tl;try simp only [pN])
   clear J
   refine wpHold_one (i:=5) rfl (by kernel_rfl) (by rfl) (fun K hK=>?_)
   go_wp2_with fail
   refine (clone107 (.slice ao an ac) ans wd7 (HB7.out.2.2.2.2.1.grown G7.out).seg HA0.out.2).mono ?_
   rintro e w8 ⟨u,rfl,hu,hg⟩
   have H8:Hid (w7.grownBy w8 none/\Disk.Own w8 w.heap.size u ans):=⟨grown_trans G7.out hg,hu.mono (Nat.le_trans H7.out.1.fr.size G7.out.size)⟩
   obtain ⟨uo,un,uc,rfl⟩:=isSl_on hu
   clear hu hg
   go_wp2_with fail
   refine hK.out _ _ (fun _=>grown_mono H8.out.1) ?_
   clear hK K
   try simp only [pN]
   have J:Idx [6]:=trivial
   iterate 1 (refine tK J ((grown_mono H8.out.1)) rfl rfl (fun wk hk=>by obtain ⟨k1,k2,k3,k4⟩:=HRD.out wk hk;go_simp;try rfl) ?_;replace J:=J.tl;try simp only [pN])
   clear J
   refine wpHold_one (i:=7) rfl (by kernel_rfl) (by rfl) (fun K hK=>?_)
   obtain ⟨w9,hw9,H9'⟩:=al1 w8 #[.int .i64 c.id,.int .i64 what,.slice uo un uc] 78
   obtain ⟨p9,hp9⟩:∃x,w8.heap.size=x:=⟨_,rfl⟩
   rw [hp9] at H9'
   have HW9:Hid (w8.alloc (.cells #[.int .i64 c.id,.int .i64 what,.slice uo un uc] 78)=w9/\w8.heap.size=p9):=⟨hw9,hp9⟩
   clear hw9 hp9
   go_wp2_with fail
   rw [HW9.out.1,HW9.out.2]
   have H9:Hid (Blk w9 p9 78 #[.int .i64 c.id,.int .i64 what,.slice uo un uc]/\w7.grownBy w9 none/\Disk.Own w9 w.heap.size (.slice uo un uc) ans):=⟨H9'.out.1,grown_trans H8.out.1 H9'.out.2.1,H8.out.2.grown H9'.out.2.1⟩
   clear HW9 H9'
   refine hK.out _ _ (fun _=>grown_mono H9.out.2.1) ?_
   clear hK K
   try simp only [pN]
   refine wpHold_one (i:=8) rfl (by kernel_rfl) (by rfl) (fun K hK=>?_)
   refine appL_wp (t:=78) (c:=3) (by':=40) (rtR_stab w.heap.size) (by decide) 61 Tryz.underlying61 info78 rfl (by decide) (by decide) w9 _ _ rfl w.heap.size (.slice vo vn vc) (gather (endG P what ans) s.L k) ⟨c.id,what,ans⟩ p9 [.int .i64 c.id,.int .i64 what,.slice uo un uc] _ rfl rfl (HB7.out.2.2.2.2.2.2.1.grown H9.out.2.1) H9.out.1 rfl rfl ⟨_,rfl,H9.out.2.2⟩ (by simp [Value.oneCell']) ?g0 ?g1 ?_
   case g0 =>
    have:=gather_len (g:=endG P what ans) (L:=s.L) (fun k c=>by unfold endG;split <;> simp) k
    have:=HK.out
    have:=HC.out.1.ok.few
    have:=HC.out.2.1.long
    have:=HC.out.1.len.1
    omega
   case g1=>exact Nat.le_trans H7.out.1.fr.size H9.out.2.1.size
   intro g' cap' w10 hr hg hgg
   have H10:Hid (Eg Q F w b ob v wo wc s (.func (.func 133) #[] #[.pointer (some ⟨rb,0,none⟩),.pointer (some ⟨kb,0,none⟩)]) P what (.slice ao an ac) ans x4 x5 x6 x7 x9 sz (j+1) (.slice (some ⟨g',0,none⟩) ((gather (endG P what ans) s.L k).length+1) cap') (Bx (Bx Qk w9) w10) (w10.setCell ⟨x9,0,none⟩ (.slice (some ⟨g',0,none⟩) ((gather (endG P what ans) s.L k).length+1) cap'))/\Fr w9 (w10.setCell ⟨x9,0,none⟩ (.slice (some ⟨g',0,none⟩) ((gather (endG P what ans) s.L k).length+1) cap')) (fun i=>i=x9\/(Value.slice vo vn vc).ownBlock=some i)/\g'<w10.heap.size):=by
    have h2:=H2.out
    have hz:=HSZ.out
    have hb:=HB7.out
    have h9:=H9.out
    have hw9:=h9.2.1.size
    have hw7:=hb.2.2.2.2.2.2.2.1.lt
    have hp:=HP5.out
    exact eg_put (H7.out.1.grown h9.2.1) rfl (hb.1.grown h9.2.1 (by simp)) (hb.2.1.grown h9.2.1 (by simp)) (hb.2.2.1.grown h9.2.1 (by simp)) (hb.2.2.2.1.grown h9.2.1 (by simp)) (hb.2.2.2.2.1.grown h9.2.1) (hb.2.2.2.2.2.1.grown h9.2.1 (by simp)) (by omega) (hb.2.2.2.2.2.2.1.grown h9.2.1) HS0.out.1.row hr (by rw [HMU.out.2.2,HX.out.2]) hg hgg (by omega)
   have H11:Hid (w7.grownBy w10 (Value.slice vo vn vc).ownBlock/\((Value.slice vo vn vc).ownBlock=some g'\/p5<=g')/\(∃x,w10.cell? ⟨x9,0,none⟩=some x)/\w10.frozen? ⟨x9,0,none⟩=false):=by
    have hb:=HB7.out
    have g:=grown_trans (grown_mono (r:=(Value.slice vo vn vc).ownBlock) H9.out.2.1) hg
    have ne:(Value.slice vo vn vc).ownBlock≠some x9:=fun e=>by
     obtain ⟨_,_,C,hC⟩:=hb.2.2.2.2.2.2.1.blk _ e
     exact absurd (blk_type hb.2.2.2.2.2.1 hC) (by decide)
    have b9:=hb.2.2.2.2.2.1.grown g ne
    refine ⟨g,?_,⟨_,b9.cell 0⟩,b9.free 0⟩
    rcases hgg with e | e
    ·exact .inl e
    ·have:=hb.2.2.2.2.2.2.2.1.lt
     have:=H9.out.2.1.size
     exact .inr (by omega)
   clear hr hg hgg
   refine hK.out _ _ (fun _=>H11.out.1) ?_
   clear hK K
   try simp only [pN]
   refine wpHold_one (i:=9) rfl (by kernel_rfl) (by rfl) (fun K hK=>?_)
   obtain ⟨⟨x0,hx0⟩,hf0⟩:=H11.out.2.2
   go_wp2_with fail
   refine hK.out _ _ (fun h=>absurd rfl h) ?_
   clear hK K
   try simp only [pN]
   refine wpHold_done (by kernel_rfl) ?_
   refine HEND.out _ _ _ H10.out.1 ?_ fun i hi=>?_
   ·have f1:=HB7.out.2.2.2.2.2.2.2.2.mono (G:=fun i=>FN ob v i\/i=x9\/(Value.slice vo vn vc).ownBlock=some i\/i=p5) fun i hi=>by
     rcases hi with h | h
     ·exact .inl h
     ·exact .inr (.inr (.inr h))
    have f2:=Fr.of (F:=fun i=>FN ob v i\/i=x9\/(Value.slice vo vn vc).ownBlock=some i\/i=p5) H9.out.2.1 (by simp)
    have f3:=H10.out.2.1.mono (G:=fun i=>FN ob v i\/i=x9\/(Value.slice vo vn vc).ownBlock=some i\/i=p5) fun i hi=>by
     rcases hi with h | h
     ·exact .inr (.inl h)
     ·exact .inr (.inr (.inl h))
    exact (f1.trans f2 fun i hi=>.inl hi).trans f3 fun i hi=>.inl hi
   ·simp [Value.ownBlock] at hi
    subst hi
    refine ⟨H11.out.2.1,?_⟩
    have:=H10.out.2.2
    simpa using this
end Go.Proofs.YtanoabliahcbeaaGreat.Wn
