import Derived.Test.YtakmlhhapegpoaaGreatRs
import Derived.Deep.AppendLies
import Derived.Sort.OwnSorted
set_option maxHeartbeats 8000000
set_option maxRecDepth 100000
namespace Go.Proofs.YtakmlhhapegpoaaGreat
open Go.RowKit Disk Table
open Names (Str cmpL keyB valueB tabB)
section
variable {P:Program} {o:Oper} {a:Act} {w:World} {next:Act->World->Prop} {Q:Exit->Act->World->Prop}
theorem yield_wide1 {l:Nat}{f:Operand}{xs:Operand}{x:Value}{ts:Array TypeId}{R:Ending->World->Prop}(hy:YieldAt Fence.wide 0 P l #[x] w R)(ho:o.op=.call { callee:=.value f,args:=#[xs],argTypes:=ts })(hf:a.eval f=.func (.yield l) #[] #[])(hx:a.eval xs=x)
  (h:∀e w',R e w'->∃v,e=.returned v/\next (a.put o.dst v) w'):o.wpIn Fence.wide 0 P a w next Q:=by
 obtain ⟨fn,tmps,assign,body,hr,hR⟩:=hy
 refine ⟨fun _ _=>trivial,?_⟩
 rw [Fence.wide_round,Oper.semAt_none]
 have e:(execOp a.eval o).run P w=.ok (.round l fn tmps assign body) w:=by
  simp only [execOp,ho,resolve,invoke,Sem.run_bind,List.map_toArray,List.map_cons,List.map_nil,hf,hx]
  exact hr
 rw [e,Oper.uponIn_round]
 refine ⟨fun e=>by simp [Fence.wide] at e,hR.mono ?_⟩
 intro e w' he
 obtain ⟨v,rfl,hn⟩:=h e w' he
 exact hn
end
def Xk (N:List Bs)(p p':List Bs)(_ _:World)(xs:Array Value):Prop:=∃x post,p'=p ++ [x]/\xs=#[Str x]/\(p ++ x :: post).Perm N
theorem tn_iter {w w':World}{it m n0:Nat}{E left:List Ent}(h:IterAt w it m E left)(hg:w.grownBy w' (some it))(hn:n0<=it):Tn n0 w w' :=
 ⟨hg.os,hg.tape,hg.output,hg.size,fun i hi hc=>hg.block i hi (fun e=>by
  simp at e
  subst e
  obtain ⟨es,c,seen,c0,_,h2,_⟩:=h
  rcases hc with hc | ⟨_,_,_,hc⟩
  ·omega
  ·rw [h2] at hc;cases hc)⟩
theorem IterAt.same {w w':World}{it m:Nat}{E left:List Ent}(h:IterAt w it m E left)(h1:w'.heap[m]? = w.heap[m]?)(h2:w'.heap[it]? = w.heap[it]?):IterAt w' it m E left:=by
 obtain ⟨es,c,seen,c0,e1,e2,e3⟩:=h
 exact ⟨es,c,seen,c0,h1.trans e1,h2.trans e2,e3⟩
theorem IterAt.lt {w:World}{it m:Nat}{E left:List Ent}(h:IterAt w it m E left):m<w.heap.size/\it<w.heap.size:=by
 obtain ⟨es,c,seen,c0,e1,e2,_⟩:=h
 exact ⟨(Array.getElem?_eq_some_iff.1 e1).1,(Array.getElem?_eq_some_iff.1 e2).1⟩
theorem gives80 (kb m:Nat)(E:List Ent)(Fw:Nat->Prop)(w:World)(hb:Blk w kb 62 #[.map (some m)])(hm:MapAt w m E)(hFw:∀i,Fw i->i<w.heap.size)(hFm:¬Fw m):GivesS Tryz.prog 80 #[.pointer (some ⟨kb,0,none⟩)] [] (fun p=>p.Perm (E.map (·.1))) (Xk (E.map (·.1))) Fw w:=by
 intro lp J Jx W hgW hJ hJx hY h0
 have c0:=(hb.grown hgW (by simp)).cell 0
 simp at c0
 obtain ⟨w0,hr0,hi0,hg0,hs0⟩:=run_range62 (hm.grown hgW (by simp))
 have HJ:Hid _:=hJ
 have HY:Hid _:=hY
 have HI:Hid (IterAt w0 W.heap.size m E E/\J [] (fun _=>False) w0/\W.heap.size<=w0.heap.size):=⟨hi0,hJ _ _ _ _ h0 (Tn.of_grown hg0),hg0.size⟩
 have HC:Hid (w.heap.size<=W.heap.size/\m<w.heap.size/\(∀i,Fw i->i<w.heap.size)/\¬Fw m):=⟨hgW.size,hm.lt,hFw,hFm⟩
 clear hJ hJx hY h0 hb hgW hm hi0 hg0 hs0 hFw hFm
 show Calls Tryz.prog 80 #[.func (.yield lp) #[] #[],.pointer (some ⟨kb,0,none⟩)] W _
 go_enter Tryz.func80,Tryz.ntmps80
 go_wp2_with fail
 go_loopw [6] (fun _ wr=>∃(left:List Ent) (p:List Bs) (G:Nat->Prop),Hid (IterAt wr W.heap.size m E left/\J p G wr/\W.heap.size<=wr.heap.size/\(p ++ left.map (·.1)).Perm (E.map (·.1))/\∀i,G i->W.heap.size<i)) (fun _ wr=>leftN wr W.heap.size m)
 case atStart=>exact ⟨E,[],_,HI.out.1,HI.out.2.1,HI.out.2.2,by simp,fun _ h=>h.elim⟩
 case round =>
  obtain ⟨left,p,G,HR⟩:=hrel
  by_cases hl:left=[]
  ·subst hl
   have hn:=fun ty=>run_next_no HR.out.1 ty
   go_wp2_with fail
   exact ⟨rfl,_,results_none rfl _ _ _,⟨_,rfl⟩,.inl ⟨p,by simpa using HR.out.2.2.2.1,G,HR.out.2.1⟩⟩
  ·obtain ⟨x,left',w1,hp,hn,he,hi,hg,hsz⟩:=run_next_some HR.out.1 hl 0
   have HX:Hid (IterAt w1 W.heap.size m E left'/\Tn W.heap.size wr w1/\(p ++ x.1 :: left'.map (·.1)).Perm (E.map (·.1))/\left.length=left'.length+1/\W.heap.size<=w1.heap.size):=by
    refine ⟨hi,tn_iter HR.out.1 hg (Nat.le_refl _),?_,by have:=hp.length_eq;simpa using this,by rw [hsz];exact HR.out.2.2.1⟩
    refine List.Perm.trans (List.Perm.append_left p ?_) HR.out.2.2.2.1
    have:=(hp.map (·.1)).symm
    simpa using this
   clear hp hi hg hsz hl
   go_upto_region 3 with fail
   refine (wpIn_wide (n:=0)).1 (wpIn_region_lit ?_)
   refine wpListIn_plain rfl fun K1 hK1=>oper_wide 0 ?_
   have HK1:Hid _:=hK1
   clear hK1
   go_wp2_with fail
   refine HK1.out _ _ ?_
   clear HK1 K1
   refine wpListIn_plain rfl fun K1 hK1=>oper_wide 0 ?_
   have HK1:Hid _:=hK1
   clear hK1
   go_wp2_with fail
   refine HK1.out _ _ ?_
   clear HK1 K1
   refine wpListIn_plain rfl fun K1 hK1=>yield_wide1 (HY.out p (p ++ [x.1]) G wr w1 #[Str x.1] HR.out.2.1 HR.out.2.2.1 HX.out.2.1 ⟨x.1,_,rfl,rfl,HX.out.2.2.1⟩) rfl rfl rfl ?_
   have hnh:∀i,¬HandA #[Str x.1] i:=by
    rintro i (⟨v,hv,e⟩ | ⟨c,u,hc,_,_⟩)
    ·simp at hv
     subst hv
     simp [Str,Value.ownBlock] at e
    ·simp [Str] at hc
   rintro e W' (⟨rfl,G',hnew,hJ',hkept⟩ | ⟨rfl,hx,_⟩)
   ·refine ⟨_,rfl,hK1 _ _ ?_⟩
    clear hK1 K1
    simp only [Act.put,List.setIfInBounds_toArray,List.set_cons_zero,List.set_cons_succ]
    refine wpListIn_plain rfl fun K1 hK1=>oper_wide 0 ?_
    have HK1:Hid _:=hK1
    clear hK1
    go_wp2_with fail
    refine HK1.out _ _ ?_
    clear HK1 K1
    refine wpListIn_nil ?_
    refine (‹∀(a:Act) (w:World),Code.wp Tryz.prog _ _ a w->_› _ _ ?_)
    have HK:Hid (IterAt W' W.heap.size m E left'/\J (p ++ [x.1]) G' W'/\W.heap.size<=W'.heap.size/\∀i,G' i->W.heap.size<i):=by
     have h1:=HX.out.1.lt
     have h2:=HC.out
     refine ⟨HX.out.1.same (hkept.2 m h1.1 (.inl h2.2.1) h2.2.2.2 (hnh m) (fun hg=>by have:=HR.out.2.2.2.2 _ hg;omega)) (hkept.2 _ h1.2 (.inr (Nat.le_refl _)) (fun hf=>by have:=h2.2.2.1 _ hf;omega) (hnh _) (fun hg=>by have:=HR.out.2.2.2.2 _ hg;omega)),hJ',Nat.le_trans HX.out.2.2.2.2 hkept.1,fun i hi=>?_⟩
     rcases (hnew i hi).1 with h | h
     ·exact HR.out.2.2.2.2 i h
     ·omega
    clear hJ' hkept hnh hnew
    go_wp2_with fail
    go_roundw
    case rel=>exact ⟨left',p ++ [x.1],G',HK.out.1,HK.out.2.1,HK.out.2.2.1,by simpa using HX.out.2.2.1,HK.out.2.2.2⟩
    case measure =>
     have q1:=HR.out.1.left
     have q2:=HK.out.1.left
     have:=HX.out.2.2.2.1
     rw [q1,q2]
     omega
   ·refine ⟨_,rfl,hK1 _ _ ?_⟩
    clear hK1 K1
    simp only [Act.put,List.setIfInBounds_toArray,List.set_cons_zero,List.set_cons_succ]
    refine wpListIn_plain rfl fun K1 hK1=>oper_wide 0 ?_
    have HK1:Hid _:=hK1
    clear hK1
    go_wp2_with fail
    refine HK1.out _ _ ?_
    clear HK1 K1
    refine wpListIn_nil ?_
    refine (‹∀(a:Act) (w:World),Code.wp Tryz.prog _ _ a w->_› _ _ ?_)
    have HX2:Hid (Jx W'):=hx
    clear hx hnh
    go_wp2_with fail
    exact ⟨rfl,_,results_none rfl _ _ _,⟨_,rfl⟩,.inr HX2.out⟩
def Nos (w:World)(B:Nat)(v:Value)(p:List Bs):Prop:=w.ownsRow B 9 1 v p.length (p.map Str)
theorem Nos.same {w w':World}{B:Nat}{v:Value}{p:List Bs}(h:Nos w B v p)(hs:∀g,v.ownBlock=some g->w'.heap[g]? = w.heap[g]?):Nos w' B v p:=by
 refine ⟨h.1,?_⟩
 rcases h.2 with h2 | ⟨g,cap,cur,h1,h2,h3,h4⟩
 ·exact .inl h2
 ·exact .inr ⟨g,cap,cur,h1,h2,(hs g (by rw [h1];rfl)).trans h3,h4⟩
theorem Nos.tn {n0:Nat}{w w':World}{B:Nat}{v:Value}{p:List Bs}(h:Nos w B v p)(ht:Tn n0 w w'):Nos w' B v p:=by
 refine h.same fun g hg=>?_
 rcases h.2 with ⟨rfl,_⟩ | ⟨g',cap,cur,h1,h2,h3,h4⟩
 ·simp [Value.ownBlock] at hg
 ·rw [h1] at hg
  simp [Value.ownBlock] at hg
  subst hg
  exact ht.block _ (Array.getElem?_eq_some_iff.1 h3).1 (.inr ⟨_,_,_,h3⟩)
theorem Nos.other {w:World}{B:Nat}{v:Value}{p:List Bs}(h:Nos w B v p){b t:Nat}{c:Array Value}(hb:Blk w b t c)(ht:t≠9):v.ownBlock≠some b:=by
 intro hg
 rcases h.2 with ⟨rfl,_⟩ | ⟨g',cap,cur,h1,h2,h3,h4⟩
 ·simp [Value.ownBlock] at hg
 ·rw [h1] at hg
  simp [Value.ownBlock] at hg
  subst hg
  unfold Blk at hb
  rw [hb] at h3
  simp at h3
  exact ht h3.2
theorem Nos.mono {w:World}{B B':Nat}{v:Value}{p:List Bs}(h:Nos w B v p)(hb:B'<=B):Nos w B' v p:=by
 refine ⟨h.1,?_⟩
 rcases h.2 with h2 | ⟨g,cap,cur,h1,h2,h3⟩
 ·exact .inl h2
 ·exact .inr ⟨g,cap,cur,h1,by omega,h3⟩
def KeepB (n b:Nat)(w w':World):Prop:=w'.os=w.os/\w'.tape=w.tape/\w'.output=w.output/\w.heap.size<=w'.heap.size/\∀i,i<n->i≠b->w'.heap[i]? = w.heap[i]?
theorem KeepB.refl (n b:Nat)(w:World):KeepB n b w w:=⟨rfl,rfl,rfl,Nat.le_refl _,fun _ _ _=>rfl⟩
theorem KeepB.trans {n b:Nat}{a w w':World}(h:KeepB n b a w)(k:KeepB n b w w'):KeepB n b a w':=⟨k.1.trans h.1,k.2.1.trans h.2.1,k.2.2.1.trans h.2.2.1,Nat.le_trans h.2.2.2.1 k.2.2.2.1,fun i hi hb=>(k.2.2.2.2 i hi hb).trans (h.2.2.2.2 i hi hb)⟩
theorem KeepB.of_tn {n b n0:Nat}{w w':World}(h:Tn n0 w w')(h0:n<=n0)(hn:n<=w.heap.size):KeepB n b w w':=⟨h.os,h.tape,h.output,h.size,fun i hi _=>h.block i (by omega) (.inl (by omega))⟩
theorem KeepB.of_grown {n b:Nat}{w w':World}{r:Option Nat}(h:w.grownBy w' r)(hn:n<=w.heap.size)(hr:∀g,r=some g->n<=g):KeepB n b w w':=⟨h.os,h.tape,h.output,h.size,fun i hi _=>h.block i (by omega) (fun e=>by have:=hr i e.symm;omega)⟩
theorem KeepB.set {n b j:Nat}{w:World}{v:Value}:KeepB n b w (w.setCell ⟨b,j,none⟩ v) :=
 have h:=grown_setCell w b j v
 ⟨h.os,h.tape,h.output,h.size,fun i _ hb=>heap_setCell_other w _ i v hb⟩
theorem ut89:Tryz.prog.underlying 89=some (.slice 9):=by kernel_rfl
theorem info9s:(Tryz.prog.info? 9).map (fun i=>(i.zero,i.size,i.bytes))=some (some (.string ⟨#[]⟩),1,16):=by kernel_rfl
theorem appN_at {ops:Array Oper}{rest:List Oper}{o:Oper}{a:Act}{Q:Exit->Act->World->Prop}(w:World)(hw:Region.wanted o (yielded ops a.tmps)=true)(s x:Operand)(ho:o.op=.call { callee:=.builtin .append,args:=#[s,x],argTypes:=#[89,89] })
  (B:Nat) (v:Value) (p:List Bs) (y:Bs) (g0:Nat) (hs:a.eval s=v) (hx:a.eval x=.slice (some ⟨g0,0,none⟩) 1 1) (hb:Blk w g0 9 #[Str y]) (hv:Nos w B v p) (hp:p.length<=1000000) (hB:B<=w.heap.size)
  (h:∀g cap w',Nos w' B (.slice (some ⟨g,0,none⟩) (p.length+1) cap) (p ++ [y])->w.grownBy w' v.ownBlock->(v.ownBlock=some g\/g=w.heap.size)->g<w'.heap.size->wpList Tryz.prog ops Q rest (a.put o.dst (.slice (some ⟨g,0,none⟩) (p.length+1) cap)) w'):wpList Tryz.prog ops Q (o :: rest) a w:=by
 refine BigFrame.wpList_want hw fun _ hK=>?_
 obtain ⟨i0,hi,hz0,hz1,hz2⟩:=info_parts info9s
 refine wp_append_lies w s x 89 ho B 9 i0 _ 1 16 ut89 hi hz0 hz1 hz2 rfl (by decide) v p.length (p.map Str) hs hv ⟨g0,0,none⟩ 1 1 [Str y] hx rfl ?_ (by simp [Str,Value.oneCell']) (by decide) (by unfold maxLen;omega) (by omega) hB _ rfl ?_
 ·intro j u hj
  have hj0:j=0:=by
   have:=(List.getElem?_eq_some_iff.1 hj).1
   simp at this
   exact this
  subst hj0
  rw [addr_add,hb.cell]
  exact hj
 ·intro g cap w' h1 h2 h3 h4
  refine hK _ _ (h g cap w' ?_ h2 h3 h4)
  unfold Nos
  simpa using h1
theorem append105 (kb m:Nat)(E:List Ent)(w:World)(hb:Blk w kb 62 #[.map (some m)])(hm:MapAt w m E)(hE:E.length<=1000000):Calls Tryz.prog 105 #[.slice none 0 0,.func (.func 80) #[] #[.pointer (some ⟨kb,0,none⟩)]] w fun e w'=>∃v p,e=.returned v/\p.Perm (E.map (·.1))/\Nos w' w.heap.size v p/\w.grownBy w' none:=by
 have HB:Hid (Blk w kb 62 #[.map (some m)]/\MapAt w m E/\E.length<=1000000):=⟨hb,hm,hE⟩
 clear hb hm hE
 refine calls_marks Tryz.func105 rfl ?_
 simp only [Tryz.ntmps105,List.size_toArray,List.length_cons,List.length_nil,Nat.reduceAdd,Nat.reduceSub,Array.replicate_succ,Array.replicate_zero,List.push_toArray,List.append_toArray,List.nil_append,List.cons_append]
 go_wp2_with fail
 obtain ⟨w1,hw1,H1⟩:=al w #[.slice none 0 0] 89
 rw [hw1]
 clear hw1
 obtain ⟨b0,hb0⟩:∃b,w.heap.size=b:=⟨_,rfl⟩
 rw [hb0] at H1 ⊢
 have HB0:Hid (w.heap.size=b0):=hb0
 clear hb0
 refine wp_rangeS (gf:=80) (lb:=#[.pointer (some ⟨kb,0,none⟩)]) rfl (enters_of Tryz.func80 (by kernel_rfl) rfl) (gives80 kb m E (fun i=>i=b0) w1 (HB.out.1.grown H1.out.2.1 (by simp)) (HB.out.2.1.grown H1.out.2.1 (by simp)) (fun i hi=>by rw [hi,H1.out.2.2];omega) (fun hm=>by have:=HB.out.2.1.lt;have:=HB0.out;omega)) ?hps
  (fun p G A=>∃v,Hid (Blk A b0 89 #[v]/\Nos A (w1.heap.size+2) v p/\(∀i,v.ownBlock=some i->G i)/\KeepB w1.heap.size b0 w1 A/\p.length<=E.length)) (fun _=>False) ?hIg ?hXg ?h0 ?hround ?hdone ?hstop
 case hps =>
  rintro s s' W0 W1 xs ⟨x,post,_,rfl,_⟩
  rfl
 case hIg =>
  rintro p G A B ⟨v,HA⟩ ht
  exact ⟨v,ht.blk HA.out.1,HA.out.2.1.tn ht,HA.out.2.2.1,HA.out.2.2.2.1.trans (KeepB.of_tn ht (by omega) HA.out.2.2.2.1.2.2.2.1),HA.out.2.2.2.2⟩
 case hXg=>exact fun A B h _=>h
 case h0=>exact ⟨_,H1.out.1,World.ownsRow_nil _ _ _ _,fun i hi=>by simp [Value.ownBlock] at hi,KeepB.refl _ _ _,by simp⟩
 case hstop=>intro A hA;exact hA.elim
 case hround =>
  rintro l p p' G W0 W1 xs ⟨v,HI⟩ hlt htn ⟨x,post,rfl,rfl,hperm⟩ ⟨rc,hrc⟩
  have HI1:Hid (Blk W1 b0 89 #[v]/\Nos W1 (w1.heap.size+2) v p/\(∀i,v.ownBlock=some i->G i)/\KeepB w1.heap.size b0 w1 W1/\p.length+1<=E.length):=⟨htn.blk HI.out.1,HI.out.2.1.tn htn,HI.out.2.2.1,HI.out.2.2.2.1.trans (KeepB.of_tn htn (by omega) HI.out.2.2.2.1.2.2.2.1),by have:=hperm.length_eq;simp at this;omega⟩
  have HL:Hid (W1.heap[w1.heap.size+1]? = some (.loop rc)):=hrc
  clear hrc hlt htn hperm HI
  simp only [List.zip_toArray,List.zip_cons_cons,List.zip_nil_right,List.foldl_toArray',List.size_toArray,List.foldl_cons,List.foldl_nil,List.setIfInBounds_toArray,List.set_cons_zero,List.set_cons_succ]
  refine region_round (by rintro ⟨_,_,h⟩;exact h) rfl ?_
  go_wp2_with fail
  refine ⟨grown_refl _ _,fun r=>?_⟩
  obtain ⟨W2,hW2⟩:∃W2,W1.putObj (w1.heap.size+1) (.loop r)=W2:=⟨_,rfl⟩
  have HT2:Hid (Tn (w1.heap.size+1) W1 W2/\W2.heap.size=W1.heap.size/\∀i,i≠w1.heap.size+1->W2.heap[i]? = W1.heap[i]?):=by
   rw [<-hW2]
   exact ⟨Tn.put _ HL.out (Nat.le_refl _),by simp [World.putObj],fun i hi=>World.putObj_heap_other hi⟩
  rw [hW2]
  clear hW2
  have c0:=(HT2.out.1.blk HI1.out.1).cell 0
  simp at c0
  refine wpIn_block ?_
  refine region_round (by rintro ⟨_,_,h⟩;exact h) rfl ?_
  obtain ⟨W3,hW3,H3⟩:=al W2 #[.string ⟨x.toArray⟩] 9
  have HN3:Hid (Nos W3 (w1.heap.size+2) v p):=(HI1.out.2.1.tn HT2.out.1).tn (Tn.of_grown (n0:=0) H3.out.2.1)
  have HS3:Hid (w1.heap.size+2<=W3.heap.size):=by
   have:=(Array.getElem?_eq_some_iff.1 HL.out).1
   have:=HT2.out.2.1
   have:=H3.out.2.1.size
   show _<=_
   omega
  have hW4:Hid (W2.alloc (.cells #[.string ⟨x.toArray⟩] 9)=W3):=hW3
  clear hW3
  simp only [Str]
  go_wp2_with (at_builtin;rw [hW4.out];refine appN_at W3 rfl _ _ rfl (w1.heap.size+2) v p x W2.heap.size rfl rfl H3.out.1 HN3.out (by have:=HI1.out.2.2.2.2;have:=HB.out.2.2;omega) HS3.out ?_)
  intro g cap W4 hN4 g4 hg4 hl4
  have HL4:Hid (g<W4.heap.size):=hl4
  clear hl4
  have H4:Hid (Nos W4 (w1.heap.size+2) (.slice (some ⟨g,0,none⟩) (p.length+1) cap) (p ++ [x])/\W3.grownBy W4 v.ownBlock/\(v.ownBlock=some g\/g=W3.heap.size)/\Blk W4 b0 89 #[v]):=by
   have hb3:Blk W3 b0 89 #[v]:=(HT2.out.1.blk HI1.out.1).grown H3.out.2.1 (by simp)
   exact ⟨hN4,g4,hg4,hb3.grown g4 (HN3.out.other hb3 (by decide))⟩
  clear hN4 g4 hg4 hW4
  have c4:=H4.out.2.2.2.cell 0
  simp at c4
  have f4:=H4.out.2.2.2.free 0
  go_wp2_with fail
  have hb4:=H4.out.2.2.2
  have hb5:Blk (W4.setCell ⟨b0,0,none⟩ (.slice (some ⟨g,0,none⟩) (p.length+1) cap)) b0 89 #[.slice (some ⟨g,0,none⟩) (p.length+1) cap]:=hb4.store 0 _
  have hoth:∀i,i≠b0->(W4.setCell ⟨b0,0,none⟩ (.slice (some ⟨g,0,none⟩) (p.length+1) cap)).heap[i]? = W4.heap[i]?:=fun i hi=>heap_setCell_other W4 _ i _ hi
  have hsz5:(W4.setCell ⟨b0,0,none⟩ (.slice (some ⟨g,0,none⟩) (p.length+1) cap)).heap.size=W4.heap.size:=by simp
  have hk5:KeepB w1.heap.size b0 W4 (W4.setCell ⟨b0,0,none⟩ (.slice (some ⟨g,0,none⟩) (p.length+1) cap)):=KeepB.set
  generalize W4.setCell ⟨b0,0,none⟩ (.slice (some ⟨g,0,none⟩) (p.length+1) cap)=W5 at hb5 hoth hsz5 hk5 ⊢
  have h1:=H1.out.2.2
  have hL:=(Array.getElem?_eq_some_iff.1 HL.out).1
  have t2:=HT2.out
  have g3:=H3.out
  have g4:=H4.out
  have hown:∀i,v.ownBlock=some i->w1.heap.size+2<=i:=fun i hi=>(World.ownsRow.lt HN3.out i hi).1
  have key:∀i,i<W2.heap.size->i≠b0->v.ownBlock≠some i->W5.heap[i]? = W2.heap[i]?:=fun i hi hb hv=>by
   rw [hoth i hb,g4.2.1.block i (by omega) (fun e=>hv e.symm)]
   exact g3.2.1.block i hi (by simp)
  have s4:=g4.2.1.size
  have gg:b0≠g:=by
   rcases g4.2.2.1 with h | h
   ·have:=hown g h
    omega
   ·omega
  refine ⟨⟨key _ (by omega) (by omega) (fun e=>by have:=hown _ e;omega),key _ (by omega) (by omega) (fun e=>by have:=hown _ e;omega)⟩,fun i=>i=g,?_,⟨by omega,?_⟩,_,hb5,?_,?_,?_,?_⟩
  ·rintro i rfl
   refine ⟨?_,by have:=HL4.out;omega⟩
   rcases g4.2.2.1 with h | h
   ·exact .inl (HI1.out.2.2.1 _ h)
   ·exact .inr (by omega)
  ·intro i hi hc hf _ hG
   rw [key i (by omega) hf (fun e=>hG (HI1.out.2.2.1 _ e))]
   exact t2.2.2 i (by omega)
  ·exact g4.1.same fun k hk=>hoth k (fun e=>by simp [Value.ownBlock] at hk;omega)
  ·intro i hi
   simp [Value.ownBlock] at hi
   exact hi.symm
  ·exact (((HI1.out.2.2.2.1.trans (KeepB.of_tn t2.1 (by omega) (by omega))).trans (KeepB.of_grown g3.2.1 (by omega) (by simp))).trans (KeepB.of_grown g4.2.1 (by omega) (fun k hk=>by have:=hown k hk;omega))).trans hk5
  ·have:=HI1.out.2.2.2.2
   simpa using this
 case hdone =>
  rintro A p G hfin ⟨v,HA⟩ hd
  have HD:Hid _:=hd
  clear hd
  have q0:=HA.out.1.cell 0
  simp at q0
  refine (‹∀(a:Act) (w:World),Code.wp Tryz.prog _ _ a w->_› _ _ ?_)
  go_wp2_with fail
  refine ⟨by simp,.inl ⟨_,_,rfl,run_takeDeferred HD.out,?_⟩⟩
  have ht:Tn w1.heap.size A (A.putObj w1.heap.size (.deferred none)):=Tn.putD (.deferred none) HD.out (Nat.le_refl _)
  refine ⟨v,by simp [results,Tryz.results105,go_sem],?_⟩
  refine ⟨v,p,rfl,hfin,(HA.out.2.1.tn ht).mono (by have:=H1.out.2.2;have:=HB0.out;omega),?_⟩
  have k:=HA.out.2.2.2.1
  have h0:=HB0.out
  have h1:=H1.out
  refine ⟨ht.os.trans (k.1.trans h1.2.1.os),ht.tape.trans (k.2.1.trans h1.2.1.tape),ht.output.trans (k.2.2.1.trans h1.2.1.output),Nat.le_trans (Nat.le_trans h1.2.1.size k.2.2.2.1) ht.size,fun i hi _=>?_⟩
  rw [ht.block i (by have:=k.2.2.2.1;omega) (.inl (by omega)),k.2.2.2.2 i (by omega) (by omega)]
  exact h1.2.1.block i hi (by simp)
theorem lt_cmp:∀(a b:Bs),cmpL a b<0->a<b
 | [],[],h=>by simp [cmpL] at h
 | [],_ :: _,_=>List.nil_lt_cons _ _
 | _ :: _,[],h=>by simp [cmpL] at h
 | x :: a,y :: b,h=>by
  unfold cmpL at h
  split at h
  ·exact List.Lex.rel (UInt8.lt_iff_toNat_lt.2 (by assumption))
  ·split at h
   ·simp at h
   ·have:x=y:=UInt8.toNat_inj.1 (by omega)
    subst this
    exact List.Lex.cons (lt_cmp a b h)
theorem le_cmp {a b:Bs}(h:cmpL a b<0):a<=b:=List.le_of_lt (lt_cmp a b h)
theorem sorted_names {D:DB}(hD:RiseD D){N p:List Bs}(hN:N.Nodup)(hm:∀n,n ∈ N<->n ∈ namesD D)(hp:p.Perm N):p.mergeSort (fun x y=>decide (x<=y))=namesD D:=by
 have h1:=List.pairwise_mergeSort (le:=fun (x y:Bs)=>decide (x<=y)) (fun a b c h1 h2=>by simp at *;exact List.le_trans h1 h2) (fun a b=>by simp;exact List.le_total a b) p
 refine List.Perm.eq_of_pairwise (fun a b _ _ h2 h3=>?_) h1 ?_ ?_
 ·simp at h2 h3
  exact List.le_antisymm h2 h3
 ·unfold namesD
  rw [List.pairwise_map]
  exact hD.imp fun {a b} hab=>by simpa using le_cmp hab
 ·exact (List.mergeSort_perm _ _).trans (hp.trans ((List.perm_ext_iff_of_nodup hN hD.nodup).2 hm))
theorem collect78 (kb m:Nat)(E:List Ent)(w:World)(hb:Blk w kb 62 #[.map (some m)])(hm:MapAt w m E)(hE:E.length<=1000000):Calls Tryz.prog 78 #[.func (.func 80) #[] #[.pointer (some ⟨kb,0,none⟩)]] w fun e w'=>∃v p,e=.returned v/\p.Perm (E.map (·.1))/\Nos w' w.heap.size v p/\w.grownBy w' none:=by
 have HB:Hid (Blk w kb 62 #[.map (some m)]/\MapAt w m E/\E.length<=1000000):=⟨hb,hm,hE⟩
 clear hb hm hE
 go_enter Tryz.func78,Tryz.ntmps78
 go_wp2_with fail
 refine (append105 kb m E w HB.out.1 HB.out.2.1 HB.out.2.2).mono ?_
 rintro e w1 ⟨v,p,rfl,h1,h2,h3⟩
 have G1:Hid (p.Perm (E.map (·.1))/\Nos w1 w.heap.size v p/\w.grownBy w1 none):=⟨h1,h2,h3⟩
 clear h1 h2 h3
 go_wp2_with fail
 go_ret
 exact ⟨v,p,rfl,G1.out.1,G1.out.2.1,G1.out.2.2⟩
theorem sorted54 (kb m:Nat)(E:List Ent)(D:DB)(hD:RiseD D)(hn:∀n,n ∈ E.map (·.1)<->n ∈ namesD D)(w:World)(hb:Blk w kb 62 #[.map (some m)])(hm:MapAt w m E)(hE:E.length<=1000000):Calls Tryz.prog 54 #[.func (.func 80) #[] #[.pointer (some ⟨kb,0,none⟩)]] w fun e w'=>∃v,e=.returned v/\Nos w' w.heap.size v (namesD D)/\w.grownBy w' none:=by
 have hnd:(E.map (·.1)).Nodup:=by
  obtain ⟨_,_,_,_,_,_,h⟩:=hm
  exact h
 have HB:Hid (Blk w kb 62 #[.map (some m)]/\MapAt w m E/\E.length<=1000000):=⟨hb,hm,hE⟩
 have HN:Hid (∀p:List Bs,p.Perm (E.map (·.1))->p.mergeSort (fun x y=>decide (x<=y))=namesD D):=fun p hp=>sorted_names hD hnd hn hp
 clear hb hm hE hnd hD hn
 go_enter Tryz.func54,Tryz.ntmps54
 go_wp2_with fail
 refine (collect78 kb m E w HB.out.1 HB.out.2.1 HB.out.2.2).mono ?_
 rintro e w1 ⟨v,p,rfl,h1,h2,h3⟩
 have G1:Hid (Nos w1 w.heap.size v p/\w.grownBy w1 none/\p.mergeSort (fun x y=>decide (x<=y))=namesD D/\p.length<=1000000):=⟨h2,h3,HN.out p h1,by have h5:=h1.length_eq;have:=HB.out.2.2;rw [List.length_map] at h5;omega⟩
 clear h1 h2 h3
 have key:Calls Tryz.prog 79 #[v] w1 fun e w'=>e=.returned (.tuple #[])/\Nos w' w.heap.size v (namesD D)/\w.grownBy w' none:=by
  obtain ⟨hN,hg,hs,hl⟩:=G1.out
  have hN':=hN
  unfold Nos at hN
  rcases hN.2 with ⟨hnil,h0⟩ | ⟨g,cap,cur,hv,hbase,hb,h1,h2,h3,h4⟩
  ·subst hnil
   have hp0:p=[]:=List.eq_nil_of_length_eq_zero h0
   subst hp0
   refine (Tryz.slices_Sort_string_none none 0 w1).mono ?_
   rintro e w2 ⟨rfl,rfl⟩
   refine ⟨rfl,?_,hg⟩
   rw [<-hs]
   simpa using hN'
  ·subst hv
   have hh:=holds_of_block (ss:=p) hb (by rw [Nat.mul_one] at h4;exact h4)
   refine (Tryz.slices_Sort_string g 0 cap p w1 hh (Array.getElem?_eq_some_iff.1 hb).1 (by omega)).mono ?_
   rintro e w2 ⟨rfl,n,os,rfl⟩
   have hl2:(p.mergeSort fun x y=>decide (x<=y)).length=p.length:=by simp
   refine ⟨rfl,?_,grown_new hg (grownBy_sorted _) (fun x hx=>by simp at hx;omega)⟩
   have:=ownsRow_sorted (n:=n) (os:=os) hl2 hbase hb h1 h2 h3
   rw [<-hs]
   unfold Nos
   rw [hl2]
   exact this
 go_wp2_with fail
 refine key.mono ?_
 rintro e w2 ⟨rfl,h1,h2⟩
 have G2:Hid (Nos w2 w.heap.size v (namesD D)/\w.grownBy w2 none):=⟨h1,h2⟩
 clear h1 h2 key
 go_wp2_with fail
 go_ret
 exact ⟨v,rfl,G2.out.1,G2.out.2⟩
end Go.Proofs.YtakmlhhapegpoaaGreat
