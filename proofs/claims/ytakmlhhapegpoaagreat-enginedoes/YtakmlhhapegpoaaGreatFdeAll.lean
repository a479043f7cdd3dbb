import Derived.Test.YtakmlhhapegpoaaGreatFabAll
set_option maxHeartbeats 8000000
set_option maxRecDepth 100000
namespace Go.Proofs.YtakmlhhapegpoaaGreat
open Go.RowKit Disk Table
open Names (Str cmpL keyB valueB tabB inB)
theorem appV_wp {o:Oper}{a:Act}{K:Act->World->Prop}{Q:Exit->Act->World->Prop}(w:World)(s x:Operand)(t e:TypeId)(z:Value)(size bytes:Nat)
  (hi:(Tryz.prog.info? e).map (fun i=>(i.zero,i.size,i.bytes))=some (some z,size,bytes)) (ht:Tryz.prog.underlying t=some (.slice e)) (hzs:z.cells.size=size) (hsz:0<size)
  (ho:o.op=.call { callee:=.builtin .append,args:=#[s,x],argTypes:=#[t,t] })
  (B:Nat) (v:Value) (n:Nat) (xs:List Value) (u:Value) (m:Nat) (ys:List Value) (hs:a.eval s=v) (hx:a.eval x=u) (hv:w.ownsRow B e size v n xs) (hu:Vec w size u m ys) (h1c:∀y ∈ ys,y.oneCell'=true) (hb:(n+m)*bytes<=140737488355328) (hb2:n+m<=maxLen) (hB:B<=w.heap.size)
  (h:∀v' w',w'.ownsRow B e size v' (n+m) (xs ++ ys)->Grew w B w'->K (a.put o.dst v') w'):o.wp Tryz.prog a w K Q:=by
 obtain ⟨i0,hi,hz0,hz1,hz2⟩:=info_parts hi
 have huv:=hu
 obtain ⟨ao,cap,rfl,h1,h2,h3,h4,h5⟩:=hu
 by_cases hm:0<m
 ·have ⟨ad,hao⟩:∃ad,ao=some ad:=by
   cases ao with
   | none=>have:=h3 rfl;omega
   | some ad=>exact ⟨ad,rfl⟩
  subst hao
  refine wp_append_lies w s x t ho B e i0 z size bytes ht hi hz0 hz1 hz2 hzs hsz v n xs hs hv ad m cap ys hx h4 huv.news h1c hm hb2 hb hB w.heap.size rfl ?_
  intro g cap' w' h1 h2 h3 _
  exact h _ w' h1 ⟨_,h2,fun k hk=>(World.ownsRow.lt hv k hk).1⟩
 ·have hm0:m=0:=by omega
  subst hm0
  obtain rfl:ys=[]:=List.eq_nil_of_length_eq_zero (by simpa using h4)
  obtain ⟨av,cv,ev,hcv,_⟩:=(vec_of_owns hv).shape
  subst ev
  have hx':a.eval x=.slice ao 0 cap:=hx
  have hs':a.eval s=.slice av n cv:=hs
  have hrun:=run_append_zero (P:=Tryz.prog) (w:=w) t o.type e i0 ht hi av ao n cv cap hcv
  unfold Oper.wp
  simp only [execOp,ho,resolve,invoke,builtin,Sem.run_bind,Sem.run_pure,Result.andThen_ok,List.map_toArray,List.map_cons,List.map_nil,hs',hx',hrun]
  exact h _ w (by simpa using hv) ⟨none,grown_refl _ _,by simp⟩
theorem appV_at {ops:Array Oper}{rest:List Oper}{o:Oper}{a:Act}{Q:Exit->Act->World->Prop}(w:World)(hw:Region.wanted o (yielded ops a.tmps)=true)(s x:Operand)(t e:TypeId)(z:Value)(size bytes:Nat)
  (hi:(Tryz.prog.info? e).map (fun i=>(i.zero,i.size,i.bytes))=some (some z,size,bytes)) (ht:Tryz.prog.underlying t=some (.slice e)) (hzs:z.cells.size=size) (hsz:0<size)
  (ho:o.op=.call { callee:=.builtin .append,args:=#[s,x],argTypes:=#[t,t] })
  (B:Nat) (v:Value) (n:Nat) (xs:List Value) (u:Value) (m:Nat) (ys:List Value) (hs:a.eval s=v) (hx:a.eval x=u) (hv:w.ownsRow B e size v n xs) (hu:Vec w size u m ys) (h1c:∀y ∈ ys,y.oneCell'=true) (hb:(n+m)*bytes<=140737488355328) (hb2:n+m<=maxLen) (hB:B<=w.heap.size)
  (h:∀v' w',w'.ownsRow B e size v' (n+m) (xs ++ ys)->Grew w B w'->wpList Tryz.prog ops Q rest (a.put o.dst v') w'):wpList Tryz.prog ops Q (o :: rest) a w :=
 BigFrame.wpList_want hw fun _ hK=>appV_wp w s x t e z size bytes hi ht hzs hsz ho B v n xs u m ys hs hx hv hu h1c hb hb2 hB fun v' w' h1 h2=>hK _ _ (h v' w' h1 h2)
def Off (X:Nat->Prop)(v:Value):Prop:=∀g,v.ownBlock=some g->¬X g
theorem off_new {X:Nat->Prop}{w w0:World}{B:Nat}{v:Value}{L:Bs}(hX:∀g,X g->g<w0.heap.size)(h:Disk.Own w B v L)(hB:w0.heap.size<=B):Off X v:=fun g hg hx=>by
 have:=hX g hx
 have:=(h.lt g hg).1
 omega
def NOff (X:Nat->Prop)(ks:List (Bs × Value × Value)):Prop:=∀k ∈ ks,Off X k.2.1/\Off X k.2.2
def DRow (X:Nat->Prop)(w:World)(v:Value)(F:List NRow):Prop:=∃ks,NmsO w 0 v ks/\NOwn w 0 ks F/\Off X v/\NOff X ks
theorem DRow.nms {X:Nat->Prop}{w:World}{v:Value}{F:List NRow}(h:DRow X w v F):Nms w v F:=by
 obtain ⟨ks,h1,h2,_⟩:=h
 exact nms_of h1 h2
theorem DRow.keep {X:Nat->Prop}{w w':World}{v:Value}{F:List NRow}(h:DRow X w v F)(hk:∀g,g<w.heap.size->¬X g->(∀t c,Blk w g t c->t=61\/t=5)->w'.heap[g]? = w.heap[g]?):DRow X w' v F:=by
 obtain ⟨ks,h1,h2,h3,h4⟩:=h
 have ho:∀(y:Value) (L:Bs),Disk.Own w 0 y L->Off X y->Disk.Own w' 0 y L:=fun y L hy hx=>hy.same fun g hg=>hk g (hy.lt g hg).2 (hx g hg) fun t c hb=>by
  rcases Classical.em (t=5) with e | e
  ·exact .inr e
  ·exact absurd hg (hy.other hb e)
 refine ⟨ks,h1.same fun g hg=>hk g (h1.lt g hg).2 (h3 g hg) fun t c hb=>?_,⟨h2.1,fun j a b=>?_⟩,h3,h4⟩
 ·rcases Classical.em (t=61) with e | e
  ·exact .inl e
  ·exact absurd hg (h1.other hb e)
 ·have:=h4 ks[j] (List.getElem_mem a)
  exact ⟨(h2.2 j a b).1,ho _ _ (h2.2 j a b).2.1 this.1,ho _ _ (h2.2 j a b).2.2 this.2⟩
theorem DRow.grown {X:Nat->Prop}{w w':World}{v:Value}{F:List NRow}(h:DRow X w v F)(hg:w.grownBy w' none):DRow X w' v F:=h.keep fun g hl _ _=>hg.block g hl (by simp)
theorem DRow.off {X:Nat->Prop}{w w':World}{v:Value}{F:List NRow}(h:DRow X w v F){b t:Nat}{c:Array Value}(hg:w.grownBy w' (some b))(hb:Blk w b t c)(h61:t≠61)(h5:t≠5):DRow X w' v F:=h.keep fun g hl _ ht=>hg.block g hl fun e=>by
 simp at e
 subst e
 rcases ht t c hb with e | e
 ·exact h61 e
 ·exact h5 e
theorem DRow.weak {X Y:Nat->Prop}{w:World}{v:Value}{F:List NRow}(h:DRow X w v F)(hs:∀g,g<w.heap.size->Y g->X g):DRow Y w v F:=by
 obtain ⟨ks,h1,h2,h3,h4⟩:=h
 refine ⟨ks,h1,h2,fun g hg hy=>h3 g hg (hs g (h1.lt g hg).2 hy),fun k hk=>?_⟩
 obtain ⟨j,hj,rfl⟩:=List.getElem_of_mem hk
 have hj2:j<F.length:=by rw [<-h2.1];exact hj
 have:=h2.2 j hj hj2
 exact ⟨fun g hg hy=>(h4 _ hk).1 g hg (hs g (this.2.1.lt g hg).2 hy),fun g hg hy=>(h4 _ hk).2 g hg (hs g (this.2.2.lt g hg).2 hy)⟩
theorem DRow.any {X Y:Nat->Prop}{w:World}{v:Value}{F:List NRow}(h:DRow X w v F)(hs:∀g,Y g->w.heap.size<=g):DRow (fun g=>X g\/Y g) w v F:=h.weak fun g hl hy=>by
 rcases hy with h | h
 ·exact h
 ·have:=hs g h
  omega
theorem NOwn.len {w:World}{B:Nat}{ks:List (Bs × Value × Value)}{F:List NRow}(h:NOwn w B ks F):ks.length=F.length:=h.1
theorem NOwn.append {w:World}{B:Nat}{ks ls:List (Bs × Value × Value)}{l m:List NRow}(h:NOwn w B ks l)(k:NOwn w B ls m):NOwn w B (ks ++ ls) (l ++ m):=by
 refine ⟨by simp [h.1,k.1],fun j a b=>?_⟩
 have:=h.1
 simp only [List.getElem_append]
 split <;> split
 ·exact h.2 _ _ _
 ·omega
 ·omega
 ·have:=k.2 (j-ks.length) (by simp at a;omega) (by simp at b;omega)
  simp only [h.1] at this ⊢
  exact this
theorem NOwn.take {w:World}{B:Nat}{ks:List (Bs × Value × Value)}{l:List NRow}(h:NOwn w B ks l)(k:Nat):NOwn w B (ks.take k) (l.take k):=by
 refine ⟨by simp [h.1],fun j a b=>?_⟩
 simp only [List.getElem_take]
 exact h.2 _ _ _
theorem NOwn.drop {w:World}{B:Nat}{ks:List (Bs × Value × Value)}{l:List NRow}(h:NOwn w B ks l)(k:Nat):NOwn w B (ks.drop k) (l.drop k):=by
 refine ⟨by simp [h.1],fun j a b=>?_⟩
 simp only [List.getElem_drop]
 exact h.2 _ _ _
theorem nown_one {w:World}{B:Nat}{n:Bs}{x y:Value}{r:PRow}(hx:Disk.Own w B x r.1)(hy:Disk.Own w B y r.2):NOwn w B [(n,x,y)] [(n,r)]:=NOwn.snoc (nown_nil w B) hx hy
theorem NOwn.grown {w w':World}{B:Nat}{ks:List (Bs × Value × Value)}{l:List NRow}(h:NOwn w B ks l)(hg:w.grownBy w' none):NOwn w' B ks l:=h.tn (Tn.of_grown (n0:=0) hg)
theorem NOwn.one {w:World}{B:Nat}{ks:List (Bs × Value × Value)}{l:List NRow}(h:NOwn w B ks l):∀u ∈ ncells ks,u.oneCell'=true:=by
 have key:∀(ks:List (Bs × Value × Value)),(∀k ∈ ks,k.2.1.oneCell'=true/\k.2.2.oneCell'=true)->∀u ∈ ncells ks,u.oneCell'=true:=by
  intro ks
  induction ks with
  | nil=>intro _ u hu;simp [ncells] at hu
  | cons k ks ih =>
   intro hk u hu
   simp only [ncells,List.mem_cons] at hu
   rcases hu with rfl | rfl | rfl | hu
   ·rfl
   ·exact (hk k (by simp)).1
   ·exact (hk k (by simp)).2
   ·exact ih (fun x hx=>hk x (by simp [hx])) u hu
 refine key ks fun k hk=>?_
 obtain ⟨j,hj,rfl⟩:=List.getElem_of_mem hk
 have:=h.2 j hj (by rw [<-h.1];exact hj)
 obtain ⟨a1,c1,e1⟩:=this.2.1.seg.shape
 obtain ⟨a2,c2,e2⟩:=this.2.2.seg.shape
 rw [e1,e2]
 exact ⟨rfl,rfl⟩
theorem ncells_take (ks:List (Bs × Value × Value))(k:Nat):ncells (ks.take k)=(ncells ks).take (k*3):=by
 induction ks generalizing k with
 | nil=>simp [ncells]
 | cons x ks ih =>
  cases k with
  | zero=>simp [ncells]
  | succ k =>
   have e:(k+1)*3=k*3+3:=by omega
   rw [e]
   simp [ncells,ih]
theorem nms_piece {w:World}{B:Nat}{ao:Option Addr}{n cap:Nat}{ks:List (Bs × Value × Value)}(h:NmsO w B (.slice ao n cap) ks)(hn:ks.length=n)(lo hi:Nat)(h1:lo<=hi)(h2:hi<=n):Vec w 3 (sliced ao lo hi cap 3) (hi-lo) (ncells ((ks.drop lo).take (hi-lo))):=by
 unfold NmsO at h
 rw [hn] at h
 have:=vec_piece (vec_of_owns h) lo hi h1 h2
 rw [ncells_take,ncells_drop]
 exact this
theorem run_front24 (ao:Option Addr)(n cap hi:Nat)(h2:hi<=cap)(w:World):(Instr.slice 24 (.slice ao n cap) none (some (.int .i64 (hi:Int))) none).run Tryz.prog w=.ok (sliced ao 0 hi cap 3) w:=by
 rw [run_slice_h _ 24 ao n cap Tryz.ut24 .i64 hi (by omega) (by omega),Tryz.size24]
 simp [Result.andThen]
theorem vec_three61 (w:World)(x y z:Value)(w1:World)(hb:Blk w1 w.heap.size 61 #[x,y,z]):Vec w1 3 (.slice (some ⟨w.heap.size,0,none⟩) 1 1) 1 [x,y,z]:=by
 refine ⟨_,1,rfl,Nat.le_refl _,by unfold maxLen;omega,by simp,rfl,fun j u hj=>⟨_,0,rfl,?_⟩⟩
 rw [hb.cell,Nat.zero_add]
 simpa using hj
theorem put94 {X:Nat->Prop}(v:Value)(F:List NRow)(n:Bs)(x y:Value)(r:PRow)(w:World)(hX:∀g,X g->g<w.heap.size)(hz:F.length<=1000000)(hv:DRow X w v F)(hx:Disk.Own w 0 x r.1)(hy:Disk.Own w 0 y r.2)(ox:Off X x)(oy:Off X y):Calls Tryz.prog 94 #[v,.agg #[Str n,x,y]] w fun e w'=>∃u,e=.returned u/\DRow X w' u (putF F (n,r))/\w.grownBy w' none:=by
 obtain ⟨a1,n1,c1,rfl,hn1,hc1,hc1',HV⟩:=nms_open hv.nms
 obtain ⟨ks,hk1,hk2,hk3,hk4⟩:=hv
 have HN:Hid (F.length=n1/\Disk.Own w 0 x r.1/\Disk.Own w 0 y r.2/\NmsO w 0 (.slice a1 n1 c1) ks/\NOwn w 0 ks F/\(∀g,X g->g<w.heap.size)/\Off X x/\Off X y/\Off X (.slice a1 n1 c1)/\NOff X ks):=⟨hn1,hx,hy,hk1,hk2,hX,ox,oy,hk3,hk4⟩
 have hz1:n1<=1000000:=by omega
 obtain ⟨x1,x2,ex⟩:=hx.seg.shape
 obtain ⟨y1,y2,ey⟩:=hy.seg.shape
 obtain ⟨xl,hxl⟩:∃l,r.1.length=l:=⟨_,rfl⟩
 obtain ⟨yl,hyl⟩:∃l,r.2.length=l:=⟨_,rfl⟩
 rw [hxl] at ex
 rw [hyl] at ey
 subst ex ey
 clear hk1 hk2 hk3 hk4 hX ox oy hn1 hx hy hz hxl hyl
 go_enter Tryz.func94,Tryz.ntmps94
 go_wp2_with fail
 obtain ⟨w1,hw1,H1⟩:=al w #[Str n,.slice x1 xl x2,.slice y1 yl y2] 61
 rw [hw1]
 clear hw1
 obtain ⟨xb,hxb⟩:∃b,w.heap.size=b:=⟨_,rfl⟩
 rw [hxb] at H1 ⊢
 have HXB:Hid (w.heap.size=xb):=hxb
 clear hxb
 have q0:=H1.out.1.cell 0
 have q1:=H1.out.1.cell 1
 have q2:=H1.out.1.cell 2
 simp at q0 q1 q2
 go_wp2_with fail
 refine (find93 (.slice a1 n1 c1) F n (.slice x1 xl x2) (.slice y1 yl y2) r w1 (by have:=HN.out.1;omega) (HV.out.grown H1.out.2.1) (HN.out.2.1.seg.grown H1.out.2.1) (HN.out.2.2.1.seg.grown H1.out.2.1)).mono ?_
 rintro e w2 ⟨rfl,g2⟩
 obtain ⟨i,hi⟩:∃i,upR F (n,r)=i:=⟨_,rfl⟩
 obtain ⟨h,hh⟩:∃h,isR F (n,r)=h:=⟨_,rfl⟩
 have hin:i<=n1:=by rw [<-hi,<-HN.out.1];exact up_le _ _
 have HF:Hid (upR F (n,r)=i/\isR F (n,r)=h/\(h=true->i<n1)):=⟨hi,hh,fun e=>by
  rw [e] at hh
  unfold isR at hh
  rw [hi] at hh
  rcases Nat.lt_or_ge i F.length with h | h
  ·have:=HN.out.1
   omega
  ·rw [List.getElem?_eq_none h] at hh
   cases hh⟩
 rw [hi,hh]
 have H2:Hid (Blk w2 xb 61 #[Str n,.slice x1 xl x2,.slice y1 yl y2]/\w.grownBy w2 none/\NmsO w2 0 (.slice a1 n1 c1) ks/\ks.length=n1/\NOwn w2 0 ks F):=⟨H1.out.1.grown g2 (by simp),grown_trans H1.out.2.1 g2,HN.out.2.2.2.1.grown (grown_trans H1.out.2.1 g2),by rw [HN.out.2.2.2.2.1.1];exact HN.out.1,HN.out.2.2.2.2.1.grown (grown_trans H1.out.2.1 g2)⟩
 clear g2 H1 q0 q1 q2 hi hh
 have HC:Hid (∀y:World,w2.grownBy y none->y.cell? ⟨xb,0,none⟩=some (Str n)/\y.cell? ⟨xb,1,none⟩=some (.slice x1 xl x2)/\y.cell? ⟨xb,2,none⟩=some (.slice y1 yl y2)):=fun y hy=>by
  have h:=H2.out.1.grown hy (by simp)
  exact ⟨h.cell 0,h.cell 1,h.cell 2⟩
 obtain ⟨sv,hsv⟩:∃v,sliced a1 0 i c1 3=v:=⟨_,rfl⟩
 have hsl:∀wk,(Instr.slice 24 (.slice a1 n1 c1) none (some (.int .i64 (i:Int))) none).run Tryz.prog wk=.ok sv wk:=fun wk=>by rw [<-hsv];exact run_front24 a1 n1 c1 i (by omega) wk
 have HP1:Hid (Vec w2 3 sv i (ncells (ks.take i))):=by
  have:=nms_piece H2.out.2.2.1 H2.out.2.2.2.1 0 i (Nat.zero_le _) hin
  rw [hsv] at this
  unfold Hid
  simpa using this
 clear hsv
 go_upto_region 2 with fail
 go_cut [7] (fun u wc=>∃au cu,u=.slice au (i+1) cu/\wc.ownsRow w2.heap.size 61 3 (.slice au (i+1) cu) (i+1) (ncells (ks.take i) ++ [Str n,.slice x1 xl x2,.slice y1 yl y2])/\w2.grownBy wc none)
 case first =>
  refine wp_region_noPanic ?_
  refine wp_region_hold 1000 (fun y=>w2.grownBy y none) (by kernel_rfl) ?_
  have G3:Hid (w2.grownBy w2.drew none):=grown_drew _ _
  generalize w2.drew=wf at G3 ⊢
  have J:Idx [0,1,2,4]:=trivial
  iterate 4 (refine tK J (G3.out) rfl rfl (fun wk hk=>by obtain ⟨m0,m1,m2⟩:=HC.out wk hk;go_simp;try rfl) ?_;replace J:=J.tl;try simp only [pN])
  clear J
  refine wpHold_two (i:=3) (j:=5) rfl rfl (by kernel_rfl) (by rfl) (by rfl) (fun K hK=>?_) (fun K hK=>?_)
  ·refine appV_wp wf _ _ 24 61 _ 3 64 info61 ut24' rfl (by decide) rfl wf.heap.size _ 0 [] sv i (ncells (ks.take i)) rfl rfl (World.ownsRow_nil _ _ _ _) (HP1.out.grown G3.out) (HN.out.2.2.2.2.1.take i).one (by omega) (by unfold maxLen;omega) (Nat.le_refl _) ?_
   intro v5 w5 hv5 hg5
   have H5:Hid (w5.ownsRow w2.heap.size 61 3 v5 i (ncells (ks.take i))/\w2.grownBy w5 none):=⟨by have h5:=owns_mono hv5 G3.out.size;simpa using h5,grown_trans G3.out (hg5.none (Nat.le_refl _))⟩
   clear hv5 hg5 G3
   obtain ⟨a5,c5,e5,_,_⟩:=(vec_of_owns H5.out.1).shape
   subst e5
   refine hK.out _ _ (fun _=>H5.out.2) ?_
   clear hK K
   try simp only [pN]
   refine wpHold_one (i:=5) rfl (by kernel_rfl) (by rfl) (fun K hK=>?_)
   go_wp2_with fail
   obtain ⟨w6,hw6,H6⟩:=al w5 #[Str n,.slice x1 xl x2,.slice y1 yl y2] 61
   rw [hw6]
   clear hw6
   have G6:Hid (w2.grownBy w6 none):=grown_trans H5.out.2 H6.out.2.1
   refine hK.out _ _ (fun _=>G6.out) ?_
   clear hK K
   try simp only [pN]
   refine wpHold_one (i:=6) rfl (by kernel_rfl) (by rfl) (fun K hK=>?_)
   refine appV_wp w6 _ _ 24 61 _ 3 64 info61 ut24' rfl (by decide) rfl w2.heap.size _ i (ncells (ks.take i)) _ 1 [Str n,.slice x1 xl x2,.slice y1 yl y2] rfl rfl (owns_same H5.out.1 fun q hq=>H6.out.2.1.block q (World.ownsRow.lt H5.out.1 q hq).2 (by simp)) (vec_three61 w5 _ _ _ w6 H6.out.1) (by simp [Str,Value.oneCell']) (by omega) (by unfold maxLen;omega) G6.out.size ?_
   intro v7 w7 hv7 hg7
   have H7:Hid (w7.ownsRow w2.heap.size 61 3 v7 (i+1) (ncells (ks.take i) ++ [Str n,.slice x1 xl x2,.slice y1 yl y2])/\w2.grownBy w7 none):=⟨hv7,hg7.after G6.out (Nat.le_refl _)⟩
   clear hv7 hg7 G6 H6 H5
   obtain ⟨a7,c7,e7,_,_⟩:=(vec_of_owns H7.out.1).shape
   subst e7
   refine hK.out _ _ (fun _=>H7.out.2) ?_
   clear hK K
   try simp only [pN]
   refine tK (i:=7) (l':=[]) trivial (H7.out.2) rfl rfl (fun wk hk=>by obtain ⟨m0,m1,m2⟩:=HC.out wk hk;go_simp;try rfl) ?_
   try simp only [pN]
   refine wpHold_done (by kernel_rfl) ?_
   refine (‹∀(a:Act) (w:World),Met _ a w->_› _ _ ?_)
   go_meet
   case rel=>exact ⟨_,_,rfl,H7.out⟩
  ·go_wp2_with fail
   obtain ⟨w4,hw4,H4⟩:=al wf #[Str n,.slice x1 xl x2,.slice y1 yl y2] 61
   rw [hw4]
   clear hw4
   have G4:Hid (w2.grownBy w4 none):=grown_trans G3.out H4.out.2.1
   refine hK.out _ _ (fun _=>G4.out) ?_
   clear hK K
   try simp only [pN]
   refine wpHold_one (i:=3) rfl (by kernel_rfl) (by rfl) (fun K hK=>?_)
   refine appV_wp w4 _ _ 24 61 _ 3 64 info61 ut24' rfl (by decide) rfl w4.heap.size _ 0 [] sv i (ncells (ks.take i)) rfl rfl (World.ownsRow_nil _ _ _ _) (HP1.out.grown G4.out) (HN.out.2.2.2.2.1.take i).one (by omega) (by unfold maxLen;omega) (Nat.le_refl _) ?_
   intro v5 w5 hv5 hg5
   have H5:Hid (w5.ownsRow w2.heap.size 61 3 v5 i (ncells (ks.take i))/\w2.grownBy w5 none/\Blk w5 wf.heap.size 61 #[Str n,.slice x1 xl x2,.slice y1 yl y2]):=⟨by have h5:=owns_mono hv5 G4.out.size;simpa using h5,grown_trans G4.out (hg5.none (Nat.le_refl _)),H4.out.1.grown (hg5.none (Nat.le_refl _)) (by simp)⟩
   clear hv5 hg5 G4 G3
   obtain ⟨a5,c5,e5,_,_⟩:=(vec_of_owns H5.out.1).shape
   subst e5
   refine hK.out _ _ (fun _=>H5.out.2.1) ?_
   clear hK K
   try simp only [pN]
   refine wpHold_one (i:=6) rfl (by kernel_rfl) (by rfl) (fun K hK=>?_)
   refine appV_wp w5 _ _ 24 61 _ 3 64 info61 ut24' rfl (by decide) rfl w2.heap.size _ i (ncells (ks.take i)) _ 1 [Str n,.slice x1 xl x2,.slice y1 yl y2] rfl rfl H5.out.1 (vec_three61 wf _ _ _ w5 H5.out.2.2) (by simp [Str,Value.oneCell']) (by omega) (by unfold maxLen;omega) H5.out.2.1.size ?_
   intro v7 w7 hv7 hg7
   have H7:Hid (w7.ownsRow w2.heap.size 61 3 v7 (i+1) (ncells (ks.take i) ++ [Str n,.slice x1 xl x2,.slice y1 yl y2])/\w2.grownBy w7 none):=⟨hv7,hg7.after H5.out.2.1 (Nat.le_refl _)⟩
   clear hv7 hg7 H5
   obtain ⟨a7,c7,e7,_,_⟩:=(vec_of_owns H7.out.1).shape
   subst e7
   refine hK.out _ _ (fun _=>H7.out.2) ?_
   clear hK K
   try simp only [pN]
   refine tK (i:=7) (l':=[]) trivial (H7.out.2) rfl rfl (fun wk hk=>by obtain ⟨m0,m1,m2⟩:=HC.out wk hk;go_simp;try rfl) ?_
   try simp only [pN]
   refine wpHold_done (by kernel_rfl) ?_
   refine (‹∀(a:Act) (w:World),Met _ a w->_› _ _ ?_)
   go_meet
   case rel=>exact ⟨_,_,rfl,H7.out⟩
 case rest =>
  obtain ⟨au,cu,rfl,hu1,hu2⟩:=hcut
  have HU:Hid (wc.ownsRow w2.heap.size 61 3 (.slice au (i+1) cu) (i+1) (ncells (ks.take i) ++ [Str n,.slice x1 xl x2,.slice y1 yl y2])/\w2.grownBy wc none):=⟨hu1,hu2⟩
  clear hu1 hu2 hsl HP1
  have fin:∀(j:Nat) (v8:Value) (w8:World),(j=i+(if h=true then 1 else 0))->j<=n1->w8.ownsRow w2.heap.size 61 3 v8 (i+1+(n1-j)) ((ncells (ks.take i) ++ [Str n,.slice x1 xl x2,.slice y1 yl y2]) ++ ncells (ks.drop j))->w2.grownBy w8 none->DRow X w8 v8 (putF F (n,r))/\w.grownBy w8 none:=fun j v8 w8 hj hjn h8 g8=>by
   have gw:=grown_trans H2.out.2.1 g8
   refine ⟨⟨ks.take i ++ [(n,.slice x1 xl x2,.slice y1 yl y2)] ++ ks.drop j,?_,?_,?_,?_⟩,gw⟩
   ·have hl:=H2.out.2.2.2.1
    unfold NmsO
    have e:(ks.take i ++ [(n,Value.slice x1 xl x2,Value.slice y1 yl y2)] ++ ks.drop j).length=i+1+(n1-j):=by
     simp
     omega
    rw [e,ncells_app,ncells_app]
    have:=owns_mono h8 (Nat.zero_le _)
    simpa [ncells] using this
   ·unfold putF
    rw [HF.out.1,HF.out.2.1,<-hj]
    have h7:=HN.out.2.2.2.2.1.grown gw
    exact ((h7.take i).append (nown_one (HN.out.2.1.grown gw) (HN.out.2.2.1.grown gw))).append (h7.drop j)
   ·intro g hg hx
    have:=(World.ownsRow.lt h8 g hg).1
    have:=HN.out.2.2.2.2.2.1 g hx
    have:=H2.out.2.1.size
    omega
   ·intro k hk
    have h9:=HN.out.2.2.2.2.2.2
    simp only [List.mem_append,List.mem_singleton] at hk
    rcases hk with (hk | rfl) | hk
    ·exact h9.2.2.2 k (List.mem_of_mem_take hk)
    ·exact ⟨h9.1,h9.2.1⟩
    ·exact h9.2.2.2 k (List.mem_of_mem_drop hk)
  have HFI:Hid _:=fin
  clear fin
  cases h with
  | false =>
   obtain ⟨sv2,hsv2⟩:∃v,sliced a1 i n1 c1 3=v:=⟨_,rfl⟩
   have hsl:∀wk,(Instr.slice 24 (.slice a1 n1 c1) (some (.int .i64 (i:Int))) none none).run Tryz.prog wk=.ok sv2 wk:=fun wk=>by rw [<-hsv2];exact run_rest 24 3 Tryz.ut24 Tryz.size24 a1 n1 c1 i hin wk
   have HP2:Hid (Vec wc 3 sv2 (n1-i) (ncells (ks.drop i))):=by
    have:=nms_piece (H2.out.2.2.1.grown HU.out.2) H2.out.2.2.2.1 i n1 hin (Nat.le_refl _)
    rw [hsv2,List.take_of_length_le (by rw [List.length_drop,H2.out.2.2.2.1];omega)] at this
    exact this
   clear hsv2
   go_wp2_with (at_builtin;refine appV_at wc rfl _ _ 24 61 _ 3 64 info61 ut24' rfl (by decide) rfl w2.heap.size _ (i+1) _ _ (n1-i) (ncells (ks.drop i)) rfl rfl HU.out.1 HP2.out (HN.out.2.2.2.2.1.drop i).one ?c1 ?c2 HU.out.2.size ?_)
   case c1=>omega
   case c2=>unfold maxLen;omega
   intro v8 w8 hv8 hg8
   have H8:Hid (DRow X w8 v8 (putF F (n,r))/\w.grownBy w8 none):=HFI.out i v8 w8 (by simp) hin (by simpa using hv8) (hg8.after HU.out.2 (Nat.le_refl _))
   clear hv8 hg8 hsl
   go_wp2_with fail
   go_ret
   exact ⟨_,rfl,H8.out⟩
  | true =>
   have hi1:i<n1:=HF.out.2.2 rfl
   obtain ⟨j,hj⟩:∃j,i+1=j:=⟨_,rfl⟩
   have hjn:j<=n1:=by omega
   obtain ⟨sv2,hsv2⟩:∃v,sliced a1 j n1 c1 3=v:=⟨_,rfl⟩
   have hsl:∀wk,(Instr.slice 24 (.slice a1 n1 c1) (some (.int .i64 (j:Int))) none none).run Tryz.prog wk=.ok sv2 wk:=fun wk=>by rw [<-hsv2];exact run_rest 24 3 Tryz.ut24 Tryz.size24 a1 n1 c1 j hjn wk
   have HP2:Hid (Vec wc 3 sv2 (n1-j) (ncells (ks.drop j))):=by
    have:=nms_piece (H2.out.2.2.1.grown HU.out.2) H2.out.2.2.2.1 j n1 hjn (Nat.le_refl _)
    rw [hsv2,List.take_of_length_le (by rw [List.length_drop,H2.out.2.2.2.1];omega)] at this
    exact this
   have hw9:IntKind.i64.wrap ((i:Int)+1)=(j:Int):=by rw [IntKind.wrap_i64];omega
   have HJ:Hid (i+1=j):=hj
   clear hsv2 hj
   go_wp2_with (at_builtin;refine appV_at wc rfl _ _ 24 61 _ 3 64 info61 ut24' rfl (by decide) rfl w2.heap.size _ (i+1) _ _ (n1-j) (ncells (ks.drop j)) rfl rfl HU.out.1 HP2.out (HN.out.2.2.2.2.1.drop j).one ?c1 ?c2 HU.out.2.size ?_)
   case c1=>omega
   case c2=>unfold maxLen;omega
   intro v8 w8 hv8 hg8
   have H8:Hid (DRow X w8 v8 (putF F (n,r))/\w.grownBy w8 none):=HFI.out j v8 w8 (by simp [HJ.out]) hjn (by simpa using hv8) (hg8.after HU.out.2 (Nat.le_refl _))
   clear hv8 hg8 hsl
   go_wp2_with fail
   go_ret
   exact ⟨_,rfl,H8.out⟩
theorem cmpR_zero {a b:NRow}:cmpR a b=0<->a.1=b.1/\a.2.1=b.2.1:=by
 unfold cmpR
 have hf:=Names.cmp_flip a.1 b.1
 constructor
 ·intro h
  split at h
  ·omega
  ·split at h
   ·omega
   ·exact ⟨Names.cmp_zero (by omega),Names.cmp_zero h⟩
 ·rintro ⟨h1,h2⟩
  rw [h1,h2,Names.cmp_self,Names.cmp_self]
  simp
theorem sameRows29 (v u:Value)(F E:List NRow)(w:World)(hz:F.length<=1000000)(hv:Nms w v F)(hu:Nms w u E):Calls Tryz.prog 29 #[v,u] w fun e w'=>e=.returned (.bool (decide (F=E)))/\w.grownBy w' none:=by
 obtain ⟨a1,n1,c1,rfl,hn1,hc1,hc1',HV⟩:=nms_open hv
 obtain ⟨a2,n2,c2,rfl,hn2,hc2,hc2',HU⟩:=nms_open hu
 have HN:Hid (F.length=n1/\E.length=n2):=⟨hn1,hn2⟩
 have hz1:n1<=1000000:=by omega
 obtain ⟨R,hR⟩:∃R,decide (F=E)=R:=⟨_,rfl⟩
 have HR:Hid (decide (F=E)=R):=hR
 rw [hR]
 clear hv hu hn1 hn2 hz hR
 go_enter Tryz.func29,Tryz.ntmps29
 by_cases hne:n1=n2
 ·subst hne
  go_wp2_with fail
  go_loopw [5] (fun t wr=>∃k:Nat,t=.int .i64 (k:Int)/\k<=n1/\Hid ((∀j (h:j<F.length) (h':j<E.length),j<k->F[j]=E[j])/\w.grownBy wr none)) (fun t _=>n1-(intOf t).toNat)
  case atStart=>exact ⟨0,rfl,Nat.zero_le _,fun j _ _ h=>absurd h (by omega),grown_refl _ _⟩
  case round =>
   obtain ⟨k,rfl,hk,HL⟩:=hrel
   rcases Nat.lt_or_ge k n1 with hlt | hge
   ·have hkl:k<F.length:=by rw [HN.out.1];exact hlt
    have hke:k<E.length:=by rw [HN.out.2];exact hlt
    obtain ⟨b,off,xv,yv,rfl,e0,e1,e2,s1,s2⟩:=nms_at HV.out k hkl
    obtain ⟨b',off',xv',yv',rfl,f0,f1,f2,t1,t2⟩:=nms_at HU.out k hke
    obtain ⟨xa,xc,ex⟩:=s1.shape
    obtain ⟨ya,yc,ey⟩:=s2.shape
    obtain ⟨xa',xc',ex'⟩:=t1.shape
    obtain ⟨ya',yc',ey'⟩:=t2.shape
    obtain ⟨fr,hfr⟩:∃f,F[k]=f:=⟨_,rfl⟩
    obtain ⟨er,her⟩:∃f,E[k]=f:=⟨_,rfl⟩
    rw [hfr] at e0 s1 s2 ex ey
    rw [her] at f0 t1 t2 ex' ey'
    obtain ⟨ft,fk⟩:=fr
    obtain ⟨et,ek⟩:=er
    simp only at e0 s1 s2 ex ey f0 t1 t2 ex' ey'
    obtain ⟨l1,hl1⟩:∃l,fk.1.length=l:=⟨_,rfl⟩
    obtain ⟨l2,hl2⟩:∃l,fk.2.length=l:=⟨_,rfl⟩
    obtain ⟨l3,hl3⟩:∃l,ek.1.length=l:=⟨_,rfl⟩
    obtain ⟨l4,hl4⟩:∃l,ek.2.length=l:=⟨_,rfl⟩
    rw [hl1] at ex
    rw [hl2] at ey
    rw [hl3] at ex'
    rw [hl4] at ey'
    subst ex ey ex' ey'
    have i0:(0:Int)<=(k:Int):=by omega
    have i1:(k:Int)<(n1:Int):=by omega
    have HS:Hid (Seg w (.slice xa l1 xc) fk.1/\Seg w (.slice ya l2 yc) fk.2/\Seg w (.slice xa' l3 xc') ek.1/\Seg w (.slice ya' l4 yc') ek.2/\F[k]=(ft,fk)/\E[k]=(et,ek)):=⟨s1,s2,t1,t2,hfr,her⟩
    have HC:Hid (∀y:World,w.grownBy y none->(y.cell? ⟨b,off+k*3,none⟩=some (Str ft)/\y.cell? ⟨b,off+k*3+1,none⟩=some (.slice xa l1 xc)/\y.cell? ⟨b,off+k*3+2,none⟩=some (.slice ya l2 yc))/\(y.cell? ⟨b',off'+k*3,none⟩=some (Str et)/\y.cell? ⟨b',off'+k*3+1,none⟩=some (.slice xa' l3 xc')/\y.cell? ⟨b',off'+k*3+2,none⟩=some (.slice ya' l4 yc'))):=fun y hy=>⟨⟨hy.cell e0 (by simp),hy.cell e1 (by simp),hy.cell e2 (by simp)⟩,hy.cell f0 (by simp),hy.cell f1 (by simp),hy.cell f2 (by simp)⟩
    have HT:Hid (∀y:World,w.grownBy y none->(convert 59 9 (.slice ya l2 yc)).run Tryz.prog y=.ok (.string ⟨fk.2.toArray⟩) y/\(convert 59 9 (.slice ya' l4 yc')).run Tryz.prog y=.ok (.string ⟨ek.2.toArray⟩) y):=fun y hy=>⟨seg_str (s2.grown hy),seg_str (t2.grown hy)⟩
    obtain ⟨C,hC⟩:∃C,cmpR (ft,fk) (et,ek)=C:=⟨_,rfl⟩
    have HCC:Hid (cmpR (ft,fk) (et,ek)=C):=hC
    clear e0 e1 e2 s1 s2 f0 f1 f2 t1 t2 hl1 hl2 hl3 hl4 hfr her hC
    by_cases hc0:C=0
    ·subst hc0
     have HCZ:Hid (ft=et/\fk.1=ek.1):=cmpR_zero.1 HCC.out
     by_cases hv0:fk.2=ek.2
     ·have HV0:Hid (fk.2=ek.2):=hv0
      have v1:(fk.2==ek.2)=true:=by simpa using hv0
      have v2:(fk.2 != ek.2)=false:=by simpa using hv0
      clear hv0
      go_wp2_with fail
      refine wp_region_noPanic ?_
      refine wp_region_hold 1000 (fun y=>w.grownBy y none) (by kernel_rfl) ?_
      have G0:Hid (w.grownBy wr.drew none):=grown_trans HL.out.2 (grown_drew _ _)
      generalize wr.drew=wd at G0 ⊢
      have J:Idx [0,1,2,3,4,5,6,7]:=trivial
      iterate 8 (refine tK J (G0.out) rfl rfl (fun wk hk=>by obtain ⟨⟨m0,m1,m2⟩,m3,m4,m5⟩:=HC.out wk hk;obtain ⟨u1,u2⟩:=HT.out wk hk;go_simp;try rfl) ?_;replace J:=J.tl;try simp only [pN])
      clear J
      refine wpHold_one (i:=8) rfl (by kernel_rfl) (by rfl) (fun K hK=>?_)
      go_wp2_with fail
      refine (cmp64 ft et (.slice xa l1 xc) (.slice ya l2 yc) (.slice xa' l3 xc') (.slice ya' l4 yc') fk ek wd (HS.out.1.grown G0.out) (HS.out.2.1.grown G0.out) (HS.out.2.2.1.grown G0.out) (HS.out.2.2.2.1.grown G0.out)).mono ?_
      rw [HCC.out]
      rintro e wa ⟨rfl,gg⟩
      have GA:Hid (w.grownBy wa none):=grown_trans G0.out gg
      clear gg
      go_wp2_with fail
      refine hK.out _ _ (fun _=>GA.out) ?_
      clear hK K
      try simp only [pN]
      have J:Idx [9,10,11,12,13,14,15,16,17,18,19,20,21,22,23,24]:=trivial
      iterate 16 (refine tK J (GA.out) rfl rfl (fun wk hk=>by obtain ⟨⟨m0,m1,m2⟩,m3,m4,m5⟩:=HC.out wk hk;obtain ⟨u1,u2⟩:=HT.out wk hk;go_simp;try rfl) ?_;replace J:=J.tl;try simp only [pN])
      clear J
      refine wpHold_done (by kernel_rfl) ?_
      refine (‹∀(a:Act) (w:World),Code.wp Tryz.prog _ _ a w->_› _ _ ?_)
      go_wp2_with fail
      go_roundw
      case rel =>
       refine ⟨k+1,by go_num,by omega,fun j hj hj' hjk=>?_,GA.out⟩
       rcases Nat.lt_or_ge j k with h | h
       ·exact HL.out.1 j hj hj' h
       ·obtain rfl:j=k:=by omega
        rw [HS.out.2.2.2.2.1,HS.out.2.2.2.2.2,HCZ.out.1,Prod.ext HCZ.out.2 HV0.out]
      case measure =>
       simp [intOf]
       omega
     ·have HF:Hid (R=false):=by
       rw [<-HR.out]
       refine decide_eq_false fun e=>hv0 ?_
       have h1:=HS.out.2.2.2.2.1
       have h2:=HS.out.2.2.2.2.2
       subst e
       rw [h1] at h2
       simp at h2
       rw [h2.2]
      have v1:(fk.2==ek.2)=false:=by simpa using hv0
      have v2:(fk.2 != ek.2)=true:=by simpa using hv0
      clear hv0
      go_wp2_with fail
      refine wp_region_noPanic ?_
      refine wp_region_hold 1000 (fun y=>w.grownBy y none) (by kernel_rfl) ?_
      have G0:Hid (w.grownBy wr.drew none):=grown_trans HL.out.2 (grown_drew _ _)
      generalize wr.drew=wd at G0 ⊢
      have J:Idx [0,1,2,3,4,5,6,7]:=trivial
      iterate 8 (refine tK J (G0.out) rfl rfl (fun wk hk=>by obtain ⟨⟨m0,m1,m2⟩,m3,m4,m5⟩:=HC.out wk hk;obtain ⟨u1,u2⟩:=HT.out wk hk;go_simp;try rfl) ?_;replace J:=J.tl;try simp only [pN])
      clear J
      refine wpHold_one (i:=8) rfl (by kernel_rfl) (by rfl) (fun K hK=>?_)
      go_wp2_with fail
      refine (cmp64 ft et (.slice xa l1 xc) (.slice ya l2 yc) (.slice xa' l3 xc') (.slice ya' l4 yc') fk ek wd (HS.out.1.grown G0.out) (HS.out.2.1.grown G0.out) (HS.out.2.2.1.grown G0.out) (HS.out.2.2.2.1.grown G0.out)).mono ?_
      rw [HCC.out]
      rintro e wa ⟨rfl,gg⟩
      have GA:Hid (w.grownBy wa none):=grown_trans G0.out gg
      clear gg
      go_wp2_with fail
      refine hK.out _ _ (fun _=>GA.out) ?_
      clear hK K
      try simp only [pN]
      have J:Idx [9,10,11,12,13,14,15,16,17,18,19,20,21,22,23,24]:=trivial
      iterate 16 (refine tK J (GA.out) rfl rfl (fun wk hk=>by obtain ⟨⟨m0,m1,m2⟩,m3,m4,m5⟩:=HC.out wk hk;obtain ⟨u1,u2⟩:=HT.out wk hk;go_simp;try rfl) ?_;replace J:=J.tl;try simp only [pN])
      clear J
      refine wpHold_done (by kernel_rfl) ?_
      refine (‹∀(a:Act) (w:World),Code.wp Tryz.prog _ _ a w->_› _ _ ?_)
      go_wp2_with fail
      go_ret
      exact ⟨by rw [HF.out];rfl,GA.out⟩
    ·have HF:Hid (R=false):=by
      rw [<-HR.out]
      refine decide_eq_false fun e=>hc0 ?_
      have h1:=HS.out.2.2.2.2.1
      have h2:=HS.out.2.2.2.2.2
      subst e
      rw [h1] at h2
      simp at h2
      rw [<-HCC.out,h2.1,h2.2]
      exact cmpR_zero.2 ⟨rfl,rfl⟩
     have c1:(C==0)=false:=by simpa using hc0
     have c2:(C != 0)=true:=by simpa using hc0
     have c3:(C=0)=False:=by simpa using hc0
     clear hc0
     go_wp2_with fail
     refine wp_region_noPanic ?_
     refine wp_region_hold 1000 (fun y=>w.grownBy y none) (by kernel_rfl) ?_
     have G0:Hid (w.grownBy wr.drew none):=grown_trans HL.out.2 (grown_drew _ _)
     generalize wr.drew=wd at G0 ⊢
     have J:Idx [0,1,2,3,4,5,6,7]:=trivial
     iterate 8 (refine tK J (G0.out) rfl rfl (fun wk hk=>by obtain ⟨⟨m0,m1,m2⟩,m3,m4,m5⟩:=HC.out wk hk;obtain ⟨u1,u2⟩:=HT.out wk hk;go_simp;try rfl) ?_;replace J:=J.tl;try simp only [pN])
     clear J
     refine wpHold_one (i:=8) rfl (by kernel_rfl) (by rfl) (fun K hK=>?_)
     go_wp2_with fail
     refine (cmp64 ft et (.slice xa l1 xc) (.slice ya l2 yc) (.slice xa' l3 xc') (.slice ya' l4 yc') fk ek wd (HS.out.1.grown G0.out) (HS.out.2.1.grown G0.out) (HS.out.2.2.1.grown G0.out) (HS.out.2.2.2.1.grown G0.out)).mono ?_
     rw [HCC.out]
     rintro e wa ⟨rfl,gg⟩
     have GA:Hid (w.grownBy wa none):=grown_trans G0.out gg
     clear gg
     go_wp2_with fail
     refine hK.out _ _ (fun _=>GA.out) ?_
     clear hK K
     try simp only [pN]
     refine wpHold_one (i:=9) rfl (by kernel_rfl) (by rfl) (fun K hK=>?_)
     go_wp2_with fail
     try rw [c2]
     try rw [c3]
     try simp only [not_false_eq_true,decide_true]
     refine hK.out _ _ (fun _=>GA.out) ?_
     clear hK K
     try simp only [pN]
     refine tK (i:=10) (l':=[]) trivial (GA.out) rfl rfl (fun wk hk=>by obtain ⟨⟨m0,m1,m2⟩,m3,m4,m5⟩:=HC.out wk hk;obtain ⟨u1,u2⟩:=HT.out wk hk;go_simp;try rfl) ?_
     try simp only [pN]
     have J:Idx [11,12,13,14,15,16,17,18,19,20,21,22,23]:=trivial
     iterate 13 (refine sk J (GA.out) rfl rfl ?_;replace J:=J.tl;try simp only [pN])
     clear J
     refine tK (i:=24) (l':=[]) trivial (GA.out) rfl rfl (fun wk hk=>by obtain ⟨⟨m0,m1,m2⟩,m3,m4,m5⟩:=HC.out wk hk;obtain ⟨u1,u2⟩:=HT.out wk hk;go_simp;try rfl) ?_
     try simp only [pN]
     refine wpHold_done (by kernel_rfl) ?_
     refine (‹∀(a:Act) (w:World),Code.wp Tryz.prog _ _ a w->_› _ _ ?_)
     go_wp2_with fail
     go_ret
     exact ⟨by rw [HF.out];rfl,GA.out⟩
   ·obtain rfl:k=n1:=by omega
    have i1:¬((k:Int)<(k:Int)):=by omega
    have HF:Hid (R=true):=by
     rw [<-HR.out]
     refine decide_eq_true (List.ext_getElem (by rw [HN.out.1,HN.out.2]) fun j h1 h2=>HL.out.1 j h1 h2 (by have:=HN.out.1;omega))
    go_wp2_with fail
    go_ret
    exact ⟨by rw [HF.out];rfl,HL.out.2⟩
 ·have HF:Hid (R=false):=by
   rw [<-HR.out]
   refine decide_eq_false fun e=>hne ?_
   rw [<-HN.out.1,<-HN.out.2,e]
  have d1:((n1:Int)=(n2:Int))=False:=by simp;omega
  have d2:((n1:Int)==(n2:Int))=false:=by simp;omega
  have d3:((n1:Int) != (n2:Int))=true:=by simp;omega
  have d4:(n1=n2)=False:=by simpa using hne
  clear hne
  go_wp2_with fail
  go_ret
  exact ⟨by rw [HF.out];rfl,grown_refl _ _⟩
def REng (X:Nat->Prop)(w:World)(b:Nat)(q:Int × Int)(F:List NRow):Prop:=∃v,Blk w b 77 #[.int .i64 q.1,.int .i64 q.2,v]/\DRow X w v F
theorem REng.grown {X:Nat->Prop}{w w':World}{b:Nat}{q:Int × Int}{F:List NRow}(h:REng X w b q F)(hg:w.grownBy w' none):REng X w' b q F:=by
 obtain ⟨v,h1,h2⟩:=h
 exact ⟨v,h1.grown hg (by simp),h2.grown hg⟩
theorem REng.weak {X Y:Nat->Prop}{w:World}{b:Nat}{q:Int × Int}{F:List NRow}(h:REng X w b q F)(hs:∀g,g<w.heap.size->Y g->X g):REng Y w b q F:=by
 obtain ⟨v,h1,h2⟩:=h
 exact ⟨v,h1,h2.weak hs⟩
theorem reng_open {X:Nat->Prop}{w:World}{b:Nat}{q:Int × Int}{F:List NRow}(h:REng X w b q F):∃a n c,F.length=n/\n<=c/\c<=9223372036854775807/\Hid (Blk w b 77 #[.int .i64 q.1,.int .i64 q.2,.slice a n c]/\DRow X w (.slice a n c) F):=by
 obtain ⟨v,h1,h2⟩:=h
 obtain ⟨a,n,c,rfl,hn,hc,hc',_⟩:=nms_open h2.nms
 exact ⟨a,n,c,hn,hc,hc',h1,h2⟩
end Go.Proofs.YtakmlhhapegpoaaGreat
