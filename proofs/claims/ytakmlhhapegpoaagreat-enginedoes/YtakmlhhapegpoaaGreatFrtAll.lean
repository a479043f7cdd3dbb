import Derived.Test.YtakmlhhapegpoaaGreatFghAll
set_option maxHeartbeats 16000000
set_option maxRecDepth 100000
namespace Go.Proofs.YtakmlhhapegpoaaGreat
open Go.RowKit Disk Table
open Names (Str cmpL keyB valueB tabB inB)
def okRow (r:NRow):Bool:=tabB r.1 && (keyB r.2.1 && valueB r.2.2)
def OkL (l:List NRow):Prop:=∀j (h:j<l.length),okRow l[j]=true/\∀_:0<j,cmpR l[j-1] l[j]<0
def grp:List NRow->DB
 | []=>[]
 | r :: l=>match grp l with
  | []=>[(r.1,[r.2])]
  | (n,rs) :: D=>if n=r.1 then (n,r.2 :: rs) :: D else (r.1,[r.2]) :: (n,rs) :: D
theorem flat_grp:∀l:List NRow,flatD (grp l)=l
 | []=>rfl
 | r :: l=>by
  have ih:=flat_grp l
  unfold grp
  cases h:grp l with
  | nil =>
   rw [h] at ih
   simp [flatD] at ih
   simp [flatD,<-ih]
  | cons x D =>
   obtain ⟨n,rs⟩:=x
   rw [h,flat_cons] at ih
   simp only
   split
   ·rename_i e
    rw [flat_cons]
    simp only [List.map_cons,List.cons_append]
    simp only at ih
    rw [ih,e]
   ·rw [flat_cons,flat_cons]
    simp only [List.map_cons,List.map_nil,List.cons_append,List.nil_append]
    simp only at ih
    rw [ih]
theorem grp_head (s:NRow)(l:List NRow):∃rs D,grp (s :: l)=(s.1,s.2 :: rs) :: D:=by
 unfold grp
 cases grp l with
 | nil=>exact ⟨[],[],rfl⟩
 | cons x D =>
  obtain ⟨n,rs⟩:=x
  simp only
  split
  ·rename_i e
   exact ⟨rs,D,by rw [e]⟩
  ·exact ⟨[],_,rfl⟩
theorem okL_tail {r:NRow}{l:List NRow}(h:OkL (r :: l)):OkL l:=fun j hj=>by
 have h1:=h (j+1) (by simpa using hj)
 refine ⟨by simpa using h1.1,fun h0=>?_⟩
 have h2:=h1.2 (by omega)
 obtain ⟨i,rfl⟩:∃i,j=i+1:=⟨j-1,by omega⟩
 simpa using h2
theorem rise_cons {r s:PRow}{l:List PRow}(h:Rise (s :: l))(hc:cmpL r.1 s.1<0):Rise (r :: s :: l):=by
 intro i j hi hj hij
 cases j with
 | zero=>omega
 | succ j =>
  cases i with
  | zero =>
   cases j with
   | zero=>simpa using hc
   | succ j =>
    have h1:=h 0 (j+1) (by simp) (by simpa using hj) (by omega)
    simp at h1 ⊢
    exact Names.cmp_lt_trans (by omega) h1
  | succ i=>exact h i j (by simpa using hi) (by simpa using hj) (by omega)
def GrpI (D:DB):Prop:=RiseD D/\∀x ∈ D,x.2≠[]/\Rise x.2/\(∀r ∈ x.2,okP r.1 r.2=true)/\tabB x.1=true
theorem okRow_parts {r:NRow}(h:okRow r=true):tabB r.1=true/\okP r.2.1 r.2.2=true:=by
 unfold okRow at h
 simp only [Bool.and_eq_true] at h
 exact ⟨h.1,by unfold okP;simp [h.2.1,h.2.2]⟩
theorem rise_one (r:PRow):Rise [r]:=by
 intro i j hi hj hij
 simp at hi hj
 omega
theorem grp_ok:∀(l:List NRow),OkL l->GrpI (grp l)
 | [],_=>⟨List.Pairwise.nil,fun x hx=>by simp [grp] at hx⟩
 | [r],h=>by
  have h0:=okRow_parts (h 0 (by simp)).1
  simp only [List.getElem_cons_zero] at h0
  refine ⟨by simp [grp,RiseD],fun x hx=>?_⟩
  simp [grp] at hx
  subst hx
  exact ⟨by simp,rise_one _,fun p hp=>by simp at hp;rw [hp];exact h0.2,h0.1⟩
 | r :: s :: l,h=>by
  have ih:=grp_ok (s :: l) (okL_tail h)
  have h0:=okRow_parts (h 0 (by simp)).1
  have hc:=(h 1 (by simp)).2 (by omega)
  simp only [List.getElem_cons_zero] at h0
  simp at hc
  obtain ⟨rs,D,e⟩:=grp_head s l
  rw [e] at ih
  have hr:=List.pairwise_cons.1 ih.1
  have hs:=ih.2 (s.1,s.2 :: rs) (by simp)
  have eg:grp (r :: s :: l)=if s.1=r.1 then (s.1,r.2 :: s.2 :: rs) :: D else (r.1,[r.2]) :: (s.1,s.2 :: rs) :: D:=by
   rw [grp,e]
  rw [eg]
  split
  ·rename_i en
   have hk:cmpL r.2.1 s.2.1<0:=by
    unfold cmpR at hc
    rw [en,Names.cmp_self] at hc
    simpa using hc
   refine ⟨List.pairwise_cons.2 ⟨hr.1,hr.2⟩,fun x hx=>?_⟩
   rcases List.mem_cons.1 hx with rfl | hx
   ·refine ⟨by simp,rise_cons hs.2.1 hk,fun p hp=>?_,hs.2.2.2⟩
    rcases List.mem_cons.1 hp with rfl | hp
    ·exact h0.2
    ·exact hs.2.2.1 p hp
   ·exact ih.2 x (by simp [hx])
  ·rename_i en
   have ht:cmpL r.1 s.1<0:=by
    unfold cmpR at hc
    split at hc
    ·assumption
    ·split at hc
     ·omega
     ·rename_i h1 h2
      have:=Names.cmp_flip r.1 s.1
      exact absurd (Names.cmp_zero (by omega:cmpL s.1 r.1=0)) en
   refine ⟨List.pairwise_cons.2 ⟨fun x hx=>?_,ih.1⟩,fun x hx=>?_⟩
   ·rcases List.mem_cons.1 hx with rfl | hx
    ·exact ht
    ·exact Names.cmp_lt_trans (by simp only;omega) (hr.1 x hx)
   ·rcases List.mem_cons.1 hx with rfl | hx
    ·exact ⟨by simp,rise_one _,fun p hp=>by simp at hp;rw [hp];exact h0.2,h0.1⟩
    ·exact ih.2 x hx
theorem len_mem {D:DB}{x:Bs × List PRow}(h:x ∈ D):x.2.length<=lenD D:=by
 induction D with
 | nil=>simp at h
 | cons y D ih =>
  simp only [lenD,List.map_cons,List.sum_cons] at ih ⊢
  rcases List.mem_cons.1 h with rfl | h
  ·omega
  ·have:=ih h
   omega
theorem db_of {l:List NRow}(h:OkL l)(hl:l.length<=1000000):∃D,GoodD D/\TabD D/\flatD D=l:=by
 have hi:=grp_ok l h
 have hf:lenD (grp l)<=1000000:=by rw [<-flat_len,flat_grp];exact hl
 refine ⟨grp l,⟨hi.1,fun x hx=>(hi.2 x hx).1,fun x hx=>⟨(hi.2 x hx).2.1,(hi.2 x hx).2.2.1,Nat.le_trans (len_mem hx) hf⟩,hf⟩,fun x hx=>(hi.2 x hx).2.2.2,flat_grp l⟩
theorem flat_pair {D:DB}(h:GoodD D):(flatD D).Pairwise (fun a b=>cmpR a b<0):=by
 have key:∀D:DB,RiseD D->(∀x ∈ D,Rise x.2)->(flatD D).Pairwise (fun a b=>cmpR a b<0):=by
  intro D
  induction D with
  | nil=>intro _ _;exact List.Pairwise.nil
  | cons x D ih =>
   intro hr hg
   have hr':=List.pairwise_cons.1 hr
   rw [flat_cons,List.pairwise_append]
   refine ⟨?_,ih hr'.2 fun y hy=>hg y (by simp [hy]),fun a ha b hb=>?_⟩
   ·rw [List.pairwise_map,List.pairwise_iff_getElem]
    intro i j hi hj hij
    have:=hg x (by simp) i j hi hj hij
    simp [cmpR,Names.cmp_self]
    exact this
   ·obtain ⟨r,_,rfl⟩:=List.mem_map.1 ha
    obtain ⟨y,hy,e⟩:=flat_mem hb
    have:=hr'.1 y hy
    rw [e] at this
    simp [cmpR,this]
 exact key D h.rise fun x hx=>(h.good x hx).1
theorem okL_of {D:DB}(h:GoodD D)(ht:TabD D):OkL (flatD D):=fun j hj=>by
 refine ⟨?_,fun h0=>List.pairwise_iff_getElem.1 (flat_pair h) (j-1) j (by omega) hj (by omega)⟩
 have h1:=flat_ok h _ (List.getElem_mem hj)
 obtain ⟨y,hy,e⟩:=flat_mem (List.getElem_mem hj)
 have h2:=ht y hy
 rw [e] at h2
 unfold okRow
 unfold okP at h1
 rw [h2,h1]
 rfl
theorem tw_mem {α:Type}{p:α->Bool}:∀{l:List α} {x:α},x ∈ l.takeWhile p->p x=true
 | [],_,h=>by simp at h
 | y :: l,x,h=>by
  rw [List.takeWhile_cons] at h
  split at h
  ·rename_i hy
   rcases List.mem_cons.1 h with rfl | h
   ·exact hy
   ·exact tw_mem h
  ·simp at h
theorem newD_flat2:∀(N:Nat) (l:List NRow),l.length<=N->∀(D:DB) (last:Bs) (D':DB),(∀x ∈ D,cmpL x.1 last<=0)->newD D last l=some D'->flatD D'=flatD D ++ l
 | _,[],_,D,last,D',_,h=>by
  unfold newD at h
  simp at h
  simp [h]
 | 0,r :: l,hl,_,_,_,_,_=>by simp at hl
 | N+1,r :: l,hl,D,last,D',hD,h=>by
  unfold newD at h
  split at h
  ·rename_i hc
   have hp:=front_pos r l
   have hset:∀x ∈ D,cmpL x.1 r.1<0:=fun x hx=>Names.cmp_lt_trans (hD x hx) hc.2.2
   have hst:standD D r.1 (frontR (r :: l))=D ++ [(r.1,frontR (r :: l))]:=by
    unfold standD
    rw [if_neg (by rw [show (frontR (r :: l)).length=(front (r :: l)).length by unfold frontR;simp];omega),set_last hset]
   rw [hst] at h
   have ih:=newD_flat2 N _ (by rw [List.length_drop];simp at hl ⊢;omega) _ _ _ (fun x hx=>by
    rcases List.mem_append.1 hx with hx | hx
    ·have:=hset x hx
     omega
    ·simp at hx
     subst hx
     rw [Names.cmp_self]
     omega) h
   rw [ih,flat_app,List.append_assoc]
   congr 1
   have e1:flatD [(r.1,frontR (r :: l))]=front (r :: l):=by
    simp only [flatD,List.flatMap_cons,List.flatMap_nil,List.append_nil]
    unfold frontR
    rw [List.map_map]
    have hm:∀x ∈ front (r :: l),x.1=r.1:=fun x hx=>by
     unfold front at hx
     simpa using tw_mem hx
    conv=>rhs;rw [<-List.map_id (front (r :: l))]
    apply List.map_congr_left
    intro x hx
    simp [<-hm x hx]
   rw [e1]
   have e2:front (r :: l)=(r :: l).take (front (r :: l)).length:=by
    unfold front
    exact List.prefix_iff_eq_take.1 (List.takeWhile_prefix _)
   conv=>lhs;lhs;rw [e2]
   exact List.take_append_drop _ _
  ·cases h
theorem new_ok {l:List NRow}(hl:l.length<=1000000):(∀D,newD [] [] l=some D->GoodD D->TabD D->flatD D=l/\OkL l)/\(newD [] [] l=none->¬OkL l):=by
 refine ⟨fun D h hg ht=>?_,fun h hok=>?_⟩
 ·have:=newD_flat2 l.length l (Nat.le_refl _) [] [] D (by simp) h
  simp [flatD] at this
  have e:flatD D=l:=by unfold flatD;simpa using this
  exact ⟨e,by rw [<-e];exact okL_of hg ht⟩
 ·obtain ⟨D,h1,h2,h3⟩:=db_of hok hl
  have:=new_all h1 h2
  rw [h3,h] at this
  cases this
theorem mayQuota60 (q:Int × Int)(w:World):Calls Tryz.prog 60 #[quoV q] w fun e w'=>e=.returned (.bool (mayQ q))/\w.grownBy w' none:=by
 obtain ⟨a,b⟩:=q
 obtain ⟨R,hR⟩:∃R,mayQ (a,b)=R:=⟨_,rfl⟩
 have HR:Hid (mayQ (a,b)=R):=hR
 rw [hR]
 clear hR
 have hr:decide (1<=a/\a<=4096/\1<=b/\b<=1048576)=R:=HR.out
 unfold quoV
 by_cases c1:1<=a
 ·by_cases c2:a<=4096
  ·by_cases c3:1<=b
   ·by_cases c4:b<=1048576
    ·rw [decide_eq_true (by omega)] at hr
     subst hr
     go_enter Tryz.func60,Tryz.ntmps60
     go_wp2_with fail
     go_ret
     exact ⟨rfl,World.grownBy_alloc _ _ _⟩
    ·rw [decide_eq_false (by omega)] at hr
     subst hr
     go_enter Tryz.func60,Tryz.ntmps60
     go_wp2_with fail
     go_ret
     exact ⟨rfl,World.grownBy_alloc _ _ _⟩
   ·rw [decide_eq_false (by omega)] at hr
    subst hr
    go_enter Tryz.func60,Tryz.ntmps60
    go_wp2_with fail
    go_ret
    exact ⟨rfl,World.grownBy_alloc _ _ _⟩
  ·rw [decide_eq_false (by omega)] at hr
   subst hr
   go_enter Tryz.func60,Tryz.ntmps60
   go_wp2_with fail
   go_ret
   exact ⟨rfl,World.grownBy_alloc _ _ _⟩
 ·rw [decide_eq_false (by omega)] at hr
  subst hr
  go_enter Tryz.func60,Tryz.ntmps60
  go_wp2_with fail
  go_ret
  exact ⟨rfl,World.grownBy_alloc _ _ _⟩
def WrongE (q:Int × Int)(l:List NRow)(w:World)(e:Ending)(w':World):Prop :=
 w.grownBy w' none/\(((mayQ q=false\/¬OkL l)/\e=.returned (.int .i64 2))\/(mayQ q=true/\OkL l/\(q.1<(l.length:Int)\/q.2<(sizeF l:Int))/\e=.returned (.int .i64 7))\/(mayQ q=true/\OkL l/\¬(q.1<(l.length:Int)\/q.2<(sizeF l:Int))/\e=.returned (.int .i64 0)))
theorem okL_size {l:List NRow}(h:OkL l)(hl:l.length<=1000000)(k:Nat):sizeF (l.take k)<=1000000000000:=by
 have key:∀(F:List NRow),(∀r ∈ F,okRow r=true)->sizeF F<=F.length*320:=by
  intro F
  induction F with
  | nil=>intro _;simp [sizeF]
  | cons r F ih =>
   intro hF
   have h1:=ih fun x hx=>hF x (by simp [hx])
   have h2:=okP_len (okRow_parts (hF r (by simp))).2
   unfold sizeF at h1 ⊢
   simp only [List.map_cons,List.sum_cons,List.length_cons]
   omega
 have h1:=key (l.take k) fun r hr=>by
  obtain ⟨j,hj,e⟩:=List.getElem_of_mem (List.mem_of_mem_take hr)
  rw [<-e]
  exact (h j hj).1
 have h2:(l.take k).length<=1000000:=Nat.le_trans (by simp;omega) hl
 omega
theorem wrong28 (q:Int × Int)(v:Value)(l:List NRow)(w:World)(hz:l.length<=1000000)(hT:∀r ∈ l,r.1.length<=9223372036854775807)(hv:Nms w v l):Calls Tryz.prog 28 #[quoV q,v] w (WrongE q l w):=by
 obtain ⟨a1,n1,c1,rfl,hn1,hc1,hc1',HV⟩:=nms_open hv
 have HN:Hid (l.length=n1/\∀r ∈ l,r.1.length<=9223372036854775807):=⟨hn1,hT⟩
 have hz1:n1<=1000000:=by omega
 clear hv hn1 hT hz
 unfold quoV
 go_enter Tryz.func28,Tryz.ntmps28
 obtain ⟨w1,hw1,H1⟩:=al w #[.int .i64 q.1,.int .i64 q.2] 23
 obtain ⟨qb,hqb⟩:∃b,w.heap.size=b:=⟨_,rfl⟩
 rw [hqb] at H1
 have k0:=H1.out.1.cell 0
 have k1:=H1.out.1.cell 1
 simp at k0 k1
 obtain ⟨mq,hmq⟩:∃b,mayQ q=b:=⟨_,rfl⟩
 go_upto_region 1 with fail
 try rw [hw1]
 try rw [hqb]
 have HMQ:Hid (mayQ q=mq):=hmq
 clear hw1 hqb hmq
 go_wp2_with fail
 refine (mayQuota60 q w1).mono ?_
 rw [HMQ.out]
 rintro e w2 ⟨rfl,g2⟩
 have H2:Hid (Blk w2 qb 23 #[.int .i64 q.1,.int .i64 q.2]/\w.grownBy w2 none):=⟨H1.out.1.grown g2 (by simp),grown_trans H1.out.2.1 g2⟩
 clear g2 H1 k0 k1
 cases mq with
 | false =>
  go_wp2_with fail
  go_ret
  exact ⟨H2.out.2,.inl ⟨.inl HMQ.out,rfl⟩⟩
 | true =>
  go_wp2_with fail
  go_loopw [5] (fun t wr=>∃k:Nat,t=.int .i64 (k:Int)/\k<=n1/\Hid ((∀j (h:j<l.length),j<k->okRow l[j]=true/\∀_:0<j,cmpR l[j-1] l[j]<0)/\w.grownBy wr none/\Blk wr qb 23 #[.int .i64 q.1,.int .i64 q.2])) (fun t _=>n1-(intOf t).toNat)
  case atStart=>exact ⟨0,rfl,Nat.zero_le _,fun j _ h=>absurd h (by omega),H2.out.2,H2.out.1⟩
  case round =>
   obtain ⟨k,rfl,hk,HR⟩:=hrel
   rcases Nat.lt_or_ge k n1 with hlt | hge
   ·have hkl:k<l.length:=by rw [HN.out.1];exact hlt
    obtain ⟨b,off,xv,yv,rfl,e0,e1,e2,s1,s2⟩:=nms_at HV.out k hkl
    obtain ⟨xa,xc,ex⟩:=s1.shape
    obtain ⟨ya,yc,ey⟩:=s2.shape
    have htl:=HN.out.2 _ (List.getElem_mem hkl)
    obtain ⟨fr,hfr⟩:∃f,l[k]=f:=⟨_,rfl⟩
    rw [hfr] at e0 s1 s2 ex ey htl
    obtain ⟨ft,fk⟩:=fr
    simp only at e0 s1 s2 ex ey htl
    obtain ⟨l1,hl1⟩:∃l,fk.1.length=l:=⟨_,rfl⟩
    obtain ⟨l2,hl2⟩:∃l,fk.2.length=l:=⟨_,rfl⟩
    rw [hl1] at ex
    rw [hl2] at ey
    subst ex ey
    have i0:(0:Int)<=(k:Int):=by omega
    have i1:(k:Int)<(n1:Int):=by omega
    have HT:Hid (Seg w (.slice xa l1 xc) fk.1/\Seg w (.slice ya l2 yc) fk.2/\l[k]=(ft,fk)/\ft.length<=9223372036854775807):=⟨s1,s2,hfr,htl⟩
    have y0:=HR.out.2.1.cell e0 (by simp)
    have y1:=HR.out.2.1.cell e1 (by simp)
    have y2:=HR.out.2.1.cell e2 (by simp)
    obtain ⟨W6,hW6,H6⟩:=al wr #[.string ⟨ft.toArray⟩,.slice xa l1 xc,.slice ya l2 yc] 61
    unfold Str at y0
    go_upto_region 7 with fail
    try rw [hW6]
    obtain ⟨xb,hxb⟩:∃x,wr.heap.size=x:=⟨_,rfl⟩
    rw [hxb] at H6
    try rw [hxb]
    clear hW6 hxb
    have HX:Hid (∀y:World,W6.grownBy y none->y.cell? ⟨xb,0,none⟩=some (.string ⟨ft.toArray⟩)/\y.cell? ⟨xb,1,none⟩=some (.slice xa l1 xc)/\y.cell? ⟨xb,2,none⟩=some (.slice ya l2 yc)):=fun y hy=>by
     have h:=H6.out.1.grown hy (by simp)
     exact ⟨h.cell 0,h.cell 1,h.cell 2⟩
    have HL:Hid (Blk W6 qb 23 #[.int .i64 q.1,.int .i64 q.2]/\w.grownBy W6 none/\∀j (h:j<l.length),j<k->okRow l[j]=true/\∀_:0<j,cmpR l[j-1] l[j]<0):=⟨HR.out.2.2.grown H6.out.2.1 (by simp),grown_trans HR.out.2.1 H6.out.2.1,HR.out.1⟩
    clear e0 e1 e2 s1 s2 hl1 hl2 hfr htl y0 y1 y2 H6 HR
    obtain ⟨tb,htb⟩:∃b,tabB ft=b:=⟨_,rfl⟩
    obtain ⟨kb,hkb⟩:∃b,keyB fk.1=b:=⟨_,rfl⟩
    obtain ⟨vb,hvb⟩:∃b,valueB fk.2=b:=⟨_,rfl⟩
    have HB:Hid (tabB ft=tb/\keyB fk.1=kb/\valueB fk.2=vb):=⟨htb,hkb,hvb⟩
    have HOR:Hid (okRow (ft,fk)=(tb && (kb && vb))):=by
     show _=_
     unfold okRow
     rw [htb,hkb,hvb]
    clear htb hkb hvb
    obtain ⟨bad,hbad⟩:∃b:Bool,b = !(tb && (kb && vb) && decide (0<k->cmpR l[k-1] (ft,fk)<0)):=⟨_,rfl⟩
    have HBAD:Hid (bad = !(tb && (kb && vb) && decide (0<k->cmpR l[k-1] (ft,fk)<0))):=hbad
    clear hbad
    go_cut [49] (fun x wc=>x=.bool bad/\W6.grownBy wc none)
    case first =>
     cases tb with
     | false =>
      have HBD:Hid (bad=true):=by rw [HBAD.out];exact rfl
      refine wp_region_noPanic ?_
      refine wp_region_hold 1000 (fun y=>W6.grownBy y none) (by kernel_rfl) ?_
      have G0:Hid (W6.grownBy W6.drew none):=grown_drew _ _
      generalize W6.drew=wd at G0 ⊢
      have J:Idx [0,1]:=trivial
      iterate 2 (refine tK J (G0.out) rfl rfl (fun wk hk=>by obtain ⟨m0,m1,m2⟩:=HX.out wk hk;go_simp;try rfl) ?_;replace J:=J.tl;try simp only [pN])
      clear J
      refine wpHold_one (i:=2) rfl (by kernel_rfl) (by rfl) (fun K hK=>?_)
      go_wp2_with fail
      refine (Names.table10 ft wd (by have:=HT.out.2.2.2;omega)).mono ?_
      rw [HB.out.1]
      rintro e wx ⟨rfl,hx⟩
      rw [hx]
      clear hx
      go_wp2_with fail
      refine hK.out _ _ (fun _=>G0.out) ?_
      clear hK K
      try simp only [pN]
      have J:Idx [3,4]:=trivial
      iterate 2 (refine tK J (G0.out) rfl rfl (fun wk hk=>by obtain ⟨m0,m1,m2⟩:=HX.out wk hk;go_simp;try rfl) ?_;replace J:=J.tl;try simp only [pN])
      clear J
      have J:Idx [5,6,7,8]:=trivial
      iterate 4 (refine sk J (G0.out) rfl rfl ?_;replace J:=J.tl;try simp only [pN])
      clear J
      have J:Idx [9,10]:=trivial
      iterate 2 (refine tK J (G0.out) rfl rfl (fun wk hk=>by obtain ⟨m0,m1,m2⟩:=HX.out wk hk;go_simp;try rfl) ?_;replace J:=J.tl;try simp only [pN])
      clear J
      have J:Idx [11,12,13,14]:=trivial
      iterate 4 (refine sk J (G0.out) rfl rfl ?_;replace J:=J.tl;try simp only [pN])
      clear J
      have J:Idx [15,16]:=trivial
      iterate 2 (refine tK J (G0.out) rfl rfl (fun wk hk=>by obtain ⟨m0,m1,m2⟩:=HX.out wk hk;go_simp;try rfl) ?_;replace J:=J.tl;try simp only [pN])
      clear J
      have J:Idx [17,18,19,20,21,22,23,24,25,26,27,28]:=trivial
      iterate 12 (refine sk J (G0.out) rfl rfl ?_;replace J:=J.tl;try simp only [pN])
      clear J
      refine tK (i:=29) (l':=[]) trivial (G0.out) rfl rfl (fun wk hk=>by obtain ⟨m0,m1,m2⟩:=HX.out wk hk;go_simp;try rfl) ?_
      try simp only [pN]
      refine wpHold_done (by kernel_rfl) ?_
      refine (‹∀(a:Act) (w:World),Met _ a w->_› _ _ ?_)
      go_meet
      case rel=>exact ⟨by rw [HBD.out],G0.out⟩
     | true =>
     cases kb with
     | false =>
      have HBD:Hid (bad=true):=by rw [HBAD.out];exact rfl
      refine wp_region_noPanic ?_
      refine wp_region_hold 1000 (fun y=>W6.grownBy y none) (by kernel_rfl) ?_
      have G0:Hid (W6.grownBy W6.drew none):=grown_drew _ _
      generalize W6.drew=wd at G0 ⊢
      have J:Idx [0,1]:=trivial
      iterate 2 (refine tK J (G0.out) rfl rfl (fun wk hk=>by obtain ⟨m0,m1,m2⟩:=HX.out wk hk;go_simp;try rfl) ?_;replace J:=J.tl;try simp only [pN])
      clear J
      refine wpHold_one (i:=2) rfl (by kernel_rfl) (by rfl) (fun K hK=>?_)
      go_wp2_with fail
      refine (Names.table10 ft wd (by have:=HT.out.2.2.2;omega)).mono ?_
      rw [HB.out.1]
      rintro e wx ⟨rfl,hx⟩
      rw [hx]
      clear hx
      go_wp2_with fail
      refine hK.out _ _ (fun _=>G0.out) ?_
      clear hK K
      try simp only [pN]
      have J:Idx [3,4,5,6]:=trivial
      iterate 4 (refine tK J (G0.out) rfl rfl (fun wk hk=>by obtain ⟨m0,m1,m2⟩:=HX.out wk hk;go_simp;try rfl) ?_;replace J:=J.tl;try simp only [pN])
      clear J
      refine wpHold_one (i:=7) rfl (by kernel_rfl) (by rfl) (fun K hK=>?_)
      go_wp2_with fail
      refine (Names.key12 (.slice xa l1 xc) fk.1 wd (HT.out.1.grown (grown_trans HL.out.2.1 G0.out))).mono ?_
      rw [HB.out.2.1]
      rintro e wx ⟨rfl,hx⟩
      rw [hx]
      clear hx
      go_wp2_with fail
      refine hK.out _ _ (fun _=>G0.out) ?_
      clear hK K
      try simp only [pN]
      have J:Idx [8,9,10]:=trivial
      iterate 3 (refine tK J (G0.out) rfl rfl (fun wk hk=>by obtain ⟨m0,m1,m2⟩:=HX.out wk hk;go_simp;try rfl) ?_;replace J:=J.tl;try simp only [pN])
      clear J
      have J:Idx [11,12,13,14]:=trivial
      iterate 4 (refine sk J (G0.out) rfl rfl ?_;replace J:=J.tl;try simp only [pN])
      clear J
      have J:Idx [15,16]:=trivial
      iterate 2 (refine tK J (G0.out) rfl rfl (fun wk hk=>by obtain ⟨m0,m1,m2⟩:=HX.out wk hk;go_simp;try rfl) ?_;replace J:=J.tl;try simp only [pN])
      clear J
      have J:Idx [17,18,19,20,21,22,23,24,25,26,27,28]:=trivial
      iterate 12 (refine sk J (G0.out) rfl rfl ?_;replace J:=J.tl;try simp only [pN])
      clear J
      refine tK (i:=29) (l':=[]) trivial (G0.out) rfl rfl (fun wk hk=>by obtain ⟨m0,m1,m2⟩:=HX.out wk hk;go_simp;try rfl) ?_
      try simp only [pN]
      refine wpHold_done (by kernel_rfl) ?_
      refine (‹∀(a:Act) (w:World),Met _ a w->_› _ _ ?_)
      go_meet
      case rel=>exact ⟨by rw [HBD.out],G0.out⟩
     | true =>
     cases vb with
     | false =>
      have HBD:Hid (bad=true):=by rw [HBAD.out];exact rfl
      refine wp_region_noPanic ?_
      refine wp_region_hold 1000 (fun y=>W6.grownBy y none) (by kernel_rfl) ?_
      have G0:Hid (W6.grownBy W6.drew none):=grown_drew _ _
      generalize W6.drew=wd at G0 ⊢
      have J:Idx [0,1]:=trivial
      iterate 2 (refine tK J (G0.out) rfl rfl (fun wk hk=>by obtain ⟨m0,m1,m2⟩:=HX.out wk hk;go_simp;try rfl) ?_;replace J:=J.tl;try simp only [pN])
      clear J
      refine wpHold_one (i:=2) rfl (by kernel_rfl) (by rfl) (fun K hK=>?_)
      go_wp2_with fail
      refine (Names.table10 ft wd (by have:=HT.out.2.2.2;omega)).mono ?_
      rw [HB.out.1]
      rintro e wx ⟨rfl,hx⟩
      rw [hx]
      clear hx
      go_wp2_with fail
      refine hK.out _ _ (fun _=>G0.out) ?_
      clear hK K
      try simp only [pN]
      have J:Idx [3,4,5,6]:=trivial
      iterate 4 (refine tK J (G0.out) rfl rfl (fun wk hk=>by obtain ⟨m0,m1,m2⟩:=HX.out wk hk;go_simp;try rfl) ?_;replace J:=J.tl;try simp only [pN])
      clear J
      refine wpHold_one (i:=7) rfl (by kernel_rfl) (by rfl) (fun K hK=>?_)
      go_wp2_with fail
      refine (Names.key12 (.slice xa l1 xc) fk.1 wd (HT.out.1.grown (grown_trans HL.out.2.1 G0.out))).mono ?_
      rw [HB.out.2.1]
      rintro e wx ⟨rfl,hx⟩
      rw [hx]
      clear hx
      go_wp2_with fail
      refine hK.out _ _ (fun _=>G0.out) ?_
      clear hK K
      try simp only [pN]
      have J:Idx [8,9,10,11,12]:=trivial
      iterate 5 (refine tK J (G0.out) rfl rfl (fun wk hk=>by obtain ⟨m0,m1,m2⟩:=HX.out wk hk;go_simp;try rfl) ?_;replace J:=J.tl;try simp only [pN])
      clear J
      refine wpHold_one (i:=13) rfl (by kernel_rfl) (by rfl) (fun K hK=>?_)
      go_wp2_with fail
      refine (Names.value14 (.slice ya l2 yc) fk.2 wd (HT.out.2.1.grown (grown_trans HL.out.2.1 G0.out))).mono ?_
      rw [HB.out.2.2]
      rintro e wx ⟨rfl,hx⟩
      rw [hx]
      clear hx
      go_wp2_with fail
      refine hK.out _ _ (fun _=>G0.out) ?_
      clear hK K
      try simp only [pN]
      have J:Idx [14,15,16]:=trivial
      iterate 3 (refine tK J (G0.out) rfl rfl (fun wk hk=>by obtain ⟨m0,m1,m2⟩:=HX.out wk hk;go_simp;try rfl) ?_;replace J:=J.tl;try simp only [pN])
      clear J
      have J:Idx [17,18,19,20,21,22,23,24,25,26,27,28]:=trivial
      iterate 12 (refine sk J (G0.out) rfl rfl ?_;replace J:=J.tl;try simp only [pN])
      clear J
      refine tK (i:=29) (l':=[]) trivial (G0.out) rfl rfl (fun wk hk=>by obtain ⟨m0,m1,m2⟩:=HX.out wk hk;go_simp;try rfl) ?_
      try simp only [pN]
      refine wpHold_done (by kernel_rfl) ?_
      refine (‹∀(a:Act) (w:World),Met _ a w->_› _ _ ?_)
      go_meet
      case rel=>exact ⟨by rw [HBD.out],G0.out⟩
     | true =>
     by_cases hk0:k=0
     ·subst hk0
      have HBD:Hid (bad=false):=by rw [HBAD.out];show _=_;simp
      refine wp_region_noPanic ?_
      refine wp_region_hold 1000 (fun y=>W6.grownBy y none) (by kernel_rfl) ?_
      have G0:Hid (W6.grownBy W6.drew none):=grown_drew _ _
      generalize W6.drew=wd at G0 ⊢
      have J:Idx [0,1]:=trivial
      iterate 2 (refine tK J (G0.out) rfl rfl (fun wk hk=>by obtain ⟨m0,m1,m2⟩:=HX.out wk hk;go_simp;try rfl) ?_;replace J:=J.tl;try simp only [pN])
      clear J
      refine wpHold_one (i:=2) rfl (by kernel_rfl) (by rfl) (fun K hK=>?_)
      go_wp2_with fail
      refine (Names.table10 ft wd (by have:=HT.out.2.2.2;omega)).mono ?_
      rw [HB.out.1]
      rintro e wx ⟨rfl,hx⟩
      rw [hx]
      clear hx
      go_wp2_with fail
      refine hK.out _ _ (fun _=>G0.out) ?_
      clear hK K
      try simp only [pN]
      have J:Idx [3,4,5,6]:=trivial
      iterate 4 (refine tK J (G0.out) rfl rfl (fun wk hk=>by obtain ⟨m0,m1,m2⟩:=HX.out wk hk;go_simp;try rfl) ?_;replace J:=J.tl;try simp only [pN])
      clear J
      refine wpHold_one (i:=7) rfl (by kernel_rfl) (by rfl) (fun K hK=>?_)
      go_wp2_with fail
      refine (Names.key12 (.slice xa l1 xc) fk.1 wd (HT.out.1.grown (grown_trans HL.out.2.1 G0.out))).mono ?_
      rw [HB.out.2.1]
      rintro e wx ⟨rfl,hx⟩
      rw [hx]
      clear hx
      go_wp2_with fail
      refine hK.out _ _ (fun _=>G0.out) ?_
      clear hK K
      try simp only [pN]
      have J:Idx [8,9,10,11,12]:=trivial
      iterate 5 (refine tK J (G0.out) rfl rfl (fun wk hk=>by obtain ⟨m0,m1,m2⟩:=HX.out wk hk;go_simp;try rfl) ?_;replace J:=J.tl;try simp only [pN])
      clear J
      refine wpHold_one (i:=13) rfl (by kernel_rfl) (by rfl) (fun K hK=>?_)
      go_wp2_with fail
      refine (Names.value14 (.slice ya l2 yc) fk.2 wd (HT.out.2.1.grown (grown_trans HL.out.2.1 G0.out))).mono ?_
      rw [HB.out.2.2]
      rintro e wx ⟨rfl,hx⟩
      rw [hx]
      clear hx
      go_wp2_with fail
      refine hK.out _ _ (fun _=>G0.out) ?_
      clear hK K
      try simp only [pN]
      have J:Idx [14,15,16,17]:=trivial
      iterate 4 (refine tK J (G0.out) rfl rfl (fun wk hk=>by obtain ⟨m0,m1,m2⟩:=HX.out wk hk;go_simp;try rfl) ?_;replace J:=J.tl;try simp only [pN])
      clear J
      refine wpHold_one (i:=18) rfl (by kernel_rfl) (by rfl) (fun K hK=>?_)
      go_wp2_with fail
      try rw [decide_eq_false (show ¬((0:Int)<((0:Nat):Int)) by omega)]
      refine hK.out _ _ (fun _=>G0.out) ?_
      clear hK K
      try simp only [pN]
      refine tK (i:=19) (l':=[]) trivial (G0.out) rfl rfl (fun wk hk=>by obtain ⟨m0,m1,m2⟩:=HX.out wk hk;go_simp;try rfl) ?_
      try simp only [pN]
      have J:Idx [20,21,22,23,24,25,26,27]:=trivial
      iterate 8 (refine sk J (G0.out) rfl rfl ?_;replace J:=J.tl;try simp only [pN])
      clear J
      have J:Idx [28,29]:=trivial
      iterate 2 (refine tK J (G0.out) rfl rfl (fun wk hk=>by obtain ⟨m0,m1,m2⟩:=HX.out wk hk;go_simp;try rfl) ?_;replace J:=J.tl;try simp only [pN])
      clear J
      refine wpHold_done (by kernel_rfl) ?_
      refine (‹∀(a:Act) (w:World),Met _ a w->_› _ _ ?_)
      go_meet
      case rel=>exact ⟨by rw [HBD.out],G0.out⟩
     ·have hkp:k-1<l.length:=by omega
      obtain ⟨b',off',xv,yv,eb,d0,d1,d2,t1,t2⟩:=nms_at HV.out (k-1) hkp
      simp at eb
      obtain ⟨rfl,rfl⟩:=eb
      obtain ⟨pa,pc,ex⟩:=t1.shape
      obtain ⟨qa,qc,ey⟩:=t2.shape
      obtain ⟨fr,hfr⟩:∃f,l[k-1]=f:=⟨_,rfl⟩
      rw [hfr] at d0 t1 t2 ex ey HBAD
      obtain ⟨pt,pk⟩:=fr
      simp only at d0 t1 t2 ex ey
      obtain ⟨p1,hp1⟩:∃l,pk.1.length=l:=⟨_,rfl⟩
      obtain ⟨p2,hp2⟩:∃l,pk.2.length=l:=⟨_,rfl⟩
      rw [hp1] at ex
      rw [hp2] at ey
      subst ex ey
      obtain ⟨kp,hkp2⟩:∃kp:Nat,k-1=kp:=⟨_,rfl⟩
      rw [hkp2] at d0 d1 d2
      have hks:IntKind.i64.wrap ((k:Int)-1)=(kp:Int):=by rw [IntKind.wrap_i64];omega
      have j0:(0:Int)<=(kp:Int):=by omega
      have j1:(kp:Int)<(n1:Int):=by omega
      have hk0':(0:Int)<(k:Int):=by omega
      have HPT:Hid (Seg w (.slice pa p1 pc) pk.1/\Seg w (.slice qa p2 qc) pk.2):=⟨t1,t2⟩
      have HPV:Hid (∀y:World,W6.grownBy y none->y.cell? ⟨b,off+kp*3,none⟩=some (.string ⟨pt.toArray⟩)/\y.cell? ⟨b,off+kp*3+1,none⟩=some (.slice pa p1 pc)/\y.cell? ⟨b,off+kp*3+2,none⟩=some (.slice qa p2 qc)):=fun y hy=>by
       have hy':=grown_trans HL.out.2.1 hy
       exact ⟨hy'.cell d0 (by simp),hy'.cell d1 (by simp),hy'.cell d2 (by simp)⟩
      obtain ⟨R,hR⟩:∃R,cmpR (pt,pk) (ft,fk)=R:=⟨_,rfl⟩
      have HRR:Hid (cmpR (pt,pk) (ft,fk)=R):=hR
      have hk1:((0:Int)<(k:Int))=True:=eq_true hk0'
      have hk2:(0<k)=True:=eq_true (by omega)
      have hk3:(k=0)=False:=eq_false (by omega)
      have HK0:Hid (0<k):=(by omega:0<k)
      clear hk0
      rw [hR] at HBAD
      clear d0 d1 d2 t1 t2 hp1 hp2 hkp2 hR hk0'
      by_cases hr0:R<0
      ·have HR0:Hid (R<0):=hr0
       have HBD:Hid (bad=false):=by rw [HBAD.out];show _=_;simp [hr0]
       clear hr0
       refine wp_region_noPanic ?_
       refine wp_region_hold 1000 (fun y=>W6.grownBy y none) (by kernel_rfl) ?_
       have G0:Hid (W6.grownBy W6.drew none):=grown_drew _ _
       generalize W6.drew=wd at G0 ⊢
       have J:Idx [0,1]:=trivial
       iterate 2 (refine tK J (G0.out) rfl rfl (fun wk hk=>by obtain ⟨m0,m1,m2⟩:=HX.out wk hk;go_simp;try rfl) ?_;replace J:=J.tl;try simp only [pN])
       clear J
       refine wpHold_one (i:=2) rfl (by kernel_rfl) (by rfl) (fun K hK=>?_)
       go_wp2_with fail
       refine (Names.table10 ft wd (by have:=HT.out.2.2.2;omega)).mono ?_
       rw [HB.out.1]
       rintro e wx ⟨rfl,hx⟩
       rw [hx]
       clear hx
       go_wp2_with fail
       refine hK.out _ _ (fun _=>G0.out) ?_
       clear hK K
       try simp only [pN]
       have J:Idx [3,4,5,6]:=trivial
       iterate 4 (refine tK J (G0.out) rfl rfl (fun wk hk=>by obtain ⟨m0,m1,m2⟩:=HX.out wk hk;go_simp;try rfl) ?_;replace J:=J.tl;try simp only [pN])
       clear J
       refine wpHold_one (i:=7) rfl (by kernel_rfl) (by rfl) (fun K hK=>?_)
       go_wp2_with fail
       refine (Names.key12 (.slice xa l1 xc) fk.1 wd (HT.out.1.grown (grown_trans HL.out.2.1 G0.out))).mono ?_
       rw [HB.out.2.1]
       rintro e wx ⟨rfl,hx⟩
       rw [hx]
       clear hx
       go_wp2_with fail
       refine hK.out _ _ (fun _=>G0.out) ?_
       clear hK K
       try simp only [pN]
       have J:Idx [8,9,10,11,12]:=trivial
       iterate 5 (refine tK J (G0.out) rfl rfl (fun wk hk=>by obtain ⟨m0,m1,m2⟩:=HX.out wk hk;go_simp;try rfl) ?_;replace J:=J.tl;try simp only [pN])
       clear J
       refine wpHold_one (i:=13) rfl (by kernel_rfl) (by rfl) (fun K hK=>?_)
       go_wp2_with fail
       refine (Names.value14 (.slice ya l2 yc) fk.2 wd (HT.out.2.1.grown (grown_trans HL.out.2.1 G0.out))).mono ?_
       rw [HB.out.2.2]
       rintro e wx ⟨rfl,hx⟩
       rw [hx]
       clear hx
       go_wp2_with fail
       refine hK.out _ _ (fun _=>G0.out) ?_
       clear hK K
       try simp only [pN]
       have J:Idx [14,15,16,17]:=trivial
       iterate 4 (refine tK J (G0.out) rfl rfl (fun wk hk=>by obtain ⟨m0,m1,m2⟩:=HX.out wk hk;go_simp;try rfl) ?_;replace J:=J.tl;try simp only [pN])
       clear J
       refine wpHold_one (i:=18) rfl (by kernel_rfl) (by rfl) (fun K hK=>?_)
       go_wp2_with fail
       try rw [decide_eq_true (show (0:Int)<(k:Int) by have:=HK0.out;omega)]
       try rw [decide_eq_true HK0.out]
       try simp only [hk1,hk2,decide_true]
       refine hK.out _ _ (fun _=>G0.out) ?_
       clear hK K
       try simp only [pN]
       have J:Idx [19,20,21,22,23,24,25]:=trivial
       iterate 7 (refine tK J (G0.out) rfl rfl (fun wk hk=>by obtain ⟨m0,m1,m2⟩:=HX.out wk hk;obtain ⟨m3,m4,m5⟩:=HPV.out wk hk;go_simp;try rfl) ?_;replace J:=J.tl;try simp only [pN])
       clear J
       refine wpHold_one (i:=26) rfl (by kernel_rfl) (by rfl) (fun K hK=>?_)
       go_wp2_with fail
       refine (cmp64 pt ft (.slice pa p1 pc) (.slice qa p2 qc) (.slice xa l1 xc) (.slice ya l2 yc) pk fk wd (HPT.out.1.grown (grown_trans HL.out.2.1 G0.out)) (HPT.out.2.grown (grown_trans HL.out.2.1 G0.out)) (HT.out.1.grown (grown_trans HL.out.2.1 G0.out)) (HT.out.2.1.grown (grown_trans HL.out.2.1 G0.out))).mono ?_
       rw [HRR.out]
       rintro e wa ⟨rfl,gg⟩
       have GA:Hid (W6.grownBy wa none):=grown_trans G0.out gg
       clear gg
       go_wp2_with fail
       refine hK.out _ _ (fun _=>GA.out) ?_
       clear hK K
       try simp only [pN]
       refine wpHold_one (i:=27) rfl (by kernel_rfl) (by rfl) (fun K hK=>?_)
       go_wp2_with fail
       try rw [decide_eq_false (show ¬(0<=R) by have:=HR0.out;omega)]
       refine hK.out _ _ (fun _=>GA.out) ?_
       clear hK K
       try simp only [pN]
       have J:Idx [28,29]:=trivial
       iterate 2 (refine tK J (GA.out) rfl rfl (fun wk hk=>by obtain ⟨m0,m1,m2⟩:=HX.out wk hk;obtain ⟨m3,m4,m5⟩:=HPV.out wk hk;go_simp;try rfl) ?_;replace J:=J.tl;try simp only [pN])
       clear J
       refine wpHold_done (by kernel_rfl) ?_
       refine (‹∀(a:Act) (w:World),Met _ a w->_› _ _ ?_)
       go_meet
       case rel=>exact ⟨by rw [HBD.out],GA.out⟩
      ·have HR0:Hid (¬R<0):=hr0
       have HBD:Hid (bad=true):=by
        rw [HBAD.out]
        show _=_
        have:0<k:=HK0.out
        simp [hr0,this]
       clear hr0
       refine wp_region_noPanic ?_
       refine wp_region_hold 1000 (fun y=>W6.grownBy y none) (by kernel_rfl) ?_
       have G0:Hid (W6.grownBy W6.drew none):=grown_drew _ _
       generalize W6.drew=wd at G0 ⊢
       have J:Idx [0,1]:=trivial
       iterate 2 (refine tK J (G0.out) rfl rfl (fun wk hk=>by obtain ⟨m0,m1,m2⟩:=HX.out wk hk;go_simp;try rfl) ?_;replace J:=J.tl;try simp only [pN])
       clear J
       refine wpHold_one (i:=2) rfl (by kernel_rfl) (by rfl) (fun K hK=>?_)
       go_wp2_with fail
       refine (Names.table10 ft wd (by have:=HT.out.2.2.2;omega)).mono ?_
       rw [HB.out.1]
       rintro e wx ⟨rfl,hx⟩
       rw [hx]
       clear hx
       go_wp2_with fail
       refine hK.out _ _ (fun _=>G0.out) ?_
       clear hK K
       try simp only [pN]
       have J:Idx [3,4,5,6]:=trivial
       iterate 4 (refine tK J (G0.out) rfl rfl (fun wk hk=>by obtain ⟨m0,m1,m2⟩:=HX.out wk hk;go_simp;try rfl) ?_;replace J:=J.tl;try simp only [pN])
       clear J
       refine wpHold_one (i:=7) rfl (by kernel_rfl) (by rfl) (fun K hK=>?_)
       go_wp2_with fail
       refine (Names.key12 (.slice xa l1 xc) fk.1 wd (HT.out.1.grown (grown_trans HL.out.2.1 G0.out))).mono ?_
       rw [HB.out.2.1]
       rintro e wx ⟨rfl,hx⟩
       rw [hx]
       clear hx
       go_wp2_with fail
       refine hK.out _ _ (fun _=>G0.out) ?_
       clear hK K
       try simp only [pN]
       have J:Idx [8,9,10,11,12]:=trivial
       iterate 5 (refine tK J (G0.out) rfl rfl (fun wk hk=>by obtain ⟨m0,m1,m2⟩:=HX.out wk hk;go_simp;try rfl) ?_;replace J:=J.tl;try simp only [pN])
       clear J
       refine wpHold_one (i:=13) rfl (by kernel_rfl) (by rfl) (fun K hK=>?_)
       go_wp2_with fail
       refine (Names.value14 (.slice ya l2 yc) fk.2 wd (HT.out.2.1.grown (grown_trans HL.out.2.1 G0.out))).mono ?_
       rw [HB.out.2.2]
       rintro e wx ⟨rfl,hx⟩
       rw [hx]
       clear hx
       go_wp2_with fail
       refine hK.out _ _ (fun _=>G0.out) ?_
       clear hK K
       try simp only [pN]
       have J:Idx [14,15,16,17]:=trivial
       iterate 4 (refine tK J (G0.out) rfl rfl (fun wk hk=>by obtain ⟨m0,m1,m2⟩:=HX.out wk hk;go_simp;try rfl) ?_;replace J:=J.tl;try simp only [pN])
       clear J
       refine wpHold_one (i:=18) rfl (by kernel_rfl) (by rfl) (fun K hK=>?_)
       go_wp2_with fail
       try rw [decide_eq_true (show (0:Int)<(k:Int) by have:=HK0.out;omega)]
       try rw [decide_eq_true HK0.out]
       try simp only [hk1,hk2,decide_true]
       refine hK.out _ _ (fun _=>G0.out) ?_
       clear hK K
       try simp only [pN]
       have J:Idx [19,20,21,22,23,24,25]:=trivial
       iterate 7 (refine tK J (G0.out) rfl rfl (fun wk hk=>by obtain ⟨m0,m1,m2⟩:=HX.out wk hk;obtain ⟨m3,m4,m5⟩:=HPV.out wk hk;go_simp;try rfl) ?_;replace J:=J.tl;try simp only [pN])
       clear J
       refine wpHold_one (i:=26) rfl (by kernel_rfl) (by rfl) (fun K hK=>?_)
       go_wp2_with fail
       refine (cmp64 pt ft (.slice pa p1 pc) (.slice qa p2 qc) (.slice xa l1 xc) (.slice ya l2 yc) pk fk wd (HPT.out.1.grown (grown_trans HL.out.2.1 G0.out)) (HPT.out.2.grown (grown_trans HL.out.2.1 G0.out)) (HT.out.1.grown (grown_trans HL.out.2.1 G0.out)) (HT.out.2.1.grown (grown_trans HL.out.2.1 G0.out))).mono ?_
       rw [HRR.out]
       rintro e wa ⟨rfl,gg⟩
       have GA:Hid (W6.grownBy wa none):=grown_trans G0.out gg
       clear gg
       go_wp2_with fail
       refine hK.out _ _ (fun _=>GA.out) ?_
       clear hK K
       try simp only [pN]
       refine wpHold_one (i:=27) rfl (by kernel_rfl) (by rfl) (fun K hK=>?_)
       go_wp2_with fail
       try rw [decide_eq_true (show  (0<=R) by have:=HR0.out;omega)]
       refine hK.out _ _ (fun _=>GA.out) ?_
       clear hK K
       try simp only [pN]
       have J:Idx [28,29]:=trivial
       iterate 2 (refine tK J (GA.out) rfl rfl (fun wk hk=>by obtain ⟨m0,m1,m2⟩:=HX.out wk hk;obtain ⟨m3,m4,m5⟩:=HPV.out wk hk;go_simp;try rfl) ?_;replace J:=J.tl;try simp only [pN])
       clear J
       refine wpHold_done (by kernel_rfl) ?_
       refine (‹∀(a:Act) (w:World),Met _ a w->_› _ _ ?_)
       go_meet
       case rel=>exact ⟨by rw [HBD.out],GA.out⟩
    case rest =>
     obtain ⟨rfl,hgc⟩:=hcut
     have HQ:Hid (Blk wc qb 23 #[.int .i64 q.1,.int .i64 q.2]/\w.grownBy wc none):=⟨HL.out.1.grown hgc (by simp),grown_trans HL.out.2.1 hgc⟩
     clear hgc
     cases bad with
     | true =>
      have HNO:Hid (¬OkL l):=by
       intro hok
       have h1:=hok k hkl
       rw [HT.out.2.2.1,HOR.out] at h1
       have h2:=HBAD.out
       rw [h1.1,decide_eq_true h1.2] at h2
       cases h2
      go_wp2_with fail
      go_ret
      exact ⟨HQ.out.2,.inl ⟨.inr HNO.out,rfl⟩⟩
     | false =>
      have HYES:Hid (okRow l[k]=true/\∀_:0<k,cmpR l[k-1] l[k]<0):=by
       have h2:=HBAD.out
       rw [eq_comm,Bool.not_eq_false',Bool.and_eq_true,decide_eq_true_eq] at h2
       rw [HT.out.2.2.1,HOR.out]
       exact h2
      go_wp2_with fail
      go_roundw
      case rel =>
       refine ⟨k+1,by go_num,by omega,fun j hj hjk=>?_,HQ.out.2,HQ.out.1⟩
       rcases Nat.lt_or_ge j k with h | h
       ·exact HL.out.2.2 j hj h
       ·obtain rfl:j=k:=by omega
        exact HYES.out
      case measure =>
       simp [intOf]
       omega
   ·obtain rfl:k=n1:=by omega
    have i1:¬((k:Int)<(k:Int)):=by omega
    have HOK:Hid (OkL l):=fun j hj=>HR.out.1 j hj (by have:=HN.out.1;omega)
    have HCQ:Hid (∀y:World,wr.grownBy y none->y.cell? ⟨qb,0,none⟩=some (.int .i64 q.1)/\y.cell? ⟨qb,1,none⟩=some (.int .i64 q.2)):=fun y hy=>by
     have h:=HR.out.2.2.grown hy (by simp)
     exact ⟨h.cell 0,h.cell 1⟩
    obtain ⟨Wr,hWr⟩:∃W:World,W=wr:=⟨_,rfl⟩
    subst hWr
    obtain ⟨bad,hbad⟩:∃b:Bool,b=decide (q.1<(k:Int)\/q.2<(sizeF l:Int)):=⟨_,rfl⟩
    have HBAD:Hid (bad=decide (q.1<(k:Int)\/q.2<(sizeF l:Int))):=hbad
    clear hbad
    go_upto_region 9 with fail
    go_cut [61] (fun x wc=>x=.bool bad/\Wr.grownBy wc none)
    case first =>
     by_cases h1:q.1<(k:Int)
     ·have HBD:Hid (bad=true):=by rw [HBAD.out];exact decide_eq_true (.inl h1)
      refine wp_region_noPanic ?_
      refine wp_region_hold 1000 (fun y=>Wr.grownBy y none) (by kernel_rfl) ?_
      have G0:Hid (Wr.grownBy Wr.drew none):=grown_drew _ _
      generalize Wr.drew=wd at G0 ⊢
      have J:Idx [0,1,2,3]:=trivial
      iterate 4 (refine tK J (G0.out) rfl rfl (fun wk hk=>by obtain ⟨m0,m1⟩:=HCQ.out wk hk;go_simp;try rfl) ?_;replace J:=J.tl;try simp only [pN])
      clear J
      refine wpHold_one (i:=4) rfl (by kernel_rfl) (by rfl) (fun K hK=>?_)
      have z0:=(HCQ.out wd G0.out).1
      go_wp2_with fail
      try rw [decide_eq_true h1]
      refine hK.out _ _ (fun _=>G0.out) ?_
      clear hK K z0
      try simp only [pN]
      refine tK (i:=5) (l':=[]) trivial (G0.out) rfl rfl (fun wk hk=>by obtain ⟨m0,m1⟩:=HCQ.out wk hk;go_simp;try rfl) ?_
      try simp only [pN]
      have J:Idx [6,7,8,9,10]:=trivial
      iterate 5 (refine sk J (G0.out) rfl rfl ?_;replace J:=J.tl;try simp only [pN])
      clear J
      refine tK (i:=11) (l':=[]) trivial (G0.out) rfl rfl (fun wk hk=>by obtain ⟨m0,m1⟩:=HCQ.out wk hk;go_simp;try rfl) ?_
      try simp only [pN]
      refine wpHold_done (by kernel_rfl) ?_
      refine (‹∀(a:Act) (w:World),Met _ a w->_› _ _ ?_)
      go_meet
      case rel=>exact ⟨by rw [HBD.out],G0.out⟩
     ·have H1:Hid (¬(q.1<(k:Int))):=h1
      have HBD:Hid (bad=decide (q.2<(sizeF l:Int))):=by rw [HBAD.out];show _=_;simp [h1]
      refine wp_region_noPanic ?_
      refine wp_region_hold 1000 (fun y=>Wr.grownBy y none) (by kernel_rfl) ?_
      have G0:Hid (Wr.grownBy Wr.drew none):=grown_drew _ _
      generalize Wr.drew=wd at G0 ⊢
      have J:Idx [0,1,2,3]:=trivial
      iterate 4 (refine tK J (G0.out) rfl rfl (fun wk hk=>by obtain ⟨m0,m1⟩:=HCQ.out wk hk;go_simp;try rfl) ?_;replace J:=J.tl;try simp only [pN])
      clear J
      refine wpHold_one (i:=4) rfl (by kernel_rfl) (by rfl) (fun K hK=>?_)
      have z0:=(HCQ.out wd G0.out).1
      go_wp2_with fail
      try rw [decide_eq_false (show ¬(q.1<(k:Int)) by have:=H1.out;omega)]
      refine hK.out _ _ (fun _=>G0.out) ?_
      clear hK K z0
      try simp only [pN]
      have J:Idx [5,6,8,9]:=trivial
      iterate 4 (refine tK J (G0.out) rfl rfl (fun wk hk=>by obtain ⟨m0,m1⟩:=HCQ.out wk hk;go_simp;try rfl) ?_;replace J:=J.tl;try simp only [pN])
      clear J
      refine wpHold_one (i:=7) rfl (by kernel_rfl) (by rfl) (fun K hK=>?_)
      go_wp2_with fail
      refine (size39 (.slice a1 k c1) l (fun j _=>okL_size HOK.out (by have:=HN.out.1;omega) j) wd (HV.out.grown (grown_trans HR.out.2.1 G0.out))).mono ?_
      rintro e wa ⟨rfl,gg⟩
      have GA:Hid (Wr.grownBy wa none):=grown_trans G0.out gg
      clear gg
      go_wp2_with fail
      refine hK.out _ _ (fun _=>GA.out) ?_
      clear hK K
      try simp only [pN]
      have J:Idx [10,11]:=trivial
      iterate 2 (refine tK J (GA.out) rfl rfl (fun wk hk=>by obtain ⟨m0,m1⟩:=HCQ.out wk hk;go_simp;try rfl) ?_;replace J:=J.tl;try simp only [pN])
      clear J
      refine wpHold_done (by kernel_rfl) ?_
      refine (‹∀(a:Act) (w:World),Met _ a w->_› _ _ ?_)
      go_meet
      case rel=>exact ⟨by rw [HBD.out],GA.out⟩
    case rest =>
     obtain ⟨rfl,hgc⟩:=hcut
     have HQ:Hid (w.grownBy wc none):=grown_trans HR.out.2.1 hgc
     clear hgc
     cases bad with
     | true =>
      have hb:=HBAD.out
      have HY:Hid (q.1<(l.length:Int)\/q.2<(sizeF l:Int)):=by rw [HN.out.1];show _\/_;exact of_decide_eq_true hb.symm
      clear hb
      go_wp2_with fail
      go_ret
      exact ⟨HQ.out,.inr (.inl ⟨HMQ.out,HOK.out,HY.out,rfl⟩)⟩
     | false =>
      have hb:=HBAD.out
      have HY:Hid (¬(q.1<(l.length:Int)\/q.2<(sizeF l:Int))):=by rw [HN.out.1];show ¬(_\/_);exact of_decide_eq_false hb.symm
      clear hb
      go_wp2_with fail
      go_ret
      exact ⟨HQ.out,.inr (.inr ⟨HMQ.out,HOK.out,HY.out,rfl⟩)⟩
end Go.Proofs.YtakmlhhapegpoaaGreat
namespace Go.Proofs.YtakmlhhapegpoaaGreat
open Go.RowKit Disk Table
open Names (Str cmpL keyB valueB tabB inB)
open _root_.Go.Proofs.YtakmlhhapegpoaaGreat.Calls (POp POut PRes opV OpSeg mayOp Ops OpAt ops_at ops_open chk)
def NewOk (q:Int × Int)(l:List NRow):Prop:=mayQ q=true/\OkL l/\¬(q.1<(l.length:Int)\/q.2<(sizeF l:Int))
def RNewE (X:Nat->Prop)(q:Int × Int)(l:List NRow)(w:World)(e:Ending)(w':World):Prop :=
 w.grownBy w' none/\((NewOk q l/\∃d,e=.returned (.pointer (some ⟨d,0,none⟩))/\w.heap.size<=d/\REng X w' d q l)\/(¬NewOk q l/\e=.returned (.pointer none)))
theorem rnew30 {X:Nat->Prop}(q:Int × Int)(v:Value)(l:List NRow)(w:World)(hX:∀g,X g->g<w.heap.size)(hz:l.length<=1000000)(hT:∀r ∈ l,r.1.length<=9223372036854775807)(hv:Nms w v l):Calls Tryz.prog 30 #[quoV q,v] w (RNewE X q l w):=by
 obtain ⟨a1,n1,c1,rfl,hn1,hc1,hc1',HV⟩:=nms_open hv
 have HN:Hid (l.length=n1/\(∀r ∈ l,r.1.length<=9223372036854775807)/\∀g,X g->g<w.heap.size):=⟨hn1,hT,hX⟩
 have hz1:n1<=1000000:=by omega
 clear hv hn1 hT hz hX
 unfold quoV
 go_enter Tryz.func30,Tryz.ntmps30
 obtain ⟨w1,hw1,H1⟩:=al w #[.int .i64 q.1,.int .i64 q.2] 23
 obtain ⟨qb,hqb⟩:∃b,w.heap.size=b:=⟨_,rfl⟩
 rw [hqb] at H1
 have k0:=H1.out.1.cell 0
 have k1:=H1.out.1.cell 1
 simp at k0 k1
 go_upto_region 1 with fail
 try rw [hw1]
 try rw [hqb]
 clear hw1 hqb
 go_wp2_with fail
 refine (wrong28 q (.slice a1 n1 c1) l w1 (by have:=HN.out.1;omega) HN.out.2.1 (HV.out.grown H1.out.2.1)).mono ?_
 rintro e w2 ⟨g2,⟨hno,rfl⟩ | ⟨hm,hok,hbig,rfl⟩ | ⟨hm,hok,hfit,rfl⟩⟩
 ·have HQ:Hid (w.grownBy w2 none/\¬NewOk q l):=⟨grown_trans H1.out.2.1 g2,fun h=>by
   rcases hno with h1 | h1
   ·rw [h.1] at h1
    cases h1
   ·exact h1 h.2.1⟩
  clear g2 hno k0 k1
  go_wp2_with fail
  go_ret
  exact ⟨HQ.out.1,.inr ⟨HQ.out.2,rfl⟩⟩
 ·have HQ:Hid (w.grownBy w2 none/\¬NewOk q l):=⟨grown_trans H1.out.2.1 g2,fun h=>h.2.2 hbig⟩
  clear g2 hm hok hbig k0 k1
  go_wp2_with fail
  go_ret
  exact ⟨HQ.out.1,.inr ⟨HQ.out.2,rfl⟩⟩
 ·have H2:Hid (w.grownBy w2 none/\NewOk q l/\Blk w2 qb 23 #[.int .i64 q.1,.int .i64 q.2]):=⟨grown_trans H1.out.2.1 g2,⟨hm,hok,hfit⟩,H1.out.1.grown g2 (by simp)⟩
  clear g2 hm hok hfit k0 k1 H1
  have k0:=H2.out.2.2.cell 0
  have k1:=H2.out.2.2.cell 1
  simp at k0 k1
  obtain ⟨w3,hw3,H3⟩:=al w2 #[.int .i64 q.1,.int .i64 q.2,.slice none 0 0] 77
  go_upto_region 4 with fail
  try rw [hw3]
  obtain ⟨db,hdb⟩:∃b,w2.heap.size=b:=⟨_,rfl⟩
  rw [hdb] at H3
  try rw [hdb]
  have HD:Hid (w.heap.size<=db):=by rw [<-hdb];exact H2.out.1.size
  clear hw3 hdb k0 k1
  go_wp2_with fail
  go_loopw [6] (fun t wr=>∃(k:Nat) (u:Option Addr) (cu:Nat) (ks:List (Bs × Value × Value)),t=.int .i64 (k:Int)/\k<=n1/\Hid (Blk wr db 77 #[.int .i64 q.1,.int .i64 q.2,.slice u k cu]/\NmsO wr w.heap.size (.slice u k cu) ks/\NOwn wr w.heap.size ks (l.take k)/\w.grownBy wr none)) (fun t _=>n1-(intOf t).toNat)
  case atStart=>exact ⟨0,none,0,[],rfl,Nat.zero_le _,H3.out.1,nmsO_nil _ _,nown_nil _ _,grown_trans H2.out.1 H3.out.2.1⟩
  case round =>
   obtain ⟨k,u,cu,ks,rfl,hk,HR⟩:=hrel
   rcases Nat.lt_or_ge k n1 with hlt | hge
   ·have hkl:k<l.length:=by rw [HN.out.1];exact hlt
    obtain ⟨b,off,xv,yv,rfl,e0,e1,e2,s1,s2⟩:=nms_at HV.out k hkl
    obtain ⟨xa,xc,ex⟩:=s1.shape
    obtain ⟨ya,yc,ey⟩:=s2.shape
    have hok:=okP_len (okRow_parts (H2.out.2.1.2.1 k hkl).1).2
    have htk:l.take (k+1)=l.take k ++ [l[k]]:=List.take_succ_eq_append_getElem hkl
    obtain ⟨fr,hfr⟩:∃f,l[k]=f:=⟨_,rfl⟩
    rw [hfr] at e0 s1 s2 ex ey hok htk
    obtain ⟨ft,fk⟩:=fr
    simp only at e0 s1 s2 ex ey hok
    obtain ⟨l1,hl1⟩:∃l,fk.1.length=l:=⟨_,rfl⟩
    obtain ⟨l2,hl2⟩:∃l,fk.2.length=l:=⟨_,rfl⟩
    rw [hl1] at ex hok
    rw [hl2] at ey hok
    subst ex ey
    have i0:(0:Int)<=(k:Int):=by omega
    have i1:(k:Int)<(n1:Int):=by omega
    have hkk:ks.length=k:=by rw [HR.out.2.2.1.1];simp;omega
    have HT:Hid (Seg w (.slice xa l1 xc) fk.1/\Seg w (.slice ya l2 yc) fk.2/\l.take (k+1)=l.take k ++ [(ft,fk)]/\fk.1.length=l1/\fk.2.length=l2/\l1<=320/\l2<=320/\ks.length=k):=⟨s1,s2,htk,hl1,hl2,by omega,by omega,hkk⟩
    have HC:Hid (∀y:World,w.grownBy y none->y.cell? ⟨b,off+k*3,none⟩=some (.string ⟨ft.toArray⟩)/\y.cell? ⟨b,off+k*3+1,none⟩=some (.slice xa l1 xc)/\y.cell? ⟨b,off+k*3+2,none⟩=some (.slice ya l2 yc)):=fun y hy=>⟨hy.cell e0 (by simp),hy.cell e1 (by simp),hy.cell e2 (by simp)⟩
    clear e0 e1 e2 s1 s2 hl1 hl2 hfr hok htk hkk
    go_wp2_with fail
    refine wp_region_noPanic ?_
    refine wp_region_hold 27 (fun y=>w.grownBy y none/\Blk y db 77 #[.int .i64 q.1,.int .i64 q.2,.slice u k cu]) (by kernel_rfl) ?_
    have G0:Hid (w.grownBy wr.drew none/\Blk wr.drew db 77 #[.int .i64 q.1,.int .i64 q.2,.slice u k cu]/\wr.grownBy wr.drew none):=⟨grown_trans HR.out.2.2.2 (grown_drew _ _),HR.out.1.grown (grown_drew wr none) (by simp),grown_drew _ _⟩
    generalize wr.drew=wd at G0 ⊢
    have J:Idx [0,1,2,3,4,5,6,7,8,9,10,11,12,13,14,16,17,18,19,20]:=trivial
    iterate 20 (refine tK J (⟨G0.out.1,G0.out.2.1⟩) rfl rfl (fun wk hk=>by obtain ⟨m0,m1,m2⟩:=HC.out wk hk.1;have m3:=hk.2.cell 2;simp at m3;go_simp;try rfl) ?_;replace J:=J.tl;try simp only [pN])
    clear J
    refine wpHold_one (i:=15) rfl (by kernel_rfl) (by rfl) (fun K hK=>?_)
    go_wp2_with fail
    refine (copied65 (.slice xa l1 xc) fk.1 wd (HT.out.1.grown G0.out.1) (by rw [HT.out.2.2.2.1];have:=HT.out.2.2.2.2.2.1;omega)).mono ?_
    rintro e w3a ⟨p,rfl,hu,gg⟩
    obtain ⟨u1,u2,eu⟩:=hu.seg.shape
    rw [HT.out.2.2.2.1] at eu
    subst eu
    have G1:Hid (w.grownBy w3a none/\Blk w3a db 77 #[.int .i64 q.1,.int .i64 q.2,.slice u k cu]/\wr.grownBy w3a none/\Disk.Own w3a w.heap.size (.slice u1 l1 u2) fk.1):=⟨grown_trans G0.out.1 gg,G0.out.2.1.grown gg (by simp),grown_trans G0.out.2.2 gg,hu.mono G0.out.1.size⟩
    clear hu gg G0
    go_wp2_with fail
    refine hK.out _ _ (fun _=>⟨G1.out.1,G1.out.2.1⟩) ?_
    clear hK K
    try simp only [pN]
    refine wpHold_one (i:=21) rfl (by kernel_rfl) (by rfl) (fun K hK=>?_)
    go_wp2_with fail
    refine (copied65 (.slice ya l2 yc) fk.2 w3a (HT.out.2.1.grown G1.out.1) (by rw [HT.out.2.2.2.2.1];have:=HT.out.2.2.2.2.2.2.1;omega)).mono ?_
    rintro e w3b ⟨p,rfl,hu,gg⟩
    obtain ⟨u3,u4,eu⟩:=hu.seg.shape
    rw [HT.out.2.2.2.2.1] at eu
    subst eu
    have G2:Hid (w.grownBy w3b none/\Blk w3b db 77 #[.int .i64 q.1,.int .i64 q.2,.slice u k cu]/\wr.grownBy w3b none/\Disk.Own w3b w.heap.size (.slice u1 l1 u2) fk.1/\Disk.Own w3b w.heap.size (.slice u3 l2 u4) fk.2):=⟨grown_trans G1.out.1 gg,G1.out.2.1.grown gg (by simp),grown_trans G1.out.2.2.1 gg,G1.out.2.2.2.grown gg,hu.mono G1.out.1.size⟩
    clear hu gg G1
    go_wp2_with fail
    refine hK.out _ _ (fun _=>⟨G2.out.1,G2.out.2.1⟩) ?_
    clear hK K
    try simp only [pN]
    refine tK (i:=22) (l':=[]) trivial (⟨G2.out.1,G2.out.2.1⟩) rfl rfl (fun wk hk=>by obtain ⟨m0,m1,m2⟩:=HC.out wk hk.1;have m3:=hk.2.cell 2;simp at m3;go_simp;try rfl) ?_
    try simp only [pN]
    refine wpHold_one (i:=23) rfl (by kernel_rfl) (by rfl) (fun K hK=>?_)
    go_wp2_with fail
    obtain ⟨w3c,hw3c,H3c⟩:=al w3b #[.string ⟨ft.toArray⟩,.slice u1 l1 u2,.slice u3 l2 u4] 61
    rw [hw3c]
    clear hw3c
    have G3:Hid (w.grownBy w3c none/\Blk w3c db 77 #[.int .i64 q.1,.int .i64 q.2,.slice u k cu]/\wr.grownBy w3c none/\Disk.Own w3c w.heap.size (.slice u1 l1 u2) fk.1/\Disk.Own w3c w.heap.size (.slice u3 l2 u4) fk.2):=⟨grown_trans G2.out.1 H3c.out.2.1,G2.out.2.1.grown H3c.out.2.1 (by simp),grown_trans G2.out.2.2.1 H3c.out.2.1,G2.out.2.2.2.1.grown H3c.out.2.1,G2.out.2.2.2.2.grown H3c.out.2.1⟩
    clear G2
    refine hK.out _ _ (fun _=>⟨G3.out.1,G3.out.2.1⟩) ?_
    clear hK K
    try simp only [pN]
    refine wpHold_one (i:=24) rfl (by kernel_rfl) (by rfl) (fun K hK=>?_)
    refine appM_wp w3c _ _ rfl w.heap.size (.slice u k cu) ks ft u1 l1 u2 u3 l2 u4 w3b.heap.size rfl rfl H3c.out.1 (HR.out.2.1.grown G3.out.2.2.1) (by have:=HT.out.2.2.2.2.2.2.2;omega) G3.out.1.size ?_
    intro g cg w3d ht9 hg9 hgg hgl
    rw [HT.out.2.2.2.2.2.2.2] at ht9 ⊢
    have G4:Hid (w.grownBy w3d none/\Blk w3d db 77 #[.int .i64 q.1,.int .i64 q.2,.slice u k cu]/\NmsO w3d w.heap.size (.slice (some ⟨g,0,none⟩) (k+1) cg) (ks ++ [(ft,.slice u1 l1 u2,.slice u3 l2 u4)])/\NOwn w3d w.heap.size (ks ++ [(ft,.slice u1 l1 u2,.slice u3 l2 u4)]) (l.take (k+1))):=by
     have hN:=HR.out.2.1.grown G3.out.2.2.1
     have hoff:∀(y:Value) (L:Bs),Disk.Own w3c w.heap.size y L->Disk.Own w3d w.heap.size y L:=fun y L hy=>hy.same fun j hj=>hg9.block j (hy.lt j hj).2 (fun e=>nmsO_apart hN hy hj e.symm)
     refine ⟨grown_new G3.out.1 hg9 (fun x hx=>(hN.lt x hx).1),G3.out.2.1.grown hg9 (hN.other G3.out.2.1 (by decide)),ht9,?_⟩
     rw [HT.out.2.2.1]
     have h7:=HR.out.2.2.1.grown G3.out.2.2.1
     exact NOwn.snoc ⟨h7.1,fun j a b=>⟨(h7.2 j a b).1,hoff _ _ (h7.2 j a b).2.1,hoff _ _ (h7.2 j a b).2.2⟩⟩ (hoff _ _ G3.out.2.2.2.1) (hoff _ _ G3.out.2.2.2.2)
    clear ht9 hg9 hgg hgl G3 H3c
    refine hK.out _ _ (fun _=>⟨G4.out.1,G4.out.2.1⟩) ?_
    clear hK K
    try simp only [pN]
    have J:Idx [25,26]:=trivial
    iterate 2 (refine tK J (⟨G4.out.1,G4.out.2.1⟩) rfl rfl (fun wk hk=>by obtain ⟨m0,m1,m2⟩:=HC.out wk hk.1;have m3:=hk.2.cell 2;simp at m3;go_simp;try rfl) ?_;replace J:=J.tl;try simp only [pN])
    clear J
    refine wpHold_one (i:=27) rfl (by kernel_rfl) (by rfl) (fun K hK=>?_)
    have f2:=G4.out.2.1.free 2
    have b2:=G4.out.2.1.cell 2
    simp at b2
    go_wp2_with fail
    have G5:Hid (Blk (w3d.setCell ⟨db,2,none⟩ (.slice (some ⟨g,0,none⟩) (k+1) cg)) db 77 #[.int .i64 q.1,.int .i64 q.2,.slice (some ⟨g,0,none⟩) (k+1) cg]/\NmsO (w3d.setCell ⟨db,2,none⟩ (.slice (some ⟨g,0,none⟩) (k+1) cg)) w.heap.size (.slice (some ⟨g,0,none⟩) (k+1) cg) (ks ++ [(ft,.slice u1 l1 u2,.slice u3 l2 u4)])/\NOwn (w3d.setCell ⟨db,2,none⟩ (.slice (some ⟨g,0,none⟩) (k+1) cg)) w.heap.size (ks ++ [(ft,.slice u1 l1 u2,.slice u3 l2 u4)]) (l.take (k+1))/\w.grownBy (w3d.setCell ⟨db,2,none⟩ (.slice (some ⟨g,0,none⟩) (k+1) cg)) none):=by
     have hg:=grown_setCell w3d db 2 (.slice (some ⟨g,0,none⟩) (k+1) cg)
     refine ⟨G4.out.2.1.store 2 _,G4.out.2.2.1.same fun j hj=>heap_setCell_other _ _ _ _ (fun e=>G4.out.2.2.1.other G4.out.2.1 (by decide) (by have e':j=db:=e;rw [<-e'];exact hj)),G4.out.2.2.2.same fun j y L hy hj=>heap_setCell_other _ _ _ _ (fun e=>hy.other G4.out.2.1 (by decide) (by have e':j=db:=e;rw [<-e'];exact hj)),grown_new G4.out.1 hg (fun x hx=>by simp at hx;have:=HD.out;omega)⟩
    generalize w3d.setCell ⟨db,2,none⟩ (.slice (some ⟨g,0,none⟩) (k+1) cg)=w3e at G5 ⊢
    clear f2 b2 G4
    refine hK.out _ _ (fun h=>absurd rfl h) ?_
    clear hK K
    try simp only [pN]
    refine wpHold_done (by kernel_rfl) ?_
    refine (‹∀(a:Act) (w:World),Code.wp Tryz.prog _ _ a w->_› _ _ ?_)
    go_wp2_with fail
    go_roundw
    case rel=>exact ⟨k+1,some ⟨g,0,none⟩,cg,_,by go_num,by omega,G5.out⟩
    case measure =>
     simp [intOf]
     omega
   ·obtain rfl:k=n1:=by omega
    have i1:¬((k:Int)<(k:Int)):=by omega
    go_wp2_with fail
    go_ret
    have hX:=HN.out.2.2
    have h3:=HR.out.2.2.1
    rw [<-HN.out.1,List.take_length] at h3
    refine ⟨HR.out.2.2.2,.inl ⟨H2.out.2.1,db,rfl,HD.out,_,HR.out.1,ks,HR.out.2.1.mono (Nat.zero_le _),h3.mono (Nat.zero_le _),fun g hg hx=>?_,fun p hp=>?_⟩⟩
    ·have:=(HR.out.2.1.lt g hg).1
     have:=hX g hx
     omega
    ·obtain ⟨j,hj,rfl⟩:=List.getElem_of_mem hp
     have hj2:j<l.length:=by rw [<-h3.1];exact hj
     exact ⟨off_new hX (h3.2 j hj hj2).2.1 (Nat.le_refl _),off_new hX (h3.2 j hj hj2).2.2 (Nat.le_refl _)⟩
theorem rcheck33 (v:Value)(l:List POp)(w:World)(hv:Ops w v l):Calls Tryz.prog 33 #[.agg #[v]] w fun e w'=>e=.returned (.int .i64 (chk l))/\w.grownBy w' none:=by
 obtain ⟨ao,n,cap,rfl,hn,hn2,HV⟩:=ops_open hv
 clear hv hn hn2
 go_enter Tryz.func33,Tryz.ntmps33
 obtain ⟨w1,hw1,H1⟩:=al w #[.slice ao n cap] 37
 have k0:=H1.out.1.cell 0
 simp at k0
 go_upto_region 1 with fail
 try rw [hw1]
 clear hw1
 go_wp2_with fail
 refine (Calls.check12 (.slice ao n cap) l w1 (HV.out.grown H1.out.2.1)).mono ?_
 rintro e w2 ⟨rfl,g2⟩
 have G2:Hid (w.grownBy w2 none):=grown_trans H1.out.2.1 g2
 clear g2 k0
 go_wp2_with fail
 go_ret
 exact ⟨rfl,G2.out⟩
theorem tables40 {X:Nat->Prop}(b m:Nat)(q:Int × Int)(D:DB)(hD:GoodD D)(w:World)(hb:EngB w b q m)(hm:EM X w m D):Calls Tryz.prog 40 #[.pointer (some ⟨b,0,none⟩)] w fun e w'=>∃v,e=.returned v/\Nos w' w.heap.size v (namesD D)/\w.grownBy w' none:=by
 obtain ⟨E,hE,hEn,hET⟩:=hm
 have hlen:E.length<=1000000:=ents_few hD hE hEn
 have HE:Hid (EngB w b q m/\MapAt w m E/\RiseD D/\(∀n,n ∈ E.map (·.1)<->n ∈ namesD D)/\E.length<=1000000):=⟨hb,hE,hD.rise,hEn,hlen⟩
 clear hD hb hE hEn hET hlen
 go_enter Tryz.func40,Tryz.ntmps40
 go_wp2_with (go_at_call 42;refine (byName42 b m q w HE.out.1).mono ?_;rintro e w2 ⟨rfl,hw⟩;rw [hw];clear hw)
 refine (keys55 (some m) w).mono ?_
 rintro e w2 ⟨rfl,hk,g2⟩
 have H2:Hid (Blk w2 w.heap.size 62 #[.map (some m)]/\w.grownBy w2 none):=⟨hk,g2⟩
 clear hk g2
 go_wp2_with fail
 refine (sorted54 w.heap.size m E D HE.out.2.2.1 HE.out.2.2.2.1 w2 H2.out.1 (HE.out.2.1.grown H2.out.2 (by simp)) HE.out.2.2.2.2).mono ?_
 rintro e w3 ⟨v3,rfl,hN,g3⟩
 have H3:Hid (Nos w3 w.heap.size v3 (namesD D)/\w.grownBy w3 none):=⟨hN.mono H2.out.2.size,grown_trans H2.out.2 g3⟩
 clear hN g3
 go_wp2_with fail
 go_ret
 exact ⟨_,rfl,H3.out⟩
end Go.Proofs.YtakmlhhapegpoaaGreat
