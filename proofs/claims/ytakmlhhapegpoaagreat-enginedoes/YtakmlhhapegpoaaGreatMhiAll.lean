import Derived.Test.YtakmlhhapegpoaaGreatMfgAll
set_option maxHeartbeats 4000000
set_option maxRecDepth 100000
namespace Go.Proofs.YtakmlhhapegpoaaGreat
open Go.RowKit Disk Table
open Names (Str cmpL keyB valueB tabB)
theorem less_cmp:∀(a b:Bs),Op.bytesLess a b=decide (cmpL a b<0)
 | [],[]=>by simp [Op.bytesLess,cmpL]
 | [],_ :: _=>by simp [Op.bytesLess,cmpL]
 | _ :: _,[]=>by simp [Op.bytesLess,cmpL]
 | a :: x,b :: y=>by
  unfold Op.bytesLess cmpL
  have ih:=less_cmp x y
  by_cases h1:a.toNat<b.toNat
  ·have:a<b:=UInt8.lt_iff_toNat_lt.2 h1
   simp [h1,this]
  ·by_cases h2:b.toNat<a.toNat
   ·have n1:¬a<b:=fun h=>h1 (UInt8.lt_iff_toNat_lt.1 h)
    have n2:a≠b:=fun h=>by rw [h] at h2;omega
    simp [h1,h2,n1,n2]
   ·have e:a=b:=UInt8.toNat_inj.1 (by omega)
    subst e
    simp [ih]
theorem run_leq9 (a b:Bs)(w:World):(binOp .leq 9 (Str a) (Str b)).run Tryz.prog w=.ok (.bool (decide (¬cmpL b a<0))) w:=by
 have h:binOp .leq 9 (Str a) (Str b)=pure (.bool (Op.bytesLess a b || (a==b))):=by simp [Str,binOp,Op.stringOp]
 rw [h]
 have e:(Op.bytesLess a b || (a==b))=decide (¬cmpL b a<0):=by
  rw [less_cmp]
  have hf:=Names.cmp_flip a b
  rcases Names.cmp_range a b with h | h | h
  ·have:¬cmpL b a<0:=by omega
   simp [h,this]
  ·have:a=b:=Names.cmp_zero h
   subst this
   simp [h]
  ·have h1:cmpL b a<0:=by omega
   have h2:a≠b:=fun e=>by rw [e,Names.cmp_self] at h;omega
   simp [h,h1,h2]
 rw [e]
 rfl
theorem front_pos (r:NRow)(l:List NRow):1<=(front (r :: l)).length:=by simp [front]
theorem front_le (l:List NRow):(front l).length<=l.length:=by
 cases l with
 | nil=>simp [front]
 | cons r l=>exact (List.takeWhile_sublist _).length_le
open Classical in
noncomputable def newD (D:DB) (last:Bs):List NRow->Option DB
 | []=>some D
 | r :: l=>if Table.Good (frontR (r :: l))/\tabB r.1=true/\cmpL last r.1<0 then newD (standD D r.1 (frontR (r :: l))) r.1 ((r :: l).drop (front (r :: l)).length) else none
termination_by l=>l.length
decreasing_by
 have h1:=front_pos r l
 rw [List.length_drop]
 simp only [List.length_cons]
 omega
theorem set_mem {D:DB}{n:Bs}{r:List PRow}{x:Bs × List PRow}(h:x ∈ setD D n r):x=(n,r)\/x ∈ D:=by
 induction D with
 | nil=>simp [setD] at h;exact .inl h
 | cons y D ih =>
  unfold setD at h
  split at h
  ·rcases List.mem_cons.1 h with h | h
   ·exact .inl h
   ·exact .inr (by simp [h])
  ·split at h
   ·rcases List.mem_cons.1 h with h | h
    ·exact .inl h
    ·exact .inr h
   ·rcases List.mem_cons.1 h with h | h
    ·exact .inr (by simp [h])
    ·rcases ih h with h | h
     ·exact .inl h
     ·exact .inr (by simp [h])
theorem stand_mem {D:DB}{n:Bs}{r:List PRow}{x:Bs × List PRow}(h:x ∈ standD D n r):(x=(n,r)/\r.length≠0)\/x ∈ D:=by
 unfold standD at h
 split at h
 ·exact .inr (List.mem_filter.1 h).1
 ·rename_i hr
  rcases set_mem h with h | h
  ·exact .inl ⟨h,hr⟩
  ·exact .inr h
theorem len_set (D:DB)(n:Bs)(r:List PRow):lenD (setD D n r)<=lenD D+r.length:=by
 induction D with
 | nil=>simp [setD,lenD]
 | cons y D ih =>
  unfold setD
  split
  ·simp [lenD];omega
  ·split
   ·simp [lenD];omega
   ·simp only [lenD,List.map_cons,List.sum_cons] at ih ⊢
    omega
theorem len_del (D:DB)(n:Bs):lenD (delD D n)<=lenD D:=by
 induction D with
 | nil=>simp [delD,lenD]
 | cons y D ih =>
  unfold delD at ih ⊢
  rw [List.filter_cons]
  split
  ·simp only [lenD,List.map_cons,List.sum_cons] at ih ⊢
   omega
  ·simp only [lenD,List.map_cons,List.sum_cons] at ih ⊢
   omega
theorem len_stand (D:DB)(n:Bs)(r:List PRow):lenD (standD D n r)<=lenD D+r.length:=by
 unfold standD
 split
 ·have:=len_del D n
  omega
 ·exact len_set D n r
theorem GoodD.stand {D:DB}(h:GoodD D)(n:Bs){r:List PRow}(hr:Table.Good r)(hl:lenD D+r.length<=1000000):GoodD (standD D n r):=by
 refine ⟨rise_standD h.rise n r,fun x hx=>?_,fun x hx=>?_,Nat.le_trans (len_stand D n r) hl⟩
 ·rcases stand_mem hx with ⟨rfl,h1⟩ | hx
  ·intro e
   simp only at e
   rw [e] at h1
   exact h1 rfl
  ·exact h.some x hx
 ·rcases stand_mem hx with ⟨rfl,_⟩ | hx
  ·exact hr
  ·exact h.good x hx
theorem good_nil:GoodD []:=⟨List.Pairwise.nil,by simp,by simp,by simp [lenD]⟩
def NewE (X:Nat->Prop)(q:Int × Int)(l:List NRow)(w:World)(e:Ending)(w':World):Prop :=
 w.grownBy w' none/\((mayQ q=true/\∃D b,newD [] [] l=some D/\GoodD D/\aboveD q D=0/\e=.returned (.tuple #[ptr b,.int .i64 0])/\w.heap.size<=b/\Eng X w' b q D) ∨
  (mayQ q=true/\∃D,newD [] [] l=some D/\aboveD q D≠0/\e=.returned (.tuple #[.pointer none,.int .i64 7])) ∨
  ((mayQ q=false\/newD [] [] l=none)/\e=.returned (.tuple #[.pointer none,.int .i64 2])))
def sliN:Value->Nat
 | .slice _ n _=>n
 | _=>0
theorem sliced_open (ao:Option Addr)(lo n cap s:Nat):∃a c,sliced ao lo n cap s=.slice a (n-lo) c:=by
 unfold sliced
 split <;> exact ⟨_,_,rfl⟩
theorem tab_len {n:Bs}(h:tabB n=true):n.length<=1000000:=by
 unfold tabB at h
 simp only [Bool.and_eq_true,decide_eq_true_eq] at h
 have:=h.1.2
 omega
theorem new15g {X:Nat->Prop}(q:Int × Int)(v:Value)(l:List NRow)(hz:l.length<=1000000)(hT:∀r ∈ l,r.1.length<=9223372036854775807)(w:World)(hX:∀g,X g->g<w.heap.size)(hv:Nms w v l):Calls Tryz.prog 15 #[quoV q,v] w (NewE X q l w):=by
 obtain ⟨ao,n,cap,rfl,hn,h1,h2,HV⟩:=nms_open hv
 have HN:Hid (l.length=n/\l.length<=1000000/\(∀g,X g->g<w.heap.size)/\∀r ∈ l,r.1.length<=9223372036854775807):=⟨hn,hz,hX,hT⟩
 obtain ⟨R,hR⟩:∃R,newD [] [] l=R:=⟨_,rfl⟩
 have HR0:Hid (newD [] [] l=R):=hR
 clear hv hn hz hR hX hT
 unfold quoV
 go_enter Tryz.func15,Tryz.ntmps15
 go_wp2_with fail
 obtain ⟨w1,hw1,H1⟩:=al w #[.int .i64 q.1,.int .i64 q.2] 23
 rw [hw1]
 clear hw1
 have k0:=H1.out.1.cell 0
 have k1:=H1.out.1.cell 1
 simp at k0 k1
 go_wp2_with fail
 refine (quotaMayBe44 q w1).mono ?_
 cases hm:mayQ q
 ·have HM:Hid (mayQ q=false):=hm
  clear hm
  rintro e w2 ⟨rfl,g2⟩
  have G2:Hid (w.grownBy w2 none):=grown_trans H1.out.2.1 g2
  clear g2
  go_wp2_with fail
  go_ret2
  exact ⟨G2.out,.inr (.inr ⟨.inl HM.out,rfl⟩)⟩
 ·have HM:Hid (mayQ q=true):=hm
  clear hm
  rintro e w2 ⟨rfl,g2⟩
  have G2:Hid (w.grownBy w2 none):=grown_trans H1.out.2.1 g2
  replace k0:=g2.cell k0 (by simp)
  replace k1:=g2.cell k1 (by simp)
  clear g2
  have hmm:=run_made
  go_wp2_with fail
  obtain ⟨w4,hw4,H4⟩:=al (w2.alloc (.map #[] 0)) #[.int .i64 q.1,.int .i64 q.2,.map (some w2.heap.size)] 64
  rw [hw4]
  clear hw4
  have hsz:(w2.alloc (.map #[] 0)).heap.size=w2.heap.size+1:=by simp
  have HE:Hid (EngB w4 (w2.heap.size+1) q w2.heap.size/\EM X w4 w2.heap.size []/\w.grownBy w4 none):=⟨by have:=H4.out.1;rw [hsz] at this;exact this,(em_made X w2).grown H4.out.2.1,grown_trans G2.out (grown_trans (World.grownBy_alloc _ _ _) H4.out.2.1)⟩
  have hwz:w.heap.size<=w2.heap.size:=G2.out.size
  obtain ⟨eb,heb⟩:∃eb,w2.heap.size+1=eb:=⟨_,rfl⟩
  obtain ⟨mb,hmb⟩:∃mb,w2.heap.size=mb:=⟨_,rfl⟩
  have HZ:Hid (w.heap.size<=mb/\w.heap.size<=eb):=⟨by omega,by omega⟩
  rw [heb,hmb] at HE
  rw [heb]
  clear H4 hsz k0 k1 hwz heb hmb hmm G2 H1
  go_loopw [1,7] (fun u t wr=>∃(D:DB) (last:Bs) (rest:List NRow) (a:Option Addr) (m c:Nat),u=.slice a m c/\t=Str last/\m<=1000000/\Hid (newD D last rest=R/\EngB wr eb q mb/\EM X wr mb D/\GoodD D/\w.grownBy wr none/\rest.length+lenD D<=1000000/\Nms w (.slice a m c) rest/\rest.length=m/\∀r ∈ rest,r.1.length<=9223372036854775807)) (fun u _ _=>sliN u)
  case atStart=>exact ⟨[],[],l,ao,n,cap,rfl,rfl,by have:=HN.out;omega,HR0.out,HE.out.1,HE.out.2.1,good_nil,HE.out.2.2,by simpa [lenD] using HN.out.2.1,HV.out,HN.out.1,HN.out.2.2.2⟩
  case round =>
   obtain ⟨D,last,rest,a,m,c,rfl,rfl,hm6,HR⟩:=hrel
   by_cases hm0:m=0
   ·subst hm0
    have hrn:rest=[]:=List.eq_nil_of_length_eq_zero HR.out.2.2.2.2.2.2.2.1
    subst hrn
    have HD:Hid (R=some D):=by have:=HR.out.1;unfold newD at this;exact this.symm
    have HA:Hid (Calls Tryz.prog 49 #[.pointer (some ⟨eb,0,none⟩)] wr fun e w'=>e=.returned (.int .i64 (aboveD q D))/\wr.grownBy w' none):=above49 eb q D HR.out.2.2.2.1 wr ⟨mb,HR.out.2.1,HR.out.2.2.1⟩
    by_cases ha:aboveD q D=0
    ·rw [ha] at HA
     have HA0:Hid (aboveD q D=0):=ha
     clear ha
     go_wp2_with fail
     refine HA.out.mono ?_
     rintro e w5 ⟨rfl,g5⟩
     have G5:Hid (wr.grownBy w5 none):=g5
     clear g5
     go_wp2_with fail
     go_ret2
     refine ⟨grown_trans HR.out.2.2.2.2.1 G5.out,.inl ⟨HM.out,D,eb,?_,HR.out.2.2.2.1,HA0.out,rfl,HZ.out.2,?_⟩⟩
     ·rw [HR0.out,HD.out]
     ·exact ⟨mb,Blk.grown HR.out.2.1 G5.out (by simp),HR.out.2.2.1.grown G5.out⟩
    ·obtain ⟨A,hA⟩:∃A,aboveD q D=A:=⟨_,rfl⟩
     rw [hA] at HA ha
     have HA0:Hid (aboveD q D=A/\A≠0):=⟨hA,ha⟩
     have a0:(A==0)=false:=by simpa using ha
     have a1:(A=0)=False:=by simpa using ha
     clear ha hA
     go_wp2_with fail
     refine HA.out.mono ?_
     rintro e w5 ⟨rfl,g5⟩
     have G5:Hid (wr.grownBy w5 none):=g5
     clear g5
     go_wp2_with fail
     go_ret2
     exact ⟨grown_trans HR.out.2.2.2.2.1 G5.out,.inr (.inl ⟨HM.out,D,by rw [HR0.out,HD.out],by rw [HA0.out.1];exact HA0.out.2,rfl⟩)⟩
   ·obtain ⟨r0,rt,hrest⟩:∃r t,rest=r :: t:=by
     cases rest with
     | nil=>exact absurd HR.out.2.2.2.2.2.2.2.1.symm hm0
     | cons r t=>exact ⟨r,t,rfl⟩
    subst hrest
    obtain ⟨b1,o1,x0,y0,rfl,t0,z1,z2,z3,z4⟩:=nms_at HR.out.2.2.2.2.2.2.1 0 (by simp)
    clear z1 z2 z3 z4
    obtain ⟨T0,hT0⟩:∃t,r0.1=t:=⟨_,rfl⟩
    simp only [List.getElem_cons_zero] at t0
    rw [hT0] at t0
    have HT:Hid (r0.1=T0/\T0.length<=9223372036854775807):=⟨hT0,by rw [<-hT0];exact HR.out.2.2.2.2.2.2.2.2 r0 (by simp)⟩
    have HC:Hid (∀y,w.grownBy y none->y.cell? ⟨b1,o1,none⟩=some (Str T0)):=fun y hy=>hy.cell (by simpa using t0) (by simp)
    obtain ⟨rest,hrest⟩:∃rest,r0 :: rt=rest:=⟨_,rfl⟩
    have HRT:Hid (r0 :: rt=rest):=hrest
    rw [hrest] at HR
    have hm1:m<=1000000:=hm6
    have i2:(0:Int)<(m:Int):=by omega
    have i3:((0:Int)<(m:Int))=True:=by simp;omega
    have i4:(0<m)=True:=by simp;omega
    have i5:(m=0)=False:=by simp;omega
    clear t0 hT0 hm0 hrest
    go_wp2_with fail
    refine wp_region_noPanic ?_
    refine wp_region_hold 1000 (fun y=>w.grownBy y none) (by kernel_rfl) ?_
    have G0:Hid (wr.grownBy wr.drew none):=grown_drew _ _
    generalize wr.drew=wd at G0 ⊢
    have J:Idx [0,1,2,3,4]:=trivial
    iterate 5 (refine tK J ((grown_trans HR.out.2.2.2.2.1 G0.out)) rfl rfl (fun wk hk=>by have m0:=HC.out wk hk;go_simp;try rfl) ?_;replace J:=J.tl;try simp only [pN])
    clear J
    refine wpHold_one (i:=5) rfl (by kernel_rfl) (by rfl) (fun K hK=>?_)
    go_wp2_with (go_at_call 45;refine (firstTable45 _ rest (by have:=HR.out.2.2.2.2.2.1;omega) wd (HR.out.2.2.2.2.2.2.1.grown (grown_trans HR.out.2.2.2.2.1 G0.out))).mono ?_)
    rintro e w5 ⟨u5,rfl,hf5,g5⟩
    have F5:Hid (Rws w5 u5 (frontR rest)/\wr.grownBy w5 none):=⟨hf5.rws g5,grown_trans G0.out g5⟩
    clear hf5 g5
    go_wp2_with fail
    refine hK.out _ _ (fun _=>grown_trans HR.out.2.2.2.2.1 F5.out.2) ?_
    clear hK K
    try simp only [pN]
    have J:Idx [6,7]:=trivial
    iterate 2 (refine tK J ((grown_trans HR.out.2.2.2.2.1 F5.out.2)) rfl rfl (fun wk hk=>by have m0:=HC.out wk hk;go_simp;try rfl) ?_;replace J:=J.tl;try simp only [pN])
    clear J
    refine wpHold_done (by kernel_rfl) ?_
    refine (‹∀(a:Act) (w:World),Code.wp Tryz.prog _ _ a w->_› _ _ ?_)
    have hfl:(frontR rest).length<=rest.length:=by unfold frontR;rw [List.length_map];exact front_le rest
    have HFL:Hid ((frontR rest).length<=rest.length):=hfl
    clear hfl
    go_wp2_with fail
    refine (new22z (X:=X) u5 (frontR rest) (by have:=HFL.out;have:=HR.out.2.2.2.2.2.1;omega) w5 (fun g hg=>by have:=HN.out.2.2.1 g hg;have:=(grown_trans HR.out.2.2.2.2.1 F5.out.2).size;omega) F5.out.1).mono ?_
    rintro e w6 (⟨hgood,p,rfl,hp,ht6,g6⟩ | ⟨hgood,rfl,g6⟩)
    ·have H6:Hid (Table.Good (frontR rest)/\Tbz X w6 p (frontR rest)/\wr.grownBy w6 none):=⟨hgood,ht6,grown_trans F5.out.2 g6⟩
     have HLE:=run_leq9 T0 last
     clear hgood ht6 g6 hp
     cases htab:tabB T0
     ·have HTB:Hid (tabB T0=false):=htab
      clear htab
      go_wp2_with (go_at_call 47;refine (Names.table9 T0 w6 (by have:=HT.out.2;omega)).mono ?_;rw [HTB.out];rintro e w7 ⟨rfl,hw⟩;rw [hw];clear hw)
      go_ret2
      refine ⟨grown_trans HR.out.2.2.2.2.1 H6.out.2.2,.inr (.inr ⟨.inr ?_,rfl⟩)⟩
      rw [HR0.out,<-HR.out.1,<-HRT.out]
      unfold newD
      rw [if_neg]
      rintro ⟨_,h,_⟩
      rw [HT.out.1,HTB.out] at h
      cases h
     ·have HTB:Hid (tabB T0=true):=htab
      clear htab
      by_cases hcl:cmpL last T0<0
      ·have HCL:Hid (cmpL last T0<0):=hcl
       have HLE:∀w,(binOp .leq 9 (Str T0) (Str last)).run Tryz.prog w=.ok (.bool false) w:=fun w=>by rw [run_leq9,decide_eq_false (by simpa using hcl)]
       clear hcl
       go_wp2_with (go_at_call 47;refine (Names.table9 T0 w6 (by have:=HT.out.2;omega)).mono ?_;rw [HTB.out];rintro e w7 ⟨rfl,hw⟩;rw [hw];clear hw)
       refine (stand48 eb mb q D HR.out.2.2.2.1.rise T0 (tab_len HTB.out) (.pointer (some ⟨p,0,none⟩)) true (frontR rest) w6 (Blk.grown HR.out.2.1 H6.out.2.2 (by simp)) (HR.out.2.2.1.grown H6.out.2.2) H6.out.2.1.old.tl (fun _=>⟨p,rfl,H6.out.2.1⟩)).mono ?_
       rintro e w7 ⟨rfl,hem,g7⟩
       have H7:Hid (EngB w7 eb q mb/\EM X w7 mb (standD D T0 (frontR rest))/\w.grownBy w7 none):=⟨Blk.grown (Blk.grown HR.out.2.1 H6.out.2.2 (by simp)) g7 (by intro e;simp at e;subst e;exact Blk.notMap (Blk.grown HR.out.2.1 H6.out.2.2 (by simp)) (HR.out.2.2.1.grown H6.out.2.2).choose_spec.1),hem,grown_new (grown_trans HR.out.2.2.2.2.1 H6.out.2.2) g7 (fun x hx=>by simp at hx;have:=HZ.out.1;omega)⟩
       clear hem g7
       obtain ⟨a5,n5,c5,hu5,hn5,_,_,_⟩:=rws_open F5.out.1
       subst hu5
       have hn5':n5<=m:=by have:=HFL.out;have:=HR.out.2.2.2.2.2.2.2.1;omega
       have hsl:∀wk,(Instr.slice 24 (.slice (some ⟨b1,o1,none⟩) m c) (some (.int .i64 (n5:Int))) none none).run Tryz.prog wk=.ok (sliced (some ⟨b1,o1,none⟩) n5 m c 3) wk:=fun wk=>run_rest 24 3 Tryz.ut24 Tryz.size24 _ m c n5 hn5' wk
       have hrs:=nms_rest HR.out.2.2.2.2.2.2.1 HR.out.2.2.2.2.2.2.2.1 n5 hn5'
       obtain ⟨a8,c8,h8⟩:=sliced_open (some ⟨b1,o1,none⟩) n5 m c 3
       rw [h8] at hsl hrs
       have H8:Hid (Nms w (.slice a8 (m-n5) c8) (rest.drop n5)/\(frontR rest).length=n5):=⟨hrs,hn5⟩
       clear hrs h8 hn5
       go_wp2_with fail
       go_quiet (fail)
       have G9:Hid (w7.grownBy (w7.drewN nq) none):=grown_drewN _ _ _
       generalize w7.drewN nq=w9 at G9 ⊢
       go_wp2_with fail
       have hfn:(front rest).length=n5:=by rw [<-H8.out.2];unfold frontR;rw [List.length_map]
       have hf1:1<=n5:=by rw [<-hfn,<-HRT.out];exact front_pos r0 rt
       have hrd:(rest.drop n5).length=m-n5:=by rw [List.length_drop,HR.out.2.2.2.2.2.2.2.1]
       go_roundw
       case rel =>
        refine ⟨standD D T0 (frontR rest),T0,rest.drop n5,a8,m-n5,c8,rfl,rfl,by omega,?_,Blk.grown H7.out.1 G9.out (by simp),H7.out.2.1.grown G9.out,HR.out.2.2.2.1.stand T0 H6.out.1 ?_,grown_trans H7.out.2.2 G9.out,?_,H8.out.1,hrd,fun r hr=>HR.out.2.2.2.2.2.2.2.2 r (List.mem_of_mem_drop hr)⟩
        ·have hnew:=HR.out.1
         rw [<-hnew,<-HRT.out]
         conv=>rhs;unfold newD
         rw [HT.out.1,if_pos ⟨by rw [HRT.out];exact H6.out.1,HTB.out,HCL.out⟩,HRT.out,hfn]
        ·have:=HR.out.2.2.2.2.2.1
         have:=HFL.out
         omega
        ·have:=HR.out.2.2.2.2.2.1
         have:=len_stand D T0 (frontR rest)
         have:=H8.out.2
         have:=HR.out.2.2.2.2.2.2.2.1
         omega
       case measure=>simp only [sliN];omega
      ·have HCL:Hid (¬cmpL last T0<0):=hcl
       have HLE:∀w,(binOp .leq 9 (Str T0) (Str last)).run Tryz.prog w=.ok (.bool true) w:=fun w=>by rw [run_leq9,decide_eq_true (by simpa using hcl)]
       clear hcl
       go_wp2_with (go_at_call 47;refine (Names.table9 T0 w6 (by have:=HT.out.2;omega)).mono ?_;rw [HTB.out];rintro e w7 ⟨rfl,hw⟩;rw [hw];clear hw)
       go_ret2
       refine ⟨grown_trans HR.out.2.2.2.2.1 H6.out.2.2,.inr (.inr ⟨.inr ?_,rfl⟩)⟩
       rw [HR0.out,<-HR.out.1,<-HRT.out]
       unfold newD
       rw [if_neg]
       rintro ⟨_,_,h⟩
       rw [HT.out.1] at h
       have:=HCL.out
       omega
    ·have H6:Hid (¬Table.Good (frontR rest)/\wr.grownBy w6 none):=⟨hgood,grown_trans F5.out.2 g6⟩
     clear hgood g6
     go_wp2_with fail
     go_ret2
     refine ⟨grown_trans HR.out.2.2.2.2.1 H6.out.2,.inr (.inr ⟨.inr ?_,rfl⟩)⟩
     rw [HR0.out,<-HR.out.1,<-HRT.out]
     unfold newD
     rw [if_neg]
     rintro ⟨h,_⟩
     rw [HRT.out] at h
     exact H6.out.1 h
theorem new15 {X:Nat->Prop}(q:Int × Int)(v:Value)(l:List NRow)(hz:l.length<=1000000)(hT:∀r ∈ l,r.1.length<=1000000)(w:World)(hX:∀g,X g->g<w.heap.size)(hv:Nms w v l):Calls Tryz.prog 15 #[quoV q,v] w (NewE X q l w) :=
 new15g q v l hz (fun r hr=>by have:=hT r hr;omega) w hX hv
end Go.Proofs.YtakmlhhapegpoaaGreat
