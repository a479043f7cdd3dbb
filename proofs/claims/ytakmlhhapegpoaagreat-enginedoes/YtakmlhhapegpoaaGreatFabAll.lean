import Derived.Test.YtakmlhhapegpoaaGreatSo
import Derived.Deep.DeepCutAuto
set_option maxHeartbeats 8000000
set_option maxRecDepth 100000
namespace Go.Proofs.YtakmlhhapegpoaaGreat
open Go.RowKit Disk Table
open Names (Str cmpL keyB valueB tabB inB)
open _root_.Go.Proofs.YtakmlhhapegpoaaGreat.Calls (POp POut PRes opV OpSeg mayOp Ops OpAt ops_at ops_open chk rds mayCall)
theorem filter_span {l:List PRow}(hr:Rise l)(F T:Bs):l.filter (fun r=>inB r.1 F T)=(l.drop (rankL l F)).take (spanE l F T-rankL l F):=by
 have h1:=rank_le l F
 have h2:=span_ge l F T
 have h3:=span_le l F T
 obtain ⟨r,hrk⟩:∃r,rankL l F=r:=⟨_,rfl⟩
 obtain ⟨e,hsp⟩:∃e,spanE l F T=e:=⟨_,rfl⟩
 rw [hrk] at h1 h2 ⊢
 rw [hsp] at h2 h3 ⊢
 have el:l=l.take r ++ ((l.drop r).take (e-r) ++ l.drop e):=by
  have:l.drop e=(l.drop r).drop (e-r):=by rw [List.drop_drop];congr 1;omega
  rw [this,List.take_append_drop,List.take_append_drop]
 have f1:(l.take r).filter (fun r=>inB r.1 F T)=[]:=by
  rw [List.filter_eq_nil_iff]
  intro x hx
  obtain ⟨i,hi,rfl⟩:=List.mem_iff_getElem.1 hx
  simp at hi
  have:=rank_lt (l:=l) (key:=F) (i:=i) (by omega) (by omega)
  simp only [List.getElem_take]
  simp [inB]
  omega
 have f2:((l.drop r).take (e-r)).filter (fun r=>inB r.1 F T)=(l.drop r).take (e-r):=by
  rw [List.filter_eq_self]
  intro x hx
  obtain ⟨i,hi,rfl⟩:=List.mem_iff_getElem.1 hx
  simp at hi
  simp only [List.getElem_take,List.getElem_drop]
  have g1:¬cmpL l[r+i].1 F<0:=fun h=>by
   have:=rise_below (key:=F) hr (i:=r) (j:=r+i) (by omega) (by omega) (by omega) h
   have h':=rank_ge (l:=l) (key:=F) (by omega)
   simp only [hrk] at h'
   exact h' this
  have g2:T.length=0\/cmpL l[r+i].1 T<0:=by
   by_cases ht:T.length=0
   ·exact .inl ht
   ·refine .inr (rank_lt (l:=l) (key:=T) (i:=r+i) ?_ (by omega))
    unfold spanE at hsp
    rw [if_neg ht,hrk] at hsp
    omega
  simp only [inB,Bool.and_eq_true,Bool.or_eq_true,decide_eq_true_eq]
  exact ⟨by omega,g2⟩
 have f3:(l.drop e).filter (fun r=>inB r.1 F T)=[]:=by
  rw [List.filter_eq_nil_iff]
  intro x hx
  obtain ⟨i,hi,rfl⟩:=List.mem_iff_getElem.1 hx
  simp at hi
  simp only [List.getElem_drop]
  have ht:¬T.length=0:=fun ht=>by
   unfold spanE at hsp
   rw [if_pos ht] at hsp
   omega
  have g1:¬cmpL l[e+i].1 T<0:=fun h=>by
   unfold spanE at hsp
   rw [if_neg ht,hrk] at hsp
   have hlt:rankL l T<l.length:=by omega
   have:=rise_below (key:=T) hr (i:=rankL l T) (j:=e+i) (by omega) (by omega) (by omega) h
   exact rank_ge hlt this
  simp only [inB,Bool.and_eq_true,Bool.or_eq_true,decide_eq_true_eq,not_and,not_or]
  exact fun _=>⟨ht,g1⟩
 conv=>lhs;rw [el]
 rw [List.filter_append,List.filter_append,f1,f2,f3]
 simp
theorem scan_filter {l:List PRow}(hr:Rise l)(F T:Bs)(most:Int):(l.filter (fun r=>inB r.1 F T)).take most.toNat=scanL l F T most:=by
 rw [filter_span hr,List.take_take]
 rfl
def cmpR (a b:NRow):Int:=if cmpL a.1 b.1<0 then -1 else if cmpL b.1 a.1<0 then 1 else cmpL a.2.1 b.2.1
def upR (F:List NRow)(x:NRow):Nat:=(F.takeWhile (fun y=>decide (cmpR y x<0))).length
def isR (F:List NRow)(x:NRow):Bool:=(F[upR F x]?).any fun y=>decide (cmpR y x=0)
def putF (F:List NRow)(x:NRow):List NRow:=F.take (upR F x) ++ [x] ++ F.drop (upR F x+(if isR F x=true then 1 else 0))
def delF (F:List NRow)(x:NRow):List NRow:=if isR F x=true then F.take (upR F x) ++ F.drop (upR F x+1) else F
def nm (t:Bs)(l:List PRow):List NRow:=l.map (fun r=>(t,r))
theorem up_le (F:List NRow)(x:NRow):upR F x<=F.length:=(List.takeWhile_sublist _).length_le
theorem flat_split {D:DB}(h:RiseD D)(t:Bs):∃A C,(∀x ∈ A,cmpL x.1 t<0)/\(∀x ∈ C,cmpL t x.1<0)/\flatD D=A ++ (nm t (rowsOf D t) ++ C)/\∀L,flatD (standD D t L)=A ++ (nm t L ++ C):=by
 induction D with
 | nil =>
  refine ⟨[],[],by simp,by simp,by simp [flatD,nm,rowsOf],fun L=>?_⟩
  unfold standD
  split
  ·rename_i h0
   rw [List.eq_nil_of_length_eq_zero h0]
   simp [delD,flatD,nm]
  ·simp [setD,flatD,nm]
 | cons x D ih =>
  have h':=List.pairwise_cons.1 h
  have hbig:∀{y:NRow},y ∈ flatD D->cmpL x.1 y.1<0:=fun {y} hy=>by
   obtain ⟨z,hz,e⟩:=flat_mem hy
   rw [<-e]
   exact h'.1 z hz
  by_cases hx:x.1=t
  ·subst hx
   have hn:∀y ∈ D,y.1≠x.1:=fun y hy e=>by
    have:=h'.1 y hy
    rw [e,Names.cmp_self] at this
    omega
   refine ⟨[],flatD D,by simp,fun y hy=>hbig hy,?_,fun L=>?_⟩
   ·rw [flat_cons,rows_cons,if_pos rfl]
    rfl
   ·unfold standD
    split
    ·rename_i h0
     rw [List.eq_nil_of_length_eq_zero h0]
     have:delD (x :: D) x.1=D:=by
      unfold delD
      rw [List.filter_cons]
      simp only [ne_eq,not_true,decide_false,Bool.false_eq_true,if_false]
      rw [List.filter_eq_self]
      intro y hy
      simp [hn y hy]
     rw [this]
     rfl
    ·rw [setD,if_pos rfl,flat_cons]
     rfl
  ·by_cases hc:cmpL t x.1<0
   ·have hn:∀y ∈ x :: D,y.1≠t:=fun y hy e=>by
     rcases List.mem_cons.1 hy with rfl | hy
     ·exact hx e
     ·have h1:=h'.1 y hy
      have:=Names.cmp_lt_trans (A:=t) (B:=x.1) (C:=y.1) (by omega) h1
      rw [e,Names.cmp_self] at this
      omega
    have hr:rowsOf (x :: D) t=[]:=rows_none fun hm=>by
     obtain ⟨y,hy,e⟩:=List.mem_map.1 hm
     exact hn y hy e
    refine ⟨[],flatD (x :: D),by simp,fun y hy=>?_,by rw [hr];rfl,fun L=>?_⟩
    ·rw [flat_cons] at hy
     rcases List.mem_append.1 hy with hy | hy
     ·obtain ⟨r,_,rfl⟩:=List.mem_map.1 hy
      exact hc
     ·exact Names.cmp_lt_trans (by omega) (hbig hy)
    ·unfold standD
     split
     ·rename_i h0
      rw [List.eq_nil_of_length_eq_zero h0]
      have:delD (x :: D) t=x :: D:=by
       unfold delD
       rw [List.filter_eq_self]
       intro y hy
       simp [hn y hy]
      rw [this]
      rfl
     ·rw [setD,if_neg hx,if_pos hc,flat_cons (t,L)]
      rfl
   ·have hlt:cmpL x.1 t<0:=Table.cmp_pos hc (fun e=>hx e.symm)
    obtain ⟨A,C,h1,h2,h3,h4⟩:=ih h'.2
    refine ⟨nm x.1 x.2 ++ A,C,fun y hy=>?_,h2,?_,fun L=>?_⟩
    ·rcases List.mem_append.1 hy with hy | hy
     ·obtain ⟨r,_,rfl⟩:=List.mem_map.1 hy
      exact hlt
     ·exact h1 y hy
    ·rw [flat_cons,h3,rows_cons,if_neg hx]
     simp [nm]
    ·have e:standD (x :: D) t L=x :: standD D t L:=by
      unfold standD
      split
      ·simp [delD,hx]
      ·rw [setD,if_neg hx,if_neg hc]
     rw [e,flat_cons,h4]
     simp [nm]
theorem up_split {A C:List NRow}{t:Bs}{l:List PRow}(hA:∀x ∈ A,cmpL x.1 t<0)(hC:∀x ∈ C,cmpL t x.1<0)(k v:Bs):upR (A ++ (nm t l ++ C)) (t,k,v)=A.length+rankL l k:=by
 unfold upR
 rw [List.takeWhile_append_of_pos (fun x hx=>by simp [cmpR,hA x hx]),List.length_append]
 congr 1
 have hc0:C.takeWhile (fun y=>decide (cmpR y (t,k,v)<0))=[]:=by
  cases C with
  | nil=>rfl
  | cons y C =>
   have h1:=hC y (by simp)
   have h2:=Names.cmp_flip y.1 t
   have h3:¬cmpL y.1 t<0:=by omega
   simp [cmpR,h3,h1]
 unfold rankL
 induction l with
 | nil=>simp [nm,hc0]
 | cons r l ih =>
  simp only [nm,List.map_cons,List.cons_append,List.takeWhile_cons]
  have e:cmpR (t,r) (t,k,v)=cmpL r.1 k:=by simp [cmpR,Names.cmp_self]
  rw [e]
  split
  ·simp only [List.length_cons]
   rw [<-ih]
   rfl
  ·rfl
theorem at_split {A C:List NRow}{t:Bs}{l:List PRow}(j:Nat)(hj:j<l.length):(A ++ (nm t l ++ C))[A.length+j]? = some (t,l[j]):=by
 rw [List.getElem?_append_right (by omega),List.getElem?_append_left (by simp [nm];omega)]
 simp [nm,hj]
theorem is_split {A C:List NRow}{t:Bs}{l:List PRow}(hA:∀x ∈ A,cmpL x.1 t<0)(hC:∀x ∈ C,cmpL t x.1<0)(k v:Bs):isR (A ++ (nm t l ++ C)) (t,k,v)=hasL l k:=by
 unfold isR
 rw [up_split hA hC]
 have hr:=rank_le l k
 rcases Nat.lt_or_ge (rankL l k) l.length with h | h
 ·rw [at_split _ h]
  unfold hasL
  rw [List.getElem?_eq_getElem h]
  simp only [Option.any_some]
  have e:cmpR (t,l[rankL l k]) (t,k,v)=cmpL l[rankL l k].1 k:=by simp [cmpR,Names.cmp_self]
  rw [e]
  exact decide_eq_decide.2 Names.cmp_iff
 ·have e:rankL l k=l.length:=by omega
  have h0:hasL l k=false:=by
   unfold hasL
   rw [List.getElem?_eq_none (by omega)]
   rfl
  rw [h0,List.getElem?_append_right (by omega),List.getElem?_append_right (by simp [nm];omega)]
  have e2:A.length+rankL l k-A.length-(nm t l).length=0:=by simp [nm];omega
  rw [e2]
  cases C with
  | nil=>rfl
  | cons y C =>
   have h1:=hC y (by simp)
   have h2:=Names.cmp_flip y.1 t
   have h3:¬cmpL y.1 t<0:=by omega
   simp [cmpR,h3,h1]
theorem take_split {A C:List NRow}{t:Bs}{l:List PRow}{j:Nat}(hj:j<=l.length):(A ++ (nm t l ++ C)).take (A.length+j)=A ++ nm t (l.take j):=by
 rw [List.take_append,List.take_of_length_le (by omega)]
 congr 1
 rw [Nat.add_sub_cancel_left,List.take_append_of_le_length (by simp [nm];omega)]
 simp [nm,List.map_take]
theorem drop_split {A C:List NRow}{t:Bs}{l:List PRow}{j:Nat}(hj:j<=l.length):(A ++ (nm t l ++ C)).drop (A.length+j)=nm t (l.drop j) ++ C:=by
 rw [List.drop_append,List.drop_of_length_le (by omega),List.nil_append,Nat.add_sub_cancel_left,List.drop_append_of_le_length (by simp [nm];omega)]
 simp [nm,List.map_drop]
theorem putF_flat {D:DB}(h:RiseD D)(t k v:Bs):putF (flatD D) (t,k,v)=flatD (putD D t k v):=by
 obtain ⟨A,C,hA,hC,h1,h2⟩:=flat_split h t
 unfold putD
 rw [h2,h1]
 unfold putF
 have e:=end_le (rowsOf D t) k
 unfold endL at e
 rw [up_split hA hC,is_split hA hC,Nat.add_assoc,take_split (rank_le _ _),drop_split e]
 unfold putL endL
 simp [nm]
theorem delF_flat {D:DB}(h:RiseD D)(t k v:Bs):delF (flatD D) (t,k,v)=flatD (remD D t k):=by
 obtain ⟨A,C,hA,hC,h1,h2⟩:=flat_split h t
 unfold remD
 rw [h2,h1]
 unfold delF
 have e:=end_le (rowsOf D t) k
 unfold endL at e
 rw [up_split hA hC,is_split hA hC]
 unfold delL endL
 by_cases hh:hasL (rowsOf D t) k=true
 ·rw [if_pos hh] at e
  rw [if_pos hh,if_pos hh,Nat.add_assoc,take_split (rank_le _ _),drop_split e]
  simp [nm]
 ·rw [if_neg hh,if_neg hh,Nat.add_zero,List.take_append_drop]
theorem isF_has {D:DB}(h:RiseD D)(t k v:Bs):isR (flatD D) (t,k,v)=hasL (rowsOf D t) k:=by
 obtain ⟨A,C,hA,hC,h1,_⟩:=flat_split h t
 rw [h1]
 exact is_split hA hC k v
theorem atF_got {D:DB}(h:RiseD D)(t k v:Bs)(hk:keyB k=true)(hi:isR (flatD D) (t,k,v)=true):∃hu:upR (flatD D) (t,k,v)<(flatD D).length,(flatD D)[upR (flatD D) (t,k,v)].2.2=gotD D t k:=by
 have hh:=isF_has h t k v
 rw [hi] at hh
 obtain ⟨A,C,hA,hC,h1,_⟩:=flat_split h t
 obtain ⟨hr,_⟩:=has_iff.1 hh.symm
 have e:(flatD D)[upR (flatD D) (t,k,v)]? = some (t,(rowsOf D t)[rankL (rowsOf D t) k]):=by
  rw [h1,up_split hA hC]
  exact at_split _ hr
 obtain ⟨hu,e2⟩:=List.getElem?_eq_some_iff.1 e
 refine ⟨hu,?_⟩
 rw [e2]
 unfold gotD gotL
 rw [if_pos ⟨hk,hh.symm⟩,List.getElem?_eq_getElem hr]
 rfl
theorem scanF_flat {D:DB}(h:GoodD D)(t F T:Bs)(most:Int):((flatD D).filter (fun r=>decide (r.1=t) && inB r.2.1 F T)).take most.toNat=nm t (scanL (rowsOf D t) F T most):=by
 obtain ⟨A,C,hA,hC,h1,_⟩:=flat_split h.rise t
 have f1:A.filter (fun r=>decide (r.1=t) && inB r.2.1 F T)=[]:=by
  rw [List.filter_eq_nil_iff]
  intro x hx
  have:x.1≠t:=fun e=>by have:=hA x hx;rw [e,Names.cmp_self] at this;omega
  simp [this]
 have f2:C.filter (fun r=>decide (r.1=t) && inB r.2.1 F T)=[]:=by
  rw [List.filter_eq_nil_iff]
  intro x hx
  have:x.1≠t:=fun e=>by have:=hC x hx;rw [e,Names.cmp_self] at this;omega
  simp [this]
 rw [h1,List.filter_append,List.filter_append,f1,f2,List.nil_append,List.append_nil]
 have f3:(nm t (rowsOf D t)).filter (fun r=>decide (r.1=t) && inB r.2.1 F T)=nm t ((rowsOf D t).filter (fun r=>inB r.1 F T)):=by
  unfold nm
  rw [List.filter_map]
  congr 1
  apply List.filter_congr
  intro x _
  simp
 have hr:Rise (rowsOf D t):=by
  by_cases hm:t ∈ namesD D
  ·obtain ⟨x,hx,e⟩:=List.mem_map.1 hm
   rw [<-e,rows_mem h.rise.nodup hx]
   exact (h.good x hx).1
  ·rw [rows_none hm]
   intro i j h1
   simp at h1
 rw [f3,<-scan_filter hr]
 simp [nm,List.map_take]
def sizeF (F:List NRow):Nat:=(F.map fun r=>r.2.1.length+r.2.2.length).sum
theorem size_flat (D:DB):sizeF (flatD D)=sizeD D:=by
 induction D with
 | nil=>rfl
 | cons x D ih =>
  unfold sizeF at ih ⊢
  rw [flat_cons,List.map_append,List.sum_append,ih,List.map_map]
  simp [sizeD,sizeL]
  rfl
end Go.Proofs.YtakmlhhapegpoaaGreat
namespace Go.Proofs.YtakmlhhapegpoaaGreat
open Go.RowKit Disk Table
open Names (Str cmpL keyB valueB tabB inB)
theorem run_lss9 (a b:Bs)(w:World):(binOp .lss 9 (Str a) (Str b)).run Tryz.prog w=.ok (.bool (decide (cmpL a b<0))) w:=by
 have h:binOp .lss 9 (Str a) (Str b)=pure (.bool (Op.bytesLess a b)):=by simp [Str,binOp,Op.stringOp]
 rw [h,less_cmp]
 rfl
theorem run_gtr9 (a b:Bs)(w:World):(binOp .gtr 9 (Str a) (Str b)).run Tryz.prog w=.ok (.bool (decide (cmpL b a<0))) w:=by
 have h:binOp .gtr 9 (Str a) (Str b)=pure (.bool (!Op.bytesLess a b && !(a==b))):=by simp [Str,binOp,Op.stringOp]
 rw [h,less_cmp]
 have e:(!decide (cmpL a b<0) && !(a==b))=decide (cmpL b a<0):=by
  have hf:=Names.cmp_flip a b
  rcases Names.cmp_range a b with h | h | h
  ·have:¬cmpL b a<0:=by omega
   simp [h,this]
  ·have:a=b:=Names.cmp_zero h
   subst this
   simp [h]
  ·have h1:cmpL b a<0:=by omega
   have h2:a≠b:=fun e=>by rw [e,Names.cmp_self] at h;omega
   simp [h,h1,h2]
 rw [e]
 rfl
theorem cmp64 (n m:Bs)(x y u v:Value)(a b:PRow)(w:World)(hx:Seg w x a.1)(hy:Seg w y a.2)(hu:Seg w u b.1)(hv:Seg w v b.2):Calls Tryz.prog 64 #[.agg #[Str n,x,y],.agg #[Str m,u,v]] w fun e w'=>e=.returned (.int .i64 (cmpR (n,a) (m,b)))/\w.grownBy w' none:=by
 have HS:Hid (Seg w x a.1/\Seg w u b.1):=⟨hx,hu⟩
 obtain ⟨x1,x2,rfl⟩:=hx.shape
 obtain ⟨y1,y2,rfl⟩:=hy.shape
 obtain ⟨u1,u2,rfl⟩:=hu.shape
 obtain ⟨v1,v2,rfl⟩:=hv.shape
 clear hx hy hu hv
 have HR:Hid (cmpR (n,a) (m,b)=if cmpL n m<0 then -1 else if cmpL m n<0 then 1 else cmpL a.1 b.1):=rfl
 obtain ⟨R,hR⟩:∃R,cmpR (n,a) (m,b)=R:=⟨_,rfl⟩
 rw [hR] at HR ⊢
 clear hR
 generalize a.1.length=l1 at HS ⊢
 generalize a.2.length=l2
 generalize b.1.length=l3 at HS ⊢
 generalize b.2.length=l4
 go_enter Tryz.func64,Tryz.ntmps64
 have G2:Hid (w.grownBy ((w.alloc (.cells #[Str n,.slice x1 l1 x2,.slice y1 l2 y2] 61)).alloc (.cells #[Str m,.slice u1 l3 u2,.slice v1 l4 v2] 61)) none):=grown_trans (World.grownBy_alloc _ _ _) (World.grownBy_alloc _ _ _)
 by_cases h1:cmpL n m<0
 ·have q1:∀w,(binOp .lss 9 (Str n) (Str m)).run Tryz.prog w=.ok (.bool true) w:=fun w=>by rw [run_lss9,decide_eq_true h1]
  rw [if_pos h1] at HR
  clear h1
  go_wp2_with fail
  go_ret
  exact ⟨by rw [HR.out];rfl,G2.out⟩
 ·have q1:∀w,(binOp .lss 9 (Str n) (Str m)).run Tryz.prog w=.ok (.bool false) w:=fun w=>by rw [run_lss9,decide_eq_false h1]
  rw [if_neg h1] at HR
  clear h1
  by_cases h2:cmpL m n<0
  ·have q2:∀w,(binOp .gtr 9 (Str n) (Str m)).run Tryz.prog w=.ok (.bool true) w:=fun w=>by rw [run_gtr9,decide_eq_true h2]
   rw [if_pos h2] at HR
   clear h2
   go_wp2_with fail
   go_ret
   exact ⟨by rw [HR.out];rfl,G2.out⟩
  ·have q2:∀w,(binOp .gtr 9 (Str n) (Str m)).run Tryz.prog w=.ok (.bool false) w:=fun w=>by rw [run_gtr9,decide_eq_false h2]
   rw [if_neg h2] at HR
   clear h2
   go_wp2_with fail
   refine (Names.cmp27 _ _ a.1 b.1 _ (HS.out.1.grown G2.out) (HS.out.2.grown G2.out)).mono ?_
   rintro e w2 ⟨rfl,m2,rfl⟩
   have G3:Hid (w.grownBy (((w.alloc (.cells #[Str n,.slice x1 l1 x2,.slice y1 l2 y2] 61)).alloc (.cells #[Str m,.slice u1 l3 u2,.slice v1 l4 v2] 61)).drewN m2) none):=grown_trans G2.out (grown_drewN _ _ _)
   rw [<-HR.out]
   clear q1 q2
   go_wp2_with fail
   go_ret
   exact ⟨rfl,G3.out⟩
theorem copied65 (v:Value)(L:Bs)(w:World)(hs:Seg w v L)(hL:L.length<=140737488355327):Calls Tryz.prog 65 #[v] w fun e w'=>∃u,e=.returned u/\Disk.Own w' w.heap.size u L/\w.grownBy w' none:=by
 obtain ⟨ao,cap,hsv⟩:=hs.shape
 subst hsv
 have HS:Hid _:=hs
 have HL:Hid _:=hL
 clear hs hL
 go_enter Tryz.func65,Tryz.ntmps65
 go_wp2_with (at_builtin;refine app22 _ rfl _ _ rfl w.heap.size _ [] _ L rfl rfl (Own.nil _ _) HS.out ?c0 ?c1 ?_)
 case c0=>have:=HL.out;simp;omega
 case c1=>omega
 intro v1 w1 hown hg hl
 have F:Hid (Disk.Own w1 w.heap.size v1 L/\w.grownBy w1 none):=And.intro hown hg
 clear hown hg hl
 go_wp2_with fail
 go_ret
 exact ⟨_,rfl,F.out⟩
theorem size_take {F:List NRow}{k:Nat}(h:k<F.length):sizeF (F.take (k+1))=sizeF (F.take k)+F[k].2.1.length+F[k].2.2.length:=by
 unfold sizeF
 rw [List.take_succ_eq_append_getElem h,List.map_append,List.sum_append]
 simp
 omega
theorem size39 (v:Value)(F:List NRow)(hz:∀k,k<=F.length->sizeF (F.take k)<=1000000000000)(w:World)(hv:Nms w v F):Calls Tryz.prog 39 #[v] w fun e w'=>e=.returned (.int .i64 (sizeF F:Nat))/\w.grownBy w' none:=by
 obtain ⟨a1,n1,c1,rfl,hn1,hc1,hc1',HV⟩:=nms_open hv
 have HN:Hid (F.length=n1/\∀k,k<=F.length->sizeF (F.take k)<=1000000000000):=⟨hn1,hz⟩
 clear hv hn1 hz
 go_enter Tryz.func39,Tryz.ntmps39
 go_wp2_with fail
 go_loopw [3,4] (fun s t wr=>∃(k z:Nat),t=.int .i64 (k:Int)/\s=.int .i64 (z:Int)/\k<=n1/\z<=1000000000000/\Hid (z=sizeF (F.take k))/\Hid (w.grownBy wr none)) (fun _ t _=>n1-(intOf t).toNat)
 case atStart=>exact ⟨0,0,rfl,rfl,Nat.zero_le _,by omega,(by show (0:Nat)=_;simp [sizeF]),grown_refl _ _⟩
 case round =>
  obtain ⟨k,z,rfl,rfl,hk,hz9,HZ,HG⟩:=hrel
  rcases Nat.lt_or_ge k n1 with hlt | hge
  ·have hkl:k<F.length:=by rw [HN.out.1];exact hlt
   obtain ⟨b,off,xv,yv,rfl,e0,e1,e2,s1,s2⟩:=nms_at HV.out k hkl
   obtain ⟨xa,xc,rfl⟩:=s1.shape
   obtain ⟨ya,yc,rfl⟩:=s2.shape
   have i0:(0:Int)<=(k:Int):=by omega
   have i1:(k:Int)<(n1:Int):=by omega
   have HT:Hid (sizeF (F.take (k+1))=z+F[k].2.1.length+F[k].2.2.length/\sizeF (F.take (k+1))<=1000000000000):=⟨by rw [HZ.out];exact size_take hkl,HN.out.2 _ hkl⟩
   have HC:Hid (∀y:World,w.grownBy y none->y.cell? ⟨b,off+k*3+1,none⟩=some (.slice xa F[k].2.1.length xc)/\y.cell? ⟨b,off+k*3+2,none⟩=some (.slice ya F[k].2.2.length yc)):=fun y hy=>⟨hy.cell e1 (by simp),hy.cell e2 (by simp)⟩
   generalize F[k].2.1.length=y1 at HC HT
   generalize F[k].2.2.length=y2 at HC HT
   have b1:z+y1<=1000000000000:=by have:=HT.out;omega
   have b2:z+y1+y2<=1000000000000:=by have:=HT.out;omega
   have k1:IntKind.i64.wrap ((z:Int)+(y1:Int))=((z+y1:Nat):Int):=by rw [IntKind.wrap_i64];omega
   have k2:IntKind.i64.wrap (((z+y1:Nat):Int)+(y2:Int))=((z+y1+y2:Nat):Int):=by rw [IntKind.wrap_i64];omega
   obtain ⟨z1,hz1⟩:∃x,z+y1=x:=⟨_,rfl⟩
   obtain ⟨z2,hz2⟩:∃x,z1+y2=x:=⟨_,rfl⟩
   rw [hz1] at k1 k2 b2
   rw [hz2] at k2 b2
   have HZ2:Hid (z1+y2=z2/\z+y1=z1):=⟨hz2,hz1⟩
   clear e0 e1 e2 s1 s2 hz1 hz2 b1
   go_wp2_with fail
   refine wp_region_noPanic ?_
   refine wp_region_hold 1000 (fun y=>w.grownBy y none) (by kernel_rfl) ?_
   have G0:Hid (w.grownBy wr.drew none):=grown_trans HG.out (grown_drew _ _)
   generalize wr.drew=wd at G0 ⊢
   have J:Idx [0,1,2,3,4,5,6,7,8,9,10,11,12,13,14,15]:=trivial
   iterate 16 (refine tK J (G0.out) rfl rfl (fun wk hk=>by obtain ⟨m1,m2⟩:=HC.out wk hk;go_simp;try rfl) ?_;replace J:=J.tl;try simp only [pN])
   clear J
   refine wpHold_done (by kernel_rfl) ?_
   refine (‹∀(a:Act) (w:World),Code.wp Tryz.prog _ _ a w->_› _ _ ?_)
   go_wp2_with fail
   go_roundw
   case rel=>exact ⟨k+1,z2,by go_num,rfl,by omega,b2,by have h1:=HT.out.1;have h2:=HZ2.out;show z2=_;omega,G0.out⟩
   case measure =>
    simp [intOf]
    omega
  ·obtain rfl:k=n1:=by omega
   have i1:¬((k:Int)<(k:Int)):=by omega
   have HE:Hid (z=sizeF F):=by
    have:=HZ.out
    rw [<-HN.out.1,List.take_length] at this
    exact this
   go_wp2_with fail
   go_ret
   exact ⟨by rw [HE.out];rfl,HG.out⟩
theorem up_eq:∀{F:List NRow} {r:NRow} {k:Nat},k<=F.length->(∀j (h:j<F.length),j<k->cmpR F[j] r<0)->(∀h:k<F.length,¬cmpR F[k] r<0)->upR F r=k
 | [],_,k,h,_,_=>by simp at h;simp [upR,h]
 | y :: F,r,0,_,_,h2=>by
  have:=h2 (by simp)
  simp at this
  unfold upR
  rw [List.takeWhile_cons,if_neg (by simpa using this)]
  rfl
 | y :: F,r,k+1,h,h1,h2=>by
  have h0:=h1 0 (by simp) (by omega)
  have ih:=up_eq (F:=F) (r:=r) (k:=k) (by simpa using h) (fun j hj hk=>h1 (j+1) (by simpa using hj) (by omega)) (fun hk=>h2 (by simpa using hk))
  unfold upR at ih ⊢
  rw [List.takeWhile_cons,if_pos (by simpa using h0)]
  simp [ih]
theorem find93 (v:Value)(F:List NRow)(n:Bs)(x y:Value)(r:PRow)(w:World)(hz:F.length<=1000000)(hv:Nms w v F)(hx:Seg w x r.1)(hy:Seg w y r.2):Calls Tryz.prog 93 #[v,.agg #[Str n,x,y]] w fun e w'=>e=.returned (.tuple #[.int .i64 (upR F (n,r):Nat),.bool (isR F (n,r))])/\w.grownBy w' none:=by
 obtain ⟨a1,n1,c1,rfl,hn1,hc1,hc1',HV⟩:=nms_open hv
 have HN:Hid (F.length=n1/\Seg w x r.1/\Seg w y r.2):=⟨hn1,hx,hy⟩
 have hz1:n1<=1000000:=by omega
 obtain ⟨x1,x2,ex⟩:=hx.shape
 obtain ⟨y1,y2,ey⟩:=hy.shape
 obtain ⟨xl,hxl⟩:∃l,r.1.length=l:=⟨_,rfl⟩
 obtain ⟨yl,hyl⟩:∃l,r.2.length=l:=⟨_,rfl⟩
 rw [hxl] at ex
 rw [hyl] at ey
 subst ex ey
 clear hv hn1 hx hy hz hxl hyl
 go_enter Tryz.func93,Tryz.ntmps93
 go_wp2_with fail
 obtain ⟨w1,hw1,H1⟩:=al w #[Str n,.slice x1 xl x2,.slice y1 yl y2] 61
 rw [hw1]
 clear hw1
 obtain ⟨xb,hxb⟩:∃b,w.heap.size=b:=⟨_,rfl⟩
 rw [hxb] at H1 ⊢
 clear hxb
 have HB:Hid (∀y:World,w1.grownBy y none->y.cell? ⟨xb,0,none⟩=some (Str n)/\y.cell? ⟨xb,1,none⟩=some (.slice x1 xl x2)/\y.cell? ⟨xb,2,none⟩=some (.slice y1 yl y2)):=fun y hy=>by
  have h:=H1.out.1.grown hy (by simp)
  exact ⟨h.cell 0,h.cell 1,h.cell 2⟩
 go_loopw [6] (fun t wr=>∃k:Nat,t=.int .i64 (k:Int)/\k<=n1/\Hid ((∀j (h:j<F.length),j<k->cmpR F[j] (n,r)<0)/\w1.grownBy wr none)) (fun t _=>n1-(intOf t).toNat)
 case atStart=>exact ⟨0,rfl,Nat.zero_le _,fun j _ h=>absurd h (by omega),grown_refl _ _⟩
 case round =>
  obtain ⟨k,rfl,hk,HR⟩:=hrel
  rcases Nat.lt_or_ge k n1 with hlt | hge
  ·have hkl:k<F.length:=by rw [HN.out.1];exact hlt
   obtain ⟨b,off,xv,yv,rfl,e0,e1,e2,s1,s2⟩:=nms_at HV.out k hkl
   obtain ⟨xa,xc,ex⟩:=s1.shape
   obtain ⟨ya,yc,ey⟩:=s2.shape
   obtain ⟨fr,hfr⟩:∃f,F[k]=f:=⟨_,rfl⟩
   rw [hfr] at e0 s1 s2 ex ey
   obtain ⟨ft,fk⟩:=fr
   obtain ⟨l1,hl1⟩:∃l,fk.1.length=l:=⟨_,rfl⟩
   obtain ⟨l2,hl2⟩:∃l,fk.2.length=l:=⟨_,rfl⟩
   simp only at e0 s1 s2 ex ey
   rw [hl1] at ex
   rw [hl2] at ey
   subst ex ey
   have i0:(0:Int)<=(k:Int):=by omega
   have i1:(k:Int)<(n1:Int):=by omega
   have HS:Hid (Seg w (.slice xa l1 xc) fk.1/\Seg w (.slice ya l2 yc) fk.2/\F[k]=(ft,fk)):=⟨s1,s2,hfr⟩
   have HC:Hid (∀y:World,w1.grownBy y none->y.cell? ⟨b,off+k*3,none⟩=some (Str ft)/\y.cell? ⟨b,off+k*3+1,none⟩=some (.slice xa l1 xc)/\y.cell? ⟨b,off+k*3+2,none⟩=some (.slice ya l2 yc)):=fun y hy=>by
    have hy':=grown_trans H1.out.2.1 hy
    exact ⟨hy'.cell e0 (by simp),hy'.cell e1 (by simp),hy'.cell e2 (by simp)⟩
   obtain ⟨R,hR⟩:∃R,cmpR (ft,fk) (n,r)=R:=⟨_,rfl⟩
   have HRR:Hid (cmpR (ft,fk) (n,r)=R):=hR
   clear e0 e1 e2 s1 s2 hl1 hl2 hfr hR
   by_cases h0:R<0
   ·have H0:Hid (R<0):=h0
    clear h0
    go_wp2_with fail
    refine wp_region_noPanic ?_
    refine wp_region_hold 1000 (fun y=>w1.grownBy y none) (by kernel_rfl) ?_
    have G0:Hid (w1.grownBy wr.drew none):=grown_trans HR.out.2 (grown_drew _ _)
    generalize wr.drew=wd at G0 ⊢
    have J:Idx [0,1,2,3,4,5,6,7,8,9]:=trivial
    iterate 10 (refine tK J (G0.out) rfl rfl (fun wk hk=>by obtain ⟨m0,m1,m2⟩:=HC.out wk hk;obtain ⟨m3,m4,m5⟩:=HB.out wk hk;go_simp;try rfl) ?_;replace J:=J.tl;try simp only [pN])
    clear J
    refine wpHold_one (i:=10) rfl (by kernel_rfl) (by rfl) (fun K hK=>?_)
    go_wp2_with fail
    refine (cmp64 ft n (.slice xa l1 xc) (.slice ya l2 yc) (.slice x1 xl x2) (.slice y1 yl y2) fk r wd (HS.out.1.grown (grown_trans H1.out.2.1 G0.out)) (HS.out.2.1.grown (grown_trans H1.out.2.1 G0.out)) (HN.out.2.1.grown (grown_trans H1.out.2.1 G0.out)) (HN.out.2.2.grown (grown_trans H1.out.2.1 G0.out))).mono ?_
    rw [HRR.out]
    rintro e wa ⟨rfl,gg⟩
    have GA:Hid (w1.grownBy wa none):=grown_trans G0.out gg
    clear gg
    go_wp2_with fail
    refine hK.out _ _ (fun _=>GA.out) ?_
    clear hK K
    try simp only [pN]
    refine wpHold_one (i:=11) rfl (by kernel_rfl) (by rfl) (fun K hK=>?_)
    go_wp2_with fail
    try rw [decide_eq_true H0.out]
    refine hK.out _ _ (fun _=>GA.out) ?_
    clear hK K
    try simp only [pN]
    refine tK (i:=12) (l':=[]) trivial (GA.out) rfl rfl (fun wk hk=>by obtain ⟨m0,m1,m2⟩:=HC.out wk hk;obtain ⟨m3,m4,m5⟩:=HB.out wk hk;go_simp;try rfl) ?_
    try simp only [pN]
    refine wpHold_done (by kernel_rfl) ?_
    refine (‹∀(a:Act) (w:World),Code.wp Tryz.prog _ _ a w->_› _ _ ?_)
    go_wp2_with fail
    go_roundw
    case rel =>
     refine ⟨k+1,by go_num,by omega,fun j hj hjk=>?_,GA.out⟩
     rcases Nat.lt_or_ge j k with h | h
     ·exact HR.out.1 j hj h
     ·obtain rfl:j=k:=by omega
      rw [HS.out.2.2,HRR.out]
      exact H0.out
    case measure =>
     simp [intOf]
     omega
   ·have H0:Hid (¬(R<0)):=h0
    have HU:Hid (upR F (n,r)=k/\isR F (n,r)=decide (R=0)):=by
     have hu:upR F (n,r)=k:=up_eq (by omega) HR.out.1 (fun h=>by rw [HS.out.2.2,HRR.out];exact h0)
     refine ⟨hu,?_⟩
     unfold isR
     rw [hu,List.getElem?_eq_getElem hkl,HS.out.2.2]
     simp only [Option.any_some,HRR.out]
    clear h0
    go_wp2_with fail
    refine wp_region_noPanic ?_
    refine wp_region_hold 1000 (fun y=>w1.grownBy y none) (by kernel_rfl) ?_
    have G0:Hid (w1.grownBy wr.drew none):=grown_trans HR.out.2 (grown_drew _ _)
    generalize wr.drew=wd at G0 ⊢
    have J:Idx [0,1,2,3,4,5,6,7,8,9]:=trivial
    iterate 10 (refine tK J (G0.out) rfl rfl (fun wk hk=>by obtain ⟨m0,m1,m2⟩:=HC.out wk hk;obtain ⟨m3,m4,m5⟩:=HB.out wk hk;go_simp;try rfl) ?_;replace J:=J.tl;try simp only [pN])
    clear J
    refine wpHold_one (i:=10) rfl (by kernel_rfl) (by rfl) (fun K hK=>?_)
    go_wp2_with fail
    refine (cmp64 ft n (.slice xa l1 xc) (.slice ya l2 yc) (.slice x1 xl x2) (.slice y1 yl y2) fk r wd (HS.out.1.grown (grown_trans H1.out.2.1 G0.out)) (HS.out.2.1.grown (grown_trans H1.out.2.1 G0.out)) (HN.out.2.1.grown (grown_trans H1.out.2.1 G0.out)) (HN.out.2.2.grown (grown_trans H1.out.2.1 G0.out))).mono ?_
    rw [HRR.out]
    rintro e wa ⟨rfl,gg⟩
    have GA:Hid (w1.grownBy wa none):=grown_trans G0.out gg
    clear gg
    go_wp2_with fail
    refine hK.out _ _ (fun _=>GA.out) ?_
    clear hK K
    try simp only [pN]
    refine wpHold_one (i:=11) rfl (by kernel_rfl) (by rfl) (fun K hK=>?_)
    go_wp2_with fail
    rw [decide_eq_false (show ¬(R<0) by have:=H0.out;omega)]
    refine hK.out _ _ (fun _=>GA.out) ?_
    clear hK K
    try simp only [pN]
    refine tK (i:=12) (l':=[]) trivial (GA.out) rfl rfl (fun wk hk=>by obtain ⟨m0,m1,m2⟩:=HC.out wk hk;obtain ⟨m3,m4,m5⟩:=HB.out wk hk;go_simp;try rfl) ?_
    try simp only [pN]
    refine wpHold_done (by kernel_rfl) ?_
    refine (‹∀(a:Act) (w:World),Code.wp Tryz.prog _ _ a w->_› _ _ ?_)
    go_wp2_with fail
    refine wp_region_noPanic ?_
    refine wp_region_hold 1000 (fun y=>w1.grownBy y none) (by kernel_rfl) ?_
    have G1:Hid (w1.grownBy wa.drew none):=grown_trans GA.out (grown_drew _ _)
    generalize wa.drew=we at G1 ⊢
    have J:Idx [0,1,2,3,4,5,6,7,8,9,10]:=trivial
    iterate 11 (refine tK J (G1.out) rfl rfl (fun wk hk=>by obtain ⟨m0,m1,m2⟩:=HC.out wk hk;obtain ⟨m3,m4,m5⟩:=HB.out wk hk;go_simp;try rfl) ?_;replace J:=J.tl;try simp only [pN])
    clear J
    refine wpHold_one (i:=11) rfl (by kernel_rfl) (by rfl) (fun K hK=>?_)
    go_wp2_with fail
    refine (cmp64 ft n (.slice xa l1 xc) (.slice ya l2 yc) (.slice x1 xl x2) (.slice y1 yl y2) fk r we (HS.out.1.grown (grown_trans H1.out.2.1 G1.out)) (HS.out.2.1.grown (grown_trans H1.out.2.1 G1.out)) (HN.out.2.1.grown (grown_trans H1.out.2.1 G1.out)) (HN.out.2.2.grown (grown_trans H1.out.2.1 G1.out))).mono ?_
    rw [HRR.out]
    rintro e wb ⟨rfl,gg⟩
    have GB:Hid (w1.grownBy wb none):=grown_trans G1.out gg
    clear gg
    go_wp2_with fail
    refine hK.out _ _ (fun _=>GB.out) ?_
    clear hK K
    try simp only [pN]
    have J:Idx [12,13,14,15]:=trivial
    iterate 4 (refine tK J (GB.out) rfl rfl (fun wk hk=>by obtain ⟨m0,m1,m2⟩:=HC.out wk hk;obtain ⟨m3,m4,m5⟩:=HB.out wk hk;go_simp;try rfl) ?_;replace J:=J.tl;try simp only [pN])
    clear J
    refine wpHold_done (by kernel_rfl) ?_
    refine (‹∀(a:Act) (w:World),Code.wp Tryz.prog _ _ a w->_› _ _ ?_)
    go_wp2_with fail
    go_ret2
    exact ⟨by rw [HU.out.1,HU.out.2];rfl,grown_trans H1.out.2.1 GB.out⟩
  ·obtain rfl:k=n1:=by omega
   have i1:¬((k:Int)<(k:Int)):=by omega
   have HU:Hid (upR F (n,r)=k/\isR F (n,r)=false):=by
    have hu:upR F (n,r)=k:=up_eq (by have:=HN.out.1;omega) HR.out.1 (fun h=>by have:=HN.out.1;omega)
    refine ⟨hu,?_⟩
    unfold isR
    rw [hu,List.getElem?_eq_none (by have:=HN.out.1;omega)]
    rfl
   go_wp2_with fail
   refine wp_region_noPanic ?_
   refine wp_region_hold 1000 (fun y=>w1.grownBy y none) (by kernel_rfl) ?_
   have G0:Hid (w1.grownBy wr.drew none):=grown_trans HR.out.2 (grown_drew _ _)
   generalize wr.drew=wd at G0 ⊢
   have J:Idx [0,1,2,3,4]:=trivial
   iterate 5 (refine tK J (G0.out) rfl rfl (fun wk hk=>by skip;go_simp;try rfl) ?_;replace J:=J.tl;try simp only [pN])
   clear J
   have J:Idx [5,6,7,8,9,10,11]:=trivial
   iterate 7 (refine sk J (G0.out) rfl rfl ?_;replace J:=J.tl;try simp only [pN])
   clear J
   refine tK (i:=12) (l':=[]) trivial (G0.out) rfl rfl (fun wk hk=>by skip;go_simp;try rfl) ?_
   try simp only [pN]
   refine wpHold_done (by kernel_rfl) ?_
   refine (‹∀(a:Act) (w:World),Code.wp Tryz.prog _ _ a w->_› _ _ ?_)
   go_wp2_with fail
   refine wp_region_noPanic ?_
   refine wp_region_hold 1000 (fun y=>w1.grownBy y none) (by kernel_rfl) ?_
   have G1:Hid (w1.grownBy wd.drew none):=grown_trans G0.out (grown_drew _ _)
   generalize wd.drew=we at G1 ⊢
   have J:Idx [0,1,2,3,4,5]:=trivial
   iterate 6 (refine tK J (G1.out) rfl rfl (fun wk hk=>by skip;go_simp;try rfl) ?_;replace J:=J.tl;try simp only [pN])
   clear J
   have J:Idx [6,7,8,9,10,11,12]:=trivial
   iterate 7 (refine sk J (G1.out) rfl rfl ?_;replace J:=J.tl;try simp only [pN])
   clear J
   have J:Idx [13,14,15]:=trivial
   iterate 3 (refine tK J (G1.out) rfl rfl (fun wk hk=>by skip;go_simp;try rfl) ?_;replace J:=J.tl;try simp only [pN])
   clear J
   refine wpHold_done (by kernel_rfl) ?_
   refine (‹∀(a:Act) (w:World),Code.wp Tryz.prog _ _ a w->_› _ _ ?_)
   go_wp2_with fail
   go_ret2
   exact ⟨by rw [HU.out.1,HU.out.2];rfl,grown_trans H1.out.2.1 G1.out⟩
end Go.Proofs.YtakmlhhapegpoaaGreat
