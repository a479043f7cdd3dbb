import Derived.Test.YtakmlhhapegpoaaGreatMnoAll
set_option maxHeartbeats 8000000
set_option maxRecDepth 100000
namespace Go.Proofs.YtakmlhhapegpoaaGreat
open Go.RowKit Disk Table
open Names (Str cmpL keyB valueB tabB)
open _root_.Go.Proofs.YtakmlhhapegpoaaGreat.Calls (POp POut PRes opV OpSeg mayOp)
def callD (q:Int × Int)(D:DB)(outs:List POut):List POp->Except (Int × Nat) (List POut × DB)
 | []=>.ok (outs,D)
 | o :: l=>match opD q D o with
  | .ok (r,D')=>callD q D' (outs ++ [r]) l
  | .error c=>.error (c,outs.length)
theorem sum_stand {D:DB}(h:RiseD D)(n:Bs)(r:List PRow)(f:List PRow->Nat)(hf:f []=0):((standD D n r).map (fun x=>f x.2)).sum+f (rowsOf D n)=(D.map (fun x=>f x.2)).sum+f r:=by
 have hdel:∀(D:DB),RiseD D->((delD D n).map (fun x=>f x.2)).sum+f (rowsOf D n)=(D.map (fun x=>f x.2)).sum:=by
  intro D
  induction D with
  | nil=>intro _;simp [delD,rowsOf,hf]
  | cons x D ih =>
   intro h
   have h':=List.pairwise_cons.1 h
   have ih:=ih h'.2
   by_cases hx:x.1=n
   ·have hn:n ∉ namesD D:=fun hm=>by
     obtain ⟨y,hy,e⟩:=List.mem_map.1 hm
     have:=h'.1 y hy
     rw [hx,e,Names.cmp_self] at this
     omega
    have hd:delD (x :: D) n=D:=by
     unfold delD
     rw [List.filter_cons]
     simp only [hx,ne_eq,not_true,decide_false,Bool.false_eq_true,if_false]
     rw [List.filter_eq_self]
     intro y hy
     have:y.1≠n:=fun e=>hn (by rw [<-e];exact List.mem_map.2 ⟨y,hy,rfl⟩)
     simp [this]
    rw [hd,rows_cons,if_pos hx]
    simp only [List.map_cons,List.sum_cons]
    omega
   ·have hd:delD (x :: D) n=x :: delD D n:=by simp [delD,hx]
    rw [hd,rows_cons,if_neg hx]
    simp only [List.map_cons,List.sum_cons]
    omega
 have hset:∀(D:DB),RiseD D->((setD D n r).map (fun x=>f x.2)).sum+f (rowsOf D n)=(D.map (fun x=>f x.2)).sum+f r:=by
  intro D
  induction D with
  | nil=>intro _;simp [setD,rowsOf,hf]
  | cons x D ih =>
   intro h
   have h':=List.pairwise_cons.1 h
   have ih:=ih h'.2
   unfold setD
   by_cases hx:x.1=n
   ·rw [if_pos hx,rows_cons,if_pos hx]
    simp only [List.map_cons,List.sum_cons]
    omega
   ·rw [if_neg hx,rows_cons,if_neg hx]
    by_cases hc:cmpL n x.1<0
    ·have hn:n ∉ namesD D:=fun hm=>by
      obtain ⟨y,hy,e⟩:=List.mem_map.1 hm
      have:=Names.cmp_lt_trans (A:=n) (B:=x.1) (C:=y.1) (by omega) (h'.1 y hy)
      rw [e,Names.cmp_self] at this
      omega
     rw [if_pos hc,rows_none hn,hf]
     simp only [List.map_cons,List.sum_cons]
     omega
    ·rw [if_neg hc]
     simp only [List.map_cons,List.sum_cons]
     omega
 unfold standD
 split
 ·rename_i hr
  rw [List.eq_nil_of_length_eq_zero hr,hf]
  exact hdel D h
 ·exact hset D h
theorem size_del (l:List PRow)(k:Bs):sizeL (delL l k)<=sizeL l:=by
 unfold delL sizeL
 rw [List.map_append,List.sum_append]
 have h:=end_ge l k
 conv=>rhs;rw [<-List.take_append_drop (rankL l k) l,List.map_append,List.sum_append]
 have:((l.drop (endL l k)).map fun r=>r.1.length+r.2.length).sum<=((l.drop (rankL l k)).map fun r=>r.1.length+r.2.length).sum:=by
  have e:l.drop (endL l k)=(l.drop (rankL l k)).drop (endL l k-rankL l k):=by rw [List.drop_drop];congr 1;omega
  rw [e]
  generalize l.drop (rankL l k)=M
  conv=>rhs;rw [<-List.take_append_drop (endL l k-rankL l k) M,List.map_append,List.sum_append]
  omega
 omega
structure DbQ (q:Int × Int)(D:DB):Prop where
 good:GoodD D
 may:mayQ q=true
 within:aboveD q D=0
theorem DbQ.len {q:Int × Int}{D:DB}(h:DbQ q D):(lenD D:Int)<=q.1/\(sizeD D:Int)<=q.2/\lenD D<=4096:=by
 have h1:=h.within
 have h2:=h.may
 unfold mayQ at h2
 simp at h2
 unfold aboveD at h1
 split at h1
 ·omega
 ·split at h1
  ·omega
  ·omega
theorem dbq_of {q:Int × Int}{D D':DB}(h:DbQ q D)(hg:GoodD D')(h1:lenD D'<=lenD D)(h2:sizeD D'<=sizeD D):DbQ q D':=by
 refine ⟨hg,h.may,?_⟩
 have:=h.len
 unfold aboveD
 rw [if_neg (by omega),if_neg (by omega)]
theorem opD_ok {q:Int × Int}{D D':DB}{o:POp}{r:POut}(h:DbQ q D)(hm:mayOp o=true)(ho:opD q D o=.ok (r,D')):DbQ q D':=by
 have hl:=h.len
 unfold opD at ho
 split at ho
 ·simp at ho
  rw [<-ho.2]
  exact h
 ·split at ho
  ·rename_i h3
   simp at ho
   rw [<-ho.2]
   have e1:=sum_stand h.good.rise o.table (delL (rowsOf D o.table) o.key) List.length rfl
   have e2:=sum_stand h.good.rise o.table (delL (rowsOf D o.table) o.key) sizeL rfl
   have d1:=del_len (rowsOf D o.table) o.key
   have d2:=size_del (rowsOf D o.table) o.key
   refine dbq_of h (good_remD h.good (by omega)) ?_ ?_
   ·unfold remD lenD
    omega
   ·unfold remD sizeD
    omega
  ·split at ho
   ·simp at ho
    rw [<-ho.2]
    exact h
   ·rename_i h1 h3 h5
    split at ho
    ·simp at ho
    ·unfold putR at ho
     split at ho
     ·rename_i ha
      simp at ho
      rw [<-ho.2]
      refine ⟨good_putD h.good ?_ (by omega),h.may,ha⟩
      unfold okP
      rw [may_key hm h5,may_value hm]
      rfl
     ·simp at ho
end Go.Proofs.YtakmlhhapegpoaaGreat
namespace Go.Proofs.YtakmlhhapegpoaaGreat
open Go.RowKit Disk Table
open _root_.Go.Proofs.YtakmlhhapegpoaaGreat.Calls (POp POut PRes)
def OutsY (Y:Nat->Prop)(w:World)(B:Nat)(v:Value)(l:List POut):Prop:=∃ks,w.ownsRow B 72 3 v l.length (ocells ks)/\OutL w B ks l/\Clean w v/\∀k ∈ ks,InY Y k.2.1/\RowsY Y w k.2.2
theorem OutsY.n {Y:Nat->Prop}{w:World}{B:Nat}{v:Value}{l:List POut}(h:OutsY Y w B v l):OutsN w B v l:=by
 obtain ⟨ks,h1,h2,h3,_⟩:=h
 exact ⟨ks,h1,h2,h3⟩
theorem outY_same {Y:Nat->Prop}{w w':World}{B:Nat}{ks:List (Bool × Value × Value)}{l:List POut}(h2:OutL w B ks l)(h4:∀k ∈ ks,InY Y k.2.1/\RowsY Y w k.2.2)(hs:∀g c,Blk w g 86 c->w'.heap[g]? = w.heap[g]?):∀k ∈ ks,InY Y k.2.1/\RowsY Y w' k.2.2:=fun k hk=>by
 obtain ⟨j,hj,rfl⟩:=List.getElem_of_mem hk
 exact ⟨(h4 _ hk).1,rowsY_same (h4 _ hk).2 (h2.2 j hj (by rw [<-h2.1];exact hj)).rows (fun g c _ hb=>hs g c hb)⟩
theorem OutsY.grown {Y:Nat->Prop}{w w':World}{B:Nat}{v:Value}{l:List POut}(h:OutsY Y w B v l)(hg:w.grownBy w' none):OutsY Y w' B v l:=by
 obtain ⟨ks,h1,h2,h3,h4⟩:=h
 exact ⟨ks,World.ownsRow.kept h1 hg (by cases v.ownBlock <;> simp),⟨h2.1,fun j a b=>(h2.2 j a b).grown hg⟩,h3.same fun g he=>hg.block g (World.ownsRow.lt h1 g he).2 (by simp),outY_same h2 h4 (fun g c hb=>hg.block g hb.lt (by simp))⟩
theorem OutsY.kept {Y:Nat->Prop}{w w':World}{B:Nat}{v:Value}{l:List POut}(h:OutsY Y w B v l)(ht:Tn 0 w w'):OutsY Y w' B v l:=by
 obtain ⟨ks,h1,h2,h3,h4⟩:=h
 have key:∀g,v.ownBlock=some g->w'.heap[g]? = w.heap[g]?:=fun g he=>by
  rcases h1.2 with ⟨e,_⟩ | ⟨g2,cap,cur,e,hb,hg,rest⟩
  ·rw [e] at he;simp [Value.ownBlock] at he
  ·rw [e] at he
   simp [Value.ownBlock] at he
   subst he
   exact ht.block g2 (Array.getElem?_eq_some_iff.1 hg).1 (.inr ⟨_,_,_,hg⟩)
 refine ⟨ks,⟨h1.1,?_⟩,⟨h2.1,fun j a b=>(h2.2 j a b).kept ht⟩,h3.same key,outY_same h2 h4 (fun g c hb=>ht.block g hb.lt (.inr ⟨_,_,_,hb⟩))⟩
 rcases h1.2 with e | ⟨g,cap,cur,e,hb,hg,rest⟩
 ·exact .inl e
 ·exact .inr ⟨g,cap,cur,e,hb,(key g (by rw [e];rfl)).trans hg,rest⟩
theorem OutsY.off {Y:Nat->Prop}{w w':World}{B:Nat}{v:Value}{l:List POut}(h:OutsY Y w B v l){g t:Nat}{c:Array Value}(hg:w.grownBy w' (some g))(hb:Blk w g t c)(h72:t≠72)(h86:t≠86)(h5:t≠5):OutsY Y w' B v l:=by
 obtain ⟨ks,h1,h2,h3,h4⟩:=h
 have key:v.ownBlock≠some g:=fun e=>by
  rcases h1.2 with ⟨e2,_⟩ | ⟨g2,cap2,cur2,e2,_,hg2,_⟩
  ·rw [e2] at e;simp [Value.ownBlock] at e
  ·rw [e2] at e
   simp [Value.ownBlock] at e
   subst e
   unfold Blk at hb
   rw [hg2] at hb
   simp at hb
   exact h72 hb.2.symm
 refine ⟨ks,World.ownsRow.kept h1 hg (.inr key),⟨h2.1,fun j a b=>(h2.2 j a b).off hg hb h86 h5⟩,h3.same fun g' he=>hg.block g' (World.ownsRow.lt h1 g' he).2 (fun e=>key (by rw [he,e])),outY_same h2 h4 (fun g' c' hb'=>hg.block g' hb'.lt (fun e=>?_))⟩
 simp at e
 subst e
 unfold Blk at hb hb'
 rw [hb'] at hb
 simp at hb
 exact h86 hb.2.symm
theorem OutsY.nil (Y:Nat->Prop)(w:World)(B:Nat):OutsY Y w B (.slice none 0 0) []:=⟨[],World.ownsRow_nil _ _ _ _,⟨rfl,fun j h=>absurd h (by simp)⟩,fun g c hg=>by simp [Value.ownBlock] at hg,by simp⟩
theorem OutsY.mono {Y:Nat->Prop}{w:World}{B B':Nat}{v:Value}{l:List POut}(h:OutsY Y w B v l)(hB:B'<=B):OutsY Y w B' v l:=by
 obtain ⟨ks,k1,k2,k3,k4⟩:=h
 exact ⟨ks,owns_mono k1 hB,⟨k2.1,fun j a b=>⟨(k2.2 j a b).has,(k2.2 j a b).value.mono hB,(k2.2 j a b).rows.mono hB⟩⟩,k3,k4⟩
theorem OutsY.wide {Y Z:Nat->Prop}{w:World}{B:Nat}{v:Value}{l:List POut}(h:OutsY Y w B v l)(hi:∀g,Y g->Z g):OutsY Z w B v l:=by
 obtain ⟨ks,k1,k2,k3,k4⟩:=h
 exact ⟨ks,k1,k2,k3,fun k hk=>⟨(k4 k hk).1.mono hi,(k4 k hk).2.mono hi⟩⟩
theorem appY_wp {Y:Nat->Prop}{o:Oper}{a:Act}{K:Act->World->Prop}{Q:Exit->Act->World->Prop}(w:World)(s x:Operand)(ho:o.op=.call { callee:=.builtin .append,args:=#[s,x],argTypes:=#[47,47] })
  (B:Nat) (v:Value) (l:List POut) (u:Value) (k:Bool × Value × Value) (r:POut) (hs:a.eval s=v) (hx:a.eval x=u) (hv:OutsY Y w B v l) (hu:Vec w 3 u 1 [.bool k.1,k.2.1,k.2.2]) (hk:OutN w B k r) (hY1:InY Y k.2.1) (hY2:RowsY Y w k.2.2) (h1:k.2.1.oneCell'=true) (h2:k.2.2.oneCell'=true) (hb:l.length<=1000000) (hB:B<=w.heap.size)
  (h:∀ao cap w' q,OutsY Y w' B (.slice ao (l.length+1) cap) (l ++ [r])->w.grownBy w' q->(∀g,q=some g->B<=g/\∃c,Blk w g 72 c/\∀u ∈ c.toList,noP u)->K (a.put o.dst (.slice ao (l.length+1) cap)) w'):o.wp Tryz.prog a w K Q:=by
 obtain ⟨ks,h3,h4,hcl,hY⟩:=hv
 have h5:=h4.snoc hk
 obtain ⟨i0,hi,hz0,hz1,hz2⟩:=info_parts Tryz.info72
 obtain ⟨ad,c,eu⟩:∃ad c,u=.slice (some ad) 1 c:=by
  obtain ⟨ao,c,e,k1,_,k3,_⟩:=hu
  cases ao with
  | none=>have:=k3 rfl;omega
  | some ad=>exact ⟨ad,c,e⟩
 subst eu
 have hone:∀u ∈ [.bool k.1,k.2.1,k.2.2],u.oneCell'=true:=by
  intro y hy
  simp at hy
  rcases hy with rfl | rfl | rfl
  ·rfl
  ·exact h1
  ·exact h2
 have hnop:∀u ∈ [.bool k.1,k.2.1,k.2.2],noP u:=by
  intro y hy
  simp at hy
  rcases hy with rfl | rfl | rfl
  ·intro p;simp [ptr]
  ·exact own_noP hk.value
  ·exact trws_noP hk.rows
 obtain ⟨g,cap,w',hr,r1,r2,r3,_⟩:=run_append_lies (P:=Tryz.prog) w 47 o.type B 72 i0 _ 3 56 ut47 hi hz0 hz1 hz2 rfl (by decide) v l.length (ocells ks) h3 ad 1 c [.bool k.1,k.2.1,k.2.2] rfl hu.news hone (by decide) (by unfold maxLen;omega) (by omega) hB w.heap.size rfl
 have hcl':=append_clean h3 hcl (outL_noP h4) rfl hu.news hone hnop hb hr
 have hq:∀g,v.ownBlock=some g->B<=g/\∃c,Blk w g 72 c/\∀u ∈ c.toList,noP u:=fun g hg=>by
  refine ⟨(World.ownsRow.lt h3 g hg).1,?_⟩
  rcases h3.2 with ⟨e2,_⟩ | ⟨g2,cap2,cur2,e2,_,hg2,_⟩
  ·rw [e2] at hg;simp [Value.ownBlock] at hg
  ·have hg0:=hg
   rw [e2] at hg
   simp [Value.ownBlock] at hg
   subst hg
   exact ⟨cur2,hg2,hcl g2 cur2 hg0 hg2⟩
 unfold Oper.wp execOp
 simp only [ho,resolve,invoke,builtin,Sem.run_bind,Sem.run_pure,Result.andThen_ok,List.map_toArray,List.map_cons,List.map_nil,hs,hx,hr]
 refine h _ cap w' _ ⟨ks ++ [k],?_,⟨h5.1,fun j a b=>?_⟩,hcl',?_⟩ r2 hq
 ·rw [ocells_append,List.length_append]
  exact r1
 ·cases hob:v.ownBlock with
  | none =>
   rw [hob] at r2
   exact (h5.2 j a b).grown r2
  | some g =>
   rw [hob] at r2
   obtain ⟨_,c,hb,_⟩:=hq g hob
   exact (h5.2 j a b).off r2 hb (by decide) (by decide)
 ·refine outY_same h5 (fun k' hk'=>?_) (fun g c hb=>r2.block g hb.lt (fun e=>?_))
  ·rcases List.mem_append.1 hk' with h | h
   ·exact hY k' h
   ·simp at h
    subst h
    exact ⟨hY1,hY2⟩
  ·obtain ⟨_,c',hc',_⟩:=hq g e.symm
   unfold Blk at hb hc'
   rw [hb] at hc'
   simp at hc'
end Go.Proofs.YtakmlhhapegpoaaGreat
namespace Go.Proofs.YtakmlhhapegpoaaGreat
open Go.RowKit Disk Table
open Names (Str cmpL keyB valueB tabB)
open _root_.Go.Proofs.YtakmlhhapegpoaaGreat.Calls (POp POut PRes opV OpSeg mayOp Ops OpAt ops_at ops_open)
theorem res59 {w:World}{tmps:Array Value}{ob rb:Nat}{u x y z:Value}(h4:tmps[4]? = some (.pointer (some ⟨ob,0,none⟩)))(h5:tmps[5]? = some (.pointer (some ⟨rb,0,none⟩)))(ho:Blk w ob 28 #[u])(hr:Blk w rb 49 #[x,y,z])(hu:∃p,u=.pointer p):(results Tryz.f59 tmps).run Tryz.prog w=.ok (.tuple #[u,.agg #[x,y,z]]) w:=by
 obtain ⟨p,rfl⟩:=hu
 have c0:=ho.cell 0
 simp at c0
 have hl:(loadVar 28 ⟨ob,0,none⟩).run Tryz.prog w=.ok (.pointer p) w:=by simp [go_sem,c0]
 simp [results,Tryz.results59,h4,h5,asAddr,hl,run_loadVar_row w rb 49 49 #[x,y,z] (0,0) _ hr Tryz.underlying49 rfl (by kernel_rfl),Result.andThen]
theorem tbz_offT {X:Nat->Prop}{w w':World}{p g t:Nat}{l:List PRow}{c:Array Value}(h:Tbz X w p l)(hg:w.grownBy w' (some g))(hb:Blk w g t c)(h86:t≠86)(h5:t≠5)(h128:t≠128)(hc:∀u ∈ c.toList,noP u):Tbz X w' p l:=by
 obtain ⟨x,h1,ps,h2,h3⟩:=h
 refine ⟨x,h1.grown hg (fun e=>?_),ps,h2.off hg hb h86 h5,h3.cells fun g' j u hu hx=>?_⟩
 ·simp at e
  subst e
  unfold Blk at h1 hb
  rw [h1] at hb
  simp at hb
  exact h128 hb.2.symm
 ·refine hg.cell hx ?_
  intro e
  simp at e
  subst e
  simp [PTR] at hu
  obtain ⟨p',_,rfl⟩:=hu
  rw [hb.cell] at hx
  exact hc (ptr p') (by rw [Array.mem_toList_iff];exact Array.mem_of_getElem? hx) p' rfl
theorem em_offT {X:Nat->Prop}{w w':World}{m g t:Nat}{D:DB}{c:Array Value}(h:EM X w m D)(hg:w.grownBy w' (some g))(hb:Blk w g t c)(h86:t≠86)(h5:t≠5)(h128:t≠128)(hc:∀u ∈ c.toList,noP u):EM X w' m D:=by
 obtain ⟨E,h1,h2,h3⟩:=h
 exact ⟨E,h1.grown hg (by intro e;simp at e;subst e;exact Blk.notMap hb h1),h2,fun x hx=>tbz_offT (h3 x hx) hg hb h86 h5 h128 hc⟩
theorem noP3 (i j:Int)(a:Option Addr)(n c:Nat):∀u ∈ (#[Value.int .i64 i,.int .i64 j,.slice a n c]:Array Value).toList,noP u:=by
 intro u hu p
 simp at hu
 rcases hu with rfl | rfl | rfl <;> simp [ptr]
def BehE (X:Nat->Prop)(q:Int × Int)(D:DB)(l:List POp)(m:Nat)(w:World)(e:Ending)(w':World):Prop :=
 w.grownBy w' none/\((∃outs D',callD q D [] l=.ok (outs,D')/\DbQ q D'/\∃db v,e=.returned (.tuple #[ptr db,.agg #[.int .i64 0,.int .i64 0,v]])/\w.heap.size<=db/\Eng X w' db q D'/\OutsN w' w.heap.size v outs) ∨
  (∃c n,callD q D [] l=.error (c,n)/\∃cb,e=.returned (.tuple #[ptr cb,.agg #[.int .i64 c,.int .i64 (n:Int),.slice none 0 0]])/\w.heap.size<=cb/\EngB w' cb q m))
def BehEY (X:Nat->Prop)(q:Int × Int)(D:DB)(l:List POp)(m:Nat)(w:World)(e:Ending)(w':World):Prop :=
 w.grownBy w' none/\((∃outs D',callD q D [] l=.ok (outs,D')/\DbQ q D'/\∃db v Y,e=.returned (.tuple #[ptr db,.agg #[.int .i64 0,.int .i64 0,v]])/\w.heap.size<=db/\(∀g,Y g->w.heap.size<=g/\g<w'.heap.size)/\Eng (XY X Y) w' db q D'/\OutsY Y w' w.heap.size v outs) ∨
  (∃c n,callD q D [] l=.error (c,n)/\∃cb,e=.returned (.tuple #[ptr cb,.agg #[.int .i64 c,.int .i64 (n:Int),.slice none 0 0]])/\w.heap.size<=cb/\EngB w' cb q m))
theorem eng_anti {X Z:Nat->Prop}{w:World}{b:Nat}{q:Int × Int}{D:DB}(h:Eng X w b q D)(hi:∀g,Z g->X g):Eng Z w b q D:=by
 obtain ⟨m,h1,h2⟩:=h
 exact ⟨m,h1,em_anti h2 hi⟩
theorem BehEY.beh {X:Nat->Prop}{q:Int × Int}{D:DB}{l:List POp}{m:Nat}{w w':World}{e:Ending}(h:BehEY X q D l m w e w'):BehE X q D l m w e w':=by
 obtain ⟨h0,⟨outs,D',h1,h2,db,v,Y,h3,h4,_,h5,h6⟩ | h⟩:=h
 ·exact ⟨h0,.inl ⟨outs,D',h1,h2,db,v,h3,h4,eng_anti h5 (fun g hx=>.inl hx),h6.n⟩⟩
 ·exact ⟨h0,.inr h⟩
theorem behind59y {X:Nat->Prop}(b m:Nat)(q:Int × Int)(D:DB)(hD:DbQ q D)(v:Value)(l:List POp)(hmay:∀o ∈ l,mayOp o=true)(hl6:l.length<=1000)(w:World)(hX:∀g,X g->g<w.heap.size)(hb:EngB w b q m)(hm:EM X w m D)(hv:Ops w v l):Calls Tryz.prog 59 #[.pointer (some ⟨b,0,none⟩),.agg #[v]] w (BehEY X q D l m w):=by
 obtain ⟨ao,n,cap,rfl,hn,hn2,HV⟩:=ops_open hv
 have hmf:∀(fn:Fn) (first cap:Array Value) (w:World),(Instr.makeFunc fn first cap).run Tryz.prog w=.ok (.func fn first cap) w:=fun _ _ _ _=>rfl
 have HH:Hid (DbQ q D/\(∀o ∈ l,mayOp o=true)/\l.length=n/\(∀g,X g->g<w.heap.size)/\EngB w b q m/\EM X w m D/\l.length<=1000):=⟨hD,hmay,hn,hX,hb,hm,hl6⟩
 have hn6:n<=1000:=by omega
 clear hv hD hmay hn hX hb hm hn2 hl6
 go_enter_defers Tryz.func59,Tryz.ntmps59
 go_wp2_with fail
 obtain ⟨w1,hw1,H1⟩:=al w #[.pointer (some ⟨b,0,none⟩)] 28
 rw [hw1]
 obtain ⟨w2,hw2,H2⟩:=al w1 #[.slice ao n cap] 37
 rw [hw2]
 obtain ⟨w3,hw3,H3⟩:=al w2 #[.pointer none] 28
 rw [hw3]
 obtain ⟨w4,hw4,H4⟩:=al w3 #[.int .i64 0,.int .i64 0,.slice none 0 0] 49
 rw [hw4]
 obtain ⟨eb,heb⟩:∃x,w.heap.size=x:=⟨_,rfl⟩
 obtain ⟨cb,hcb⟩:∃x,w.heap.size+1=x:=⟨_,rfl⟩
 obtain ⟨ob,hob⟩:∃x,w.heap.size+1+1=x:=⟨_,rfl⟩
 obtain ⟨rb,hrb⟩:∃x,w.heap.size+1+1+1=x:=⟨_,rfl⟩
 have s1:=H1.out.2.2
 have s2:=H2.out.2.2
 have s3:=H3.out.2.2
 have HB:Hid (w.grownBy w4 none/\Blk w4 eb 28 #[.pointer (some ⟨b,0,none⟩)]/\Blk w4 cb 37 #[.slice ao n cap]/\Blk w4 ob 28 #[.pointer none]/\Blk w4 rb 49 #[.int .i64 0,.int .i64 0,.slice none 0 0]):=by
  refine ⟨grown_trans H1.out.2.1 (grown_trans H2.out.2.1 (grown_trans H3.out.2.1 H4.out.2.1)),?_,?_,?_,?_⟩
  ·rw [<-heb];exact ((H1.out.1.grown H2.out.2.1 (by simp)).grown H3.out.2.1 (by simp)).grown H4.out.2.1 (by simp)
  ·rw [<-hcb,<-s1];exact (H2.out.1.grown H3.out.2.1 (by simp)).grown H4.out.2.1 (by simp)
  ·rw [<-hob,<-s1,<-s2];exact H3.out.1.grown H4.out.2.1 (by simp)
  ·rw [<-hrb,<-s1,<-s2,<-s3];exact H4.out.1
 have HZ:Hid (w.heap.size=eb/\w.heap.size<ob/\w.heap.size<rb/\ob<rb/\eb<ob/\w.heap.size<cb):=⟨heb,by omega,by omega,by omega,by omega,by omega⟩
 have hw0:Hid (w.heap.size=eb):=heb
 rw [hrb,hob,hcb,heb]
 clear hw1 hw2 hw3 hw4 H1 H2 H3 H4 s1 s2 s3 heb hcb hob hrb
 refine wp_region_noPanic ?_
 refine wp_region_hold 1000 (fun y=>w4.grownBy y none) (by kernel_rfl) ?_
 have HC:Hid (∀y,w4.grownBy y none->y.cell? ⟨eb,0,none⟩=some (.pointer (some ⟨b,0,none⟩))/\y.cell? ⟨b,0,none⟩=some (.int .i64 q.1)/\y.cell? ⟨b,1,none⟩=some (.int .i64 q.2)/\y.cell? ⟨b,2,none⟩=some (.map (some m))):=fun y hy=>by
  have h1:=HB.out.2.1.grown hy (by simp)
  have h2:=Blk.grown HH.out.2.2.2.2.1 (grown_trans HB.out.1 hy) (by simp)
  exact ⟨h1.cell 0,h2.cell 0,h2.cell 1,h2.cell 2⟩
 have G0:Hid (w4.grownBy w4.drew none):=grown_drew _ _
 generalize w4.drew=wd at G0 ⊢
 have J:Idx [0,1,2,3,4,5,6,7]:=trivial
 iterate 8 (refine tK J (G0.out) rfl rfl (fun wk hk=>by obtain ⟨z0,z1,z2,z3⟩:=HC.out wk hk;go_simp;try rfl) ?_;replace J:=J.tl;try simp only [pN])
 clear J
 refine wpHold_one (i:=8) rfl (by kernel_rfl) (by rfl) (fun K hK=>?_)
 go_wp2_with fail
 refine (clone89 (X:=X) m D wd (HH.out.2.2.2.2.2.1.grown (grown_trans HB.out.1 G0.out))).mono ?_
 rintro e w5 ⟨rfl,hem5,g5⟩
 obtain ⟨mb,hmb⟩:∃mb,wd.heap.size=mb:=⟨_,rfl⟩
 have H5:Hid (EM X w5 mb D/\w4.grownBy w5 none/\w4.heap.size<=mb):=⟨by rw [<-hmb];exact hem5,grown_trans G0.out g5,by rw [<-hmb];exact G0.out.size⟩
 rw [hmb]
 clear hem5 g5 hmb
 go_wp2_with fail
 refine hK.out _ _ (fun _=>H5.out.2.1) ?_
 clear hK K
 try simp only [pN]
 refine tK (i:=9) (l':=[]) trivial (H5.out.2.1) rfl rfl (fun wk hk=>by obtain ⟨z0,z1,z2,z3⟩:=HC.out wk hk;go_simp;try rfl) ?_
 try simp only [pN]
 refine wpHold_one (i:=10) rfl (by kernel_rfl) (by rfl) (fun K hK=>?_)
 go_wp2_with fail
 obtain ⟨w6,hw6,H6⟩:=al w5 #[.int .i64 q.1,.int .i64 q.2,.map (some mb)] 64
 rw [hw6]
 clear hw6
 obtain ⟨db,hdb⟩:∃db,w5.heap.size=db:=⟨_,rfl⟩
 have H7:Hid (EngB w6 db q mb/\EM X w6 mb D/\w4.grownBy w6 none/\w4.heap.size<=mb/\w4.heap.size<=db):=⟨by rw [<-hdb];exact H6.out.1,H5.out.1.grown H6.out.2.1,grown_trans H5.out.2.1 H6.out.2.1,H5.out.2.2,by rw [<-hdb];exact H5.out.2.1.size⟩
 rw [hdb]
 clear hdb H6
 refine hK.out _ _ (fun _=>H7.out.2.2.1) ?_
 clear hK K
 try simp only [pN]
 refine tK (i:=11) (l':=[]) trivial (H7.out.2.2.1) rfl rfl (fun wk hk=>by obtain ⟨z0,z1,z2,z3⟩:=HC.out wk hk;go_simp;try rfl) ?_
 try simp only [pN]
 refine wpHold_done (by kernel_rfl) ?_
 refine (‹∀(a:Act) (w:World),Code.wp Tryz.prog _ _ a w->_› _ _ ?_)
 have hc6:=HB.out.2.2.1.grown H7.out.2.2.1 (by simp)
 have cc:=hc6.cell 0
 simp at cc
 go_wp2_with fail
 go_loopw [24] (fun i wr=>∃(k:Nat) (D1:DB) (outs:List POut) (a:Option Addr) (cp:Nat) (Y:Nat->Prop),k<=n/\i=.int .i64 (k:Int)/\Hid (∀g,Y g->w.heap.size<=g/\g<wr.heap.size)/\Hid (callD q D [] l=callD q D1 outs (l.drop k)/\outs.length=k/\DbQ q D1/\EngB wr db q mb/\EM (XY X Y) wr mb D1/\Blk wr eb 28 #[.pointer (some ⟨b,0,none⟩)]/\Blk wr ob 28 #[.pointer none]/\Blk wr rb 49 #[.int .i64 0,.int .i64 0,.slice a k cp]/\OutsY Y wr w.heap.size (.slice a k cp) outs/\w.grownBy wr none)) (fun i _=>n-(intOf i).toNat)
 case atStart=>exact ⟨0,D,[],none,0,noY,Nat.zero_le _,rfl,fun g hg=>hg.elim,by simp,rfl,HH.out.1,H7.out.1,em_noY H7.out.2.1,HB.out.2.1.grown H7.out.2.2.1 (by simp),HB.out.2.2.2.1.grown H7.out.2.2.1 (by simp),HB.out.2.2.2.2.grown H7.out.2.2.1 (by simp),OutsY.nil _ _ _,grown_trans HB.out.1 H7.out.2.2.1⟩
 case round =>
  obtain ⟨k,D1,outs,a,cp,Y,hk,rfl,HY,HR⟩:=hrel
  rcases Nat.lt_or_ge k n with hlt | hge
  ·have ka:k<l.length:=by rw [HH.out.2.2.1];exact hlt
   obtain ⟨b1,o1,kv,vv,ol,tv,rfl,hat,hsg⟩:=ops_at HV.out k ka
   obtain ⟨o,ho⟩:∃o,l[k]=o:=⟨_,rfl⟩
   rw [ho] at hat hsg
   have hdr:l.drop k=o :: l.drop (k+1):=by rw [<-ho];exact List.drop_eq_getElem_cons ka
   obtain ⟨a1,n1,c1,a2,n2,c2,a3,n3,c3,a4,n4,c4,rfl,rfl,rfl,rfl⟩:=op_shape hsg
   have hat':=hat.grown HR.out.2.2.2.2.2.2.2.2.2
   obtain ⟨t0,t1,t2,t3,t4,t5,t6,t7⟩:=hat'
   have HO:Hid (OpSeg w (.slice a1 n1 c1) (.slice a2 n2 c2) (.slice a3 n3 c3) (.slice a4 n4 c4) o/\mayOp o=true/\l.drop k=o :: l.drop (k+1)):=⟨hsg,HH.out.2.1 o (by rw [<-ho];exact List.getElem_mem ka),hdr⟩
   have i0:(0:Int)<=(k:Int):=by omega
   have i1:(k:Int)<(n:Int):=by omega
   unfold Str at t1
   clear hat hsg hdr ho ka
   go_wp2_with fail
   obtain ⟨w7,hw7,H8⟩:=al wr #[.int .i64 o.kind,.string ⟨o.table.toArray⟩,.slice a1 n1 c1,.slice a2 n2 c2,.bool o.has,.slice a3 n3 c3,.slice a4 n4 c4,.int .i64 o.most] 67
   rw [hw7]
   clear hw7 t0 t1 t2 t3 t4 t5 t6 t7
   obtain ⟨pb,hpb⟩:∃pb,wr.heap.size=pb:=⟨_,rfl⟩
   have H9:Hid (Blk w7 pb 67 #[.int .i64 o.kind,.string ⟨o.table.toArray⟩,.slice a1 n1 c1,.slice a2 n2 c2,.bool o.has,.slice a3 n3 c3,.slice a4 n4 c4,.int .i64 o.most]/\wr.grownBy w7 none):=⟨by rw [<-hpb];exact H8.out.1,H8.out.2.1⟩
   rw [hpb]
   clear hpb H8
   refine wp_region_hold 8 (fun y=>Blk y rb 49 #[.int .i64 0,.int .i64 0,.slice a k cp]/\Blk y pb 67 #[.int .i64 o.kind,.string ⟨o.table.toArray⟩,.slice a1 n1 c1,.slice a2 n2 c2,.bool o.has,.slice a3 n3 c3,.slice a4 n4 c4,.int .i64 o.most]) (by kernel_rfl) ?_
   have G8:Hid (wr.grownBy w7.drew none):=grown_trans H9.out.2 (grown_drew _ _)
   have HD8:Hid (Blk w7.drew rb 49 #[.int .i64 0,.int .i64 0,.slice a k cp]/\Blk w7.drew pb 67 #[.int .i64 o.kind,.string ⟨o.table.toArray⟩,.slice a1 n1 c1,.slice a2 n2 c2,.bool o.has,.slice a3 n3 c3,.slice a4 n4 c4,.int .i64 o.most]):=⟨HR.out.2.2.2.2.2.2.2.1.grown G8.out (by simp),H9.out.1.grown (grown_drew _ none) (by simp)⟩
   generalize w7.drew=wd8 at G8 HD8 ⊢
   refine wpHold_take (i:=0) (v:=_) (HD8.out) rfl rfl (by kernel_rfl) (by kernel_rfl) (by kernel_rfl) (by kernel_rfl) (by kernel_rfl) (fun c a w h=>leaves59 (by decide) (by decide) _ c a w h) (by rfl) (fun wk hk=>by have y2:=hk.1.cell 2;have x0:=hk.2.cell 0;have x1:=hk.2.cell 1;have x2:=hk.2.cell 2;have x3:=hk.2.cell 3;have x4:=hk.2.cell 4;have x5:=hk.2.cell 5;have x6:=hk.2.cell 6;have x7:=hk.2.cell 7;simp at y2 x0 x1 x2 x3 x4 x5 x6 x7;go_simp;try rfl) ?_
   try simp only [pN]
   refine wpHold_take (i:=1) (v:=_) (HD8.out) rfl rfl (by kernel_rfl) (by kernel_rfl) (by kernel_rfl) (by kernel_rfl) (by kernel_rfl) (fun c a w h=>leaves59 (by decide) (by decide) _ c a w h) (by rfl) (fun wk hk=>by have y2:=hk.1.cell 2;have x0:=hk.2.cell 0;have x1:=hk.2.cell 1;have x2:=hk.2.cell 2;have x3:=hk.2.cell 3;have x4:=hk.2.cell 4;have x5:=hk.2.cell 5;have x6:=hk.2.cell 6;have x7:=hk.2.cell 7;simp at y2 x0 x1 x2 x3 x4 x5 x6 x7;go_simp;try rfl) ?_
   try simp only [pN]
   refine wpHold_take (i:=2) (v:=_) (HD8.out) rfl rfl (by kernel_rfl) (by kernel_rfl) (by kernel_rfl) (by kernel_rfl) (by kernel_rfl) (fun c a w h=>leaves59 (by decide) (by decide) _ c a w h) (by rfl) (fun wk hk=>by have y2:=hk.1.cell 2;have x0:=hk.2.cell 0;have x1:=hk.2.cell 1;have x2:=hk.2.cell 2;have x3:=hk.2.cell 3;have x4:=hk.2.cell 4;have x5:=hk.2.cell 5;have x6:=hk.2.cell 6;have x7:=hk.2.cell 7;simp at y2 x0 x1 x2 x3 x4 x5 x6 x7;go_simp;try rfl) ?_
   try simp only [pN]
   refine wpHold_take (i:=3) (v:=_) (HD8.out) rfl rfl (by kernel_rfl) (by kernel_rfl) (by kernel_rfl) (by kernel_rfl) (by kernel_rfl) (fun c a w h=>leaves59 (by decide) (by decide) _ c a w h) (by rfl) (fun wk hk=>by have y2:=hk.1.cell 2;have x0:=hk.2.cell 0;have x1:=hk.2.cell 1;have x2:=hk.2.cell 2;have x3:=hk.2.cell 3;have x4:=hk.2.cell 4;have x5:=hk.2.cell 5;have x6:=hk.2.cell 6;have x7:=hk.2.cell 7;simp at y2 x0 x1 x2 x3 x4 x5 x6 x7;go_simp;try rfl) ?_
   try simp only [pN]
   refine wpHold_one (i:=4) rfl (by kernel_rfl) (by rfl) (fun K hK=>?_)
   go_wp2_with fail
   refine (op90y (X:=XY X Y) db mb q D1 HR.out.2.2.1.good (by have:=HR.out.2.2.1.len;omega) _ _ _ _ o HO.out.2.1 wd8 (fun g hg=>by have:=(grown_trans HR.out.2.2.2.2.2.2.2.2.2 G8.out).size;have:=G8.out.size;rcases hg with hg | hg;exact Nat.lt_of_lt_of_le (HH.out.2.2.2.1 g hg) (by omega);exact Nat.lt_of_lt_of_le (HY.out g hg).2 (by omega)) (Blk.grown HR.out.2.2.2.1 G8.out (by simp)) (HR.out.2.2.2.2.1.grown G8.out) (HO.out.1.grown (grown_trans HR.out.2.2.2.2.2.2.2.2.2 G8.out))).mono ?_
   rintro e w9 ⟨g9,⟨r,D2,hop,x,y,Y',rfl,hx,hy,hx',hy',hYb,hem⟩ | ⟨c,hop,rfl⟩⟩
   case inr =>
    have tn9:Tn 0 wd8 w9:=tn_at (HR.out.2.2.2.2.1.grown G8.out).choose_spec.1 g9
    have hcall:callD q D [] l=.error (c,k):=by rw [HR.out.1,HO.out.2.2];unfold callD;rw [hop];simp only;rw [HR.out.2.1]
    have hgw:w.grownBy w9 none:=grown_new (grown_trans HR.out.2.2.2.2.2.2.2.2.2 G8.out) g9 (fun x hx=>by simp at hx;have:=H7.out.2.2.2.1;have:=HB.out.1.size;omega)
    have q1:Blk w9 eb 28 #[ptr b]:=tn9.blk (HR.out.2.2.2.2.2.1.grown G8.out (by simp))
    have q2:EngB w9 b q m:=Blk.grown HH.out.2.2.2.2.1 hgw (by simp)
    have q3:Blk w9 rb 49 #[.int .i64 0,.int .i64 0,.slice a k cp]:=tn9.blk HD8.out.1
    have q4:Blk w9 ob 28 #[.pointer none]:=tn9.blk (HR.out.2.2.2.2.2.2.1.grown G8.out (by simp))
    have HQ:Hid (Blk w9 eb 28 #[ptr b]/\EngB w9 b q m/\Blk w9 rb 49 #[.int .i64 0,.int .i64 0,.slice a k cp]/\Blk w9 ob 28 #[.pointer none]/\w.grownBy w9 none/\callD q D [] l=.error (c,k)):=⟨q1,q2,q3,q4,hgw,hcall⟩
    clear q1 q2 q3 q4 hgw hcall tn9 g9 hop
    unfold PanA
    go_wp2_with fail
    refine leaves_cons (f:=88) (args:=#[.pointer (some ⟨eb,0,none⟩),.pointer (some ⟨rb,0,none⟩),.pointer (some ⟨ob,0,none⟩)]) (by simp) (by simp [go_sem]) ?_
    refine (catch88_panicking eb rb ob b m q a k cp c w9 HQ.out.1 HQ.out.2.1 HQ.out.2.2.1 HQ.out.2.2.2.1 (by have:=HZ.out.2.2.2.2.1;omega)).mono ?_
    rintro e u' w'' ⟨rfl,rfl,zb,w10,hzb,g10,hE,rfl⟩
    have r0:=HQ.out.2.2.1.grown g10 (by simp)
    have o0:=HQ.out.2.2.2.1.grown g10 (by simp)
    have hne:ob≠rb:=by have:=HZ.out.2.2.2.1;omega
    have hW:w.grownBy w10 none:=grown_trans HQ.out.2.2.2.2.1 g10
    have o1':=((((o0.store 0 (ptr zb)).grown (grown_setCell _ rb 0 (.int .i64 c)) (by simpa using fun e=>hne e.symm)).grown (grown_setCell _ rb 1 (.int .i64 (k:Int))) (by simpa using fun e=>hne e.symm)).grown (grown_setCell _ rb 2 (.slice none 0 0)) (by simpa using fun e=>hne e.symm))
    have r1':=(((r0.grown (grown_setCell _ ob 0 (ptr zb)) (by simpa using hne)).store 0 (.int .i64 c)).store 1 (.int .i64 (k:Int))).store 2 (.slice none 0 0)
    refine ⟨_,res59 rfl rfl o1' r1' ⟨_,rfl⟩,?_⟩
    have hz1:=HZ.out.2.1
    have hz2:=HZ.out.2.2.1
    have hfin:w.grownBy ((((w10.setCell ⟨ob,0,none⟩ (ptr zb)).setCell ⟨rb,0,none⟩ (.int .i64 c)).setCell ⟨rb,1,none⟩ (.int .i64 (k:Int))).setCell ⟨rb,2,none⟩ (.slice none 0 0)) none:=grown_new3 (grown_new hW (grown_setCell _ _ _ _) (fun x hx=>by simp at hx;omega)) (by omega)
    have hzo:zb≠ob/\zb≠rb:=⟨fun e=>by subst e;have:=o0.lt;have:=HQ.out.2.2.2.1.lt;omega,fun e=>by subst e;have:=HQ.out.2.2.1.lt;omega⟩
    refine ⟨hfin,.inr ⟨c,k,HQ.out.2.2.2.2.2,zb,rfl,Nat.le_trans HQ.out.2.2.2.2.1.size hzb,?_⟩⟩
    exact (((Blk.grown hE (grown_setCell _ ob 0 _) (by simpa using fun e=>hzo.1 e.symm)).grown (grown_setCell _ rb 0 _) (by simpa using fun e=>hzo.2 e.symm)).grown (grown_setCell _ rb 1 _) (by simpa using fun e=>hzo.2 e.symm)).grown (grown_setCell _ rb 2 _) (by simpa using fun e=>hzo.2 e.symm)
   have tn9:Tn 0 wd8 w9:=tn_at (HR.out.2.2.2.2.1.grown G8.out).choose_spec.1 g9
   obtain ⟨ax,cx,ex⟩:=hx.seg.shape
   obtain ⟨nx,hnx⟩:∃nx,r.value.length=nx:=⟨_,rfl⟩
   rw [hnx] at ex
   subst ex
   obtain ⟨ay,ny,cy,ey,_,_,_,_⟩:=rws_open hy.rws
   subst ey
   have hsz:w.heap.size<=wd8.heap.size:=(grown_trans HR.out.2.2.2.2.2.2.2.2.2 G8.out).size
   obtain ⟨Z,hZ⟩:∃Z:Nat->Prop,Z=fun g=>Y g\/Y' g:=⟨_,rfl⟩
   have HZZ:Hid ((∀g,Y g->Z g)/\InY Z (.slice ax nx cx)/\RowsY Z w9 (.slice ay ny cy)/\(∀g,Z g->w.heap.size<=g/\g<w9.heap.size)/\EM (XY X Z) w9 mb D2):=by
    subst hZ
    have s9:=g9.size
    refine ⟨fun g h=>.inl h,hx'.mono (fun g h=>.inr h),hy'.mono (fun g h=>.inr h),fun g h=>?_,em_anti hem (fun g h=>?_)⟩
    ·rcases h with h | h
     ·exact ⟨(HY.out g h).1,Nat.lt_of_lt_of_le (HY.out g h).2 (Nat.le_trans G8.out.size s9)⟩
     ·exact ⟨Nat.le_trans hsz (hYb g h).1,(hYb g h).2⟩
    ·rcases h with h | h | h
     ·exact .inl (.inl h)
     ·exact .inl (.inr h)
     ·exact .inr h
   clear hZ hx' hy' hYb hem
   have H10:Hid (opD q D1 o=.ok (r,D2)/\OutN w9 w.heap.size (r.has,.slice ax nx cx,.slice ay ny cy) r/\EM (XY X Z) w9 mb D2/\EngB w9 db q mb/\Blk w9 eb 28 #[.pointer (some ⟨b,0,none⟩)]/\Blk w9 ob 28 #[.pointer none]/\OutsY Z w9 w.heap.size (.slice a k cp) outs/\w.grownBy w9 none):=⟨hop,⟨rfl,hx.mono hsz,hy.mono hsz⟩,HZZ.out.2.2.2.2,tn9.blk (Blk.grown HR.out.2.2.2.1 G8.out (by simp)),tn9.blk (HR.out.2.2.2.2.2.1.grown G8.out (by simp)),tn9.blk (HR.out.2.2.2.2.2.2.1.grown G8.out (by simp)),((HR.out.2.2.2.2.2.2.2.2.1.grown G8.out).kept tn9).wide HZZ.out.1,grown_new (grown_trans HR.out.2.2.2.2.2.2.2.2.2 G8.out) g9 (fun x hx=>by simp at hx;have:=H7.out.2.2.2.1;have:=HB.out.1.size;omega)⟩
   have HD9:Hid (Blk w9 rb 49 #[.int .i64 0,.int .i64 0,.slice a k cp]/\Blk w9 pb 67 #[.int .i64 o.kind,.string ⟨o.table.toArray⟩,.slice a1 n1 c1,.slice a2 n2 c2,.bool o.has,.slice a3 n3 c3,.slice a4 n4 c4,.int .i64 o.most]):=⟨tn9.blk HD8.out.1,tn9.blk HD8.out.2⟩
   clear hop hx hy g9 tn9 hnx hsz
   go_wp2_with fail
   refine hK.out _ _ (fun _=>HD9.out) ?_
   clear hK K
   try simp only [pN]
   refine wpHold_one (i:=5) rfl (by kernel_rfl) (by rfl) (fun K hK=>?_)
   go_wp2_with fail
   obtain ⟨w10,hw10,H11⟩:=al w9 #[.bool r.has,.slice ax nx cx,.slice ay ny cy] 72
   rw [hw10]
   clear hw10
   have HD10:Hid (Blk w10 rb 49 #[.int .i64 0,.int .i64 0,.slice a k cp]/\Blk w10 pb 67 #[.int .i64 o.kind,.string ⟨o.table.toArray⟩,.slice a1 n1 c1,.slice a2 n2 c2,.bool o.has,.slice a3 n3 c3,.slice a4 n4 c4,.int .i64 o.most]):=⟨HD9.out.1.grown H11.out.2.1 (by simp),HD9.out.2.grown H11.out.2.1 (by simp)⟩
   refine hK.out _ _ (fun _=>HD10.out) ?_
   clear hK K
   try simp only [pN]
   refine wpHold_one (i:=6) rfl (by kernel_rfl) (by rfl) (fun K hK=>?_)
   refine appY_wp (Y:=Z) w10 _ _ rfl w.heap.size (.slice a k cp) outs _ (r.has,.slice ax nx cx,.slice ay ny cy) r rfl rfl (H10.out.2.2.2.2.2.2.1.grown H11.out.2.1) (vec_three w9 _ _ _ w10 H11.out.1) (H10.out.2.1.grown H11.out.2.1) HZZ.out.2.1 (rowsY_same HZZ.out.2.2.1 H10.out.2.1.rows (fun g c _ hb=>H11.out.2.1.block g hb.lt (by simp))) rfl rfl (by have:=HR.out.2.1;omega) (Nat.le_trans H10.out.2.2.2.2.2.2.2.size H11.out.2.1.size) ?_
   intro a9 c9 w11 q9 hO9 g11 hq9
   have hoff:∀(bb tt:Nat) (cc:Array Value),Blk w10 bb tt cc->tt≠72->Blk w11 bb tt cc:=fun bb tt cc hbb htt=>hbb.grown g11 (fun e=>by
    obtain ⟨_,c',hc',_⟩:=hq9 bb e
    unfold Blk at hbb hc'
    rw [hbb] at hc'
    simp at hc'
    exact htt hc'.2)
   have hem11:EM (XY X Z) w11 mb D2:=by
    have h:=H10.out.2.2.1.grown H11.out.2.1
    cases q9 with
    | none=>exact h.grown g11
    | some g =>
     obtain ⟨_,c',hc',hn'⟩:=hq9 g rfl
     exact em_offT h g11 hc' (by decide) (by decide) (by decide) hn'
   have H12:Hid (OutsY Z w11 w.heap.size (.slice a9 (k+1) c9) (outs ++ [r])/\EM (XY X Z) w11 mb D2/\EngB w11 db q mb/\Blk w11 eb 28 #[.pointer (some ⟨b,0,none⟩)]/\Blk w11 ob 28 #[.pointer none]/\w.grownBy w11 none):=⟨by have:=HR.out.2.1;rw [this] at hO9;exact hO9,hem11,hoff _ _ _ (Blk.grown H10.out.2.2.2.1 H11.out.2.1 (by simp)) (by decide),hoff _ _ _ (H10.out.2.2.2.2.1.grown H11.out.2.1 (by simp)) (by decide),hoff _ _ _ (H10.out.2.2.2.2.2.1.grown H11.out.2.1 (by simp)) (by decide),grown_new (grown_trans H10.out.2.2.2.2.2.2.2 H11.out.2.1) g11 (fun x hx=>(hq9 x hx).1)⟩
   have HD11:Hid (Blk w11 rb 49 #[.int .i64 0,.int .i64 0,.slice a k cp]/\Blk w11 pb 67 #[.int .i64 o.kind,.string ⟨o.table.toArray⟩,.slice a1 n1 c1,.slice a2 n2 c2,.bool o.has,.slice a3 n3 c3,.slice a4 n4 c4,.int .i64 o.most]):=⟨hoff _ _ _ HD10.out.1 (by decide),hoff _ _ _ HD10.out.2 (by decide)⟩
   have hlen:=HR.out.2.1
   rw [hlen]
   have HS11:Hid (w9.heap.size<=w11.heap.size):=Nat.le_trans H11.out.2.1.size g11.size
   clear hO9 g11 hq9 hoff hem11 hlen
   refine hK.out _ _ (fun _=>HD11.out) ?_
   clear hK K
   try simp only [pN]
   refine wpHold_take (i:=7) (v:=_) (HD11.out) rfl rfl (by kernel_rfl) (by kernel_rfl) (by kernel_rfl) (by kernel_rfl) (by kernel_rfl) (fun c a w h=>leaves59 (by decide) (by decide) _ c a w h) (by rfl) (fun wk hk=>by have y2:=hk.1.cell 2;have x0:=hk.2.cell 0;have x1:=hk.2.cell 1;have x2:=hk.2.cell 2;have x3:=hk.2.cell 3;have x4:=hk.2.cell 4;have x5:=hk.2.cell 5;have x6:=hk.2.cell 6;have x7:=hk.2.cell 7;simp at y2 x0 x1 x2 x3 x4 x5 x6 x7;go_simp;try rfl) ?_
   try simp only [pN]
   refine wpHold_one (i:=8) rfl (by kernel_rfl) (by rfl) (fun K hK=>?_)
   have hr8:=HD11.out.1
   have f2:=hr8.free 2
   have v2:=hr8.cell 2
   simp at v2
   clear hr8
   go_wp2_with fail
   refine hK.out _ _ (fun h=>absurd rfl h) ?_
   clear hK K f2 v2
   try simp only [pN]
   refine wpHold_done (by kernel_rfl) ?_
   refine (‹∀(a:Act) (w:World),Code.wp Tryz.prog _ _ a w->_› _ _ ?_)
   have g12:=grown_setCell w11 rb 2 (.slice a9 (k+1) c9)
   have hne1:some rb≠some eb:=by have:=HZ.out;simp;omega
   have hne2:some rb≠some ob:=by have:=HZ.out;simp;omega
   have hne3:some rb≠some db:=by
    have h1:=HD11.out.1
    have h2:=H12.out.2.2.1
    intro e
    simp at e
    subst e
    unfold EngB Blk at h2
    unfold Blk at h1
    rw [h1] at h2
    simp at h2
   have H13:Hid (callD q D [] l=callD q D2 (outs ++ [r]) (l.drop (k+1))/\(outs ++ [r]).length=k+1/\DbQ q D2/\EngB (w11.setCell ⟨rb,2,none⟩ (.slice a9 (k+1) c9)) db q mb/\EM (XY X Z) (w11.setCell ⟨rb,2,none⟩ (.slice a9 (k+1) c9)) mb D2/\Blk (w11.setCell ⟨rb,2,none⟩ (.slice a9 (k+1) c9)) eb 28 #[.pointer (some ⟨b,0,none⟩)]/\Blk (w11.setCell ⟨rb,2,none⟩ (.slice a9 (k+1) c9)) ob 28 #[.pointer none]/\Blk (w11.setCell ⟨rb,2,none⟩ (.slice a9 (k+1) c9)) rb 49 #[.int .i64 0,.int .i64 0,.slice a9 (k+1) c9]/\OutsY Z (w11.setCell ⟨rb,2,none⟩ (.slice a9 (k+1) c9)) w.heap.size (.slice a9 (k+1) c9) (outs ++ [r])/\w.grownBy (w11.setCell ⟨rb,2,none⟩ (.slice a9 (k+1) c9)) none):=by
    refine ⟨?_,by simp [HR.out.2.1],opD_ok HR.out.2.2.1 HO.out.2.1 H10.out.1,Blk.grown H12.out.2.2.1 g12 hne3,em_offT H12.out.2.1 g12 HD11.out.1 (by decide) (by decide) (by decide) (noP3 _ _ _ _ _),H12.out.2.2.2.1.grown g12 hne1,H12.out.2.2.2.2.1.grown g12 hne2,HD11.out.1.store 2 _,H12.out.1.off g12 HD11.out.1 (by decide) (by decide) (by decide),grown_new H12.out.2.2.2.2.2 g12 (fun x hx=>by simp at hx;have:=HZ.out.2.2.1;omega)⟩
    rw [HR.out.1,HO.out.2.2]
    conv=>lhs;unfold callD
    rw [H10.out.1]
   have HS12:Hid (w9.heap.size<=(w11.setCell ⟨rb,2,none⟩ (.slice a9 (k+1) c9)).heap.size):=by have:=HS11.out;unfold Hid;simpa using this
   generalize w11.setCell ⟨rb,2,none⟩ (.slice a9 (k+1) c9)=w12 at H13 HS12 ⊢
   clear hne1 hne2 hne3 g12
   go_wp2_with fail
   go_roundw
   case rel=>exact ⟨k+1,D2,outs ++ [r],a9,c9,Z,by omega,by go_num,fun g h=>⟨(HZZ.out.2.2.2.1 g h).1,Nat.lt_of_lt_of_le (HZZ.out.2.2.2.1 g h).2 HS12.out⟩,H13.out⟩
   case measure=>simp [intOf];omega
  ·have hkn:k=n:=by omega
   subst hkn
   go_wp2_with fail
   refine wp_region_noPanic ?_
   refine wp_region_hold 3 (fun y=>Blk y rb 49 #[.int .i64 0,.int .i64 0,.slice a k cp]) (by kernel_rfl) ?_
   have G8:Hid (wr.grownBy wr.drew none):=grown_drew _ _
   have HD8:Hid (Blk wr.drew rb 49 #[.int .i64 0,.int .i64 0,.slice a k cp]/\Blk wr.drew ob 28 #[.pointer none]):=⟨HR.out.2.2.2.2.2.2.2.1.grown G8.out (by simp),HR.out.2.2.2.2.2.2.1.grown G8.out (by simp)⟩
   generalize wr.drew=wd8 at G8 HD8 ⊢
   have J:Idx [0,1]:=trivial
   iterate 2 (refine tK J (HD8.out.1) rfl rfl (fun wk hk=>by have y0:=hk.cell 0;have y1:=hk.cell 1;have y2:=hk.cell 2;simp at y0 y1 y2;go_simp;try rfl) ?_;replace J:=J.tl;try simp only [pN])
   clear J
   refine wpHold_one (i:=2) rfl (by kernel_rfl) (by rfl) (fun K hK=>?_)
   have hr8:=HD8.out.2
   have f0:=hr8.free 0
   have v0:=hr8.cell 0
   simp at v0
   clear hr8
   go_wp2_with fail
   have HD9:Hid (Blk (wd8.setCell ⟨ob,0,none⟩ (.pointer (some ⟨db,0,none⟩))) rb 49 #[.int .i64 0,.int .i64 0,.slice a k cp]/\Blk (wd8.setCell ⟨ob,0,none⟩ (.pointer (some ⟨db,0,none⟩))) ob 28 #[.pointer (some ⟨db,0,none⟩)]/\wd8.grownBy (wd8.setCell ⟨ob,0,none⟩ (.pointer (some ⟨db,0,none⟩))) (some ob)):=⟨HD8.out.1.grown (grown_setCell _ _ _ _) (by have:=HZ.out;simp;omega),HD8.out.2.store 0 _,grown_setCell _ _ _ _⟩
   generalize wd8.setCell ⟨ob,0,none⟩ (.pointer (some ⟨db,0,none⟩))=w9 at HD9 ⊢
   refine hK.out _ _ (fun _=>HD9.out.1) ?_
   clear hK K f0 v0
   try simp only [pN]
   refine wpHold_one (i:=3) rfl (by kernel_rfl) (by rfl) (fun K hK=>?_)
   have hr9:=HD9.out.1
   have f0:=hr9.free 0
   have f1:=hr9.free 1
   have f2:=hr9.free 2
   have v0:=hr9.cell 0
   have v1:=hr9.cell 1
   have v2:=hr9.cell 2
   simp at v0 v1 v2
   clear hr9
   go_wp2_with fail
   refine hK.out _ _ (fun h=>absurd rfl h) ?_
   clear hK K f0 f1 f2 v0 v1 v2
   try simp only [pN]
   refine wpHold_done (by kernel_rfl) ?_
   refine (‹∀(a:Act) (w:World),Code.wp Tryz.prog _ _ a w->_› _ _ ?_)
   go_wp2_with fail
   refine leaves_cons (f:=88) (args:=#[.pointer (some ⟨eb,0,none⟩),.pointer (some ⟨rb,0,none⟩),.pointer (some ⟨ob,0,none⟩)]) (by simp) (by simp [go_sem]) ?_
   refine (catch88_idle ⟨eb,0,none⟩ ⟨rb,0,none⟩ ⟨ob,0,none⟩ _).mono ?_
   rintro e u' w'' ⟨rfl,rfl,rfl⟩
   have hne:ob≠rb:=by have:=HZ.out.2.2.2.1;omega
   have gs:=fun (W:World) (i:Nat) (vv:Value)=>grown_setCell W rb i vv
   have o1':=((HD9.out.2.1.grown (gs _ 0 (.int .i64 0)) (by simpa using fun e=>hne e.symm)).grown (gs _ 1 (.int .i64 0)) (by simpa using fun e=>hne e.symm)).grown (gs _ 2 (.slice a k cp)) (by simpa using fun e=>hne e.symm)
   have r1':=((HD9.out.1.store 0 (.int .i64 0)).store 1 (.int .i64 0)).store 2 (.slice a k cp)
   refine ⟨_,res59 rfl rfl o1' r1' ⟨_,rfl⟩,?_⟩
   have hz1:=HZ.out.2.1
   have hz2:=HZ.out.2.2.1
   have hne3:∀x:Nat,x≠ob->x≠rb->(some ob≠some x/\some rb≠some x):=fun x h1 h2=>⟨by simpa using fun e=>h1 e.symm,by simpa using fun e=>h2 e.symm⟩
   have hdo:db≠ob/\db≠rb:=by
    have h1:=HR.out.2.2.2.1
    have h2:=HR.out.2.2.2.2.2.2.1
    have h3:=HR.out.2.2.2.2.2.2.2.1
    unfold EngB Blk at h1
    unfold Blk at h2 h3
    refine ⟨fun e=>?_,fun e=>?_⟩
    ·subst e;rw [h1] at h2;simp at h2
    ·subst e;rw [h1] at h3;simp at h3
   have e9:EngB w9 db q mb:=Blk.grown (Blk.grown HR.out.2.2.2.1 G8.out (by simp)) HD9.out.2.2 (hne3 _ hdo.1 hdo.2).1
   have eF:=((Blk.grown e9 (gs _ 0 (.int .i64 0)) (hne3 _ hdo.1 hdo.2).2).grown (gs _ 1 (.int .i64 0)) (hne3 _ hdo.1 hdo.2).2).grown (gs _ 2 (.slice a k cp)) (hne3 _ hdo.1 hdo.2).2
   have m9:EM (XY X Y) w9 mb D1:=em_offT (HR.out.2.2.2.2.1.grown G8.out) HD9.out.2.2 HD8.out.2 (by decide) (by decide) (by decide) (by intro u hu p;simp at hu;subst hu;simp [ptr])
   have mF:=em_offT (em_offT (em_offT m9 (gs _ 0 (.int .i64 0)) HD9.out.1 (by decide) (by decide) (by decide) (noP3 _ _ _ _ _)) (gs _ 1 (.int .i64 0)) (HD9.out.1.store 0 (.int .i64 0)) (by decide) (by decide) (by decide) (noP3 _ _ _ _ _)) (gs _ 2 (.slice a k cp)) ((HD9.out.1.store 0 (.int .i64 0)).store 1 (.int .i64 0)) (by decide) (by decide) (by decide) (noP3 _ _ _ _ _)
   have n9:=(HR.out.2.2.2.2.2.2.2.2.1.grown G8.out).off HD9.out.2.2 HD8.out.2 (by decide) (by decide) (by decide)
   have nF:=((n9.off (gs _ 0 (.int .i64 0)) HD9.out.1 (by decide) (by decide) (by decide)).off (gs _ 1 (.int .i64 0)) (HD9.out.1.store 0 (.int .i64 0)) (by decide) (by decide) (by decide)).off (gs _ 2 (.slice a k cp)) ((HD9.out.1.store 0 (.int .i64 0)).store 1 (.int .i64 0)) (by decide) (by decide) (by decide)
   have gF:w.grownBy (((w9.setCell ⟨rb,0,none⟩ (.int .i64 0)).setCell ⟨rb,1,none⟩ (.int .i64 0)).setCell ⟨rb,2,none⟩ (.slice a k cp)) none:=grown_new3 (grown_new (grown_trans HR.out.2.2.2.2.2.2.2.2.2 G8.out) HD9.out.2.2 (fun x hx=>by simp at hx;omega)) (by omega)
   have hcall:callD q D [] l=.ok (outs,D1):=by rw [HR.out.1,List.drop_eq_nil_of_le (by rw [HH.out.2.2.1];omega)];rfl
   exact ⟨gF,.inl ⟨outs,D1,hcall,HR.out.2.2.1,db,_,Y,rfl,Nat.le_trans HB.out.1.size H7.out.2.2.2.2,fun g h=>⟨(HY.out g h).1,Nat.lt_of_lt_of_le (HY.out g h).2 (by have:=G8.out.size;have:=HD9.out.2.2.size;simp;omega)⟩,⟨mb,eF,mF⟩,nF⟩⟩
theorem behind59 {X:Nat->Prop}(b m:Nat)(q:Int × Int)(D:DB)(hD:DbQ q D)(v:Value)(l:List POp)(hmay:∀o ∈ l,mayOp o=true)(hl6:l.length<=1000)(w:World)(hX:∀g,X g->g<w.heap.size)(hb:EngB w b q m)(hm:EM X w m D)(hv:Ops w v l):Calls Tryz.prog 59 #[.pointer (some ⟨b,0,none⟩),.agg #[v]] w (BehE X q D l m w) :=
 (behind59y b m q D hD v l hmay hl6 w hX hb hm hv).mono fun _ _ h=>h.beh
end Go.Proofs.YtakmlhhapegpoaaGreat
