import Derived.Deep.DeepCutAuto
import Derived.Deep.CutBlock
import Derived.Deep.Slices
import Derived.Lib.SliceRun
import Derived.Lib.SmallJoins
import Derived.Shelf.RegionOpen
import Derived.Laws.OwnMore
import Derived.Test.YtanoabliahcbeaaGreatPqrAll
namespace Go.Proofs.YtanoabliahcbeaaGreat.Wn
open Go.RowKit Disk
theorem blk_type {w:World}{b t t':Nat}{c c':Array Value}(h:Blk w b t c)(h':Blk w b t' c'):t=t':=by
 unfold Blk at h h'
 rw [h] at h'
 simp at h'
 exact h'.2
theorem add_addr (b off j:Nat):(⟨b,off,none⟩:Addr).add j=⟨b,off+j,none⟩:=by
 unfold Addr.add
 by_cases hz:j=0
 ·subst hz;simp
 ·simp [hz]
theorem info_parts1 {e:Nat}{z:Value}{by':Nat}(h:(Tryz.prog.info? e).map (fun i=>(i.zero,i.size,i.bytes))=some (some z,1,by')):∃i,Tryz.prog.info? e=some i/\i.zero=some z/\i.size=1/\i.bytes=by':=by
 cases hi:Tryz.prog.info? e with
 | none=>rw [hi] at h;cases h
 | some i =>
  rw [hi] at h
  simp at h
  exact ⟨i,rfl,h.1,h.2.1,h.2.2⟩
structure Row (e:Nat)(w:World)(B:Nat)(v:Value)(xs:List Value):Prop where
 own:w.ownsRow B e 1 v xs.length xs
 one:∀x ∈ xs,x.oneCell'=true
def Rd (w:World)(u:Value)(xs:List Value):Prop :=
 ∃ao cap,u=.slice ao xs.length cap/\xs.length<=cap/\cap<=maxLen/\(ao=none->cap=0)/\∀j (hj:j<xs.length),∃b off,ao=some ⟨b,off,none⟩/\w.cell? ⟨b,off+j,none⟩=some xs[j]
theorem Rd.shape {w:World}{u:Value}{xs:List Value}(h:Rd w u xs):∃ao cap,u=.slice ao xs.length cap:=by obtain ⟨ao,cap,h,_⟩:=h;exact ⟨ao,cap,h⟩
theorem Rd.len {w:World}{u:Value}{xs:List Value}(h:Rd w u xs):xs.length<=9223372036854775807:=by
 obtain ⟨ao,cap,_,h1,h2,_⟩:=h
 unfold maxLen at h2;omega
theorem Rd.at {w:World}{ao:Option Addr}{n cap:Nat}{xs:List Value}(h:Rd w (.slice ao n cap) xs)(j:Nat)(hj:j<xs.length):∃b off,ao=some ⟨b,off,none⟩/\w.cell? ⟨b,off+j,none⟩=some xs[j]:=by
 obtain ⟨ao',cap',e,_,_,_,h⟩:=h
 simp at e
 obtain ⟨rfl,_,rfl⟩:=e
 exact h j hj
theorem rd_nil (w:World):Rd w (.slice none 0 0) []:=⟨none,0,rfl,Nat.le_refl _,Nat.zero_le _,fun _=>rfl,fun j hj=>absurd hj (by simp)⟩
theorem Rd.kept {w w':World}{u:Value}{xs:List Value}(h:Rd w u xs)(hs:∀k,u.ownBlock=some k->w'.heap[k]? = w.heap[k]?):Rd w' u xs:=by
 obtain ⟨ao,cap,rfl,h1,h2,h3,h4⟩:=h
 refine ⟨ao,cap,rfl,h1,h2,h3,fun j hj=>?_⟩
 obtain ⟨b,off,rfl,hc⟩:=h4 j hj
 refine ⟨b,off,rfl,?_⟩
 have:=hs b rfl
 unfold World.cell? at hc ⊢
 rw [this]
 exact hc
theorem Rd.grown {w w':World}{u:Value}{xs:List Value}(h:Rd w u xs)(hg:w.grownBy w' none):Rd w' u xs:=by
 obtain ⟨ao,cap,rfl,h1,h2,h3,h4⟩:=h
 refine ⟨ao,cap,rfl,h1,h2,h3,fun j hj=>?_⟩
 obtain ⟨b,off,rfl,hc⟩:=h4 j hj
 exact ⟨b,off,rfl,hg.cell hc (by simp)⟩
theorem Row.nil (e:Nat)(w:World)(B:Nat):Row e w B (.slice none 0 0) []:=⟨World.ownsRow_nil _ _ _ _,by simp⟩
theorem Row.shape {e:Nat}{w:World}{B:Nat}{v:Value}{xs:List Value}(h:Row e w B v xs):(v=.slice none 0 0/\xs=[])\/∃g cap C,v=.slice (some ⟨g,0,none⟩) xs.length cap/\B<=g/\Blk w g e C/\xs.length<=cap/\cap<=maxLen/\C.size=cap/\C.toList.take xs.length=xs:=by
 rcases h.own.2 with ⟨rfl,hn⟩ | ⟨g,cap,cur,rfl,hb,hg,h1,h2,h3,h4⟩
 ·exact .inl ⟨rfl,List.eq_nil_of_length_eq_zero hn⟩
 ·exact .inr ⟨g,cap,cur,rfl,hb,hg,h1,h2,by simpa using h3,by simpa using h4⟩
theorem row_of {e:Nat}{w:World}{B g cap:Nat}{C:Array Value}{xs:List Value}(hB:B<=g)(hb:Blk w g e C)(h1:xs.length<=cap)(h2:cap<=maxLen)(h3:C.size=cap)(h4:C.toList.take xs.length=xs)(ho:∀x ∈ xs,x.oneCell'=true):Row e w B (.slice (some ⟨g,0,none⟩) xs.length cap) xs :=
 ⟨⟨by simp,.inr ⟨g,cap,C,rfl,hB,hb,h1,h2,by simpa using h3,by simpa using h4⟩⟩,ho⟩
theorem Row.sl {e:Nat}{w:World}{B:Nat}{v:Value}{xs:List Value}(h:Row e w B v xs):∃ao cap,v=.slice ao xs.length cap:=by
 rcases h.shape with ⟨rfl,rfl⟩ | ⟨g,cap,C,rfl,_⟩
 ·exact ⟨none,0,rfl⟩
 ·exact ⟨_,_,rfl⟩
theorem Row.rd {e:Nat}{w:World}{B:Nat}{v:Value}{xs:List Value}(h:Row e w B v xs):Rd w v xs:=by
 rcases h.shape with ⟨rfl,rfl⟩ | ⟨g,cap,C,rfl,hB,hb,h1,h2,h3,h4⟩
 ·exact rd_nil w
 ·refine ⟨_,cap,rfl,h1,h2,by simp,fun j hj=>⟨g,0,rfl,?_⟩⟩
  rw [hb.cell,Nat.zero_add,<-Array.getElem?_toList]
  have h5:C.toList[j]? = (C.toList.take xs.length)[j]?:=by rw [List.getElem?_take,if_pos hj]
  rw [h5,h4,List.getElem?_eq_getElem hj]
theorem Row.same {e:Nat}{w w':World}{B:Nat}{v:Value}{xs:List Value}(h:Row e w B v xs)(hs:∀k,v.ownBlock=some k->w'.heap[k]? = w.heap[k]?):Row e w' B v xs:=by
 rcases h.shape with ⟨rfl,rfl⟩ | ⟨g,cap,C,rfl,hB,hb,h1,h2,h3,h4⟩
 ·exact Row.nil _ _ _
 ·exact row_of hB ((hs g rfl).trans hb) h1 h2 h3 h4 h.one
theorem Row.lt {e:Nat}{w:World}{B:Nat}{v:Value}{xs:List Value}(h:Row e w B v xs):∀k,v.ownBlock=some k->B<=k/\k<w.heap.size:=fun k hk=>World.ownsRow.lt h.own k hk
theorem Row.grown {e:Nat}{w w':World}{B:Nat}{v:Value}{xs:List Value}(h:Row e w B v xs)(hg:w.grownBy w' none):Row e w' B v xs:=h.same fun k hk=>hg.block k (h.lt k hk).2 (by simp)
theorem Row.mono {e:Nat}{w:World}{B B':Nat}{v:Value}{xs:List Value}(h:Row e w B v xs)(hB:B'<=B):Row e w B' v xs:=by
 rcases h.shape with ⟨rfl,rfl⟩ | ⟨g,cap,C,rfl,hb,hk,h1,h2,h3,h4⟩
 ·exact Row.nil _ _ _
 ·exact row_of (Nat.le_trans hB hb) hk h1 h2 h3 h4 h.one
theorem Row.blk {e:Nat}{w:World}{B:Nat}{v:Value}{xs:List Value}(h:Row e w B v xs):∀k,v.ownBlock=some k->∃C,Blk w k e C:=by
 rcases h.shape with ⟨rfl,rfl⟩ | ⟨g,cap,C,rfl,hb,hk,h1,h2,h3,h4⟩
 ·intro k hk;simp [Value.ownBlock] at hk
 ·intro k hk';simp [Value.ownBlock] at hk';subst hk';exact ⟨C,hk⟩
theorem appR_wp (t e bt:Nat)(z:Value)(ht:Tryz.prog.underlying t=some (.slice e))(hinf:(Tryz.prog.info? e).map (fun i=>(i.zero,i.size,i.bytes))=some (some z,1,bt))(hzc:z.cells.size=1){o:Oper}{a:Act}{K:Act->World->Prop}{Q:Exit->Act->World->Prop}(w:World)(s x:Operand)
  (ho:o.op=.call { callee:=.builtin .append,args:=#[s,x],argTypes:=#[t,t] })
  (B:Nat) (v:Value) (L:List Value) (u:Value) (M:List Value) (hs:a.eval s=v) (hx:a.eval x=u) (hown:Row e w B v L) (hseg:Rd w u M) (h1M:∀y ∈ M,y.oneCell'=true) (hb:(L.length+M.length)*bt<=140737488355328) (hl:L.length+M.length<=maxLen) (hB:B<=w.heap.size)
  (h:∀v' w',Row e w' B v' (L ++ M)->w.grownBy w' v.ownBlock->(∀k,v'.ownBlock=some k->v.ownBlock=some k\/w.heap.size<=k)->K (a.put o.dst v') w'):o.wp Tryz.prog a w K Q:=by
 obtain ⟨i0,hi,hz0,hz1,hz2⟩:=info_parts1 hinf
 have hsg:=hseg
 obtain ⟨ao,cap,rfl,h1,h2,h3,h4⟩:=hsg
 have hone:∀y ∈ L ++ M,y.oneCell'=true:=by
  intro y hy
  rcases List.mem_append.1 hy with hy | hy
  ·exact hown.one y hy
  ·exact h1M y hy
 cases ao with
 | none =>
  have hM0:M=[]:=List.eq_nil_of_length_eq_zero (by have:=h3 rfl;omega)
  have hc0:cap=0:=h3 rfl
  subst hM0;subst hc0
  have hrun:=run_append_owned_none (P:=Tryz.prog) (w:=w) B t o.type e i0 1 ht hi v _ _ hown.own
  have hx':a.eval x=.slice none 0 0:=hx
  unfold Oper.wp
  simp only [execOp,ho,resolve,invoke,builtin,Sem.run_bind,Sem.run_pure,Result.andThen_ok,List.map_toArray,List.map_cons,List.map_nil,hs,hx',hrun]
  exact h v w (by simpa using hown) (grown_refl _ _) (fun k hk=>.inl hk)
 | some ad =>
  have hnews:∀j y,M[j]? = some y->w.cell? (ad.add j)=some y:=by
   intro j y hj
   obtain ⟨hjl,rfl⟩:=List.getElem?_eq_some_iff.1 hj
   obtain ⟨b,off,e1,hc⟩:=h4 j hjl
   simp at e1
   subst e1
   rw [add_addr]
   exact hc
  by_cases hm:0<M.length
  ·refine wp_append_lies w s x t ho B e i0 z 1 bt ht hi hz0 hz1 hz2 hzc (by decide) v L.length L hs hown.own ad M.length cap M hx (by simp) hnews h1M hm hl hb hB w.heap.size rfl ?_
   intro g cap' w' h1 h2 h3 _
   refine h _ w' ⟨by rw [List.length_append];exact h1,hone⟩ h2 fun k hk=>?_
   simp [Value.ownBlock] at hk
   subst hk
   rcases h3 with h3 | h3
   ·exact .inl h3
   ·exact .inr (by omega)
  ·have hM0:M=[]:=List.eq_nil_of_length_eq_zero (by omega)
   subst hM0
   rcases hown.shape with ⟨rfl,rfl⟩ | ⟨g,c,C,rfl,hBg,hbk,hlc,_⟩
   ·refine wp_append_own w s x t ho w.heap.size e i0 z 1 bt ht hi hz0 hz1 hz2 hzc (by decide) _ 0 [] hs (World.ownsRow_nil _ _ _ _) ad 0 cap [] hx rfl (by simp) (by simp) (by unfold maxLen;omega) (by omega) (Nat.le_refl _) ?_
    intro v' w' h1 h2 _
    exact h v' w' ((show Row e w' w.heap.size v' [] from ⟨h1,by simp⟩).mono hB) h2 fun k hk=>.inr (World.ownsRow.lt h1 k hk).1
   ·refine wp_append_own_spare w s x t ho B e i0 1 ht hi hz1 g L.length c L hs hown.own ad 0 cap [] hx rfl (by simp) (by simp) (by omega) ?_
    intro w' h1 h2
    refine h _ w' ⟨by simpa using h1,hone⟩ h2 fun k hk=>.inl hk
theorem appR (t e bt:Nat)(z:Value)(ht:Tryz.prog.underlying t=some (.slice e))(hinf:(Tryz.prog.info? e).map (fun i=>(i.zero,i.size,i.bytes))=some (some z,1,bt))(hzc:z.cells.size=1){ops:Array Oper}{rest:List Oper}{o:Oper}{a:Act}{Q:Exit->Act->World->Prop}(w:World)(hw:Region.wanted o (yielded ops a.tmps)=true)(s x:Operand)
  (ho:o.op=.call { callee:=.builtin .append,args:=#[s,x],argTypes:=#[t,t] })
  (B:Nat) (v:Value) (L:List Value) (u:Value) (M:List Value) (hs:a.eval s=v) (hx:a.eval x=u) (hown:Row e w B v L) (hseg:Rd w u M) (h1M:∀y ∈ M,y.oneCell'=true) (hb:(L.length+M.length)*bt<=140737488355328) (hl:L.length+M.length<=maxLen) (hB:B<=w.heap.size)
  (h:∀v' w',Row e w' B v' (L ++ M)->w.grownBy w' v.ownBlock->(∀k,v'.ownBlock=some k->v.ownBlock=some k\/w.heap.size<=k)->wpList Tryz.prog ops Q rest (a.put o.dst v') w'):wpList Tryz.prog ops Q (o :: rest) a w :=
 BigFrame.wpList_want hw fun _ hK=>appR_wp t e bt z ht hinf hzc w s x ho B v L u M hs hx hown hseg h1M hb hl hB fun v' w' h1 h2 h3=>hK _ _ (h v' w' h1 h2 h3)
theorem row_made (e:Nat)(w:World):Row e (w.alloc (.cells #[] e)) w.heap.size (.slice (some ⟨w.heap.size,0,none⟩) 0 0) [] :=
 row_of (cap:=0) (C:=#[]) (xs:=[]) (Nat.le_refl _) (heap_alloc_new w _) (Nat.le_refl _) (Nat.zero_le _) rfl rfl (by simp)
theorem setCells_blk (g t:Nat):∀(vs:List Value) (o:Nat) (w:World) (C:Array Value),Blk w g t C->∃D,Blk (w.setCells g o vs) g t D/\D.size=C.size/\∀j,j<o->D[j]? = C[j]?
 | [],o,w,C,h=>⟨C,h,rfl,fun _ _=>rfl⟩
 | x :: vs,o,w,C,h=>by
  obtain ⟨D,h1,h2,h3⟩:=setCells_blk g t vs (o+1) _ _ (h.store o x)
  refine ⟨D,h1,by rw [h2];simp,fun j hj=>?_⟩
  rw [h3 j (by omega),Array.getElem?_setIfInBounds_ne (by omega)]
theorem setCells_grown (g:Nat):∀(vs:List Value) (o:Nat) (w:World),w.grownBy (w.setCells g o vs) (some g)
 | [],_,w=>grown_refl w _
 | x :: vs,o,w=>grown_trans (grown_setCell w g o x) (setCells_grown g vs (o+1) _)
theorem take_eq_of {C D:Array Value}{n:Nat}(_hn:n<=C.size)(_hs:D.size=C.size)(h:∀j,j<n->D[j]? = C[j]?):D.toList.take n=C.toList.take n:=by
 apply List.ext_getElem?
 intro j
 rw [List.getElem?_take,List.getElem?_take]
 by_cases hj:j<n
 ·rw [if_pos hj,if_pos hj]
  simpa using h j hj
 ·rw [if_neg hj,if_neg hj]
theorem Row.past {e:Nat}{w:World}{B g cap:Nat}{xs:List Value}(h:Row e w B (.slice (some ⟨g,0,none⟩) xs.length cap) xs)(vs:List Value)(o:Nat)(ho:xs.length<=o):Row e (w.setCells g o vs) B (.slice (some ⟨g,0,none⟩) xs.length cap) xs:=by
 rcases h.shape with ⟨e,_⟩ | ⟨g',cap',C,e,hB,hb,h1,h2,h3,h4⟩
 ·simp at e
 ·simp at e
  obtain ⟨rfl,rfl⟩:=e
  obtain ⟨D,d1,d2,d3⟩:=setCells_blk g _ vs o w C hb
  exact row_of hB d1 h1 h2 (by omega) (by rw [take_eq_of (by omega) d2 fun j hj=>d3 j (by omega)];exact h4) h.one
theorem Row.take {e:Nat}{w:World}{B g n cap:Nat}{xs:List Value}(h:Row e w B (.slice (some ⟨g,0,none⟩) n cap) xs)(m:Nat)(hm:m<=xs.length):Row e w B (.slice (some ⟨g,0,none⟩) m cap) (xs.take m):=by
 rcases h.shape with ⟨e,_⟩ | ⟨g',cap',C,e,hB,hb,h1,h2,h3,h4⟩
 ·simp at e
 ·simp at e
  obtain ⟨rfl,rfl,rfl⟩:=e
  have hl:(xs.take m).length=m:=by simp [hm]
  have:=row_of (e:=e) hB hb (xs:=xs.take m) (by omega) h2 h3 (by rw [hl,<-h4,List.take_take,Nat.min_eq_left hm]) (fun x hx=>h.one x (List.mem_of_mem_take hx))
  rw [hl] at this
  exact this
theorem Row.cap {e:Nat}{w:World}{B g n cap:Nat}{xs:List Value}(h:Row e w B (.slice (some ⟨g,0,none⟩) n cap) xs):n=xs.length/\n<=cap/\cap<=maxLen:=by
 rcases h.shape with ⟨e,_⟩ | ⟨g',cap',C,e,hB,hb,h1,h2,h3,h4⟩
 ·simp at e
 ·simp at e
  obtain ⟨rfl,rfl,rfl⟩:=e
  exact ⟨rfl,h1,h2⟩
theorem Row.cell {e:Nat}{w:World}{B g n cap:Nat}{xs:List Value}(h:Row e w B (.slice (some ⟨g,0,none⟩) n cap) xs)(j:Nat)(hj:j<xs.length):w.cell? ⟨g,j,none⟩=some xs[j]:=by
 obtain ⟨b,off,e1,hc⟩:=h.rd.at j hj
 simp at e1
 obtain ⟨rfl,rfl⟩:=e1
 simpa using hc
theorem Row.free {e:Nat}{w:World}{B g n cap:Nat}{xs:List Value}(h:Row e w B (.slice (some ⟨g,0,none⟩) n cap) xs)(j:Nat):w.frozen? ⟨g,j,none⟩=false:=by
 obtain ⟨C,hC⟩:=h.blk g rfl
 exact hC.free j
theorem Row.there {e:Nat}{w:World}{B g n cap:Nat}{xs:List Value}(h:Row e w B (.slice (some ⟨g,0,none⟩) n cap) xs)(j:Nat)(hj:j<cap):(w.cell? ⟨g,j,none⟩).isSome=true:=by
 rcases h.shape with ⟨e,_⟩ | ⟨g',cap',C,e,hB,hb,h1,h2,h3,h4⟩
 ·simp at e
 ·simp at e
  obtain ⟨rfl,rfl,rfl⟩:=e
  rw [hb.cell]
  rw [Array.getElem?_eq_getElem (by omega)]
  rfl
theorem Row.put {e:Nat}{w:World}{B g n cap:Nat}{xs:List Value}(h:Row e w B (.slice (some ⟨g,0,none⟩) n cap) xs)(j:Nat)(_hj:j<xs.length)(x:Value)(hx:x.oneCell'=true):Row e (w.setCell ⟨g,j,none⟩ x) B (.slice (some ⟨g,0,none⟩) n cap) (xs.set j x):=by
 rcases h.shape with ⟨e,_⟩ | ⟨g',cap',C,e,hB,hb,h1,h2,h3,h4⟩
 ·simp at e
 ·simp at e
  obtain ⟨rfl,rfl,rfl⟩:=e
  have:=row_of (e:=e) (xs:=xs.set j x) hB (hb.store j x) (by simpa using h1) h2 (by simpa using h3) ?_ ?_
  ·simpa using this
  ·rw [List.length_set,Array.toList_setIfInBounds,List.take_set,h4]
  ·intro y hy
   rcases List.mem_or_eq_of_mem_set hy with hy | rfl
   ·exact h.one y hy
   ·exact hx
def lead {α:Type}:List (Option α)->Nat
 | none :: r=>lead r+1
 | _=>0
theorem lead_le {α:Type}:∀L:List (Option α),lead L<=L.length
 | []=>Nat.le_refl _
 | none :: r=>by have:=lead_le r;simp [lead];omega
 | some _ :: r=>by simp [lead]
theorem lead_low {α:Type}:∀(L:List (Option α)) (k:Nat),k<lead L->L[k]? = some none
 | [],k,h=>by simp [lead] at h
 | none :: r,0,_=>rfl
 | none :: r,k+1,h=>by
  have:=lead_low r k (by simp [lead] at h;omega)
  simpa using this
 | some _ :: r,k,h=>by simp [lead] at h
theorem lead_next {α:Type}:∀L:List (Option α),lead L=L.length\/∃t,L[lead L]? = some (some t)
 | []=>.inl rfl
 | none :: r=>by
  rcases lead_next r with h | ⟨t,h⟩
  ·exact .inl (by simp [lead,h])
  ·exact .inr ⟨t,by simpa [lead] using h⟩
 | some t :: r=>.inr ⟨t,rfl⟩
theorem lead_eq {α:Type}:∀(L:List (Option α)) (m:Nat),(∀k,k<m->L[k]? = some none)->(m=L.length\/∃t,L[m]? = some (some t))->lead L=m
 | [],m,h,h2=>by
  rcases h2 with h2 | ⟨t,h2⟩
  ·exact h2.symm
  ·simp at h2
 | none :: r,0,h,h2=>by simp at h2
 | none :: r,m+1,h,h2=>by
  have:=lead_eq r m (fun k hk=>by simpa using h (k+1) (by omega)) (by simpa using h2)
  simp [lead,this]
 | some t :: r,0,h,h2=>rfl
 | some t :: r,m+1,h,h2=>by
  have:=h 0 (by omega)
  simp at this
theorem lead_push {α:Type}(L:List (Option α))(x:α):lead (L ++ [some x])=lead L:=by
 have h0:=lead_le L
 refine lead_eq _ _ (fun k hk=>?_) ?_
 ·rw [List.getElem?_append_left (by omega)]
  exact lead_low L k hk
 ·rcases lead_next L with h | ⟨t,h⟩
  ·exact .inr ⟨x,by rw [h];simp⟩
  ·have hl:=(List.getElem?_eq_some_iff.1 h).1
   exact .inr ⟨t,by rw [List.getElem?_append_left hl];exact h⟩
def outD {α:Type}(L:List (Option α))(z:Int):Option α:=if 1<=z then (L[(z-1).toNat]?).join else none
theorem outD_some {α:Type}{L:List (Option α)}{z:Int}{t:α}(h:outD L z=some t):∃k:Nat,z=((k+1:Nat):Int)/\L[k]? = some (some t)/\(z-1).toNat=k:=by
 unfold outD at h
 by_cases hz:1<=z
 ·rw [if_pos hz] at h
  refine ⟨(z-1).toNat,by omega,?_,rfl⟩
  cases hg:L[(z-1).toNat]? with
  | none=>rw [hg] at h;cases h
  | some o=>rw [hg] at h;simp at h;rw [h]
 ·rw [if_neg hz] at h
  cases h
theorem outD_nat {α:Type}(L:List (Option α))(k:Nat):outD L ((k+1:Nat):Int)=(L[k]?).join:=by
 unfold outD
 rw [if_pos (by omega)]
 congr 2
 omega
theorem outD_low {α:Type}{L:List (Option α)}{m:Nat}(h:∀k,k<m->L[k]? = some none){z:Int}(hz:z<=(m:Int)):outD L z=none:=by
 unfold outD
 by_cases h1:1<=z
 ·rw [if_pos h1,h _ (by omega)]
  rfl
 ·rw [if_neg h1]
theorem outD_high {α:Type}{L:List (Option α)}{z:Int}(hz:(L.length:Int)<z):outD L z=none:=by
 unfold outD
 rw [if_pos (by omega),List.getElem?_eq_none (by omega)]
 rfl
def putL {α:Type}(L:List (Option α))(z:Int)(o:Option α):List (Option α):=if (outD L z).isSome then L.set (z-1).toNat o else L
theorem putL_none {α:Type}{L:List (Option α)}{z:Int}(h:outD L z=none)(o:Option α):putL L z o=L:=by
 unfold putL
 rw [h]
 rfl
theorem putL_some {α:Type}{L:List (Option α)}{k:Nat}{t:α}(h:outD L ((k+1:Nat):Int)=some t)(o:Option α):putL L ((k+1:Nat):Int) o=L.set k o:=by
 unfold putL
 rw [h,Option.isSome_some,if_pos rfl]
 congr 1
 omega
theorem mod_apart {n m j k:Nat}(h1:m<=j)(h2:j<m+n)(h3:m<=k)(h4:k<m+n)(hne:j≠k):(j+1) % n≠(k+1) % n:=by
 intro e
 have key:∀a b:Nat,a<b->b<a+n->(a+1) % n=(b+1) % n->False:=by
  intro a b hab hb he
  have:=Nat.sub_mod_eq_zero_of_mod_eq he.symm
  rw [Nat.mod_eq_of_lt (by omega)] at this
  omega
 rcases Nat.lt_or_gt_of_ne hne with h | h
 ·exact key j k h (by omega) e
 ·exact key k j h (by omega) e.symm
theorem made_one (z:Value)(n:Nat):(madeCells #[z] (n*1)).toList=List.replicate n z:=by
 apply List.ext_getElem?
 intro k
 by_cases hk:k<n
 ·simp [madeCells,hk,Nat.mod_one]
 ·rw [List.getElem?_eq_none (by simp [madeCells];omega),List.getElem?_eq_none (by simp;omega)]
theorem al1 (w:World)(c:Array Value)(t:Nat):∃w1,w.alloc (.cells c t)=w1/\Hid (Blk w1 w.heap.size t c/\w.grownBy w1 none/\w1.heap.size=w.heap.size+1) :=
 ⟨_,rfl,heap_alloc_new _ _,World.grownBy_alloc _ _ _,by simp⟩
def Qn (Q:Nat->Prop)(w w':World)(i:Nat):Prop:=Q i\/(w.heap.size<=i/\i<w'.heap.size)
end Go.Proofs.YtanoabliahcbeaaGreat.Wn
namespace Go.Proofs.YtanoabliahcbeaaGreat.Wn
open Go.RowKit Disk Table
def outN {α:Type}(L:List (Option α))(k:Nat):Nat:=(L.take k).countP Option.isSome
theorem outN_zero {α:Type}(L:List (Option α)):outN L 0=0:=by simp [outN]
theorem outN_le {α:Type}(L:List (Option α))(k:Nat):outN L k<=L.length:=by
 unfold outN
 exact Nat.le_trans List.countP_le_length (by simp;omega)
theorem outN_none {α:Type}{L:List (Option α)}{k:Nat}(h:L[k]? = some none):outN L (k+1)=outN L k:=by
 unfold outN
 rw [List.take_add_one,h,List.countP_append]
 rfl
theorem outN_some {α:Type}{L:List (Option α)}{k:Nat}{t:α}(h:L[k]? = some (some t)):outN L (k+1)=outN L k+1:=by
 unfold outN
 rw [List.take_add_one,h,List.countP_append]
 rfl
theorem outN_same {α:Type}{L:List (Option α)}{s j:Nat}(h1:s<=j)(h2:∀i,s<=i->i<j->L[i]? = some none):outN L j=outN L s:=by
 obtain ⟨d,rfl⟩:∃d,j=s+d:=⟨j-s,by omega⟩
 clear h1
 induction d with
 | zero=>rfl
 | succ d ih =>
  rw [<-Nat.add_assoc,outN_none (h2 (s+d) (by omega) (by omega))]
  exact ih fun i a b=>h2 i a (by omega)
theorem outN_step {α:Type}{L:List (Option α)}{s j:Nat}{t:α}(h1:s<=j)(h2:∀i,s<=i->i<j->L[i]? = some none)(h3:L[j]? = some (some t)):outN L (j+1)=outN L s+1:=by
 rw [outN_some h3,outN_same h1 h2]
theorem outN_fin {α:Type}{L:List (Option α)}{s:Nat}(h:∀i,s<=i->i<L.length->L[i]? = some none):outN L s=outN L L.length:=by
 rcases Nat.le_total s L.length with h1 | h1
 ·exact (outN_same h1 h).symm
 ·unfold outN
  rw [List.take_of_length_le h1,List.take_length]
theorem tx_grown {n0:Nat}{w W W':World}(h:Tx n0 W W')(hg:w.grownBy W none)(hn:w.heap.size<=n0):w.grownBy W' none :=
 ⟨h.os.trans hg.os,h.tape.trans hg.tape,h.output.trans hg.output,Nat.le_trans hg.size h.size,fun i hi _=>(h.block i (Nat.lt_of_lt_of_le hi hg.size) (.inl (by omega))).trans (hg.block i hi (by simp))⟩
theorem al3 (w:World)(A B D:Array Value)(s t u:Nat):∃W,((w.alloc (.cells A s)).alloc (.cells B t)).alloc (.cells D u)=W/\Hid (Blk W w.heap.size s A/\Blk W (w.heap.size+1) t B/\Blk W (w.heap.size+1+1) u D/\w.grownBy W none/\W.heap.size=w.heap.size+3):=by
 refine ⟨_,rfl,?_,?_,?_,?_,by simp⟩
 ·exact Blk.grown (Blk.grown (heap_alloc_new _ _) (World.grownBy_alloc _ _ none) (by simp)) (World.grownBy_alloc _ _ none) (by simp)
 ·have:=Blk.grown (t:=t) (c:=B) (heap_alloc_new (w.alloc (.cells A s)) (.cells B t)) (World.grownBy_alloc _ (.cells D u) none) (by simp)
  simpa using this
 ·have:=heap_alloc_new ((w.alloc (.cells A s)).alloc (.cells B t)) (.cells D u)
  rw [show ((w.alloc (.cells A s)).alloc (.cells B t)).heap.size=w.heap.size+1+1 by simp] at this
  exact this
 ·exact grown_trans (World.grownBy_alloc _ _ _) (grown_trans (World.grownBy_alloc _ _ _) (World.grownBy_alloc _ _ _))
theorem al2 (w:World)(A B:Array Value)(s t:Nat):∃W,(w.alloc (.cells A s)).alloc (.cells B t)=W/\Hid (Blk W w.heap.size s A/\Blk W (w.heap.size+1) t B/\w.grownBy W none/\W.heap.size=w.heap.size+2):=by
 refine ⟨_,rfl,?_,?_,?_,by simp⟩
 ·exact Blk.grown (heap_alloc_new _ _) (World.grownBy_alloc _ _ none) (by simp)
 ·have:=heap_alloc_new (w.alloc (.cells A s)) (.cells B t)
  rw [show (w.alloc (.cells A s)).heap.size=w.heap.size+1 by simp] at this
  exact this
 ·exact grown_trans (World.grownBy_alloc _ _ _) (World.grownBy_alloc _ _ _)
end Go.Proofs.YtanoabliahcbeaaGreat.Wn
