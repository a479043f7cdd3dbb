import Derived.Test.YtakmlhhapegpoaaGreatSj
namespace Go.Proofs.YtakmlhhapegpoaaGreat
open Go.RowKit Disk Table
open Names (Str cmpL keyB valueB tabB)
theorem flat_len (D:DB):(flatD D).length=lenD D:=by
 induction D with
 | nil=>rfl
 | cons x D ih =>
  rw [flat_cons,List.length_append,List.length_map,ih]
  simp [lenD]
theorem ncells_app:∀(a b:List (Bs × Value × Value)),ncells (a ++ b)=ncells a ++ ncells b
 | [],b=>rfl
 | x :: a,b=>by simp [ncells,ncells_app a b]
def NmsO (w:World)(B:Nat)(v:Value)(ks:List (Bs × Value × Value)):Prop:=w.ownsRow B 61 3 v ks.length (ncells ks)
theorem NmsO.same {w w':World}{B:Nat}{v:Value}{ks:List (Bs × Value × Value)}(h:NmsO w B v ks)(hs:∀g,v.ownBlock=some g->w'.heap[g]? = w.heap[g]?):NmsO w' B v ks:=by
 refine ⟨h.1,?_⟩
 rcases h.2 with h2 | ⟨g,cap,cur,h1,h2,h3,h4⟩
 ·exact .inl h2
 ·exact .inr ⟨g,cap,cur,h1,h2,(hs g (by rw [h1];rfl)).trans h3,h4⟩
theorem NmsO.lt {w:World}{B:Nat}{v:Value}{ks:List (Bs × Value × Value)}(h:NmsO w B v ks)(g:Nat)(hg:v.ownBlock=some g):B<=g/\g<w.heap.size:=World.ownsRow.lt h g hg
theorem NmsO.tn {n0:Nat}{w w':World}{B:Nat}{v:Value}{ks:List (Bs × Value × Value)}(h:NmsO w B v ks)(ht:Tn n0 w w'):NmsO w' B v ks:=by
 refine h.same fun g hg=>?_
 rcases h.2 with ⟨rfl,_⟩ | ⟨g',cap,cur,h1,h2,h3,h4⟩
 ·simp [Value.ownBlock] at hg
 ·rw [h1] at hg
  simp [Value.ownBlock] at hg
  subst hg
  exact ht.block _ (Array.getElem?_eq_some_iff.1 h3).1 (.inr ⟨_,_,_,h3⟩)
theorem NmsO.grown {w w':World}{B:Nat}{v:Value}{ks:List (Bs × Value × Value)}(h:NmsO w B v ks)(hg:w.grownBy w' none):NmsO w' B v ks:=h.tn (Tn.of_grown (n0:=0) hg)
theorem NmsO.other {w:World}{B:Nat}{v:Value}{ks:List (Bs × Value × Value)}(h:NmsO w B v ks){b t:Nat}{c:Array Value}(hb:Blk w b t c)(ht:t≠61):v.ownBlock≠some b:=by
 intro hg
 rcases h.2 with ⟨rfl,_⟩ | ⟨g',cap,cur,h1,h2,h3,h4⟩
 ·simp [Value.ownBlock] at hg
 ·rw [h1] at hg
  simp [Value.ownBlock] at hg
  subst hg
  unfold Blk at hb
  rw [hb] at h3
  simp at h3
  exact ht h3.2
theorem NmsO.mono {w:World}{B B':Nat}{v:Value}{ks:List (Bs × Value × Value)}(h:NmsO w B v ks)(hb:B'<=B):NmsO w B' v ks:=by
 refine ⟨h.1,?_⟩
 rcases h.2 with h2 | ⟨g,cap,cur,h1,h2,h3⟩
 ·exact .inl h2
 ·exact .inr ⟨g,cap,cur,h1,by omega,h3⟩
theorem nmsO_nil (w:World)(B:Nat):NmsO w B (.slice none 0 0) []:=World.ownsRow_nil _ _ _ _
def NOwn (w:World)(B:Nat)(ks:List (Bs × Value × Value))(l:List NRow):Prop:=ks.length=l.length/\∀j (_:j<ks.length) (_:j<l.length),ks[j].1=l[j].1/\Disk.Own w B ks[j].2.1 l[j].2.1/\Disk.Own w B ks[j].2.2 l[j].2.2
theorem NOwn.same {w w':World}{B:Nat}{ks:List (Bs × Value × Value)}{l:List NRow}(h:NOwn w B ks l)(hs:∀(g:Nat) (y:Value) (L:Bs),Disk.Own w B y L->y.ownBlock=some g->w'.heap[g]? = w.heap[g]?):NOwn w' B ks l :=
 ⟨h.1,fun j a b=>⟨(h.2 j a b).1,(h.2 j a b).2.1.same fun g hg=>hs g _ _ (h.2 j a b).2.1 hg,(h.2 j a b).2.2.same fun g hg=>hs g _ _ (h.2 j a b).2.2 hg⟩⟩
theorem NOwn.tn {n0:Nat}{w w':World}{B:Nat}{ks:List (Bs × Value × Value)}{l:List NRow}(h:NOwn w B ks l)(ht:Tn n0 w w'):NOwn w' B ks l:=⟨h.1,fun j a b=>⟨(h.2 j a b).1,ht.own (h.2 j a b).2.1,ht.own (h.2 j a b).2.2⟩⟩
theorem NOwn.mono {w:World}{B B':Nat}{ks:List (Bs × Value × Value)}{l:List NRow}(h:NOwn w B ks l)(hb:B'<=B):NOwn w B' ks l:=⟨h.1,fun j a b=>⟨(h.2 j a b).1,(h.2 j a b).2.1.mono hb,(h.2 j a b).2.2.mono hb⟩⟩
theorem nown_nil (w:World)(B:Nat):NOwn w B [] []:=⟨rfl,fun _ h _=>absurd h (by simp)⟩
theorem NOwn.snoc {w:World}{B:Nat}{ks:List (Bs × Value × Value)}{l:List NRow}(h:NOwn w B ks l){n:Bs}{x y:Value}{r:PRow}(hx:Disk.Own w B x r.1)(hy:Disk.Own w B y r.2):NOwn w B (ks ++ [(n,x,y)]) (l ++ [(n,r)]):=by
 refine ⟨by simp [h.1],fun j a b=>?_⟩
 have hl:=h.1
 rcases Nat.lt_or_ge j ks.length with hj | hj
 ·have hj':j<l.length:=by omega
  simp only [List.getElem_append_left hj,List.getElem_append_left hj']
  exact h.2 j hj hj'
 ·have e:j=ks.length:=by simp at a;omega
  subst e
  simp [hl,hx,hy]
theorem nms_of {w:World}{B C:Nat}{v:Value}{ks:List (Bs × Value × Value)}{l:List NRow}(h:NmsO w B v ks)(hk:NOwn w C ks l):Nms w v l:=by
 refine ⟨ks,⟨hk.1,fun j a b=>⟨(hk.2 j a b).1,(hk.2 j a b).2.1.seg,(hk.2 j a b).2.2.seg⟩⟩,?_⟩
 rw [<-hk.1]
 rcases h.2 with ⟨rfl,h0⟩ | ⟨g,cap,cur,h1,h2,h3,h4,h5,h6⟩
 ·have:ks=[]:=List.length_eq_zero_iff.1 h0
  subst this
  exact vec_nil _ _
 ·subst h1
  refine ⟨some ⟨g,0,none⟩,cap,rfl,h4,h5,?_,ncells_len _,fun j u hu=>⟨g,0,rfl,?_⟩⟩
  ·intro e
   cases e
  ·have hj:=(List.getElem?_eq_some_iff.1 hu).1
   rw [Nat.zero_add,World.ownsRow.cellAt h j (by rw [ncells_len] at hj;exact hj)]
   exact hu
theorem nmsO_apart {w:World}{B C:Nat}{v y:Value}{ks:List (Bs × Value × Value)}{L:Bs}(h:NmsO w B v ks)(ho:Disk.Own w C y L){g:Nat}(hg:y.ownBlock=some g):v.ownBlock≠some g:=by
 intro hv
 rcases ho.2 with ⟨rfl,_⟩ | ⟨g',cap,cur,rfl,_,h3,_⟩
 ·simp [Value.ownBlock] at hg
 ·simp [Value.ownBlock] at hg
  subst hg
  exact h.other (b:=g') (t:=5) h3 (by decide) hv
theorem ut24':Tryz.prog.underlying 24=some (.slice 61):=by kernel_rfl
theorem info61:(Tryz.prog.info? 61).map (fun i=>(i.zero,i.size,i.bytes))=some (some (.agg #[.string ⟨#[]⟩,.slice none 0 0,.slice none 0 0]),3,64):=by kernel_rfl
theorem appM_wp {o:Oper}{a:Act}{K:Act->World->Prop}{Q:Exit->Act->World->Prop}(w:World)(s x:Operand)(ho:o.op=.call { callee:=.builtin .append,args:=#[s,x],argTypes:=#[24,24] })
  (B:Nat) (v:Value) (ks:List (Bs × Value × Value)) (n:Bs) (kx:Option Addr) (kn kc:Nat) (yx:Option Addr) (yn yc:Nat) (g0:Nat) (hs:a.eval s=v) (hx:a.eval x=.slice (some ⟨g0,0,none⟩) 1 1) (hb:Blk w g0 61 #[Str n,.slice kx kn kc,.slice yx yn yc]) (hv:NmsO w B v ks) (hp:ks.length<=1000000) (hB:B<=w.heap.size)
  (h:∀g cap w',NmsO w' B (.slice (some ⟨g,0,none⟩) (ks.length+1) cap) (ks ++ [(n,.slice kx kn kc,.slice yx yn yc)])->w.grownBy w' v.ownBlock->(v.ownBlock=some g\/g=w.heap.size)->g<w'.heap.size->K (a.put o.dst (.slice (some ⟨g,0,none⟩) (ks.length+1) cap)) w'):o.wp Tryz.prog a w K Q:=by
 obtain ⟨i0,hi,hz0,hz1,hz2⟩:=info_parts info61
 refine wp_append_lies w s x 24 ho B 61 i0 _ 3 64 ut24' hi hz0 hz1 hz2 rfl (by decide) v ks.length (ncells ks) hs hv ⟨g0,0,none⟩ 1 1 [Str n,.slice kx kn kc,.slice yx yn yc] hx rfl ?_ (by simp [Str,Value.oneCell']) (by decide) (by unfold maxLen;omega) (by omega) hB _ rfl ?_
 ·intro j u hj
  rw [addr_add,hb.cell]
  simpa using hj
 ·intro g cap w' h1 h2 h3 h4
  refine h g cap w' ?_ h2 h3 h4
  unfold NmsO
  rw [ncells_app]
  simpa [ncells] using h1
end Go.Proofs.YtakmlhhapegpoaaGreat
