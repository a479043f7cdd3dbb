import Derived.Test.YtakmlhhapegpoaaGreatMjlAll
set_option maxHeartbeats 4000000
set_option maxRecDepth 100000
namespace Go.Proofs.YtakmlhhapegpoaaGreat
open Go.RowKit Disk Table
def XY (X Y:Nat->Prop):Nat->Prop:=fun g=>X g\/Y g
def InY (Y:Nat->Prop)(v:Value):Prop:=∀g,v.ownBlock=some g->Y g
theorem InY.nil (Y:Nat->Prop):InY Y (.slice none 0 0):=fun g h=>by simp [Value.ownBlock] at h
theorem InY.mono {Y Z:Nat->Prop}{v:Value}(h:InY Y v)(hi:∀g,Y g->Z g):InY Z v:=fun g hg=>hi g (h g hg)
theorem ownz_anti {X Z:Nat->Prop}{w:World}{v:Value}{L:Bs}(h:OwnZ X w v L)(hi:∀g,Z g->X g):OwnZ Z w v L:=⟨h.1,fun g hg hz=>h.2 g hg (hi g hz)⟩
theorem tbz_anti {X Z:Nat->Prop}{w:World}{b:Nat}{l:List PRow}(h:Tbz X w b l)(hi:∀g,Z g->X g):Tbz Z w b l:=by
 obtain ⟨v,h1,ps,h2,h3⟩:=h
 refine ⟨v,h1,ps,⟨h2.1,fun j a b=>?_⟩,h3⟩
 obtain ⟨k,x,g1,g2,g3,g4⟩:=h2.2 j a b
 exact ⟨k,x,g1,ownz_anti g2 hi,ownz_anti g3 hi,fun hz=>g4 (hi _ hz)⟩
theorem em_anti {X Z:Nat->Prop}{w:World}{m:Nat}{D:DB}(h:EM X w m D)(hi:∀g,Z g->X g):EM Z w m D:=by
 obtain ⟨E,h1,h2,h3⟩:=h
 exact ⟨E,h1,h2,fun x hx=>tbz_anti (h3 x hx) hi⟩
theorem tbz_wide {X:Nat->Prop}{w:World}{b:Nat}{l:List PRow}(h:Tbz X w b l):Tbz (XY X fun g=>w.heap.size<=g) w b l:=by
 obtain ⟨v,h1,ps,h2,h3⟩:=h
 refine ⟨v,h1,ps,⟨h2.1,fun j a b=>?_⟩,h3⟩
 obtain ⟨k,x,g1,g2,g3,g4⟩:=h2.2 j a b
 have key:∀{v:Value} {L:Bs},OwnZ X w v L->OwnZ (XY X fun g=>w.heap.size<=g) w v L:=fun {v L} h=>⟨h.1,fun g hg hx=>hx.elim (h.2 g hg) (fun hx=>by have:=(h.1.lt g hg).2;omega)⟩
 exact ⟨k,x,g1,key g2,key g3,fun hx=>hx.elim g4 (fun hx=>by have:=g1.lt;omega)⟩
theorem em_widen {X:Nat->Prop}{w w':World}{m n:Nat}{D:DB}(h:EM X w m D)(hg:w.grownBy w' none):EM (XY X fun g=>w.heap.size<=g/\g<n) w' m D:=by
 obtain ⟨E,h1,h2,h3⟩:=h
 exact em_anti (EM.grown ⟨E,h1,h2,fun x hx=>tbz_wide (h3 x hx)⟩ hg) (fun g hx=>hx.imp id (·.1))
def RowsY (Y:Nat->Prop)(w:World)(v:Value):Prop:=∀(g n cap:Nat) (c:Array Value),v=.slice (some ⟨g,0,none⟩) n cap->Blk w g 86 c->∀(j:Nat) (u:Value),j<n*2->c[j]? = some u->InY Y u
theorem RowsY.nil (Y:Nat->Prop)(w:World):RowsY Y w (.slice none 0 0):=fun g n cap c e=>by simp at e
theorem RowsY.mono {Y Z:Nat->Prop}{w:World}{v:Value}(h:RowsY Y w v)(hi:∀g,Y g->Z g):RowsY Z w v:=fun g n cap c e hb j u hj hu=>(h g n cap c e hb j u hj hu).mono hi
theorem rcells_mem:∀(ks:List (Value × Value)) (u:Value),u ∈ rcells ks->∃k ∈ ks,u=k.1\/u=k.2
 | [],u,h=>by simp [rcells] at h
 | k :: ks,u,h=>by
  simp only [rcells,List.mem_cons] at h
  rcases h with h | h | h
  ·exact ⟨k,by simp,.inl h⟩
  ·exact ⟨k,by simp,.inr h⟩
  ·obtain ⟨k',h1,h2⟩:=rcells_mem ks u h
   exact ⟨k',by simp [h1],h2⟩
theorem rowsY_of {w:World}{B:Nat}{v:Value}{l:List PRow}(h:TRws w B v l):RowsY (fun g=>B<=g/\g<w.heap.size) w v:=by
 obtain ⟨ks,h1,h2⟩:=h
 intro g n cap c e hb j u hj hu
 rcases h1.2 with ⟨e2,_⟩ | ⟨g2,cap2,cur2,e2,_,hg2,hnc,_,hcs,htake⟩
 ·rw [e2] at e;simp at e
 ·rw [e2] at e
  simp at e
  obtain ⟨rfl,rfl,rfl⟩:=e
  unfold Blk at hb
  rw [hg2] at hb
  simp at hb
  subst hb
  have hm:u ∈ rcells ks:=by
   rw [<-htake]
   refine List.mem_of_getElem? (i:=j) ?_
   rw [List.getElem?_take_of_lt hj]
   simpa using hu
  obtain ⟨k,hk,hu⟩:=rcells_mem ks u hm
  obtain ⟨i,hi,rfl⟩:=List.getElem_of_mem hk
  have hh:=h2.2 i hi (by rw [<-h2.1];exact hi)
  rcases hu with rfl | rfl
  ·exact fun g hg=>hh.1.lt g hg
  ·exact fun g hg=>hh.2.lt g hg
theorem inY_of {w:World}{B:Nat}{v:Value}{L:Bs}(h:Disk.Own w B v L):InY (fun g=>B<=g/\g<w.heap.size) v:=fun g hg=>h.lt g hg
theorem rowsY_same {Y:Nat->Prop}{w w':World}{B:Nat}{v:Value}{l:List PRow}(h:RowsY Y w v)(ht:TRws w B v l)(hs:∀g c,v.ownBlock=some g->Blk w g 86 c->w'.heap[g]? = w.heap[g]?):RowsY Y w' v:=by
 intro g n cap c e hb
 obtain ⟨ks,h1,_⟩:=ht
 rcases h1.2 with ⟨e2,_⟩ | ⟨g2,cap2,cur2,e2,_,hg2,_⟩
 ·rw [e2] at e;simp at e
 ·have e3:=e2
  rw [e] at e2
  simp at e2
  obtain ⟨rfl,_⟩:=e2
  refine h g n cap c e ?_
  unfold Blk at hb ⊢
  rw [<-hs g cur2 (by rw [e];rfl) hg2]
  exact hb
end Go.Proofs.YtakmlhhapegpoaaGreat
namespace Go.Proofs.YtakmlhhapegpoaaGreat
open Go.RowKit Disk Table
open Names (Str cmpL keyB valueB tabB)
open _root_.Go.Proofs.YtakmlhhapegpoaaGreat.Calls (POp POut PRes opV OpSeg mayOp)
theorem meets119 (h:Bool)(x kv vv ol tv:Value)(G:Bs)(o:POp)(w:World)(hx:Seg w x G)(ho:OpSeg w kv vv ol tv o):Calls Tryz.prog 119 #[.agg #[.bool h,x,.slice none 0 0],opV kv vv ol tv o] w fun e w'=>e=.returned (.bool (decide (h=o.has) && decide (G=o.old)))/\w.grownBy w' none:=by
 have HO:Hid (OpSeg w kv vv ol tv o/\Seg w x G):=⟨ho,hx⟩
 obtain ⟨a1,n1,c1,a2,n2,c2,a3,n3,c3,a4,n4,c4,rfl,rfl,rfl,rfl⟩:=op_shape ho
 obtain ⟨a5,c5,ex⟩:=hx.shape
 obtain ⟨n5,hn5⟩:∃n,G.length=n:=⟨_,rfl⟩
 rw [hn5] at ex
 subst ex
 obtain ⟨g,hg⟩:∃g,o.has=g:=⟨_,rfl⟩
 unfold opV
 rw [hg]
 clear ho hx hn5 hg
 by_cases hh:h=g
 ·subst hh
  obtain ⟨R,hR⟩:∃R,decide (G=o.old)=R:=⟨_,rfl⟩
  have HE:Hid (∀y,w.grownBy y none->Calls Tryz.prog 97 #[.slice a5 n5 c5,.slice a3 n3 c3] y fun e w'=>e=.returned (.bool R)/\w'=y):=fun y hy=>equal66b _ _ G o.old R y (HO.out.2.grown hy) (HO.out.1.old.grown hy) hR
  rw [hR]
  clear hR
  have G2:Hid (w.grownBy ((w.alloc (.cells #[.bool h,.slice a5 n5 c5,.slice none 0 0] 72)).alloc (.cells #[.int .i64 o.kind,Str o.table,.slice a1 n1 c1,.slice a2 n2 c2,.bool h,.slice a3 n3 c3,.slice a4 n4 c4,.int .i64 o.most] 67)) none):=grown_trans (World.grownBy_alloc _ _ _) (World.grownBy_alloc _ _ _)
  have he:(h==h)=true:=by simp
  go_enter Tryz.func119,Tryz.ntmps119
  go_wp2_with (go_at_call 97;refine (HE.out _ G2.out).mono ?_;rintro e w1 ⟨rfl,hw⟩;rw [hw];clear hw)
  go_ret
  exact ⟨by simp,G2.out⟩
 ·have he:(h==g)=false:=by simpa using hh
  have hd:decide (h=g)=false:=by simpa using hh
  rw [hd]
  clear hh
  go_enter Tryz.func119,Tryz.ntmps119
  go_wp2_with fail
  go_ret
  exact ⟨rfl,grown_trans (World.grownBy_alloc _ _ _) (World.grownBy_alloc _ _ _)⟩
def putR (q:Int × Int)(D:DB)(o:POp):Except Int (POut × DB) :=
 if aboveD q (putD D o.table o.key o.value)=0 then .ok (⟨hasD D o.table o.key,[],[]⟩,putD D o.table o.key o.value) else .error (aboveD q (putD D o.table o.key o.value))
def meetD (D:DB)(o:POp):Bool:=decide (hasD D o.table o.key=o.has) && decide (gotD D o.table o.key=o.old)
def opD (q:Int × Int)(D:DB)(o:POp):Except Int (POut × DB) :=
 if o.kind=1 then .ok (⟨hasD D o.table o.key,gotD D o.table o.key,[]⟩,D)
 else if o.kind=3 then .ok (⟨hasD D o.table o.key,[],[]⟩,remD D o.table o.key)
 else if o.kind=5 then .ok (⟨false,[],scanL (rowsOf D o.table) o.key o.to o.most⟩,D)
 else if o.kind=4/\meetD D o=false then .error 1
 else putR q D o
def OpE (X:Nat->Prop)(q:Int × Int)(D:DB)(o:POp)(m:Nat)(w:World)(e:Ending)(w':World):Prop :=
 w.grownBy w' (some m)/\((∃r D',opD q D o=.ok (r,D')/\∃x y,e=.returned (.agg #[.bool r.has,x,y])/\Disk.Own w' w.heap.size x r.value/\TRws w' w.heap.size y r.rows/\EM X w' m D')\/(∃c,opD q D o=.error c/\e=PanA c))
def OpEY (X:Nat->Prop)(q:Int × Int)(D:DB)(o:POp)(m:Nat)(w:World)(e:Ending)(w':World):Prop :=
 w.grownBy w' (some m)/\((∃r D',opD q D o=.ok (r,D')/\∃x y Y,e=.returned (.agg #[.bool r.has,x,y])/\Disk.Own w' w.heap.size x r.value/\TRws w' w.heap.size y r.rows/\InY Y x/\RowsY Y w' y/\(∀g,Y g->w.heap.size<=g/\g<w'.heap.size)/\EM (XY X Y) w' m D')\/(∃c,opD q D o=.error c/\e=PanA c))
theorem OpEY.op {X:Nat->Prop}{q:Int × Int}{D:DB}{o:POp}{m:Nat}{w w':World}{e:Ending}(h:OpEY X q D o m w e w'):OpE X q D o m w e w':=by
 obtain ⟨h0,⟨r,D',h1,x,y,Y,h2,h3,h4,_,_,_,h5⟩ | h⟩:=h
 ·exact ⟨h0,.inl ⟨r,D',h1,x,y,h2,h3,h4,em_anti h5 (fun g hx=>.inl hx)⟩⟩
 ·exact ⟨h0,.inr h⟩
def noY:Nat->Prop:=fun _=>False
theorem em_noY {X:Nat->Prop}{w:World}{m:Nat}{D:DB}(h:EM X w m D):EM (XY X noY) w m D:=em_anti h (fun _g hx=>hx.elim id (fun h=>h.elim))
theorem cells_ptr (x:Bool)(a1 a2:Option Addr)(n1 n2 c1 c2:Nat)(j p:Nat):(#[Value.bool x,.slice a1 n1 c1,.slice a2 n2 c2]:Array Value)[j]?≠some (ptr p):=by
 match j with
 | 0=>simp [ptr]
 | 1=>simp [ptr]
 | 2=>simp [ptr]
 | j+3=>simp
theorem em_set3g {X:Nat->Prop}{w:World}{m b:Nat}{D:DB}{z:Bool}{a1 a2:Option Addr}{n1 n2 c1 c2:Nat}(h:EM X w m D)(hb:Blk w b 72 #[.bool false,.slice none 0 0,.slice none 0 0]):EM X (((w.setCell ⟨b,0,none⟩ (.bool z)).setCell ⟨b,1,none⟩ (.slice a1 n1 c1)).setCell ⟨b,2,none⟩ (.slice a2 n2 c2)) m D:=by
 have h1:=em_setC (i:=0) (v:=.bool z) h hb (cells_ptr _ _ _ _ _ _ _)
 have b1:=hb.store 0 (.bool z)
 have h2:=em_setC (i:=1) (v:=.slice a1 n1 c1) h1 b1 (cells_ptr _ _ _ _ _ _ _)
 have b2:=b1.store 1 (.slice a1 n1 c1)
 exact em_setC (i:=2) (v:=.slice a2 n2 c2) h2 b2 (cells_ptr _ _ _ _ _ _ _)
theorem may_table {o:POp}(h:mayOp o=true):o.table.length<=1000000:=by
 have h1:tabB o.table=true:=by unfold mayOp at h;simp at h;exact h.1.1.1.1.1.2
 unfold tabB at h1
 simp at h1
 omega
theorem may_value {o:POp}(h:mayOp o=true):valueB o.value=true:=by unfold mayOp at h;simp at h;exact h.1.1.1.1.2
theorem may_key {o:POp}(h:mayOp o=true)(hk:o.kind≠5):keyB o.key=true:=by
 have h1:Calls.bounds o=true:=by unfold mayOp at h;simp at h;exact h.1.1.1.1.1.1
 unfold Calls.bounds at h1
 rw [if_neg hk] at h1
 exact h1
end Go.Proofs.YtakmlhhapegpoaaGreat
