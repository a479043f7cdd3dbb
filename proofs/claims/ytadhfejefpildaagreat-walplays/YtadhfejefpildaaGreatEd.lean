import Derived.Test.YtadhfejefpildaaGreatRc
import Derived.Test.YtadhfejefpildaaGreatFrameSn
set_option maxRecDepth 100000
namespace Go.Proofs.YtadhfejefpildaaGreat
open Go.RowKit Disk Table
open Go.Proofs.YtadhfejefpildaaGreat.Calls
open Go.Proofs.YtadhfejefpildaaGreat.Command
open Go.Proofs.YtadhfejefpildaaGreat.Frame (Frs)
def EnR (B:Nat)(w:World)(x:List Value)(e:PEnt):Prop:=∃ov,x=(entA ov e).toList/\aC w B ov e.2.ops
theorem jy (B:Nat):Stab (fun t=>t=147\/t=5) (EnR B):=by
 refine ⟨fun w w' vs x h hg=>?_,fun w w' vs x g t cur h hb ht hg=>?_⟩
 ·obtain ⟨ov,e,h⟩:=h
  exact ⟨ov,e,h.grown hg⟩
 ·obtain ⟨ov,e,h⟩:=h
  exact ⟨ov,e,h.set hb (fun e=>ht (.inl e)) (fun e=>ht (.inr e)) hg⟩
def bA (w:World)(B:Nat)(v:Value)(E:List PEnt):Prop:=LRow 34 7 (EnR B) w B v E
theorem bA.grown {w w':World}{B:Nat}{v:Value}{E:List PEnt}(h:bA w B v E)(hg:w.grownBy w' none):bA w' B v E:=LRow.grown h (jy B) hg
theorem bA.set {w w':World}{B x t':Nat}{v:Value}{E:List PEnt}{cc:Array Value}(h:bA w B v E)(hx:Blk w x t' cc)(h1:t'≠34)(h2:t'≠147)(h3:t'≠5)(hg:w.grownBy w' (some x)):bA w' B v E:=LRow.set h (jy B) hx h1 (by rintro (h | h);exact h2 h;exact h3 h) hg
theorem bA.keep {w w':World}{B:Nat}{v:Value}{E:List PEnt}(h:bA w B v E)(hs:∀i t c,Blk w i t c->t=34\/t=147\/t=5->w'.heap[i]? = w.heap[i]?):bA w' B v E:=by
 obtain ⟨vs,h1,h2,h3,h4⟩:=h
 refine ⟨vs,?_,h2,h3,fun j a b=>?_⟩
 ·refine ⟨h1.1,?_⟩
  rcases h1.2 with h0 | ⟨g,cap,cur,e,hb,hg,hr⟩
  ·exact .inl h0
  ·exact .inr ⟨g,cap,cur,e,hb,(hs g 34 cur hg (.inl rfl)).trans hg,hr⟩
 ·obtain ⟨ov,e,h⟩:=h4 j a b
  exact ⟨ov,e,iO h fun i t c hb ht=>hs i t c hb (.inr ht)⟩
theorem bA.tx {n0:Nat}{w w':World}{B:Nat}{v:Value}{E:List PEnt}(h:bA w B v E)(ht:Tx n0 w w'):bA w' B v E:=h.keep fun i t c hb e=>ht.block i hb.lt (.inr ⟨_,_,_,hb,by rcases e with rfl | rfl | rfl <;> decide⟩)
theorem bA.mono {w:World}{B B':Nat}{v:Value}{E:List PEnt}(h:bA w B v E)(hB:B'<=B):bA w B' v E:=by
 obtain ⟨vs,h1,h2,h3,h4⟩:=LRow.mono h hB
 exact ⟨vs,h1,h2,h3,fun j a b=>by
  obtain ⟨ov,e,h⟩:=h4 j a b
  exact ⟨ov,e,h.mono hB⟩⟩
theorem iD (w:World)(B:Nat):bA w B (.slice none 0 0) []:=aO w B
theorem vz:(Tryz.prog.info? 34).map (fun i=>(i.zero,i.size,i.bytes))=some (some (.agg #[.int .i64 0,.int .i64 0,.int .i64 0,.int .i64 0,.int .i64 0,.int .i64 0,.slice none 0 0]),7,72):=by kernel_rfl
theorem ut22:Tryz.prog.underlying 22=some (.slice 34):=by kernel_rfl
theorem tQ {o:Oper}{a:Act}{K:Act->World->Prop}{Q:Exit->Act->World->Prop}(w:World)(s x:Operand)(ho:o.op=.call { callee:=.builtin .append,args:=#[s,x],argTypes:=#[22,22] })
  (B:Nat) (v:Value) (E:List PEnt) (e:PEnt) (o1:Option Addr) (o2 o3:Nat) (g:Nat) (hs:a.eval s=v) (hx:a.eval x=.slice (some ⟨g,0,none⟩) 1 1) (hrow:bA w B v E) (hc:Blk w g 34 (entA (.slice o1 o2 o3) e)) (hp:aC w B (.slice o1 o2 o3) e.2.ops) (hb:E.length<=1000000) (hB:B<=w.heap.size)
  (h:∀g' cap' w',bA w' B (.slice (some ⟨g',0,none⟩) (E.length+1) cap') (E ++ [e])->w.grownBy w' v.ownBlock->(v.ownBlock=some g'\/g'=w.heap.size)->g'<w'.heap.size->K (a.put o.dst (.slice (some ⟨g',0,none⟩) (E.length+1) cap')) w'):o.wp Tryz.prog a w K Q:=by
 obtain ⟨i0,hi,hz0,hz1,hz2⟩:=info_parts vz
 obtain ⟨vs,h1,h2,h3,h4⟩:=hrow
 obtain ⟨q0,q1,q2,q3,q4,q5,q6⟩:=blk7 hc
 refine wp_append_lies w s x 22 ho B 34 i0 _ 7 72 ut22 hi hz0 hz1 hz2 rfl (by decide) v E.length vs.flatten hs h1 ⟨g,0,none⟩ 1 1 (entA (.slice o1 o2 o3) e).toList hx rfl ?_ ?_ (by decide) (by unfold maxLen;omega) (by omega) hB w.heap.size rfl ?_
 ·intro j y hj
  rw [lH]
  match j,hj with
  | 0,hj=>simp [entA] at hj;subst hj;exact q0
  | 1,hj=>simp [entA] at hj;subst hj;exact q1
  | 2,hj=>simp [entA] at hj;subst hj;exact q2
  | 3,hj=>simp [entA] at hj;subst hj;exact q3
  | 4,hj=>simp [entA] at hj;subst hj;exact q4
  | 5,hj=>simp [entA] at hj;subst hj;exact q5
  | 6,hj=>simp [entA] at hj;subst hj;exact q6
  | j+7,hj=>simp [entA] at hj
 ·intro y hy
  simp [entA] at hy
  rcases hy with rfl | rfl | rfl | rfl | rfl | rfl | rfl <;> rfl
 ·intro g' cap' w' r2 r3 r4 r5
  exact h g' cap' w' (LRow.snoc (jy B) (by decide) h1 h2 h3 h4 rfl ⟨_,rfl,hp⟩ r3 r2) r3 r4 r5
theorem kV {ops:Array Oper}{rest:List Oper}{o:Oper}{a:Act}{Q:Exit->Act->World->Prop}(w:World)(hw:Region.wanted o (yielded ops a.tmps)=true)(s x:Operand)(ho:o.op=.call { callee:=.builtin .append,args:=#[s,x],argTypes:=#[22,22] })
  (B:Nat) (v:Value) (E:List PEnt) (e:PEnt) (o1:Option Addr) (o2 o3:Nat) (g:Nat) (hs:a.eval s=v) (hx:a.eval x=.slice (some ⟨g,0,none⟩) 1 1) (hrow:bA w B v E) (hc:Blk w g 34 (entA (.slice o1 o2 o3) e)) (hp:aC w B (.slice o1 o2 o3) e.2.ops) (hb:E.length<=1000000) (hB:B<=w.heap.size)
  (h:∀g' cap' w',bA w' B (.slice (some ⟨g',0,none⟩) (E.length+1) cap') (E ++ [e])->w.grownBy w' v.ownBlock->(v.ownBlock=some g'\/g'=w.heap.size)->g'<w'.heap.size->wpList Tryz.prog ops Q rest (a.put o.dst (.slice (some ⟨g',0,none⟩) (E.length+1) cap')) w'):wpList Tryz.prog ops Q (o :: rest) a w :=
 BigFrame.wpList_want hw fun _ hK=>tQ w s x ho B v E e o1 o2 o3 g hs hx hrow hc hp hb hB fun g' cap' w' h1 h2 h3 h4=>hK _ _ (h g' cap' w' h1 h2 h3 h4)
def AllP (L:Bs)(w:World)(x:Ending)(w':World):Prop:=∃Bx u,x=.returned (.func (.func 108) #[] #[.pointer (some ⟨Bx,0,none⟩)])/\w.heap.size<=Bx/\Blk w' Bx 23 #[u]/\Disk.Own w' w.heap.size u L/\w.grownBy w' none
theorem wm (v:Value)(L:Bs)(w:World)(hs:Seg w v L)(hL:L.length<=140737488355328):Calls Tryz.prog 79 #[v] w (AllP L w):=by
 obtain ⟨ao,cap,e⟩:=hs.shape
 have HS:Hid (Seg w v L/\L.length<=140737488355328):=⟨hs,hL⟩
 obtain ⟨n,hn⟩:∃n,L.length=n:=⟨_,rfl⟩
 rw [hn] at e
 subst e
 clear hs hL hn
 go_enter Tryz.func79,Tryz.ntmps79
 go_wp2_with fail
 refine (ep (.slice ao n cap) L w HS.out.1 HS.out.2).mono ?_
 rintro e w1 ⟨u,rfl,ou,g1⟩
 obtain ⟨ua,un,uc,eu⟩:=Calls.aB ou
 subst eu
 have H1:Hid (Disk.Own w1 w.heap.size (.slice ua un uc) L/\w.grownBy w1 none):=⟨ou,g1⟩
 clear ou g1
 go_wp2_with fail
 refine (Frame.mp (.slice ua un uc) L w1 H1.out.1.seg).mono ?_
 rintro e w2 ⟨rfl,hw2⟩
 have H2:Hid (AllP L w (.returned (.func (.func 108) #[] #[.pointer (some ⟨w1.heap.size,0,none⟩)])) w2):=by
  rw [hw2]
  have g:=World.grownBy_alloc w1 (.cells #[.slice ua un uc] 23) none
  exact ⟨_,_,rfl,H1.out.2.size,heap_alloc_new _ _,H1.out.1.grown g,aa H1.out.2 g⟩
 clear hw2
 go_wp2_with fail
 go_ret
 exact H2.out
def ws (L:Bs)(w:World)(x:Ending)(w':World):Prop:=∃Cx Bx u,x=.returned (.func (.func 80) #[] #[.pointer (some ⟨Cx,0,none⟩)])/\w.heap.size<=Cx/\w.heap.size<=Bx/\Blk w' Cx 141 #[.func (.func 108) #[] #[.pointer (some ⟨Bx,0,none⟩)]]/\Blk w' Bx 23 #[u]/\Disk.Own w' w.heap.size u L/\w.grownBy w' none
theorem kw (v:Value)(L:Bs)(w:World)(hs:Seg w v L)(hL:L.length<=140737488355328):Calls Tryz.prog 45 #[v] w (ws L w):=by
 obtain ⟨ao,cap,e⟩:=hs.shape
 have HS:Hid (Seg w v L/\L.length<=140737488355328):=⟨hs,hL⟩
 obtain ⟨n,hn⟩:∃n,L.length=n:=⟨_,rfl⟩
 rw [hn] at e
 subst e
 clear hs hL hn
 go_enter Tryz.func45,Tryz.ntmps45
 go_wp2_with fail
 refine (wm (.slice ao n cap) L w HS.out.1 HS.out.2).mono ?_
 rintro e w1 ⟨Bx,u,rfl,h1,h2,h3,g1⟩
 have H1:Hid (w.heap.size<=Bx/\Blk w1 Bx 23 #[u]/\Disk.Own w1 w.heap.size u L/\w.grownBy w1 none):=⟨h1,h2,h3,g1⟩
 clear h1 h2 h3 g1
 obtain ⟨w2,hw2,H2⟩:=al1 w1 #[.nilFunc] 141
 have b0:=H2.out.1.cell 0
 have f0:=H2.out.1.free 0
 simp at b0
 obtain ⟨Cx,hCx⟩:∃x,w1.heap.size=x:=⟨_,rfl⟩
 have HCX:Hid (w1.heap.size=Cx):=hCx
 rw [hCx] at H2 b0 f0
 have hst:∀(x:World) (a:Addr),(store a (.func (.func 108) #[] #[.pointer (some ⟨Bx,0,none⟩)])).run Tryz.prog x=stored Tryz.prog x a (.func (.func 108) #[] #[.pointer (some ⟨Bx,0,none⟩)]) .plain:=fun x a=>run_store Tryz.prog x a _ .plain rfl
 go_wp2_with fail
 go_ret
 have g:=ah H2.out.2.1 (ae w2 Cx 0 (.func (.func 108) #[] #[.pointer (some ⟨Bx,0,none⟩)])) (fun x hx=>by simp at hx;omega)
 exact ⟨Cx,Bx,u,rfl,by rw [<-HCX.out];exact H1.out.2.2.2.size,H1.out.1,H2.out.1.store 0 _,H1.out.2.1.grown g (by simp),H1.out.2.2.1.grown g,aa H1.out.2.2.2 g⟩
end Go.Proofs.YtadhfejefpildaaGreat
