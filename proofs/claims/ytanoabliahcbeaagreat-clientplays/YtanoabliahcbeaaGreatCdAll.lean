import Derived.Test.YtanoabliahcbeaaGreatCbcAll
import Derived.Lib.ConvBytes
set_option maxHeartbeats 40000000
set_option maxRecDepth 100000
namespace Go.Proofs.YtanoabliahcbeaaGreat.Calls
open Go.RowKit Disk
open Names (Str)
def Pan (c:Int):Ending:=.panicked [{ v:=.iface 28 (.int .i64 c),recovered:=false }]
theorem sure_yes (c:Int)(w:World):Calls Tryz.prog 110 #[.bool true,.int .i64 c] w fun e w'=>e=.returned (.tuple #[])/\w'=w:=by
 go_enter Tryz.func110,Tryz.ntmps110
 go_wp2
 go_end0
 exact ⟨rfl,rfl⟩
theorem sure_no (c:Int)(w:World):Calls Tryz.prog 110 #[.bool false,.int .i64 c] w fun e w'=>e=Pan c/\w'=w:=by
 go_enter Tryz.func110,Tryz.ntmps110
 go_wp2
 exact ⟨rfl,rfl,rfl⟩
theorem bytes_grown (w:World)(s:ByteArray):w.grownBy (Lib.bytesWorld w 5 s) none:=by
 refine ⟨?_,?_,?_,by rw [Lib.bytesWorld_size];omega,fun k hk _=>Lib.bytesWorld_at_old w 5 s k hk⟩
 all_goals (unfold Lib.bytesWorld World.freeze;simp [World.alloc,World.drew,-World.alloc_eq,-World.drew_eq];try rfl)
theorem bytes_seg (w:World)(L:List UInt8)(hL:L.length<=9223372036854775807):Seg (Lib.bytesWorld w 5 ⟨L.toArray⟩) (.slice (some ⟨w.heap.size,0,none⟩) L.length (grownCap w L.length 0 5)) L:=by
 refine ⟨_,_,rfl,grownCap_ge _ _ _ _,grownCap_le_maxLen _ _ _ _ (by unfold maxLen;omega),by simp,fun j hj=>⟨w.heap.size,0,rfl,?_⟩⟩
 rw [Nat.zero_add,Lib.bytesWorld_cell w 5 ⟨L.toArray⟩ j (by simpa [ByteArray.size] using hj)]
 simp [List.getD,hj]
theorem conv_bytes (w:World)(L:List UInt8):(convert 9 41 (.string ⟨L.toArray⟩)).run Tryz.prog w=.ok (.slice (some ⟨w.heap.size,0,none⟩) L.length (grownCap w L.length 0 5)) (Lib.bytesWorld w 5 ⟨L.toArray⟩):=by
 rw [Lib.run_convert_string_bytes w 9 41 5 ⟨L.toArray⟩ Tryz.underlying9 Tryz.underlying41 Tryz.underlying5]
 simp [ByteArray.size]
theorem segs_three {w:World}{x y z:Value}{L M N:List UInt8}(hx:Seg w x L)(hy:Seg w y M)(hz:Seg w z N):Wire.Segs (w.alloc (.cells #[x,y,z] 41)) (.slice (some ⟨w.heap.size,0,none⟩) 3 3) [L,M,N] :=
 Wire.segs_lit w #[x,y,z] [L,M,N] rfl (by simp) fun j hj=>match j,hj with
  | 0,_=>⟨x,rfl,hx⟩
  | 1,_=>⟨y,rfl,hy⟩
  | 2,_=>⟨z,rfl,hz⟩
  | j+3,h=>absurd h (by simp)
theorem segs_four {w:World}{x y z u:Value}{L M N O:List UInt8}(hx:Seg w x L)(hy:Seg w y M)(hz:Seg w z N)(hu:Seg w u O):Wire.Segs (w.alloc (.cells #[x,y,z,u] 41)) (.slice (some ⟨w.heap.size,0,none⟩) 4 4) [L,M,N,O] :=
 Wire.segs_lit w #[x,y,z,u] [L,M,N,O] rfl (by simp) fun j hj=>match j,hj with
  | 0,_=>⟨x,rfl,hx⟩
  | 1,_=>⟨y,rfl,hy⟩
  | 2,_=>⟨z,rfl,hz⟩
  | 3,_=>⟨u,rfl,hu⟩
  | j+4,h=>absurd h (by simp)
def FormOr (ok:Bool)(F:Bs)(c:Int)(w:World)(e:Ending)(w':World):Prop:=(ok=true/\∃u,e=.returned u/\Own w' w.heap.size u F/\w.grownBy w' none)\/(ok=false/\e=Pan c/\w.grownBy w' none)
theorem bytesForm_len (L:Bs)(h:L.length<=256):(bytesForm L).length<=266:=by
 have:=Wire.numForm_len10 L.length (by omega)
 simp [bytesForm];omega
theorem slice_of {w:World}{B:Nat}{v:Value}{L:Bs}(h:Own w B v L):∃x n y,v=.slice x n y:=by obtain ⟨x,y,e⟩:=h.seg.shape;exact ⟨x,_,y,e⟩
theorem own_mono_trans {w w1 w2:World}{B:Nat}{v:Value}{L:Bs}(h:Own w1 B v L)(hg:w1.grownBy w2 none)(hB:w.heap.size<=B):Own w2 w.heap.size v L:=(h.grown hg).mono hB
theorem may120_of (x k v ol t:Value)(a:POp)(w:World)(hx:x=opV k v ol t a)(ha:OpSeg w k v ol t a):Calls Tryz.prog 144 #[x] w fun e w'=>e=.returned (.bool (mayOp a))/\w.grownBy w' none:=by subst hx;exact may120 k v ol t a w ha
theorem opform76_1 (k v ol t:Value)(a:POp)(w:World)(ha:OpSeg w k v ol t a)(hk:a.kind=1)(hm:mayOp a=true) :
  Calls Tryz.prog 112 #[opV k v ol t a] w fun e w'=>∃u,e=.returned u/\Own w' w.heap.size u (opForm a)/\w.grownBy w' none:=by
 obtain ⟨a1,a2,a3,a4,b1,b2,b3,b4,rfl,rfl,rfl,rfl⟩:=ha.shapes
 have HM:Hid (May a):=may_of hm
 have HQ:Hid (mayOp a=true):=hm
 have HF:Hid (opForm a=Wire.numForm 1 ++ (bytesForm a.table ++ bytesForm a.key)):=by
  unfold opForm frontForm tailForm
  rw [hk]
  simp [Hid]
 obtain ⟨ms,hms⟩:∃n,n=a.most:=⟨_,rfl⟩
 obtain ⟨F,hF⟩:∃F,F=opForm a:=⟨_,rfl⟩
 rw [<-hF] at HF ⊢
 have HS:Hid (ms=a.most):=hms
 have cb:=conv_bytes
 have HA:Hid (OpSeg w (.slice a1 a.key.length b1) (.slice a2 a.value.length b2) (.slice a3 a.old.length b3) (.slice a4 a.to.length b4) a):=ha
 have HX:Hid (Value.agg #[.int .i64 1,.string ⟨a.table.toArray⟩,.slice a1 a.key.length b1,.slice a2 a.value.length b2,.bool a.has,.slice a3 a.old.length b3,.slice a4 a.to.length b4,.int .i64 ms]=opV (.slice a1 a.key.length b1) (.slice a2 a.value.length b2) (.slice a3 a.old.length b3) (.slice a4 a.to.length b4) a):=by rw [hms,<-hk];rfl
 rw [<-HX.out]
 clear ha hm hms hk hF
 go_enter Tryz.func112,Tryz.ntmps112
 go_wp2_with (go_at_call 144;refine (may120_of _ _ _ _ _ a _ HX.out (HA.out.grown (World.grownBy_alloc _ _ none))).mono ?_)
 rintro e w1 ⟨rfl,hg1⟩
 rw [HQ.out]
 have hb:=heap_alloc_new w (.cells #[.int .i64 1,.string ⟨a.table.toArray⟩,.slice a1 a.key.length b1,.slice a2 a.value.length b2,.bool a.has,.slice a3 a.old.length b3,.slice a4 a.to.length b4,.int .i64 ms] 109)
 have HC:Hid (∀x:World,w1.grownBy x none->x.cell? ⟨w.heap.size,0,none⟩=some (.int .i64 1)/\x.cell? ⟨w.heap.size,1,none⟩=some (.string ⟨a.table.toArray⟩)/\x.cell? ⟨w.heap.size,2,none⟩=some (.slice a1 a.key.length b1)/\x.cell? ⟨w.heap.size,3,none⟩=some (.slice a2 a.value.length b2)/\x.cell? ⟨w.heap.size,4,none⟩=some (.bool a.has)/\x.cell? ⟨w.heap.size,5,none⟩=some (.slice a3 a.old.length b3)/\x.cell? ⟨w.heap.size,6,none⟩=some (.slice a4 a.to.length b4)/\x.cell? ⟨w.heap.size,7,none⟩=some (.int .i64 ms)):=by
  intro x hx
  have hx:=grown_trans hg1 hx
  refine ⟨grown_fun hx ?_,grown_fun hx ?_,grown_fun hx ?_,grown_fun hx ?_,grown_fun hx ?_,grown_fun hx ?_,grown_fun hx ?_,grown_fun hx ?_⟩ <;> (rw [cell_of_row _ _ _ _ _ _ hb];rfl)
 have HG:Hid (w.grownBy w1 none):=grown_trans (World.grownBy_alloc _ _ none) hg1
 clear hb hg1
 go_wp2_with (go_at_call 110;refine (sure_yes _ _).mono ?_;rintro e w2 ⟨rfl,hw2⟩;rw [hw2];clear hw2)
 refine wp_region_noPanic ?_
 refine wp_region_hold 1000 (fun x=>w1.grownBy x none) (by kernel_rfl) ?_
 have J:Idx [0,1,2,4,5,8,9]:=trivial
 iterate 7 (refine tK J (grown_drew _ _) rfl rfl (fun wk hk=>by obtain ⟨q0,q1,q2,q3,q4,q5,q6,q7⟩:=HC.out wk hk;go_simp;try rfl) ?_;replace J:=J.tl;try simp only [pN])
 clear J
 refine wpHold_two (i:=3) (j:=6) rfl rfl (by kernel_rfl) (by rfl) (by rfl) (fun K hK=>?_) (fun K hK=>?_)
 ·go_wp2_with (go_at_call 100;refine (Wire.number9_int _ 1 rfl (by decide) _).mono ?_)
  rintro e w2 ⟨u1,rfl,ho1,hg2⟩
  have H2:Hid (Own w2 w.heap.size u1 (Wire.numForm 1)/\w1.grownBy w2 none):=⟨own_mono_trans ho1 (grown_refl _ _) HG.out.size,grown_trans (grown_drew _ _) hg2⟩
  clear ho1 hg2
  go_wp2_with fail
  refine hK.out _ _ (fun _=>H2.out.2) ?_
  clear hK K
  try simp only [pN]
  refine wpHold_one (i:=6) rfl (by kernel_rfl) (by rfl) (fun K hK=>?_)
  go_wp2_with fail
  have hx1:=bytes_grown w2 ⟨a.table.toArray⟩
  have hx2:=bytes_seg w2 a.table HA.out.fits.tl
  generalize Lib.bytesWorld w2 5 ⟨a.table.toArray⟩=w3 at hx1 hx2 ⊢
  generalize Value.slice (some ⟨w2.heap.size,0,none⟩) a.table.length (grownCap w2 a.table.length 0 5)=va at hx2 ⊢
  have H3:Hid (Own w3 w.heap.size u1 (Wire.numForm 1)/\Seg w3 va a.table/\w1.grownBy w3 none):=⟨H2.out.1.grown hx1,hx2,grown_trans H2.out.2 hx1⟩
  clear hx1 hx2 H2
  refine hK.out _ _ (fun _=>H3.out.2.2) ?_
  clear hK K
  try simp only [pN]
  refine wpHold_one (i:=7) rfl (by kernel_rfl) (by rfl) (fun K hK=>?_)
  go_wp2_with (go_at_call 145;refine (Wire.bytes8 _ a.table _ H3.out.2.1 (by have:=tab_len HM.out.tab;omega)).mono ?_)
  rintro e w4 ⟨u2,rfl,ho2,hg4⟩
  have H4:Hid (Own w4 w.heap.size u2 (bytesForm a.table)/\w3.grownBy w4 none/\w1.grownBy w4 none):=⟨own_mono_trans ho2 (grown_refl _ _) (Nat.le_trans HG.out.size H3.out.2.2.size),hg4,grown_trans H3.out.2.2 hg4⟩
  clear ho2 hg4
  go_wp2_with fail
  refine hK.out _ _ (fun _=>H4.out.2.2) ?_
  clear hK K
  try simp only [pN]
  refine wpHold_one (i:=10) rfl (by kernel_rfl) (by rfl) (fun K hK=>?_)
  go_wp2_with (go_at_call 145;refine (Wire.bytes8 _ a.key _ (HA.out.key.grown (grown_trans HG.out H4.out.2.2)) (by have:=HM.out.key;omega)).mono ?_)
  rintro e w5 ⟨u3,rfl,ho3,hg5⟩
  have H5:Hid (Own w5 w.heap.size u3 (bytesForm a.key)/\Own w5 w.heap.size u2 (bytesForm a.table)/\Own w5 w.heap.size u1 (Wire.numForm 1)/\w1.grownBy w5 none):=⟨own_mono_trans ho3 (grown_refl _ _) (Nat.le_trans HG.out.size H4.out.2.2.size),H4.out.1.grown hg5,(H3.out.1.grown H4.out.2.1).grown hg5,grown_trans H4.out.2.2 hg5⟩
  clear ho3 hg5
  obtain ⟨x1,n1,y1,e1⟩:=slice_of H5.out.2.2.1
  obtain ⟨x2,n2,y2,e2⟩:=slice_of H5.out.2.1
  obtain ⟨x3,n3,y3,e3⟩:=slice_of H5.out.1
  subst e1 e2 e3
  go_wp2_with fail
  refine hK.out _ _ (fun _=>H5.out.2.2.2) ?_
  clear hK K
  try simp only [pN]
  refine wpHold_one (i:=11) rfl (by kernel_rfl) (by rfl) (fun K hK=>?_)
  go_wp2_with fail
  refine hK.out _ _ (fun _=>grown_trans H5.out.2.2.2 (World.grownBy_alloc _ _ none)) ?_
  clear hK K
  try simp only [pN]
  refine wpHold_one (i:=12) rfl (by kernel_rfl) (by rfl) (fun K hK=>?_)
  go_wp2_with (go_at_call 99;refine (Wire.join10 _ [Wire.numForm 1,bytesForm a.table,bytesForm a.key] _ (segs_three H5.out.2.2.1.seg H5.out.2.1.seg H5.out.1.seg) ?g0).mono ?_)
  case g0 =>
   have h1:=Wire.numForm_len10 1 (by decide)
   have h2:=bytesForm_len a.table (by have:=tab_len HM.out.tab;omega)
   have h3:=bytesForm_len a.key (by have:=HM.out.key;omega)
   simp;omega
  rintro e w6 ⟨u4,rfl,ho6,hg6⟩
  have H6:Hid (Own w6 w.heap.size u4 (Wire.numForm 1 ++ (bytesForm a.table ++ bytesForm a.key))/\w1.grownBy w6 none):=by
   refine ⟨?_,grown_trans H5.out.2.2.2 (grown_trans (World.grownBy_alloc _ _ none) hg6)⟩
   have:=own_mono_trans (w:=w) ho6 (grown_refl _ _) (by have:=HG.out.size;have:=H5.out.2.2.2.size;simp;omega)
   simpa using this
  clear ho6 hg6
  obtain ⟨x4,n4,y4,e4⟩:=slice_of H6.out.1
  subst e4
  go_wp2_with fail
  refine hK.out _ _ (fun _=>H6.out.2) ?_
  clear hK K
  try simp only [pN]
  refine tK (i:=13) (l':=[]) trivial (H6.out.2) rfl rfl (fun wk hk=>by obtain ⟨q0,q1,q2,q3,q4,q5,q6,q7⟩:=HC.out wk hk;go_simp;try rfl) ?_
  try simp only [pN]
  refine wpHold_done (by kernel_rfl) ?_
  refine (‹∀(a:Act) (w:World),Code.wp Tryz.prog _ _ a w->_› _ _ ?_)
  obtain ⟨p0,p1,p2,p3,p4,p5,p6,p7⟩:=HC.out w6 H6.out.2
  go_wp2_with fail
  go_ret
  refine ⟨_,rfl,?_,grown_trans HG.out H6.out.2⟩
  rw [HF.out]
  exact H6.out.1
 ·go_wp2_with fail
  have hx1:=bytes_grown w1.drew ⟨a.table.toArray⟩
  have hx2:Seg (Lib.bytesWorld w1.drew 5 ⟨a.table.toArray⟩) (Value.slice (some ⟨w1.heap.size,0,none⟩) a.table.length (grownCap w1.drew a.table.length 0 5)) a.table:=bytes_seg w1.drew a.table HA.out.fits.tl
  generalize Lib.bytesWorld w1.drew 5 ⟨a.table.toArray⟩=w2 at hx1 hx2 ⊢
  generalize Value.slice (some ⟨w1.heap.size,0,none⟩) a.table.length (grownCap w1.drew a.table.length 0 5)=va at hx2 ⊢
  have H2:Hid (Seg w2 va a.table/\w1.grownBy w2 none):=⟨hx2,grown_trans (grown_drew _ _) hx1⟩
  clear hx1 hx2
  refine hK.out _ _ (fun _=>H2.out.2) ?_
  clear hK K
  try simp only [pN]
  refine wpHold_one (i:=3) rfl (by kernel_rfl) (by rfl) (fun K hK=>?_)
  go_wp2_with (go_at_call 100;refine (Wire.number9_int _ 1 rfl (by decide) _).mono ?_)
  rintro e w3 ⟨u1,rfl,ho1,hg2⟩
  have H3:Hid (Own w3 w.heap.size u1 (Wire.numForm 1)/\Seg w3 va a.table/\w1.grownBy w3 none):=⟨own_mono_trans ho1 (grown_refl _ _) (Nat.le_trans HG.out.size H2.out.2.size),H2.out.1.grown hg2,grown_trans H2.out.2 hg2⟩
  clear ho1 hg2 H2
  go_wp2_with fail
  refine hK.out _ _ (fun _=>H3.out.2.2) ?_
  clear hK K
  try simp only [pN]
  refine wpHold_one (i:=7) rfl (by kernel_rfl) (by rfl) (fun K hK=>?_)
  go_wp2_with (go_at_call 145;refine (Wire.bytes8 _ a.table _ H3.out.2.1 (by have:=tab_len HM.out.tab;omega)).mono ?_)
  rintro e w4 ⟨u2,rfl,ho2,hg4⟩
  have H4:Hid (Own w4 w.heap.size u2 (bytesForm a.table)/\w3.grownBy w4 none/\w1.grownBy w4 none):=⟨own_mono_trans ho2 (grown_refl _ _) (Nat.le_trans HG.out.size H3.out.2.2.size),hg4,grown_trans H3.out.2.2 hg4⟩
  clear ho2 hg4
  go_wp2_with fail
  refine hK.out _ _ (fun _=>H4.out.2.2) ?_
  clear hK K
  try simp only [pN]
  refine wpHold_one (i:=10) rfl (by kernel_rfl) (by rfl) (fun K hK=>?_)
  go_wp2_with (go_at_call 145;refine (Wire.bytes8 _ a.key _ (HA.out.key.grown (grown_trans HG.out H4.out.2.2)) (by have:=HM.out.key;omega)).mono ?_)
  rintro e w5 ⟨u3,rfl,ho3,hg5⟩
  have H5:Hid (Own w5 w.heap.size u3 (bytesForm a.key)/\Own w5 w.heap.size u2 (bytesForm a.table)/\Own w5 w.heap.size u1 (Wire.numForm 1)/\w1.grownBy w5 none):=⟨own_mono_trans ho3 (grown_refl _ _) (Nat.le_trans HG.out.size H4.out.2.2.size),H4.out.1.grown hg5,(H3.out.1.grown H4.out.2.1).grown hg5,grown_trans H4.out.2.2 hg5⟩
  clear ho3 hg5
  obtain ⟨x1,n1,y1,e1⟩:=slice_of H5.out.2.2.1
  obtain ⟨x2,n2,y2,e2⟩:=slice_of H5.out.2.1
  obtain ⟨x3,n3,y3,e3⟩:=slice_of H5.out.1
  subst e1 e2 e3
  go_wp2_with fail
  refine hK.out _ _ (fun _=>H5.out.2.2.2) ?_
  clear hK K
  try simp only [pN]
  refine wpHold_one (i:=11) rfl (by kernel_rfl) (by rfl) (fun K hK=>?_)
  go_wp2_with fail
  refine hK.out _ _ (fun _=>grown_trans H5.out.2.2.2 (World.grownBy_alloc _ _ none)) ?_
  clear hK K
  try simp only [pN]
  refine wpHold_one (i:=12) rfl (by kernel_rfl) (by rfl) (fun K hK=>?_)
  go_wp2_with (go_at_call 99;refine (Wire.join10 _ [Wire.numForm 1,bytesForm a.table,bytesForm a.key] _ (segs_three H5.out.2.2.1.seg H5.out.2.1.seg H5.out.1.seg) ?g0).mono ?_)
  case g0 =>
   have h1:=Wire.numForm_len10 1 (by decide)
   have h2:=bytesForm_len a.table (by have:=tab_len HM.out.tab;omega)
   have h3:=bytesForm_len a.key (by have:=HM.out.key;omega)
   simp;omega
  rintro e w6 ⟨u4,rfl,ho6,hg6⟩
  have H6:Hid (Own w6 w.heap.size u4 (Wire.numForm 1 ++ (bytesForm a.table ++ bytesForm a.key))/\w1.grownBy w6 none):=by
   refine ⟨?_,grown_trans H5.out.2.2.2 (grown_trans (World.grownBy_alloc _ _ none) hg6)⟩
   have:=own_mono_trans (w:=w) ho6 (grown_refl _ _) (by have:=HG.out.size;have:=H5.out.2.2.2.size;simp;omega)
   simpa using this
  clear ho6 hg6
  obtain ⟨x4,n4,y4,e4⟩:=slice_of H6.out.1
  subst e4
  go_wp2_with fail
  refine hK.out _ _ (fun _=>H6.out.2) ?_
  clear hK K
  try simp only [pN]
  refine tK (i:=13) (l':=[]) trivial (H6.out.2) rfl rfl (fun wk hk=>by obtain ⟨q0,q1,q2,q3,q4,q5,q6,q7⟩:=HC.out wk hk;go_simp;try rfl) ?_
  try simp only [pN]
  refine wpHold_done (by kernel_rfl) ?_
  refine (‹∀(a:Act) (w:World),Code.wp Tryz.prog _ _ a w->_› _ _ ?_)
  obtain ⟨p0,p1,p2,p3,p4,p5,p6,p7⟩:=HC.out w6 H6.out.2
  go_wp2_with fail
  go_ret
  refine ⟨_,rfl,?_,grown_trans HG.out H6.out.2⟩
  rw [HF.out]
  exact H6.out.1
theorem opform76_2 (k v ol t:Value)(a:POp)(w:World)(ha:OpSeg w k v ol t a)(hk:a.kind=2)(hm:mayOp a=true) :
  Calls Tryz.prog 112 #[opV k v ol t a] w fun e w'=>∃u,e=.returned u/\Own w' w.heap.size u (opForm a)/\w.grownBy w' none:=by
 obtain ⟨a1,a2,a3,a4,b1,b2,b3,b4,rfl,rfl,rfl,rfl⟩:=ha.shapes
 have HM:Hid (May a):=may_of hm
 have HQ:Hid (mayOp a=true):=hm
 have HF:Hid (opForm a=Wire.numForm 2 ++ (bytesForm a.table ++ (bytesForm a.key ++ bytesForm a.value))):=by
  unfold opForm frontForm tailForm
  rw [hk]
  simp [Hid]
 obtain ⟨ms,hms⟩:∃n,n=a.most:=⟨_,rfl⟩
 obtain ⟨F,hF⟩:∃F,F=opForm a:=⟨_,rfl⟩
 rw [<-hF] at HF ⊢
 have HS:Hid (ms=a.most):=hms
 have cb:=conv_bytes
 have HA:Hid (OpSeg w (.slice a1 a.key.length b1) (.slice a2 a.value.length b2) (.slice a3 a.old.length b3) (.slice a4 a.to.length b4) a):=ha
 have HX:Hid (Value.agg #[.int .i64 2,.string ⟨a.table.toArray⟩,.slice a1 a.key.length b1,.slice a2 a.value.length b2,.bool a.has,.slice a3 a.old.length b3,.slice a4 a.to.length b4,.int .i64 ms]=opV (.slice a1 a.key.length b1) (.slice a2 a.value.length b2) (.slice a3 a.old.length b3) (.slice a4 a.to.length b4) a):=by rw [hms,<-hk];rfl
 rw [<-HX.out]
 clear ha hm hms hk hF
 go_enter Tryz.func112,Tryz.ntmps112
 go_wp2_with (go_at_call 144;refine (may120_of _ _ _ _ _ a _ HX.out (HA.out.grown (World.grownBy_alloc _ _ none))).mono ?_)
 rintro e w1 ⟨rfl,hg1⟩
 rw [HQ.out]
 have hb:=heap_alloc_new w (.cells #[.int .i64 2,.string ⟨a.table.toArray⟩,.slice a1 a.key.length b1,.slice a2 a.value.length b2,.bool a.has,.slice a3 a.old.length b3,.slice a4 a.to.length b4,.int .i64 ms] 109)
 have HC:Hid (∀x:World,w1.grownBy x none->x.cell? ⟨w.heap.size,0,none⟩=some (.int .i64 2)/\x.cell? ⟨w.heap.size,1,none⟩=some (.string ⟨a.table.toArray⟩)/\x.cell? ⟨w.heap.size,2,none⟩=some (.slice a1 a.key.length b1)/\x.cell? ⟨w.heap.size,3,none⟩=some (.slice a2 a.value.length b2)/\x.cell? ⟨w.heap.size,4,none⟩=some (.bool a.has)/\x.cell? ⟨w.heap.size,5,none⟩=some (.slice a3 a.old.length b3)/\x.cell? ⟨w.heap.size,6,none⟩=some (.slice a4 a.to.length b4)/\x.cell? ⟨w.heap.size,7,none⟩=some (.int .i64 ms)):=by
  intro x hx
  have hx:=grown_trans hg1 hx
  refine ⟨grown_fun hx ?_,grown_fun hx ?_,grown_fun hx ?_,grown_fun hx ?_,grown_fun hx ?_,grown_fun hx ?_,grown_fun hx ?_,grown_fun hx ?_⟩ <;> (rw [cell_of_row _ _ _ _ _ _ hb];rfl)
 have HG:Hid (w.grownBy w1 none):=grown_trans (World.grownBy_alloc _ _ none) hg1
 clear hb hg1
 go_wp2_with (go_at_call 110;refine (sure_yes _ _).mono ?_;rintro e w2 ⟨rfl,hw2⟩;rw [hw2];clear hw2)
 refine wp_region_noPanic ?_
 refine wp_region_hold 1000 (fun x=>w1.grownBy x none) (by kernel_rfl) ?_
 have J:Idx [0,1,2,4,5,8,9]:=trivial
 iterate 7 (refine tK J (grown_drew _ _) rfl rfl (fun wk hk=>by obtain ⟨q0,q1,q2,q3,q4,q5,q6,q7⟩:=HC.out wk hk;go_simp;try rfl) ?_;replace J:=J.tl;try simp only [pN])
 clear J
 refine wpHold_two (i:=3) (j:=6) rfl rfl (by kernel_rfl) (by rfl) (by rfl) (fun K hK=>?_) (fun K hK=>?_)
 ·go_wp2_with (go_at_call 100;refine (Wire.number9_int _ 2 rfl (by decide) _).mono ?_)
  rintro e w2 ⟨u1,rfl,ho1,hg2⟩
  have H2:Hid (Own w2 w.heap.size u1 (Wire.numForm 2)/\w1.grownBy w2 none):=⟨own_mono_trans ho1 (grown_refl _ _) HG.out.size,grown_trans (grown_drew _ _) hg2⟩
  clear ho1 hg2
  go_wp2_with fail
  refine hK.out _ _ (fun _=>H2.out.2) ?_
  clear hK K
  try simp only [pN]
  refine wpHold_one (i:=6) rfl (by kernel_rfl) (by rfl) (fun K hK=>?_)
  go_wp2_with fail
  have hx1:=bytes_grown w2 ⟨a.table.toArray⟩
  have hx2:=bytes_seg w2 a.table HA.out.fits.tl
  generalize Lib.bytesWorld w2 5 ⟨a.table.toArray⟩=w3 at hx1 hx2 ⊢
  generalize Value.slice (some ⟨w2.heap.size,0,none⟩) a.table.length (grownCap w2 a.table.length 0 5)=va at hx2 ⊢
  have H3:Hid (Own w3 w.heap.size u1 (Wire.numForm 2)/\Seg w3 va a.table/\w1.grownBy w3 none):=⟨H2.out.1.grown hx1,hx2,grown_trans H2.out.2 hx1⟩
  clear hx1 hx2 H2
  refine hK.out _ _ (fun _=>H3.out.2.2) ?_
  clear hK K
  try simp only [pN]
  refine wpHold_one (i:=7) rfl (by kernel_rfl) (by rfl) (fun K hK=>?_)
  go_wp2_with (go_at_call 145;refine (Wire.bytes8 _ a.table _ H3.out.2.1 (by have:=tab_len HM.out.tab;omega)).mono ?_)
  rintro e w4 ⟨u2,rfl,ho2,hg4⟩
  have H4:Hid (Own w4 w.heap.size u2 (bytesForm a.table)/\w3.grownBy w4 none/\w1.grownBy w4 none):=⟨own_mono_trans ho2 (grown_refl _ _) (Nat.le_trans HG.out.size H3.out.2.2.size),hg4,grown_trans H3.out.2.2 hg4⟩
  clear ho2 hg4
  go_wp2_with fail
  refine hK.out _ _ (fun _=>H4.out.2.2) ?_
  clear hK K
  try simp only [pN]
  refine wpHold_one (i:=10) rfl (by kernel_rfl) (by rfl) (fun K hK=>?_)
  go_wp2_with (go_at_call 145;refine (Wire.bytes8 _ a.key _ (HA.out.key.grown (grown_trans HG.out H4.out.2.2)) (by have:=HM.out.key;omega)).mono ?_)
  rintro e w5 ⟨u3,rfl,ho3,hg5⟩
  have H5:Hid (Own w5 w.heap.size u3 (bytesForm a.key)/\Own w5 w.heap.size u2 (bytesForm a.table)/\Own w5 w.heap.size u1 (Wire.numForm 2)/\w1.grownBy w5 none):=⟨own_mono_trans ho3 (grown_refl _ _) (Nat.le_trans HG.out.size H4.out.2.2.size),H4.out.1.grown hg5,(H3.out.1.grown H4.out.2.1).grown hg5,grown_trans H4.out.2.2 hg5⟩
  clear ho3 hg5
  obtain ⟨x1,n1,y1,e1⟩:=slice_of H5.out.2.2.1
  obtain ⟨x2,n2,y2,e2⟩:=slice_of H5.out.2.1
  obtain ⟨x3,n3,y3,e3⟩:=slice_of H5.out.1
  subst e1 e2 e3
  go_wp2_with fail
  refine hK.out _ _ (fun _=>H5.out.2.2.2) ?_
  clear hK K
  try simp only [pN]
  refine wpHold_one (i:=11) rfl (by kernel_rfl) (by rfl) (fun K hK=>?_)
  go_wp2_with fail
  refine hK.out _ _ (fun _=>grown_trans H5.out.2.2.2 (World.grownBy_alloc _ _ none)) ?_
  clear hK K
  try simp only [pN]
  refine wpHold_one (i:=12) rfl (by kernel_rfl) (by rfl) (fun K hK=>?_)
  go_wp2_with (go_at_call 99;refine (Wire.join10 _ [Wire.numForm 2,bytesForm a.table,bytesForm a.key] _ (segs_three H5.out.2.2.1.seg H5.out.2.1.seg H5.out.1.seg) ?g0).mono ?_)
  case g0 =>
   have h1:=Wire.numForm_len10 2 (by decide)
   have h2:=bytesForm_len a.table (by have:=tab_len HM.out.tab;omega)
   have h3:=bytesForm_len a.key (by have:=HM.out.key;omega)
   simp;omega
  rintro e w6 ⟨u4,rfl,ho6,hg6⟩
  have H6:Hid (Own w6 w.heap.size u4 (Wire.numForm 2 ++ (bytesForm a.table ++ bytesForm a.key))/\w1.grownBy w6 none):=by
   refine ⟨?_,grown_trans H5.out.2.2.2 (grown_trans (World.grownBy_alloc _ _ none) hg6)⟩
   have:=own_mono_trans (w:=w) ho6 (grown_refl _ _) (by have:=HG.out.size;have:=H5.out.2.2.2.size;simp;omega)
   simpa using this
  clear ho6 hg6
  obtain ⟨x4,n4,y4,e4⟩:=slice_of H6.out.1
  subst e4
  go_wp2_with fail
  refine hK.out _ _ (fun _=>H6.out.2) ?_
  clear hK K
  try simp only [pN]
  refine tK (i:=13) (l':=[]) trivial (H6.out.2) rfl rfl (fun wk hk=>by obtain ⟨q0,q1,q2,q3,q4,q5,q6,q7⟩:=HC.out wk hk;go_simp;try rfl) ?_
  try simp only [pN]
  refine wpHold_done (by kernel_rfl) ?_
  refine (‹∀(a:Act) (w:World),Code.wp Tryz.prog _ _ a w->_› _ _ ?_)
  obtain ⟨p0,p1,p2,p3,p4,p5,p6,p7⟩:=HC.out w6 H6.out.2
  clear p1 p2 p4 p5 p6 p7
  go_wp2_with (go_at_call 145;refine (Wire.bytes8 _ a.value _ (HA.out.value.grown (grown_trans HG.out H6.out.2)) (by have:=HM.out.value;omega)).mono ?_)
  rintro e w7 ⟨u5,rfl,ho7,hg7⟩
  have H7:Hid (Own w7 w.heap.size u5 (bytesForm a.value)/\Own w7 w.heap.size _ _/\w1.grownBy w7 none):=⟨own_mono_trans ho7 (grown_refl _ _) (Nat.le_trans HG.out.size H6.out.2.size),H6.out.1.grown hg7,grown_trans H6.out.2 hg7⟩
  clear ho7 hg7
  obtain ⟨x5,n5,y5,e5⟩:=slice_of H7.out.1
  subst e5
  go_wp2_with (go_at_call 99;refine (Wire.join10 _ _ _ (Wire.segs_two H7.out.2.1.seg H7.out.1.seg) ?g1).mono ?_)
  case g1 =>
   have h1:=Wire.numForm_len10 2 (by decide)
   have h2:=bytesForm_len a.table (by have:=tab_len HM.out.tab;omega)
   have h3:=bytesForm_len a.key (by have:=HM.out.key;omega)
   have h4:=bytesForm_len a.value (by have:=HM.out.value;omega)
   simp;omega
  rintro e w8 ⟨u6,rfl,ho8,hg8⟩
  have H8:Hid (Own w8 w.heap.size u6 F/\w.grownBy w8 none):=by
   refine ⟨?_,grown_trans (grown_trans HG.out H7.out.2.2) (grown_trans (World.grownBy_alloc _ _ none) hg8)⟩
   have:=own_mono_trans (w:=w) ho8 (grown_refl _ _) (by have:=HG.out.size;have:=H7.out.2.2.size;simp;omega)
   rw [HF.out]
   simpa using this
  clear ho8 hg8
  go_wp2_with fail
  go_ret
  exact ⟨_,rfl,H8.out.1,H8.out.2⟩
 ·go_wp2_with fail
  have hx1:=bytes_grown w1.drew ⟨a.table.toArray⟩
  have hx2:Seg (Lib.bytesWorld w1.drew 5 ⟨a.table.toArray⟩) (Value.slice (some ⟨w1.heap.size,0,none⟩) a.table.length (grownCap w1.drew a.table.length 0 5)) a.table:=bytes_seg w1.drew a.table HA.out.fits.tl
  generalize Lib.bytesWorld w1.drew 5 ⟨a.table.toArray⟩=w2 at hx1 hx2 ⊢
  generalize Value.slice (some ⟨w1.heap.size,0,none⟩) a.table.length (grownCap w1.drew a.table.length 0 5)=va at hx2 ⊢
  have H2:Hid (Seg w2 va a.table/\w1.grownBy w2 none):=⟨hx2,grown_trans (grown_drew _ _) hx1⟩
  clear hx1 hx2
  refine hK.out _ _ (fun _=>H2.out.2) ?_
  clear hK K
  try simp only [pN]
  refine wpHold_one (i:=3) rfl (by kernel_rfl) (by rfl) (fun K hK=>?_)
  go_wp2_with (go_at_call 100;refine (Wire.number9_int _ 2 rfl (by decide) _).mono ?_)
  rintro e w3 ⟨u1,rfl,ho1,hg2⟩
  have H3:Hid (Own w3 w.heap.size u1 (Wire.numForm 2)/\Seg w3 va a.table/\w1.grownBy w3 none):=⟨own_mono_trans ho1 (grown_refl _ _) (Nat.le_trans HG.out.size H2.out.2.size),H2.out.1.grown hg2,grown_trans H2.out.2 hg2⟩
  clear ho1 hg2 H2
  go_wp2_with fail
  refine hK.out _ _ (fun _=>H3.out.2.2) ?_
  clear hK K
  try simp only [pN]
  refine wpHold_one (i:=7) rfl (by kernel_rfl) (by rfl) (fun K hK=>?_)
  go_wp2_with (go_at_call 145;refine (Wire.bytes8 _ a.table _ H3.out.2.1 (by have:=tab_len HM.out.tab;omega)).mono ?_)
  rintro e w4 ⟨u2,rfl,ho2,hg4⟩
  have H4:Hid (Own w4 w.heap.size u2 (bytesForm a.table)/\w3.grownBy w4 none/\w1.grownBy w4 none):=⟨own_mono_trans ho2 (grown_refl _ _) (Nat.le_trans HG.out.size H3.out.2.2.size),hg4,grown_trans H3.out.2.2 hg4⟩
  clear ho2 hg4
  go_wp2_with fail
  refine hK.out _ _ (fun _=>H4.out.2.2) ?_
  clear hK K
  try simp only [pN]
  refine wpHold_one (i:=10) rfl (by kernel_rfl) (by rfl) (fun K hK=>?_)
  go_wp2_with (go_at_call 145;refine (Wire.bytes8 _ a.key _ (HA.out.key.grown (grown_trans HG.out H4.out.2.2)) (by have:=HM.out.key;omega)).mono ?_)
  rintro e w5 ⟨u3,rfl,ho3,hg5⟩
  have H5:Hid (Own w5 w.heap.size u3 (bytesForm a.key)/\Own w5 w.heap.size u2 (bytesForm a.table)/\Own w5 w.heap.size u1 (Wire.numForm 2)/\w1.grownBy w5 none):=⟨own_mono_trans ho3 (grown_refl _ _) (Nat.le_trans HG.out.size H4.out.2.2.size),H4.out.1.grown hg5,(H3.out.1.grown H4.out.2.1).grown hg5,grown_trans H4.out.2.2 hg5⟩
  clear ho3 hg5
  obtain ⟨x1,n1,y1,e1⟩:=slice_of H5.out.2.2.1
  obtain ⟨x2,n2,y2,e2⟩:=slice_of H5.out.2.1
  obtain ⟨x3,n3,y3,e3⟩:=slice_of H5.out.1
  subst e1 e2 e3
  go_wp2_with fail
  refine hK.out _ _ (fun _=>H5.out.2.2.2) ?_
  clear hK K
  try simp only [pN]
  refine wpHold_one (i:=11) rfl (by kernel_rfl) (by rfl) (fun K hK=>?_)
  go_wp2_with fail
  refine hK.out _ _ (fun _=>grown_trans H5.out.2.2.2 (World.grownBy_alloc _ _ none)) ?_
  clear hK K
  try simp only [pN]
  refine wpHold_one (i:=12) rfl (by kernel_rfl) (by rfl) (fun K hK=>?_)
  go_wp2_with (go_at_call 99;refine (Wire.join10 _ [Wire.numForm 2,bytesForm a.table,bytesForm a.key] _ (segs_three H5.out.2.2.1.seg H5.out.2.1.seg H5.out.1.seg) ?g0).mono ?_)
  case g0 =>
   have h1:=Wire.numForm_len10 2 (by decide)
   have h2:=bytesForm_len a.table (by have:=tab_len HM.out.tab;omega)
   have h3:=bytesForm_len a.key (by have:=HM.out.key;omega)
   simp;omega
  rintro e w6 ⟨u4,rfl,ho6,hg6⟩
  have H6:Hid (Own w6 w.heap.size u4 (Wire.numForm 2 ++ (bytesForm a.table ++ bytesForm a.key))/\w1.grownBy w6 none):=by
   refine ⟨?_,grown_trans H5.out.2.2.2 (grown_trans (World.grownBy_alloc _ _ none) hg6)⟩
   have:=own_mono_trans (w:=w) ho6 (grown_refl _ _) (by have:=HG.out.size;have:=H5.out.2.2.2.size;simp;omega)
   simpa using this
  clear ho6 hg6
  obtain ⟨x4,n4,y4,e4⟩:=slice_of H6.out.1
  subst e4
  go_wp2_with fail
  refine hK.out _ _ (fun _=>H6.out.2) ?_
  clear hK K
  try simp only [pN]
  refine tK (i:=13) (l':=[]) trivial (H6.out.2) rfl rfl (fun wk hk=>by obtain ⟨q0,q1,q2,q3,q4,q5,q6,q7⟩:=HC.out wk hk;go_simp;try rfl) ?_
  try simp only [pN]
  refine wpHold_done (by kernel_rfl) ?_
  refine (‹∀(a:Act) (w:World),Code.wp Tryz.prog _ _ a w->_› _ _ ?_)
  obtain ⟨p0,p1,p2,p3,p4,p5,p6,p7⟩:=HC.out w6 H6.out.2
  clear p1 p2 p4 p5 p6 p7
  go_wp2_with (go_at_call 145;refine (Wire.bytes8 _ a.value _ (HA.out.value.grown (grown_trans HG.out H6.out.2)) (by have:=HM.out.value;omega)).mono ?_)
  rintro e w7 ⟨u5,rfl,ho7,hg7⟩
  have H7:Hid (Own w7 w.heap.size u5 (bytesForm a.value)/\Own w7 w.heap.size _ _/\w1.grownBy w7 none):=⟨own_mono_trans ho7 (grown_refl _ _) (Nat.le_trans HG.out.size H6.out.2.size),H6.out.1.grown hg7,grown_trans H6.out.2 hg7⟩
  clear ho7 hg7
  obtain ⟨x5,n5,y5,e5⟩:=slice_of H7.out.1
  subst e5
  go_wp2_with (go_at_call 99;refine (Wire.join10 _ _ _ (Wire.segs_two H7.out.2.1.seg H7.out.1.seg) ?g1).mono ?_)
  case g1 =>
   have h1:=Wire.numForm_len10 2 (by decide)
   have h2:=bytesForm_len a.table (by have:=tab_len HM.out.tab;omega)
   have h3:=bytesForm_len a.key (by have:=HM.out.key;omega)
   have h4:=bytesForm_len a.value (by have:=HM.out.value;omega)
   simp;omega
  rintro e w8 ⟨u6,rfl,ho8,hg8⟩
  have H8:Hid (Own w8 w.heap.size u6 F/\w.grownBy w8 none):=by
   refine ⟨?_,grown_trans (grown_trans HG.out H7.out.2.2) (grown_trans (World.grownBy_alloc _ _ none) hg8)⟩
   have:=own_mono_trans (w:=w) ho8 (grown_refl _ _) (by have:=HG.out.size;have:=H7.out.2.2.size;simp;omega)
   rw [HF.out]
   simpa using this
  clear ho8 hg8
  go_wp2_with fail
  go_ret
  exact ⟨_,rfl,H8.out.1,H8.out.2⟩
theorem opform76_3 (k v ol t:Value)(a:POp)(w:World)(ha:OpSeg w k v ol t a)(hk:a.kind=3)(hm:mayOp a=true) :
  Calls Tryz.prog 112 #[opV k v ol t a] w fun e w'=>∃u,e=.returned u/\Own w' w.heap.size u (opForm a)/\w.grownBy w' none:=by
 obtain ⟨a1,a2,a3,a4,b1,b2,b3,b4,rfl,rfl,rfl,rfl⟩:=ha.shapes
 have HM:Hid (May a):=may_of hm
 have HQ:Hid (mayOp a=true):=hm
 have HF:Hid (opForm a=Wire.numForm 3 ++ (bytesForm a.table ++ bytesForm a.key)):=by
  unfold opForm frontForm tailForm
  rw [hk]
  simp [Hid]
 obtain ⟨ms,hms⟩:∃n,n=a.most:=⟨_,rfl⟩
 obtain ⟨F,hF⟩:∃F,F=opForm a:=⟨_,rfl⟩
 rw [<-hF] at HF ⊢
 have HS:Hid (ms=a.most):=hms
 have cb:=conv_bytes
 have HA:Hid (OpSeg w (.slice a1 a.key.length b1) (.slice a2 a.value.length b2) (.slice a3 a.old.length b3) (.slice a4 a.to.length b4) a):=ha
 have HX:Hid (Value.agg #[.int .i64 3,.string ⟨a.table.toArray⟩,.slice a1 a.key.length b1,.slice a2 a.value.length b2,.bool a.has,.slice a3 a.old.length b3,.slice a4 a.to.length b4,.int .i64 ms]=opV (.slice a1 a.key.length b1) (.slice a2 a.value.length b2) (.slice a3 a.old.length b3) (.slice a4 a.to.length b4) a):=by rw [hms,<-hk];rfl
 rw [<-HX.out]
 clear ha hm hms hk hF
 go_enter Tryz.func112,Tryz.ntmps112
 go_wp2_with (go_at_call 144;refine (may120_of _ _ _ _ _ a _ HX.out (HA.out.grown (World.grownBy_alloc _ _ none))).mono ?_)
 rintro e w1 ⟨rfl,hg1⟩
 rw [HQ.out]
 have hb:=heap_alloc_new w (.cells #[.int .i64 3,.string ⟨a.table.toArray⟩,.slice a1 a.key.length b1,.slice a2 a.value.length b2,.bool a.has,.slice a3 a.old.length b3,.slice a4 a.to.length b4,.int .i64 ms] 109)
 have HC:Hid (∀x:World,w1.grownBy x none->x.cell? ⟨w.heap.size,0,none⟩=some (.int .i64 3)/\x.cell? ⟨w.heap.size,1,none⟩=some (.string ⟨a.table.toArray⟩)/\x.cell? ⟨w.heap.size,2,none⟩=some (.slice a1 a.key.length b1)/\x.cell? ⟨w.heap.size,3,none⟩=some (.slice a2 a.value.length b2)/\x.cell? ⟨w.heap.size,4,none⟩=some (.bool a.has)/\x.cell? ⟨w.heap.size,5,none⟩=some (.slice a3 a.old.length b3)/\x.cell? ⟨w.heap.size,6,none⟩=some (.slice a4 a.to.length b4)/\x.cell? ⟨w.heap.size,7,none⟩=some (.int .i64 ms)):=by
  intro x hx
  have hx:=grown_trans hg1 hx
  refine ⟨grown_fun hx ?_,grown_fun hx ?_,grown_fun hx ?_,grown_fun hx ?_,grown_fun hx ?_,grown_fun hx ?_,grown_fun hx ?_,grown_fun hx ?_⟩ <;> (rw [cell_of_row _ _ _ _ _ _ hb];rfl)
 have HG:Hid (w.grownBy w1 none):=grown_trans (World.grownBy_alloc _ _ none) hg1
 clear hb hg1
 go_wp2_with (go_at_call 110;refine (sure_yes _ _).mono ?_;rintro e w2 ⟨rfl,hw2⟩;rw [hw2];clear hw2)
 refine wp_region_noPanic ?_
 refine wp_region_hold 1000 (fun x=>w1.grownBy x none) (by kernel_rfl) ?_
 have J:Idx [0,1,2,4,5,8,9]:=trivial
 iterate 7 (refine tK J (grown_drew _ _) rfl rfl (fun wk hk=>by obtain ⟨q0,q1,q2,q3,q4,q5,q6,q7⟩:=HC.out wk hk;go_simp;try rfl) ?_;replace J:=J.tl;try simp only [pN])
 clear J
 refine wpHold_two (i:=3) (j:=6) rfl rfl (by kernel_rfl) (by rfl) (by rfl) (fun K hK=>?_) (fun K hK=>?_)
 ·go_wp2_with (go_at_call 100;refine (Wire.number9_int _ 3 rfl (by decide) _).mono ?_)
  rintro e w2 ⟨u1,rfl,ho1,hg2⟩
  have H2:Hid (Own w2 w.heap.size u1 (Wire.numForm 3)/\w1.grownBy w2 none):=⟨own_mono_trans ho1 (grown_refl _ _) HG.out.size,grown_trans (grown_drew _ _) hg2⟩
  clear ho1 hg2
  go_wp2_with fail
  refine hK.out _ _ (fun _=>H2.out.2) ?_
  clear hK K
  try simp only [pN]
  refine wpHold_one (i:=6) rfl (by kernel_rfl) (by rfl) (fun K hK=>?_)
  go_wp2_with fail
  have hx1:=bytes_grown w2 ⟨a.table.toArray⟩
  have hx2:=bytes_seg w2 a.table HA.out.fits.tl
  generalize Lib.bytesWorld w2 5 ⟨a.table.toArray⟩=w3 at hx1 hx2 ⊢
  generalize Value.slice (some ⟨w2.heap.size,0,none⟩) a.table.length (grownCap w2 a.table.length 0 5)=va at hx2 ⊢
  have H3:Hid (Own w3 w.heap.size u1 (Wire.numForm 3)/\Seg w3 va a.table/\w1.grownBy w3 none):=⟨H2.out.1.grown hx1,hx2,grown_trans H2.out.2 hx1⟩
  clear hx1 hx2 H2
  refine hK.out _ _ (fun _=>H3.out.2.2) ?_
  clear hK K
  try simp only [pN]
  refine wpHold_one (i:=7) rfl (by kernel_rfl) (by rfl) (fun K hK=>?_)
  go_wp2_with (go_at_call 145;refine (Wire.bytes8 _ a.table _ H3.out.2.1 (by have:=tab_len HM.out.tab;omega)).mono ?_)
  rintro e w4 ⟨u2,rfl,ho2,hg4⟩
  have H4:Hid (Own w4 w.heap.size u2 (bytesForm a.table)/\w3.grownBy w4 none/\w1.grownBy w4 none):=⟨own_mono_trans ho2 (grown_refl _ _) (Nat.le_trans HG.out.size H3.out.2.2.size),hg4,grown_trans H3.out.2.2 hg4⟩
  clear ho2 hg4
  go_wp2_with fail
  refine hK.out _ _ (fun _=>H4.out.2.2) ?_
  clear hK K
  try simp only [pN]
  refine wpHold_one (i:=10) rfl (by kernel_rfl) (by rfl) (fun K hK=>?_)
  go_wp2_with (go_at_call 145;refine (Wire.bytes8 _ a.key _ (HA.out.key.grown (grown_trans HG.out H4.out.2.2)) (by have:=HM.out.key;omega)).mono ?_)
  rintro e w5 ⟨u3,rfl,ho3,hg5⟩
  have H5:Hid (Own w5 w.heap.size u3 (bytesForm a.key)/\Own w5 w.heap.size u2 (bytesForm a.table)/\Own w5 w.heap.size u1 (Wire.numForm 3)/\w1.grownBy w5 none):=⟨own_mono_trans ho3 (grown_refl _ _) (Nat.le_trans HG.out.size H4.out.2.2.size),H4.out.1.grown hg5,(H3.out.1.grown H4.out.2.1).grown hg5,grown_trans H4.out.2.2 hg5⟩
  clear ho3 hg5
  obtain ⟨x1,n1,y1,e1⟩:=slice_of H5.out.2.2.1
  obtain ⟨x2,n2,y2,e2⟩:=slice_of H5.out.2.1
  obtain ⟨x3,n3,y3,e3⟩:=slice_of H5.out.1
  subst e1 e2 e3
  go_wp2_with fail
  refine hK.out _ _ (fun _=>H5.out.2.2.2) ?_
  clear hK K
  try simp only [pN]
  refine wpHold_one (i:=11) rfl (by kernel_rfl) (by rfl) (fun K hK=>?_)
  go_wp2_with fail
  refine hK.out _ _ (fun _=>grown_trans H5.out.2.2.2 (World.grownBy_alloc _ _ none)) ?_
  clear hK K
  try simp only [pN]
  refine wpHold_one (i:=12) rfl (by kernel_rfl) (by rfl) (fun K hK=>?_)
  go_wp2_with (go_at_call 99;refine (Wire.join10 _ [Wire.numForm 3,bytesForm a.table,bytesForm a.key] _ (segs_three H5.out.2.2.1.seg H5.out.2.1.seg H5.out.1.seg) ?g0).mono ?_)
  case g0 =>
   have h1:=Wire.numForm_len10 3 (by decide)
   have h2:=bytesForm_len a.table (by have:=tab_len HM.out.tab;omega)
   have h3:=bytesForm_len a.key (by have:=HM.out.key;omega)
   simp;omega
  rintro e w6 ⟨u4,rfl,ho6,hg6⟩
  have H6:Hid (Own w6 w.heap.size u4 (Wire.numForm 3 ++ (bytesForm a.table ++ bytesForm a.key))/\w1.grownBy w6 none):=by
   refine ⟨?_,grown_trans H5.out.2.2.2 (grown_trans (World.grownBy_alloc _ _ none) hg6)⟩
   have:=own_mono_trans (w:=w) ho6 (grown_refl _ _) (by have:=HG.out.size;have:=H5.out.2.2.2.size;simp;omega)
   simpa using this
  clear ho6 hg6
  obtain ⟨x4,n4,y4,e4⟩:=slice_of H6.out.1
  subst e4
  go_wp2_with fail
  refine hK.out _ _ (fun _=>H6.out.2) ?_
  clear hK K
  try simp only [pN]
  refine tK (i:=13) (l':=[]) trivial (H6.out.2) rfl rfl (fun wk hk=>by obtain ⟨q0,q1,q2,q3,q4,q5,q6,q7⟩:=HC.out wk hk;go_simp;try rfl) ?_
  try simp only [pN]
  refine wpHold_done (by kernel_rfl) ?_
  refine (‹∀(a:Act) (w:World),Code.wp Tryz.prog _ _ a w->_› _ _ ?_)
  obtain ⟨p0,p1,p2,p3,p4,p5,p6,p7⟩:=HC.out w6 H6.out.2
  go_wp2_with fail
  go_ret
  refine ⟨_,rfl,?_,grown_trans HG.out H6.out.2⟩
  rw [HF.out]
  exact H6.out.1
 ·go_wp2_with fail
  have hx1:=bytes_grown w1.drew ⟨a.table.toArray⟩
  have hx2:Seg (Lib.bytesWorld w1.drew 5 ⟨a.table.toArray⟩) (Value.slice (some ⟨w1.heap.size,0,none⟩) a.table.length (grownCap w1.drew a.table.length 0 5)) a.table:=bytes_seg w1.drew a.table HA.out.fits.tl
  generalize Lib.bytesWorld w1.drew 5 ⟨a.table.toArray⟩=w2 at hx1 hx2 ⊢
  generalize Value.slice (some ⟨w1.heap.size,0,none⟩) a.table.length (grownCap w1.drew a.table.length 0 5)=va at hx2 ⊢
  have H2:Hid (Seg w2 va a.table/\w1.grownBy w2 none):=⟨hx2,grown_trans (grown_drew _ _) hx1⟩
  clear hx1 hx2
  refine hK.out _ _ (fun _=>H2.out.2) ?_
  clear hK K
  try simp only [pN]
  refine wpHold_one (i:=3) rfl (by kernel_rfl) (by rfl) (fun K hK=>?_)
  go_wp2_with (go_at_call 100;refine (Wire.number9_int _ 3 rfl (by decide) _).mono ?_)
  rintro e w3 ⟨u1,rfl,ho1,hg2⟩
  have H3:Hid (Own w3 w.heap.size u1 (Wire.numForm 3)/\Seg w3 va a.table/\w1.grownBy w3 none):=⟨own_mono_trans ho1 (grown_refl _ _) (Nat.le_trans HG.out.size H2.out.2.size),H2.out.1.grown hg2,grown_trans H2.out.2 hg2⟩
  clear ho1 hg2 H2
  go_wp2_with fail
  refine hK.out _ _ (fun _=>H3.out.2.2) ?_
  clear hK K
  try simp only [pN]
  refine wpHold_one (i:=7) rfl (by kernel_rfl) (by rfl) (fun K hK=>?_)
  go_wp2_with (go_at_call 145;refine (Wire.bytes8 _ a.table _ H3.out.2.1 (by have:=tab_len HM.out.tab;omega)).mono ?_)
  rintro e w4 ⟨u2,rfl,ho2,hg4⟩
  have H4:Hid (Own w4 w.heap.size u2 (bytesForm a.table)/\w3.grownBy w4 none/\w1.grownBy w4 none):=⟨own_mono_trans ho2 (grown_refl _ _) (Nat.le_trans HG.out.size H3.out.2.2.size),hg4,grown_trans H3.out.2.2 hg4⟩
  clear ho2 hg4
  go_wp2_with fail
  refine hK.out _ _ (fun _=>H4.out.2.2) ?_
  clear hK K
  try simp only [pN]
  refine wpHold_one (i:=10) rfl (by kernel_rfl) (by rfl) (fun K hK=>?_)
  go_wp2_with (go_at_call 145;refine (Wire.bytes8 _ a.key _ (HA.out.key.grown (grown_trans HG.out H4.out.2.2)) (by have:=HM.out.key;omega)).mono ?_)
  rintro e w5 ⟨u3,rfl,ho3,hg5⟩
  have H5:Hid (Own w5 w.heap.size u3 (bytesForm a.key)/\Own w5 w.heap.size u2 (bytesForm a.table)/\Own w5 w.heap.size u1 (Wire.numForm 3)/\w1.grownBy w5 none):=⟨own_mono_trans ho3 (grown_refl _ _) (Nat.le_trans HG.out.size H4.out.2.2.size),H4.out.1.grown hg5,(H3.out.1.grown H4.out.2.1).grown hg5,grown_trans H4.out.2.2 hg5⟩
  clear ho3 hg5
  obtain ⟨x1,n1,y1,e1⟩:=slice_of H5.out.2.2.1
  obtain ⟨x2,n2,y2,e2⟩:=slice_of H5.out.2.1
  obtain ⟨x3,n3,y3,e3⟩:=slice_of H5.out.1
  subst e1 e2 e3
  go_wp2_with fail
  refine hK.out _ _ (fun _=>H5.out.2.2.2) ?_
  clear hK K
  try simp only [pN]
  refine wpHold_one (i:=11) rfl (by kernel_rfl) (by rfl) (fun K hK=>?_)
  go_wp2_with fail
  refine hK.out _ _ (fun _=>grown_trans H5.out.2.2.2 (World.grownBy_alloc _ _ none)) ?_
  clear hK K
  try simp only [pN]
  refine wpHold_one (i:=12) rfl (by kernel_rfl) (by rfl) (fun K hK=>?_)
  go_wp2_with (go_at_call 99;refine (Wire.join10 _ [Wire.numForm 3,bytesForm a.table,bytesForm a.key] _ (segs_three H5.out.2.2.1.seg H5.out.2.1.seg H5.out.1.seg) ?g0).mono ?_)
  case g0 =>
   have h1:=Wire.numForm_len10 3 (by decide)
   have h2:=bytesForm_len a.table (by have:=tab_len HM.out.tab;omega)
   have h3:=bytesForm_len a.key (by have:=HM.out.key;omega)
   simp;omega
  rintro e w6 ⟨u4,rfl,ho6,hg6⟩
  have H6:Hid (Own w6 w.heap.size u4 (Wire.numForm 3 ++ (bytesForm a.table ++ bytesForm a.key))/\w1.grownBy w6 none):=by
   refine ⟨?_,grown_trans H5.out.2.2.2 (grown_trans (World.grownBy_alloc _ _ none) hg6)⟩
   have:=own_mono_trans (w:=w) ho6 (grown_refl _ _) (by have:=HG.out.size;have:=H5.out.2.2.2.size;simp;omega)
   simpa using this
  clear ho6 hg6
  obtain ⟨x4,n4,y4,e4⟩:=slice_of H6.out.1
  subst e4
  go_wp2_with fail
  refine hK.out _ _ (fun _=>H6.out.2) ?_
  clear hK K
  try simp only [pN]
  refine tK (i:=13) (l':=[]) trivial (H6.out.2) rfl rfl (fun wk hk=>by obtain ⟨q0,q1,q2,q3,q4,q5,q6,q7⟩:=HC.out wk hk;go_simp;try rfl) ?_
  try simp only [pN]
  refine wpHold_done (by kernel_rfl) ?_
  refine (‹∀(a:Act) (w:World),Code.wp Tryz.prog _ _ a w->_› _ _ ?_)
  obtain ⟨p0,p1,p2,p3,p4,p5,p6,p7⟩:=HC.out w6 H6.out.2
  go_wp2_with fail
  go_ret
  refine ⟨_,rfl,?_,grown_trans HG.out H6.out.2⟩
  rw [HF.out]
  exact H6.out.1
theorem opform76_4 (k v ol t:Value)(a:POp)(w:World)(ha:OpSeg w k v ol t a)(hk:a.kind=4)(hm:mayOp a=true) :
  Calls Tryz.prog 112 #[opV k v ol t a] w fun e w'=>∃u,e=.returned u/\Own w' w.heap.size u (opForm a)/\w.grownBy w' none:=by
 obtain ⟨a1,a2,a3,a4,b1,b2,b3,b4,rfl,rfl,rfl,rfl⟩:=ha.shapes
 have HM:Hid (May a):=may_of hm
 have HQ:Hid (mayOp a=true):=hm
 have HF:Hid (opForm a=Wire.numForm 4 ++ (bytesForm a.table ++ (bytesForm a.key ++ (flagForm a.has ++ (bytesForm a.old ++ bytesForm a.value))))):=by
  unfold opForm frontForm tailForm
  rw [hk]
  simp [Hid]
 obtain ⟨ms,hms⟩:∃n,n=a.most:=⟨_,rfl⟩
 obtain ⟨F,hF⟩:∃F,F=opForm a:=⟨_,rfl⟩
 rw [<-hF] at HF ⊢
 have HS:Hid (ms=a.most):=hms
 have cb:=conv_bytes
 have HA:Hid (OpSeg w (.slice a1 a.key.length b1) (.slice a2 a.value.length b2) (.slice a3 a.old.length b3) (.slice a4 a.to.length b4) a):=ha
 have HX:Hid (Value.agg #[.int .i64 4,.string ⟨a.table.toArray⟩,.slice a1 a.key.length b1,.slice a2 a.value.length b2,.bool a.has,.slice a3 a.old.length b3,.slice a4 a.to.length b4,.int .i64 ms]=opV (.slice a1 a.key.length b1) (.slice a2 a.value.length b2) (.slice a3 a.old.length b3) (.slice a4 a.to.length b4) a):=by rw [hms,<-hk];rfl
 rw [<-HX.out]
 clear ha hm hms hk hF
 go_enter Tryz.func112,Tryz.ntmps112
 go_wp2_with (go_at_call 144;refine (may120_of _ _ _ _ _ a _ HX.out (HA.out.grown (World.grownBy_alloc _ _ none))).mono ?_)
 rintro e w1 ⟨rfl,hg1⟩
 rw [HQ.out]
 have hb:=heap_alloc_new w (.cells #[.int .i64 4,.string ⟨a.table.toArray⟩,.slice a1 a.key.length b1,.slice a2 a.value.length b2,.bool a.has,.slice a3 a.old.length b3,.slice a4 a.to.length b4,.int .i64 ms] 109)
 have HC:Hid (∀x:World,w1.grownBy x none->x.cell? ⟨w.heap.size,0,none⟩=some (.int .i64 4)/\x.cell? ⟨w.heap.size,1,none⟩=some (.string ⟨a.table.toArray⟩)/\x.cell? ⟨w.heap.size,2,none⟩=some (.slice a1 a.key.length b1)/\x.cell? ⟨w.heap.size,3,none⟩=some (.slice a2 a.value.length b2)/\x.cell? ⟨w.heap.size,4,none⟩=some (.bool a.has)/\x.cell? ⟨w.heap.size,5,none⟩=some (.slice a3 a.old.length b3)/\x.cell? ⟨w.heap.size,6,none⟩=some (.slice a4 a.to.length b4)/\x.cell? ⟨w.heap.size,7,none⟩=some (.int .i64 ms)):=by
  intro x hx
  have hx:=grown_trans hg1 hx
  refine ⟨grown_fun hx ?_,grown_fun hx ?_,grown_fun hx ?_,grown_fun hx ?_,grown_fun hx ?_,grown_fun hx ?_,grown_fun hx ?_,grown_fun hx ?_⟩ <;> (rw [cell_of_row _ _ _ _ _ _ hb];rfl)
 have HG:Hid (w.grownBy w1 none):=grown_trans (World.grownBy_alloc _ _ none) hg1
 clear hb hg1
 go_wp2_with (go_at_call 110;refine (sure_yes _ _).mono ?_;rintro e w2 ⟨rfl,hw2⟩;rw [hw2];clear hw2)
 refine wp_region_noPanic ?_
 refine wp_region_hold 1000 (fun x=>w1.grownBy x none) (by kernel_rfl) ?_
 have J:Idx [0,1,2,4,5,8,9]:=trivial
 iterate 7 (refine tK J (grown_drew _ _) rfl rfl (fun wk hk=>by obtain ⟨q0,q1,q2,q3,q4,q5,q6,q7⟩:=HC.out wk hk;go_simp;try rfl) ?_;replace J:=J.tl;try simp only [pN])
 clear J
 refine wpHold_two (i:=3) (j:=6) rfl rfl (by kernel_rfl) (by rfl) (by rfl) (fun K hK=>?_) (fun K hK=>?_)
 ·go_wp2_with (go_at_call 100;refine (Wire.number9_int _ 4 rfl (by decide) _).mono ?_)
  rintro e w2 ⟨u1,rfl,ho1,hg2⟩
  have H2:Hid (Own w2 w.heap.size u1 (Wire.numForm 4)/\w1.grownBy w2 none):=⟨own_mono_trans ho1 (grown_refl _ _) HG.out.size,grown_trans (grown_drew _ _) hg2⟩
  clear ho1 hg2
  go_wp2_with fail
  refine hK.out _ _ (fun _=>H2.out.2) ?_
  clear hK K
  try simp only [pN]
  refine wpHold_one (i:=6) rfl (by kernel_rfl) (by rfl) (fun K hK=>?_)
  go_wp2_with fail
  have hx1:=bytes_grown w2 ⟨a.table.toArray⟩
  have hx2:=bytes_seg w2 a.table HA.out.fits.tl
  generalize Lib.bytesWorld w2 5 ⟨a.table.toArray⟩=w3 at hx1 hx2 ⊢
  generalize Value.slice (some ⟨w2.heap.size,0,none⟩) a.table.length (grownCap w2 a.table.length 0 5)=va at hx2 ⊢
  have H3:Hid (Own w3 w.heap.size u1 (Wire.numForm 4)/\Seg w3 va a.table/\w1.grownBy w3 none):=⟨H2.out.1.grown hx1,hx2,grown_trans H2.out.2 hx1⟩
  clear hx1 hx2 H2
  refine hK.out _ _ (fun _=>H3.out.2.2) ?_
  clear hK K
  try simp only [pN]
  refine wpHold_one (i:=7) rfl (by kernel_rfl) (by rfl) (fun K hK=>?_)
  go_wp2_with (go_at_call 145;refine (Wire.bytes8 _ a.table _ H3.out.2.1 (by have:=tab_len HM.out.tab;omega)).mono ?_)
  rintro e w4 ⟨u2,rfl,ho2,hg4⟩
  have H4:Hid (Own w4 w.heap.size u2 (bytesForm a.table)/\w3.grownBy w4 none/\w1.grownBy w4 none):=⟨own_mono_trans ho2 (grown_refl _ _) (Nat.le_trans HG.out.size H3.out.2.2.size),hg4,grown_trans H3.out.2.2 hg4⟩
  clear ho2 hg4
  go_wp2_with fail
  refine hK.out _ _ (fun _=>H4.out.2.2) ?_
  clear hK K
  try simp only [pN]
  refine wpHold_one (i:=10) rfl (by kernel_rfl) (by rfl) (fun K hK=>?_)
  go_wp2_with (go_at_call 145;refine (Wire.bytes8 _ a.key _ (HA.out.key.grown (grown_trans HG.out H4.out.2.2)) (by have:=HM.out.key;omega)).mono ?_)
  rintro e w5 ⟨u3,rfl,ho3,hg5⟩
  have H5:Hid (Own w5 w.heap.size u3 (bytesForm a.key)/\Own w5 w.heap.size u2 (bytesForm a.table)/\Own w5 w.heap.size u1 (Wire.numForm 4)/\w1.grownBy w5 none):=⟨own_mono_trans ho3 (grown_refl _ _) (Nat.le_trans HG.out.size H4.out.2.2.size),H4.out.1.grown hg5,(H3.out.1.grown H4.out.2.1).grown hg5,grown_trans H4.out.2.2 hg5⟩
  clear ho3 hg5
  obtain ⟨x1,n1,y1,e1⟩:=slice_of H5.out.2.2.1
  obtain ⟨x2,n2,y2,e2⟩:=slice_of H5.out.2.1
  obtain ⟨x3,n3,y3,e3⟩:=slice_of H5.out.1
  subst e1 e2 e3
  go_wp2_with fail
  refine hK.out _ _ (fun _=>H5.out.2.2.2) ?_
  clear hK K
  try simp only [pN]
  refine wpHold_one (i:=11) rfl (by kernel_rfl) (by rfl) (fun K hK=>?_)
  go_wp2_with fail
  refine hK.out _ _ (fun _=>grown_trans H5.out.2.2.2 (World.grownBy_alloc _ _ none)) ?_
  clear hK K
  try simp only [pN]
  refine wpHold_one (i:=12) rfl (by kernel_rfl) (by rfl) (fun K hK=>?_)
  go_wp2_with (go_at_call 99;refine (Wire.join10 _ [Wire.numForm 4,bytesForm a.table,bytesForm a.key] _ (segs_three H5.out.2.2.1.seg H5.out.2.1.seg H5.out.1.seg) ?g0).mono ?_)
  case g0 =>
   have h1:=Wire.numForm_len10 4 (by decide)
   have h2:=bytesForm_len a.table (by have:=tab_len HM.out.tab;omega)
   have h3:=bytesForm_len a.key (by have:=HM.out.key;omega)
   simp;omega
  rintro e w6 ⟨u4,rfl,ho6,hg6⟩
  have H6:Hid (Own w6 w.heap.size u4 (Wire.numForm 4 ++ (bytesForm a.table ++ bytesForm a.key))/\w1.grownBy w6 none):=by
   refine ⟨?_,grown_trans H5.out.2.2.2 (grown_trans (World.grownBy_alloc _ _ none) hg6)⟩
   have:=own_mono_trans (w:=w) ho6 (grown_refl _ _) (by have:=HG.out.size;have:=H5.out.2.2.2.size;simp;omega)
   simpa using this
  clear ho6 hg6
  obtain ⟨x4,n4,y4,e4⟩:=slice_of H6.out.1
  subst e4
  go_wp2_with fail
  refine hK.out _ _ (fun _=>H6.out.2) ?_
  clear hK K
  try simp only [pN]
  refine tK (i:=13) (l':=[]) trivial (H6.out.2) rfl rfl (fun wk hk=>by obtain ⟨q0,q1,q2,q3,q4,q5,q6,q7⟩:=HC.out wk hk;go_simp;try rfl) ?_
  try simp only [pN]
  refine wpHold_done (by kernel_rfl) ?_
  refine (‹∀(a:Act) (w:World),Code.wp Tryz.prog _ _ a w->_› _ _ ?_)
  obtain ⟨p0,p1,p2,p3,p4,p5,p6,p7⟩:=HC.out w6 H6.out.2
  clear p1 p2 p3 p4 p5 p6 p7
  have HC2:Hid (∀x:World,w6.grownBy x none->_):=fun x hx=>HC.out x (grown_trans H6.out.2 hx)
  go_wp2_with (fail)
  refine wp_region_noPanic ?_
  refine wp_region_hold 1000 (fun x=>w6.grownBy x none) (by kernel_rfl) ?_
  have J:Idx [0,1,2,4,5,7,8]:=trivial
  iterate 7 (refine tK J (grown_drew _ _) rfl rfl (fun wk hk=>by obtain ⟨q0,q1,q2,q3,q4,q5,q6,q7⟩:=HC2.out wk hk;go_simp;try rfl) ?_;replace J:=J.tl;try simp only [pN])
  clear J
  refine wpHold_one (i:=3) rfl (by kernel_rfl) (by rfl) (fun K hK=>?_)
  go_wp2_with (go_at_call 146;refine (Wire.flag15 a.has _).mono ?_)
  rintro e w7 ⟨u5,rfl,ho7,hg7⟩
  have H7:Hid (Own w7 w.heap.size u5 (flagForm a.has)/\w6.grownBy w7 none):=⟨own_mono_trans ho7 (grown_refl _ _) (Nat.le_trans HG.out.size H6.out.2.size),grown_trans (grown_drew _ _) hg7⟩
  clear ho7 hg7
  go_wp2_with fail
  refine hK.out _ _ (fun _=>H7.out.2) ?_
  clear hK K
  try simp only [pN]
  refine wpHold_one (i:=6) rfl (by kernel_rfl) (by rfl) (fun K hK=>?_)
  go_wp2_with (go_at_call 145;refine (Wire.bytes8 _ a.old _ (HA.out.old.grown (grown_trans (grown_trans HG.out H6.out.2) H7.out.2)) (by have:=HM.out.old;omega)).mono ?_)
  rintro e w8 ⟨u6,rfl,ho8,hg8⟩
  have H8:Hid (Own w8 w.heap.size u6 (bytesForm a.old)/\Own w8 w.heap.size u5 (flagForm a.has)/\w6.grownBy w8 none):=⟨own_mono_trans ho8 (grown_refl _ _) (Nat.le_trans (Nat.le_trans HG.out.size H6.out.2.size) H7.out.2.size),H7.out.1.grown hg8,grown_trans H7.out.2 hg8⟩
  clear ho8 hg8
  go_wp2_with fail
  refine hK.out _ _ (fun _=>H8.out.2.2) ?_
  clear hK K
  try simp only [pN]
  refine wpHold_one (i:=9) rfl (by kernel_rfl) (by rfl) (fun K hK=>?_)
  go_wp2_with (go_at_call 145;refine (Wire.bytes8 _ a.value _ (HA.out.value.grown (grown_trans (grown_trans HG.out H6.out.2) H8.out.2.2)) (by have:=HM.out.value;omega)).mono ?_)
  rintro e w9 ⟨u7,rfl,ho9,hg9⟩
  have H9:Hid (Own w9 w.heap.size u7 (bytesForm a.value)/\Own w9 w.heap.size u6 (bytesForm a.old)/\Own w9 w.heap.size u5 (flagForm a.has)/\Own w9 w.heap.size _ _/\w6.grownBy w9 none):=⟨own_mono_trans ho9 (grown_refl _ _) (Nat.le_trans (Nat.le_trans HG.out.size H6.out.2.size) H8.out.2.2.size),H8.out.1.grown hg9,H8.out.2.1.grown hg9,H6.out.1.grown (grown_trans H8.out.2.2 hg9),grown_trans H8.out.2.2 hg9⟩
  clear ho9 hg9
  obtain ⟨x5,n5,y5,e5⟩:=slice_of H9.out.1
  obtain ⟨x6,n6,y6,e6⟩:=slice_of H9.out.2.1
  obtain ⟨x7,n7,y7,e7⟩:=slice_of H9.out.2.2.1
  subst e5 e6 e7
  go_wp2_with fail
  refine hK.out _ _ (fun _=>H9.out.2.2.2.2) ?_
  clear hK K
  try simp only [pN]
  refine wpHold_one (i:=10) rfl (by kernel_rfl) (by rfl) (fun K hK=>?_)
  go_wp2_with fail
  refine hK.out _ _ (fun _=>grown_trans H9.out.2.2.2.2 (World.grownBy_alloc _ _ none)) ?_
  clear hK K
  try simp only [pN]
  refine wpHold_one (i:=11) rfl (by kernel_rfl) (by rfl) (fun K hK=>?_)
  go_wp2_with (go_at_call 99;refine (Wire.join10 _ _ _ (segs_four H9.out.2.2.2.1.seg H9.out.2.2.1.seg H9.out.2.1.seg H9.out.1.seg) ?g1).mono ?_)
  case g1 =>
   have h1:=Wire.numForm_len10 4 (by decide)
   have h2:=bytesForm_len a.table (by have:=tab_len HM.out.tab;omega)
   have h3:=bytesForm_len a.key (by have:=HM.out.key;omega)
   have h4:=bytesForm_len a.value (by have:=HM.out.value;omega)
   have h5:=bytesForm_len a.old (by have:=HM.out.old;omega)
   have h6:(flagForm a.has).length=1:=by cases a.has <;> rfl
   simp;omega
  rintro e w10 ⟨u8,rfl,ho10,hg10⟩
  have H10:Hid (Own w10 w.heap.size u8 F/\w6.grownBy w10 none):=by
   refine ⟨?_,grown_trans H9.out.2.2.2.2 (grown_trans (World.grownBy_alloc _ _ none) hg10)⟩
   have:=own_mono_trans (w:=w) ho10 (grown_refl _ _) (by have:=HG.out.size;have:=H6.out.2.size;have:=H9.out.2.2.2.2.size;simp;omega)
   rw [HF.out]
   simpa using this
  clear ho10 hg10
  go_wp2_with fail
  refine hK.out _ _ (fun _=>H10.out.2) ?_
  clear hK K
  try simp only [pN]
  refine tK (i:=12) (l':=[]) trivial (H10.out.2) rfl rfl (fun wk hk=>by obtain ⟨q0,q1,q2,q3,q4,q5,q6,q7⟩:=HC2.out wk hk;go_simp;try rfl) ?_
  try simp only [pN]
  refine wpHold_done (by kernel_rfl) ?_
  refine (‹∀(a:Act) (w:World),Code.wp Tryz.prog _ _ a w->_› _ _ ?_)
  go_wp2_with fail
  go_ret
  exact ⟨_,rfl,H10.out.1,grown_trans (grown_trans HG.out H6.out.2) H10.out.2⟩
 ·go_wp2_with fail
  have hx1:=bytes_grown w1.drew ⟨a.table.toArray⟩
  have hx2:Seg (Lib.bytesWorld w1.drew 5 ⟨a.table.toArray⟩) (Value.slice (some ⟨w1.heap.size,0,none⟩) a.table.length (grownCap w1.drew a.table.length 0 5)) a.table:=bytes_seg w1.drew a.table HA.out.fits.tl
  generalize Lib.bytesWorld w1.drew 5 ⟨a.table.toArray⟩=w2 at hx1 hx2 ⊢
  generalize Value.slice (some ⟨w1.heap.size,0,none⟩) a.table.length (grownCap w1.drew a.table.length 0 5)=va at hx2 ⊢
  have H2:Hid (Seg w2 va a.table/\w1.grownBy w2 none):=⟨hx2,grown_trans (grown_drew _ _) hx1⟩
  clear hx1 hx2
  refine hK.out _ _ (fun _=>H2.out.2) ?_
  clear hK K
  try simp only [pN]
  refine wpHold_one (i:=3) rfl (by kernel_rfl) (by rfl) (fun K hK=>?_)
  go_wp2_with (go_at_call 100;refine (Wire.number9_int _ 4 rfl (by decide) _).mono ?_)
  rintro e w3 ⟨u1,rfl,ho1,hg2⟩
  have H3:Hid (Own w3 w.heap.size u1 (Wire.numForm 4)/\Seg w3 va a.table/\w1.grownBy w3 none):=⟨own_mono_trans ho1 (grown_refl _ _) (Nat.le_trans HG.out.size H2.out.2.size),H2.out.1.grown hg2,grown_trans H2.out.2 hg2⟩
  clear ho1 hg2 H2
  go_wp2_with fail
  refine hK.out _ _ (fun _=>H3.out.2.2) ?_
  clear hK K
  try simp only [pN]
  refine wpHold_one (i:=7) rfl (by kernel_rfl) (by rfl) (fun K hK=>?_)
  go_wp2_with (go_at_call 145;refine (Wire.bytes8 _ a.table _ H3.out.2.1 (by have:=tab_len HM.out.tab;omega)).mono ?_)
  rintro e w4 ⟨u2,rfl,ho2,hg4⟩
  have H4:Hid (Own w4 w.heap.size u2 (bytesForm a.table)/\w3.grownBy w4 none/\w1.grownBy w4 none):=⟨own_mono_trans ho2 (grown_refl _ _) (Nat.le_trans HG.out.size H3.out.2.2.size),hg4,grown_trans H3.out.2.2 hg4⟩
  clear ho2 hg4
  go_wp2_with fail
  refine hK.out _ _ (fun _=>H4.out.2.2) ?_
  clear hK K
  try simp only [pN]
  refine wpHold_one (i:=10) rfl (by kernel_rfl) (by rfl) (fun K hK=>?_)
  go_wp2_with (go_at_call 145;refine (Wire.bytes8 _ a.key _ (HA.out.key.grown (grown_trans HG.out H4.out.2.2)) (by have:=HM.out.key;omega)).mono ?_)
  rintro e w5 ⟨u3,rfl,ho3,hg5⟩
  have H5:Hid (Own w5 w.heap.size u3 (bytesForm a.key)/\Own w5 w.heap.size u2 (bytesForm a.table)/\Own w5 w.heap.size u1 (Wire.numForm 4)/\w1.grownBy w5 none):=⟨own_mono_trans ho3 (grown_refl _ _) (Nat.le_trans HG.out.size H4.out.2.2.size),H4.out.1.grown hg5,(H3.out.1.grown H4.out.2.1).grown hg5,grown_trans H4.out.2.2 hg5⟩
  clear ho3 hg5
  obtain ⟨x1,n1,y1,e1⟩:=slice_of H5.out.2.2.1
  obtain ⟨x2,n2,y2,e2⟩:=slice_of H5.out.2.1
  obtain ⟨x3,n3,y3,e3⟩:=slice_of H5.out.1
  subst e1 e2 e3
  go_wp2_with fail
  refine hK.out _ _ (fun _=>H5.out.2.2.2) ?_
  clear hK K
  try simp only [pN]
  refine wpHold_one (i:=11) rfl (by kernel_rfl) (by rfl) (fun K hK=>?_)
  go_wp2_with fail
  refine hK.out _ _ (fun _=>grown_trans H5.out.2.2.2 (World.grownBy_alloc _ _ none)) ?_
  clear hK K
  try simp only [pN]
  refine wpHold_one (i:=12) rfl (by kernel_rfl) (by rfl) (fun K hK=>?_)
  go_wp2_with (go_at_call 99;refine (Wire.join10 _ [Wire.numForm 4,bytesForm a.table,bytesForm a.key] _ (segs_three H5.out.2.2.1.seg H5.out.2.1.seg H5.out.1.seg) ?g0).mono ?_)
  case g0 =>
   have h1:=Wire.numForm_len10 4 (by decide)
   have h2:=bytesForm_len a.table (by have:=tab_len HM.out.tab;omega)
   have h3:=bytesForm_len a.key (by have:=HM.out.key;omega)
   simp;omega
  rintro e w6 ⟨u4,rfl,ho6,hg6⟩
  have H6:Hid (Own w6 w.heap.size u4 (Wire.numForm 4 ++ (bytesForm a.table ++ bytesForm a.key))/\w1.grownBy w6 none):=by
   refine ⟨?_,grown_trans H5.out.2.2.2 (grown_trans (World.grownBy_alloc _ _ none) hg6)⟩
   have:=own_mono_trans (w:=w) ho6 (grown_refl _ _) (by have:=HG.out.size;have:=H5.out.2.2.2.size;simp;omega)
   simpa using this
  clear ho6 hg6
  obtain ⟨x4,n4,y4,e4⟩:=slice_of H6.out.1
  subst e4
  go_wp2_with fail
  refine hK.out _ _ (fun _=>H6.out.2) ?_
  clear hK K
  try simp only [pN]
  refine tK (i:=13) (l':=[]) trivial (H6.out.2) rfl rfl (fun wk hk=>by obtain ⟨q0,q1,q2,q3,q4,q5,q6,q7⟩:=HC.out wk hk;go_simp;try rfl) ?_
  try simp only [pN]
  refine wpHold_done (by kernel_rfl) ?_
  refine (‹∀(a:Act) (w:World),Code.wp Tryz.prog _ _ a w->_› _ _ ?_)
  obtain ⟨p0,p1,p2,p3,p4,p5,p6,p7⟩:=HC.out w6 H6.out.2
  clear p1 p2 p3 p4 p5 p6 p7
  have HC2:Hid (∀x:World,w6.grownBy x none->_):=fun x hx=>HC.out x (grown_trans H6.out.2 hx)
  go_wp2_with (fail)
  refine wp_region_noPanic ?_
  refine wp_region_hold 1000 (fun x=>w6.grownBy x none) (by kernel_rfl) ?_
  have J:Idx [0,1,2,4,5,7,8]:=trivial
  iterate 7 (refine tK J (grown_drew _ _) rfl rfl (fun wk hk=>by obtain ⟨q0,q1,q2,q3,q4,q5,q6,q7⟩:=HC2.out wk hk;go_simp;try rfl) ?_;replace J:=J.tl;try simp only [pN])
  clear J
  refine wpHold_one (i:=3) rfl (by kernel_rfl) (by rfl) (fun K hK=>?_)
  go_wp2_with (go_at_call 146;refine (Wire.flag15 a.has _).mono ?_)
  rintro e w7 ⟨u5,rfl,ho7,hg7⟩
  have H7:Hid (Own w7 w.heap.size u5 (flagForm a.has)/\w6.grownBy w7 none):=⟨own_mono_trans ho7 (grown_refl _ _) (Nat.le_trans HG.out.size H6.out.2.size),grown_trans (grown_drew _ _) hg7⟩
  clear ho7 hg7
  go_wp2_with fail
  refine hK.out _ _ (fun _=>H7.out.2) ?_
  clear hK K
  try simp only [pN]
  refine wpHold_one (i:=6) rfl (by kernel_rfl) (by rfl) (fun K hK=>?_)
  go_wp2_with (go_at_call 145;refine (Wire.bytes8 _ a.old _ (HA.out.old.grown (grown_trans (grown_trans HG.out H6.out.2) H7.out.2)) (by have:=HM.out.old;omega)).mono ?_)
  rintro e w8 ⟨u6,rfl,ho8,hg8⟩
  have H8:Hid (Own w8 w.heap.size u6 (bytesForm a.old)/\Own w8 w.heap.size u5 (flagForm a.has)/\w6.grownBy w8 none):=⟨own_mono_trans ho8 (grown_refl _ _) (Nat.le_trans (Nat.le_trans HG.out.size H6.out.2.size) H7.out.2.size),H7.out.1.grown hg8,grown_trans H7.out.2 hg8⟩
  clear ho8 hg8
  go_wp2_with fail
  refine hK.out _ _ (fun _=>H8.out.2.2) ?_
  clear hK K
  try simp only [pN]
  refine wpHold_one (i:=9) rfl (by kernel_rfl) (by rfl) (fun K hK=>?_)
  go_wp2_with (go_at_call 145;refine (Wire.bytes8 _ a.value _ (HA.out.value.grown (grown_trans (grown_trans HG.out H6.out.2) H8.out.2.2)) (by have:=HM.out.value;omega)).mono ?_)
  rintro e w9 ⟨u7,rfl,ho9,hg9⟩
  have H9:Hid (Own w9 w.heap.size u7 (bytesForm a.value)/\Own w9 w.heap.size u6 (bytesForm a.old)/\Own w9 w.heap.size u5 (flagForm a.has)/\Own w9 w.heap.size _ _/\w6.grownBy w9 none):=⟨own_mono_trans ho9 (grown_refl _ _) (Nat.le_trans (Nat.le_trans HG.out.size H6.out.2.size) H8.out.2.2.size),H8.out.1.grown hg9,H8.out.2.1.grown hg9,H6.out.1.grown (grown_trans H8.out.2.2 hg9),grown_trans H8.out.2.2 hg9⟩
  clear ho9 hg9
  obtain ⟨x5,n5,y5,e5⟩:=slice_of H9.out.1
  obtain ⟨x6,n6,y6,e6⟩:=slice_of H9.out.2.1
  obtain ⟨x7,n7,y7,e7⟩:=slice_of H9.out.2.2.1
  subst e5 e6 e7
  go_wp2_with fail
  refine hK.out _ _ (fun _=>H9.out.2.2.2.2) ?_
  clear hK K
  try simp only [pN]
  refine wpHold_one (i:=10) rfl (by kernel_rfl) (by rfl) (fun K hK=>?_)
  go_wp2_with fail
  refine hK.out _ _ (fun _=>grown_trans H9.out.2.2.2.2 (World.grownBy_alloc _ _ none)) ?_
  clear hK K
  try simp only [pN]
  refine wpHold_one (i:=11) rfl (by kernel_rfl) (by rfl) (fun K hK=>?_)
  go_wp2_with (go_at_call 99;refine (Wire.join10 _ _ _ (segs_four H9.out.2.2.2.1.seg H9.out.2.2.1.seg H9.out.2.1.seg H9.out.1.seg) ?g1).mono ?_)
  case g1 =>
   have h1:=Wire.numForm_len10 4 (by decide)
   have h2:=bytesForm_len a.table (by have:=tab_len HM.out.tab;omega)
   have h3:=bytesForm_len a.key (by have:=HM.out.key;omega)
   have h4:=bytesForm_len a.value (by have:=HM.out.value;omega)
   have h5:=bytesForm_len a.old (by have:=HM.out.old;omega)
   have h6:(flagForm a.has).length=1:=by cases a.has <;> rfl
   simp;omega
  rintro e w10 ⟨u8,rfl,ho10,hg10⟩
  have H10:Hid (Own w10 w.heap.size u8 F/\w6.grownBy w10 none):=by
   refine ⟨?_,grown_trans H9.out.2.2.2.2 (grown_trans (World.grownBy_alloc _ _ none) hg10)⟩
   have:=own_mono_trans (w:=w) ho10 (grown_refl _ _) (by have:=HG.out.size;have:=H6.out.2.size;have:=H9.out.2.2.2.2.size;simp;omega)
   rw [HF.out]
   simpa using this
  clear ho10 hg10
  go_wp2_with fail
  refine hK.out _ _ (fun _=>H10.out.2) ?_
  clear hK K
  try simp only [pN]
  refine tK (i:=12) (l':=[]) trivial (H10.out.2) rfl rfl (fun wk hk=>by obtain ⟨q0,q1,q2,q3,q4,q5,q6,q7⟩:=HC2.out wk hk;go_simp;try rfl) ?_
  try simp only [pN]
  refine wpHold_done (by kernel_rfl) ?_
  refine (‹∀(a:Act) (w:World),Code.wp Tryz.prog _ _ a w->_› _ _ ?_)
  go_wp2_with fail
  go_ret
  exact ⟨_,rfl,H10.out.1,grown_trans (grown_trans HG.out H6.out.2) H10.out.2⟩
theorem opform76_5 (k v ol t:Value)(a:POp)(w:World)(ha:OpSeg w k v ol t a)(hk:a.kind=5)(hm:mayOp a=true) :
  Calls Tryz.prog 112 #[opV k v ol t a] w fun e w'=>∃u,e=.returned u/\Own w' w.heap.size u (opForm a)/\w.grownBy w' none:=by
 obtain ⟨a1,a2,a3,a4,b1,b2,b3,b4,rfl,rfl,rfl,rfl⟩:=ha.shapes
 have HM:Hid (May a):=may_of hm
 have HQ:Hid (mayOp a=true):=hm
 have HF:Hid (opForm a=Wire.numForm 5 ++ (bytesForm a.table ++ (bytesForm a.key ++ (bytesForm a.to ++ Wire.numForm a.most.toNat)))):=by
  unfold opForm frontForm tailForm
  rw [hk]
  simp [Hid]
 obtain ⟨ms,hms⟩:∃n,n=a.most:=⟨_,rfl⟩
 obtain ⟨F,hF⟩:∃F,F=opForm a:=⟨_,rfl⟩
 rw [<-hF] at HF ⊢
 have HS:Hid (ms=a.most/\1<=ms/\ms<=64):=⟨hms,by have:=(may_of hm).most hk;omega,by have:=(may_of hm).most hk;omega⟩
 have cb:=conv_bytes
 have HA:Hid (OpSeg w (.slice a1 a.key.length b1) (.slice a2 a.value.length b2) (.slice a3 a.old.length b3) (.slice a4 a.to.length b4) a):=ha
 have HX:Hid (Value.agg #[.int .i64 5,.string ⟨a.table.toArray⟩,.slice a1 a.key.length b1,.slice a2 a.value.length b2,.bool a.has,.slice a3 a.old.length b3,.slice a4 a.to.length b4,.int .i64 ms]=opV (.slice a1 a.key.length b1) (.slice a2 a.value.length b2) (.slice a3 a.old.length b3) (.slice a4 a.to.length b4) a):=by rw [hms,<-hk];rfl
 rw [<-HX.out]
 clear ha hm hms hk hF
 go_enter Tryz.func112,Tryz.ntmps112
 go_wp2_with (go_at_call 144;refine (may120_of _ _ _ _ _ a _ HX.out (HA.out.grown (World.grownBy_alloc _ _ none))).mono ?_)
 rintro e w1 ⟨rfl,hg1⟩
 rw [HQ.out]
 have hb:=heap_alloc_new w (.cells #[.int .i64 5,.string ⟨a.table.toArray⟩,.slice a1 a.key.length b1,.slice a2 a.value.length b2,.bool a.has,.slice a3 a.old.length b3,.slice a4 a.to.length b4,.int .i64 ms] 109)
 have HC:Hid (∀x:World,w1.grownBy x none->x.cell? ⟨w.heap.size,0,none⟩=some (.int .i64 5)/\x.cell? ⟨w.heap.size,1,none⟩=some (.string ⟨a.table.toArray⟩)/\x.cell? ⟨w.heap.size,2,none⟩=some (.slice a1 a.key.length b1)/\x.cell? ⟨w.heap.size,3,none⟩=some (.slice a2 a.value.length b2)/\x.cell? ⟨w.heap.size,4,none⟩=some (.bool a.has)/\x.cell? ⟨w.heap.size,5,none⟩=some (.slice a3 a.old.length b3)/\x.cell? ⟨w.heap.size,6,none⟩=some (.slice a4 a.to.length b4)/\x.cell? ⟨w.heap.size,7,none⟩=some (.int .i64 ms)):=by
  intro x hx
  have hx:=grown_trans hg1 hx
  refine ⟨grown_fun hx ?_,grown_fun hx ?_,grown_fun hx ?_,grown_fun hx ?_,grown_fun hx ?_,grown_fun hx ?_,grown_fun hx ?_,grown_fun hx ?_⟩ <;> (rw [cell_of_row _ _ _ _ _ _ hb];rfl)
 have HG:Hid (w.grownBy w1 none):=grown_trans (World.grownBy_alloc _ _ none) hg1
 clear hb hg1
 go_wp2_with (go_at_call 110;refine (sure_yes _ _).mono ?_;rintro e w2 ⟨rfl,hw2⟩;rw [hw2];clear hw2)
 refine wp_region_noPanic ?_
 refine wp_region_hold 1000 (fun x=>w1.grownBy x none) (by kernel_rfl) ?_
 have J:Idx [0,1,2,4,5,8,9]:=trivial
 iterate 7 (refine tK J (grown_drew _ _) rfl rfl (fun wk hk=>by obtain ⟨q0,q1,q2,q3,q4,q5,q6,q7⟩:=HC.out wk hk;go_simp;try rfl) ?_;replace J:=J.tl;try simp only [pN])
 clear J
 refine wpHold_two (i:=3) (j:=6) rfl rfl (by kernel_rfl) (by rfl) (by rfl) (fun K hK=>?_) (fun K hK=>?_)
 ·go_wp2_with (go_at_call 100;refine (Wire.number9_int _ 5 rfl (by decide) _).mono ?_)
  rintro e w2 ⟨u1,rfl,ho1,hg2⟩
  have H2:Hid (Own w2 w.heap.size u1 (Wire.numForm 5)/\w1.grownBy w2 none):=⟨own_mono_trans ho1 (grown_refl _ _) HG.out.size,grown_trans (grown_drew _ _) hg2⟩
  clear ho1 hg2
  go_wp2_with fail
  refine hK.out _ _ (fun _=>H2.out.2) ?_
  clear hK K
  try simp only [pN]
  refine wpHold_one (i:=6) rfl (by kernel_rfl) (by rfl) (fun K hK=>?_)
  go_wp2_with fail
  have hx1:=bytes_grown w2 ⟨a.table.toArray⟩
  have hx2:=bytes_seg w2 a.table HA.out.fits.tl
  generalize Lib.bytesWorld w2 5 ⟨a.table.toArray⟩=w3 at hx1 hx2 ⊢
  generalize Value.slice (some ⟨w2.heap.size,0,none⟩) a.table.length (grownCap w2 a.table.length 0 5)=va at hx2 ⊢
  have H3:Hid (Own w3 w.heap.size u1 (Wire.numForm 5)/\Seg w3 va a.table/\w1.grownBy w3 none):=⟨H2.out.1.grown hx1,hx2,grown_trans H2.out.2 hx1⟩
  clear hx1 hx2 H2
  refine hK.out _ _ (fun _=>H3.out.2.2) ?_
  clear hK K
  try simp only [pN]
  refine wpHold_one (i:=7) rfl (by kernel_rfl) (by rfl) (fun K hK=>?_)
  go_wp2_with (go_at_call 145;refine (Wire.bytes8 _ a.table _ H3.out.2.1 (by have:=tab_len HM.out.tab;omega)).mono ?_)
  rintro e w4 ⟨u2,rfl,ho2,hg4⟩
  have H4:Hid (Own w4 w.heap.size u2 (bytesForm a.table)/\w3.grownBy w4 none/\w1.grownBy w4 none):=⟨own_mono_trans ho2 (grown_refl _ _) (Nat.le_trans HG.out.size H3.out.2.2.size),hg4,grown_trans H3.out.2.2 hg4⟩
  clear ho2 hg4
  go_wp2_with fail
  refine hK.out _ _ (fun _=>H4.out.2.2) ?_
  clear hK K
  try simp only [pN]
  refine wpHold_one (i:=10) rfl (by kernel_rfl) (by rfl) (fun K hK=>?_)
  go_wp2_with (go_at_call 145;refine (Wire.bytes8 _ a.key _ (HA.out.key.grown (grown_trans HG.out H4.out.2.2)) (by have:=HM.out.key;omega)).mono ?_)
  rintro e w5 ⟨u3,rfl,ho3,hg5⟩
  have H5:Hid (Own w5 w.heap.size u3 (bytesForm a.key)/\Own w5 w.heap.size u2 (bytesForm a.table)/\Own w5 w.heap.size u1 (Wire.numForm 5)/\w1.grownBy w5 none):=⟨own_mono_trans ho3 (grown_refl _ _) (Nat.le_trans HG.out.size H4.out.2.2.size),H4.out.1.grown hg5,(H3.out.1.grown H4.out.2.1).grown hg5,grown_trans H4.out.2.2 hg5⟩
  clear ho3 hg5
  obtain ⟨x1,n1,y1,e1⟩:=slice_of H5.out.2.2.1
  obtain ⟨x2,n2,y2,e2⟩:=slice_of H5.out.2.1
  obtain ⟨x3,n3,y3,e3⟩:=slice_of H5.out.1
  subst e1 e2 e3
  go_wp2_with fail
  refine hK.out _ _ (fun _=>H5.out.2.2.2) ?_
  clear hK K
  try simp only [pN]
  refine wpHold_one (i:=11) rfl (by kernel_rfl) (by rfl) (fun K hK=>?_)
  go_wp2_with fail
  refine hK.out _ _ (fun _=>grown_trans H5.out.2.2.2 (World.grownBy_alloc _ _ none)) ?_
  clear hK K
  try simp only [pN]
  refine wpHold_one (i:=12) rfl (by kernel_rfl) (by rfl) (fun K hK=>?_)
  go_wp2_with (go_at_call 99;refine (Wire.join10 _ [Wire.numForm 5,bytesForm a.table,bytesForm a.key] _ (segs_three H5.out.2.2.1.seg H5.out.2.1.seg H5.out.1.seg) ?g0).mono ?_)
  case g0 =>
   have h1:=Wire.numForm_len10 5 (by decide)
   have h2:=bytesForm_len a.table (by have:=tab_len HM.out.tab;omega)
   have h3:=bytesForm_len a.key (by have:=HM.out.key;omega)
   simp;omega
  rintro e w6 ⟨u4,rfl,ho6,hg6⟩
  have H6:Hid (Own w6 w.heap.size u4 (Wire.numForm 5 ++ (bytesForm a.table ++ bytesForm a.key))/\w1.grownBy w6 none):=by
   refine ⟨?_,grown_trans H5.out.2.2.2 (grown_trans (World.grownBy_alloc _ _ none) hg6)⟩
   have:=own_mono_trans (w:=w) ho6 (grown_refl _ _) (by have:=HG.out.size;have:=H5.out.2.2.2.size;simp;omega)
   simpa using this
  clear ho6 hg6
  obtain ⟨x4,n4,y4,e4⟩:=slice_of H6.out.1
  subst e4
  go_wp2_with fail
  refine hK.out _ _ (fun _=>H6.out.2) ?_
  clear hK K
  try simp only [pN]
  refine tK (i:=13) (l':=[]) trivial (H6.out.2) rfl rfl (fun wk hk=>by obtain ⟨q0,q1,q2,q3,q4,q5,q6,q7⟩:=HC.out wk hk;go_simp;try rfl) ?_
  try simp only [pN]
  refine wpHold_done (by kernel_rfl) ?_
  refine (‹∀(a:Act) (w:World),Code.wp Tryz.prog _ _ a w->_› _ _ ?_)
  obtain ⟨p0,p1,p2,p3,p4,p5,p6,p7⟩:=HC.out w6 H6.out.2
  clear p1 p2 p3 p4 p5 p6 p7
  have HC2:Hid (∀x:World,w6.grownBy x none->_):=fun x hx=>HC.out x (grown_trans H6.out.2 hx)
  have i1:1<=ms:=HS.out.2.1
  have i2:ms<=64:=HS.out.2.2
  go_wp2_with (fail)
  refine wp_region_noPanic ?_
  refine wp_region_hold 1000 (fun x=>w6.grownBy x none) (by kernel_rfl) ?_
  have J:Idx [0,1,2,4,5,6]:=trivial
  iterate 6 (refine tK J (grown_drew _ _) rfl rfl (fun wk hk=>by obtain ⟨q0,q1,q2,q3,q4,q5,q6,q7⟩:=HC2.out wk hk;go_simp;try rfl) ?_;replace J:=J.tl;try simp only [pN])
  clear J
  refine wpHold_one (i:=3) rfl (by kernel_rfl) (by rfl) (fun K hK=>?_)
  go_wp2_with (go_at_call 145;refine (Wire.bytes8 _ a.to _ (HA.out.to.grown (grown_trans (grown_trans HG.out H6.out.2) (grown_drew _ _))) (by have:=HM.out.to;omega)).mono ?_)
  rintro e w7 ⟨u5,rfl,ho7,hg7⟩
  have H7:Hid (Own w7 w.heap.size u5 (bytesForm a.to)/\w6.grownBy w7 none):=⟨own_mono_trans ho7 (grown_refl _ _) (Nat.le_trans HG.out.size H6.out.2.size),grown_trans (grown_drew _ _) hg7⟩
  clear ho7 hg7
  go_wp2_with fail
  refine hK.out _ _ (fun _=>H7.out.2) ?_
  clear hK K
  try simp only [pN]
  refine wpHold_one (i:=7) rfl (by kernel_rfl) (by rfl) (fun K hK=>?_)
  go_wp2_with (go_at_call 100;refine (Wire.number9_int _ ms.toNat ?n1 ?n2 _).mono ?_)
  case n1=>go_num
  case n2=>omega
  rintro e w8 ⟨u6,rfl,ho8,hg8⟩
  have H8:Hid (Own w8 w.heap.size u6 (Wire.numForm ms.toNat)/\Own w8 w.heap.size u5 (bytesForm a.to)/\Own w8 w.heap.size _ _/\w6.grownBy w8 none):=⟨own_mono_trans ho8 (grown_refl _ _) (Nat.le_trans (Nat.le_trans HG.out.size H6.out.2.size) H7.out.2.size),H7.out.1.grown hg8,H6.out.1.grown (grown_trans H7.out.2 hg8),grown_trans H7.out.2 hg8⟩
  clear ho8 hg8
  obtain ⟨x5,n5,y5,e5⟩:=slice_of H8.out.1
  obtain ⟨x6,n6,y6,e6⟩:=slice_of H8.out.2.1
  subst e5 e6
  go_wp2_with fail
  refine hK.out _ _ (fun _=>H8.out.2.2.2) ?_
  clear hK K
  try simp only [pN]
  refine wpHold_one (i:=8) rfl (by kernel_rfl) (by rfl) (fun K hK=>?_)
  go_wp2_with fail
  refine hK.out _ _ (fun _=>grown_trans H8.out.2.2.2 (World.grownBy_alloc _ _ none)) ?_
  clear hK K
  try simp only [pN]
  refine wpHold_one (i:=9) rfl (by kernel_rfl) (by rfl) (fun K hK=>?_)
  go_wp2_with (go_at_call 99;refine (Wire.join10 _ _ _ (segs_three H8.out.2.2.1.seg H8.out.2.1.seg H8.out.1.seg) ?g1).mono ?_)
  case g1 =>
   have h1:=Wire.numForm_len10 5 (by decide)
   have h2:=bytesForm_len a.table (by have:=tab_len HM.out.tab;omega)
   have h3:=bytesForm_len a.key (by have:=HM.out.key;omega)
   have h4:=bytesForm_len a.to (by have:=HM.out.to;omega)
   have h5:=Wire.numForm_len10 ms.toNat (by have:=HS.out.2;omega)
   simp;omega
  rintro e w10 ⟨u8,rfl,ho10,hg10⟩
  have H10:Hid (Own w10 w.heap.size u8 F/\w6.grownBy w10 none):=by
   refine ⟨?_,grown_trans H8.out.2.2.2 (grown_trans (World.grownBy_alloc _ _ none) hg10)⟩
   have:=own_mono_trans (w:=w) ho10 (grown_refl _ _) (by have:=HG.out.size;have:=H6.out.2.size;have:=H8.out.2.2.2.size;simp;omega)
   rw [HF.out,<-HS.out.1]
   simpa using this
  clear ho10 hg10
  go_wp2_with fail
  refine hK.out _ _ (fun _=>H10.out.2) ?_
  clear hK K
  try simp only [pN]
  refine tK (i:=10) (l':=[]) trivial (H10.out.2) rfl rfl (fun wk hk=>by obtain ⟨q0,q1,q2,q3,q4,q5,q6,q7⟩:=HC2.out wk hk;go_simp;try rfl) ?_
  try simp only [pN]
  refine wpHold_done (by kernel_rfl) ?_
  refine (‹∀(a:Act) (w:World),Code.wp Tryz.prog _ _ a w->_› _ _ ?_)
  go_wp2_with fail
  go_ret
  exact ⟨_,rfl,H10.out.1,grown_trans (grown_trans HG.out H6.out.2) H10.out.2⟩
 ·go_wp2_with fail
  have hx1:=bytes_grown w1.drew ⟨a.table.toArray⟩
  have hx2:Seg (Lib.bytesWorld w1.drew 5 ⟨a.table.toArray⟩) (Value.slice (some ⟨w1.heap.size,0,none⟩) a.table.length (grownCap w1.drew a.table.length 0 5)) a.table:=bytes_seg w1.drew a.table HA.out.fits.tl
  generalize Lib.bytesWorld w1.drew 5 ⟨a.table.toArray⟩=w2 at hx1 hx2 ⊢
  generalize Value.slice (some ⟨w1.heap.size,0,none⟩) a.table.length (grownCap w1.drew a.table.length 0 5)=va at hx2 ⊢
  have H2:Hid (Seg w2 va a.table/\w1.grownBy w2 none):=⟨hx2,grown_trans (grown_drew _ _) hx1⟩
  clear hx1 hx2
  refine hK.out _ _ (fun _=>H2.out.2) ?_
  clear hK K
  try simp only [pN]
  refine wpHold_one (i:=3) rfl (by kernel_rfl) (by rfl) (fun K hK=>?_)
  go_wp2_with (go_at_call 100;refine (Wire.number9_int _ 5 rfl (by decide) _).mono ?_)
  rintro e w3 ⟨u1,rfl,ho1,hg2⟩
  have H3:Hid (Own w3 w.heap.size u1 (Wire.numForm 5)/\Seg w3 va a.table/\w1.grownBy w3 none):=⟨own_mono_trans ho1 (grown_refl _ _) (Nat.le_trans HG.out.size H2.out.2.size),H2.out.1.grown hg2,grown_trans H2.out.2 hg2⟩
  clear ho1 hg2 H2
  go_wp2_with fail
  refine hK.out _ _ (fun _=>H3.out.2.2) ?_
  clear hK K
  try simp only [pN]
  refine wpHold_one (i:=7) rfl (by kernel_rfl) (by rfl) (fun K hK=>?_)
  go_wp2_with (go_at_call 145;refine (Wire.bytes8 _ a.table _ H3.out.2.1 (by have:=tab_len HM.out.tab;omega)).mono ?_)
  rintro e w4 ⟨u2,rfl,ho2,hg4⟩
  have H4:Hid (Own w4 w.heap.size u2 (bytesForm a.table)/\w3.grownBy w4 none/\w1.grownBy w4 none):=⟨own_mono_trans ho2 (grown_refl _ _) (Nat.le_trans HG.out.size H3.out.2.2.size),hg4,grown_trans H3.out.2.2 hg4⟩
  clear ho2 hg4
  go_wp2_with fail
  refine hK.out _ _ (fun _=>H4.out.2.2) ?_
  clear hK K
  try simp only [pN]
  refine wpHold_one (i:=10) rfl (by kernel_rfl) (by rfl) (fun K hK=>?_)
  go_wp2_with (go_at_call 145;refine (Wire.bytes8 _ a.key _ (HA.out.key.grown (grown_trans HG.out H4.out.2.2)) (by have:=HM.out.key;omega)).mono ?_)
  rintro e w5 ⟨u3,rfl,ho3,hg5⟩
  have H5:Hid (Own w5 w.heap.size u3 (bytesForm a.key)/\Own w5 w.heap.size u2 (bytesForm a.table)/\Own w5 w.heap.size u1 (Wire.numForm 5)/\w1.grownBy w5 none):=⟨own_mono_trans ho3 (grown_refl _ _) (Nat.le_trans HG.out.size H4.out.2.2.size),H4.out.1.grown hg5,(H3.out.1.grown H4.out.2.1).grown hg5,grown_trans H4.out.2.2 hg5⟩
  clear ho3 hg5
  obtain ⟨x1,n1,y1,e1⟩:=slice_of H5.out.2.2.1
  obtain ⟨x2,n2,y2,e2⟩:=slice_of H5.out.2.1
  obtain ⟨x3,n3,y3,e3⟩:=slice_of H5.out.1
  subst e1 e2 e3
  go_wp2_with fail
  refine hK.out _ _ (fun _=>H5.out.2.2.2) ?_
  clear hK K
  try simp only [pN]
  refine wpHold_one (i:=11) rfl (by kernel_rfl) (by rfl) (fun K hK=>?_)
  go_wp2_with fail
  refine hK.out _ _ (fun _=>grown_trans H5.out.2.2.2 (World.grownBy_alloc _ _ none)) ?_
  clear hK K
  try simp only [pN]
  refine wpHold_one (i:=12) rfl (by kernel_rfl) (by rfl) (fun K hK=>?_)
  go_wp2_with (go_at_call 99;refine (Wire.join10 _ [Wire.numForm 5,bytesForm a.table,bytesForm a.key] _ (segs_three H5.out.2.2.1.seg H5.out.2.1.seg H5.out.1.seg) ?g0).mono ?_)
  case g0 =>
   have h1:=Wire.numForm_len10 5 (by decide)
   have h2:=bytesForm_len a.table (by have:=tab_len HM.out.tab;omega)
   have h3:=bytesForm_len a.key (by have:=HM.out.key;omega)
   simp;omega
  rintro e w6 ⟨u4,rfl,ho6,hg6⟩
  have H6:Hid (Own w6 w.heap.size u4 (Wire.numForm 5 ++ (bytesForm a.table ++ bytesForm a.key))/\w1.grownBy w6 none):=by
   refine ⟨?_,grown_trans H5.out.2.2.2 (grown_trans (World.grownBy_alloc _ _ none) hg6)⟩
   have:=own_mono_trans (w:=w) ho6 (grown_refl _ _) (by have:=HG.out.size;have:=H5.out.2.2.2.size;simp;omega)
   simpa using this
  clear ho6 hg6
  obtain ⟨x4,n4,y4,e4⟩:=slice_of H6.out.1
  subst e4
  go_wp2_with fail
  refine hK.out _ _ (fun _=>H6.out.2) ?_
  clear hK K
  try simp only [pN]
  refine tK (i:=13) (l':=[]) trivial (H6.out.2) rfl rfl (fun wk hk=>by obtain ⟨q0,q1,q2,q3,q4,q5,q6,q7⟩:=HC.out wk hk;go_simp;try rfl) ?_
  try simp only [pN]
  refine wpHold_done (by kernel_rfl) ?_
  refine (‹∀(a:Act) (w:World),Code.wp Tryz.prog _ _ a w->_› _ _ ?_)
  obtain ⟨p0,p1,p2,p3,p4,p5,p6,p7⟩:=HC.out w6 H6.out.2
  clear p1 p2 p3 p4 p5 p6 p7
  have HC2:Hid (∀x:World,w6.grownBy x none->_):=fun x hx=>HC.out x (grown_trans H6.out.2 hx)
  have i1:1<=ms:=HS.out.2.1
  have i2:ms<=64:=HS.out.2.2
  go_wp2_with (fail)
  refine wp_region_noPanic ?_
  refine wp_region_hold 1000 (fun x=>w6.grownBy x none) (by kernel_rfl) ?_
  have J:Idx [0,1,2,4,5,6]:=trivial
  iterate 6 (refine tK J (grown_drew _ _) rfl rfl (fun wk hk=>by obtain ⟨q0,q1,q2,q3,q4,q5,q6,q7⟩:=HC2.out wk hk;go_simp;try rfl) ?_;replace J:=J.tl;try simp only [pN])
  clear J
  refine wpHold_one (i:=3) rfl (by kernel_rfl) (by rfl) (fun K hK=>?_)
  go_wp2_with (go_at_call 145;refine (Wire.bytes8 _ a.to _ (HA.out.to.grown (grown_trans (grown_trans HG.out H6.out.2) (grown_drew _ _))) (by have:=HM.out.to;omega)).mono ?_)
  rintro e w7 ⟨u5,rfl,ho7,hg7⟩
  have H7:Hid (Own w7 w.heap.size u5 (bytesForm a.to)/\w6.grownBy w7 none):=⟨own_mono_trans ho7 (grown_refl _ _) (Nat.le_trans HG.out.size H6.out.2.size),grown_trans (grown_drew _ _) hg7⟩
  clear ho7 hg7
  go_wp2_with fail
  refine hK.out _ _ (fun _=>H7.out.2) ?_
  clear hK K
  try simp only [pN]
  refine wpHold_one (i:=7) rfl (by kernel_rfl) (by rfl) (fun K hK=>?_)
  go_wp2_with (go_at_call 100;refine (Wire.number9_int _ ms.toNat ?n1 ?n2 _).mono ?_)
  case n1=>go_num
  case n2=>omega
  rintro e w8 ⟨u6,rfl,ho8,hg8⟩
  have H8:Hid (Own w8 w.heap.size u6 (Wire.numForm ms.toNat)/\Own w8 w.heap.size u5 (bytesForm a.to)/\Own w8 w.heap.size _ _/\w6.grownBy w8 none):=⟨own_mono_trans ho8 (grown_refl _ _) (Nat.le_trans (Nat.le_trans HG.out.size H6.out.2.size) H7.out.2.size),H7.out.1.grown hg8,H6.out.1.grown (grown_trans H7.out.2 hg8),grown_trans H7.out.2 hg8⟩
  clear ho8 hg8
  obtain ⟨x5,n5,y5,e5⟩:=slice_of H8.out.1
  obtain ⟨x6,n6,y6,e6⟩:=slice_of H8.out.2.1
  subst e5 e6
  go_wp2_with fail
  refine hK.out _ _ (fun _=>H8.out.2.2.2) ?_
  clear hK K
  try simp only [pN]
  refine wpHold_one (i:=8) rfl (by kernel_rfl) (by rfl) (fun K hK=>?_)
  go_wp2_with fail
  refine hK.out _ _ (fun _=>grown_trans H8.out.2.2.2 (World.grownBy_alloc _ _ none)) ?_
  clear hK K
  try simp only [pN]
  refine wpHold_one (i:=9) rfl (by kernel_rfl) (by rfl) (fun K hK=>?_)
  go_wp2_with (go_at_call 99;refine (Wire.join10 _ _ _ (segs_three H8.out.2.2.1.seg H8.out.2.1.seg H8.out.1.seg) ?g1).mono ?_)
  case g1 =>
   have h1:=Wire.numForm_len10 5 (by decide)
   have h2:=bytesForm_len a.table (by have:=tab_len HM.out.tab;omega)
   have h3:=bytesForm_len a.key (by have:=HM.out.key;omega)
   have h4:=bytesForm_len a.to (by have:=HM.out.to;omega)
   have h5:=Wire.numForm_len10 ms.toNat (by have:=HS.out.2;omega)
   simp;omega
  rintro e w10 ⟨u8,rfl,ho10,hg10⟩
  have H10:Hid (Own w10 w.heap.size u8 F/\w6.grownBy w10 none):=by
   refine ⟨?_,grown_trans H8.out.2.2.2 (grown_trans (World.grownBy_alloc _ _ none) hg10)⟩
   have:=own_mono_trans (w:=w) ho10 (grown_refl _ _) (by have:=HG.out.size;have:=H6.out.2.size;have:=H8.out.2.2.2.size;simp;omega)
   rw [HF.out,<-HS.out.1]
   simpa using this
  clear ho10 hg10
  go_wp2_with fail
  refine hK.out _ _ (fun _=>H10.out.2) ?_
  clear hK K
  try simp only [pN]
  refine tK (i:=10) (l':=[]) trivial (H10.out.2) rfl rfl (fun wk hk=>by obtain ⟨q0,q1,q2,q3,q4,q5,q6,q7⟩:=HC2.out wk hk;go_simp;try rfl) ?_
  try simp only [pN]
  refine wpHold_done (by kernel_rfl) ?_
  refine (‹∀(a:Act) (w:World),Code.wp Tryz.prog _ _ a w->_› _ _ ?_)
  go_wp2_with fail
  go_ret
  exact ⟨_,rfl,H10.out.1,grown_trans (grown_trans HG.out H6.out.2) H10.out.2⟩
theorem opform76 (k v ol t:Value)(a:POp)(w:World)(ha:OpSeg w k v ol t a) :
  Calls Tryz.prog 112 #[opV k v ol t a] w (FormOr (mayOp a) (opForm a) 2 w):=by
 cases hm:mayOp a with
 | true =>
  have hk:=(may_of hm).kind
  have hc:a.kind=1\/a.kind=2\/a.kind=3\/a.kind=4\/a.kind=5:=by omega
  have up:∀{e w'},(∃u,e=Ending.returned u/\Own w' w.heap.size u (opForm a)/\w.grownBy w' none)->FormOr true (opForm a) 2 w e w':=fun h=>.inl ⟨rfl,h⟩
  rcases hc with h | h | h | h | h
  ·exact (opform76_1 k v ol t a w ha h hm).mono fun _ _=>up
  ·exact (opform76_2 k v ol t a w ha h hm).mono fun _ _=>up
  ·exact (opform76_3 k v ol t a w ha h hm).mono fun _ _=>up
  ·exact (opform76_4 k v ol t a w ha h hm).mono fun _ _=>up
  ·exact (opform76_5 k v ol t a w ha h hm).mono fun _ _=>up
 | false =>
  obtain ⟨a1,a2,a3,a4,b1,b2,b3,b4,rfl,rfl,rfl,rfl⟩:=ha.shapes
  have HA:Hid (OpSeg w (.slice a1 a.key.length b1) (.slice a2 a.value.length b2) (.slice a3 a.old.length b3) (.slice a4 a.to.length b4) a):=ha
  have HM:Hid (mayOp a=false):=hm
  clear ha hm
  unfold opV Str
  go_enter Tryz.func112,Tryz.ntmps112
  go_wp2_with (go_at_call 144;refine (may120 _ _ _ _ a _ (HA.out.grown (World.grownBy_alloc _ _ none))).mono ?_)
  rintro e w1 ⟨rfl,hg1⟩
  rw [HM.out]
  have HG:Hid (w.grownBy w1 none):=grown_trans (World.grownBy_alloc _ _ none) hg1
  clear hg1
  go_wp2_with (go_at_call 110;refine (sure_no _ _).mono ?_;rintro e w2 ⟨rfl,hw2⟩;rw [hw2];clear hw2;unfold Pan)
  exact ⟨rfl,.inr ⟨rfl,rfl,HG.out⟩⟩
end Go.Proofs.YtanoabliahcbeaaGreat.Calls
