import Derived.Test.YtakmlhhapegpoaaGreatFdeAll
import Derived.Laws.ResultCell
set_option maxHeartbeats 4000000
set_option maxRecDepth 100000
namespace Go.Proofs.YtakmlhhapegpoaaGreat
open Go.RowKit Disk Table
open Names (Str cmpL keyB valueB tabB inB)
theorem rcopy10 {X:Nat->Prop}(b:Nat)(q:Int × Int)(F:List NRow)(w:World)(hX:∀g,X g->g<w.heap.size)(hz:F.length<=1000000)(h:REng X w b q F):Calls Tryz.prog 10 #[.pointer (some ⟨b,0,none⟩)] w fun e w'=>∃d,e=.returned (.pointer (some ⟨d,0,none⟩))/\w.heap.size<=d/\REng X w' d q F/\w.grownBy w' none:=by
 obtain ⟨a1,n1,c1,hn1,hc1,hc1',HV⟩:=reng_open h
 obtain ⟨ks,hk1,hk2,hk3,hk4⟩:=HV.out.2
 have HN:Hid (F.length=n1/\NmsO w 0 (.slice a1 n1 c1) ks/\NOwn w 0 ks F/\(∀g,X g->g<w.heap.size)/\NOff X ks/\ks.length=n1):=⟨hn1,hk1,hk2,hX,hk4,by rw [hk2.1];exact hn1⟩
 have hz1:n1<=1000000:=by omega
 have HC:Hid (∀y:World,w.grownBy y none->y.cell? ⟨b,0,none⟩=some (.int .i64 q.1)/\y.cell? ⟨b,1,none⟩=some (.int .i64 q.2)/\y.cell? ⟨b,2,none⟩=some (.slice a1 n1 c1)):=fun y hy=>by
  have h:=HV.out.1.grown hy (by simp)
  exact ⟨h.cell 0,h.cell 1,h.cell 2⟩
 clear hk1 hk2 hk3 hk4 hX hn1 h hz
 go_enter Tryz.func10,Tryz.ntmps10
 go_wp2_with fail
 refine wp_region_noPanic ?_
 refine wp_region_hold 1000 (fun y=>w.grownBy y none) (by kernel_rfl) ?_
 have G0:Hid (w.grownBy w.drew none):=grown_drew _ _
 generalize w.drew=wd at G0 ⊢
 have J:Idx [0,1,2,3,4,5,6,7]:=trivial
 iterate 8 (refine tK J (G0.out) rfl rfl (fun wk hk=>by obtain ⟨m0,m1,m2⟩:=HC.out wk hk;go_simp;try rfl) ?_;replace J:=J.tl;try simp only [pN])
 clear J
 refine wpHold_one (i:=8) rfl (by kernel_rfl) (by rfl) (fun K hK=>?_)
 refine appV_wp wd _ _ 24 61 _ 3 64 info61 ut24' rfl (by decide) rfl wd.heap.size _ 0 [] (.slice a1 n1 c1) n1 (ncells ks) rfl rfl (World.ownsRow_nil _ _ _ _) (by have h:=HN.out.2.1.grown G0.out;unfold NmsO at h;rw [HN.out.2.2.2.2.2] at h;exact vec_of_owns h) HN.out.2.2.1.one (by omega) (by unfold maxLen;omega) (Nat.le_refl _) ?_
 intro v5 w5 hv5 hg5
 have H5:Hid (w5.ownsRow w.heap.size 61 3 v5 n1 (ncells ks)/\w.grownBy w5 none):=⟨by have h5:=owns_mono hv5 G0.out.size;simpa using h5,grown_trans G0.out (hg5.none (Nat.le_refl _))⟩
 clear hv5 hg5 G0
 obtain ⟨a5,c5,e5,_,_⟩:=(vec_of_owns H5.out.1).shape
 subst e5
 refine hK.out _ _ (fun _=>H5.out.2) ?_
 clear hK K
 try simp only [pN]
 refine tK (i:=9) (l':=[]) trivial (H5.out.2) rfl rfl (fun wk hk=>by obtain ⟨m0,m1,m2⟩:=HC.out wk hk;go_simp;try rfl) ?_
 try simp only [pN]
 refine wpHold_one (i:=10) rfl (by kernel_rfl) (by rfl) (fun K hK=>?_)
 go_wp2_with fail
 obtain ⟨w6,hw6,H6⟩:=al w5 #[.int .i64 q.1,.int .i64 q.2,.slice a5 n1 c5] 77
 rw [hw6]
 clear hw6
 have G6:Hid (w.grownBy w6 none):=grown_trans H5.out.2 H6.out.2.1
 refine hK.out _ _ (fun _=>G6.out) ?_
 clear hK K
 try simp only [pN]
 refine tK (i:=11) (l':=[]) trivial (G6.out) rfl rfl (fun wk hk=>by obtain ⟨m0,m1,m2⟩:=HC.out wk hk;go_simp;try rfl) ?_
 try simp only [pN]
 refine wpHold_done (by kernel_rfl) ?_
 refine (‹∀(a:Act) (w:World),Code.wp Tryz.prog _ _ a w->_› _ _ ?_)
 go_wp2_with fail
 go_ret
 refine ⟨w5.heap.size,rfl,H5.out.2.size,⟨_,H6.out.1,ks,?_,HN.out.2.2.1.grown G6.out,fun g hg hx=>?_,HN.out.2.2.2.2.1⟩,G6.out⟩
 ·unfold NmsO
  rw [HN.out.2.2.2.2.2]
  exact owns_mono (owns_same H5.out.1 fun k hk=>H6.out.2.1.block k (World.ownsRow.lt H5.out.1 k hk).2 (by simp)) (Nat.zero_le _)
 ·have:=(World.ownsRow.lt H5.out.1 g hg).1
  have:=HN.out.2.2.2.1 g hx
  omega
theorem eq_quo (q:Int × Int)(w:World):(binOp .eql 23 (.agg #[.int .i64 q.1,.int .i64 q.2]) (.agg #[.int .i64 q.1,.int .i64 q.2])).run Tryz.prog w=.ok (.bool true) w:=by
 have:=run_eqq q q w
 simpa using this
theorem rsame14 {X Y:Nat->Prop}(b d:Nat)(q:Int × Int)(F E:List NRow)(w:World)(hz:F.length<=1000000)(h:REng X w b q F)(h':REng Y w d q E):Calls Tryz.prog 14 #[.pointer (some ⟨b,0,none⟩),.pointer (some ⟨d,0,none⟩)] w fun e w'=>e=.returned (.bool (decide (F=E)))/\w.grownBy w' none:=by
 obtain ⟨a1,n1,c1,hn1,hc1,hc1',HV⟩:=reng_open h
 obtain ⟨a2,n2,c2,hn2,hc2,hc2',HU⟩:=reng_open h'
 have HZ:Hid (F.length<=1000000):=hz
 have HC:Hid (∀y:World,w.grownBy y none->(y.cell? ⟨b,0,none⟩=some (.int .i64 q.1)/\y.cell? ⟨b,1,none⟩=some (.int .i64 q.2)/\y.cell? ⟨b,2,none⟩=some (.slice a1 n1 c1))/\y.cell? ⟨d,0,none⟩=some (.int .i64 q.1)/\y.cell? ⟨d,1,none⟩=some (.int .i64 q.2)/\y.cell? ⟨d,2,none⟩=some (.slice a2 n2 c2)):=fun y hy=>by
  have h:=HV.out.1.grown hy (by simp)
  have h':=HU.out.1.grown hy (by simp)
  exact ⟨⟨h.cell 0,h.cell 1,h.cell 2⟩,h'.cell 0,h'.cell 1,h'.cell 2⟩
 obtain ⟨R,hR⟩:∃R,decide (F=E)=R:=⟨_,rfl⟩
 have HR:Hid (decide (F=E)=R):=hR
 rw [hR]
 have hq:=eq_quo q
 clear hn1 hn2 h h' hz hR
 go_enter Tryz.func14,Tryz.ntmps14
 go_wp2_with fail
 refine wp_region_noPanic ?_
 refine wp_region_hold 1000 (fun y=>w.grownBy y none) (by kernel_rfl) ?_
 have G0:Hid (w.grownBy w.drew none):=grown_drew _ _
 generalize w.drew=wd at G0 ⊢
 have J:Idx [0,1,2,3,4,5,6,7,8,9,10,11,12,13,14,15,16,17]:=trivial
 iterate 18 (refine tK J (G0.out) rfl rfl (fun wk hk=>by obtain ⟨⟨m0,m1,m2⟩,m3,m4,m5⟩:=HC.out wk hk;go_simp;try rfl) ?_;replace J:=J.tl;try simp only [pN])
 clear J
 refine wpHold_one (i:=18) rfl (by kernel_rfl) (by rfl) (fun K hK=>?_)
 go_wp2_with fail
 refine (sameRows29 (.slice a1 n1 c1) (.slice a2 n2 c2) F E wd HZ.out (HV.out.2.nms.grown G0.out) (HU.out.2.nms.grown G0.out)).mono ?_
 rw [HR.out]
 rintro e wa ⟨rfl,gg⟩
 have GA:Hid (w.grownBy wa none):=grown_trans G0.out gg
 clear gg
 go_wp2_with fail
 refine hK.out _ _ (fun _=>GA.out) ?_
 clear hK K
 try simp only [pN]
 have J:Idx [19,20]:=trivial
 iterate 2 (refine tK J (GA.out) rfl rfl (fun wk hk=>by obtain ⟨⟨m0,m1,m2⟩,m3,m4,m5⟩:=HC.out wk hk;go_simp;try rfl) ?_;replace J:=J.tl;try simp only [pN])
 clear J
 refine wpHold_done (by kernel_rfl) ?_
 refine (‹∀(a:Act) (w:World),Code.wp Tryz.prog _ _ a w->_› _ _ ?_)
 go_wp2_with fail
 go_ret
 exact ⟨rfl,GA.out⟩
end Go.Proofs.YtakmlhhapegpoaaGreat
namespace Go.Proofs.YtakmlhhapegpoaaGreat
open Go.RowKit Disk Table
open Names (Str cmpL keyB valueB tabB inB)
open _root_.Go.Proofs.YtakmlhhapegpoaaGreat.Calls (POp POut PRes opV OpSeg mayOp)
theorem results_row2 {fn:Func}{p u v:Tmp}{ty:TypeId}(h:fn.results=#[.cell p ty,.tmp u,.tmp v])(tmps:Array Value)(w:World)(g:Nat)(cs:Array Value)
  (hp:tmps.getD p undef=.pointer (some ⟨g,0,none⟩)) (hl:(loadVar ty ⟨g,0,none⟩).run Tryz.prog w=.ok (.agg cs) w) :
  (results fn tmps).run Tryz.prog w=.ok (.tuple #[.agg cs,tmps.getD u undef,tmps.getD v undef]) w:=by
 have hp':tmps[p]?.getD undef=.pointer (some ⟨g,0,none⟩):=by simpa using hp
 simp [results,h,hp',asAddr,hl,Result.andThen]
theorem load72 (w:World)(g:Nat)(x y z:Value)(hb:Blk w g 72 #[x,y,z]):(loadVar 72 ⟨g,0,none⟩).run Tryz.prog w=.ok (.agg #[x,y,z]) w:=run_loadVar_row w g 72 72 _ (0,0) _ hb Tryz.underlying72 rfl (by kernel_rfl)
theorem may_klen {o:POp}(h:mayOp o=true):o.key.length<=1000:=by
 have:=(Calls.may_of h)
 have hk:=this.key
 omega
theorem may_vlen {o:POp}(h:mayOp o=true):o.value.length<=1000:=by
 have:=(Calls.may_of h)
 have hk:=this.value
 omega
theorem drow_set3 {X:Nat->Prop}{w:World}{u:Value}{F:List NRow}(h:DRow X w u F){b t:Nat}{c:Array Value}(hb:Blk w b t c)(h61:t≠61)(h5:t≠5){a0 a1 a2:Nat}{x y z:Value}:DRow X (((w.setCell ⟨b,a0,none⟩ x).setCell ⟨b,a1,none⟩ y).setCell ⟨b,a2,none⟩ z) u F :=
 ((h.off (grown_setCell _ _ _ _) hb h61 h5).off (grown_setCell _ _ _ _) (hb.store _ _) h61 h5).off (grown_setCell _ _ _ _) ((hb.store _ _).store _ _) h61 h5
theorem flat_ok {D:DB}(h:GoodD D)(r:NRow)(hr:r ∈ flatD D):okP r.2.1 r.2.2=true:=by
 unfold flatD at hr
 obtain ⟨x,hx,hr⟩:=List.mem_flatMap.1 hr
 obtain ⟨p,hp,rfl⟩:=List.mem_map.1 hr
 exact (h.good x hx).2.1 p hp
theorem flat_vlen {D:DB}(h:GoodD D)(r:NRow)(hr:r ∈ flatD D):r.2.2.length<=1000:=by
 have:=okP_len (flat_ok h r hr)
 omega
theorem size_few2 {D:DB}(h:GoodD D)(hl:(flatD D).length<=4097)(k:Nat):sizeF ((flatD D).take k)<=1000000000000:=by
 have key:∀(F:List NRow),(∀r ∈ F,okP r.2.1 r.2.2=true)->sizeF F<=F.length*320:=by
  intro F
  induction F with
  | nil=>intro _;simp [sizeF]
  | cons r F ih =>
   intro hF
   have h1:=ih fun x hx=>hF x (by simp [hx])
   have h2:=okP_len (hF r (by simp))
   unfold sizeF at h1 ⊢
   simp only [List.map_cons,List.sum_cons,List.length_cons]
   omega
 have h1:=key ((flatD D).take k) fun r hr=>flat_ok h r (List.mem_of_mem_take hr)
 have h2:((flatD D).take k).length<=4097:=Nat.le_trans (by simp;omega) hl
 omega
def ROpE (X:Nat->Prop)(q:Int × Int)(D:DB)(o:POp)(w:World)(e:Ending)(w':World):Prop :=
 w.grownBy w' none/\((∃r D',opD q D o=.ok (r,D')/\∃x y u,e=.returned (.tuple #[.agg #[.bool r.has,x,y],u,.int .i64 0])/\Disk.Own w' w.heap.size x r.value/\TRws w' w.heap.size y r.rows/\DRow X w' u (flatD D')) ∨
  (∃c,opD q D o=.error c/\c≠0/\∃a n k,e=.returned (.tuple #[.agg #[.bool false,.slice none 0 0,.slice none 0 0],.slice a n k,.int .i64 c])))
end Go.Proofs.YtakmlhhapegpoaaGreat
