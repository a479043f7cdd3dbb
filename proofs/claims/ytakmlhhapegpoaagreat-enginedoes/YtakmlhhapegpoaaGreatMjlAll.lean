import Derived.Test.YtakmlhhapegpoaaGreatMhiAll
import Derived.Test.YtakmlhhapegpoaaGreatCpwAll
set_option maxHeartbeats 8000000
set_option maxRecDepth 100000
namespace Go.Proofs.YtakmlhhapegpoaaGreat
open Go.RowKit Disk Table
open Names (Str cmpL keyB valueB tabB)
open _root_.Go.Proofs.YtakmlhhapegpoaaGreat.Calls (POp POut PRes opV OpSeg)
theorem get27_no (kv:Value)(hk:∃a n c,kv=.slice a n c)(w:World):Calls Tryz.prog 145 #[.pointer none,kv] w fun e w'=>e=.returned (.tuple #[.slice none 0 0,.int .i64 1])/\w'=w:=by
 obtain ⟨a,n,c,rfl⟩:=hk
 go_enter Tryz.func145,Tryz.ntmps145
 go_wp2_with (go_at_call 69;refine (there34_nil w).mono ?_;rintro e w1 ⟨rfl,hw⟩;rw [hw];clear hw)
 go_ret2
 exact ⟨rfl,rfl⟩
theorem delete19_no (kv:Value)(hk:∃a n c,kv=.slice a n c)(w:World):Calls Tryz.prog 148 #[.pointer none,kv] w fun e w'=>e=.returned (.tuple #[.bool false,.int .i64 1])/\w'=w:=by
 obtain ⟨a,n,c,rfl⟩:=hk
 go_enter Tryz.func148,Tryz.ntmps148
 go_wp2_with (go_at_call 69;refine (there34_nil w).mono ?_;rintro e w1 ⟨rfl,hw⟩;rw [hw];clear hw)
 go_ret2
 exact ⟨rfl,rfl⟩
def PanA (why:Int):Ending:=.panicked [{ v:=.iface 46 (.int .i64 why),recovered:=false }]
theorem sure118 (why:Int)(w:World):Calls Tryz.prog 118 #[.bool true,.int .i64 why] w fun e w'=>e=.returned (.tuple #[])/\w'=w:=by
 go_enter Tryz.func118,Tryz.ntmps118
 go_wp2
 go_end0
 exact ⟨rfl,rfl⟩
theorem sure118_no (why:Int)(w:World):Calls Tryz.prog 118 #[.bool false,.int .i64 why] w fun e w'=>e=PanA why/\w'=w:=by
 go_enter Tryz.func118,Tryz.ntmps118
 go_wp2
 exact ⟨rfl,rfl,rfl⟩
def hasD (D:DB)(t k:Bs):Bool:=keyB k && hasL (rowsOf D t) k
def gotD (D:DB)(t k:Bs):Bs:=gotL (rowsOf D t) k
theorem got_nil (k:Bs):gotL [] k=[]:=by unfold gotL hasL;simp
theorem has_nil (k:Bs):hasL [] k=false:=by unfold hasL;simp
theorem getC_has (l:List PRow)(k:Bs):decide (getC l k=0)=(keyB k && hasL l k):=by
 unfold getC
 cases keyB k <;> cases hasL l k <;> simp
theorem good_val {D:DB}(h:GoodD D){n:Bs}(hn:n ∈ namesD D):∀r ∈ rowsOf D n,r.2.length<=256:=fun r hr=>(okP_len ((good_rows h hn).2.1 r hr)).2.2
theorem good_any {D:DB}(h:GoodD D)(n:Bs):Table.Good (rowsOf D n):=by
 by_cases hn:n ∈ namesD D
 ·exact good_rows h hn
 ·rw [rows_none hn]
  exact ⟨fun i j hi=>absurd hi (by simp),by simp,by simp⟩
theorem op_shape {w:World}{k v ol t:Value}{o:POp}(h:OpSeg w k v ol t o):∃a1 n1 c1 a2 n2 c2 a3 n3 c3 a4 n4 c4,k=.slice a1 n1 c1/\v=.slice a2 n2 c2/\ol=.slice a3 n3 c3/\t=.slice a4 n4 c4:=by
 obtain ⟨a1,c1,rfl,_⟩:=h.key
 obtain ⟨a2,c2,rfl,_⟩:=h.value
 obtain ⟨a3,c3,rfl,_⟩:=h.old
 obtain ⟨a4,c4,rfl,_⟩:=h.to
 exact ⟨_,_,_,_,_,_,_,_,_,_,_,_,rfl,rfl,rfl,rfl⟩
theorem em_at {X:Nat->Prop}{w:World}{m:Nat}{D:DB}(h:EM X w m D)(n:Bs):(∃p,(∀y,w.grownBy y none->(Instr.lookup 62 (.map (some m)) (Str n) false).run Tryz.prog y=.ok (.pointer (some ⟨p,0,none⟩)) y)/\Tbz X w p (rowsOf D n)/\n ∈ namesD D) ∨
  ((∀y,w.grownBy y none->(Instr.lookup 62 (.map (some m)) (Str n) false).run Tryz.prog y=.ok (.pointer none) y)/\rowsOf D n=[]/\n ∉ namesD D):=by
 obtain ⟨E,h1,h2,h3⟩:=h
 rcases em_look h2 n with ⟨p,e,hp⟩ | ⟨e,hn,hr⟩
 ·refine .inl ⟨p,fun y hy=>?_,h3 _ hp,(h2 n).1 (List.mem_map.2 ⟨_,hp,rfl⟩)⟩
  rw [run_look (h1.grown hy (by simp)) n false,e]
  rfl
 ·refine .inr ⟨fun y hy=>?_,hr,hn⟩
  rw [run_look (h1.grown hy (by simp)) n false,e]
  rfl
theorem trws_off {w w':World}{B:Nat}{v:Value}{l:List PRow}(h:TRws w B v l){g t:Nat}{c:Array Value}(hg:w.grownBy w' (some g))(hb:Blk w g t c)(h86:t≠86)(h5:t≠5):TRws w' B v l:=by
 obtain ⟨ks,h1,h2⟩:=h
 refine ⟨ks,World.ownsRow.kept h1 hg ?_,h2.same fun k ⟨c',hk⟩=>hg.block k hk.lt ?_⟩
 ·refine .inr fun e=>?_
  rcases h1.2 with ⟨e2,_⟩ | ⟨g2,cap2,cur2,e2,_,hg2,_⟩
  ·rw [e2] at e;simp [Value.ownBlock] at e
  ·rw [e2] at e
   simp [Value.ownBlock] at e
   subst e
   unfold Blk at hb
   rw [hg2] at hb
   simp at hb
   exact h86 hb.2.symm
 ·intro e
  simp at e
  subst e
  unfold Blk at hb hk
  rw [hk] at hb
  simp at hb
  exact h5 hb.2.symm
theorem trws_set3 {w:World}{B C t:Nat}{c:Array Value}{v:Value}{l:List PRow}(h:TRws w B v l)(hb:Blk w C t c)(h86:t≠86)(h5:t≠5){a0 a1 a2:Nat}{u x y:Value}:TRws (((w.setCell ⟨C,a0,none⟩ u).setCell ⟨C,a1,none⟩ x).setCell ⟨C,a2,none⟩ y) B v l :=
 trws_off (trws_off (trws_off h (grown_setCell _ _ _ _) hb h86 h5) (grown_setCell _ _ _ _) (hb.store _ _) h86 h5) (grown_setCell _ _ _ _) ((hb.store _ _).store _ _) h86 h5
theorem grown_set3 {w w1:World}{B i j k:Nat}{u v x:Value}(h:w.grownBy w1 none)(hB:w.heap.size<=B):w.grownBy (((w1.setCell ⟨B,i,none⟩ u).setCell ⟨B,j,none⟩ v).setCell ⟨B,k,none⟩ x) none :=
 grown_new (grown_set2 h hB) (grown_setCell _ _ _ _) (fun x hx=>by simp at hx;omega)
theorem own_set3 {w:World}{B C t:Nat}{c:Array Value}{v:Value}{L:Bs}(h:Disk.Own w B v L)(hb:Blk w C t c)(h5:t≠5){a0 a1 a2:Nat}{u x y:Value}:Disk.Own (((w.setCell ⟨C,a0,none⟩ u).setCell ⟨C,a1,none⟩ x).setCell ⟨C,a2,none⟩ y) B v L :=
 own_off (own_off (own_off h (grown_setCell _ _ _ _) hb h5) (grown_setCell _ _ _ _) (hb.store _ _) h5) (grown_setCell _ _ _ _) ((hb.store _ _).store _ _) h5
theorem get117 {X:Nat->Prop}(b:Nat)(q:Int × Int)(D:DB)(hD:GoodD D)(kv vv ol tv:Value)(o:POp)(w:World)(h:Eng X w b q D)(ho:OpSeg w kv vv ol tv o):Calls Tryz.prog 117 #[.pointer (some ⟨b,0,none⟩),opV kv vv ol tv o] w fun e w'=>∃x,e=.returned (.agg #[.bool (hasD D o.table o.key),x,.slice none 0 0])/\Disk.Own w' w.heap.size x (gotD D o.table o.key)/\w.grownBy w' none:=by
 obtain ⟨m,hb,hm⟩:=h
 obtain ⟨T,hT⟩:∃T,o.table=T:=⟨_,rfl⟩
 have HO:Hid (OpSeg w kv vv ol tv o/\o.table=T):=⟨ho,hT⟩
 obtain ⟨a1,n1,c1,a2,n2,c2,a3,n3,c3,a4,n4,c4,rfl,rfl,rfl,rfl⟩:=op_shape ho
 have HG:Hid (GoodD D):=hD
 have HM:Hid (EngB w b q m/\EM X w m D):=⟨hb,hm⟩
 unfold opV
 rw [hT]
 clear ho hT hD hb hm
 go_enter Tryz.func117,Tryz.ntmps117
 go_wp2_with fail
 obtain ⟨w1,hw1,H1⟩:=al w #[.int .i64 o.kind,Str T,.slice a1 n1 c1,.slice a2 n2 c2,.bool o.has,.slice a3 n3 c3,.slice a4 n4 c4,.int .i64 o.most] 67
 rw [hw1]
 clear hw1
 obtain ⟨w2,hw2,H2⟩:=al w1 #[.bool false,.slice none 0 0,.slice none 0 0] 72
 rw [hw2]
 clear hw2
 obtain ⟨ob,hob⟩:∃ob,w1.heap.size=ob:=⟨_,rfl⟩
 have hsz:w1.heap.size=w.heap.size+1:=H1.out.2.2
 have hob2:w.heap.size+1=ob:=by omega
 have G2:Hid (w.grownBy w2 none/\Blk w2 ob 72 #[.bool false,.slice none 0 0,.slice none 0 0]/\w.heap.size<ob):=⟨grown_trans H1.out.2.1 H2.out.2.1,by rw [<-hob];exact H2.out.1,by omega⟩
 have hem:=em_at HM.out.2 T
 have HC:Hid (∀y,w2.grownBy y none->y.cell? ⟨b,2,none⟩=some (.map (some m))/\y.cell? ⟨w.heap.size,1,none⟩=some (Str T)/\y.cell? ⟨w.heap.size,2,none⟩=some (.slice a1 n1 c1)/\y.cell? ⟨w.heap.size,3,none⟩=some (.slice a2 n2 c2)/\y.cell? ⟨w.heap.size,6,none⟩=some (.slice a4 n4 c4)/\y.cell? ⟨w.heap.size,7,none⟩=some (.int .i64 o.most)):=fun y hy=>by
  have h1:=Blk.grown HM.out.1 (grown_trans G2.out.1 hy) (by simp)
  have h2:=(H1.out.1.grown H2.out.2.1 (by simp)).grown hy (by simp)
  exact ⟨h1.cell 2,h2.cell 1,h2.cell 2,h2.cell 3,h2.cell 6,h2.cell 7⟩
 try rw [hob]
 try rw [hob2]
 clear hob hob2 hsz
 rcases hem with ⟨p,hl,htb,hin⟩ | ⟨hl,hrn,hin⟩
 ·have HL:Hid ((∀y,w.grownBy y none->(Instr.lookup 62 (.map (some m)) (Str T) false).run Tryz.prog y=.ok (.pointer (some ⟨p,0,none⟩)) y)/\Tbz X w p (rowsOf D T)/\T ∈ namesD D):=⟨hl,htb,hin⟩
  clear hl htb hin
  refine wp_region_noPanic ?_
  refine wp_region_hold 1000 (fun y=>w2.grownBy y none) (by kernel_rfl) ?_
  have G0:Hid (w2.grownBy w2.drew none):=grown_drew _ _
  generalize w2.drew=wd at G0 ⊢
  have J:Idx [0,1,2,3,4,5,6,7,8]:=trivial
  iterate 9 (refine tK J (G0.out) rfl rfl (fun wk hk=>by obtain ⟨m0,m1,m2,m3,m6,m7⟩:=HC.out wk hk;have ml:=HL.out.1 wk (grown_trans G2.out.1 hk);go_simp;try rfl) ?_;replace J:=J.tl;try simp only [pN])
  clear J
  refine wpHold_one (i:=9) rfl (by kernel_rfl) (by rfl) (fun K hK=>?_)
  go_wp2_with (go_at_call 145;refine (get27 p _ (rowsOf D T) o.key (good_any HG.out T).1 (good_any HG.out T).2.2 (good_val HG.out HL.out.2.2) wd ((HL.out.2.1.grown (grown_trans G2.out.1 G0.out)).old) (HO.out.1.key.grown (grown_trans G2.out.1 G0.out))).mono ?_)
  rintro e w3 ⟨x,rfl,hx,g3⟩
  obtain ⟨ax,cx,ex⟩:=hx.seg.shape
  obtain ⟨nx,hnx⟩:∃nx,(gotL (rowsOf D T) o.key).length=nx:=⟨_,rfl⟩
  rw [hnx] at ex
  subst ex
  have H3:Hid (Disk.Own w3 w.heap.size (.slice ax nx cx) (gotL (rowsOf D T) o.key)/\w2.grownBy w3 none):=⟨hx.mono (Nat.le_trans G2.out.1.size G0.out.size),grown_trans G0.out g3⟩
  clear hx g3 hnx
  go_wp2_with fail
  refine hK.out _ _ (fun _=>H3.out.2) ?_
  clear hK K
  try simp only [pN]
  have J:Idx [10,11,12,13,14]:=trivial
  iterate 5 (refine tK J (H3.out.2) rfl rfl (fun wk hk=>by obtain ⟨m0,m1,m2,m3,m6,m7⟩:=HC.out wk hk;have ml:=HL.out.1 wk (grown_trans G2.out.1 hk);go_simp;try rfl) ?_;replace J:=J.tl;try simp only [pN])
  clear J
  refine wpHold_done (by kernel_rfl) ?_
  refine (‹∀(a:Act) (w:World),Code.wp Tryz.prog _ _ a w->_› _ _ ?_)
  have hB:=G2.out.2.1.grown H3.out.2 (by simp)
  have HB:Hid (Blk w3 ob 72 #[.bool false,.slice none 0 0,.slice none 0 0]):=hB
  have f0:=hB.free 0
  have f1:=hB.free 1
  have f2:=hB.free 2
  have b0:=hB.cell 0
  have b1:=hB.cell 1
  have b2:=hB.cell 2
  simp at b0 b1 b2
  have hgc:=getC_has (rowsOf D T) o.key
  obtain ⟨gc,hgc0⟩:∃gc,getC (rowsOf D T) o.key=gc:=⟨_,rfl⟩
  rw [hgc0] at hgc
  try rw [hgc0]
  clear hgc0 hB
  by_cases hz:gc=0
  ·subst hz
   have HH:Hid (hasD D T o.key=true):=by rw [Hid,hasD,<-hgc];rfl
   clear hgc
   go_wp2_with fail
   refine bodyPost_ret (v:=_) (results_cell_row rfl _ _ ob 72 _ (0,0) _ rfl (((HB.out.store 0 (.bool true)).store 1 (.slice ax nx cx)).store 2 (.slice none 0 0)) Tryz.underlying72 rfl (by kernel_rfl)) rfl ?_
   refine ⟨_,by rw [HH.out];rfl,?_,?_⟩
   ·rw [gotD]
    exact own_set3 H3.out.1 HB.out (by decide)
   ·exact grown_set3 (grown_trans G2.out.1 H3.out.2) (by have:=G2.out.2.2;omega)
  ·have HH:Hid (hasD D T o.key=false):=by rw [Hid,hasD,<-hgc];simpa using hz
   have z0:(gc==0)=false:=by simpa using hz
   have z1:(gc=0)=False:=by simpa using hz
   clear hgc hz
   go_wp2_with fail
   refine bodyPost_ret (v:=_) (results_cell_row rfl _ _ ob 72 _ (0,0) _ rfl (((HB.out.store 0 (.bool false)).store 1 (.slice ax nx cx)).store 2 (.slice none 0 0)) Tryz.underlying72 rfl (by kernel_rfl)) rfl ?_
   refine ⟨_,by rw [HH.out];rfl,?_,?_⟩
   ·rw [gotD]
    exact own_set3 H3.out.1 HB.out (by decide)
   ·exact grown_set3 (grown_trans G2.out.1 H3.out.2) (by have:=G2.out.2.2;omega)
 ·have HL:Hid ((∀y,w.grownBy y none->(Instr.lookup 62 (.map (some m)) (Str T) false).run Tryz.prog y=.ok (.pointer none) y)/\rowsOf D T=[]/\T ∉ namesD D):=⟨hl,hrn,hin⟩
  clear hl hrn hin
  refine wp_region_noPanic ?_
  refine wp_region_hold 1000 (fun y=>w2.grownBy y none) (by kernel_rfl) ?_
  have G0:Hid (w2.grownBy w2.drew none):=grown_drew _ _
  generalize w2.drew=wd at G0 ⊢
  have J:Idx [0,1,2,3,4,5,6,7,8]:=trivial
  iterate 9 (refine tK J (G0.out) rfl rfl (fun wk hk=>by obtain ⟨m0,m1,m2,m3,m6,m7⟩:=HC.out wk hk;have ml:=HL.out.1 wk (grown_trans G2.out.1 hk);go_simp;try rfl) ?_;replace J:=J.tl;try simp only [pN])
  clear J
  refine wpHold_one (i:=9) rfl (by kernel_rfl) (by rfl) (fun K hK=>?_)
  go_wp2_with (go_at_call 145;refine (get27_no _ ⟨_,_,_,rfl⟩ wd).mono ?_;rintro e w3 ⟨rfl,hw⟩;rw [hw];clear hw)
  refine hK.out _ _ (fun _=>G0.out) ?_
  clear hK K
  try simp only [pN]
  have J:Idx [10,11,12,13,14]:=trivial
  iterate 5 (refine tK J (G0.out) rfl rfl (fun wk hk=>by obtain ⟨m0,m1,m2,m3,m6,m7⟩:=HC.out wk hk;have ml:=HL.out.1 wk (grown_trans G2.out.1 hk);go_simp;try rfl) ?_;replace J:=J.tl;try simp only [pN])
  clear J
  refine wpHold_done (by kernel_rfl) ?_
  refine (‹∀(a:Act) (w:World),Code.wp Tryz.prog _ _ a w->_› _ _ ?_)
  have hB:=G2.out.2.1.grown G0.out (by simp)
  have HB:Hid (Blk wd ob 72 #[.bool false,.slice none 0 0,.slice none 0 0]):=hB
  have f0:=hB.free 0
  have f1:=hB.free 1
  have f2:=hB.free 2
  have b0:=hB.cell 0
  have b1:=hB.cell 1
  have b2:=hB.cell 2
  simp at b0 b1 b2
  clear hB
  go_wp2_with fail
  refine bodyPost_ret (v:=_) (results_cell_row rfl _ _ ob 72 _ (0,0) _ rfl (((HB.out.store 0 (.bool false)).store 1 (.slice none 0 0)).store 2 (.slice none 0 0)) Tryz.underlying72 rfl (by kernel_rfl)) rfl ?_
  refine ⟨_,by rw [hasD,HL.out.2.1,has_nil,Bool.and_false];rfl,?_,?_⟩
  ·rw [gotD,HL.out.2.1,got_nil]
   exact World.ownsRow_nil _ _ _ _
  ·exact grown_set3 (grown_trans G2.out.1 G0.out) (by have:=G2.out.2.2;omega)
theorem scan122 {X:Nat->Prop}(b:Nat)(q:Int × Int)(D:DB)(hD:GoodD D)(kv vv ol tv:Value)(o:POp)(w:World)(h:Eng X w b q D)(ho:OpSeg w kv vv ol tv o):Calls Tryz.prog 122 #[.pointer (some ⟨b,0,none⟩),opV kv vv ol tv o] w fun e w'=>∃y,e=.returned (.agg #[.bool false,.slice none 0 0,y])/\TRws w' w.heap.size y (scanL (rowsOf D o.table) o.key o.to o.most)/\w.grownBy w' none:=by
 obtain ⟨m,hb,hm⟩:=h
 obtain ⟨T,hT⟩:∃T,o.table=T:=⟨_,rfl⟩
 have HO:Hid (OpSeg w kv vv ol tv o/\o.table=T):=⟨ho,hT⟩
 obtain ⟨a1,n1,c1,a2,n2,c2,a3,n3,c3,a4,n4,c4,rfl,rfl,rfl,rfl⟩:=op_shape ho
 have HG:Hid (GoodD D):=hD
 have HM:Hid (EngB w b q m/\EM X w m D):=⟨hb,hm⟩
 unfold opV
 rw [hT]
 clear ho hT hD hb hm
 go_enter Tryz.func122,Tryz.ntmps122
 go_wp2_with fail
 obtain ⟨w1,hw1,H1⟩:=al w #[.int .i64 o.kind,Str T,.slice a1 n1 c1,.slice a2 n2 c2,.bool o.has,.slice a3 n3 c3,.slice a4 n4 c4,.int .i64 o.most] 67
 rw [hw1]
 clear hw1
 obtain ⟨w2,hw2,H2⟩:=al w1 #[.bool false,.slice none 0 0,.slice none 0 0] 72
 rw [hw2]
 clear hw2
 obtain ⟨ob,hob⟩:∃ob,w1.heap.size=ob:=⟨_,rfl⟩
 have hsz:w1.heap.size=w.heap.size+1:=H1.out.2.2
 have hob2:w.heap.size+1=ob:=by omega
 have G2:Hid (w.grownBy w2 none/\Blk w2 ob 72 #[.bool false,.slice none 0 0,.slice none 0 0]/\w.heap.size<ob):=⟨grown_trans H1.out.2.1 H2.out.2.1,by rw [<-hob];exact H2.out.1,by omega⟩
 have hem:=em_at HM.out.2 T
 have HC:Hid (∀y,w2.grownBy y none->y.cell? ⟨b,2,none⟩=some (.map (some m))/\y.cell? ⟨w.heap.size,1,none⟩=some (Str T)/\y.cell? ⟨w.heap.size,2,none⟩=some (.slice a1 n1 c1)/\y.cell? ⟨w.heap.size,3,none⟩=some (.slice a2 n2 c2)/\y.cell? ⟨w.heap.size,6,none⟩=some (.slice a4 n4 c4)/\y.cell? ⟨w.heap.size,7,none⟩=some (.int .i64 o.most)):=fun y hy=>by
  have h1:=Blk.grown HM.out.1 (grown_trans G2.out.1 hy) (by simp)
  have h2:=(H1.out.1.grown H2.out.2.1 (by simp)).grown hy (by simp)
  exact ⟨h1.cell 2,h2.cell 1,h2.cell 2,h2.cell 3,h2.cell 6,h2.cell 7⟩
 try rw [hob]
 try rw [hob2]
 clear hob hob2 hsz
 rcases hem with ⟨p,hl,htb,hin⟩ | ⟨hl,hrn,hin⟩
 ·have HL:Hid ((∀y,w.grownBy y none->(Instr.lookup 62 (.map (some m)) (Str T) false).run Tryz.prog y=.ok (.pointer (some ⟨p,0,none⟩)) y)/\Tbz X w p (rowsOf D T)/\T ∈ namesD D):=⟨hl,htb,hin⟩
  clear hl htb hin
  refine wp_region_noPanic ?_
  refine wp_region_hold 15 (fun y=>w2.grownBy y none) (by kernel_rfl) ?_
  have G0:Hid (w2.grownBy w2.drew none):=grown_drew _ _
  generalize w2.drew=wd at G0 ⊢
  have J:Idx [0,1,2,3,4,5,6,7,8,9,10,11,12]:=trivial
  iterate 13 (refine tK J (G0.out) rfl rfl (fun wk hk=>by obtain ⟨m0,m1,m2,m3,m6,m7⟩:=HC.out wk hk;have ml:=HL.out.1 wk (grown_trans G2.out.1 hk);go_simp;try rfl) ?_;replace J:=J.tl;try simp only [pN])
  clear J
  refine wpHold_one (i:=13) rfl (by kernel_rfl) (by rfl) (fun K hK=>?_)
  go_wp2_with (go_at_call 149;refine (scan24 _ true _ _ o.most (rowsOf D T) o.key o.to (good_any HG.out T) wd ((HL.out.2.1.grown (grown_trans G2.out.1 G0.out)).old.tl) (HO.out.1.key.grown (grown_trans G2.out.1 G0.out)) (HO.out.1.to.grown (grown_trans G2.out.1 G0.out))).mono ?_)
  rintro e w3 ⟨y,rfl,hy,g3⟩
  obtain ⟨ay,ny,cy,ey,_,_,_,_⟩:=rws_open hy.rws
  subst ey
  have H3:Hid (TRws w3 w.heap.size (.slice ay ny cy) (scanL (rowsOf D T) o.key o.to o.most)/\w2.grownBy w3 none):=⟨hy.mono (Nat.le_trans G2.out.1.size G0.out.size),grown_trans G0.out g3⟩
  clear hy g3
  go_wp2_with fail
  refine hK.out _ _ (fun _=>H3.out.2) ?_
  clear hK K
  try simp only [pN]
  refine tK (i:=14) (l':=[]) trivial (H3.out.2) rfl rfl (fun wk hk=>by obtain ⟨m0,m1,m2,m3,m6,m7⟩:=HC.out wk hk;have ml:=HL.out.1 wk (grown_trans G2.out.1 hk);go_simp;try rfl) ?_
  try simp only [pN]
  refine wpHold_one (i:=15) rfl (by kernel_rfl) (by rfl) (fun K hK=>?_)
  have hB:=G2.out.2.1.grown H3.out.2 (by simp)
  have HB:Hid (Blk w3 ob 72 #[.bool false,.slice none 0 0,.slice none 0 0]):=hB
  have f0:=hB.free 0
  have f1:=hB.free 1
  have f2:=hB.free 2
  have b0:=hB.cell 0
  have b1:=hB.cell 1
  have b2:=hB.cell 2
  simp at b0 b1 b2
  clear hB
  go_wp2_with fail
  refine hK.out _ _ (fun h=>absurd rfl h) ?_
  clear hK K
  try simp only [pN]
  refine wpHold_done (by kernel_rfl) ?_
  refine (‹∀(a:Act) (w:World),Code.wp Tryz.prog _ _ a w->_› _ _ ?_)
  go_wp2_with fail
  refine bodyPost_ret (v:=_) (results_cell_row rfl _ _ ob 72 _ (0,0) _ rfl (((HB.out.store 0 (.bool false)).store 1 (.slice none 0 0)).store 2 (.slice ay ny cy)) Tryz.underlying72 rfl (by kernel_rfl)) rfl ?_
  refine ⟨_,rfl,?_,?_⟩
  ·exact trws_set3 H3.out.1 HB.out (by decide) (by decide)
  ·exact grown_set3 (grown_trans G2.out.1 H3.out.2) (by have:=G2.out.2.2;omega)
 ·have HL:Hid ((∀y,w.grownBy y none->(Instr.lookup 62 (.map (some m)) (Str T) false).run Tryz.prog y=.ok (.pointer none) y)/\rowsOf D T=[]/\T ∉ namesD D):=⟨hl,hrn,hin⟩
  clear hl hrn hin
  refine wp_region_noPanic ?_
  refine wp_region_hold 15 (fun y=>w2.grownBy y none) (by kernel_rfl) ?_
  have G0:Hid (w2.grownBy w2.drew none):=grown_drew _ _
  generalize w2.drew=wd at G0 ⊢
  have J:Idx [0,1,2,3,4,5,6,7,8,9,10,11,12]:=trivial
  iterate 13 (refine tK J (G0.out) rfl rfl (fun wk hk=>by obtain ⟨m0,m1,m2,m3,m6,m7⟩:=HC.out wk hk;have ml:=HL.out.1 wk (grown_trans G2.out.1 hk);go_simp;try rfl) ?_;replace J:=J.tl;try simp only [pN])
  clear J
  refine wpHold_one (i:=13) rfl (by kernel_rfl) (by rfl) (fun K hK=>?_)
  go_wp2_with (go_at_call 149;refine (scan24 _ false _ _ o.most (rowsOf D T) o.key o.to (good_any HG.out T) wd (by rw [HL.out.2.1];exact NoTb.tl (.inl rfl)) (HO.out.1.key.grown (grown_trans G2.out.1 G0.out)) (HO.out.1.to.grown (grown_trans G2.out.1 G0.out))).mono ?_)
  rintro e w3 ⟨y,rfl,hy,g3⟩
  obtain ⟨ay,ny,cy,ey,_,_,_,_⟩:=rws_open hy.rws
  subst ey
  have H3:Hid (TRws w3 w.heap.size (.slice ay ny cy) (scanL (rowsOf D T) o.key o.to o.most)/\w2.grownBy w3 none):=⟨hy.mono (Nat.le_trans G2.out.1.size G0.out.size),grown_trans G0.out g3⟩
  clear hy g3
  go_wp2_with fail
  refine hK.out _ _ (fun _=>H3.out.2) ?_
  clear hK K
  try simp only [pN]
  refine tK (i:=14) (l':=[]) trivial (H3.out.2) rfl rfl (fun wk hk=>by obtain ⟨m0,m1,m2,m3,m6,m7⟩:=HC.out wk hk;have ml:=HL.out.1 wk (grown_trans G2.out.1 hk);go_simp;try rfl) ?_
  try simp only [pN]
  refine wpHold_one (i:=15) rfl (by kernel_rfl) (by rfl) (fun K hK=>?_)
  have hB:=G2.out.2.1.grown H3.out.2 (by simp)
  have HB:Hid (Blk w3 ob 72 #[.bool false,.slice none 0 0,.slice none 0 0]):=hB
  have f0:=hB.free 0
  have f1:=hB.free 1
  have f2:=hB.free 2
  have b0:=hB.cell 0
  have b1:=hB.cell 1
  have b2:=hB.cell 2
  simp at b0 b1 b2
  clear hB
  go_wp2_with fail
  refine hK.out _ _ (fun h=>absurd rfl h) ?_
  clear hK K
  try simp only [pN]
  refine wpHold_done (by kernel_rfl) ?_
  refine (‹∀(a:Act) (w:World),Code.wp Tryz.prog _ _ a w->_› _ _ ?_)
  go_wp2_with fail
  refine bodyPost_ret (v:=_) (results_cell_row rfl _ _ ob 72 _ (0,0) _ rfl (((HB.out.store 0 (.bool false)).store 1 (.slice none 0 0)).store 2 (.slice ay ny cy)) Tryz.underlying72 rfl (by kernel_rfl)) rfl ?_
  refine ⟨_,rfl,?_,?_⟩
  ·exact trws_set3 H3.out.1 HB.out (by decide) (by decide)
  ·exact grown_set3 (grown_trans G2.out.1 H3.out.2) (by have:=G2.out.2.2;omega)
theorem list35z {X:Nat->Prop}(b:Nat)(l:List PRow)(w:World)(h:Tbz X w b l):Calls Tryz.prog 71 #[.pointer (some ⟨b,0,none⟩)] w fun e w'=>∃f n,e=.returned (.slice f n n)/\n=l.length/\Rowz X w (.slice f n n) l/\w'=w:=by
 have HT:Hid (Tbz X w b l):=h
 obtain ⟨n,hn⟩:∃n,l.length=n:=⟨_,rfl⟩
 have HN:Hid (l.length=n):=hn
 have HQ:Hid (Calls Tryz.prog 50 #[.pointer (some ⟨b,0,none⟩)] w fun e w'=>e=.returned (.int .i64 (n:Int))/\w'=w):=by rw [<-hn];exact len23 b l w h.old
 clear h hn
 go_enter Tryz.func71,Tryz.ntmps71
 go_wp2_with (go_at_call 50;refine HQ.out.mono ?_;rintro e w1 ⟨rfl,hw⟩;rw [hw];clear hw)
 go_wp2_with (go_at_call 96;refine (first52z b n l w HT.out (by rw [HN.out];omega)).mono ?_)
 rintro e w1 ⟨f,rfl,hr,hw⟩
 rw [hw]
 have HR:Hid (Rowz X w (.slice f n n) l):=by
  rw [List.take_of_length_le (by rw [HN.out];omega)] at hr
  exact hr
 clear hw hr
 go_wp2_with fail
 go_ret
 exact ⟨f,n,rfl,HN.out.symm,HR.out,rfl⟩
theorem copy10z {X:Nat->Prop}(b:Nat)(l:List PRow)(w:World)(ht:Tbz X w b l) :
  Calls Tryz.prog 146 #[.pointer (some ⟨b,0,none⟩)] w fun e w'=>e=.returned (.pointer (some ⟨w.heap.size,0,none⟩))/\Tbz X w' w.heap.size l/\w.grownBy w' none:=by
 have HT:Hid (Tbz X w b l):=ht
 clear ht
 go_enter Tryz.func146,Tryz.ntmps146
 go_wp2_with (go_at_call 69;refine (there34g _ true l w HT.out.old.tl).mono ?_;rintro e w1 ⟨rfl,hw⟩;rw [hw];clear hw)
 refine (list35z b l w HT.out).mono ?_
 rintro e w1 ⟨f,n,rfl,hn,hr,hw⟩
 rw [hw]
 have HR:Hid (Rowz X w (.slice f n n) l):=hr
 clear hw hr hn
 go_wp2_with fail
 obtain ⟨w1,hw1,H1⟩:=al w #[.bool true,.slice f n n] 128
 rw [hw1]
 clear hw1
 go_wp2_with fail
 go_ret
 exact ⟨rfl,⟨_,H1.out.1,HR.out.grown H1.out.2.1⟩,H1.out.2.1⟩
def putD (D:DB)(t k v:Bs):DB:=standD D t (putL (rowsOf D t) k v)
def remD (D:DB)(t k:Bs):DB:=standD D t (delL (rowsOf D t) k)
theorem good_put {l:List PRow}(h:Table.Good l){k v:Bs}(ho:okP k v=true)(hl:l.length+1<=1000000):Table.Good (putL l k v):=by
 refine ⟨rise_put h.1 k v,fun r hr=>?_,by rw [put_len];omega⟩
 unfold putL at hr
 simp only [List.mem_append,List.mem_cons] at hr
 rcases hr with hr | rfl | hr
 ·exact h.2.1 r (List.mem_of_mem_take hr)
 ·exact ho
 ·exact h.2.1 r (List.mem_of_mem_drop hr)
theorem good_del {l:List PRow}(h:Table.Good l)(k:Bs):Table.Good (delL l k):=by
 refine ⟨rise_del h.1 k,fun r hr=>?_,by have:=h.2.2;rw [del_len];omega⟩
 unfold delL at hr
 simp only [List.mem_append] at hr
 rcases hr with hr | hr
 ·exact h.2.1 r (List.mem_of_mem_take hr)
 ·exact h.2.1 r (List.mem_of_mem_drop hr)
theorem rows_len (D:DB)(n:Bs)(h:(namesD D).Nodup):(rowsOf D n).length<=lenD D:=by
 by_cases hn:n ∈ namesD D
 ·obtain ⟨x,hx,rfl⟩:=List.mem_map.1 hn
  rw [rows_mem h hx]
  clear hn h
  induction D with
  | nil=>simp at hx
  | cons y D ih =>
   simp only [lenD,List.map_cons,List.sum_cons] at ih ⊢
   rcases List.mem_cons.1 hx with rfl | hx
   ·omega
   ·have:=ih hx
    omega
 ·rw [rows_none hn]
  simp
theorem good_putD {D:DB}(h:GoodD D){t k v:Bs}(ho:okP k v=true)(hf:lenD D<=100000):GoodD (putD D t k v):=by
 have h1:=rows_len D t h.rise.nodup
 refine h.stand t (good_put (good_any h t) ho (by omega)) ?_
 rw [put_len]
 omega
theorem good_remD {D:DB}(h:GoodD D){t k:Bs}(hf:lenD D<=100000):GoodD (remD D t k):=by
 have h1:=rows_len D t h.rise.nodup
 refine h.stand t (good_del (good_any h t) k) ?_
 rw [del_len]
 omega
theorem tn_set {w:World}{b t i:Nat}{c:Array Value}{v:Value}(hb:Blk w b t c)(h86:t≠86)(h5:t≠5)(h128:t≠128)(h123:∀(j:Nat) (p:Nat),c[j]?≠some (ptr p)){X:Nat->Prop}{p:Nat}{l:List PRow}(h:Tbz X w p l):Tbz X (w.setCell ⟨b,i,none⟩ v) p l:=by
 have hg:=grown_setCell w b i v
 obtain ⟨x,h1,ps,h2,h3⟩:=h
 refine ⟨x,h1.grown hg (fun e=>?_),ps,h2.off hg hb h86 h5,h3.cells fun g j u hu hx=>?_⟩
 ·simp at e
  subst e
  unfold Blk at h1 hb
  rw [h1] at hb
  simp at hb
  exact h128 hb.2.symm
 ·refine hg.cell hx ?_
  intro e
  simp at e
  subst e
  simp [PTR] at hu
  obtain ⟨p',_,rfl⟩:=hu
  rw [hb.cell] at hx
  exact h123 j p' hx
theorem em_setC {X:Nat->Prop}{w:World}{m b i:Nat}{D:DB}{c:Array Value}{v:Value}(h:EM X w m D)(hb:Blk w b 72 c)(hc:∀(j:Nat) (p:Nat),c[j]?≠some (ptr p)):EM X (w.setCell ⟨b,i,none⟩ v) m D:=by
 obtain ⟨E,h1,h2,h3⟩:=h
 exact ⟨E,h1.grown (grown_setCell w b i v) (by intro e;simp at e;subst e;exact Blk.notMap hb h1),h2,fun x hx=>tn_set hb (by decide) (by decide) (by decide) hc (h3 x hx)⟩
theorem em_set3 {X:Nat->Prop}{w:World}{m b:Nat}{D:DB}{z:Bool}(h:EM X w m D)(hb:Blk w b 72 #[.bool false,.slice none 0 0,.slice none 0 0]):EM X (((w.setCell ⟨b,0,none⟩ (.bool z)).setCell ⟨b,1,none⟩ (.slice none 0 0)).setCell ⟨b,2,none⟩ (.slice none 0 0)) m D:=by
 have key:∀(x:Bool) (j p:Nat),(#[Value.bool x,.slice none 0 0,.slice none 0 0]:Array Value)[j]?≠some (ptr p):=by
  intro x j p
  match j with
  | 0=>simp [ptr]
  | 1=>simp [ptr]
  | 2=>simp [ptr]
  | j+3=>simp
 have h1:=em_setC (i:=0) (v:=.bool z) h hb (key false)
 have b1:=hb.store 0 (.bool z)
 have h2:=em_setC (i:=1) (v:=.slice none 0 0) h1 b1 (key z)
 have b2:=b1.store 1 (.slice none 0 0)
 exact em_setC (i:=2) (v:=.slice none 0 0) h2 b2 (key z)
theorem grown_new3 {w w1:World}{B i j k:Nat}{u v x:Value}{r:Option Nat}(h:w.grownBy w1 r)(hB:w.heap.size<=B):w.grownBy (((w1.setCell ⟨B,i,none⟩ u).setCell ⟨B,j,none⟩ v).setCell ⟨B,k,none⟩ x) r :=
 grown_new (grown_new (grown_new h (grown_setCell _ _ _ _) (fun x hx=>by simp at hx;omega)) (grown_setCell _ _ _ _) (fun x hx=>by simp at hx;omega)) (grown_setCell _ _ _ _) (fun x hx=>by simp at hx;omega)
theorem remove121 {X:Nat->Prop}(b m:Nat)(q:Int × Int)(D:DB)(hD:GoodD D)(kv vv ol tv:Value)(o:POp)(hk:keyB o.key=true)(ht0:o.table.length<=1000000)(w:World)(hb:EngB w b q m)(hm:EM X w m D)(ho:OpSeg w kv vv ol tv o):Calls Tryz.prog 121 #[.pointer (some ⟨b,0,none⟩),opV kv vv ol tv o] w fun e w'=>e=.returned (.agg #[.bool (hasD D o.table o.key),.slice none 0 0,.slice none 0 0])/\EM X w' m (remD D o.table o.key)/\w.grownBy w' (some m):=by
 have HK0:Hid (keyB o.key=true):=hk
 clear hk
 obtain ⟨T,hT⟩:∃T,o.table=T:=⟨_,rfl⟩
 have HO:Hid (OpSeg w kv vv ol tv o/\o.table=T):=⟨ho,hT⟩
 obtain ⟨a1,n1,c1,a2,n2,c2,a3,n3,c3,a4,n4,c4,rfl,rfl,rfl,rfl⟩:=op_shape ho
 have HG:Hid (GoodD D):=hD
 have HM:Hid (EngB w b q m/\EM X w m D):=⟨hb,hm⟩
 unfold opV
 have HT0:Hid (o.table.length<=1000000):=ht0
 clear ht0
 rw [hT] at HT0 ⊢
 clear ho hT hD hb hm
 go_enter Tryz.func121,Tryz.ntmps121
 go_wp2_with fail
 obtain ⟨w1,hw1,H1⟩:=al w #[.int .i64 o.kind,Str T,.slice a1 n1 c1,.slice a2 n2 c2,.bool o.has,.slice a3 n3 c3,.slice a4 n4 c4,.int .i64 o.most] 67
 rw [hw1]
 clear hw1
 obtain ⟨w2,hw2,H2⟩:=al w1 #[.bool false,.slice none 0 0,.slice none 0 0] 72
 rw [hw2]
 clear hw2
 obtain ⟨ob,hob⟩:∃ob,w1.heap.size=ob:=⟨_,rfl⟩
 have hsz:w1.heap.size=w.heap.size+1:=H1.out.2.2
 have hob2:w.heap.size+1=ob:=by omega
 have G2:Hid (w.grownBy w2 none/\Blk w2 ob 72 #[.bool false,.slice none 0 0,.slice none 0 0]/\w.heap.size<ob):=⟨grown_trans H1.out.2.1 H2.out.2.1,by rw [<-hob];exact H2.out.1,by omega⟩
 have hem:=em_at HM.out.2 T
 have HC:Hid (∀y,w2.grownBy y none->y.cell? ⟨b,2,none⟩=some (.map (some m))/\y.cell? ⟨w.heap.size,1,none⟩=some (Str T)/\y.cell? ⟨w.heap.size,2,none⟩=some (.slice a1 n1 c1)/\y.cell? ⟨w.heap.size,3,none⟩=some (.slice a2 n2 c2)/\y.cell? ⟨w.heap.size,6,none⟩=some (.slice a4 n4 c4)/\y.cell? ⟨w.heap.size,7,none⟩=some (.int .i64 o.most)):=fun y hy=>by
  have h1:=Blk.grown HM.out.1 (grown_trans G2.out.1 hy) (by simp)
  have h2:=(H1.out.1.grown H2.out.2.1 (by simp)).grown hy (by simp)
  exact ⟨h1.cell 2,h2.cell 1,h2.cell 2,h2.cell 3,h2.cell 6,h2.cell 7⟩
 try rw [hob]
 try rw [hob2]
 clear hob hob2 hsz
 rcases hem with ⟨p,hl,htb,hin⟩ | ⟨hl,hrn,hin⟩
 ·have HL:Hid ((∀y,w.grownBy y none->(Instr.lookup 62 (.map (some m)) (Str T) false).run Tryz.prog y=.ok (.pointer (some ⟨p,0,none⟩)) y)/\Tbz X w p (rowsOf D T)/\T ∈ namesD D):=⟨hl,htb,hin⟩
  clear hl htb hin
  refine wp_region_noPanic ?_
  refine wp_region_hold 1000 (fun y=>w2.grownBy y none) (by kernel_rfl) ?_
  have G0:Hid (w2.grownBy w2.drew none):=grown_drew _ _
  generalize w2.drew=wd at G0 ⊢
  have J:Idx [0,1,2,3,4,5,6]:=trivial
  iterate 7 (refine tK J (G0.out) rfl rfl (fun wk hk=>by obtain ⟨m0,m1,m2,m3,m6,m7⟩:=HC.out wk hk;have ml:=HL.out.1 wk (grown_trans G2.out.1 hk);go_simp;try rfl) ?_;replace J:=J.tl;try simp only [pN])
  clear J
  refine wpHold_one (i:=7) rfl (by kernel_rfl) (by rfl) (fun K hK=>?_)
  go_wp2_with (go_at_call 146;refine (copy10z p (rowsOf D T) wd (HL.out.2.1.grown (grown_trans G2.out.1 G0.out))).mono ?_)
  rintro e w3 ⟨rfl,ht3,g3⟩
  obtain ⟨tb,htb⟩:∃tb,wd.heap.size=tb:=⟨_,rfl⟩
  have H3:Hid (Tbz X w3 tb (rowsOf D T)/\w2.grownBy w3 none/\w2.heap.size<=tb):=⟨by rw [<-htb];exact ht3,grown_trans G0.out g3,by rw [<-htb];exact G0.out.size⟩
  rw [htb]
  clear ht3 g3 htb
  go_wp2_with fail
  refine hK.out _ _ (fun _=>H3.out.2.1) ?_
  clear hK K
  try simp only [pN]
  refine tK (i:=8) (l':=[]) trivial (H3.out.2.1) rfl rfl (fun wk hk=>by obtain ⟨m0,m1,m2,m3,m6,m7⟩:=HC.out wk hk;have ml:=HL.out.1 wk (grown_trans G2.out.1 hk);go_simp;try rfl) ?_
  try simp only [pN]
  refine wpHold_done (by kernel_rfl) ?_
  refine (‹∀(a:Act) (w:World),Code.wp Tryz.prog _ _ a w->_› _ _ ?_)
  obtain ⟨_,z1,z2,z3,_,_⟩:=HC.out w3 H3.out.2.1
  go_wp2_with fail
  refine (delete19z (X:=X) tb _ (rowsOf D T) o.key (good_any HG.out T).1 (good_any HG.out T).2.2 w3 H3.out.1 (HO.out.1.key.grown (grown_trans G2.out.1 H3.out.2.1))).mono ?_
  rintro e w4 ⟨rfl,ht4,g4⟩
  have G4:Hid (w2.grownBy w4 none):=grown_new H3.out.2.1 g4 (fun x hx=>by simp at hx;have:=H3.out.2.2;omega)
  have hda:delA (rowsOf D T) o.key=delL (rowsOf D T) o.key:=by unfold delA;rw [HK0.out,if_pos rfl]
  rw [hda] at ht4
  have H4:Hid (Tbz X w4 tb (delL (rowsOf D T) o.key)/\delB (rowsOf D T) o.key=hasD D T o.key):=⟨ht4,rfl⟩
  clear hda
  rw [H4.out.2]
  clear ht4 g4 z1 z2 z3
  obtain ⟨_,z1,z2,z3,_,_⟩:=HC.out w4 G4.out
  go_wp2_with fail
  refine (stand48 b m q D HG.out.rise T HT0.out (.pointer (some ⟨tb,0,none⟩)) true (delL (rowsOf D T) o.key) w4 (Blk.grown HM.out.1 (grown_trans G2.out.1 G4.out) (by simp)) (HM.out.2.grown (grown_trans G2.out.1 G4.out)) H4.out.1.old.tl (fun _=>⟨tb,rfl,H4.out.1⟩)).mono ?_
  rintro e w5 ⟨rfl,hem5,g5⟩
  have hE5:EngB w5 b q m:=Blk.grown (Blk.grown HM.out.1 (grown_trans G2.out.1 G4.out) (by simp)) g5 (by intro e;simp at e;subst e;exact Blk.notMap HM.out.1 HM.out.2.choose_spec.1)
  have hB5:Blk w5 ob 72 #[.bool false,.slice none 0 0,.slice none 0 0]:=(G2.out.2.1.grown G4.out (by simp)).grown g5 (by intro e;simp at e;subst e;exact Blk.notMap G2.out.2.1 (HM.out.2.grown G2.out.1).choose_spec.1)
  have H5:Hid (EngB w5 b q m/\EM X w5 m (standD D T (delL (rowsOf D T) o.key))/\w.grownBy w5 (some m)/\Blk w5 ob 72 #[.bool false,.slice none 0 0,.slice none 0 0]):=⟨hE5,hem5,grown_trans (grown_weak (grown_trans G2.out.1 G4.out) _) g5,hB5⟩
  clear hE5 hem5 g5
  have f0:=hB5.free 0
  have f1:=hB5.free 1
  have f2:=hB5.free 2
  have b0:=hB5.cell 0
  have b1:=hB5.cell 1
  have b2:=hB5.cell 2
  simp at b0 b1 b2
  clear hB5
  go_wp2_with fail
  refine bodyPost_ret (v:=_) (results_cell_row rfl _ _ ob 72 _ (0,0) _ rfl (((H5.out.2.2.2.store 0 (.bool (hasD D T o.key))).store 1 (.slice none 0 0)).store 2 (.slice none 0 0)) Tryz.underlying72 rfl (by kernel_rfl)) rfl ?_
  refine ⟨rfl,?_,?_⟩
  ·exact em_set3 H5.out.2.1 H5.out.2.2.2
  ·exact grown_new3 H5.out.2.2.1 (by have:=G2.out.2.2;omega)
 ·have HL:Hid ((∀y,w.grownBy y none->(Instr.lookup 62 (.map (some m)) (Str T) false).run Tryz.prog y=.ok (.pointer none) y)/\rowsOf D T=[]/\T ∉ namesD D):=⟨hl,hrn,hin⟩
  clear hl hrn hin
  refine wp_region_noPanic ?_
  refine wp_region_hold 1000 (fun y=>w2.grownBy y none) (by kernel_rfl) ?_
  have G0:Hid (w2.grownBy w2.drew none):=grown_drew _ _
  generalize w2.drew=wd at G0 ⊢
  have J:Idx [0,1,2,3,4,5,6]:=trivial
  iterate 7 (refine tK J (G0.out) rfl rfl (fun wk hk=>by obtain ⟨m0,m1,m2,m3,m6,m7⟩:=HC.out wk hk;have ml:=HL.out.1 wk (grown_trans G2.out.1 hk);go_simp;try rfl) ?_;replace J:=J.tl;try simp only [pN])
  clear J
  refine wpHold_one (i:=7) rfl (by kernel_rfl) (by rfl) (fun K hK=>?_)
  go_wp2_with (go_at_call 146;refine (copy10_no _ [] wd (NoTb.tl (.inl rfl))).mono ?_;rintro e w3 ⟨rfl,hw⟩;rw [hw];clear hw)
  refine hK.out _ _ (fun _=>G0.out) ?_
  clear hK K
  try simp only [pN]
  refine tK (i:=8) (l':=[]) trivial (G0.out) rfl rfl (fun wk hk=>by obtain ⟨m0,m1,m2,m3,m6,m7⟩:=HC.out wk hk;have ml:=HL.out.1 wk (grown_trans G2.out.1 hk);go_simp;try rfl) ?_
  try simp only [pN]
  refine wpHold_done (by kernel_rfl) ?_
  refine (‹∀(a:Act) (w:World),Code.wp Tryz.prog _ _ a w->_› _ _ ?_)
  have G4:Hid (w2.grownBy wd none):=G0.out
  obtain ⟨_,z1,z2,z3,_,_⟩:=HC.out wd G0.out
  have HH:Hid (false=hasD D T o.key/\delL (rowsOf D T) o.key=[]):=⟨by unfold hasD;rw [HL.out.2.1,has_nil,Bool.and_false],by rw [HL.out.2.1];unfold delL;simp⟩
  go_wp2_with (go_at_call 148;refine (delete19_no _ ⟨_,_,_,rfl⟩ wd).mono ?_;rintro e w3 ⟨rfl,hw⟩;rw [hw];clear hw)
  refine (stand48 b m q D HG.out.rise T HT0.out (.pointer none) false [] wd (Blk.grown HM.out.1 (grown_trans G2.out.1 G4.out) (by simp)) (HM.out.2.grown (grown_trans G2.out.1 G4.out)) (NoTb.tl (.inl rfl)) (fun h=>absurd rfl h)).mono ?_
  rw [<-HH.out.2]
  rintro e w5 ⟨rfl,hem5,g5⟩
  generalize wd=w4 at G4 g5 ⊢
  rw [HH.out.1]
  have hE5:EngB w5 b q m:=Blk.grown (Blk.grown HM.out.1 (grown_trans G2.out.1 G4.out) (by simp)) g5 (by intro e;simp at e;subst e;exact Blk.notMap HM.out.1 HM.out.2.choose_spec.1)
  have hB5:Blk w5 ob 72 #[.bool false,.slice none 0 0,.slice none 0 0]:=(G2.out.2.1.grown G4.out (by simp)).grown g5 (by intro e;simp at e;subst e;exact Blk.notMap G2.out.2.1 (HM.out.2.grown G2.out.1).choose_spec.1)
  have H5:Hid (EngB w5 b q m/\EM X w5 m (standD D T (delL (rowsOf D T) o.key))/\w.grownBy w5 (some m)/\Blk w5 ob 72 #[.bool false,.slice none 0 0,.slice none 0 0]):=⟨hE5,hem5,grown_trans (grown_weak (grown_trans G2.out.1 G4.out) _) g5,hB5⟩
  clear hE5 hem5 g5
  have f0:=hB5.free 0
  have f1:=hB5.free 1
  have f2:=hB5.free 2
  have b0:=hB5.cell 0
  have b1:=hB5.cell 1
  have b2:=hB5.cell 2
  simp at b0 b1 b2
  clear hB5
  go_wp2_with fail
  refine bodyPost_ret (v:=_) (results_cell_row rfl _ _ ob 72 _ (0,0) _ rfl (((H5.out.2.2.2.store 0 (.bool (hasD D T o.key))).store 1 (.slice none 0 0)).store 2 (.slice none 0 0)) Tryz.underlying72 rfl (by kernel_rfl)) rfl ?_
  refine ⟨rfl,?_,?_⟩
  ·exact em_set3 H5.out.2.1 H5.out.2.2.2
  ·exact grown_new3 H5.out.2.2.1 (by have:=G2.out.2.2;omega)
def PutE (X:Nat->Prop)(q:Int × Int)(D:DB)(t k v:Bs)(m:Nat)(w:World)(e:Ending)(w':World):Prop :=
 w.grownBy w' (some m)/\((aboveD q (putD D t k v)=0/\e=.returned (.agg #[.bool (hasD D t k),.slice none 0 0,.slice none 0 0])/\EM X w' m (putD D t k v))\/(aboveD q (putD D t k v)≠0/\e=PanA (aboveD q (putD D t k v))))
theorem good_nilT:Table.Good []:=⟨fun i j hi=>absurd hi (by simp),by simp,by simp⟩
theorem put120 {X:Nat->Prop}(b m:Nat)(q:Int × Int)(D:DB)(hD:GoodD D)(hf:lenD D<=100000)(kv vv ol tv:Value)(o:POp)(hk:okP o.key o.value=true)(ht0:o.table.length<=1000000)(w:World)(hX:∀g,X g->g<w.heap.size)(hb:EngB w b q m)(hm:EM X w m D)(ho:OpSeg w kv vv ol tv o):Calls Tryz.prog 120 #[.pointer (some ⟨b,0,none⟩),opV kv vv ol tv o] w (PutE X q D o.table o.key o.value m w):=by
 have HK0:Hid (okP o.key o.value=true/\(∀g,X g->g<w.heap.size)/\lenD D<=100000):=⟨hk,hX,hf⟩
 clear hk hX hf
 obtain ⟨T,hT⟩:∃T,o.table=T:=⟨_,rfl⟩
 have HO:Hid (OpSeg w kv vv ol tv o/\o.table=T):=⟨ho,hT⟩
 obtain ⟨a1,n1,c1,a2,n2,c2,a3,n3,c3,a4,n4,c4,rfl,rfl,rfl,rfl⟩:=op_shape ho
 have HG:Hid (GoodD D):=hD
 have HM:Hid (EngB w b q m/\EM X w m D):=⟨hb,hm⟩
 unfold opV
 have HT0:Hid (o.table.length<=1000000):=ht0
 clear ht0
 rw [hT] at HT0 ⊢
 clear ho hT hD hb hm
 go_enter Tryz.func120,Tryz.ntmps120
 go_wp2_with fail
 obtain ⟨w1,hw1,H1⟩:=al w #[.int .i64 o.kind,Str T,.slice a1 n1 c1,.slice a2 n2 c2,.bool o.has,.slice a3 n3 c3,.slice a4 n4 c4,.int .i64 o.most] 67
 rw [hw1]
 clear hw1
 obtain ⟨w2,hw2,H2⟩:=al w1 #[.bool false,.slice none 0 0,.slice none 0 0] 72
 rw [hw2]
 clear hw2
 obtain ⟨ob,hob⟩:∃ob,w1.heap.size=ob:=⟨_,rfl⟩
 have hsz:w1.heap.size=w.heap.size+1:=H1.out.2.2
 have hob2:w.heap.size+1=ob:=by omega
 have G2:Hid (w.grownBy w2 none/\Blk w2 ob 72 #[.bool false,.slice none 0 0,.slice none 0 0]/\w.heap.size<ob):=⟨grown_trans H1.out.2.1 H2.out.2.1,by rw [<-hob];exact H2.out.1,by omega⟩
 have hem:=em_at HM.out.2 T
 have HC:Hid (∀y,w2.grownBy y none->y.cell? ⟨b,2,none⟩=some (.map (some m))/\y.cell? ⟨w.heap.size,1,none⟩=some (Str T)/\y.cell? ⟨w.heap.size,2,none⟩=some (.slice a1 n1 c1)/\y.cell? ⟨w.heap.size,3,none⟩=some (.slice a2 n2 c2)/\y.cell? ⟨w.heap.size,6,none⟩=some (.slice a4 n4 c4)/\y.cell? ⟨w.heap.size,7,none⟩=some (.int .i64 o.most)):=fun y hy=>by
  have h1:=Blk.grown HM.out.1 (grown_trans G2.out.1 hy) (by simp)
  have h2:=(H1.out.1.grown H2.out.2.1 (by simp)).grown hy (by simp)
  exact ⟨h1.cell 2,h2.cell 1,h2.cell 2,h2.cell 3,h2.cell 6,h2.cell 7⟩
 try rw [hob]
 try rw [hob2]
 clear hob hob2 hsz
 rcases hem with ⟨p,hl,htb,hin⟩ | ⟨hl,hrn,hin⟩
 ·have HL:Hid ((∀y,w.grownBy y none->(Instr.lookup 62 (.map (some m)) (Str T) false).run Tryz.prog y=.ok (.pointer (some ⟨p,0,none⟩)) y)/\Tbz X w p (rowsOf D T)/\T ∈ namesD D):=⟨hl,htb,hin⟩
  clear hl htb hin
  refine wp_region_noPanic ?_
  refine wp_region_hold 1000 (fun y=>w2.grownBy y none) (by kernel_rfl) ?_
  have G0:Hid (w2.grownBy w2.drew none):=grown_drew _ _
  generalize w2.drew=wd at G0 ⊢
  have J:Idx [0,1,2,3,4,5,6]:=trivial
  iterate 7 (refine tK J (G0.out) rfl rfl (fun wk hk=>by obtain ⟨m0,m1,m2,m3,m6,m7⟩:=HC.out wk hk;have ml:=HL.out.1 wk (grown_trans G2.out.1 hk);go_simp;try rfl) ?_;replace J:=J.tl;try simp only [pN])
  clear J
  refine wpHold_one (i:=7) rfl (by kernel_rfl) (by rfl) (fun K hK=>?_)
  go_wp2_with (go_at_call 146;refine (copy10z p (rowsOf D T) wd (HL.out.2.1.grown (grown_trans G2.out.1 G0.out))).mono ?_)
  rintro e w3 ⟨rfl,ht3,g3⟩
  obtain ⟨tb,htb⟩:∃tb,wd.heap.size=tb:=⟨_,rfl⟩
  have H3:Hid (Tbz X w3 tb (rowsOf D T)/\w2.grownBy w3 none/\w2.heap.size<=tb):=⟨by rw [<-htb];exact ht3,grown_trans G0.out g3,by rw [<-htb];exact G0.out.size⟩
  rw [htb]
  clear ht3 g3 htb
  go_wp2_with fail
  refine hK.out _ _ (fun _=>H3.out.2.1) ?_
  clear hK K
  try simp only [pN]
  refine tK (i:=8) (l':=[]) trivial (H3.out.2.1) rfl rfl (fun wk hk=>by obtain ⟨m0,m1,m2,m3,m6,m7⟩:=HC.out wk hk;have ml:=HL.out.1 wk (grown_trans G2.out.1 hk);go_simp;try rfl) ?_
  try simp only [pN]
  refine wpHold_done (by kernel_rfl) ?_
  refine (‹∀(a:Act) (w:World),Code.wp Tryz.prog _ _ a w->_› _ _ ?_)
  obtain ⟨_,z1,z2,z3,_,_⟩:=HC.out w3 H3.out.2.1
  go_wp2_with fail
  refine (put17z (X:=X) tb _ _ (rowsOf D T) o.key o.value (good_any HG.out T).1 (good_any HG.out T).2.2 w3 (fun g hg=>by have:=HK0.out.2.1 g hg;have:=(grown_trans G2.out.1 H3.out.2.1).size;omega) H3.out.1 (HO.out.1.key.grown (grown_trans G2.out.1 H3.out.2.1)) (HO.out.1.value.grown (grown_trans G2.out.1 H3.out.2.1))).mono ?_
  rintro e w4 ⟨rfl,ht4,g4⟩
  have G4:Hid (w2.grownBy w4 none):=grown_new H3.out.2.1 g4 (fun x hx=>by simp at hx;have:=H3.out.2.2;omega)
  have hpa:putA (rowsOf D T) o.key o.value=putL (rowsOf D T) o.key o.value:=by unfold putA;rw [HK0.out.1,if_pos rfl]
  rw [hpa] at ht4
  have hkb:keyB o.key=true:=by have:=HK0.out.1;unfold okP at this;simp at this;exact this.1
  have H4:Hid (Tbz X w4 tb (putL (rowsOf D T) o.key o.value)/\putB (rowsOf D T) o.key o.value=hasD D T o.key):=⟨ht4,by unfold putB hasD;rw [HK0.out.1,hkb]⟩
  rw [H4.out.2]
  clear ht4 g4 z1 z2 z3 hpa hkb
  obtain ⟨_,z1,z2,z3,_,_⟩:=HC.out w4 G4.out
  go_wp2_with fail
  refine (stand48 b m q D HG.out.rise T HT0.out (.pointer (some ⟨tb,0,none⟩)) true (putL (rowsOf D T) o.key o.value) w4 (Blk.grown HM.out.1 (grown_trans G2.out.1 G4.out) (by simp)) (HM.out.2.grown (grown_trans G2.out.1 G4.out)) H4.out.1.old.tl (fun _=>⟨tb,rfl,H4.out.1⟩)).mono ?_
  rintro e w5 ⟨rfl,hem5,g5⟩
  have hE5:EngB w5 b q m:=Blk.grown (Blk.grown HM.out.1 (grown_trans G2.out.1 G4.out) (by simp)) g5 (by intro e;simp at e;subst e;exact Blk.notMap HM.out.1 HM.out.2.choose_spec.1)
  have hB5:Blk w5 ob 72 #[.bool false,.slice none 0 0,.slice none 0 0]:=(G2.out.2.1.grown G4.out (by simp)).grown g5 (by intro e;simp at e;subst e;exact Blk.notMap G2.out.2.1 (HM.out.2.grown G2.out.1).choose_spec.1)
  have H5:Hid (EngB w5 b q m/\EM X w5 m (putD D T o.key o.value)/\w.grownBy w5 (some m)/\Blk w5 ob 72 #[.bool false,.slice none 0 0,.slice none 0 0]):=⟨hE5,hem5,grown_trans (grown_weak (grown_trans G2.out.1 G4.out) _) g5,hB5⟩
  clear hE5 hem5 g5
  clear hB5
  obtain ⟨A,hA⟩:∃A,aboveD q (putD D T o.key o.value)=A:=⟨_,rfl⟩
  have HA:Hid (Calls Tryz.prog 49 #[.pointer (some ⟨b,0,none⟩)] w5 fun e w'=>e=.returned (.int .i64 A)/\w5.grownBy w' none):=by rw [<-hA];exact above49 b q _ (good_putD HG.out HK0.out.1 HK0.out.2.2) w5 ⟨m,H5.out.1,H5.out.2.1⟩
  have HA0:Hid (aboveD q (putD D T o.key o.value)=A):=hA
  clear hA
  by_cases hz:A=0
  ·subst hz
   go_wp2_with fail
   refine HA.out.mono ?_
   rintro e w6 ⟨rfl,g6⟩
   have hB6:=H5.out.2.2.2.grown g6 (by simp)
   have H6:Hid (EM X w6 m (putD D T o.key o.value)/\w.grownBy w6 (some m)/\Blk w6 ob 72 #[.bool false,.slice none 0 0,.slice none 0 0]):=⟨H5.out.2.1.grown g6,grown_trans H5.out.2.2.1 (grown_weak g6 _),hB6⟩
   have f0:=hB6.free 0
   have f1:=hB6.free 1
   have f2:=hB6.free 2
   have b0:=hB6.cell 0
   have b1:=hB6.cell 1
   have b2:=hB6.cell 2
   simp at b0 b1 b2
   clear hB6 g6
   go_wp2_with (go_at_call 118;refine (sure118 0 w6).mono ?_;rintro e w7 ⟨rfl,hw⟩;rw [hw];clear hw)
   refine bodyPost_ret (v:=_) (results_cell_row rfl _ _ ob 72 _ (0,0) _ rfl (((H6.out.2.2.store 0 (.bool (hasD D T o.key))).store 1 (.slice none 0 0)).store 2 (.slice none 0 0)) Tryz.underlying72 rfl (by kernel_rfl)) rfl ?_
   exact ⟨grown_new3 H6.out.2.1 (by have:=G2.out.2.2;omega),.inl ⟨HA0.out,rfl,em_set3 H6.out.1 H6.out.2.2⟩⟩
  ·have HZ:Hid (A≠0):=hz
   have a0:(A==0)=false:=by simpa using hz
   have a1:(A=0)=False:=by simpa using hz
   clear hz
   go_wp2_with fail
   refine HA.out.mono ?_
   rintro e w6 ⟨rfl,g6⟩
   have H6:Hid (w.grownBy w6 (some m)):=grown_trans H5.out.2.2.1 (grown_weak g6 _)
   clear g6
   go_wp2_with (go_at_call 118;refine (sure118_no A w6).mono ?_;unfold PanA;rintro e w7 ⟨rfl,hw⟩;rw [hw];clear hw)
   refine ⟨rfl,H6.out,.inr ⟨by rw [HA0.out];exact HZ.out,by rw [HA0.out];rfl⟩⟩
 ·have HL:Hid ((∀y,w.grownBy y none->(Instr.lookup 62 (.map (some m)) (Str T) false).run Tryz.prog y=.ok (.pointer none) y)/\rowsOf D T=[]/\T ∉ namesD D):=⟨hl,hrn,hin⟩
  clear hl hrn hin
  refine wp_region_noPanic ?_
  refine wp_region_hold 1000 (fun y=>w2.grownBy y none) (by kernel_rfl) ?_
  have G0:Hid (w2.grownBy w2.drew none):=grown_drew _ _
  generalize w2.drew=wd at G0 ⊢
  have J:Idx [0,1,2,3,4,5,6]:=trivial
  iterate 7 (refine tK J (G0.out) rfl rfl (fun wk hk=>by obtain ⟨m0,m1,m2,m3,m6,m7⟩:=HC.out wk hk;have ml:=HL.out.1 wk (grown_trans G2.out.1 hk);go_simp;try rfl) ?_;replace J:=J.tl;try simp only [pN])
  clear J
  refine wpHold_one (i:=7) rfl (by kernel_rfl) (by rfl) (fun K hK=>?_)
  go_wp2_with (go_at_call 146;refine (copy10_no _ [] wd (NoTb.tl (.inl rfl))).mono ?_;rintro e w3 ⟨rfl,hw⟩;rw [hw];clear hw)
  refine hK.out _ _ (fun _=>G0.out) ?_
  clear hK K
  try simp only [pN]
  refine tK (i:=8) (l':=[]) trivial (G0.out) rfl rfl (fun wk hk=>by obtain ⟨m0,m1,m2,m3,m6,m7⟩:=HC.out wk hk;have ml:=HL.out.1 wk (grown_trans G2.out.1 hk);go_simp;try rfl) ?_
  try simp only [pN]
  refine wpHold_done (by kernel_rfl) ?_
  refine (‹∀(a:Act) (w:World),Code.wp Tryz.prog _ _ a w->_› _ _ ?_)
  go_wp2_with fail
  refine (new22z (X:=X) _ [] (by simp) wd (fun g hg=>by have:=HK0.out.2.1 g hg;have:=(grown_trans G2.out.1 G0.out).size;omega) (rws_nil wd)).mono ?_
  rintro e w3 (⟨_,tb,rfl,htb,ht3,g3⟩ | ⟨hbad,_,_⟩)
  case inr=>exact absurd good_nilT hbad
  have H3:Hid (Tbz X w3 tb (rowsOf D T)/\w2.grownBy w3 none/\w2.heap.size<=tb):=⟨by rw [HL.out.2.1];exact ht3,grown_trans G0.out g3,Nat.le_trans G0.out.size htb⟩
  clear ht3 g3 htb
  obtain ⟨_,z1,z2,z3,_,_⟩:=HC.out w3 H3.out.2.1
  go_wp2_with fail
  refine (put17z (X:=X) tb _ _ (rowsOf D T) o.key o.value (good_any HG.out T).1 (good_any HG.out T).2.2 w3 (fun g hg=>by have:=HK0.out.2.1 g hg;have:=(grown_trans G2.out.1 H3.out.2.1).size;omega) H3.out.1 (HO.out.1.key.grown (grown_trans G2.out.1 H3.out.2.1)) (HO.out.1.value.grown (grown_trans G2.out.1 H3.out.2.1))).mono ?_
  rintro e w4 ⟨rfl,ht4,g4⟩
  have G4:Hid (w2.grownBy w4 none):=grown_new H3.out.2.1 g4 (fun x hx=>by simp at hx;have:=H3.out.2.2;omega)
  have hpa:putA (rowsOf D T) o.key o.value=putL (rowsOf D T) o.key o.value:=by unfold putA;rw [HK0.out.1,if_pos rfl]
  rw [hpa] at ht4
  have hkb:keyB o.key=true:=by have:=HK0.out.1;unfold okP at this;simp at this;exact this.1
  have H4:Hid (Tbz X w4 tb (putL (rowsOf D T) o.key o.value)/\putB (rowsOf D T) o.key o.value=hasD D T o.key):=⟨ht4,by unfold putB hasD;rw [HK0.out.1,hkb]⟩
  rw [H4.out.2]
  clear ht4 g4 z1 z2 z3 hpa hkb
  obtain ⟨_,z1,z2,z3,_,_⟩:=HC.out w4 G4.out
  go_wp2_with fail
  refine (stand48 b m q D HG.out.rise T HT0.out (.pointer (some ⟨tb,0,none⟩)) true (putL (rowsOf D T) o.key o.value) w4 (Blk.grown HM.out.1 (grown_trans G2.out.1 G4.out) (by simp)) (HM.out.2.grown (grown_trans G2.out.1 G4.out)) H4.out.1.old.tl (fun _=>⟨tb,rfl,H4.out.1⟩)).mono ?_
  rintro e w5 ⟨rfl,hem5,g5⟩
  have hE5:EngB w5 b q m:=Blk.grown (Blk.grown HM.out.1 (grown_trans G2.out.1 G4.out) (by simp)) g5 (by intro e;simp at e;subst e;exact Blk.notMap HM.out.1 HM.out.2.choose_spec.1)
  have hB5:Blk w5 ob 72 #[.bool false,.slice none 0 0,.slice none 0 0]:=(G2.out.2.1.grown G4.out (by simp)).grown g5 (by intro e;simp at e;subst e;exact Blk.notMap G2.out.2.1 (HM.out.2.grown G2.out.1).choose_spec.1)
  have H5:Hid (EngB w5 b q m/\EM X w5 m (putD D T o.key o.value)/\w.grownBy w5 (some m)/\Blk w5 ob 72 #[.bool false,.slice none 0 0,.slice none 0 0]):=⟨hE5,hem5,grown_trans (grown_weak (grown_trans G2.out.1 G4.out) _) g5,hB5⟩
  clear hE5 hem5 g5
  clear hB5
  obtain ⟨A,hA⟩:∃A,aboveD q (putD D T o.key o.value)=A:=⟨_,rfl⟩
  have HA:Hid (Calls Tryz.prog 49 #[.pointer (some ⟨b,0,none⟩)] w5 fun e w'=>e=.returned (.int .i64 A)/\w5.grownBy w' none):=by rw [<-hA];exact above49 b q _ (good_putD HG.out HK0.out.1 HK0.out.2.2) w5 ⟨m,H5.out.1,H5.out.2.1⟩
  have HA0:Hid (aboveD q (putD D T o.key o.value)=A):=hA
  clear hA
  by_cases hz:A=0
  ·subst hz
   go_wp2_with fail
   refine HA.out.mono ?_
   rintro e w6 ⟨rfl,g6⟩
   have hB6:=H5.out.2.2.2.grown g6 (by simp)
   have H6:Hid (EM X w6 m (putD D T o.key o.value)/\w.grownBy w6 (some m)/\Blk w6 ob 72 #[.bool false,.slice none 0 0,.slice none 0 0]):=⟨H5.out.2.1.grown g6,grown_trans H5.out.2.2.1 (grown_weak g6 _),hB6⟩
   have f0:=hB6.free 0
   have f1:=hB6.free 1
   have f2:=hB6.free 2
   have b0:=hB6.cell 0
   have b1:=hB6.cell 1
   have b2:=hB6.cell 2
   simp at b0 b1 b2
   clear hB6 g6
   go_wp2_with (go_at_call 118;refine (sure118 0 w6).mono ?_;rintro e w7 ⟨rfl,hw⟩;rw [hw];clear hw)
   refine bodyPost_ret (v:=_) (results_cell_row rfl _ _ ob 72 _ (0,0) _ rfl (((H6.out.2.2.store 0 (.bool (hasD D T o.key))).store 1 (.slice none 0 0)).store 2 (.slice none 0 0)) Tryz.underlying72 rfl (by kernel_rfl)) rfl ?_
   exact ⟨grown_new3 H6.out.2.1 (by have:=G2.out.2.2;omega),.inl ⟨HA0.out,rfl,em_set3 H6.out.1 H6.out.2.2⟩⟩
  ·have HZ:Hid (A≠0):=hz
   have a0:(A==0)=false:=by simpa using hz
   have a1:(A=0)=False:=by simpa using hz
   clear hz
   go_wp2_with fail
   refine HA.out.mono ?_
   rintro e w6 ⟨rfl,g6⟩
   have H6:Hid (w.grownBy w6 (some m)):=grown_trans H5.out.2.2.1 (grown_weak g6 _)
   clear g6
   go_wp2_with (go_at_call 118;refine (sure118_no A w6).mono ?_;unfold PanA;rintro e w7 ⟨rfl,hw⟩;rw [hw];clear hw)
   refine ⟨rfl,H6.out,.inr ⟨by rw [HA0.out];exact HZ.out,by rw [HA0.out];rfl⟩⟩
end Go.Proofs.YtakmlhhapegpoaaGreat
