import Derived.Test.YtanoabliahcbeaaGreatMhsAll
import Derived.Test.YtanoabliahcbeaaGreatCrbAll
set_option maxHeartbeats 4000000
set_option maxRecDepth 100000
namespace Go.Proofs.YtanoabliahcbeaaGreat
open Go.RowKit Disk
open _root_.Go.Proofs.YtanoabliahcbeaaGreat.Calls _root_.Go.Proofs.YtanoabliahcbeaaGreat.Command
def NumR (b:Nat)(L:Bs)(w:World)(e:Ending)(w':World):Prop :=
 (pNum 9223372036854775807 L=none/\e=.returned (.tuple #[.int .i64 0,.int .i64 4])/\w.grownBy w' (some b)) ∨
 (∃n M,pNum 9223372036854775807 L=some (n,M)/\e=.returned (.tuple #[.int .i64 ((n:Nat):Int),.int .i64 0])/\RR w' b M/\w.grownBy w' (some b))
theorem number62 (b:Nat)(lo:Option Addr)(ln lc:Nat)(L:Bs)(w:World)(hr:RR w b L):Calls Tryz.prog 190 #[.agg #[.pointer (some ⟨b,0,none⟩),.slice lo ln lc]] w (NumR b L w):=by
 obtain ⟨W,hW,HW⟩:=al1' w #[.pointer (some ⟨b,0,none⟩),.slice lo ln lc] 259
 have hr1:=hr.grown HW.out.2.1
 obtain ⟨g,hg,hk⟩:=rr_of hr1
 have HG:Hid (Wire.RdG W b g L):=hg
 have HK:Hid _:=hk
 clear hr hr1 hg hk
 have c0:=HW.out.1.cell 0
 simp at c0
 cases hs:Wire.scan 0 0 L with
 | none =>
  have HS:Hid (Wire.rdNum L=(0,4,L)/\pNum 9223372036854775807 L=none):=⟨Wire.rdNum_none hs,by simp [pNum,hs]⟩
  clear hs
  go_enter Tryz.func190,Tryz.ntmps190
  go_upto_region 1 with fail
  try rw [hW]
  clear hW
  go_wp2_with fail
  refine (Wire.number25_g b g L W HG.out).mono ?_
  rw [HS.out.1]
  rintro e w1 ⟨rfl,h1,h2⟩
  have F:Hid (w.grownBy w1 (some b)):=grown_trans (grown_weak HW.out.2.1 _) h2
  clear h1 h2
  go_wp2_with fail
  go_ret2
  exact .inl ⟨HS.out.2,rfl,F.out⟩
 | some nk =>
  obtain ⟨n,k⟩:=nk
  have hn64:=(Wire.scan_bound L 0 0 (by omega) (by simp) n k hs).1
  by_cases hn:n<=9223372036854775807
  ·have HS:Hid (Wire.rdNum L=(n,0,L.drop k)/\pNum 9223372036854775807 L=some (n,L.drop k)):=⟨Wire.rdNum_some hs,by simp [pNum,hs,hn]⟩
   clear hs
   have j1:((n:Int) > 9223372036854775807)=False:=eq_false (by omega)
   have j2:((9223372036854775807:Int)<(n:Int))=False:=eq_false (by omega)
   have wi:IntKind.i64.wrap (n:Int)=(n:Int):=by rw [IntKind.wrap_i64];omega
   go_enter Tryz.func190,Tryz.ntmps190
   go_upto_region 1 with fail
   try rw [hW]
   clear hW
   go_wp2_with fail
   refine (Wire.number25_g b g L W HG.out).mono ?_
   rw [HS.out.1]
   rintro e w1 ⟨rfl,h1,h2⟩
   have F:Hid (RR w1 b (L.drop k)/\w.grownBy w1 (some b)):=⟨HK.out w1 _ h1 h2 (fun h=>by rw [h];simp),grown_trans (grown_weak HW.out.2.1 _) h2⟩
   clear h1 h2
   go_wp2_with fail
   go_ret2
   exact .inr ⟨n,_,HS.out.2,rfl,F.out.1,F.out.2⟩
  ·have HS:Hid (Wire.rdNum L=(n,0,L.drop k)/\pNum 9223372036854775807 L=none):=⟨Wire.rdNum_some hs,by simp [pNum,hs,hn]⟩
   clear hs
   have j1:((n:Int) > 9223372036854775807)=True:=eq_true (by omega)
   have j2:((9223372036854775807:Int)<(n:Int))=True:=eq_true (by omega)
   have j3:(9223372036854775807<n)=True:=eq_true (by omega)
   go_enter Tryz.func190,Tryz.ntmps190
   go_upto_region 1 with fail
   try rw [hW]
   clear hW
   go_wp2_with fail
   refine (Wire.number25_g b g L W HG.out).mono ?_
   rw [HS.out.1]
   rintro e w1 ⟨rfl,h1,h2⟩
   have F:Hid (w.grownBy w1 (some b)):=grown_trans (grown_weak HW.out.2.1 _) h2
   clear h1 h2
   go_wp2_with fail
   go_ret2
   exact .inl ⟨HS.out.2,rfl,F.out⟩
theorem mb_rr {w w':World}{b x:Nat}{ov av:Value}{m:PMsg}(h:MB w x ov av m){L:Bs}(hr:RR w b L)(hg:w.grownBy w' (some b)):MB w' x ov av m:=h.but hg (fun e=>(hr.ne h (by decide)) e.symm)
def FillP (x b:Nat)(ov av:Value)(m:PMsg)(L:Bs)(w:World)(e:Ending)(w':World):Prop :=
 (readNums (fld m) m L=none/\e=.returned (.int .i64 4)/\Fr w w' (RF x b)) ∨
 (∃r M,readNums (fld m) m L=some (r,M)/\e=.returned (.int .i64 0)/\MB w' x ov av r/\RR w' b M/\Fr w w' (RF x b))
theorem fill61 (x b:Nat)(lo:Option Addr)(ln lc:Nat)(ao:Option Addr)(n ca:Nat)(bo:Option Addr)(p cb:Nat)(m:PMsg)(L:Bs)(w:World)(hm:MB w x (.slice ao n ca) (.slice bo p cb) m)(hr:RR w b L):Calls Tryz.prog 189 #[.pointer (some ⟨x,0,none⟩),.func (.func 190) #[.agg #[.pointer (some ⟨b,0,none⟩),.slice lo ln lc]] #[]] w (FillP x b (.slice ao n ca) (.slice bo p cb) m L w):=by
 have H0:Hid (MB w x (.slice ao n ca) (.slice bo p cb) m/\RR w b L/\x<w.heap.size/\b<w.heap.size):=⟨hm,hr,hm.lt,by obtain ⟨s,hs⟩:=hr.blk;exact hs.lt⟩
 clear hm hr
 go_enter Tryz.func189,Tryz.ntmps189
 go_wp2_with fail
 refine (numbers26 x (.slice ao n ca) (.slice bo p cb) m w H0.out.1).mono ?_
 rintro e w1 ⟨v1,rfl,f1,g1⟩
 obtain ⟨l,hl⟩:∃l,fld m=l:=⟨_,rfl⟩
 obtain ⟨nf,hnf⟩:∃x,l.length=x:=⟨_,rfl⟩
 have nf3:nf<=3:=by rw [<-hnf,<-hl];exact fld_len m
 have HL:Hid (fld m=l/\l.length=nf):=⟨hl,hnf⟩
 have H1:Hid (MB w1 x (.slice ao n ca) (.slice bo p cb) m/\RR w1 b L/\Fr w w1 (RF x b)/\Flds w1 w.heap.size x v1 l):=⟨H0.out.1.grown g1,H0.out.2.1.grown g1,fr_n g1,by rw [<-hl];exact f1⟩
 obtain ⟨a1,rfl⟩:∃a1,v1=.slice a1 nf nf:=by obtain ⟨x,hx⟩:=H1.out.2.2.2.shape;rw [hnf] at hx;exact ⟨x,hx⟩
 clear f1 g1 hl hnf
 go_wp2_with fail
 go_loopw [12] (fun i wr=>∃(k:Nat) (r:PMsg) (M:Bs),k<=nf/\i=.int .i64 k/\Hid (MB wr x (.slice ao n ca) (.slice bo p cb) r/\RR wr b M/\Fr w wr (RF x b)/\Flds wr w.heap.size x (.slice a1 nf nf) l/\readNums (l.drop k) r M=readNums l m L)) (fun i _=>nf-(intOf i).toNat)
 case atStart=>exact ⟨0,m,L,by omega,rfl,H1.out.1,H1.out.2.1,H1.out.2.2.1,H1.out.2.2.2,rfl⟩
 case round =>
  obtain ⟨k,r,M,hk,rfl,HR⟩:=hrel
  by_cases hlt:k<nf
  ·have i3:(k:Int)<(nf:Int):=by omega
   have i0:(0:Int)<=(k:Int):=by omega
   have hkl:k<l.length:=by rw [HL.out.2];omega
   obtain ⟨q1,rfl,hq1,x0,x1⟩:=HR.out.2.2.2.1.at k hkl
   have HO:Hid (isOff l[k].1):=(fld_off m l[k] (by rw [HL.out.1];exact List.getElem_mem hkl)).1
   have HT:Hid ((pNum 9223372036854775807 M).bind (fun y=>readNums (l.drop (k+1)) (setV r l[k].1 y.1) y.2)=readNums l m L):=by
    have h:=HR.out.2.2.2.2
    rw [List.drop_eq_getElem_cons hkl,readNums] at h
    exact h
   obtain ⟨f,hf⟩:∃f,l[k]=f:=⟨_,rfl⟩
   rw [hf] at x0 x1 HO HT
   clear hf hkl
   obtain ⟨fo,fl⟩:=f
   dsimp only at x0 x1 HO HT
   unfold pt at x0
   go_upto_region 4 with fail
   obtain ⟨W5,hW5,H5⟩:=al1' wr #[.pointer (some ⟨x,fo,none⟩),.int .i64 fl] 165
   rw [hW5]
   clear hW5 x0 x1
   have HB5:Hid (RR W5 b M):=HR.out.2.1.grown H5.out.2.1
   go_wp2_with fail
   refine (number62 b lo ln lc M W5 HB5.out).mono ?_
   rintro e w6 hh
   rcases hh with ⟨hp,rfl,hg⟩ | ⟨nn,M',hp,rfl,hrr,hg⟩
   ·have F:Hid (readNums l m L=none/\Fr w w6 (RF x b)):=⟨by rw [<-HT.out,hp];rfl,fr_t HR.out.2.2.1 (fr_t (fr_n H5.out.2.1) (Fr.of hg (fun k hk=>by simp at hk;exact .inr hk.symm)))⟩
    clear hp hg HT
    go_wp2_with fail
    go_ret
    exact .inl ⟨by rw [HL.out.1];exact F.out.1,rfl,F.out.2⟩
   ·have H6:Hid (MB w6 x (.slice ao n ca) (.slice bo p cb) r/\RR w6 b M'/\Fr w w6 (RF x b)/\Flds w6 w.heap.size x (.slice (some ⟨q1,0,none⟩) nf nf) l/\readNums (l.drop (k+1)) (setV r fo nn) M'=readNums l m L/\Blk w6 wr.heap.size 165 #[.pointer (some ⟨x,fo,none⟩),.int .i64 fl]):=by
     refine ⟨mb_rr (HR.out.1.grown H5.out.2.1) HB5.out hg,hrr,fr_t HR.out.2.2.1 (fr_t (fr_n H5.out.2.1) (Fr.of hg (fun k hk=>by simp at hk;exact .inr hk.symm))),(HR.out.2.2.2.1.grown H5.out.2.1).but hg H0.out.2.2.2,?_,H5.out.1.grown hg (by have h1:=HR.out.2.2.1.size;have h2:=H0.out.2.2.2;simp;omega)⟩
     rw [<-HT.out,hp]
     rfl
    clear hp hg hrr HT H5 HB5
    have y0:=H6.out.2.2.2.2.2.cell 0
    simp at y0
    have s0:=H6.out.1.at HO.out
    have z0:=H6.out.1.free fo
    go_wp2_with fail
    have HZ:Hid (MB (w6.setCell ⟨x,fo,none⟩ (.int .i64 (nn:Int))) x (.slice ao n ca) (.slice bo p cb) (setV r fo nn)/\RR (w6.setCell ⟨x,fo,none⟩ (.int .i64 (nn:Int))) b M'/\Fr w (w6.setCell ⟨x,fo,none⟩ (.int .i64 (nn:Int))) (RF x b)/\Flds (w6.setCell ⟨x,fo,none⟩ (.int .i64 (nn:Int))) w.heap.size x (.slice (some ⟨q1,0,none⟩) nf nf) l):=by
     have s:=grown_setCell w6 x fo (.int .i64 (nn:Int))
     refine ⟨H6.out.1.set HO.out _,H6.out.2.1.set H6.out.1 s (by decide) (by decide),fr_t H6.out.2.2.1 (Fr.of s (fun k hk=>by simp at hk;exact .inl hk.symm)),H6.out.2.2.2.1.but s H0.out.2.2.1⟩
    generalize w6.setCell ⟨x,fo,none⟩ (.int .i64 (nn:Int))=wz at HZ ⊢
    clear y0 s0 z0
    go_wp2_with fail
    go_roundw
    case rel=>exact ⟨k+1,setV r fo nn,M',by omega,by go_num,HZ.out.1,HZ.out.2.1,HZ.out.2.2.1,HZ.out.2.2.2,H6.out.2.2.2.2.1⟩
    case measure=>simp [intOf];omega
  ·have i3:((k:Int)<(nf:Int))=False:=eq_false (by omega)
   have HE:Hid (readNums l m L=some (r,M)):=by
    have h:=HR.out.2.2.2.2
    rw [List.drop_of_length_le (by rw [HL.out.2];omega),readNums] at h
    exact h.symm
   go_wp2_with fail
   go_ret
   exact .inr ⟨r,M,by rw [HL.out.1];exact HE.out,rfl,HR.out.1,HR.out.2.1,HR.out.2.2.1⟩
theorem own_set {w w':World}{B x t:Nat}{v:Value}{L:Bs}{c:Array Value}(h:Own w B v L)(hx:Blk w x t c)(ht:t≠5)(hg:w.grownBy w' (some x)):Own w' B v L :=
 h.same fun k hk=>hg.block k (h.lt k hk).2 (fun e=>h.other hx ht (by rw [hk,e]))
theorem opsOwn_nil (w:World)(B:Nat):OpsOwn w B (.slice none 0 0) []:=⟨lrow_nil _ _,by simp⟩
def LastP (x:Nat)(m:PMsg)(M:Bs)(w:World)(e:Ending)(w':World):Prop:=∃er ov av r,e=.returned (.int .i64 er)/\w.grownBy w' (some x)/\MB w' x ov av r/\OpsOwn w' w.heap.size ov r.ask.ops/\Own w' w.heap.size av r.tell.answer/\((er=0/\lastOf m M=some r)\/((er==0)=false/\lastOf m M=none))
theorem readC_err (M:Bs):(readC M).2=0\/((readC M).2==0)=false:=by
 by_cases h:(readC M).2=0
 ·exact .inl h
 ·exact .inr (by simp [h])
theorem last63 (x b:Nat)(lo:Option Addr)(ln lc:Nat)(m:PMsg)(L M:Bs)(w:World)(hm:MB w x (.slice none 0 0) (.slice none 0 0) m)(h1:m.ask.ops=[])(h2:m.tell.answer=[])(hr:RR w b M)(hs:Seg w (.slice lo ln lc) L)(hln:L.length=ln)(hM:M.length<=L.length)(hd:L.drop (L.length-M.length)=M)(hz:L.length<=140737488355328):Calls Tryz.prog 191 #[.agg #[.pointer (some ⟨b,0,none⟩),.slice lo ln lc],.pointer (some ⟨x,0,none⟩)] w (LastP x m M w):=by
 obtain ⟨mn,hmn⟩:∃y,M.length=y:=⟨_,rfl⟩
 obtain ⟨so,sn,sc,hsv⟩:∃so sn sc,sliced lo (ln-mn) ln lc 1=.slice so sn sc:=⟨_,_,_,rfl⟩
 have HSS:Hid (Seg w (.slice so sn sc) M):=by
  have h:=seg_rest hln (ln-mn) (by omega) hs
  rw [hsv,<-hln,<-hmn,hd] at h
  exact h
 have hsl:∀wk,(Instr.slice 41 (.slice lo ln lc) (some (.int .i64 ((ln-mn:Nat):Int))) none none).run Tryz.prog wk=.ok (.slice so sn sc) wk:=fun wk=>by rw [<-hsv];exact run_rest30 lo ln lc (ln-mn) (by omega) wk
 have wsb:IntKind.i64.wrap ((ln:Int)-(mn:Int))=((ln-mn:Nat):Int):=by rw [IntKind.wrap_i64];omega
 have H0:Hid (MB w x (.slice none 0 0) (.slice none 0 0) m/\RR w b M/\m.ask.ops=[]/\m.tell.answer=[]/\M.length<=140737488355328/\x<w.heap.size):=⟨hm,hr,h1,h2,by omega,hm.lt⟩
 have HLF:Hid (∀y,w.grownBy y none->Calls Tryz.prog 208 #[.pointer (some ⟨b,0,none⟩)] y fun e w'=>e=.returned (.int .i64 (mn:Int))/\w'=y):=by
  intro y hy
  obtain ⟨s,q1,q2,_⟩:=hr.grown hy
  rw [<-hmn]
  exact Wire.left21 b M y ⟨s,q1,q2⟩
 obtain ⟨kk,hkk⟩:∃y,ln-mn=y:=⟨_,rfl⟩
 rw [hkk] at hsl wsb
 clear hm hr h1 h2 hs hln hM hd hz hsv hmn hkk
 go_enter Tryz.func191,Tryz.ntmps191
 go_upto_region 1 with fail
 obtain ⟨W,hW,HW⟩:=al1' w #[.pointer (some ⟨b,0,none⟩),.slice lo ln lc] 259
 rw [hW]
 clear hW
 refine wp_region_noPanic ?_
 refine wp_region_hold 1000 (fun y=>W.grownBy y none) (by kernel_rfl) ?_
 have G0:Hid (W.grownBy W.drew none):=grown_drew _ _
 generalize W.drew=wd at G0 ⊢
 have J:Idx [0,1,2,3,4,5,6]:=trivial
 iterate 7 (refine tK J (G0.out) rfl rfl (fun wk hk=>by have d0:=(HW.out.1.grown hk (by simp)).cell 0;have d1:=(HW.out.1.grown hk (by simp)).cell 1;simp at d0 d1;go_simp;try rfl) ?_;replace J:=J.tl;try simp only [pN])
 clear J
 refine wpHold_one (i:=7) rfl (by kernel_rfl) (by rfl) (fun K hK=>?_)
 go_wp2_with fail
 refine (HLF.out wd (grown_trans HW.out.2.1 G0.out)).mono ?_
 rintro e wy ⟨rfl,hwy⟩
 rw [hwy]
 clear hwy
 go_wp2_with fail
 refine hK.out _ _ (fun _=>G0.out) ?_
 clear hK K
 try simp only [pN]
 have J:Idx [8,9,10]:=trivial
 iterate 3 (refine tK J (G0.out) rfl rfl (fun wk hk=>by have d0:=(HW.out.1.grown hk (by simp)).cell 0;have d1:=(HW.out.1.grown hk (by simp)).cell 1;simp at d0 d1;go_simp;try rfl) ?_;replace J:=J.tl;try simp only [pN])
 clear J
 refine wpHold_done (by kernel_rfl) ?_
 refine (‹∀(a:Act) (w:World),Code.wp Tryz.prog _ _ a w->_› _ _ ?_)
 have H1:Hid (MB wd x (.slice none 0 0) (.slice none 0 0) m/\w.grownBy wd none/\Seg wd (.slice so sn sc) M/\Blk wd w.heap.size 259 #[.pointer (some ⟨b,0,none⟩),.slice lo ln lc]):=⟨H0.out.1.grown (grown_trans HW.out.2.1 G0.out),grown_trans HW.out.2.1 G0.out,HSS.out.grown (grown_trans HW.out.2.1 G0.out),HW.out.1.grown G0.out (by simp)⟩
 clear G0 HW HSS hsl wsb HLF
 obtain ⟨c0,c1,c2,c3,c4,c5,c6,c7,c8,c9,c10,c11,c12⟩:=H1.out.1.cells
 go_wp2_with fail
 refine (calling46 (.slice none 0 0) (.slice none 0 0) m wd isSl_nil isSl_nil).mono ?_
 rintro e w2 ⟨rfl,g2'⟩
 have H2:Hid (MB w2 x (.slice none 0 0) (.slice none 0 0) m/\w.grownBy w2 none/\Seg w2 (.slice so sn sc) M/\Blk w2 w.heap.size 259 #[.pointer (some ⟨b,0,none⟩),.slice lo ln lc]):=⟨H1.out.1.grown g2',grown_trans H1.out.2.1 g2',H1.out.2.2.1.grown g2',H1.out.2.2.2.grown g2' (by simp)⟩
 clear g2' H1 c0 c1 c2 c3 c4 c5 c6 c7 c8 c9 c10 c11 c12
 cases hcb:callsB m
 rotate_left
 ·have HB:Hid (lastOf m M=if (readC M).2=0 then some (setOps m (readC M).1) else none):=by unfold lastOf Hid;rw [if_pos hcb]
  clear hcb
  go_wp2_with fail
  refine (read22 (.slice so sn sc) M w2 H0.out.2.2.2.2.1 H2.out.2.2.1).mono ?_
  rintro e w3 ⟨u,rfl,hu,hg⟩
  obtain ⟨uo,un,uc,rfl,hun⟩:=hu.slice
  have H3:Hid (MB w3 x (.slice none 0 0) (.slice none 0 0) m/\w.grownBy w3 none/\OpsOwn w3 w.heap.size (.slice uo un uc) (readC M).1):=⟨H2.out.1.grown hg,grown_trans H2.out.2.1 hg,hu.mono H2.out.2.1.size⟩
  clear hg hu hun H2
  have s7:=H3.out.1.cells.2.2.2.2.2.2.2.1
  have z7:=H3.out.1.free 7
  go_wp2_with fail
  go_ret
  have s:=grown_setCell w3 x 7 (.slice uo un uc)
  refine ⟨(readC M).2,.slice uo un uc,(.slice none 0 0),setOps m (readC M).1,rfl,grown_trans (grown_weak H3.out.2.1 _) s,Blk.store H3.out.1 7 _,H3.out.2.2.set H3.out.1 (by decide) (by decide) s,by rw [show (setOps m (readC M).1).tell.answer=[] from H0.out.2.2.2.1];exact Own.nil _ _,?_⟩
  rw [HB.out]
  rcases readC_err M with h | h
  ·exact .inl ⟨h,if_pos h⟩
  ·exact .inr ⟨h,if_neg (by simpa using h)⟩
 obtain ⟨c0,c1,c2,c3,c4,c5,c6,c7,c8,c9,c10,c11,c12⟩:=H2.out.1.cells
 go_wp2_with fail
 refine (answering49 (.slice none 0 0) (.slice none 0 0) m w2 isSl_nil isSl_nil).mono ?_
 rintro e w3 ⟨rfl,g3⟩
 have H3:Hid (MB w3 x (.slice none 0 0) (.slice none 0 0) m/\w.grownBy w3 none/\Seg w3 (.slice so sn sc) M/\Blk w3 w.heap.size 259 #[.pointer (some ⟨b,0,none⟩),.slice lo ln lc]):=⟨H2.out.1.grown g3,grown_trans H2.out.2.1 g3,H2.out.2.2.1.grown g3,H2.out.2.2.2.grown g3 (by simp)⟩
 clear g3 H2 c0 c1 c2 c3 c4 c5 c6 c7 c8 c9 c10 c11 c12
 cases han:answersB m
 rotate_left
 ·have HB:Hid (lastOf m M=some (setAns m M)):=by unfold lastOf Hid;rw [if_neg (by rw [hcb];decide),if_pos han]
  clear hcb han
  go_wp2_with fail
  refine (clone25 (.slice so sn sc) M w3 H3.out.2.2.1 H0.out.2.2.2.2.1).mono ?_
  rintro e w4 ⟨u,rfl,hu,hg⟩
  obtain ⟨uo,un,uc,hus⟩:=isSl_seg hu.seg
  subst hus
  have H4:Hid (MB w4 x (.slice none 0 0) (.slice none 0 0) m/\w.grownBy w4 none/\Own w4 w.heap.size (.slice uo un uc) M):=⟨H3.out.1.grown hg,grown_trans H3.out.2.1 hg,hu.mono H3.out.2.1.size⟩
  clear hg hu H3
  have s7:=H4.out.1.cells.2.2.2.2.2.2.2.2.2.2.2.2
  have z7:=H4.out.1.free 12
  go_wp2_with fail
  go_ret
  have s:=grown_setCell w4 x 12 (.slice uo un uc)
  exact ⟨0,(.slice none 0 0),.slice uo un uc,setAns m M,rfl,grown_trans (grown_weak H4.out.2.1 _) s,Blk.store H4.out.1 12 _,by rw [show (setAns m M).ask.ops=[] from H0.out.2.2.1];exact opsOwn_nil _ _,own_set H4.out.2.2 H4.out.1 (by decide) s,.inl ⟨rfl,HB.out⟩⟩
 have HB:Hid (lastOf m M=if M=[] then some m else none):=by unfold lastOf Hid;rw [if_neg (by rw [hcb];decide),if_neg (by rw [han];decide)]
 clear hcb han
 have d0:=H3.out.2.2.2.cell 0
 simp at d0
 go_wp2_with fail
 refine (end87 b M w3 (H0.out.2.1.grown H3.out.2.1)).mono ?_
 rintro e w4 ⟨rfl,hw4⟩
 rw [hw4]
 clear hw4
 by_cases h:M=[]
 ·rw [if_pos h]
  have HE:Hid (lastOf m M=some m):=by rw [HB.out,if_pos h];rfl
  clear h
  go_wp2_with fail
  go_ret
  exact ⟨0,(.slice none 0 0),(.slice none 0 0),m,rfl,grown_weak H3.out.2.1 _,H3.out.1,by rw [H0.out.2.2.1];exact opsOwn_nil _ _,by rw [H0.out.2.2.2.1];exact Own.nil _ _,.inl ⟨rfl,HE.out⟩⟩
 ·rw [if_neg h]
  have HE:Hid (lastOf m M=none):=by rw [HB.out,if_neg h];rfl
  clear h
  go_wp2_with fail
  go_ret
  exact ⟨4,(.slice none 0 0),(.slice none 0 0),m,rfl,grown_weak H3.out.2.1 _,H3.out.1,by rw [H0.out.2.2.1];exact opsOwn_nil _ _,by rw [H0.out.2.2.2.1];exact Own.nil _ _,.inr ⟨rfl,HE.out⟩⟩
end Go.Proofs.YtanoabliahcbeaaGreat
