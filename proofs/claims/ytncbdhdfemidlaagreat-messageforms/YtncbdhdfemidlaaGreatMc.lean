import Derived.Test.YtncbdhdfemidlaaGreatMb
set_option maxHeartbeats 2000000
set_option maxRecDepth 100000
namespace Go.Proofs.YtncbdhdfemidlaaGreat
open Go.RowKit Disk
open _root_.Go.Proofs.YtncbdhdfemidlaaGreat.Calls _root_.Go.Proofs.YtncbdhdfemidlaaGreat.Command
def repV (av:Value)(r:PRep):Value:=.agg #[.int .i64 r.kind,.int .i64 r.token,.int .i64 r.session,.int .i64 r.number,av]
def msgA (ov av:Value)(m:PMsg):Array Value:=#[.int .i64 m.kind,.int .i64 m.client,.int .i64 m.ask.kind,.int .i64 m.ask.token,.int .i64 m.ask.session,.int .i64 m.ask.number,.int .i64 m.ask.mark,ov,.int .i64 m.tell.kind,.int .i64 m.tell.token,.int .i64 m.tell.session,.int .i64 m.tell.number,av]
def msgV (ov av:Value)(m:PMsg):Value:=.agg #[.int .i64 m.kind,.int .i64 m.client,.int .i64 m.ask.kind,.int .i64 m.ask.token,.int .i64 m.ask.session,.int .i64 m.ask.number,.int .i64 m.ask.mark,ov,.int .i64 m.tell.kind,.int .i64 m.tell.token,.int .i64 m.tell.session,.int .i64 m.tell.number,av]
def MB (w:World)(b:Nat)(ov av:Value)(m:PMsg):Prop:=Blk w b 34 (msgA ov av m)
theorem MB.grown {w w':World}{b:Nat}{ov av:Value}{m:PMsg}(h:MB w b ov av m)(hg:w.grownBy w' none):MB w' b ov av m:=Blk.grown h hg (by simp)
theorem MB.lt {w:World}{b:Nat}{ov av:Value}{m:PMsg}(h:MB w b ov av m):b<w.heap.size:=Blk.lt h
theorem MB.cells {w:World}{b:Nat}{ov av:Value}{m:PMsg}(h:MB w b ov av m):w.cell? ⟨b,0,none⟩=some (.int .i64 m.kind)/\w.cell? ⟨b,1,none⟩=some (.int .i64 m.client)/\w.cell? ⟨b,2,none⟩=some (.int .i64 m.ask.kind)/\w.cell? ⟨b,3,none⟩=some (.int .i64 m.ask.token)/\w.cell? ⟨b,4,none⟩=some (.int .i64 m.ask.session)/\w.cell? ⟨b,5,none⟩=some (.int .i64 m.ask.number)/\w.cell? ⟨b,6,none⟩=some (.int .i64 m.ask.mark)/\w.cell? ⟨b,7,none⟩=some ov/\w.cell? ⟨b,8,none⟩=some (.int .i64 m.tell.kind)/\w.cell? ⟨b,9,none⟩=some (.int .i64 m.tell.token)/\w.cell? ⟨b,10,none⟩=some (.int .i64 m.tell.session)/\w.cell? ⟨b,11,none⟩=some (.int .i64 m.tell.number)/\w.cell? ⟨b,12,none⟩=some av:=by
 have q:=fun j=>Blk.cell h j
 exact ⟨q 0,q 1,q 2,q 3,q 4,q 5,q 6,q 7,q 8,q 9,q 10,q 11,q 12⟩
theorem MB.free {w:World}{b:Nat}{ov av:Value}{m:PMsg}(h:MB w b ov av m)(j:Nat):w.frozen? ⟨b,j,none⟩=false:=Blk.free h j
theorem MB.at {w:World}{b:Nat}{ov av:Value}{m:PMsg}(h:MB w b ov av m){o:Nat}(ho:isOff o):w.cell? ⟨b,o,none⟩=some (.int .i64 (val m o)):=by
 obtain ⟨_,_,_,c3,c4,c5,c6,_,_,c9,c10,c11,_⟩:=h.cells
 unfold isOff at ho
 rcases ho with rfl | rfl | rfl | rfl | rfl | rfl | rfl <;> first | exact c3 | exact c4 | exact c5 | exact c6 | exact c9 | exact c10 | exact c11
theorem MB.set {w:World}{b:Nat}{ov av:Value}{m:PMsg}(h:MB w b ov av m){o:Nat}(ho:isOff o)(v:Int):MB (w.setCell ⟨b,o,none⟩ (.int .i64 v)) b ov av (setV m o v):=by
 have:=Blk.store h o (.int .i64 v)
 unfold MB
 unfold isOff at ho
 rcases ho with rfl | rfl | rfl | rfl | rfl | rfl | rfl <;> exact this
def fldC (b:Nat)(l:List (Nat × Int)):Array Value:=(l.flatMap fun f=>[pt b f.1,.int .i64 f.2]).toArray
def Flds (w:World)(B b:Nat)(v:Value)(l:List (Nat × Int)):Prop:=(l=[]/\v=.slice none 0 0)\/∃a,B<=a/\v=.slice (some ⟨a,0,none⟩) l.length l.length/\Blk w a 67 (fldC b l)
theorem Flds.grown {w w':World}{B b:Nat}{v:Value}{l:List (Nat × Int)}(h:Flds w B b v l)(hg:w.grownBy w' none):Flds w' B b v l:=by
 rcases h with h | ⟨a,h1,h2,h3⟩
 ·exact .inl h
 ·exact .inr ⟨a,h1,h2,h3.grown hg (by simp)⟩
theorem Flds.but {w w':World}{B b c:Nat}{v:Value}{l:List (Nat × Int)}(h:Flds w B b v l)(hg:w.grownBy w' (some c))(hc:c<B):Flds w' B b v l:=by
 rcases h with h | ⟨a,h1,h2,h3⟩
 ·exact .inl h
 ·exact .inr ⟨a,h1,h2,h3.grown hg (by simp;omega)⟩
theorem Flds.mono {w:World}{B B' b:Nat}{v:Value}{l:List (Nat × Int)}(h:Flds w B b v l)(hB:B'<=B):Flds w B' b v l:=by
 rcases h with h | ⟨a,h1,h2,h3⟩
 ·exact .inl h
 ·exact .inr ⟨a,by omega,h2,h3⟩
theorem Flds.shape {w:World}{B b:Nat}{v:Value}{l:List (Nat × Int)}(h:Flds w B b v l):∃ao,v=.slice ao l.length l.length:=by
 rcases h with ⟨rfl,h⟩ | ⟨a,_,h,_⟩
 ·exact ⟨_,h⟩
 ·exact ⟨_,h⟩
theorem fldC_at (b:Nat):∀(l:List (Nat × Int)) (i:Nat) (h:i<l.length),(fldC b l)[i*2]? = some (pt b l[i].1)/\(fldC b l)[i*2+1]? = some (.int .i64 l[i].2)
 | [],i,h=>absurd h (by simp)
 | f :: l,0,_=>by simp [fldC]
 | f :: l,i+1,h=>by
  have ih:=fldC_at b l i (by simpa using h)
  simp only [fldC,List.flatMap_cons,List.getElem?_toArray,List.getElem_cons_succ] at ih ⊢
  rw [show (i+1)*2=i*2+2 by omega]
  simpa [Nat.add_assoc] using ih
theorem Flds.at {w:World}{B b:Nat}{ao:Option Addr}{n c:Nat}{l:List (Nat × Int)}(h:Flds w B b (.slice ao n c) l)(i:Nat)(hi:i<l.length):∃a,ao=some ⟨a,0,none⟩/\B<=a/\w.cell? ⟨a,i*2,none⟩=some (pt b l[i].1)/\w.cell? ⟨a,i*2+1,none⟩=some (.int .i64 l[i].2):=by
 rcases h with ⟨rfl,_⟩ | ⟨a,h1,h2,h3⟩
 ·exact absurd hi (by simp)
 ·simp at h2
  obtain ⟨q0,q1⟩:=fldC_at b l i hi
  exact ⟨a,h2.1,h1,(h3.cell _).trans q0,(h3.cell _).trans q1⟩
theorem flds_nil (w:World)(B b:Nat):Flds w B b (.slice none 0 0) []:=.inl ⟨rfl,rfl⟩
theorem flds_lit (w:World)(b:Nat)(l:List (Nat × Int))(n:Nat)(hn:l.length=n)(C:Array Value)(hC:fldC b l=C):Flds (w.alloc (.cells C 67)) w.heap.size b (.slice (some ⟨w.heap.size,0,none⟩) n n) l:=by
 subst hn hC
 exact .inr ⟨w.heap.size,Nat.le_refl _,rfl,heap_alloc_new _ _⟩
def FldP (b:Nat)(l:List (Nat × Int))(w:World)(e:Ending)(w':World):Prop:=∃v,e=.returned v/\Flds w' w.heap.size b v l/\w.grownBy w' none
theorem fldP_lit {w wd:World}{b:Nat}{l:List (Nat × Int)}{n:Nat}(hn:l.length=n){C:Array Value}(hC:fldC b l=C)(hg:w.grownBy wd none):FldP b l w (.returned (.slice (some ⟨wd.heap.size,0,none⟩) n n)) (wd.alloc (.cells C 67)) :=
 ⟨_,rfl,(flds_lit wd b l n hn C hC).mono hg.size,grown_trans hg (World.grownBy_alloc _ _ none)⟩
theorem asked51_1 (b:Nat)(w:World)(c0:w.cell? ⟨b,2,none⟩=some (.int .i64 1)):Calls Tryz.prog 51 #[.pointer (some ⟨b,2,none⟩)] w (FldP b [(3,1)] w):=by
 go_enter Tryz.func51,Tryz.ntmps51
 go_wp2_with fail
 go_ret
 exact fldP_lit rfl (by rfl) (grown_refl _ _)
theorem asked51_2 (b:Nat)(w:World)(c0:w.cell? ⟨b,2,none⟩=some (.int .i64 2)):Calls Tryz.prog 51 #[.pointer (some ⟨b,2,none⟩)] w (FldP b [(4,1),(5,1),(6,0)] w):=by
 go_enter Tryz.func51,Tryz.ntmps51
 go_wp2_with fail
 refine wp_region_noPanic ?_
 refine wp_region_hold 1000 (fun y=>w.grownBy y none) (by kernel_rfl) ?_
 have G0:Hid (w.grownBy w.drew none):=grown_drew _ _
 generalize w.drew=wd at G0 ⊢
 have J:Idx [0,1,2,3,4,5,6,7,8,9,10,11]:=trivial
 iterate 12 (refine tK J (G0.out) rfl rfl (fun wk hk=>by skip;go_simp;try rfl) ?_;replace J:=J.tl;try simp only [pN])
 clear J
 refine wpHold_one (i:=12) rfl (by kernel_rfl) (by rfl) (fun K hK=>?_)
 go_wp2_with fail
 refine hK.out _ _ (fun _=>grown_trans G0.out (World.grownBy_alloc _ _ none)) ?_
 clear hK K
 try simp only [pN]
 have J:Idx [13]:=trivial
 iterate 1 (refine tK J (grown_trans G0.out (World.grownBy_alloc _ _ none)) rfl rfl (fun wk hk=>by skip;go_simp;try rfl) ?_;replace J:=J.tl;try simp only [pN])
 clear J
 refine wpHold_done (by kernel_rfl) ?_
 refine (‹∀(a:Act) (w:World),Code.wp Tryz.prog _ _ a w->_› _ _ ?_)
 go_wp2_with fail
 go_ret
 exact fldP_lit rfl (by rfl) G0.out
theorem asked51_3 (b:Nat)(w:World)(c0:w.cell? ⟨b,2,none⟩=some (.int .i64 3)):Calls Tryz.prog 51 #[.pointer (some ⟨b,2,none⟩)] w (FldP b [(4,1)] w):=by
 go_enter Tryz.func51,Tryz.ntmps51
 go_wp2_with fail
 go_ret
 exact fldP_lit rfl (by rfl) (grown_refl _ _)
theorem asked51_0 (b:Nat)(k:Int)(w:World)(c0:w.cell? ⟨b,2,none⟩=some (.int .i64 k))(h1:(k==1)=false)(h2:(k==2)=false)(h3:(k==3)=false):Calls Tryz.prog 51 #[.pointer (some ⟨b,2,none⟩)] w (FldP b [] w):=by
 go_enter Tryz.func51,Tryz.ntmps51
 go_wp2_with fail
 go_ret
 exact ⟨_,rfl,flds_nil _ _ _,grown_refl _ _⟩
theorem asked51 (b:Nat)(k:Int)(w:World)(c0:w.cell? ⟨b,2,none⟩=some (.int .i64 k)):Calls Tryz.prog 51 #[.pointer (some ⟨b,2,none⟩)] w (FldP b (fldA k) w):=by
 unfold fldA
 by_cases h1:k=1
 ·rw [if_pos h1];subst h1;exact asked51_1 b w c0
 by_cases h2:k=2
 ·rw [if_neg h1,if_pos h2];subst h2;exact asked51_2 b w c0
 by_cases h3:k=3
 ·rw [if_neg h1,if_neg h2,if_pos h3];subst h3;exact asked51_3 b w c0
 rw [if_neg h1,if_neg h2,if_neg h3]
 exact asked51_0 b k w c0 (by simp [h1]) (by simp [h2]) (by simp [h3])
theorem told52_1 (b:Nat)(w:World)(c0:w.cell? ⟨b,8,none⟩=some (.int .i64 1)):Calls Tryz.prog 52 #[.pointer (some ⟨b,8,none⟩)] w (FldP b [(9,1),(10,1)] w):=by
 go_enter Tryz.func52,Tryz.ntmps52
 go_wp2_with fail
 refine wp_region_noPanic ?_
 refine wp_region_hold 1000 (fun y=>w.grownBy y none) (by kernel_rfl) ?_
 have G0:Hid (w.grownBy w.drew none):=grown_drew _ _
 generalize w.drew=wd at G0 ⊢
 have J:Idx [0,1,2,3,4,5,6,7]:=trivial
 iterate 8 (refine tK J (G0.out) rfl rfl (fun wk hk=>by skip;go_simp;try rfl) ?_;replace J:=J.tl;try simp only [pN])
 clear J
 refine wpHold_one (i:=8) rfl (by kernel_rfl) (by rfl) (fun K hK=>?_)
 go_wp2_with fail
 refine hK.out _ _ (fun _=>grown_trans G0.out (World.grownBy_alloc _ _ none)) ?_
 clear hK K
 try simp only [pN]
 have J:Idx [9]:=trivial
 iterate 1 (refine tK J (grown_trans G0.out (World.grownBy_alloc _ _ none)) rfl rfl (fun wk hk=>by skip;go_simp;try rfl) ?_;replace J:=J.tl;try simp only [pN])
 clear J
 refine wpHold_done (by kernel_rfl) ?_
 refine (‹∀(a:Act) (w:World),Code.wp Tryz.prog _ _ a w->_› _ _ ?_)
 go_wp2_with fail
 go_ret
 exact fldP_lit rfl (by rfl) G0.out
theorem told52_2 (b:Nat)(w:World)(c0:w.cell? ⟨b,8,none⟩=some (.int .i64 2)):Calls Tryz.prog 52 #[.pointer (some ⟨b,8,none⟩)] w (FldP b [(9,1)] w):=by
 go_enter Tryz.func52,Tryz.ntmps52
 go_wp2_with fail
 go_ret
 exact fldP_lit rfl (by rfl) (grown_refl _ _)
theorem told52_4 (b:Nat)(w:World)(c0:w.cell? ⟨b,8,none⟩=some (.int .i64 4)):Calls Tryz.prog 52 #[.pointer (some ⟨b,8,none⟩)] w (FldP b [(10,1),(11,0)] w):=by
 go_enter Tryz.func52,Tryz.ntmps52
 go_wp2_with fail
 refine wp_region_noPanic ?_
 refine wp_region_hold 1000 (fun y=>w.grownBy y none) (by kernel_rfl) ?_
 have G0:Hid (w.grownBy w.drew none):=grown_drew _ _
 generalize w.drew=wd at G0 ⊢
 have J:Idx [0,1,2,3,4,5,6,7]:=trivial
 iterate 8 (refine tK J (G0.out) rfl rfl (fun wk hk=>by skip;go_simp;try rfl) ?_;replace J:=J.tl;try simp only [pN])
 clear J
 refine wpHold_one (i:=8) rfl (by kernel_rfl) (by rfl) (fun K hK=>?_)
 go_wp2_with fail
 refine hK.out _ _ (fun _=>grown_trans G0.out (World.grownBy_alloc _ _ none)) ?_
 clear hK K
 try simp only [pN]
 have J:Idx [9]:=trivial
 iterate 1 (refine tK J (grown_trans G0.out (World.grownBy_alloc _ _ none)) rfl rfl (fun wk hk=>by skip;go_simp;try rfl) ?_;replace J:=J.tl;try simp only [pN])
 clear J
 refine wpHold_done (by kernel_rfl) ?_
 refine (‹∀(a:Act) (w:World),Code.wp Tryz.prog _ _ a w->_› _ _ ?_)
 go_wp2_with fail
 go_ret
 exact fldP_lit rfl (by rfl) G0.out
theorem told52_3 (b:Nat)(w:World)(c0:w.cell? ⟨b,8,none⟩=some (.int .i64 3)):Calls Tryz.prog 52 #[.pointer (some ⟨b,8,none⟩)] w (FldP b [(10,1),(11,1)] w):=by
 go_enter Tryz.func52,Tryz.ntmps52
 go_wp2_with fail
 refine wp_region_noPanic ?_
 refine wp_region_hold 1000 (fun y=>w.grownBy y none) (by kernel_rfl) ?_
 have G0:Hid (w.grownBy w.drew none):=grown_drew _ _
 generalize w.drew=wd at G0 ⊢
 have J:Idx [0,1,2,3,4,5,6,7]:=trivial
 iterate 8 (refine tK J (G0.out) rfl rfl (fun wk hk=>by skip;go_simp;try rfl) ?_;replace J:=J.tl;try simp only [pN])
 clear J
 refine wpHold_one (i:=8) rfl (by kernel_rfl) (by rfl) (fun K hK=>?_)
 go_wp2_with fail
 refine hK.out _ _ (fun _=>grown_trans G0.out (World.grownBy_alloc _ _ none)) ?_
 clear hK K
 try simp only [pN]
 have J:Idx [9]:=trivial
 iterate 1 (refine tK J (grown_trans G0.out (World.grownBy_alloc _ _ none)) rfl rfl (fun wk hk=>by skip;go_simp;try rfl) ?_;replace J:=J.tl;try simp only [pN])
 clear J
 refine wpHold_done (by kernel_rfl) ?_
 refine (‹∀(a:Act) (w:World),Code.wp Tryz.prog _ _ a w->_› _ _ ?_)
 go_wp2_with fail
 go_ret
 exact fldP_lit rfl (by rfl) G0.out
theorem told52_5 (b:Nat)(w:World)(c0:w.cell? ⟨b,8,none⟩=some (.int .i64 5)):Calls Tryz.prog 52 #[.pointer (some ⟨b,8,none⟩)] w (FldP b [(10,1),(11,1)] w):=by
 go_enter Tryz.func52,Tryz.ntmps52
 go_wp2_with fail
 refine wp_region_noPanic ?_
 refine wp_region_hold 1000 (fun y=>w.grownBy y none) (by kernel_rfl) ?_
 have G0:Hid (w.grownBy w.drew none):=grown_drew _ _
 generalize w.drew=wd at G0 ⊢
 have J:Idx [0,1,2,3,4,5,6,7]:=trivial
 iterate 8 (refine tK J (G0.out) rfl rfl (fun wk hk=>by skip;go_simp;try rfl) ?_;replace J:=J.tl;try simp only [pN])
 clear J
 refine wpHold_one (i:=8) rfl (by kernel_rfl) (by rfl) (fun K hK=>?_)
 go_wp2_with fail
 refine hK.out _ _ (fun _=>grown_trans G0.out (World.grownBy_alloc _ _ none)) ?_
 clear hK K
 try simp only [pN]
 have J:Idx [9]:=trivial
 iterate 1 (refine tK J (grown_trans G0.out (World.grownBy_alloc _ _ none)) rfl rfl (fun wk hk=>by skip;go_simp;try rfl) ?_;replace J:=J.tl;try simp only [pN])
 clear J
 refine wpHold_done (by kernel_rfl) ?_
 refine (‹∀(a:Act) (w:World),Code.wp Tryz.prog _ _ a w->_› _ _ ?_)
 go_wp2_with fail
 go_ret
 exact fldP_lit rfl (by rfl) G0.out
theorem told52_6 (b:Nat)(w:World)(c0:w.cell? ⟨b,8,none⟩=some (.int .i64 6)):Calls Tryz.prog 52 #[.pointer (some ⟨b,8,none⟩)] w (FldP b [(10,1),(11,1)] w):=by
 go_enter Tryz.func52,Tryz.ntmps52
 go_wp2_with fail
 refine wp_region_noPanic ?_
 refine wp_region_hold 1000 (fun y=>w.grownBy y none) (by kernel_rfl) ?_
 have G0:Hid (w.grownBy w.drew none):=grown_drew _ _
 generalize w.drew=wd at G0 ⊢
 have J:Idx [0,1,2,3,4,5,6,7]:=trivial
 iterate 8 (refine tK J (G0.out) rfl rfl (fun wk hk=>by skip;go_simp;try rfl) ?_;replace J:=J.tl;try simp only [pN])
 clear J
 refine wpHold_one (i:=8) rfl (by kernel_rfl) (by rfl) (fun K hK=>?_)
 go_wp2_with fail
 refine hK.out _ _ (fun _=>grown_trans G0.out (World.grownBy_alloc _ _ none)) ?_
 clear hK K
 try simp only [pN]
 have J:Idx [9]:=trivial
 iterate 1 (refine tK J (grown_trans G0.out (World.grownBy_alloc _ _ none)) rfl rfl (fun wk hk=>by skip;go_simp;try rfl) ?_;replace J:=J.tl;try simp only [pN])
 clear J
 refine wpHold_done (by kernel_rfl) ?_
 refine (‹∀(a:Act) (w:World),Code.wp Tryz.prog _ _ a w->_› _ _ ?_)
 go_wp2_with fail
 go_ret
 exact fldP_lit rfl (by rfl) G0.out
theorem told52_7 (b:Nat)(w:World)(c0:w.cell? ⟨b,8,none⟩=some (.int .i64 7)):Calls Tryz.prog 52 #[.pointer (some ⟨b,8,none⟩)] w (FldP b [(10,1)] w):=by
 go_enter Tryz.func52,Tryz.ntmps52
 go_wp2_with fail
 go_ret
 exact fldP_lit rfl (by rfl) (grown_refl _ _)
theorem told52_0 (b:Nat)(k:Int)(w:World)(c0:w.cell? ⟨b,8,none⟩=some (.int .i64 k))(h1:(k==1)=false)(h2:(k==2)=false)(h4:(k==4)=false)(h3:(k==3)=false)(h5:(k==5)=false)(h6:(k==6)=false)(h7:(k==7)=false):Calls Tryz.prog 52 #[.pointer (some ⟨b,8,none⟩)] w (FldP b [] w):=by
 go_enter Tryz.func52,Tryz.ntmps52
 go_wp2_with fail
 go_ret
 exact ⟨_,rfl,flds_nil _ _ _,grown_refl _ _⟩
theorem told52 (b:Nat)(k:Int)(w:World)(c0:w.cell? ⟨b,8,none⟩=some (.int .i64 k)):Calls Tryz.prog 52 #[.pointer (some ⟨b,8,none⟩)] w (FldP b (fldT k) w):=by
 unfold fldT
 by_cases h1:k=1
 ·rw [if_pos h1];subst h1;exact told52_1 b w c0
 by_cases h2:k=2
 ·rw [if_neg h1,if_pos h2];subst h2;exact told52_2 b w c0
 by_cases h4:k=4
 ·rw [if_neg h1,if_neg h2,if_pos h4];subst h4;exact told52_4 b w c0
 by_cases h3:k=3
 ·rw [if_neg h1,if_neg h2,if_neg h4,if_pos (by omega)];subst h3;exact told52_3 b w c0
 by_cases h5:k=5
 ·rw [if_neg h1,if_neg h2,if_neg h4,if_pos (by omega)];subst h5;exact told52_5 b w c0
 by_cases h6:k=6
 ·rw [if_neg h1,if_neg h2,if_neg h4,if_pos (by omega)];subst h6;exact told52_6 b w c0
 by_cases h7:k=7
 ·rw [if_neg h1,if_neg h2,if_neg h4,if_neg (by omega),if_pos h7];subst h7;exact told52_7 b w c0
 rw [if_neg h1,if_neg h2,if_neg h4,if_neg (by omega),if_neg h7]
 exact told52_0 b k w c0 (by simp [h1]) (by simp [h2]) (by simp [h4]) (by simp [h3]) (by simp [h5]) (by simp [h6]) (by simp [h7])
theorem numbers26 (b:Nat)(ov av:Value)(m:PMsg)(w:World)(h:MB w b ov av m):Calls Tryz.prog 26 #[.pointer (some ⟨b,0,none⟩)] w (FldP b (fld m) w):=by
 obtain ⟨c0,_,c2,_,_,_,_,_,c8,_⟩:=h.cells
 have H:Hid (MB w b ov av m):=h
 clear h
 unfold fld
 obtain ⟨mk,hmk⟩:∃x,m.kind=x:=⟨_,rfl⟩
 rw [hmk] at c0 ⊢
 clear hmk
 have C2:Hid (w.cell? ⟨b,2,none⟩=some (.int .i64 m.ask.kind)):=c2
 have C8:Hid (w.cell? ⟨b,8,none⟩=some (.int .i64 m.tell.kind)):=c8
 clear c2 c8
 by_cases h1:mk=1
 ·rw [if_pos h1]
  subst h1
  go_enter Tryz.func26,Tryz.ntmps26
  go_wp2_with (go_at_call 51;refine (asked51 b m.ask.kind _ C2.out).mono ?_;intro e w1 h;obtain ⟨v,rfl,hf,hg⟩:=h;have F:Hid (Flds w1 w.heap.size b v (fldA m.ask.kind)/\w.grownBy w1 none):=⟨hf,hg⟩;clear hf hg)
  go_ret
  exact ⟨_,rfl,F.out.1,F.out.2⟩
 rw [if_neg h1]
 by_cases h2:mk=2
 ·rw [if_pos h2]
  subst h2
  go_enter Tryz.func26,Tryz.ntmps26
  go_wp2_with (go_at_call 52;refine (told52 b m.tell.kind _ C8.out).mono ?_;intro e w1 h;obtain ⟨v,rfl,hf,hg⟩:=h;have F:Hid (Flds w1 w.heap.size b v (fldT m.tell.kind)/\w.grownBy w1 none):=⟨hf,hg⟩;clear hf hg)
  go_ret
  exact ⟨_,rfl,F.out.1,F.out.2⟩
 rw [if_neg h2]
 have q1:(mk==1)=false:=by simp [h1]
 have q2:(mk==2)=false:=by simp [h2]
 clear h1 h2
 go_enter Tryz.func26,Tryz.ntmps26
 go_wp2_with fail
 go_ret
 exact ⟨_,rfl,flds_nil _ _ _,grown_refl _ _⟩
end Go.Proofs.YtncbdhdfemidlaaGreat
