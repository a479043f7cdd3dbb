import Derived.Test.YtanoabliahcbeaaGreatVwaAll
import Derived.Test.YtanoabliahcbeaaGreatCpwAll
import Derived.Scope
import Derived.Deep.LoopGhost
set_option maxHeartbeats 2000000
set_option maxRecDepth 100000
namespace Go.Proofs.YtanoabliahcbeaaGreat.Wn
open Go.RowKit Disk
variable {Q:Nat->Prop}
structure Cr where
 id:Int
 o:Option Addr
 n:Nat
 c:Nat
 ops:List Calls.POp
 was:Bool
 tm:Int
def Pl (Q:Nat->Prop)(w:World)(x:Value)(o:Option Cr):Prop:=match o with
 | none=>x=.pointer none
 | some t=>∃p,x=.pointer (some ⟨p,0,none⟩)/\Blk w p 105 #[.int .i64 t.id,.slice t.o t.n t.c,.bool t.was,.int .i64 t.tm]/\Q p
structure Win (Q:Nat->Prop)(w:World)(b:Nat)(v:Value)(n:Nat)(L:List (Option Cr))(m:Nat):Prop where
 blk:Blk w b 144 #[v,.int .i64 (L.length:Nat),.int .i64 (m:Nat)]
 ring:∃xs,Row 142 w 0 v xs/\xs.length=n/\∀k,m<=k->∀(h:k<L.length),∃x,xs[(k+1) % n]? = some x/\Pl Q w x L[k]
 low:∀k,k<m->L[k]? = some none
 room:L.length<=m+n
 size:1<=n/\n<=64
 top:m<=L.length
def NoWin (w:World)(x:Value):Prop:=x=.pointer none\/∃b u v,x=.pointer (some ⟨b,0,none⟩)/\Blk w b 144 #[.slice none 0 0,u,v]
def FN (b:Nat)(v:Value)(i:Nat):Prop:=i=b\/v.ownBlock=some i
theorem Pl.same {w w':World}{x:Value}{o:Option Cr}(h:Pl Q w x o)(hs:∀i c,Blk w i 105 c->Blk w' i 105 c):Pl Q w' x o:=by
 cases o with
 | none=>exact h
 | some t =>
  obtain ⟨p,h1,h2,h3⟩:=h
  exact ⟨p,h1,hs _ _ h2,h3⟩
theorem Pl.grown {w w':World}{x:Value}{o:Option Cr}(h:Pl Q w x o)(hg:w.grownBy w' none):Pl Q w' x o:=h.same fun _ _ hb=>hb.grown hg (by simp)
theorem Pl.kept {w w':World}{x:Value}{o:Option Cr}(h:Pl Q w x o)(hs:∀i,Q i->i<w.heap.size->w'.heap[i]? = w.heap[i]?):Pl Q w' x o:=by
 cases o with
 | none=>exact h
 | some t =>
  obtain ⟨p,h1,h2,h3⟩:=h
  exact ⟨p,h1,h2.same (hs p h3 h2.lt),h3⟩
theorem Pl.mono {Q':Nat->Prop}{w:World}{x:Value}{o:Option Cr}(h:Pl Q w x o)(hq:∀i,Q i->Q' i):Pl Q' w x o:=by
 cases o with
 | none=>exact h
 | some t =>
  obtain ⟨p,h1,h2,h3⟩:=h
  exact ⟨p,h1,h2,hq p h3⟩
theorem Win.mono {Q':Nat->Prop}{w:World}{b:Nat}{v:Value}{n:Nat}{L:List (Option Cr)}{m:Nat}(h:Win Q w b v n L m)(hq:∀i,Q i->Q' i):Win Q' w b v n L m:=by
 obtain ⟨xs,h1,h2,h3⟩:=h.ring
 exact ⟨h.blk,⟨xs,h1,h2,fun k hk hl=>let ⟨x,hx,hp⟩:=h3 k hk hl;⟨x,hx,hp.mono hq⟩⟩,h.low,h.room,h.size,h.top⟩
theorem Win.kept {w w':World}{b:Nat}{v:Value}{n:Nat}{L:List (Option Cr)}{m:Nat}(h:Win Q w b v n L m)(hk:∀i,FN b v i\/Q i->i<w.heap.size->w'.heap[i]? = w.heap[i]?):Win Q w' b v n L m:=by
 obtain ⟨xs,h1,h2,h3⟩:=h.ring
 exact ⟨h.blk.same (hk b (.inl (.inl rfl)) h.blk.lt),⟨xs,h1.same fun k e=>hk k (.inl (.inr e)) (h1.lt k e).2,h2,fun k hk' hl=>let ⟨x,hx,hp⟩:=h3 k hk' hl;⟨x,hx,hp.kept fun i hi=>hk i (.inr hi)⟩⟩,h.low,h.room,h.size,h.top⟩
theorem Win.same {w w':World}{b:Nat}{v:Value}{n:Nat}{L:List (Option Cr)}{m:Nat}(h:Win Q w b v n L m)(hb:w'.heap[b]? = w.heap[b]?)(hv:∀k,v.ownBlock=some k->w'.heap[k]? = w.heap[k]?)(hs:∀i c,Blk w i 105 c->Blk w' i 105 c):Win Q w' b v n L m:=by
 obtain ⟨xs,h1,h2,h3⟩:=h.ring
 exact ⟨h.blk.same hb,⟨xs,h1.same hv,h2,fun k hk hl=>let ⟨x,hx,hp⟩:=h3 k hk hl;⟨x,hx,hp.same hs⟩⟩,h.low,h.room,h.size,h.top⟩
theorem Win.grown {w w':World}{b:Nat}{v:Value}{n:Nat}{L:List (Option Cr)}{m:Nat}(h:Win Q w b v n L m)(hg:w.grownBy w' none):Win Q w' b v n L m:=by
 obtain ⟨xs,h1,h2,h3⟩:=h.ring
 exact ⟨h.blk.grown hg (by simp),⟨xs,h1.grown hg,h2,fun k hk hl=>let ⟨x,hx,hp⟩:=h3 k hk hl;⟨x,hx,hp.grown hg⟩⟩,h.low,h.room,h.size,h.top⟩
theorem NoWin.grown {w w':World}{x:Value}(h:NoWin w x)(hg:w.grownBy w' none):NoWin w' x:=by
 rcases h with h | ⟨b,u,v,h,hb⟩
 ·exact .inl h
 ·exact .inr ⟨b,u,v,h,hb.grown hg (by simp)⟩
theorem Win.sl {w:World}{b:Nat}{v:Value}{n:Nat}{L:List (Option Cr)}{m:Nat}(h:Win Q w b v n L m):∃g cap,v=.slice (some ⟨g,0,none⟩) n cap/\n<=cap/\cap<=maxLen:=by
 obtain ⟨xs,h1,h2,_⟩:=h.ring
 rcases h1.shape with ⟨_,rfl⟩ | ⟨g,cap,C,rfl,_,_,h3,h4,_⟩
 ·have:=h.size
  simp at h2
  omega
 ·exact ⟨g,cap,by rw [h2],by omega,h4⟩
theorem Win.other {w w':World}{b:Nat}{v:Value}{n:Nat}{L:List (Option Cr)}{m:Nat}(h:Win Q w b v n L m)(hf:Fr w w' (FN b v)){i t:Nat}{c:Array Value}(hb:Blk w i t c)(h1:t≠144)(h2:t≠142):Blk w' i t c:=by
 refine hb.same (hf.block i hb.lt fun e=>?_)
 rcases e with rfl | e
 ·exact h1 (blk_type hb h.blk)
 ·obtain ⟨xs,hr,_⟩:=h.ring
  obtain ⟨C,hC⟩:=hr.blk i e
  exact h2 (blk_type hb hC)
theorem Win.lt {w:World}{b:Nat}{v:Value}{n:Nat}{L:List (Option Cr)}{m:Nat}(h:Win Q w b v n L m):∀i,FN b v i->i<w.heap.size:=by
 rintro i (rfl | e)
 ·exact h.blk.lt
 ·obtain ⟨xs,hr,_⟩:=h.ring
  exact (hr.lt i e).2
theorem Win.at {w:World}{b g cap:Nat}{n n':Nat}{L:List (Option Cr)}{m:Nat}(h:Win Q w b (.slice (some ⟨g,0,none⟩) n' cap) n L m)(k:Nat)(hk:m<=k)(hl:k<L.length):∃x,w.cell? ⟨g,(k+1) % n,none⟩=some x/\Pl Q w x L[k]:=by
 obtain ⟨xs,h1,h2,h3⟩:=h.ring
 obtain ⟨x,hx,hp⟩:=h3 k hk hl
 obtain ⟨hj,e⟩:=List.getElem?_eq_some_iff.1 hx
 exact ⟨x,by rw [h1.cell _ hj,e],hp⟩
theorem Win.free {w:World}{b g cap:Nat}{n n':Nat}{L:List (Option Cr)}{m:Nat}(h:Win Q w b (.slice (some ⟨g,0,none⟩) n' cap) n L m)(j:Nat):w.frozen? ⟨g,j,none⟩=false:=by
 obtain ⟨xs,h1,_⟩:=h.ring
 exact h1.free j
theorem Win.there {w:World}{b g cap:Nat}{n n':Nat}{L:List (Option Cr)}{m:Nat}(h:Win Q w b (.slice (some ⟨g,0,none⟩) n' cap) n L m)(j:Nat)(hj:j<n):∃x,w.cell? ⟨g,j,none⟩=some x:=by
 obtain ⟨xs,h1,h2,_⟩:=h.ring
 exact ⟨_,h1.cell j (by omega)⟩
theorem there_yes (b g n cap:Nat)(x y:Value)(w:World)(hb:Blk w b 144 #[.slice (some ⟨g,0,none⟩) n cap,x,y])(hn:1<=n):Calls Tryz.prog 81 #[.pointer (some ⟨b,0,none⟩)] w fun e w'=>e=.returned (.bool true)/\w'=w:=by
 have c0:=hb.cell 0
 simp at c0
 have i1:((0:Int)<(n:Int))=True:=eq_true (by omega)
 have i2:(0<n)=True:=eq_true (by omega)
 have i3:(n=0)=False:=eq_false (by omega)
 clear hb hn
 go_enter Tryz.func81,Tryz.ntmps81
 go_wp2
 go_ret
 exact ⟨rfl,rfl⟩
theorem there_no (x:Value)(w:World)(h:NoWin w x):Calls Tryz.prog 81 #[x] w fun e w'=>e=.returned (.bool false)/\w'=w:=by
 rcases h with rfl | ⟨b,u,v,rfl,hb⟩
 ·go_enter Tryz.func81,Tryz.ntmps81
  go_wp2
  go_ret
  exact ⟨rfl,rfl⟩
 ·have c0:=hb.cell 0
  simp at c0
  clear hb
  go_enter Tryz.func81,Tryz.ntmps81
  go_wp2
  go_ret
  exact ⟨rfl,rfl⟩
theorem Win.yes {w:World}{b:Nat}{v:Value}{n:Nat}{L:List (Option Cr)}{m:Nat}(h:Win Q w b v n L m):Calls Tryz.prog 81 #[.pointer (some ⟨b,0,none⟩)] w fun e w'=>e=.returned (.bool true)/\w'=w:=by
 obtain ⟨g,cap,rfl,_⟩:=h.sl
 exact there_yes b g n cap _ _ w h.blk h.size.1
theorem mark_yes (b:Nat)(v:Value)(n:Nat)(L:List (Option Cr))(m:Nat)(w:World)(h:Win Q w b v n L m):Calls Tryz.prog 66 #[.pointer (some ⟨b,0,none⟩)] w fun e w'=>e=.returned (.int .i64 (m:Nat))/\w'=w:=by
 have HN:Hid (Win Q w b v n L m):=h
 have c2:=h.blk.cell 2
 simp at c2
 clear h
 go_enter Tryz.func66,Tryz.ntmps66
 go_wp2_with fail
 refine HN.out.yes.mono ?_
 rintro e w1 ⟨rfl,rfl⟩
 go_wp2_with fail
 go_ret
 exact ⟨rfl,rfl⟩
theorem mark_no (x:Value)(w:World)(h:NoWin w x):Calls Tryz.prog 66 #[x] w fun e w'=>e=.returned (.int .i64 0)/\w'=w:=by
 have HN:Hid (NoWin w x):=h
 clear h
 go_enter Tryz.func66,Tryz.ntmps66
 go_wp2_with fail
 refine (there_no x w HN.out).mono ?_
 rintro e w1 ⟨rfl,rfl⟩
 go_wp2_with fail
 go_ret
 exact ⟨rfl,rfl⟩
theorem last_yes (b:Nat)(v:Value)(n:Nat)(L:List (Option Cr))(m:Nat)(w:World)(h:Win Q w b v n L m):Calls Tryz.prog 92 #[.pointer (some ⟨b,0,none⟩)] w fun e w'=>e=.returned (.int .i64 (L.length:Nat))/\w'=w:=by
 have HN:Hid (Win Q w b v n L m):=h
 have c1:=h.blk.cell 1
 simp at c1
 obtain ⟨ln,hln⟩:∃ln,L.length=ln:=⟨_,rfl⟩
 rw [hln] at c1 ⊢
 clear h hln
 go_enter Tryz.func92,Tryz.ntmps92
 go_wp2_with fail
 refine HN.out.yes.mono ?_
 rintro e w1 ⟨rfl,rfl⟩
 go_wp2_with fail
 go_ret
 exact ⟨rfl,rfl⟩
theorem last_no (x:Value)(w:World)(h:NoWin w x):Calls Tryz.prog 92 #[x] w fun e w'=>e=.returned (.int .i64 0)/\w'=w:=by
 have HN:Hid (NoWin w x):=h
 clear h
 go_enter Tryz.func92,Tryz.ntmps92
 go_wp2_with fail
 refine (there_no x w HN.out).mono ?_
 rintro e w1 ⟨rfl,rfl⟩
 go_wp2_with fail
 go_ret
 exact ⟨rfl,rfl⟩
theorem room_yes (b:Nat)(v:Value)(n:Nat)(L:List (Option Cr))(m:Nat)(w:World)(h:Win Q w b v n L m)(hL:L.length<=1000000000002):Calls Tryz.prog 89 #[.pointer (some ⟨b,0,none⟩)] w fun e w'=>e=.returned (.int .i64 (m+n-L.length:Nat))/\w.grownBy w' none:=by
 obtain ⟨g,cap,rfl,hcap⟩:=h.sl
 have HN:Hid (Win Q w b (.slice (some ⟨g,0,none⟩) n cap) n L m):=h
 have c0:=h.blk.cell 0
 have c1:=h.blk.cell 1
 have c2:=h.blk.cell 2
 simp at c0 c1 c2
 obtain ⟨ln,hln⟩:∃ln,L.length=ln:=⟨_,rfl⟩
 have h1:=h.room
 have h2:=h.size
 have h3:=h.top
 rw [hln] at c1 h1 h3 hL ⊢
 have d1:IntKind.i64.wrap ((ln:Int)-(m:Int))=(ln:Int)-(m:Int):=by rw [IntKind.wrap_i64];omega
 have d2:IntKind.i64.wrap ((n:Int)-((ln:Int)-(m:Int)))=(n:Int)-((ln:Int)-(m:Int)):=by rw [IntKind.wrap_i64];omega
 have HE:Hid ((n:Int)-((ln:Int)-(m:Int))=((m+n-ln:Nat):Int)):=by unfold Hid;omega
 clear h hln h1 h2 h3 hcap hL
 go_enter Tryz.func89,Tryz.ntmps89
 go_wp2_with fail
 refine HN.out.yes.mono ?_
 rintro e w1 ⟨rfl,rfl⟩
 go_upto_region 3 with fail
 refine wp_region_noPanic ?_
 refine wp_region_hold 1000 (fun y=>w1.grownBy y none) (by kernel_rfl) ?_
 have HD:Hid (w1.grownBy w1.drew none):=grown_drew _ _
 generalize w1.drew=wd at HD ⊢
 have J:Idx [0,1,2,3,4,5,6,7,8,9,10,11,12,13,14,15]:=trivial
 iterate 16 (refine tK J (HD.out) rfl rfl (fun wk hk=>by have k0:=hk.cell c0 (by simp);have k1:=hk.cell c1 (by simp);have k2:=hk.cell c2 (by simp);go_simp;try rfl) ?_;replace J:=J.tl;try simp only [pN])
 clear J
 refine wpHold_done (by kernel_rfl) ?_
 refine (‹∀(a:Act) (w:World),Code.wp Tryz.prog _ _ a w->_› _ _ ?_)
 go_wp2_with fail
 go_ret
 rw [HE.out]
 exact ⟨rfl,HD.out⟩
theorem place_yes (b:Nat)(g n _n' cap:Nat)(x y:Value)(k j:Nat)(w:World)(hj:k % n=j)(h:Blk w b 144 #[.slice (some ⟨g,0,none⟩) n cap,x,y])(hn:1<=n/\n<=64)(hk:k<=1000000000003):Calls Tryz.prog 90 #[.pointer (some ⟨b,0,none⟩),.int .i64 (k:Nat)] w fun e w'=>e=.returned (.int .i64 (j:Nat))/\w'=w:=by
 subst hj
 have c0:=h.cell 0
 simp at c0
 have i1:((n:Int)==0)=false:=by simp;omega
 have i2:((n:Int)=0)=False:=eq_false (by omega)
 have i3:(n=0)=False:=eq_false (by omega)
 clear h
 go_enter Tryz.func90,Tryz.ntmps90
 go_wp2_with fail
 go_ret
 exact ⟨rfl,rfl⟩
variable {Q:Nat->Prop}
theorem set4 {x:World}{b:Nat}{c0 c1 c2 c3:Value}(h:Blk x b 105 #[c0,c1,c2,c3])(v0 v1 v2 v3:Value):∃W,(((x.setCell ⟨b,0,none⟩ v0).setCell ⟨b,1,none⟩ v1).setCell ⟨b,2,none⟩ v2).setCell ⟨b,3,none⟩ v3=W/\Hid (Blk W b 105 #[v0,v1,v2,v3]/\x.grownBy W (some b)):=by
 have h0:Blk (x.setCell ⟨b,0,none⟩ v0) b 105 #[v0,c1,c2,c3]:=h.store 0 v0
 have h1:Blk ((x.setCell ⟨b,0,none⟩ v0).setCell ⟨b,1,none⟩ v1) b 105 #[v0,v1,c2,c3]:=h0.store 1 v1
 have h2:Blk (((x.setCell ⟨b,0,none⟩ v0).setCell ⟨b,1,none⟩ v1).setCell ⟨b,2,none⟩ v2) b 105 #[v0,v1,v2,c3]:=h1.store 2 v2
 have h3:Blk ((((x.setCell ⟨b,0,none⟩ v0).setCell ⟨b,1,none⟩ v1).setCell ⟨b,2,none⟩ v2).setCell ⟨b,3,none⟩ v3) b 105 #[v0,v1,v2,v3]:=h2.store 3 v3
 exact ⟨_,rfl,h3,grown_trans (grown_trans (grown_trans (grown_setCell _ _ _ _) (grown_setCell _ _ _ _)) (grown_setCell _ _ _ _)) (grown_setCell _ _ _ _)⟩
theorem cells4 {w:World}{b t:Nat}{c0 c1 c2 c3:Value}(h:Blk w b t #[c0,c1,c2,c3]):w.cell? ⟨b,0,none⟩=some c0/\w.cell? ⟨b,1,none⟩=some c1/\w.cell? ⟨b,2,none⟩=some c2/\w.cell? ⟨b,3,none⟩=some c3:=⟨h.cell 0,h.cell 1,h.cell 2,h.cell 3⟩
theorem frees4 {w:World}{b t:Nat}{c0 c1 c2 c3:Value}(h:Blk w b t #[c0,c1,c2,c3]):w.frozen? ⟨b,0,none⟩=false/\w.frozen? ⟨b,1,none⟩=false/\w.frozen? ⟨b,2,none⟩=false/\w.frozen? ⟨b,3,none⟩=false:=⟨h.free 0,h.free 1,h.free 2,h.free 3⟩
theorem res_row {fn:Func}{p u:Tmp}{ty:TypeId}(h:fn.results=#[.cell p ty,.tmp u])(tmps:Array Value)(w:World)(g:Nat)(cs:Array Value)
  (hp:tmps.getD p undef=.pointer (some ⟨g,0,none⟩)) (hl:(loadVar ty ⟨g,0,none⟩).run Tryz.prog w=.ok (.agg cs) w) :
  (results fn tmps).run Tryz.prog w=.ok (.tuple #[.agg cs,tmps.getD u undef]) w:=by
 rw [results_cell_tmp h,hp]
 simp [asAddr,Result.andThen,hl]
theorem load4 {w:World}{g:Nat}{i:Int}{o:Option Addr}{n c:Nat}{f:Bool}{a:Int}(h:Blk w g 105 #[.int .i64 i,.slice o n c,.bool f,.int .i64 a]):(loadVar 105 ⟨g,0,none⟩).run Tryz.prog w=.ok (.agg #[.int .i64 i,.slice o n c,.bool f,.int .i64 a]) w :=
 run_loadVar_row w g 105 105 _ (0,0) _ h Tryz.underlying105 rfl (by kernel_rfl)
def getD (L:List (Option Cr))(z:Int):Cr × Int:=match outD L z with
 | some t=>(t,0)
 | none=>((⟨0,none,0,0,[],false,0⟩:Cr),5)
theorem Win.long {w:World}{b:Nat}{v:Value}{n:Nat}{L:List (Option Cr)}{m:Nat}(h:Win Q w b v n L m):L.length<=m+64:=by have:=h.room;have:=h.size;omega
def FindP (n:Nat)(L:List (Option Cr))(m:Nat)(z:Int)(e:Ending):Prop :=
 (outD L z=none/\e=.returned (.tuple #[.int .i64 0,.int .i64 5]))\/(∃(k:Nat) (t:Cr),outD L z=some t/\z=((k+1:Nat):Int)/\m<=k/\k<L.length/\L[k]? = some (some t)/\e=.returned (.tuple #[.int .i64 ((k+1) % n:Nat),.int .i64 0]))
theorem find_yes (b:Nat)(v:Value)(n:Nat)(L:List (Option Cr))(m:Nat)(z:Int)(w:World)(h:Win Q w b v n L m)(hL:L.length<=1000000000002):Calls Tryz.prog 93 #[.pointer (some ⟨b,0,none⟩),.int .i64 z] w fun e w'=>FindP n L m z e/\w'=w:=by
 obtain ⟨g,cap,rfl,hcap⟩:=h.sl
 have HN:Hid (Win Q w b (.slice (some ⟨g,0,none⟩) n cap) n L m):=h
 have c0:=h.blk.cell 0
 have c1:=h.blk.cell 1
 have c2:=h.blk.cell 2
 simp at c0 c1 c2
 obtain ⟨ln,hln⟩:∃ln,L.length=ln:=⟨_,rfl⟩
 rw [hln] at c1 hL
 by_cases h1:z<=(m:Int)
 ·have HP:Hid (FindP n L m z (.returned (.tuple #[.int .i64 0,.int .i64 5]))):=.inl ⟨outD_low h.low h1,rfl⟩
  clear h hln hcap
  go_enter Tryz.func93,Tryz.ntmps93
  go_wp2_with fail
  refine HN.out.yes.mono ?_
  rintro e w1 ⟨rfl,rfl⟩
  go_wp2_with fail
  go_ret2
  exact ⟨HP.out,rfl⟩
 ·by_cases h2:(ln:Int)<z
  ·have HP:Hid (FindP n L m z (.returned (.tuple #[.int .i64 0,.int .i64 5]))):=.inl ⟨outD_high (by rw [hln];exact h2),rfl⟩
   clear h hln hcap
   go_enter Tryz.func93,Tryz.ntmps93
   go_wp2_with fail
   refine HN.out.yes.mono ?_
   rintro e w1 ⟨rfl,rfl⟩
   go_wp2_with fail
   go_ret2
   exact ⟨HP.out,rfl⟩
  ·obtain ⟨k,hk⟩:∃k:Nat,z=((k+1:Nat):Int):=⟨(z-1).toNat,by omega⟩
   subst hk
   have HK:Hid (m<=k/\k<L.length):=⟨by omega,by omega⟩
   obtain ⟨x,hx,hp⟩:=h.at k HK.out.1 HK.out.2
   obtain ⟨o,ho⟩:∃o,L[k]'HK.out.2=o:=⟨_,rfl⟩
   rw [ho] at hp
   have HO:Hid (L[k]? = some o):=by rw [Hid,List.getElem?_eq_getElem HK.out.2,ho]
   have hmod:(k+1) % n<n:=Nat.mod_lt _ (by have:=h.size;omega)
   obtain ⟨j,hj⟩:∃j,(k+1) % n=j:=⟨_,rfl⟩
   have HJ:Hid ((k+1) % n=j):=hj
   rw [hj] at hx hmod
   have j1:(j:Int)<(n:Int):=by omega
   have j2:(0:Int)<=(j:Int):=by omega
   cases o with
   | none =>
    have hp':x=.pointer none:=hp
    subst hp'
    have HP:Hid (FindP n L m ((k+1:Nat):Int) (.returned (.tuple #[.int .i64 0,.int .i64 5]))):=.inl ⟨by rw [outD_nat,HO.out];rfl,rfl⟩
    clear h hln hcap hj hp ho
    go_enter Tryz.func93,Tryz.ntmps93
    go_wp2_with fail
    refine HN.out.yes.mono ?_
    rintro e w1 ⟨rfl,rfl⟩
    go_wp2_with fail
    refine (place_yes b g n n cap _ _ (k+1) j w1 HJ.out HN.out.blk HN.out.size (by have:=HK.out;omega)).mono ?_
    rintro e w1 ⟨rfl,rfl⟩
    go_wp2_with fail
    go_ret2
    exact ⟨HP.out,rfl⟩
   | some t =>
    obtain ⟨p,rfl,hpb,_⟩:=hp
    have HP:Hid (FindP n L m ((k+1:Nat):Int) (.returned (.tuple #[.int .i64 (j:Nat),.int .i64 0]))):=.inr ⟨k,t,by rw [outD_nat,HO.out];rfl,rfl,HK.out.1,HK.out.2,HO.out,by rw [HJ.out]⟩
    clear h hln hcap hj hpb ho
    go_enter Tryz.func93,Tryz.ntmps93
    go_wp2_with fail
    refine HN.out.yes.mono ?_
    rintro e w1 ⟨rfl,rfl⟩
    go_wp2_with fail
    refine (place_yes b g n n cap _ _ (k+1) j w1 HJ.out HN.out.blk HN.out.size (by have:=HK.out;omega)).mono ?_
    rintro e w1 ⟨rfl,rfl⟩
    go_wp2_with fail
    go_ret2
    exact ⟨HP.out,rfl⟩
def GetP (L:List (Option Cr))(z:Int)(w:World)(e:Ending)(w':World):Prop:=e=.returned (.tuple #[.agg #[.int .i64 ((getD L z).1).id,.slice ((getD L z).1).o ((getD L z).1).n ((getD L z).1).c,.bool ((getD L z).1).was,.int .i64 ((getD L z).1).tm],.int .i64 (getD L z).2])/\w.grownBy w' none
theorem get_yes (b:Nat)(v:Value)(n:Nat)(L:List (Option Cr))(m:Nat)(z:Int)(w:World)(h:Win Q w b v n L m)(hL:L.length<=1000000000002):Calls Tryz.prog 140 #[.pointer (some ⟨b,0,none⟩),.int .i64 z] w (GetP L z w):=by
 obtain ⟨g,cap,rfl,hcap⟩:=h.sl
 obtain ⟨W,hW,HA⟩:=al1 w #[.int .i64 0,.slice none 0 0,.bool false,.int .i64 0] 105
 have HN:Hid (Win Q W b (.slice (some ⟨g,0,none⟩) n cap) n L m):=h.grown HA.out.2.1
 obtain ⟨p0,hp0⟩:∃x,w.heap.size=x:=⟨_,rfl⟩
 have HG:Hid (w.grownBy W none/\Blk W p0 105 #[.int .i64 0,.slice none 0 0,.bool false,.int .i64 0]):=⟨HA.out.2.1,by rw [<-hp0];exact HA.out.1⟩
 have HW:Hid (w.alloc (.cells #[.int .i64 0,.slice none 0 0,.bool false,.int .i64 0] 105)=W/\w.heap.size=p0):=⟨hW,hp0⟩
 clear h hcap hW HA hp0
 go_enter Tryz.func140,Tryz.ntmps140
 go_upto_region 1 with fail
 rw [HW.out.1,HW.out.2]
 go_wp2_with fail
 refine (find_yes b _ n L m z W HN.out hL).mono ?_
 rintro e w1 ⟨hf,rfl⟩
 rcases hf with ⟨hno,rfl⟩ | ⟨k,t,hso,rfl,hk,hl,hg,rfl⟩
 ·have HX:Hid (getD L z=((⟨0,none,0,0,[],false,0⟩:Cr),5)):=by unfold Hid getD;rw [hno]
  clear hno
  go_upto_region 4 with fail
  obtain ⟨W2,hW2,H2⟩:=al1 w1 #[.int .i64 0,.slice none 0 0,.bool false,.int .i64 0] 105
  rw [hW2]
  clear hW2
  obtain ⟨k0,k1,k2,k3⟩:=cells4 H2.out.1
  have HB:Hid (Blk W2 p0 105 #[.int .i64 0,.slice none 0 0,.bool false,.int .i64 0]):=HG.out.2.grown H2.out.2.1 (by simp)
  obtain ⟨q0,q1,q2,q3⟩:=cells4 HB.out
  obtain ⟨f0,f1,f2,f3⟩:=frees4 HB.out
  go_wp2_with fail
  obtain ⟨W3,hW3,H3⟩:=set4 HB.out (.int .i64 0) (.slice none 0 0) (.bool false) (.int .i64 0)
  rw [hW3]
  clear hW3
  refine bodyPost_ret (v:=_) (res_row rfl _ _ p0 _ rfl (load4 H3.out.1)) rfl ?_
  unfold GetP
  rw [HX.out]
  exact ⟨rfl,grown_new (grown_trans HG.out.1 H2.out.2.1) H3.out.2 (by intro x hx;simp at hx;have:=HW.out.2;omega)⟩
 ·have HX:Hid (getD L ((k+1:Nat):Int)=(t,0)):=by unfold Hid getD;rw [hso]
  obtain ⟨x,hx,hp⟩:=HN.out.at k hk hl
  have ho:L[k]'hl=some t:=(List.getElem?_eq_some_iff.1 hg).2
  rw [ho] at hp
  obtain ⟨p,rfl,hpb,_⟩:=hp
  have hmod:(k+1) % n<n:=Nat.mod_lt _ (by have:=HN.out.size;omega)
  obtain ⟨j,hj⟩:∃j,(k+1) % n=j:=⟨_,rfl⟩
  rw [hj] at hx hmod ⊢
  have j1:(j:Int)<(n:Int):=by omega
  have j2:(0:Int)<=(j:Int):=by omega
  obtain ⟨k0,k1,k2,k3⟩:=cells4 hpb
  have c0:=HN.out.blk.cell 0
  simp at c0
  obtain ⟨q0,q1,q2,q3⟩:=cells4 HG.out.2
  obtain ⟨f0,f1,f2,f3⟩:=frees4 HG.out.2
  clear hso hg ho hpb hj hk hl
  go_wp2_with fail
  obtain ⟨W3,hW3,H3⟩:=set4 HG.out.2 (.int .i64 t.id) (.slice t.o t.n t.c) (.bool t.was) (.int .i64 t.tm)
  rw [hW3]
  clear hW3
  refine bodyPost_ret (v:=_) (res_row rfl _ _ p0 _ rfl (load4 H3.out.1)) rfl ?_
  unfold GetP
  rw [HX.out]
  exact ⟨rfl,grown_new HG.out.1 H3.out.2 (by intro x hx;simp at hx;have:=HW.out.2;omega)⟩
variable {Q:Nat->Prop}
def Ring (Q:Nat->Prop)(w:World)(v:Value)(n:Nat)(L:List (Option Cr))(m:Nat):Prop:=∃xs,Row 142 w 0 v xs/\xs.length=n/\∀k,m<=k->∀(h:k<L.length),∃x,xs[(k+1) % n]? = some x/\Pl Q w x L[k]
theorem Ring.grown {w w':World}{v:Value}{n:Nat}{L:List (Option Cr)}{m:Nat}(h:Ring Q w v n L m)(hg:w.grownBy w' none):Ring Q w' v n L m:=by
 obtain ⟨xs,h1,h2,h3⟩:=h
 exact ⟨xs,h1.grown hg,h2,fun k hk hl=>let ⟨x,hx,hp⟩:=h3 k hk hl;⟨x,hx,hp.grown hg⟩⟩
theorem Ring.but {w w':World}{v:Value}{n b t:Nat}{c:Array Value}{L:List (Option Cr)}{m:Nat}(h:Ring Q w v n L m)(hg:w.grownBy w' (some b))(hb:Blk w b t c)(h1:t≠142)(h2:t≠105):Ring Q w' v n L m:=by
 obtain ⟨xs,hr,hl,h3⟩:=h
 refine ⟨xs,hr.same fun k hk=>?_,hl,fun k hk hl=>?_⟩
 ·obtain ⟨C,hC⟩:=hr.blk k hk
  refine hg.block k hC.lt fun e=>?_
  simp at e
  subst e
  exact h1 (blk_type hb hC)
 ·obtain ⟨x,hx,hp⟩:=h3 k hk hl
  refine ⟨x,hx,hp.same fun i c hi=>hi.grown hg fun e=>?_⟩
  simp at e
  subst e
  exact h2 (blk_type hb hi)
theorem Ring.mono {Q':Nat->Prop}{w:World}{v:Value}{n:Nat}{L:List (Option Cr)}{m:Nat}(h:Ring Q w v n L m)(hq:∀i,Q i->Q' i):Ring Q' w v n L m:=by
 obtain ⟨xs,h1,h2,h3⟩:=h
 exact ⟨xs,h1,h2,fun k hk hl=>let ⟨x,hx,hp⟩:=h3 k hk hl;⟨x,hx,hp.mono hq⟩⟩
theorem Ring.blk {w:World}{g n' cap n:Nat}{L:List (Option Cr)}{m:Nat}(h:Ring Q w (.slice (some ⟨g,0,none⟩) n' cap) n L m):∃C,Blk w g 142 C:=by
 obtain ⟨xs,hr,_⟩:=h
 exact hr.blk g rfl
theorem ring_put {w:World}{g n cap m k:Nat}{L L':List (Option Cr)}{x:Value}(hr:Ring Q w (.slice (some ⟨g,0,none⟩) n cap) n L m)(hn:1<=n)(hl:L'.length<=m+n)(hk:m<=k)(hk':k<L'.length)(ho:∀j,m<=j->j≠k->∀h':j<L'.length,L[j]? = some L'[j])
  (hx:Pl Q w x L'[k]) (h1:x.oneCell'=true):Ring Q (w.setCell ⟨g,(k+1) % n,none⟩ x) (.slice (some ⟨g,0,none⟩) n cap) n L' m:=by
 obtain ⟨xs,h2,h3,h4⟩:=hr
 obtain ⟨C,hC⟩:=h2.blk g rfl
 have hkeep:∀i c,Blk w i 105 c->Blk (w.setCell ⟨g,(k+1) % n,none⟩ x) i 105 c:=fun i c hi=>hi.grown (grown_setCell _ _ _ _) fun e=>by
  simp at e
  subst e
  exact absurd (blk_type hC hi) (by decide)
 have hmod:(k+1) % n<xs.length:=by rw [h3];exact Nat.mod_lt _ (by omega)
 refine ⟨xs.set ((k+1) % n) x,h2.put _ hmod x h1,by simpa using h3,fun j hj hjl=>?_⟩
 by_cases e:j=k
 ·subst e
  exact ⟨x,by rw [List.getElem?_set_self hmod],hx.same hkeep⟩
 ·have e1:=ho j hj e hjl
  obtain ⟨hjL,e2⟩:=List.getElem?_eq_some_iff.1 e1
  obtain ⟨y,hy,hp⟩:=h4 j hj hjL
  refine ⟨y,?_,?_⟩
  ·rw [List.getElem?_set_ne (fun e3=>mod_apart hj (by omega) hk (by omega) e e3.symm)]
   exact hy
  ·rw [<-e2]
   exact hp.same hkeep
theorem row_lift {w:World}{B n:Nat}{v:Value}{xs:List Value}(h:Row 142 w B v xs)(hn:xs.length=n):Ring Q w v n [] 0:=⟨xs,h.mono (Nat.zero_le _),hn,fun k _ hl=>absurd hl (by simp)⟩
theorem infoR:(Tryz.prog.info? 142).map (fun i=>(i.zero,i.size,i.bytes))=some (some (.pointer none),1,8):=by kernel_rfl
theorem utR:Tryz.prog.underlying 140=some (.slice 142):=by kernel_rfl
theorem makeR (n:Nat)(x:Int)(hx:x=(n:Int))(hn:n<=64)(w:World):∃W,(Instr.makeSlice 140 (.int .i64 x) (.int .i64 x)).run Tryz.prog w=.ok (.slice (some ⟨w.heap.size,0,none⟩) n n) W/\Hid (Row 142 W w.heap.size (.slice (some ⟨w.heap.size,0,none⟩) n n) (List.replicate n (.pointer none))/\w.grownBy W none):=by
 subst hx
 obtain ⟨i0,hi,hz0,hz1,hz2⟩:=info_parts1 infoR
 obtain ⟨W,h1,h2,h3⟩:=run_make_full (P:=Tryz.prog) w w.heap.size 140 142 i0 _ 1 utR hi hz0 hz1 .i64 .i64 n (by rw [hz2];omega) (by simp [maxLen];omega) (Nat.le_refl _)
 refine ⟨W,h1,⟨?_,fun y hy=>by rw [List.eq_of_mem_replicate hy];rfl⟩,h3⟩
 have e:=made_one (.pointer none) n
 rw [List.length_replicate,<-e]
 exact h2
def NewP (n:Nat)(w:World)(e:Ending)(w':World):Prop:=∃b v,e=.returned (.tuple #[.pointer (some ⟨b,0,none⟩),.int .i64 0])/\Win (fun _=>False) w' b v n [] 0/\w.grownBy w' none/\∀i,FN b v i->w.heap.size<=i
theorem new_win (n:Nat)(w:World)(h1:1<=n)(h2:n<=64):Calls Tryz.prog 101 #[.int .i64 (n:Nat)] w (NewP n w):=by
 have i1:¬((n:Int)<1):=by omega
 have i2:¬((64:Int)<(n:Int)):=by omega
 obtain ⟨W,mk1,HM⟩:=makeR n n rfl h2 w
 have HS:Hid (1<=n/\n<=64):=⟨h1,h2⟩
 clear h1 h2
 go_enter Tryz.func101,Tryz.ntmps101
 go_wp2_with fail
 go_ret2
 have hb:Blk (W.alloc (.cells #[.slice (some ⟨w.heap.size,0,none⟩) n n,.int .i64 0,.int .i64 0] 144)) W.heap.size 144 #[.slice (some ⟨w.heap.size,0,none⟩) n n,.int .i64 0,.int .i64 0]:=heap_alloc_new W _
 have hg:=World.grownBy_alloc W (.cells #[.slice (some ⟨w.heap.size,0,none⟩) n n,.int .i64 0,.int .i64 0] 144) none
 refine ⟨W.heap.size,_,rfl,⟨hb,(row_lift HM.out.1 (by simp)).grown hg,fun k hk=>absurd hk (Nat.not_lt_zero _),by simp,HS.out,Nat.le_refl _⟩,grown_trans HM.out.2 hg,?_⟩
 rintro i (rfl | hi)
 ·exact HM.out.2.size
 ·simp [Value.ownBlock] at hi
  omega
def GiveP (Q:Nat->Prop)(w:World)(b:Nat)(v:Value)(n:Nat)(L:List (Option Cr))(m:Nat)(x:Cr)(e:Ending)(w':World):Prop :=
 (L.length=m+n/\e=.returned (.tuple #[.int .i64 0,.int .i64 7])/\Win Q w' b v n L m/\Fr w w' (FN b v)) ∨
  (L.length<m+n/\e=.returned (.tuple #[.int .i64 (L.length+1:Nat),.int .i64 0])/\Win (Qn Q w w') w' b v n (L ++ [some x]) m/\Fr w w' (FN b v))
theorem give_yes (b:Nat)(v:Value)(n:Nat)(L:List (Option Cr))(m:Nat)(x:Cr)(w:World)(h:Win Q w b v n L m)(hL:L.length<=1000000000000):Calls Tryz.prog 62 #[.pointer (some ⟨b,0,none⟩),.agg #[.int .i64 x.id,.slice x.o x.n x.c,.bool x.was,.int .i64 x.tm]] w (GiveP Q w b v n L m x):=by
 obtain ⟨g,cap,rfl,hcap⟩:=h.sl
 have HN:Hid (Win Q w b (.slice (some ⟨g,0,none⟩) n cap) n L m/\L.length<=1000000000000):=⟨h,hL⟩
 clear h hcap hL
 go_enter Tryz.func62,Tryz.ntmps62
 go_upto_region 1 with fail
 obtain ⟨w1,hw1,H1⟩:=al1 w #[.int .i64 x.id,.slice x.o x.n x.c,.bool x.was,.int .i64 x.tm] 105
 rw [hw1]
 obtain ⟨p,hp⟩:∃p,w.heap.size=p:=⟨_,rfl⟩
 rw [hp] at H1 ⊢
 clear hw1
 go_wp2_with fail
 refine (HN.out.1.grown H1.out.2.1).yes.mono ?_
 rintro e w2 ⟨rfl,rfl⟩
 go_wp2_with fail
 refine (room_yes b _ n L m w2 (HN.out.1.grown H1.out.2.1) (by have:=HN.out.2;omega)).mono ?_
 rintro e w3 ⟨rfl,hg3⟩
 have H3:Hid (w.grownBy w3 none/\Blk w3 p 105 #[.int .i64 x.id,.slice x.o x.n x.c,.bool x.was,.int .i64 x.tm]):=⟨grown_trans H1.out.2.1 hg3,H1.out.1.grown hg3 (by simp)⟩
 clear hg3
 by_cases hfull:m+n-L.length=0
 ·rw [hfull]
  have HP:Hid (GiveP Q w b (.slice (some ⟨g,0,none⟩) n cap) n L m x (.returned (.tuple #[.int .i64 0,.int .i64 7])) w3):=.inl ⟨by have:=HN.out.1.room;omega,rfl,HN.out.1.grown H3.out.1,Fr.of H3.out.1 (by simp)⟩
  clear hfull
  go_wp2_with fail
  go_ret2
  exact HP.out
 ·obtain ⟨r,hr⟩:∃r,m+n-L.length=r:=⟨_,rfl⟩
  obtain ⟨ln,hln⟩:∃ln,L.length=ln:=⟨_,rfl⟩
  rw [hr] at hfull ⊢
  have i1:((r:Int)==0)=false:=by simp;omega
  have i2:((r:Int)=0)=False:=eq_false (by omega)
  have i3:(r=0)=False:=eq_false (by omega)
  have HB:Hid (Blk w3 b 144 #[.slice (some ⟨g,0,none⟩) n cap,.int .i64 (ln:Nat),.int .i64 (m:Nat)]/\L.length=ln/\ln<m+n):=by
   have h1:=(HN.out.1.grown H3.out.1).blk
   rw [hln] at h1
   exact ⟨h1,hln,by omega⟩
  have c1:=HB.out.1.cell 1
  have f1:=HB.out.1.free 1
  have d1:IntKind.i64.wrap ((ln:Int)+1)=(ln:Int)+1:=by have:=HN.out.2;rw [IntKind.wrap_i64];omega
  simp at c1
  clear hfull hr hln
  go_upto_region 6 with fail
  obtain ⟨w4,hw4⟩:∃W,w3.setCell ⟨b,1,none⟩ (.int .i64 ((ln:Int)+1))=W:=⟨_,rfl⟩
  have H4:Hid (Blk w4 b 144 #[.slice (some ⟨g,0,none⟩) n cap,.int .i64 (ln+1:Nat),.int .i64 (m:Nat)]/\w3.grownBy w4 (some b)/\Ring Q w4 (.slice (some ⟨g,0,none⟩) n cap) n L m/\Blk w4 p 105 #[.int .i64 x.id,.slice x.o x.n x.c,.bool x.was,.int .i64 x.tm]):=by
   rw [<-hw4]
   have gs:=grown_setCell w3 b 1 (.int .i64 ((ln:Int)+1))
   refine ⟨by simpa using HB.out.1.store 1 (.int .i64 ((ln:Int)+1)),gs,Ring.but (HN.out.1.grown H3.out.1).ring gs HB.out.1 (by decide) (by decide),H3.out.2.grown gs fun e=>?_⟩
   simp at e
   subst e
   exact absurd (blk_type H3.out.2 HB.out.1) (by decide)
  rw [hw4]
  clear hw4 c1 f1 i1 i2 i3 d1
  obtain ⟨j,hj⟩:∃j,(ln+1) % n=j:=⟨_,rfl⟩
  have HJ:Hid ((ln+1) % n=j/\j<n):=⟨hj,by rw [<-hj];exact Nat.mod_lt _ (by have:=HN.out.1.size;omega)⟩
  clear hj
  have j1:(j:Int)<(n:Int):=by have:=HJ.out;omega
  have j2:(0:Int)<=(j:Int):=by omega
  refine wp_region_hold 11 (fun y=>w4.grownBy y none) (by kernel_rfl) ?_
  have HD:Hid (w4.grownBy w4.drew none):=grown_drew _ _
  generalize w4.drew=wd at HD ⊢
  have J:Idx [0,1,2,3,4,5,6,7,8]:=trivial
  iterate 9 (refine tK J (HD.out) rfl rfl (fun wk hk=>by have k0:=(H4.out.1.grown hk (by simp)).cell 0;have k1:=(H4.out.1.grown hk (by simp)).cell 1;simp at k0 k1;go_simp;try rfl) ?_;replace J:=J.tl;try simp only [pN])
  clear J
  refine wpHold_one (i:=9) rfl (by kernel_rfl) (by rfl) (fun K hK=>?_)
  go_wp2_with fail
  refine (place_yes b g n n cap _ _ (ln+1) j wd HJ.out.1 (H4.out.1.grown HD.out (by simp)) HN.out.1.size (by have:=HN.out.2;have:=HB.out;omega)).mono ?_
  rintro e w5 ⟨rfl,rfl⟩
  go_wp2_with fail
  refine hK.out _ _ (fun _=>HD.out) ?_
  clear hK K
  try simp only [pN]
  have J:Idx [10]:=trivial
  iterate 1 (refine tK J (HD.out) rfl rfl (fun wk hk=>by have k0:=(H4.out.1.grown hk (by simp)).cell 0;have k1:=(H4.out.1.grown hk (by simp)).cell 1;simp at k0 k1;go_simp;try rfl) ?_;replace J:=J.tl;try simp only [pN])
  clear J
  refine wpHold_one (i:=11) rfl (by kernel_rfl) (by rfl) (fun K hK=>?_)
  obtain ⟨q0,hq0⟩:∃x,w5.cell? ⟨g,j,none⟩=some x:=by
   obtain ⟨xs,h1,h2,_⟩:=H4.out.2.2.1.grown HD.out
   exact ⟨_,h1.cell j (by have:=HJ.out;omega)⟩
  have f0:w5.frozen? ⟨g,j,none⟩=false:=by
   obtain ⟨xs,h1,h2,_⟩:=H4.out.2.2.1.grown HD.out
   exact h1.free j
  go_wp2_with fail
  refine hK.out _ _ (fun h=>absurd rfl h) ?_
  clear hK K
  try simp only [pN]
  refine wpHold_done (by kernel_rfl) ?_
  refine (‹∀(a:Act) (w:World),Code.wp Tryz.prog _ _ a w->_› _ _ ?_)
  have HW:Hid (Win (Qn Q w (w5.setCell ⟨g,j,none⟩ (.pointer (some ⟨p,0,none⟩)))) (w5.setCell ⟨g,j,none⟩ (.pointer (some ⟨p,0,none⟩))) b (.slice (some ⟨g,0,none⟩) n cap) n (L ++ [some x]) m/\Fr w (w5.setCell ⟨g,j,none⟩ (.pointer (some ⟨p,0,none⟩))) (FN b (.slice (some ⟨g,0,none⟩) n cap))):=by
   have h0:=HN.out.1
   have h1:=HB.out
   have hb5:=H4.out.1.grown HD.out (by simp)
   have hr5:=H4.out.2.2.1.grown HD.out
   have gs:=grown_setCell w5 g j (.pointer (some ⟨p,0,none⟩))
   have hll:(L ++ [some x]).length=ln+1:=by simp;omega
   refine ⟨⟨?_,?_,fun k hk=>?_,by omega,h0.size,by have:=h0.top;omega⟩,?_⟩
   ·rw [hll]
    refine hb5.grown gs fun e=>?_
    simp at e
    subst e
    obtain ⟨C,hC⟩:=hr5.blk
    exact absurd (blk_type hC hb5) (by decide)
   ·rw [<-HJ.out.1]
    refine ring_put (hr5.mono fun i hi=>.inl hi) h0.size.1 (by omega) (by have:=h0.top;omega) (by omega) (fun j hj hne h'=>?_) ?_ rfl
    ·rw [List.getElem_append_left (by omega)]
     exact List.getElem?_eq_getElem _
    ·rw [List.getElem_append_right (by omega)]
     simp only [List.getElem_singleton]
     have hpb:=H4.out.2.2.2.grown HD.out (by simp)
     exact ⟨p,rfl,hpb,.inr ⟨by omega,by have:=hpb.lt;simp;omega⟩⟩
   ·rw [List.getElem?_append_left (by have:=h0.top;omega)]
    exact h0.low k hk
   ·refine ((Fr.of (F:=FN b (.slice (some ⟨g,0,none⟩) n cap)) H3.out.1 (by simp)).trans (Fr.of (F:=FN b (.slice (some ⟨g,0,none⟩) n cap)) H4.out.2.1 fun k hk=>.inl (by simpa using hk.symm)) fun i hi=>.inl hi).trans ((Fr.of (F:=FN b (.slice (some ⟨g,0,none⟩) n cap)) HD.out (by simp)).trans (Fr.of (F:=FN b (.slice (some ⟨g,0,none⟩) n cap)) gs fun k hk=>.inr hk) fun i hi=>.inl hi) fun i hi=>.inl hi
  have c1:=HW.out.1.blk.cell 1
  have HL:Hid ((L ++ [some x]).length=ln+1/\ln=L.length):=⟨by have:=HB.out;simp;omega,HB.out.2.1.symm⟩
  rw [HL.out.1] at c1
  simp at c1
  generalize w5.setCell ⟨g,j,none⟩ (.pointer (some ⟨p,0,none⟩))=w6 at HW c1 ⊢
  clear j1 j2
  go_wp2_with fail
  go_ret2
  refine .inr ⟨by have:=HB.out;omega,?_,HW.out⟩
  rw [<-HL.out.2]
  rfl
variable {Q:Nat->Prop}
theorem win_mark {w:World}{b:Nat}{v:Value}{n:Nat}{L:List (Option Cr)}{m:Nat}(h:Win Q w b v n L m)(hl:L[m]? = some none):Win Q (w.setCell ⟨b,2,none⟩ (.int .i64 (m+1:Nat))) b v n L (m+1):=by
 have gs:=grown_setCell w b 2 (.int .i64 (m+1:Nat))
 have hr:Ring Q (w.setCell ⟨b,2,none⟩ (.int .i64 (m+1:Nat))) v n L m:=Ring.but h.ring gs h.blk (by decide) (by decide)
 obtain ⟨xs,h1,h2,h3⟩:=hr
 refine ⟨by simpa using h.blk.store 2 (.int .i64 (m+1:Nat)),⟨xs,h1,h2,fun k hk hl=>h3 k (by omega) hl⟩,fun k hk=>?_,by have:=h.room;omega,h.size,?_⟩
 ·by_cases e:k=m
  ·rw [e];exact hl
  ·exact h.low k (by omega)
 ·have:=(List.getElem?_eq_some_iff.1 hl).1
  omega
def RiseP (Q:Nat->Prop)(w:World)(b:Nat)(v:Value)(n:Nat)(L:List (Option Cr))(e:Ending)(w':World):Prop:=(∃x,e=.returned x)/\Win Q w' b v n L (lead L)/\Fr w w' (FN b v)
theorem rise_yes (b:Nat)(v:Value)(n:Nat)(L:List (Option Cr))(m:Nat)(w:World)(h:Win Q w b v n L m)(hL:L.length<=1000000000000):Calls Tryz.prog 141 #[.pointer (some ⟨b,0,none⟩)] w (RiseP Q w b v n L):=by
 obtain ⟨g,cap,rfl,hcap⟩:=h.sl
 obtain ⟨ln,hln⟩:∃ln,L.length=ln:=⟨_,rfl⟩
 have HN:Hid (Win Q w b (.slice (some ⟨g,0,none⟩) n cap) n L m/\L.length=ln/\ln<=1000000000000):=⟨h,hln,by omega⟩
 clear h hcap hL hln
 go_enter Tryz.func141,Tryz.ntmps141
 refine wp_scope_straight ?_
 go_wp2_with fail
 refine wp_label ?_
 refine (‹∀(a:Act) (w:World),Code.wp Tryz.prog _ _ a w->_› _ _ ?_)
 go_wp2_with fail
 go_loopg [] (ln-m) (fun k wr=>∃m':Nat,k=ln-m'/\Hid (Win Q wr b (.slice (some ⟨g,0,none⟩) n cap) n L m'/\Fr w wr (FN b (.slice (some ⟨g,0,none⟩) n cap))))
 case atStart=>exact ⟨m,rfl,HN.out.1,Fr.of (grown_refl w none) (by simp)⟩
 case round =>
  obtain ⟨m',rfl,HI⟩:=hrel
  have c0:=HI.out.1.blk.cell 0
  have c1:=HI.out.1.blk.cell 1
  have c2:=HI.out.1.blk.cell 2
  rw [HN.out.2.1] at c1
  simp at c0 c1 c2
  have d1:IntKind.i64.wrap ((m':Int)+1)=(m':Int)+1:=by have:=HI.out.1.top;have:=HN.out.2;rw [IntKind.wrap_i64];omega
  by_cases hlt:m'<ln
  ·have i1:¬((ln:Int)<(m':Int)+1):=by omega
   have HK:Hid (m'<ln/\m'<L.length):=⟨hlt,by rw [HN.out.2.1];exact hlt⟩
   obtain ⟨x,hx,hp⟩:=HI.out.1.at m' (Nat.le_refl _) HK.out.2
   obtain ⟨o,ho⟩:∃o,L[m']'HK.out.2=o:=⟨_,rfl⟩
   rw [ho] at hp
   have HO:Hid (L[m']? = some o):=by rw [Hid,List.getElem?_eq_getElem HK.out.2,ho]
   obtain ⟨j,hj⟩:∃j,(m'+1) % n=j:=⟨_,rfl⟩
   have HJ:Hid ((m'+1) % n=j/\j<n):=⟨hj,by rw [<-hj];exact Nat.mod_lt _ (by have:=HN.out.1.size;omega)⟩
   rw [hj] at hx
   have j1:(j:Int)<(n:Int):=by have:=HJ.out;omega
   have j2:(0:Int)<=(j:Int):=by omega
   clear hj ho hlt
   go_upto_region 3 with fail
   refine wp_region_noPanic ?_
   refine wp_region_hold 1000 (fun y=>wr.grownBy y none) (by kernel_rfl) ?_
   have HD:Hid (wr.grownBy wr.drew none):=grown_drew _ _
   generalize wr.drew=wd at HD ⊢
   cases o with
   | none =>
    have hp':x=.pointer none:=hp
    subst hp'
    clear hp
    have J:Idx [0,1,2,3,4,5]:=trivial
    iterate 6 (refine tK J (HD.out) rfl rfl (fun wk hk=>by have k0:=hk.cell c0 (by simp);have k3:=hk.cell hx (by simp);go_simp;try rfl) ?_;replace J:=J.tl;try simp only [pN])
    clear J
    refine wpHold_one (i:=6) rfl (by kernel_rfl) (by rfl) (fun K hK=>?_)
    go_wp2_with fail
    refine (place_yes b g n n cap _ _ (m'+1) j wd HJ.out.1 (HI.out.1.blk.grown HD.out (by simp)) HN.out.1.size (by have:=HN.out.2;have:=HK.out;omega)).mono ?_
    rintro e w5 ⟨rfl,rfl⟩
    go_wp2_with fail
    refine hK.out _ _ (fun _=>HD.out) ?_
    clear hK K
    try simp only [pN]
    have J:Idx [7,8,9,10]:=trivial
    iterate 4 (refine tK J (HD.out) rfl rfl (fun wk hk=>by have k0:=hk.cell c0 (by simp);have k3:=hk.cell hx (by simp);go_simp;try rfl) ?_;replace J:=J.tl;try simp only [pN])
    clear J
    refine wpHold_done (by kernel_rfl) ?_
    refine (‹∀(a:Act) (w:World),Code.wp Tryz.prog _ _ a w->_› _ _ ?_)
    have HW:=HI.out.1.grown HD.out
    have HM:Hid (Win Q (w5.setCell ⟨b,2,none⟩ (.int .i64 ((m':Int)+1))) b (.slice (some ⟨g,0,none⟩) n cap) n L (m'+1)/\Fr w (w5.setCell ⟨b,2,none⟩ (.int .i64 ((m':Int)+1))) (FN b (.slice (some ⟨g,0,none⟩) n cap))):=by
     refine ⟨by simpa using win_mark HW HO.out,(HI.out.2.trans (Fr.of (F:=FN b (.slice (some ⟨g,0,none⟩) n cap)) HD.out (by simp)) fun i hi=>.inl hi).trans (Fr.of (F:=FN b (.slice (some ⟨g,0,none⟩) n cap)) (grown_setCell w5 b 2 _) fun k hk=>.inl (by simpa using hk.symm)) fun i hi=>.inl hi⟩
    have k2:=HW.blk.cell 2
    have f2:=HW.blk.free 2
    simp at k2
    clear c0 c1 c2 hx HW
    go_wp2_with fail
    go_roundg (ln-(m'+1))
    case rel=>exact ⟨m'+1,rfl,HM.out⟩
    case measure=>have:=HK.out;omega
   | some t =>
    obtain ⟨p,rfl,hpb,_⟩:=hp
    clear hpb
    have J:Idx [0,1,2,3,4,5]:=trivial
    iterate 6 (refine tK J (HD.out) rfl rfl (fun wk hk=>by have k0:=hk.cell c0 (by simp);have k3:=hk.cell hx (by simp);go_simp;try rfl) ?_;replace J:=J.tl;try simp only [pN])
    clear J
    refine wpHold_one (i:=6) rfl (by kernel_rfl) (by rfl) (fun K hK=>?_)
    go_wp2_with fail
    refine (place_yes b g n n cap _ _ (m'+1) j wd HJ.out.1 (HI.out.1.blk.grown HD.out (by simp)) HN.out.1.size (by have:=HN.out.2;have:=HK.out;omega)).mono ?_
    rintro e w5 ⟨rfl,rfl⟩
    go_wp2_with fail
    refine hK.out _ _ (fun _=>HD.out) ?_
    clear hK K
    try simp only [pN]
    have J:Idx [7,8,9,10]:=trivial
    iterate 4 (refine tK J (HD.out) rfl rfl (fun wk hk=>by have k0:=hk.cell c0 (by simp);have k3:=hk.cell hx (by simp);go_simp;try rfl) ?_;replace J:=J.tl;try simp only [pN])
    clear J
    refine wpHold_done (by kernel_rfl) ?_
    refine (‹∀(a:Act) (w:World),Code.wp Tryz.prog _ _ a w->_› _ _ ?_)
    have HE:Hid (lead L=m'):=lead_eq L m' HI.out.1.low (.inr ⟨t,HO.out⟩)
    clear c0 c1 c2 hx
    go_wp2_with fail
    refine ⟨rfl,_,results_none rfl _ _ _,⟨_,rfl⟩,?_,?_⟩
    ·rw [HE.out]
     exact HI.out.1.grown HD.out
    ·exact HI.out.2.trans (Fr.of (F:=FN b (.slice (some ⟨g,0,none⟩) n cap)) HD.out (by simp)) fun i hi=>.inl hi
  ·have i1:((ln:Int)<(m':Int)+1):=by omega
   have HE:Hid (lead L=m'):=lead_eq L m' HI.out.1.low (.inl (by have:=HI.out.1.top;have:=HN.out.2.1;omega))
   go_wp2_with fail
   refine ⟨rfl,_,results_none rfl _ _ _,⟨_,rfl⟩,?_,HI.out.2⟩
   rw [HE.out]
   exact HI.out.1
def Qs (Q:Nat->Prop)(w:World)(i:Nat):Prop:=Q i/\i<w.heap.size
theorem Win.strict {w:World}{b:Nat}{v:Value}{n:Nat}{L:List (Option Cr)}{m:Nat}(h:Win Q w b v n L m):Win (Qs Q w) w b v n L m:=by
 obtain ⟨xs,h1,h2,h3⟩:=h.ring
 refine ⟨h.blk,⟨xs,h1,h2,fun k hk hl=>?_⟩,h.low,h.room,h.size,h.top⟩
 obtain ⟨x,hx,hp⟩:=h3 k hk hl
 refine ⟨x,hx,?_⟩
 cases ho:L[k] with
 | none=>rw [ho] at hp;exact hp
 | some t =>
  rw [ho] at hp
  obtain ⟨p,e1,e2,e3⟩:=hp
  exact ⟨p,e1,e2,e3,e2.lt⟩
def BackP (Q:Nat->Prop)(w:World)(b:Nat)(v:Value)(n:Nat)(L:List (Option Cr))(z:Int)(e:Ending)(w':World):Prop :=
 e=.returned (.tuple #[.agg #[.int .i64 ((getD L z).1).id,.slice ((getD L z).1).o ((getD L z).1).n ((getD L z).1).c,.bool ((getD L z).1).was,.int .i64 ((getD L z).1).tm],.int .i64 (getD L z).2])/\Win Q w' b v n (putL L z none) (lead (putL L z none))/\Fr w w' (FN b v)
theorem back_yes (b:Nat)(v:Value)(n:Nat)(L:List (Option Cr))(z:Int)(w:World)(h:Win Q w b v n L (lead L))(hL:L.length<=1000000000000):Calls Tryz.prog 106 #[.pointer (some ⟨b,0,none⟩),.int .i64 z] w (BackP Q w b v n L z):=by
 obtain ⟨g,cap,rfl,hcap⟩:=h.sl
 obtain ⟨W,hW,HA⟩:=al1 w #[.int .i64 0,.slice none 0 0,.bool false,.int .i64 0] 105
 obtain ⟨p0,hp0⟩:∃x,w.heap.size=x:=⟨_,rfl⟩
 have HG:Hid (w.grownBy W none/\Blk W p0 105 #[.int .i64 0,.slice none 0 0,.bool false,.int .i64 0]):=⟨HA.out.2.1,by rw [<-hp0];exact HA.out.1⟩
 have HW:Hid (w.alloc (.cells #[.int .i64 0,.slice none 0 0,.bool false,.int .i64 0] 105)=W/\w.heap.size=p0):=⟨hW,hp0⟩
 have HW0:Hid (w.alloc (.cells #[.int .i64 0,.slice none 0 0,.bool false,.int .i64 0] 105)=W/\w.heap.size=p0):=HW
 have HO:Hid (Win (Qs Q w) w b (.slice (some ⟨g,0,none⟩) n cap) n L (lead L)/\L.length<=1000000000000):=⟨h.strict,hL⟩
 clear h hcap hL hW HA hp0
 go_enter Tryz.func106,Tryz.ntmps106
 go_upto_region 1 with fail
 rw [HW.out.1,HW.out.2]
 go_wp2_with fail
 refine (get_yes b _ n L _ z W (HO.out.1.grown HG.out.1) (by have:=HO.out.2;omega)).mono ?_
 rintro e w0 ⟨rfl,hg0⟩
 have HZ:Hid (Blk (w0.alloc (.cells #[.int .i64 0,.slice none 0 0,.bool false,.int .i64 0] 105)) w0.heap.size 105 #[.int .i64 0,.slice none 0 0,.bool false,.int .i64 0]):=heap_alloc_new w0 _
 obtain ⟨y0,y1,y2,y3⟩:=cells4 HZ.out
 obtain ⟨z0,z1,z2,z3⟩:=frees4 HZ.out
 obtain ⟨W1,hW1,H1⟩:=al1 w0 #[.int .i64 (getD L z).1.id,.slice (getD L z).1.o (getD L z).1.n (getD L z).1.c,.bool (getD L z).1.was,.int .i64 (getD L z).1.tm] 105
 have HW1:Hid (w0.alloc (.cells #[.int .i64 (getD L z).1.id,.slice (getD L z).1.o (getD L z).1.n (getD L z).1.c,.bool (getD L z).1.was,.int .i64 (getD L z).1.tm] 105)=W1):=hW1
 clear hW1
 have HGW:Hid (W.grownBy W1 none/\Blk W1 w0.heap.size 105 #[.int .i64 (getD L z).1.id,.slice (getD L z).1.o (getD L z).1.n (getD L z).1.c,.bool (getD L z).1.was,.int .i64 (getD L z).1.tm]):=⟨grown_trans hg0 H1.out.2.1,H1.out.1⟩
 clear hg0
 cases ho:outD L z with
 | none =>
  have HX:Hid (getD L z=((⟨0,none,0,0,[],false,0⟩:Cr),5)/\putL L z none=L):=⟨by unfold getD;rw [ho],putL_none ho _⟩
  clear ho
  rw [HX.out.1] at HW1 HGW ⊢
  dsimp only at HW1 HGW ⊢
  go_upto_region 2 with fail
  rw [HW1.out]
  obtain ⟨p1,hp1⟩:∃x,w0.heap.size=x:=⟨_,rfl⟩
  rw [hp1] at HGW ⊢
  clear HW1 y0 y1 y2 y3 z0 z1 z2 z3 HZ H1 hp1
  obtain ⟨k0,k1,k2,k3⟩:=cells4 HGW.out.2
  have HB:Hid (Blk W1 p0 105 #[.int .i64 0,.slice none 0 0,.bool false,.int .i64 0]):=HG.out.2.grown HGW.out.1 (by simp)
  obtain ⟨q0,q1,q2,q3⟩:=cells4 HB.out
  obtain ⟨f0,f1,f2,f3⟩:=frees4 HB.out
  go_wp2_with fail
  obtain ⟨W3,hW3,H3⟩:=set4 HB.out (.int .i64 0) (.slice none 0 0) (.bool false) (.int .i64 0)
  rw [hW3]
  clear hW3
  refine bodyPost_ret (v:=_) (res_row rfl _ _ p0 _ rfl (load4 H3.out.1)) rfl ?_
  have hg:w.grownBy W3 none:=grown_new (grown_trans HG.out.1 HGW.out.1) H3.out.2 (by intro x hx;simp at hx;have:=HW.out.2;omega)
  unfold BackP
  rw [HX.out.1,HX.out.2]
  exact ⟨rfl,(HO.out.1.grown hg).mono fun i hi=>hi.1,Fr.of hg (by simp)⟩
 | some t =>
  obtain ⟨k,rfl,hk,_⟩:=outD_some ho
  have HX:Hid (getD L ((k+1:Nat):Int)=(t,0)/\putL L ((k+1:Nat):Int) none=L.set k none/\L[k]? = some (some t)/\k<L.length):=⟨by unfold getD;rw [ho],putL_some ho _,hk,(List.getElem?_eq_some_iff.1 hk).1⟩
  have HM:Hid (lead L<=k):=by
   unfold Hid
   rcases Nat.lt_or_ge k (lead L) with h | h
   ·have:=lead_low L k h
    rw [hk] at this
    cases this
   ·exact h
  obtain ⟨j,hj⟩:∃j,(k+1) % n=j:=⟨_,rfl⟩
  have HJ:Hid ((k+1) % n=j/\j<n):=⟨hj,by rw [<-hj];exact Nat.mod_lt _ (by have:=HO.out.1.size;omega)⟩
  have j1:(j:Int)<(n:Int):=by have:=HJ.out;omega
  have j2:(0:Int)<=(j:Int):=by omega
  clear ho hk hj
  rw [HX.out.1] at HW1 HGW ⊢
  dsimp only at HW1 HGW ⊢
  go_upto_region 2 with fail
  rw [HW1.out]
  obtain ⟨p1,hp1⟩:∃x,w0.heap.size=x:=⟨_,rfl⟩
  have HP:Hid (w0.heap.size=p1):=hp1
  rw [hp1] at HGW ⊢
  clear HW1 y0 y1 y2 y3 z0 z1 z2 z3 HZ H1 hp1
  have HN:Hid (Win (Qs Q w) W1 b (.slice (some ⟨g,0,none⟩) n cap) n L (lead L)/\L.length<=1000000000000):=⟨(HO.out.1.grown HG.out.1).grown HGW.out.1,HO.out.2⟩
  have c0:=HN.out.1.blk.cell 0
  simp at c0
  go_upto_region 3 with fail
  refine wp_region_hold 8 (fun y=>W1.grownBy y none) (by kernel_rfl) ?_
  have HD:Hid (W1.grownBy W1.drew none):=grown_drew _ _
  generalize W1.drew=wd at HD ⊢
  have J:Idx [0,1,2,3,4,5]:=trivial
  iterate 6 (refine tK J (HD.out) rfl rfl (fun wk hk=>by have k0:=hk.cell c0 (by simp);go_simp;try rfl) ?_;replace J:=J.tl;try simp only [pN])
  clear J
  refine wpHold_one (i:=6) rfl (by kernel_rfl) (by rfl) (fun K hK=>?_)
  go_wp2_with fail
  refine (place_yes b g n n cap _ _ (k+1) j wd HJ.out.1 (HN.out.1.blk.grown HD.out (by simp)) HN.out.1.size (by have:=HN.out.2;have:=HX.out.2.2.2;omega)).mono ?_
  rintro e w5 ⟨rfl,rfl⟩
  go_wp2_with fail
  refine hK.out _ _ (fun _=>HD.out) ?_
  clear hK K
  try simp only [pN]
  have J:Idx [7]:=trivial
  iterate 1 (refine tK J (HD.out) rfl rfl (fun wk hk=>by have k0:=hk.cell c0 (by simp);go_simp;try rfl) ?_;replace J:=J.tl;try simp only [pN])
  clear J
  refine wpHold_one (i:=8) rfl (by kernel_rfl) (by rfl) (fun K hK=>?_)
  obtain ⟨q0,hq0⟩:∃x,w5.cell? ⟨g,j,none⟩=some x:=(HN.out.1.grown HD.out).there j HJ.out.2
  have f0:w5.frozen? ⟨g,j,none⟩=false:=(HN.out.1.grown HD.out).free j
  go_wp2_with fail
  refine hK.out _ _ (fun h=>absurd rfl h) ?_
  clear hK K
  try simp only [pN]
  refine wpHold_done (by kernel_rfl) ?_
  refine (‹∀(a:Act) (w:World),Code.wp Tryz.prog _ _ a w->_› _ _ ?_)
  have HW:Hid (Win (Qs Q w) (w5.setCell ⟨g,j,none⟩ (.pointer none)) b (.slice (some ⟨g,0,none⟩) n cap) n (L.set k none) (lead L)/\Fr w (w5.setCell ⟨g,j,none⟩ (.pointer none)) (FN b (.slice (some ⟨g,0,none⟩) n cap))/\Blk (w5.setCell ⟨g,j,none⟩ (.pointer none)) p0 105 #[.int .i64 0,.slice none 0 0,.bool false,.int .i64 0]/\Blk (w5.setCell ⟨g,j,none⟩ (.pointer none)) p1 105 #[.int .i64 t.id,.slice t.o t.n t.c,.bool t.was,.int .i64 t.tm]):=by
   have h0:=HN.out.1
   have h5:=h0.grown HD.out
   have gs:=grown_setCell w5 g j (.pointer none)
   obtain ⟨C,hC⟩:=Ring.blk h5.ring
   have hkeep:∀i c,Blk w5 i 105 c->Blk (w5.setCell ⟨g,j,none⟩ (.pointer none)) i 105 c:=fun i c hi=>hi.grown gs fun e=>by
    simp at e
    subst e
    exact absurd (blk_type hC hi) (by decide)
   refine ⟨⟨?_,?_,fun i hi=>?_,by simpa using h0.room,h0.size,by simpa using h0.top⟩,?_,hkeep _ _ ((HG.out.2.grown HGW.out.1 (by simp)).grown HD.out (by simp)),hkeep _ _ (HGW.out.2.grown HD.out (by simp))⟩
   ·rw [List.length_set]
    refine h5.blk.grown gs fun e=>?_
    simp at e
    subst e
    exact absurd (blk_type hC h5.blk) (by decide)
   ·rw [<-HJ.out.1]
    refine ring_put h5.ring h0.size.1 (by simpa using h0.room) HM.out (by simpa using HX.out.2.2.2) (fun i hi hne h'=>?_) ?_ rfl
    ·rw [List.getElem_set_ne (by omega)]
     exact List.getElem?_eq_getElem _
    ·rw [List.getElem_set_self]
     rfl
   ·rw [List.getElem?_set_ne (by have:=HM.out;omega)]
    exact h0.low i hi
   ·exact (Fr.of (F:=FN b (.slice (some ⟨g,0,none⟩) n cap)) (grown_trans HG.out.1 (grown_trans HGW.out.1 HD.out)) (by simp)).trans (Fr.of (F:=FN b (.slice (some ⟨g,0,none⟩) n cap)) gs fun k hk=>.inr hk) fun i hi=>.inl hi
  generalize w5.setCell ⟨g,j,none⟩ (.pointer none)=w6 at HW ⊢
  clear j1 j2 c0
  try clear hq0 f0
  go_wp2_with fail
  refine (rise_yes b _ n (L.set k none) (lead L) w6 HW.out.1 (by simpa using HN.out.2)).mono ?_
  rintro e w7 ⟨⟨y,rfl⟩,hw7,hf7⟩
  have H7:Hid (Win (Qs Q w) w7 b (.slice (some ⟨g,0,none⟩) n cap) n (L.set k none) (lead (L.set k none))/\Fr w w7 (FN b (.slice (some ⟨g,0,none⟩) n cap))/\Blk w7 p0 105 #[.int .i64 0,.slice none 0 0,.bool false,.int .i64 0]/\Blk w7 p1 105 #[.int .i64 t.id,.slice t.o t.n t.c,.bool t.was,.int .i64 t.tm]):=by
   exact ⟨hw7,HW.out.2.1.trans hf7 fun i hi=>.inl hi,HW.out.1.other hf7 HW.out.2.2.1 (by decide) (by decide),HW.out.1.other hf7 HW.out.2.2.2 (by decide) (by decide)⟩
  clear hw7 hf7
  obtain ⟨k0,k1,k2,k3⟩:=cells4 H7.out.2.2.2
  obtain ⟨q0,q1,q2,q3⟩:=cells4 H7.out.2.2.1
  obtain ⟨f0,f1,f2,f3⟩:=frees4 H7.out.2.2.1
  go_wp2_with fail
  obtain ⟨W3,hW3,H3⟩:=set4 H7.out.2.2.1 (.int .i64 t.id) (.slice t.o t.n t.c) (.bool t.was) (.int .i64 t.tm)
  rw [hW3]
  clear hW3
  refine bodyPost_ret (v:=_) (res_row rfl _ _ p0 _ rfl (load4 H3.out.1)) rfl ?_
  unfold BackP
  rw [HX.out.1,HX.out.2.1]
  have hn:p0=w.heap.size:=HW0.out.2.symm
  refine ⟨rfl,(H7.out.1.kept fun i hi hs=>H3.out.2.block _ hs ?_).mono fun i hi=>hi.1,H7.out.2.1.trans (Fr.of (F:=fun i=>i=p0) H3.out.2 fun k hk=>by simp at hk;omega) fun i hi=>.inr (by omega)⟩
  intro e
  simp at e
  subst e
  rcases hi with (hi | hi) | hi
  ·subst hi
   exact absurd (blk_type H7.out.2.2.1 H7.out.1.blk) (by decide)
  ·obtain ⟨xs,hr,_⟩:=H7.out.1.ring
   obtain ⟨C,hC⟩:=hr.blk _ hi
   exact absurd (blk_type H7.out.2.2.1 hC) (by decide)
  ·have:=hi.2
   omega
def SetP (Q:Nat->Prop)(w:World)(b:Nat)(v:Value)(n:Nat)(L:List (Option Cr))(m:Nat)(z:Int)(x:Cr)(e:Ending)(w':World):Prop :=
 e=.returned (.int .i64 (getD L z).2)/\Win (Qn Q w w') w' b v n (putL L z (some x)) m/\Fr w w' (FN b v)
theorem set_yes (b:Nat)(v:Value)(n:Nat)(L:List (Option Cr))(m:Nat)(z:Int)(x:Cr)(w:World)(h:Win Q w b v n L m)(hL:L.length<=1000000000000):Calls Tryz.prog 65 #[.pointer (some ⟨b,0,none⟩),.int .i64 z,.agg #[.int .i64 x.id,.slice x.o x.n x.c,.bool x.was,.int .i64 x.tm]] w (SetP Q w b v n L m z x):=by
 obtain ⟨g,cap,rfl,hcap⟩:=h.sl
 have HN:Hid (Win Q w b (.slice (some ⟨g,0,none⟩) n cap) n L m/\L.length<=1000000000000):=⟨h,hL⟩
 have c0:=h.blk.cell 0
 simp at c0
 clear h hcap hL
 go_enter Tryz.func65,Tryz.ntmps65
 go_upto_region 1 with fail
 obtain ⟨w1,hw1,H1⟩:=al1 w #[.int .i64 x.id,.slice x.o x.n x.c,.bool x.was,.int .i64 x.tm] 105
 rw [hw1]
 obtain ⟨p,hp⟩:∃p,w.heap.size=p:=⟨_,rfl⟩
 rw [hp] at H1 ⊢
 clear hw1
 go_wp2_with fail
 refine (find_yes b _ n L m z w1 (HN.out.1.grown H1.out.2.1) (by have:=HN.out.2;omega)).mono ?_
 rintro e w2 ⟨hf,rfl⟩
 rcases hf with ⟨hno,rfl⟩ | ⟨k,t,hso,rfl,hk,hl,hg,rfl⟩
 ·have HX:Hid (getD L z=((⟨0,none,0,0,[],false,0⟩:Cr),5)/\putL L z (some x)=L):=⟨by unfold getD;rw [hno],putL_none hno _⟩
  clear hno
  go_wp2_with fail
  go_ret
  unfold SetP
  rw [HX.out.1,HX.out.2]
  exact ⟨rfl,(HN.out.1.grown H1.out.2.1).mono fun i hi=>.inl hi,Fr.of H1.out.2.1 (by simp)⟩
 ·have HX:Hid (getD L ((k+1:Nat):Int)=(t,0)/\putL L ((k+1:Nat):Int) (some x)=L.set k (some x)/\m<=k/\k<L.length/\L[k]? = some (some t)):=⟨by unfold getD;rw [hso],putL_some hso _,hk,hl,hg⟩
  obtain ⟨j,hj⟩:∃j,(k+1) % n=j:=⟨_,rfl⟩
  have HJ:Hid ((k+1) % n=j/\j<n):=⟨hj,by rw [<-hj];exact Nat.mod_lt _ (by have:=HN.out.1.size;omega)⟩
  rw [hj]
  have j1:(j:Int)<(n:Int):=by have:=HJ.out;omega
  have j2:(0:Int)<=(j:Int):=by omega
  have H2:=HN.out.1.grown H1.out.2.1
  have k0:=H2.blk.cell 0
  simp at k0
  obtain ⟨q0,hq0⟩:∃x,w2.cell? ⟨g,j,none⟩=some x:=H2.there j HJ.out.2
  have f0:w2.frozen? ⟨g,j,none⟩=false:=H2.free j
  have HW:Hid (Win (Qn Q w (w2.setCell ⟨g,j,none⟩ (.pointer (some ⟨p,0,none⟩)))) (w2.setCell ⟨g,j,none⟩ (.pointer (some ⟨p,0,none⟩))) b (.slice (some ⟨g,0,none⟩) n cap) n (L.set k (some x)) m/\Fr w (w2.setCell ⟨g,j,none⟩ (.pointer (some ⟨p,0,none⟩))) (FN b (.slice (some ⟨g,0,none⟩) n cap))):=by
   have h0:=HN.out.1
   have gs:=grown_setCell w2 g j (.pointer (some ⟨p,0,none⟩))
   refine ⟨⟨?_,?_,fun i hi=>?_,by simpa using h0.room,h0.size,by simpa using h0.top⟩,?_⟩
   ·rw [List.length_set]
    refine H2.blk.grown gs fun e=>?_
    simp at e
    subst e
    obtain ⟨C,hC⟩:=Ring.blk H2.ring
    exact absurd (blk_type hC H2.blk) (by decide)
   ·rw [<-HJ.out.1]
    refine ring_put (Ring.mono H2.ring fun i hi=>.inl hi) h0.size.1 (by simpa using h0.room) hk (by simpa using hl) (fun i hi hne h'=>?_) ?_ rfl
    ·rw [List.getElem_set_ne (by omega)]
     exact List.getElem?_eq_getElem _
    ·rw [List.getElem_set_self]
     exact ⟨p,rfl,H1.out.1,.inr ⟨by omega,by have:=H1.out.1.lt;simp;omega⟩⟩
   ·rw [List.getElem?_set_ne (by omega)]
    exact h0.low i hi
   ·exact (Fr.of (F:=FN b (.slice (some ⟨g,0,none⟩) n cap)) H1.out.2.1 (by simp)).trans (Fr.of (F:=FN b (.slice (some ⟨g,0,none⟩) n cap)) gs fun k hk=>.inr hk) fun i hi=>.inl hi
  clear hso hk hl hg hj H2 c0 hp
  go_wp2_with fail
  go_ret
  unfold SetP
  rw [HX.out.1,HX.out.2.1]
  exact ⟨rfl,HW.out⟩
end Go.Proofs.YtanoabliahcbeaaGreat.Wn
