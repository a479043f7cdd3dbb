import Derived.Test.YtanoabliahcbeaaGreatKacAll
import Derived.Deep.DeepAppendRoom
set_option maxHeartbeats 4000000
set_option maxRecDepth 100000
namespace Go.Proofs.YtanoabliahcbeaaGreat.Wn
open Go.RowKit Disk
open _root_.Go.Proofs.YtanoabliahcbeaaGreat.Calls _root_.Go.Proofs.YtanoabliahcbeaaGreat.Command
def crC (c:Cr):List Value:=[.int .i64 c.id,.slice c.o c.n c.c,.bool c.was,.int .i64 c.tm]
theorem crC_len (l:List Cr):(l.flatMap crC).length=l.length*4:=by
 induction l with
 | nil=>rfl
 | cons c l ih=>rw [List.flatMap_cons,List.length_append,ih,List.length_cons];show 4+_=_;omega
theorem crC_one (l:List Cr):∀u ∈ l.flatMap crC,u.oneCell'=true:=by
 intro u hu
 obtain ⟨c,_,hc⟩:=List.mem_flatMap.1 hu
 simp [crC] at hc
 rcases hc with rfl | rfl | rfl | rfl <;> rfl
def CRow (w:World)(B:Nat)(v:Value)(l:List Cr):Prop:=w.ownsRow B 105 4 v l.length (l.flatMap crC)
theorem lrow_c {w:World}{B:Nat}{v:Value}{l:List Cr}:LRow 105 4 crR w B v l<->CRow w B v l:=by
 constructor
 ·rintro ⟨vs,h1,h2,h3,h4⟩
  have e:vs=l.map crC:=List.ext_getElem (by simp [h2]) fun j hj hj'=>by
   have:=h4 j hj (by simpa using hj')
   unfold crR at this
   rw [this]
   simp [crC]
  rw [e,<-List.flatMap_def] at h1
  exact h1
 ·intro h
  refine ⟨l.map crC,by rw [<-List.flatMap_def];exact h,by simp,by simp [crC],fun j hj hj'=>?_⟩
  simp [crR,crC]
theorem CRow.shape {w:World}{B:Nat}{v:Value}{l:List Cr}(h:CRow w B v l):(v=.slice none 0 0/\l=[])\/∃g cap cur,v=.slice (some ⟨g,0,none⟩) l.length cap/\B<=g/\Blk w g 105 cur/\l.length<=cap/\cap<=maxLen/\cur.size=cap*4/\cur.toList.take (l.length*4)=l.flatMap crC/\∀j u,(l.flatMap crC)[j]? = some u->w.cell? ⟨g,j,none⟩=some u:=by
 rcases h.2 with ⟨h1,h2⟩ | ⟨g,cap,cur,rfl,hB,hb,h1,h2,h3,h4⟩
 ·exact .inl ⟨h1,List.eq_nil_of_length_eq_zero h2⟩
 ·refine .inr ⟨g,cap,cur,rfl,hB,hb,h1,h2,h3,h4,fun j u hj=>?_⟩
  have hlt:=(List.getElem?_eq_some_iff.1 hj).1
  rw [crC_len] at hlt
  have e:=h
  unfold CRow at e
  rw [World.ownsRow.cellAt e j hlt]
  exact hj
theorem CRow.mono {w:World}{B B':Nat}{v:Value}{l:List Cr}(h:CRow w B v l)(hB:B'<=B):CRow w B' v l:=lrow_c.1 ((lrow_c.2 h).mono hB)
theorem CRow.grown {w w':World}{B:Nat}{v:Value}{l:List Cr}(h:CRow w B v l)(hg:w.grownBy w' none):CRow w' B v l:=lrow_c.1 ((lrow_c.2 h).grown crR_stab hg)
theorem crow_nil (w:World)(B:Nat):CRow w B (.slice none 0 0) []:=World.ownsRow_nil _ _ _ _
theorem crow_made (w:World):CRow (w.alloc (.cells #[] 105)) w.heap.size (.slice (some ⟨w.heap.size,0,none⟩) 0 0) [] :=
 ⟨rfl,.inr ⟨w.heap.size,0,#[],rfl,Nat.le_refl _,heap_alloc_new w _,Nat.le_refl _,Nat.zero_le _,rfl,rfl⟩⟩
theorem infoC:(Tryz.prog.info? 105).map (fun i=>(i.zero,i.size,i.bytes))=some (some (.agg #[.int .i64 0,.slice none 0 0,.bool false,.int .i64 0]),4,48):=by kernel_rfl
theorem utC:Tryz.prog.underlying 83=some (.slice 105):=by kernel_rfl
theorem infoC':∃i,Tryz.prog.info? 105=some i/\i.zero=some (.agg #[.int .i64 0,.slice none 0 0,.bool false,.int .i64 0])/\i.size=4/\i.bytes=48:=by
 have h:=infoC
 cases hh:Tryz.prog.info? 105 with
 | none=>rw [hh] at h;cases h
 | some i=>rw [hh] at h;simp at h;exact ⟨i,rfl,h.1,h.2.1,h.2.2⟩
theorem appC_wp {o:Oper}{a:Act}{K:Act->World->Prop}{P:Exit->Act->World->Prop}(w:World)(s x:Operand)
  (ho:o.op=.call { callee:=.builtin .append,args:=#[s,x],argTypes:=#[83,83] })
  (B:Nat) (v:Value) (L M:List Cr) (ad:Addr) (m c:Nat) (hs:a.eval s=v) (hx:a.eval x=.slice (some ad) m c) (hown:CRow w B v L) (hm:M.length=m) (hM:∀j u,(M.flatMap crC)[j]? = some u->w.cell? (ad.add j)=some u)
  (hb:L.length+M.length<=2000000000000) (hB:B<=w.heap.size)
  (h:∀v' w',CRow w' B v' (L ++ M)->w.grownBy w' v.ownBlock->(v'.ownBlock=v.ownBlock\/v'.ownBlock=some w.heap.size)->K (a.put o.dst v') w'):o.wp Tryz.prog a w K P:=by
 subst hm
 obtain ⟨i0,hi,hz0,hz1,hz2⟩:=infoC'
 obtain ⟨v',w',hr,h2,h3,_,h5⟩:=run_append_own_at (P:=Tryz.prog) w B 83 o.type 105 i0 _ 4 48 utC hi hz0 hz1 hz2 rfl (by decide) v L.length _ hown ad M.length c (M.flatMap crC) (crC_len M) hM (crC_one M) (by unfold maxLen;omega) (by omega) hB
 unfold Oper.wp execOp
 simp only [ho,resolve,invoke,builtin,Sem.run_bind,Sem.run_pure,Result.andThen_ok,List.map_toArray,List.map_cons,List.map_nil,hs,hx,hr]
 refine h v' w' ?_ h3 h5
 unfold CRow
 rw [List.length_append,List.flatMap_append]
 exact h2
theorem appC {ops:Array Oper}{rest:List Oper}{o:Oper}{a:Act}{P:Exit->Act->World->Prop}(w:World)(hw:Region.wanted o (yielded ops a.tmps)=true)(s x:Operand)
  (ho:o.op=.call { callee:=.builtin .append,args:=#[s,x],argTypes:=#[83,83] })
  (B:Nat) (v:Value) (L M:List Cr) (ad:Addr) (m c:Nat) (hs:a.eval s=v) (hx:a.eval x=.slice (some ad) m c) (hown:CRow w B v L) (hm:M.length=m) (hM:∀j u,(M.flatMap crC)[j]? = some u->w.cell? (ad.add j)=some u)
  (hb:L.length+M.length<=2000000000000) (hB:B<=w.heap.size)
  (h:∀v' w',CRow w' B v' (L ++ M)->w.grownBy w' v.ownBlock->(v'.ownBlock=v.ownBlock\/v'.ownBlock=some w.heap.size)->wpList Tryz.prog ops P rest (a.put o.dst v') w'):wpList Tryz.prog ops P (o :: rest) a w :=
 BigFrame.wpList_want hw fun _ hK=>appC_wp w s x ho B v L M ad m c hs hx hown hm hM hb hB fun v' w' h1 h2 h3=>hK _ _ (h v' w' h1 h2 h3)
theorem eqlC:∀(w:World) (a:Option Addr) (n c n' c':Nat),(binOp .eql 83 (.slice a n c) (.slice none n' c')).run Tryz.prog w=.ok (.bool a.isNone) w:=fun w a n c n' c'=>Lib.run_eql_slice_nil w 83 105 a n c n' c' utC
def CloneC (l:List Cr)(w:World)(e:Ending)(w':World):Prop:=∃u,e=.returned u/\CRow w' w.heap.size u l/\w.grownBy w' none
theorem clone48 (B:Nat)(v:Value)(l:List Cr)(w:World)(h:CRow w B v l)(hl:l.length<=1000000000000):Calls Tryz.prog 48 #[v] w (CloneC l w):=by
 have e1:=eqlC
 rcases h.shape with ⟨rfl,rfl⟩ | ⟨g,cap,cur,rfl,_,_,_,_,_,_,hc⟩
 ·clear h hl
  go_enter Tryz.func48,Tryz.ntmps48
  go_wp2_with fail
  go_ret
  exact ⟨_,rfl,crow_nil _ _,grown_refl _ _⟩
 ·have HQ:Hid ((∀j u,(l.flatMap crC)[j]? = some u->w.cell? ⟨g,j,none⟩=some u)/\l.length<=1000000000000):=⟨hc,hl⟩
  obtain ⟨n,hn⟩:∃n,l.length=n:=⟨_,rfl⟩
  have HN:Hid (l.length=n):=hn
  rw [hn]
  clear h hl hc hn
  go_enter Tryz.func48,Tryz.ntmps48
  go_wp2_with (at_builtin;refine appC _ rfl _ _ rfl w.heap.size _ [] l ⟨g,0,none⟩ n cap rfl rfl (crow_made w) HN.out ?c0 ?c1 ?c2 ?_)
  case c0 =>
   intro j u hj
   rw [add_addr]
   refine (World.grownBy_alloc w _ none).cell ?_ (by simp)
   simpa using HQ.out.1 j u hj
  case c1=>have:=HQ.out.2;simp;omega
  case c2=>simp
  intro v' w1 hr hg hv
  have H1:Hid (CRow w1 w.heap.size v' l/\w.grownBy w1 none):=⟨hr,grown_new (World.grownBy_alloc w _ none) hg (by intro x hx;simp [Value.ownBlock] at hx;omega)⟩
  clear hr hg hv
  go_wp2_with fail
  go_ret
  exact ⟨_,rfl,H1.out⟩
theorem zero105:∀w,(zeroValue 105).run Tryz.prog w=.ok (.agg #[.int .i64 0,.slice none 0 0,.bool false,.int .i64 0]) w:=by
 obtain ⟨i0,hi,hz0,_⟩:=infoC'
 intro w
 simp [zeroValue,typeInfo,hi,hz0]
def zs4 (n:Nat):List Value:=(Builtin.zeroCells (Value.agg #[.int .i64 0,.slice none 0 0,.bool false,.int .i64 0]).cells n).toList
theorem clear4 (w:World)(ty:TypeId)(g o n c:Nat)(hn:0<n)(hc:∀j,j<n*4->(w.cell? ⟨g,o+j,none⟩).isSome=true)(hf:∀j,w.frozen? ⟨g,j,none⟩=false) :
  (Builtin.clear_ #[83] ty #[.slice (some ⟨g,o,none⟩) n c]).run Tryz.prog w=.ok (.tuple #[]) (w.setCells g o (zs4 n)):=by
 have hsz:(Builtin.zeroCells (Value.agg #[.int .i64 0,.slice none 0 0,.bool false,.int .i64 0]).cells n).toList.length=n*4:=by
  rw [Array.length_toList,size_zeroCells];rfl
 have hone:∀u ∈ (Builtin.zeroCells (Value.agg #[.int .i64 0,.slice none 0 0,.bool false,.int .i64 0]).cells n).toList,u.oneCell'=true:=by
  intro u hu
  simp [Builtin.zeroCells,Value.cells] at hu
  obtain ⟨i,_,rfl⟩:=hu
  have h4:i % 4<4:=Nat.mod_lt _ (by decide)
  rcases (by omega:i % 4=0\/i % 4=1\/i % 4=2\/i % 4=3) with e | e | e | e <;> rw [e] <;> rfl
 unfold zs4
 have hst:=run_storeCells_cells (P:=Tryz.prog) g o (Builtin.zeroCells (Value.agg #[.int .i64 0,.slice none 0 0,.bool false,.int .i64 0]).cells n).toList 0 w (by rw [hsz];simpa using hc) (by intro j _;exact hf _) hone
 simp only [Nat.add_zero] at hst
 obtain ⟨m,rfl⟩:∃m,n=m+1:=⟨n-1,by omega⟩
 simp only [Builtin.clear_,List.getElem?_toArray,List.getElem?_cons_zero,Sem.run_bind,run_underlying utC,Result.andThen_ok,zero105,hst,Sem.run_pure]
theorem CRow.past {w:World}{B g cap n:Nat}{l:List Cr}(h:CRow w B (.slice (some ⟨g,0,none⟩) n cap) l)(vs:List Value)(o:Nat)(ho:n*4<=o):CRow (w.setCells g o vs) B (.slice (some ⟨g,0,none⟩) n cap) l:=by
 rcases h.shape with ⟨e,_⟩ | ⟨g',cap',cur,e,hB,hb,h1,h2,h3,h4,_⟩
 ·simp at e
 ·simp at e
  obtain ⟨rfl,rfl,rfl⟩:=e
  obtain ⟨D,d1,d2,d3⟩:=setCells_blk g _ vs o w cur hb
  refine ⟨crC_len l,.inr ⟨g,cap,D,rfl,hB,d1,h1,h2,by rw [d2,h3],?_⟩⟩
  rw [take_eq_of (by omega) d2 fun j hj=>d3 j (by omega)]
  exact h4
def DelC (B:Nat)(v:Value)(l:List Cr)(w:World)(e:Ending)(w':World):Prop:=∃u,e=.returned u/\CRow w' B u l/\u.ownBlock=v.ownBlock/\w.grownBy w' v.ownBlock
theorem delete63 (B:Nat)(v:Value)(l:List Cr)(j:Nat)(w:World)(h:CRow w B v l)(hj:j<=l.length)(hl:l.length<=1000000000000):Calls Tryz.prog 63 #[v,.int .i64 0,.int .i64 j] w (DelC B v (l.drop j) w):=by
 rcases h.shape with ⟨rfl,rfl⟩ | ⟨g,cap,cur,rfl,hB,hb,h1,h2,h3,h4,hc⟩
 ·obtain rfl:j=0:=by simpa using hj
  clear hj hl
  go_enter Tryz.func63,Tryz.ntmps63
  go_wp2_with fail
  go_ret
  exact ⟨_,rfl,h,rfl,grown_refl _ _⟩
 ·obtain ⟨n,hn⟩:∃n,l.length=n:=⟨_,rfl⟩
  rw [hn] at h hj hl h1 h4 ⊢
  have HQ:Hid (CRow w B (.slice (some ⟨g,0,none⟩) n cap) l/\l.length=n/\n<=1000000000000/\j<=n/\n<=cap/\cap<=maxLen/\B<=g/\Blk w g 105 cur/\cur.size=cap*4/\(∀j u,(l.flatMap crC)[j]? = some u->w.cell? ⟨g,j,none⟩=some u)):=⟨h,hn,hl,hj,h1,h2,hB,hb,h3,hc⟩
  clear h hb h2 h3 h4 hc hB hn
  have k1:(j:Int)<=(n:Int):=by omega
  have k2:(n:Int)<=(cap:Int):=by omega
  have k3:(0:Int)<=(j:Int):=by omega
  have k4:(j:Int)<=(cap:Int):=by omega
  by_cases h0:j=0
  ·subst h0
   go_enter Tryz.func63,Tryz.ntmps63
   go_wp2_with fail
   go_ret
   exact ⟨_,rfl,by simpa using HQ.out.1,rfl,grown_refl _ _⟩
  ·obtain ⟨k,hk⟩:∃k,n-j=k:=⟨_,rfl⟩
   have HK:Hid (n=k+j/\0<j):=by have:=HQ.out.2.2.2.1;exact ⟨by omega,by omega⟩
   have e1:n-k=j:=by have:=HK.out;omega
   have e2:(cap=k)=False:=eq_false (by have:=HK.out;omega)
   have k5:(k:Int)<=(n:Int):=by omega
   have k6:(k:Int)<=(cap:Int):=by omega
   have k7:(j=0)=False:=eq_false h0
   have k8:((j:Int)=0)=False:=eq_false (by omega)
   have k9:((0:Int)==(j:Int))=false:=by simp;omega
   have ka:(0=j)=False:=eq_false (by omega)
   have kb:(cap=0)=False:=eq_false (by have:=HK.out;omega)
   have kc:(n=0)=False:=eq_false (by have:=HK.out;omega)
   have HO:Hid (∀ad:Addr,(ad=⟨g,0,none⟩/\cap=j\/ad=⟨g,j*4,none⟩)->∀i u,((l.drop j).flatMap crC)[i]? = some u->w.cell? (ad.add i)=some u):=by
    rintro ad had i u hi
    have hlt:=(List.getElem?_eq_some_iff.1 hi).1
    rw [crC_len,List.length_drop,HQ.out.2.1] at hlt
    rcases had with ⟨rfl,h⟩ | rfl
    ·have:=HK.out
     have:=HQ.out.2.2.2.2.1
     omega
    ·rw [add_addr]
     refine HQ.out.2.2.2.2.2.2.2.2.2 _ _ ?_
     conv=>lhs;rw [<-List.take_append_drop j l,List.flatMap_append]
     rw [List.getElem?_append_right (by rw [crC_len,List.length_take];omega),crC_len,List.length_take,HQ.out.2.1,Nat.min_eq_left (by have:=HK.out;omega),Nat.add_sub_cancel_left]
     exact hi
   have HR:Hid (∀y,w.grownBy y none->y.ownsRow B 105 4 (.slice (some ⟨g,0,none⟩) 0 cap) 0 []):=by
    intro y hy
    have h:=HQ.out
    exact ⟨rfl,.inr ⟨g,cap,cur,rfl,h.2.2.2.2.2.2.1,h.2.2.2.2.2.2.2.1.grown hy (by simp),Nat.zero_le _,h.2.2.2.2.2.1,h.2.2.2.2.2.2.2.2.1,by simp⟩⟩
   obtain ⟨i0,hi,hz0,hz1,hz2⟩:=infoC'
   have HI:Hid (Tryz.prog.info? 105=some i0/\i0.size=4):=⟨hi,hz1⟩
   clear h1 h0 hi hz0 hz1 hz2 hl
   by_cases hcj:cap=j
   ·subst hcj
    go_enter Tryz.func63,Tryz.ntmps63
    go_upto_region 5 with fail
    refine wp_region_hold 1000 (fun y=>w.grownBy y (some g)) (by kernel_rfl) ?_
    have HD:Hid (w.grownBy w.drew none):=grown_drew _ _
    generalize w.drew=wd at HD ⊢
    have J:Idx [0,1,2,3,4,5]:=trivial
    iterate 6 (refine tK J ((grown_mono HD.out)) rfl rfl (fun wk hk=>by skip;go_simp;try rfl) ?_;replace J:=J.tl;try simp only [pN])
    clear J
    refine wpHold_one (i:=6) rfl (by kernel_rfl) (by rfl) (fun K hK=>?_)
    refine wp_append_own_spare wd _ _ 83 rfl B 105 i0 4 utC HI.out.1 HI.out.2 g 0 cap [] rfl (HR.out wd HD.out) ⟨g,0,none⟩ k 0 ((l.drop cap).flatMap crC) rfl ?c0 ?c1 (crC_one _) ?c2 ?_
    case c0=>rw [crC_len,List.length_drop,HQ.out.2.1];have:=HK.out;omega
    case c1=>intro i u hi;exact HD.out.cell (HO.out _ (.inl ⟨rfl,rfl⟩) i u hi) (by simp)
    case c2=>have:=HK.out;have:=HQ.out.2.2.2.2.1;omega
    intro w5 hr5 hg5
    have H5:Hid (CRow w5 B (.slice (some ⟨g,0,none⟩) k cap) (l.drop cap)/\w.grownBy w5 (some g)):=by
     refine ⟨?_,grown_trans (grown_mono HD.out) hg5⟩
     have e:(l.drop cap).length=k:=by rw [List.length_drop,HQ.out.2.1];have:=HK.out;omega
     unfold CRow
     rw [e]
     simpa using hr5
    clear hr5 hg5
    rw [Nat.zero_add]
    refine hK.out _ _ (fun _=>H5.out.2) ?_
    clear hK K
    try simp only [pN]
    have J:Idx [7]:=trivial
    iterate 1 (refine tK J (H5.out.2) rfl rfl (fun wk hk=>by skip;go_simp;try rfl) ?_;replace J:=J.tl;try simp only [Act.put,List.setIfInBounds_toArray,List.set_cons_zero])
    clear J
    refine wpHold_done (by kernel_rfl) ?_
    refine (‹∀(a:Act) (w:World),Code.wp Tryz.prog _ _ a w->_› _ _ ?_)
    have HCL:Hid (∀ty,(Builtin.clear_ #[83] ty #[.slice (some ⟨g,k*4,none⟩) cap (cap-k)]).run Tryz.prog w5=.ok (.tuple #[]) (w5.setCells g (k*4) (zs4 cap))):=fun ty=>by
     rcases H5.out.1.shape with ⟨e,_⟩ | ⟨g',cap',cur',e,hB,hb,h1,h2,h3,h4,_⟩
     ·simp at e
     ·simp at e
      obtain ⟨rfl,_,rfl⟩:=e
      have:=HK.out
      have:=HQ.out.2.2.2.2.1
      exact clear4 w5 ty g (k*4) cap _ (by omega) (fun i hi=>by rw [hb.cell,Array.getElem?_eq_getElem (by omega)];rfl) (fun i=>hb.free i)
    have HF:Hid (CRow (w5.setCells g (k*4) (zs4 cap)) B (.slice (some ⟨g,0,none⟩) k cap) (l.drop cap)/\w.grownBy (w5.setCells g (k*4) (zs4 cap)) (some g)):=⟨H5.out.1.past _ _ (Nat.le_refl _),grown_trans H5.out.2 (setCells_grown _ _ _ _)⟩
    have hcl:=HCL.out
    generalize w5.setCells g (k*4) (zs4 cap)=w6 at hcl HF
    clear HCL
    go_wp2_with fail
    go_ret
    exact ⟨_,rfl,HF.out.1,rfl,HF.out.2⟩
   ·have kd:(cap=j)=False:=eq_false hcj
    go_enter Tryz.func63,Tryz.ntmps63
    go_upto_region 5 with fail
    refine wp_region_hold 1000 (fun y=>w.grownBy y (some g)) (by kernel_rfl) ?_
    have HD:Hid (w.grownBy w.drew none):=grown_drew _ _
    generalize w.drew=wd at HD ⊢
    have J:Idx [0,1,2,3,4,5]:=trivial
    iterate 6 (refine tK J ((grown_mono HD.out)) rfl rfl (fun wk hk=>by skip;go_simp;try rfl) ?_;replace J:=J.tl;try simp only [pN])
    clear J
    refine wpHold_one (i:=6) rfl (by kernel_rfl) (by rfl) (fun K hK=>?_)
    refine wp_append_own_spare wd _ _ 83 rfl B 105 i0 4 utC HI.out.1 HI.out.2 g 0 cap [] rfl (HR.out wd HD.out) ⟨g,j*4,none⟩ k (cap-j) ((l.drop j).flatMap crC) rfl ?c0 ?c1 (crC_one _) ?c2 ?_
    case c0=>rw [crC_len,List.length_drop,HQ.out.2.1];have:=HK.out;omega
    case c1=>intro i u hi;exact HD.out.cell (HO.out _ (.inr rfl) i u hi) (by simp)
    case c2=>have:=HK.out;have:=HQ.out.2.2.2.2.1;omega
    intro w5 hr5 hg5
    have H5:Hid (CRow w5 B (.slice (some ⟨g,0,none⟩) k cap) (l.drop j)/\w.grownBy w5 (some g)):=by
     refine ⟨?_,grown_trans (grown_mono HD.out) hg5⟩
     have e:(l.drop j).length=k:=by rw [List.length_drop,HQ.out.2.1];have:=HK.out;omega
     unfold CRow
     rw [e]
     simpa using hr5
    clear hr5 hg5
    rw [Nat.zero_add]
    refine hK.out _ _ (fun _=>H5.out.2) ?_
    clear hK K
    try simp only [pN]
    have J:Idx [7]:=trivial
    iterate 1 (refine tK J (H5.out.2) rfl rfl (fun wk hk=>by skip;go_simp;try rfl) ?_;replace J:=J.tl;try simp only [Act.put,List.setIfInBounds_toArray,List.set_cons_zero])
    clear J
    refine wpHold_done (by kernel_rfl) ?_
    refine (‹∀(a:Act) (w:World),Code.wp Tryz.prog _ _ a w->_› _ _ ?_)
    have HCL:Hid (∀ty,(Builtin.clear_ #[83] ty #[.slice (some ⟨g,k*4,none⟩) j (cap-k)]).run Tryz.prog w5=.ok (.tuple #[]) (w5.setCells g (k*4) (zs4 j))):=fun ty=>by
     rcases H5.out.1.shape with ⟨e,_⟩ | ⟨g',cap',cur',e,hB,hb,h1,h2,h3,h4,_⟩
     ·simp at e
     ·simp at e
      obtain ⟨rfl,_,rfl⟩:=e
      have:=HK.out
      have:=HQ.out.2.2.2.2.1
      exact clear4 w5 ty g (k*4) j _ (by omega) (fun i hi=>by rw [hb.cell,Array.getElem?_eq_getElem (by omega)];rfl) (fun i=>hb.free i)
    have HF:Hid (CRow (w5.setCells g (k*4) (zs4 j)) B (.slice (some ⟨g,0,none⟩) k cap) (l.drop j)/\w.grownBy (w5.setCells g (k*4) (zs4 j)) (some g)):=⟨H5.out.1.past _ _ (Nat.le_refl _),grown_trans H5.out.2 (setCells_grown _ _ _ _)⟩
    have hcl:=HCL.out
    generalize w5.setCells g (k*4) (zs4 j)=w6 at hcl HF
    clear HCL
    go_wp2_with fail
    go_ret
    exact ⟨_,rfl,HF.out.1,rfl,HF.out.2⟩
variable {Q F:Nat->Prop} {w w':World} {b:Nat} {oa wo:Option Addr} {wc:Nat} {s:CS}
theorem lead_more (L:List (Option Cr))(M:List Cr):lead (L ++ M.map some)=lead L:=by
 induction M generalizing L with
 | nil=>simp
 | cons c M ih =>
  have:=ih (L ++ [some c])
  rw [lead_push] at this
  rw [<-this,List.map_cons,List.append_assoc,List.singleton_append]
theorem outN_more (L:List (Option Cr))(M:List Cr):outN (L ++ M.map some) (L ++ M.map some).length=outN L L.length+M.length:=by
 unfold outN
 rw [List.take_length,List.take_length,List.countP_append]
 congr 1
 induction M with
 | nil=>rfl
 | cons c M ih=>rw [List.map_cons,List.countP_cons,ih];simp
theorem CS.given_mem {s:CS}{c:Cr}(h:some c ∈ s.given.L\/c ∈ s.given.wt):some c ∈ s.L\/c ∈ s.wt:=by
 rcases h with h | h
 ·simp [CS.given] at h
  rcases h with h | h
  ·exact .inl h
  ·have h2:=List.mem_of_mem_take h
   simp at h2
   exact .inr h2
 ·exact .inr (List.mem_of_mem_drop h)
theorem Okc.given (h:Okc s)(h0:1<=s.ses):Okc s.given:=by
 refine ⟨h.num,h.size,h.most,h.tmo,h.tok,h.askAt,h.ses,fun e=>?_,?_,h.now,?_,fun c hc=>h.call c (CS.given_mem hc),fun c hc=>h.wait c (List.mem_of_mem_drop hc)⟩
 ·have:s.ses=0:=e
  omega
 ·have:=h.last
  simp [CS.given,CS.many]
  omega
 ·have:=h.few
  have e:=outN_more s.L (s.wt.take s.many)
  simp only [CS.given] at e ⊢
  rw [e,List.length_take,List.length_drop]
  omega
theorem Cm.gave {ob:Nat}{v:Value}{Q':Nat->Prop}{w1 w2:World}{uo:Option Addr}{uc:Nat}(h:Cm Q F w b (some ⟨ob,0,none⟩) wo wc s)(hw0:Win Q w ob v s.size s.L (lead s.L))(h1:1<=s.ses)(hF:∀i,FN ob v i->F i)
  (hw:Win Q' w1 ob v s.size s.given.L (lead s.L)) (hf:Fr w w1 (FN ob v)) (hQ:∀i,Q' i->Q i\/(w.heap.size<=i/\i<w1.heap.size))
  (hr:CRow w2 0 (.slice uo s.given.wt.length uc) s.given.wt) (hu:(Value.slice uo s.given.wt.length uc).ownBlock=(Value.slice wo s.wt.length wc).ownBlock) (hg:w1.grownBy w2 (Value.slice wo s.wt.length wc).ownBlock) :
  Cm Q' F (w2.setCell ⟨b,9,none⟩ (.slice uo s.given.wt.length uc)) b (some ⟨ob,0,none⟩) uo uc s.given/\Fr w (w2.setCell ⟨b,9,none⟩ (.slice uo s.given.wt.length uc)) F:=by
 have gs:=grown_setCell w2 b 9 (.slice uo s.given.wt.length uc)
 generalize hw3:w2.setCell ⟨b,9,none⟩ (.slice uo s.given.wt.length uc)=w3 at gs
 have hrow:∀k,(Value.slice wo s.wt.length wc).ownBlock=some k->∃C,Blk w k 105 C:=fun k hk=>h.wt_blk hk
 have hbf:¬FN ob v b:=h.fn_ne hw0 h.blk (by decide) (by decide)
 have hbr:(Value.slice wo s.wt.length wc).ownBlock≠some b:=fun e=>by
  obtain ⟨C,hC⟩:=hrow b e
  exact absurd (blk_type hC h.blk) (by decide)
 have f12:Fr w1 w2 (fun i=>(Value.slice wo s.wt.length wc).ownBlock=some i):=Fr.of hg fun k hk=>hk
 have f23:Fr w2 w3 (fun i=>i=b):=Fr.of gs fun k hk=>by simp at hk;exact hk.symm
 have fr:Fr w w3 F:=((hf.mono hF).trans (f12.mono fun i hi=>h.wf i hi) fun i hi=>.inl hi).trans (f23.mono fun i hi=>(show i=b from hi) ▸ h.fb) fun i hi=>.inl hi
 have hG:Gt w F:=h.gt
 have b1:Blk w1 b 85 _:=h.blk.same (hf.block b h.blk.lt hbf)
 have b2:Blk w2 b 85 _:=b1.same (f12.block b b1.lt hbr)
 have b3:Blk w3 b 85 #[.int .i64 s.num,.int .i64 s.size,.int .i64 s.most,.int .i64 s.tmo,.int .i64 s.tok,.bool s.asked,.int .i64 s.askAt,.int .i64 s.ses,.pointer (some ⟨ob,0,none⟩),.slice uo s.given.wt.length uc,.int .i64 s.last,.int .i64 s.now]:=by rw [<-hw3];exact b2.store 9 _
 have q1:∀i,Q' i->i<w1.heap.size/\i≠b/\(Value.slice wo s.wt.length wc).ownBlock≠some i:=by
  intro i hi
  rcases hQ i hi with e | e
  ·have:=h.qlt i e
   have:=hf.size
   refine ⟨by omega,fun e2=>h.apart b h.fb (e2 ▸ e),fun e2=>h.apart i (h.wf i e2) e⟩
  ·have:=h.blk.lt
   refine ⟨e.2,by omega,fun e2=>?_⟩
   obtain ⟨C,hC⟩:=hrow i e2
   have:=hC.lt
   omega
 have n1:∀i,FN ob v i->i≠b/\(Value.slice wo s.wt.length wc).ownBlock≠some i:=by
  intro i hi
  refine ⟨fun e=>hbf (e ▸ hi),fun e=>?_⟩
  obtain ⟨C,hC⟩:=hrow i e
  exact h.fn_ne hw0 hC (by decide) (by decide) hi
 have hw3':Win Q' w3 ob v s.size s.given.L (lead s.L):=by
  refine hw.kept fun i hi hl=>?_
  have e:i≠b/\(Value.slice wo s.wt.length wc).ownBlock≠some i:=by
   rcases hi with hi | hi
   ·exact n1 i hi
   ·exact (q1 i hi).2
  exact (f23.block i (Nat.lt_of_lt_of_le hl f12.size) e.1).trans (f12.block i hl e.2)
 have hr3:CRow w3 0 (.slice uo s.given.wt.length uc) s.given.wt:=owns_fr hr f23 fun k hk e=>by
  rw [hu] at hk
  exact hbr ((show k=b from e) ▸ hk)
 refine ⟨⟨?_,.inr ⟨h1,ob,v,rfl,?_,hF⟩,lrow_c.2 hr3,fun k hk=>h.wf k (by rw [<-hu];exact hk),fun c hc=>opsOwn_fr (h.ops c (CS.given_mem hc)) fr hG,h.fb,fun i hi=>?_,fun i hi hq=>?_,fun i hi=>?_,h.ok.given h1⟩,fr⟩
 ·exact b3
 ·have e:lead s.given.L=lead s.L:=lead_more _ _
  rw [e]
  exact hw3'
 ·obtain ⟨t,c,hb,hk⟩:=h.ft i hi
  by_cases e1:i=b
  ·subst e1
   exact ⟨85,_,b3,.inl rfl⟩
  ·by_cases e2:FN ob v i
   ·rcases e2 with e2 | e2
    ·subst e2
     exact ⟨144,_,hw3'.blk,.inr (.inl rfl)⟩
    ·obtain ⟨xs,hrr,_⟩:=hw3'.ring
     obtain ⟨C,hC⟩:=hrr.blk i e2
     exact ⟨142,_,hC,.inr (.inr (.inl rfl))⟩
   ·by_cases e3:(Value.slice wo s.wt.length wc).ownBlock=some i
    ·rw [<-hu] at e3
     rcases hr3.shape with ⟨e,_⟩ | ⟨g,cap,cur,e,_,hb3,_⟩
     ·rw [e] at e3
      simp [Value.ownBlock] at e3
     ·rw [e] at e3
      simp [Value.ownBlock] at e3
      subst e3
      exact ⟨105,_,hb3,.inr (.inr (.inr rfl))⟩
    ·refine ⟨t,c,hb.same ?_,hk⟩
     have l1:=hf.size
     have l2:=f12.size
     have:=hb.lt
     exact (f23.block i (by omega) e1).trans ((f12.block i (by omega) e3).trans (hf.block i hb.lt e2))
 ·rcases hQ i hq with e | e
  ·exact h.apart i hi e
  ·have:=h.flt i hi
   omega
 ·have:=(q1 i hi).1
  have:=f12.size
  have:=f23.size
  omega
theorem CRow.at {w:World}{B g n cap:Nat}{l:List Cr}(h:CRow w B (.slice (some ⟨g,0,none⟩) n cap) l)(j:Nat)(hj:j<l.length):w.cell? ⟨g,j*4,none⟩=some (.int .i64 l[j].id)/\w.cell? ⟨g,j*4+1,none⟩=some (.slice l[j].o l[j].n l[j].c)/\w.cell? ⟨g,j*4+2,none⟩=some (.bool l[j].was)/\w.cell? ⟨g,j*4+3,none⟩=some (.int .i64 l[j].tm):=by
 obtain ⟨g',cap',x,e,hx,hR,_,_,hc⟩:=(lrow_c.2 h).cell j hj
 simp at e
 obtain ⟨rfl,_,_⟩:=e
 unfold crR at hR
 subst hR
 have k0:=hc 0 (by omega)
 have k1:=hc 1 (by omega)
 have k2:=hc 2 (by omega)
 have k3:=hc 3 (by omega)
 simp at k0 k1 k2 k3
 exact ⟨k0,k1,k2,k3⟩
def GivP (Q F:Nat->Prop)(w:World)(b:Nat)(s:CS)(e:Ending)(w':World):Prop:=(∃y,e=.returned y)/\Stp Q F w b s.given w'
theorem give35 (w:World)(h:Cm Q F w b oa wo wc s)(h0:s.ses≠0):Calls Tryz.prog 35 #[.pointer (some ⟨b,0,none⟩)] w (GivP Q F w b s):=by
 obtain ⟨h1,ob,v,rfl,hw,hF⟩:=h.yeswin h0
 have HC:Hid (Cm Q F w b (some ⟨ob,0,none⟩) wo wc s/\Win Q w ob v s.size s.L (lead s.L)/\1<=s.ses/\(∀i,FN ob v i->F i)):=⟨h,hw,h1,hF⟩
 obtain ⟨n,hn⟩:∃n,s.wt.length=n:=⟨_,rfl⟩
 have HN:Hid (s.wt.length=n/\n<=1000000000000):=⟨hn,by have:=h.len.2;omega⟩
 have c8:=h.blk.cell 8
 have c9:=h.blk.cell 9
 simp at c8 c9
 have HNB:Hid (¬FN ob v b):=h.fn_ne hw h.blk (by decide) (by decide)
 rcases (lrow_c.1 h.wt).shape with ⟨he,hnil⟩ | ⟨g,cap,cur,he,_,hgb,hcap,_,_,_,hcell⟩
 ·simp at he
  obtain ⟨rfl,_,rfl⟩:=he
  have h2:n=0:=by rw [<-hn,hnil];rfl
  subst h2
  have HZ:Hid (s.wt=[]):=hnil
  rw [hn] at c9
  clear h hw h1 hF hn h0 hnil
  go_enter Tryz.func35,Tryz.ntmps35
  refine wp_scope_straight ?_
  go_wp2_with fail
  refine wp_label ?_
  refine (‹∀(a:Act) (w:World),Code.wp Tryz.prog _ _ a w->_› _ _ ?_)
  go_wp2_with fail
  refine wp_loop_rounds 1 ?_
  rw [rounds_succ]
  go_wp2_with fail
  refine (delete63 0 (.slice none 0 0) [] 0 w (crow_nil _ _) (Nat.le_refl _) (by simp)).mono ?_
  rintro e w3 ⟨u,rfl,hr,hu,hg⟩
  obtain ⟨uo,uc,rfl⟩:=(lrow_c.2 hr).shape
  have HG:Hid (s.given.wt=[]/\s.given.L=s.L):=by simp [Hid,CS.given,HZ.out]
  have HR:Hid (CRow w3 0 (.slice uo 0 uc) []/\(Value.slice uo 0 uc).ownBlock=none/\w.grownBy w3 none):=⟨hr,hu,hg⟩
  have k9:=(HC.out.1.blk.grown HR.out.2.2 (by simp)).cell 9
  rw [HN.out.1] at k9
  simp at k9
  have f9:=(HC.out.1.blk.grown HR.out.2.2 (by simp)).free 9
  clear hr hu hg c8 c9
  have HP:=HC.out.1.gave (w1:=w) (w2:=w3) (uo:=uo) (uc:=uc) (Q':=Q) HC.out.2.1 HC.out.2.2.1 HC.out.2.2.2 (by rw [HG.out.2];exact HC.out.2.1) (Fr.of (grown_refl w none) (by simp)) (fun i hi=>.inl hi) (by rw [HG.out.1];exact HR.out.1) (by rw [HG.out.1,HZ.out];exact HR.out.2.1) (by rw [HZ.out];exact HR.out.2.2)
  have HF:Hid (Stp Q F w b s.given (w3.setCell ⟨b,9,none⟩ (.slice uo 0 uc))):=by
   rw [HG.out.1] at HP
   exact ⟨Q,F,⟨_,_,_,HP.1⟩,HP.2,fun i hi=>.inl hi,fun i hi=>.inl hi⟩
  clear HP
  go_wp2_with fail
  exact ⟨rfl,_,results_none rfl _ _ _,⟨_,rfl⟩,HF.out⟩
 ·simp at he
  obtain ⟨rfl,rfl⟩:=he
  rw [hn] at c9 hcap
  have HR:Hid (∀y,Fr w y (FN ob v)->CRow y 0 (.slice (some ⟨g,0,none⟩) n wc) s.wt/\y.cell? ⟨b,8,none⟩=some (.pointer (some ⟨ob,0,none⟩))/\y.cell? ⟨b,9,none⟩=some (.slice (some ⟨g,0,none⟩) n wc)):=by
   intro y hy
   have hr:=lrow_c.1 h.wt
   rw [hn] at hr
   have hb:Blk y b 85 _:=h.blk.same (hy.block b h.blk.lt HNB.out)
   have k8:=hb.cell 8
   have k9:=hb.cell 9
   rw [hn] at k9
   exact ⟨owns_fr hr hy fun k hk e=>h.fn_ne hw (h.wt_blk (by rw [hn];exact hk)).choose_spec (by decide) (by decide) e,k8,k9⟩
  have HE:Hid (∀(y:World) (j:Nat) (Qj:Nat->Prop),j<=n->(Win Qj y ob v s.size (s.L ++ (s.wt.take j).map some) (lead s.L)/\Fr w y (FN ob v)/\(∀i,Q i->Qj i)/\(∀i,Qj i->Q i\/(w.heap.size<=i/\i<y.heap.size))/\s.L.length+j<=lead s.L+s.size)->(j=n\/s.L.length+j=lead s.L+s.size) →
    ∀(uo:Option Addr) (uc:Nat) (y3:World),CRow y3 0 (.slice uo (s.wt.drop j).length uc) (s.wt.drop j)->(Value.slice uo (s.wt.drop j).length uc).ownBlock=some g->y.grownBy y3 (some g)->Stp Q F w b s.given (y3.setCell ⟨b,9,none⟩ (.slice uo (s.wt.drop j).length uc))):=by
   intro y j Qj hj hI hend uo uc y3 hr hu hg
   have e:s.many=j:=by
    unfold CS.many
    rw [HN.out.1]
    have:=hI.2.2.2.2
    have:=HC.out.2.1.room
    omega
   have e2:s.given.wt=s.wt.drop j:=by simp [CS.given,e]
   have e3:s.given.L=s.L ++ (s.wt.take j).map some:=by simp [CS.given,e]
   have HP:=HC.out.1.gave (w1:=y) (w2:=y3) (uo:=uo) (uc:=uc) (Q':=Qj) HC.out.2.1 HC.out.2.2.1 HC.out.2.2.2 (by rw [e3];exact hI.1) hI.2.1 hI.2.2.2.1 (by rw [e2];exact hr) (by rw [e2];exact hu) hg
   rw [e2] at HP
   exact ⟨Qj,F,⟨_,_,_,HP.1⟩,HP.2,fun i hi=>.inl hi,fun i hi=>(hI.2.2.2.1 i hi).imp id And.left⟩
  have HX:Hid (∀(y:World) (j:Nat),j<=n->Fr w y (FN ob v)->Calls Tryz.prog 63 #[.slice (some ⟨g,0,none⟩) n wc,.int .i64 0,.int .i64 j] y fun e y'=>∃uo uc,e=.returned (.slice uo (s.wt.drop j).length uc)/\CRow y' 0 (.slice uo (s.wt.drop j).length uc) (s.wt.drop j)/\(Value.slice uo (s.wt.drop j).length uc).ownBlock=some g/\y.grownBy y' (some g)/\(∃x,y'.cell? ⟨b,9,none⟩=some x)/\y'.frozen? ⟨b,9,none⟩=false):=by
   intro y j hj hy
   refine (delete63 0 _ s.wt j y (HR.out y hy).1 (by rw [HN.out.1];exact hj) (by rw [HN.out.1];exact HN.out.2)).mono ?_
   rintro e y' ⟨u,rfl,hr,hu,hg⟩
   obtain ⟨uo,uc,rfl⟩:=(lrow_c.2 hr).shape
   have hb:Blk y b 85 _:=HC.out.1.blk.same (hy.block b HC.out.1.blk.lt HNB.out)
   have hb':=hb.grown hg fun e=>by
    simp [Value.ownBlock] at e
    have:=(HR.out y hy).1.shape
    rcases this with ⟨e2,_⟩ | ⟨g',cap',cur',e2,_,hgb,_⟩
    ·simp at e2
    ·simp at e2
     rw [<-e2.1,e] at hgb
     exact absurd (blk_type hb hgb) (by decide)
   exact ⟨uo,uc,rfl,hr,hu,hg,⟨_,hb'.cell 9⟩,hb'.free 9⟩
  clear h hw h1 hF hn h0 hgb hcell
  go_enter Tryz.func35,Tryz.ntmps35
  refine wp_scope_straight ?_
  go_wp2_with fail
  refine wp_label ?_
  refine (‹∀(a:Act) (w:World),Code.wp Tryz.prog _ _ a w->_› _ _ ?_)
  go_wp2_with fail
  go_loopw [2,12] (fun p q wr=>∃(j:Nat) (Qj:Nat->Prop),j<=n/\p=.int .i64 j/\q=.int .i64 j/\Hid (Win Qj wr ob v s.size (s.L ++ (s.wt.take j).map some) (lead s.L)/\Fr w wr (FN ob v)/\(∀i,Q i->Qj i)/\(∀i,Qj i->Q i\/(w.heap.size<=i/\i<wr.heap.size))/\s.L.length+j<=lead s.L+s.size)) (fun p q _=>n-(intOf q).toNat)
  case atStart=>exact ⟨0,Q,Nat.zero_le _,rfl,rfl,by simpa using HC.out.2.1,Fr.of (grown_refl w none) (by simp),fun _ h=>h,fun _ h=>.inl h,by have:=HC.out.2.1.room;omega⟩
  case round =>
   obtain ⟨j,Qj,hj,rfl,rfl,HI⟩:=hrel
   by_cases hlt:j<n
   ·have i1:(j:Int)<(n:Int):=by omega
    have i2:(0:Int)<=(j:Int):=by omega
    have HK:Hid (j<s.wt.length):=by rw [HN.out.1];exact hlt
    obtain ⟨q0,q1,q2,q3⟩:=(HR.out wr HI.out.2.1).1.at j HK.out
    obtain ⟨c,hc⟩:∃c,s.wt[j]'HK.out=c:=⟨_,rfl⟩
    rw [hc] at q0 q1 q2 q3
    have HS:Hid ((s.wt.take (j+1))=s.wt.take j ++ [c]):=by unfold Hid;rw [<-hc];exact List.take_succ_eq_append_getElem HK.out
    clear hc
    have HZ:Hid (Blk (wr.alloc (.cells #[.int .i64 0,.slice none 0 0,.bool false,.int .i64 0] 105)) wr.heap.size 105 #[.int .i64 0,.slice none 0 0,.bool false,.int .i64 0]):=heap_alloc_new wr _
    obtain ⟨y0,y1,y2,y3⟩:=cells4 HZ.out
    obtain ⟨z0,z1,z2,z3⟩:=frees4 HZ.out
    obtain ⟨W1,hW1,H1⟩:=al1 wr #[.int .i64 c.id,.slice c.o c.n c.c,.bool c.was,.int .i64 c.tm] 105
    have HW1:Hid (wr.alloc (.cells #[.int .i64 c.id,.slice c.o c.n c.c,.bool c.was,.int .i64 c.tm] 105)=W1):=hW1
    clear hW1
    go_upto_region 4 with fail
    rw [HW1.out]
    obtain ⟨p1,hp1⟩:∃x,wr.heap.size=x:=⟨_,rfl⟩
    rw [hp1] at H1 ⊢
    clear y0 y1 y2 y3 z0 z1 z2 z3 q0 q1 q2 q3
    have HW:Hid (Win Qj W1 ob v s.size (s.L ++ (s.wt.take j).map some) (lead s.L)/\Fr w W1 (FN ob v)/\W1.heap.size=wr.heap.size+1):=⟨HI.out.1.grown H1.out.2.1,HI.out.2.1.trans (Fr.of (F:=FN ob v) H1.out.2.1 (by simp)) fun i hi=>.inl hi,by have:=H1.out.2.2;omega⟩
    have HP:Hid (∀y,Fr W1 y (FN ob v)->y.cell? ⟨b,8,none⟩=some (.pointer (some ⟨ob,0,none⟩))/\y.cell? ⟨p1,0,none⟩=some (.int .i64 c.id)/\y.cell? ⟨p1,1,none⟩=some (.slice c.o c.n c.c)/\y.cell? ⟨p1,2,none⟩=some (.bool c.was)/\y.cell? ⟨p1,3,none⟩=some (.int .i64 c.tm)):=by
     intro y hy
     have hp:¬FN ob v p1:=fun e=>by
      have:=HI.out.1.lt p1 e
      omega
     exact ⟨(HR.out y (HW.out.2.1.trans hy fun i hi=>.inl hi)).2.1,cells4 (H1.out.1.same (hy.block p1 H1.out.1.lt hp))⟩
    clear HW1 H1 hp1 HZ
    refine wp_region_hold 1000 (fun y=>Fr W1 y (FN ob v)) (by kernel_rfl) ?_
    have HD:Hid (W1.grownBy W1.drew none/\Fr W1 W1.drew (FN ob v)):=⟨grown_drew _ _,Fr.of (grown_drew _ none) (by simp)⟩
    generalize W1.drew=wd at HD ⊢
    have J:Idx [0,1,2,3,4]:=trivial
    iterate 5 (refine tK J (HD.out.2) rfl rfl (fun wk hk=>by obtain ⟨k8,j0,j1,j2,j3⟩:=HP.out wk hk;go_simp;try rfl) ?_;replace J:=J.tl;try simp only [pN])
    clear J
    refine wpHold_one (i:=5) rfl (by kernel_rfl) (by rfl) (fun K hK=>?_)
    go_wp2_with fail
    refine (give_yes ob v s.size (s.L ++ (s.wt.take j).map some) (lead s.L) c wd (HW.out.1.grown HD.out.1) (by have:=HC.out.1.len;have:=HC.out.1.ok.last;have:=HN.out;simp;omega)).mono ?_
    rintro e w5 hgv0
    obtain ⟨nu,er,rfl,hgv⟩:∃nu er:Int,e=.returned (.tuple #[.int .i64 nu,.int .i64 er])/\((er=7/\s.L.length+j=lead s.L+s.size/\Win Qj w5 ob v s.size (s.L ++ (s.wt.take j).map some) (lead s.L)/\Fr wd w5 (FN ob v))\/(er=0/\s.L.length+j<lead s.L+s.size/\Win (Qn Qj wd w5) w5 ob v s.size (s.L ++ (s.wt.take (j+1)).map some) (lead s.L)/\Fr wd w5 (FN ob v))):=by
     have hle:(s.L ++ (s.wt.take j).map some).length=s.L.length+j:=by simp;have:=HK.out;omega
     rcases hgv0 with ⟨g1,g2,g3,g4⟩ | ⟨g1,g2,g3,g4⟩
     ·exact ⟨_,_,g2,.inl ⟨rfl,by omega,g3,g4⟩⟩
     ·refine ⟨_,_,g2,.inr ⟨rfl,by omega,?_,g4⟩⟩
      rw [HS.out,List.map_append,<-List.append_assoc]
      exact g3
    clear hgv0
    have H5:Hid (((er=7/\s.L.length+j=lead s.L+s.size/\Win Qj w5 ob v s.size (s.L ++ (s.wt.take j).map some) (lead s.L))\/(er=0/\s.L.length+j<lead s.L+s.size/\Win (Qn Qj wd w5) w5 ob v s.size (s.L ++ (s.wt.take (j+1)).map some) (lead s.L)))/\Fr wd w5 (FN ob v)):=by
     rcases hgv with ⟨g1,g2,g3,g4⟩ | ⟨g1,g2,g3,g4⟩
     ·exact ⟨.inl ⟨g1,g2,g3⟩,g4⟩
     ·exact ⟨.inr ⟨g1,g2,g3⟩,g4⟩
    clear hgv
    have H6:Hid (Fr W1 w5 (FN ob v)):=HD.out.2.trans H5.out.2 fun i hi=>.inl hi
    go_wp2_with fail
    refine hK.out _ _ (fun _=>H6.out) ?_
    clear hK K
    try simp only [pN]
    have J:Idx [6,7,8,9,10]:=trivial
    iterate 5 (refine tK J (H6.out) rfl rfl (fun wk hk=>by obtain ⟨k8,j0,j1,j2,j3⟩:=HP.out wk hk;go_simp;try rfl) ?_;replace J:=J.tl;try simp only [pN])
    clear J
    refine wpHold_done (by kernel_rfl) ?_
    refine (‹∀(a:Act) (w:World),Code.wp Tryz.prog _ _ a w->_› _ _ ?_)
    have H7:Hid (Fr w w5 (FN ob v)):=HW.out.2.1.trans H6.out fun i hi=>.inl hi
    rcases H5.out.1 with ⟨rfl,g2,g3⟩ | ⟨rfl,g2,g3⟩
    ·have H8:Hid (Win Qj w5 ob v s.size (s.L ++ (s.wt.take j).map some) (lead s.L)/\Fr w w5 (FN ob v)/\(∀i,Q i->Qj i)/\(∀i,Qj i->Q i\/(w.heap.size<=i/\i<w5.heap.size))/\s.L.length+j<=lead s.L+s.size):=by
      have a1:=HI.out.2.2.2
      have a2:=HW.out.2.2
      have a3:=H6.out.size
      refine ⟨g3,H7.out,HI.out.2.2.1,fun i hi=>?_,by omega⟩
      rcases a1.1 i hi with e | e
      ·exact .inl e
      ·exact .inr ⟨e.1,by omega⟩
     have HM:Hid (j<=n/\s.L.length+j=lead s.L+s.size):=⟨hj,g2⟩
     clear g2 g3 HI
     have k9:=(HR.out w5 H7.out).2.2
     go_wp2_with fail
     refine (HX.out w5 j HM.out.1 H7.out).mono ?_
     rintro e y3 ⟨uo,uc,rfl,hr,hu,hg,⟨x9,hx9⟩,f9⟩
     have HF:Hid (Stp Q F w b s.given (y3.setCell ⟨b,9,none⟩ (.slice uo (s.wt.drop j).length uc))):=HE.out w5 j Qj HM.out.1 H8.out (.inr HM.out.2) uo uc y3 hr hu hg
     obtain ⟨dl,hdl⟩:∃x,(s.wt.drop j).length=x:=⟨_,rfl⟩
     rw [hdl] at HF ⊢
     clear hr hu hg k9 hdl
     go_wp2_with fail
     exact ⟨rfl,_,results_none rfl _ _ _,⟨_,rfl⟩,HF.out⟩
    ·have H8:Hid (Win (Qn Qj wd w5) w5 ob v s.size (s.L ++ (s.wt.take (j+1)).map some) (lead s.L)/\Fr w w5 (FN ob v)/\(∀i,Q i->Qn Qj wd w5 i)/\(∀i,Qn Qj wd w5 i->Q i\/(w.heap.size<=i/\i<w5.heap.size))/\s.L.length+(j+1)<=lead s.L+s.size):=by
      have a1:=HI.out.2.2.2
      have a2:=HW.out.2.2
      have a3:=H6.out.size
      have a4:=HD.out.1.size
      have a5:=HW.out.2.1.size
      have a6:=H5.out.2.size
      refine ⟨g3,H7.out,fun i hi=>.inl (HI.out.2.2.1 i hi),fun i hi=>?_,by omega⟩
      rcases hi with hi | hi
      ·rcases a1.1 i hi with e | e
       ·exact .inl e
       ·exact .inr ⟨e.1,by omega⟩
      ·exact .inr ⟨by omega,hi.2⟩
     have d1:IntKind.i64.wrap ((j:Int)+1)=(j:Int)+1:=by have:=HN.out;rw [IntKind.wrap_i64];omega
     have HM:Hid (j+1<=n):=hlt
     clear g2 g3 HI
     go_wp2_with fail
     go_roundw
     case rel=>exact ⟨j+1,_,HM.out,by go_num,by go_num,H8.out⟩
     case measure=>simp [intOf];omega
   ·have hjn:j=n:=by omega
    have i1:¬(j:Int)<(n:Int):=by omega
    have HM:Hid (j<=n/\j=n):=⟨hj,hjn⟩
    clear hjn
    have k9:=(HR.out wr HI.out.2.1).2.2
    go_wp2_with fail
    refine (HX.out wr j HM.out.1 HI.out.2.1).mono ?_
    rintro e y3 ⟨uo,uc,rfl,hr,hu,hg,⟨x9,hx9⟩,f9⟩
    have HF:Hid (Stp Q F w b s.given (y3.setCell ⟨b,9,none⟩ (.slice uo (s.wt.drop j).length uc))):=HE.out wr j Qj HM.out.1 HI.out (.inl HM.out.2) uo uc y3 hr hu hg
    obtain ⟨dl,hdl⟩:∃x,(s.wt.drop j).length=x:=⟨_,rfl⟩
    rw [hdl] at HF ⊢
    clear hr hu hg k9 hdl
    go_wp2_with fail
    exact ⟨rfl,_,results_none rfl _ _ _,⟨_,rfl⟩,HF.out⟩
end Go.Proofs.YtanoabliahcbeaaGreat.Wn
