import Derived.Test.YtadhfejefpildaaGreatFrameIt
import Derived.Shelf.Abstract
set_option maxHeartbeats 4000000
set_option maxRecDepth 100000
namespace Go.Proofs.YtadhfejefpildaaGreat.Frame
open Go.RowKit Disk
def ScI (w:World)(fs:Frs)(k:Nat)(W:World):Prop :=
 ∃vl vs,w.grownBy W none/\Blk W w.heap.size 100 #[vl]/\Blk W (w.heap.size+1) 3 #[.int .i64 ((flat (fs.take k)).length:Nat)]/\FRow W (w.heap.size+5) vl vs (fs.take k)
theorem ScI.grown {w:World}{fs:Frs}{k:Nat}{W W':World}(h:ScI w fs k W)(hg:W.grownBy W' none):ScI w fs k W':=by
 obtain ⟨vl,vs,h1,h2,h3,h4⟩:=h
 exact ⟨vl,vs,aa h1 hg,h2.grown hg (by simp),h3.grown hg (by simp),h4.grown hg⟩
theorem ScI.put {w:World}{fs:Frs}{k:Nat}{W:World}(h:ScI w fs k W)(o:Obj):ScI w fs k (W.putObj (w.heap.size+3+1) o):=by
 obtain ⟨vl,vs,h1,h2,h3,h4⟩:=h
 have hg:=ge W (w.heap.size+3+1) o
 refine ⟨vl,vs,ah h1 hg (by intro x hx;simp at hx;omega),h2.grown hg (by simp <;> omega),h3.grown hg (by simp <;> omega),h4.same fun i hi=>hg.block i (h4.lt hi).2 (fun e=>?_)⟩
 have:=(h4.lt hi).1
 simp at e
 omega
theorem appF {ops:Array Oper}{rest:List Oper}{o:Oper}{a:Act}{Q:Exit->Act->World->Prop}(w:World)(hgd:o.guard=none)(s x:Operand)
  (ho:o.op=.call { callee:=.builtin .append,args:=#[s,x],argTypes:=#[100,100] })
  (B:Nat) (v:Value) (vs:List Value) (l:Frs) (n:Nat) (hn:l.length=n) (k:Int) (u:Value) (g:Nat) (hs:a.eval s=v) (hx:a.eval x=.slice (some ⟨g,0,none⟩) 1 1) (hrow:w.ownsRow B 109 2 v l.length (fc vs l)) (hc0:w.cell? ⟨g,0,none⟩=some (.int .i64 k)) (hc1:w.cell? ⟨g,1,none⟩=some u) (h1:u.oneCell'=true) (hb:(n+1)*32<=140737488355328) (hB:B<=w.heap.size)
  (h:∀g' cap' w',w'.ownsRow B 109 2 (.slice (some ⟨g',0,none⟩) (n+1) cap') (l.length+1) (fc vs l ++ [.int .i64 k,u])->w.grownBy w' v.ownBlock->(v.ownBlock=some g'\/g'=w.heap.size)->wpList Tryz.prog ops Q rest (a.put o.dst (.slice (some ⟨g',0,none⟩) (n+1) cap')) w'):wpList Tryz.prog ops Q (o :: rest) a w:=by
 subst hn
 exact wpList_plain hgd fun K hK=>tW w s x ho B v vs l k u g hs hx hrow hc0 hc1 h1 hb hB (fun g' cap' w' h1 h2 h3=>hK _ _ (h g' cap' w' h1 h2 h3))
def mc (L:List UInt8)(w:World)(e:Ending)(w':World):Prop :=
 ∃fs R vl vs,Sc L fs R/\e=.returned (.tuple #[vl,.int .i64 ((flat fs).length:Nat),.int .i64 (ends R:Nat)])/\FRow w' w.heap.size vl vs fs/\w.grownBy w' none
theorem vB (v:Value)(L:List UInt8)(w:World)(hs:Seg w v L)(hL:L.length<=39582418599936):Calls Tryz.prog 46 #[v] w (mc L w):=by
 obtain ⟨ao,cap,hv⟩:=hs.shape
 subst hv
 obtain ⟨n,hn⟩:∃n,L.length=n:=⟨_,rfl⟩
 have HS:Hid (Seg w (.slice ao n cap) L):=by rw [<-hn];exact hs
 have HN:Hid _:=hn
 obtain ⟨fs,R,hsc⟩:=eU L.length L (Nat.le_refl _)
 have HSC:Hid _:=hsc
 have hcount:=hsc.count
 have hcap:n<=cap/\cap<=9223372036854775807:=by
  obtain ⟨ao',cap',hv,h1,h2,h3,h4⟩:=hs
  simp at hv
  obtain ⟨rfl,rfl⟩:=hv
  unfold maxLen at h2
  exact ⟨by omega,by omega⟩
 rw [hn] at hL hcount ⊢
 clear hn hs hsc
 refine di Tryz.func46 rfl ?_
 simp only [Tryz.ntmps46,List.size_toArray,List.length_cons,List.length_nil,Nat.reduceAdd,Nat.reduceSub,Array.replicate_succ,Array.replicate_zero,List.push_toArray,List.append_toArray,List.nil_append,List.cons_append]
 go_wp2_with fail
 refine (mp _ L _ ((HS.out.grown (World.grownBy_alloc _ _ _)).grown (World.grownBy_alloc _ _ _))).mono ?_
 rintro e w3 ⟨rfl,hw3⟩
 have HW:Hid (w3.heap.size=w.heap.size+3/\Blk w3 w.heap.size 100 #[.slice none 0 0]/\Blk w3 (w.heap.size+1) 3 #[.int .i64 0]/\Blk w3 (w.heap.size+2) 23 #[.slice ao n cap]/\w.grownBy w3 none):=by
  have e2:=heap_alloc_new ((w.alloc (.cells #[.slice none 0 0] 100)).alloc (.cells #[.int .i64 0] 3)) (.cells #[.slice ao n cap] 23)
  rw [<-hw3] at e2
  simp at e2
  have g:=World.grownBy_alloc ((w.alloc (.cells #[.slice none 0 0] 100)).alloc (.cells #[.int .i64 0] 3)) (.cells #[.slice ao n cap] 23) none
  rw [<-hw3] at g
  refine ⟨by rw [hw3];simp,Blk.grown (heap_alloc2_old _ _ _) g (by simp),Blk.grown (heap_alloc2_new _ _ _) g (by simp),e2,aa (aa (World.grownBy_alloc _ _ _) (World.grownBy_alloc _ _ _)) g⟩
 have e1:((w.alloc (.cells #[.slice none 0 0] 100)).alloc (.cells #[.int .i64 0] 3)).heap.size=w.heap.size+2:=by simp
 rw [e1]
 clear hw3 e1
 go_wp2_with fail
 refine mb (gf:=108) (lb:=#[.pointer (some ⟨w.heap.size+2,0,none⟩)]) rfl (enters_of Tryz.func108 (by kernel_rfl) rfl)
  (rY (fun i=>i<w.heap.size\/i=w.heap.size+2) (w.heap.size+2) (.slice ao n cap) L fs R w3 HW.out.2.2.2.1 (HS.out.grown HW.out.2.2.2.2) HSC.out (by rw [HN.out];omega) (.inr rfl) (fun hne b off n' c e=>.inl (dK HS.out hne e))) ?hPb ?hps (ScI w fs) (fun _=>False) ?hIg ?hIp ?hXg ?hXp ?h0 ?hround ?hX1 ?hdone ?hstop
 case hPb =>
  intro i hi
  rw [HW.out.1]
  omega
 case hps =>
  rintro k W0 W1 xs ⟨_,u,rfl,_⟩
  rfl
 case hIg=>exact fun k W W' h g=>h.grown g
 case hIp =>
  intro k W o h
  rw [HW.out.1]
  exact h.put o
 case hXg=>exact fun _ _ h _=>h
 case hXp=>exact fun _ _ h=>h
 case h0=>exact ⟨_,[],HW.out.2.2.2.2,HW.out.2.1,HW.out.2.2.1,mh _ _⟩
 case hX1 =>
  rintro k W0 W1 xs ⟨_,u,_,_,_,h⟩
  exact h
 case hstop=>exact fun _ h=>h.elim
 case hround =>
  rintro l k W0 W1 xs hk hI hlt hg hlt2 ⟨_,u,rfl,ou,hub,_⟩
  rw [HW.out.1] at hlt ⊢
  simp only [List.zip_toArray,List.zip_cons_cons,List.zip_nil_right,List.foldl_toArray',List.size_toArray,List.foldl_cons,List.foldl_nil,List.setIfInBounds_toArray,List.set_cons_zero,List.set_cons_succ]
  obtain ⟨vl,vs,i1,i2,i3,i4⟩:=hI
  obtain ⟨au,cu,hu⟩:=ou.seg.shape
  subst hu
  obtain ⟨m,hm⟩:∃m,fs[k].2.length=m:=⟨_,rfl⟩
  have HM:Hid _:=hm
  have HO:Hid (Disk.Own W1 W0.heap.size (.slice au m cu) fs[k].2):=by rw [<-hm];exact ou
  have HUB:Hid (∀b,(Value.slice au m cu).ownBlock=some b->b+1<W1.heap.size):=by rw [<-hm];exact hub
  obtain ⟨kd,hkd⟩:∃kd,fs[k].1=kd:=⟨_,rfl⟩
  have HKD:Hid _:=hkd
  obtain ⟨pl,hpl⟩:∃pl,(flat (fs.take k)).length=pl:=⟨_,rfl⟩
  have HPL:Hid _:=hpl
  rw [hm,hkd,hpl]
  have HI:Hid (w.grownBy W0 none/\Blk W0 w.heap.size 100 #[vl]/\Blk W0 (w.heap.size+1) 3 #[.int .i64 pl]/\FRow W0 (w.heap.size+5) vl vs (fs.take k)):=⟨i1,i2,by rw [<-hpl];exact i3,i4⟩
  have HG:Hid (W0.grownBy W1 none/\W0.heap.size<W1.heap.size/\w.heap.size+3+1<W0.heap.size):=⟨hg,hlt2,hlt⟩
  have hml:m<=140737488355328:=by
   have:=HSC.out.may fs[k] (List.getElem_mem hk)
   omega
  have hpn:pl+(9+m)<=n:=by
   have:=(HSC.out.at k hk).2.2.2
   rw [hpl,hm,HN.out] at this
   exact this
  have hkl:(fs.take k).length=k:=by rw [List.length_take];omega
  obtain ⟨al,cl,hvl⟩:=i4.shape
  rw [hkl] at hvl
  subst hvl
  clear hpl hkd hm ou hub i1 i2 i3 i4 hg hlt hlt2
  refine wpIn_seq ?_
  refine aF (by rintro ⟨_,_,h⟩;exact h) rfl ?_
  go_wp2_with fail
  refine aF (by rintro ⟨_,_,h⟩;exact h) rfl ?_
  go_wp2_with fail
  refine ⟨World.grownBy_alloc _ _ _,fun o=>?_⟩
  obtain ⟨W2,hW2⟩:∃W2,(W1.alloc (.cells #[.int .i64 kd,.slice au m cu] 109)).putObj (w.heap.size+3+1) o=W2:=⟨_,rfl⟩
  have HW2:Hid (Blk W2 W1.heap.size 109 #[.int .i64 kd,.slice au m cu]/\W2.heap.size=W1.heap.size+1/\W1.grownBy W2 (some (w.heap.size+3+1))):=by
   have g1:=World.grownBy_alloc W1 (.cells #[.int .i64 kd,.slice au m cu] 109) (some (w.heap.size+3+1))
   have g2:=ge (W1.alloc (.cells #[.int .i64 kd,.slice au m cu] 109)) (w.heap.size+3+1) o
   rw [hW2] at g2
   refine ⟨Blk.grown (heap_alloc_new _ _) g2 (by have:=HG.out;simp <;> omega),by rw [<-hW2];simp,aa g1 g2⟩
  rw [hW2]
  clear hW2
  have HI2:Hid (Blk W2 w.heap.size 100 #[.slice al k cl]/\Blk W2 (w.heap.size+1) 3 #[.int .i64 pl]/\FRow W2 (w.heap.size+5) (.slice al k cl) vs (fs.take k)/\Disk.Own W2 W0.heap.size (.slice au m cu) fs[k].2/\w.grownBy W2 none):=by
   obtain ⟨h1,h2,h3,h4⟩:=HI.out
   obtain ⟨g1,g2,g3⟩:=HG.out
   have g4:=HW2.out.2.2
   refine ⟨(h2.grown g1 (by simp)).grown g4 (by simp <;> omega),(h3.grown g1 (by simp)).grown g4 (by simp <;> omega),(h4.grown g1).same fun i hi=>g4.block i ((h4.grown g1).lt hi).2 (fun e=>?_),HO.out.same fun i hi=>g4.block i (HO.out.lt i hi).2 (fun e=>?_),ah (aa h1 g1) g4 (by intro x hx;simp at hx;omega)⟩
   ·have:=(h4.lt hi).1
    simp at e
    omega
   ·have:=(HO.out.lt i hi).1
    simp at e
    omega
  have c0:=HI2.out.1.cell 0
  have c1:=HW2.out.1.cell 0
  have c2:=HW2.out.1.cell 1
  simp at c0 c1 c2
  refine wpIn_block (wpIn_seq ?_)
  refine aF (by rintro ⟨_,_,h⟩;exact h) rfl ?_
  go_wp2_with (at_builtin;refine appF _ rfl (.tmp 13) (.tmp 15) rfl (w.heap.size+5) _ vs (fs.take k) k hkl kd (.slice au m cu) W2.heap.size rfl rfl (HI2.out.2.2.1.grown (World.grownBy_alloc _ _ _)).row ?d0 ?d1 rfl ?d2 ?d3 ?_)
  case d0=>rw [cell_of_row _ _ _ _ _ _ (heap_alloc_new _ _)];rfl
  case d1=>rw [cell_of_row _ _ _ _ _ _ (heap_alloc_new _ _)];rfl
  case d2=>omega
  case d3=>have:=HG.out;have:=HW2.out.2.1;simp;omega
  intro g' cap' w4 hrow hg4 hl4
  clear c0 c1 c2
  have H4:Hid (Fr W2 w4 (fun i=>(Value.slice al k cl).ownBlock=some i)/\w4.ownsRow (w.heap.size+5) 109 2 (.slice (some ⟨g',0,none⟩) (k+1) cap') (k+1) (fc vs (fs.take k) ++ [.int .i64 kd,.slice au m cu])/\(W2.alloc (.cells #[.int .i64 kd,.slice au m cu] 109)).grownBy w4 (Value.slice al k cl).ownBlock/\((Value.slice al k cl).ownBlock=some g'\/g'=W2.heap.size+1)):=⟨Fr.of (aa (World.grownBy_alloc W2 _ _) hg4) (fun i hi=>hi),hrow,hg4,hl4⟩
  clear hrow hg4 hl4
  have HB4:Hid (Blk w4 w.heap.size 100 #[.slice al k cl]/\Blk w4 (w.heap.size+1) 3 #[.int .i64 pl]/\Blk w4 W1.heap.size 109 #[.int .i64 kd,.slice au m cu]):=by
   have hn:∀i,(Value.slice al k cl).ownBlock=some i->w.heap.size+5<=i/\i<W0.heap.size:=fun i hi=>HI.out.2.2.2.lt (.inl hi)
   have hgo:=HG.out
   refine ⟨HI2.out.1.same (H4.out.1.block _ HI2.out.1.lt (fun e=>?_)),HI2.out.2.1.same (H4.out.1.block _ HI2.out.2.1.lt (fun e=>?_)),HW2.out.1.same (H4.out.1.block _ HW2.out.1.lt (fun e=>?_))⟩
   ·have:=hn _ e;omega
   ·have:=hn _ e;omega
   ·have:=hn _ e;omega
  have c0:=HB4.out.1.cell 0
  have f0:=HB4.out.1.free 0
  simp at c0
  go_wp2_with fail
  refine aF (by rintro ⟨_,_,h⟩;exact h) rfl ?_
  have H5:Hid (Blk (w4.setCell ⟨w.heap.size,0,none⟩ (.slice (some ⟨g',0,none⟩) (k+1) cap')) w.heap.size 100 #[.slice (some ⟨g',0,none⟩) (k+1) cap']/\Blk (w4.setCell ⟨w.heap.size,0,none⟩ (.slice (some ⟨g',0,none⟩) (k+1) cap')) (w.heap.size+1) 3 #[.int .i64 pl]/\Blk (w4.setCell ⟨w.heap.size,0,none⟩ (.slice (some ⟨g',0,none⟩) (k+1) cap')) W1.heap.size 109 #[.int .i64 kd,.slice au m cu]/\w4.grownBy (w4.setCell ⟨w.heap.size,0,none⟩ (.slice (some ⟨g',0,none⟩) (k+1) cap')) (some w.heap.size)):=by
   have g5:=ae w4 w.heap.size 0 (.slice (some ⟨g',0,none⟩) (k+1) cap')
   have hgo:=HG.out
   exact ⟨HB4.out.1.store 0 _,HB4.out.2.1.grown g5 (by simp <;> omega),HB4.out.2.2.grown g5 (by simp <;> omega),g5⟩
  generalize w4.setCell ⟨w.heap.size,0,none⟩ (.slice (some ⟨g',0,none⟩) (k+1) cap')=w5 at H5 ⊢
  clear c0 f0
  have c1:=H5.out.2.2.1.cell 1
  simp at c1
  go_wp2_with fail
  refine (kX _ m _ _ hml).mono ?_
  rintro e wx ⟨rfl,hx⟩
  subst hx
  have c2:=H5.out.2.1.cell 0
  have f2:=H5.out.2.1.free 0
  simp at c2
  go_wp2_with fail
  have hgo:=HG.out
  have hn:∀i,(Value.slice al k cl).ownBlock=some i->w.heap.size+5<=i/\i<W0.heap.size:=fun i hi=>HI.out.2.2.2.lt (.inl hi)
  have hfr:Fr W2 (wx.setCell ⟨w.heap.size+1,0,none⟩ (.int .i64 ((pl:Int)+(9+(m:Int))))) (fun i=>i=w.heap.size\/i=w.heap.size+1\/(Value.slice al k cl).ownBlock=some i) :=
   Fr.trans (Fr.trans (H4.out.1.mono fun i hi=>.inr (.inr hi)) (Fr.of (F:=fun i=>i=w.heap.size) H5.out.2.2.2 (fun i hi=>by simp at hi;exact hi.symm)) (fun i hi=>.inl (.inl hi))) (Fr.of (F:=fun i=>i=w.heap.size+1) (ae wx (w.heap.size+1) 0 _) (fun i hi=>by simp at hi;exact hi.symm)) (fun i hi=>.inl (.inr (.inl hi)))
  refine ⟨⟨?_,?_⟩,?_,?_⟩
  ·refine hfr.block _ (by have:=HW2.out.2.1;omega) (fun e=>?_)
   rcases e with e | e | e
   ·omega
   ·omega
   ·have:=hn _ e;omega
  ·refine hfr.block _ (by have:=HW2.out.2.1;omega) (fun e=>?_)
   rcases e with e | e | e
   ·omega
   ·omega
   ·have:=hn _ e;omega
  ·intro i hi hil
   rw [hfr.block i (by have:=HW2.out.2.1;omega) (fun e=>?_)]
   ·refine HW2.out.2.2.block i hil (fun e=>?_)
    simp at e
    rcases hi with hi | hi <;> omega
   ·rcases e with e | e | e
    ·rcases hi with hi | hi <;> omega
    ·rcases hi with hi | hi <;> omega
    ·have:=hn _ e
     rcases hi with hi | hi <;> omega
  ·have hr:FRow w4 (w.heap.size+5) (.slice (some ⟨g',0,none⟩) (k+1) cap') (vs ++ [.slice au m cu]) (fs.take (k+1)):=by
    rw [List.take_succ_eq_append_getElem hk]
    have h3:=HI2.out.2.2.1.grown (World.grownBy_alloc W2 (.cells #[.int .i64 kd,.slice au m cu] 109) none)
    refine h3.snoc (f:=fs[k]) ((HI2.out.2.2.2.1.grown (World.grownBy_alloc W2 _ none)).mono (by omega)) ?_ H4.out.2.2.1 ?_
    ·intro j hj a ha e
     have h1:=HI.out.2.2.2.lt (.inr ⟨j,hj,ha⟩)
     have h2:=(HO.out.lt a e).1
     omega
    ·rw [hkl,HKD.out]
     exact H4.out.2.1
   refine ⟨.slice (some ⟨g',0,none⟩) (k+1) cap',vs ++ [.slice au m cu],?_,?_,?_,?_⟩
   ·have h1:=HI2.out.2.2.2.2
    refine ⟨hfr.os.trans h1.os,hfr.tape.trans h1.tape,hfr.output.trans h1.output,Nat.le_trans h1.size hfr.size,fun i hi _=>?_⟩
    rw [hfr.block i (Nat.lt_of_lt_of_le hi h1.size) (fun e=>?_)]
    ·exact h1.block i hi (by simp)
    ·rcases e with e | e | e
     ·omega
     ·omega
     ·have:=hn _ e;omega
   ·exact H5.out.1.grown (ae _ _ _ _) (by simp)
   ·have hs5:=H5.out.2.1.store 0 (.int .i64 ((pl:Int)+(9+(m:Int))))
    rw [cx fs k hk,HPL.out,HM.out]
    exact hs5
   ·refine (hr.same fun i hi=>H5.out.2.2.2.block i (hr.lt hi).2 (fun e=>?_):FRow wx _ _ _ _).same fun i hi=>?_
    ·have:=(hr.lt hi).1
     simp at e
     omega
    ·have:=(hr.lt hi).1
     rw [heap_setCell_other _ _ _ _ (by simp;omega)]
 case hdone =>
  intro W hI hD
  rw [HW.out.1] at hD ⊢
  obtain ⟨vl,vs,j1,j2,j3,j4⟩:=hI
  rw [List.take_length] at j3 j4
  have hlen:=HSC.out.len
  have hend:=HSC.out.end
  rw [HN.out] at hlen
  obtain ⟨pl,hpl⟩:∃pl,(flat fs).length=pl:=⟨_,rfl⟩
  have HPL:Hid _:=hpl
  rw [hpl] at hlen hend j3
  have HE:Hid _:=hend
  have HI:Hid (w.grownBy W none/\Blk W w.heap.size 100 #[vl]/\Blk W (w.heap.size+1) 3 #[.int .i64 pl]/\FRow W (w.heap.size+5) vl vs fs):=⟨j1,j2,j3,j4⟩
  have HD:Hid _:=hD
  obtain ⟨al,cl,hvl⟩:=j4.shape
  have hple:pl<=n:=by omega
  clear hpl hend j1 j2 j3 j4 hD
  have HQ:Hid (∀x:World,W.grownBy x none->x.cell? ⟨w.heap.size,0,none⟩=some vl/\x.cell? ⟨w.heap.size+1,0,none⟩=some (.int .i64 pl)):=fun x hx=>⟨(HI.out.2.1.grown hx (by simp)).cell 0,(HI.out.2.2.1.grown hx (by simp)).cell 0⟩
  refine (‹∀(a:Act) (w:World),Code.wp Tryz.prog _ _ a w->_› _ _ ?_)
  subst hvl
  by_cases hcp:cap=pl
  ·have hnp:n=pl:=by omega
   subst hcp
   subst hnp
   have HSR:Hid (Seg W (.slice ao 0 0) R):=by
    have:=bk n (by rw [HN.out];exact Nat.le_refl _) rfl (by rw [HN.out];exact HS.out.grown HI.out.1:Seg W (.slice ao L.length n) L)
    rw [HN.out,HE.out,Nat.sub_self] at this
    exact this
   clear hlen hcount
   go_wp2_with fail
   refine wp_region_noPanic ?_
   refine am 1000 (fun x=>W.grownBy x none) (by kernel_rfl) ?_
   have J:Idx [0,1,2,3,4]:=trivial
   iterate 5 (refine tK J (af _ _) rfl rfl (fun wk hk=>by obtain ⟨k0,k1⟩:=HQ.out wk hk;go_simp;try rfl) ?_;replace J:=J.tl;try simp only [pN])
   refine wO 5 rfl fun K hK=>?_
   go_simp
   refine (mo _ R _ (Seg.grown (w:=W) HSR.out (af _ _)) HSC.out.last).mono ?_
   rintro e w6 ⟨rfl,g6⟩
   have G6:Hid (W.grownBy w6 none):=aa (af _ _) g6
   clear g6
   go_wp2_with fail
   refine hK.out _ _ (fun _=>G6.out) ?_
   clear hK K
   try simp only [pN]
   have J:Idx [6,7,8]:=trivial
   iterate 3 (refine tK J (G6.out) rfl rfl (fun wk hk=>by obtain ⟨k0,k1⟩:=HQ.out wk hk;go_simp;try rfl) ?_;replace J:=J.tl;try simp only [pN])
   refine wD ?_
   refine (‹∀(a:Act) (w:World),Code.wp Tryz.prog _ _ a w->_› _ _ ?_)
   go_wp2_with fail
   have hD6:w6.heap[w.heap.size+3]? = some (.deferred (some [])):=(G6.out.block _ (Array.getElem?_eq_some_iff.1 HD.out).1 (by simp)).trans HD.out
   refine ⟨by simp,.inl ⟨_,_,rfl,run_takeDeferred hD6,?_⟩⟩
   refine ⟨.tuple #[.slice al fs.length cl,.int .i64 (n:Int),.int .i64 (ends R:Nat)],by simp [results,Tryz.results46],?_⟩
   have hgp:=ge w6 (w.heap.size+3) (.deferred none)
   have h6:=HI.out.2.2.2.grown G6.out
   refine ⟨fs,R,.slice al fs.length cl,vs,HSC.out,by rw [HPL.out],FRow.mono (B:=w.heap.size+5) (h6.same fun i hi=>hgp.block i (h6.lt hi).2 (fun e=>?_)) (by omega),ah (aa HI.out.1 G6.out) hgp (by intro x hx;simp at hx;omega)⟩
   have:=(h6.lt hi).1
   simp at e
   omega
  ·have hpi:(pl:Int)<=(n:Int):=by omega
   have hp0:(0:Int)<=(pl:Int):=by omega
   have HSR:Hid (Seg W (.slice (Option.map (fun x=>x.add pl) ao) (n-pl) (cap-pl)) R):=by
    have:=bC pl (by rw [HN.out];exact hple) (by rw [HN.out];exact HS.out.grown HI.out.1:Seg W (.slice ao L.length cap) L)
    rw [HN.out,HE.out] at this
    exact this
   clear hlen hcount
   go_wp2_with fail
   refine wp_region_noPanic ?_
   refine am 1000 (fun x=>W.grownBy x none) (by kernel_rfl) ?_
   have J:Idx [0,1,2,3,4]:=trivial
   iterate 5 (refine tK J (af _ _) rfl rfl (fun wk hk=>by obtain ⟨k0,k1⟩:=HQ.out wk hk;go_simp;try rfl) ?_;replace J:=J.tl;try simp only [pN])
   refine wO 5 rfl fun K hK=>?_
   go_simp
   refine (mo _ R _ (Seg.grown (w:=W) HSR.out (af _ _)) HSC.out.last).mono ?_
   rintro e w6 ⟨rfl,g6⟩
   have G6:Hid (W.grownBy w6 none):=aa (af _ _) g6
   clear g6
   go_wp2_with fail
   refine hK.out _ _ (fun _=>G6.out) ?_
   clear hK K
   try simp only [pN]
   have J:Idx [6,7,8]:=trivial
   iterate 3 (refine tK J (G6.out) rfl rfl (fun wk hk=>by obtain ⟨k0,k1⟩:=HQ.out wk hk;go_simp;try rfl) ?_;replace J:=J.tl;try simp only [pN])
   refine wD ?_
   refine (‹∀(a:Act) (w:World),Code.wp Tryz.prog _ _ a w->_› _ _ ?_)
   go_wp2_with fail
   have hD6:w6.heap[w.heap.size+3]? = some (.deferred (some [])):=(G6.out.block _ (Array.getElem?_eq_some_iff.1 HD.out).1 (by simp)).trans HD.out
   refine ⟨by simp,.inl ⟨_,_,rfl,run_takeDeferred hD6,?_⟩⟩
   refine ⟨.tuple #[.slice al fs.length cl,.int .i64 (pl:Int),.int .i64 (ends R:Nat)],by simp [results,Tryz.results46],?_⟩
   have hgp:=ge w6 (w.heap.size+3) (.deferred none)
   have h6:=HI.out.2.2.2.grown G6.out
   refine ⟨fs,R,.slice al fs.length cl,vs,HSC.out,by rw [HPL.out],FRow.mono (B:=w.heap.size+5) (h6.same fun i hi=>hgp.block i (h6.lt hi).2 (fun e=>?_)) (by omega),ah (aa HI.out.1 G6.out) hgp (by intro x hx;simp at hx;omega)⟩
   have:=(h6.lt hi).1
   simp at e
   omega
end Go.Proofs.YtadhfejefpildaaGreat.Frame
