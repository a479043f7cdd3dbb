import Derived.Test.YtakmlhhapegpoaaGreatSd
set_option maxHeartbeats 8000000
set_option maxRecDepth 100000
namespace Go.Proofs.YtakmlhhapegpoaaGreat
open Go.RowKit Disk Table
open Names (Str cmpL keyB valueB tabB)
def flatD (D:DB):List NRow:=D.flatMap (fun x=>x.2.map (fun r=>(x.1,r)))
def offD (D:DB)(j:Nat):Nat:=(flatD (D.take j)).length
theorem flat_cons (x:Bs × List PRow)(D:DB):flatD (x :: D)=x.2.map (fun r=>(x.1,r)) ++ flatD D:=by simp [flatD]
theorem flat_app (A B:DB):flatD (A ++ B)=flatD A ++ flatD B:=by simp [flatD]
theorem off_succ {D:DB}{j:Nat}(h:j<D.length):offD D (j+1)=offD D j+D[j].2.length:=by
 unfold offD
 rw [List.take_succ_eq_append_getElem h,flat_app]
 simp [flatD]
theorem off_end (D:DB):offD D D.length=(flatD D).length:=by simp [offD]
theorem flat_at {D:DB}{j i:Nat}(h:j<D.length)(hi:i<D[j].2.length):∃h':offD D j+i<(flatD D).length,(flatD D)[offD D j+i]=(D[j].1,D[j].2[i]):=by
 have e:flatD D=flatD (D.take j) ++ (D[j].2.map (fun r=>(D[j].1,r)) ++ flatD (D.drop (j+1))):=by
  rw [<-flat_cons,<-flat_app,List.getElem_cons_drop,List.take_append_drop]
 have h':offD D j+i<(flatD D).length:=by
  rw [e]
  simp [offD]
  omega
 refine ⟨h',?_⟩
 have:(flatD D)[offD D j+i]? = some (D[j].1,D[j].2[i]):=by
  rw [e,List.getElem?_append_right (by simp [offD]),List.getElem?_append_left (by simp [offD];omega)]
  simp [offD,hi]
 rw [List.getElem?_eq_getElem h'] at this
 exact Option.some.inj this
def Xf (F:List NRow)(k:Nat)(W0 W1:World)(xs:Array Value):Prop:=∃(h:k<F.length) (x y:Value),xs=#[.agg #[Str F[k].1,x,y]]/\Disk.Own W1 W0.heap.size x F[k].2.1/\Disk.Own W1 W0.heap.size y F[k].2.2
def ApartD (w:World)(Fw:Nat->Prop):Prop:=∀k,Fw k->k<w.heap.size->∃t c,Blk w k t c/\t≠86/\t≠5/\t≠128/\∀(j p:Nat),c[j]?≠some (ptr p)
theorem ApartD.apart {w:World}{Fw:Nat->Prop}(h:ApartD w Fw):Apart w Fw:=fun k hk hl=>by
 obtain ⟨t,c,h1,h2,h3,_,h5⟩:=h k hk hl
 exact ⟨t,c,h1,h2,h3,h5⟩
def KW (Fw:Nat->Prop)(w A:World):Prop:=∀i,i<w.heap.size->¬Fw i->A.heap[i]? = w.heap[i]?
def LocT (w:World)(Fw:Nat->Prop)(p:Nat)(l:List PRow):Prop:=∃f,Tf w (ptr p) true f l/\Table.RowsIn w (fun k=>k<w.heap.size/\¬Fw k) (.slice f l.length l.length) l
theorem loc_of {X:Nat->Prop}{w:World}{Fw:Nat->Prop}{p:Nat}{l:List PRow}(hap:ApartD w Fw)(h:Tbz X w p l):LocT w Fw p l:=by
 obtain ⟨f,hf⟩:=tf_of (.inl ⟨rfl,p,rfl,h.old⟩:Tl w (ptr p) true l)
 have hr:=hf.rows l.length (Nat.le_refl _)
 rw [List.take_length] at hr
 exact ⟨f,hf,rows_in hr Fw hap.apart⟩
theorem rows_keep {w A:World}{Fw:Nat->Prop}{v:Value}{l:List PRow}(hap:ApartD w Fw)(h:Table.Rows w v l)(hk:KW Fw w A):Table.Rows A v l:=by
 obtain ⟨ps,h1,h2⟩:=h
 refine ⟨ps,⟨h1.1,fun j a b=>?_⟩,h2.cells fun g j u hu hx=>?_⟩
 ·obtain ⟨k,x,hb,hk',hx'⟩:=h1.2 j a b
  have hof:∀{y:Value} {L:Bs},Disk.Own w 0 y L->Disk.Own A 0 y L:=fun {y L} ho=>ho.same fun g hg=>hk g (ho.lt g hg).2 (fun hf=>by
   obtain ⟨t,c,hb2,_,h5,_⟩:=hap g hf (ho.lt g hg).2
   exact ho.other hb2 h5 hg)
  refine ⟨k,x,hb.same (hk _ hb.lt (fun hf=>?_)),hof hk',hof hx'⟩
  obtain ⟨t,c,hb2,h86,_⟩:=hap _ hf hb.lt
  unfold Blk at hb hb2
  rw [hb] at hb2
  simp at hb2
  exact h86 hb2.2.symm
 ·have hl:=cell_lt hx
  rw [cell_same (hk g hl (fun hf=>?_))]
  ·exact hx
  ·obtain ⟨t,c,hb2,_,_,_,hp⟩:=hap _ hf hl
   simp [PTR] at hu
   obtain ⟨p',_,rfl⟩:=hu
   rw [hb2.cell] at hx
   exact hp j p' hx
theorem ats_weak {w:World}{F G:Nat->Prop}{qs:List Nat}{rs:List PRow}(h:AtsIn w F qs rs)(hs:∀k,F k->G k):AtsIn w G qs rs:=by
 refine ⟨h.1,fun j a b=>?_⟩
 obtain ⟨h1,k,v,h2,h3,h4,h5,h6⟩:=h.2 j a b
 exact ⟨hs _ h1,k,v,h2,h3,h4,fun b hb=>hs _ (h5 b hb),fun b hb=>hs _ (h6 b hb)⟩
theorem rowsIn_weak {w:World}{F G:Nat->Prop}{v:Value}{l:List PRow}(h:Table.RowsIn w F v l)(hs:∀k,F k->G k):Table.RowsIn w G v l:=by
 obtain ⟨ps,h1,h2⟩:=h
 exact ⟨ps,h1.weak fun k hk _=>hs k hk,ats_weak h2 hs⟩
theorem loc_keep {w A:World}{Fw:Nat->Prop}{p:Nat}{l:List PRow}(hap:ApartD w Fw)(h:LocT w Fw p l)(hk:KW Fw w A):∃f,Tf A (ptr p) true f l/\Table.RowsIn A (fun k=>k<w.heap.size/\¬Fw k) (.slice f l.length l.length) l:=by
 obtain ⟨f,hf,hr⟩:=h
 refine ⟨f,?_,hr.same fun k hk' hl=>hk k hl hk'.2⟩
 rcases hf with ⟨h0,b,cap,h1,h2,h3,h4⟩ | ⟨h0,_⟩
 ·refine .inl ⟨h0,b,cap,h1,h2.same (hk _ h2.lt fun hf=>?_),rows_keep hap h3 hk,h4⟩
  obtain ⟨t,c,hb2,_,_,h128,_⟩:=hap _ hf h2.lt
  unfold Blk at h2 hb2
  rw [h2] at hb2
  simp at hb2
  exact h128 hb2.2.symm
 ·cases h0
theorem leaves_many {P:Program}{fn:Func}{tmps:Array Value}{R:Ending->World->Prop}(n0:Nat):∀(bs:List Nat) (w:World),bs.Nodup->(∀b ∈ bs,n0<=b/\w.heap[b]? = some (.deferred (some [])))->(∀w',Tn n0 w w'->LeavesInM Fence.wide 0 P fn tmps R [] .returning w')->LeavesInM Fence.wide 0 P fn tmps R (bs.map fun b=>{ target:=.collected b,args:=#[] }) .returning w
 | [],w,_,_,h=>h w (Tn.refl _ _)
 | b :: bs,w,hn,hb,h=>by
  have hb0:=hb b (by simp)
  rw [List.nodup_cons] at hn
  refine ⟨by simp,.inl ⟨b,_,rfl,run_takeDeferred hb0.2,?_⟩⟩
  refine leaves_many n0 bs _ hn.2 (fun c hc=>⟨(hb c (by simp [hc])).1,?_⟩) (fun w' ht=>h w' ((Tn.putD _ hb0.2 hb0.1).trans ht))
  rw [World.putObj_heap_other (fun e=>hn.1 (by rw [<-e];exact hc))]
  exact (hb c (by simp [hc])).2
section
variable {P:Program} {o:Oper} {a:Act} {w:World} {next:Act->World->Prop} {Q:Exit->Act->World->Prop}
theorem yield_round1 {l' l:Nat}{f:Operand}{xs:Operand}{x:Value}{ts:Array TypeId}{R:Ending->World->Prop}(hy:YieldAt Fence.wide 0 P l #[x] w R)(ho:o.op=.call { callee:=.value f,args:=#[xs],argTypes:=ts })(hf:a.eval f=.func (.yield l) #[] #[])(hx:a.eval xs=x)
  (h:∀e w',R e w'->∃v,e=.returned v/\next (a.put o.dst v) w'):o.wpIn (Fence.wide.inRound l') 0 P a w next Q:=by
 obtain ⟨fn,tmps,assign,body,hr,hR⟩:=hy
 refine ⟨fun _ _=>trivial,?_⟩
 rw [Fence.inRound_round,Oper.semAt_some l' _ _ (by rw [ho];simp)]
 have e:(execOp a.eval o).run P w=.ok (.round l fn tmps assign body) w:=by
  simp only [execOp,ho,resolve,invoke,Sem.run_bind,List.map_toArray,List.map_cons,List.map_nil,hf,hx]
  exact hr
 rw [e,Oper.uponIn_round]
 refine ⟨fun e=>by simp [Fence.wide] at e,RoundIn.mono (F:=Fence.wide.inRound l') hR ?_⟩
 intro e w' he
 obtain ⟨v,rfl,hn⟩:=h e w' he
 exact hn
end
theorem Nos.vec {w:World}{B:Nat}{v:Value}{p:List Bs}(h:Nos w B v p):∃ao cap,v=.slice ao p.length cap/\p.length<=cap/\cap<=9223372036854775807/\∀j (hj:j<p.length),∃g,ao=some ⟨g,0,none⟩/\w.cell? ⟨g,0+j,none⟩=some (Str p[j]):=by
 rcases h.2 with ⟨h1,h2⟩ | ⟨g,cap,cur,h1,h2,h3,h4,h5,h6,h7⟩
 ·exact ⟨none,0,by rw [h1,h2],by omega,by omega,fun j hj=>by omega⟩
 ·refine ⟨_,cap,h1,h4,by unfold maxLen at h5;omega,fun j hj=>⟨g,rfl,?_⟩⟩
  rw [h1] at h
  have:=World.ownsRow.cellAt h j (by omega)
  rw [Nat.zero_add,this]
  simp [hj]
theorem tabs_few {D:DB}(h:∀x ∈ D,x.2≠[]):D.length<=lenD D:=by
 induction D with
 | nil=>simp
 | cons x D ih =>
  have h1:=ih fun y hy=>h y (by simp [hy])
  have h2:=List.length_pos_iff.2 (h x (by simp))
  simp [lenD] at h1 ⊢
  omega
theorem ents_few {D:DB}(hD:GoodD D){w:World}{m:Nat}{E:List Ent}(hE:MapAt w m E)(hn:∀n,n ∈ E.map (·.1)<->n ∈ namesD D):E.length<=1000000:=by
 obtain ⟨_,_,_,_,_,_,h⟩:=hE
 have h1:=((List.perm_ext_iff_of_nodup h hD.rise.nodup).2 hn).length_eq
 have h2:=tabs_few hD.some
 have h3:=hD.few
 simp [namesD] at h1
 omega
theorem find_ent {E:List Ent}{n:Bs}(h:n ∈ E.map (·.1)):∃p,findP E n=some p/\(n,p) ∈ E:=by
 induction E with
 | nil=>simp at h
 | cons x E ih =>
  by_cases hx:x.1=n
  ·refine ⟨x.2,by simp [findP,hx],?_⟩
   rw [<-hx]
   simp
  ·simp at h
   rcases h with h | h
   ·exact absurd h.symm hx
   obtain ⟨p,h1,h2⟩:=ih (by simpa using h)
   exact ⟨p,by simp [findP,hx] at h1 ⊢;exact h1,by simp [h2]⟩
theorem hand_agg {s:ByteArray}{x y:Value}{i:Nat}(h:HandA #[.agg #[.string s,x,y]] i):HandA #[x,y] i:=by
 rcases h with ⟨v,hv,e⟩ | ⟨c,u,hc,hu,e⟩
 ·simp at hv
  subst hv
  simp [Value.ownBlock] at e
 ·simp at hc
  subst hc
  simp at hu
  rcases hu with rfl | rfl | rfl
  ·simp [Value.ownBlock] at e
  ·exact .inl ⟨_,by simp,e⟩
  ·exact .inl ⟨_,by simp,e⟩
theorem hand_low {w:World}{B i:Nat}{x y:Value}{L M:Bs}(hx:Disk.Own w B x L)(hy:Disk.Own w B y M)(hi:i<B):¬HandA #[x,y] i:=by
 rintro (⟨u,hu,hb⟩ | ⟨c,u,hc,_,_⟩)
 ·simp at hu
  rcases hu with rfl | rfl
  ·have:=(hx.lt i hb).1;omega
  ·have:=(hy.lt i hb).1;omega
 ·obtain ⟨_,_,e3⟩:=hx.seg.shape
  obtain ⟨_,_,e4⟩:=hy.seg.shape
  rw [e3,e4] at hc
  simp at hc
structure Lp (D:DB)(J:Nat->(Nat->Prop)->World->Prop)(lp:Nat)(Fw:Nat->Prop)(w W:World)(n2 n3:Nat)(nv:Value)(k:Nat)(G:Nat->Prop)(A:World):Prop where
 st:J k G A
 nm:Nos A n2 nv (namesD D)
 kw:KW Fw w A
 yb:Blk A W.heap.size 103 #[.func (.yield lp) #[] #[]]
 sz:n3<=A.heap.size
 gh:∀i,G i->n3<=i/\i<A.heap.size
theorem Lp.tn {D:DB}{J:Nat->(Nat->Prop)->World->Prop}{lp:Nat}{Fw:Nat->Prop}{w W:World}{n2 n3:Nat}{nv:Value}{k:Nat}{G:Nat->Prop}{A B:World}(h:Lp D J lp Fw w W n2 n3 nv k G A){n0:Nat}(ht:Tn n0 A B)(hJ:∀k G A B,J k G A->Tn W.heap.size A B->J k G B)(h1:W.heap.size<=n0)(h2:w.heap.size<=W.heap.size)(h3:w.heap.size<=n3):Lp D J lp Fw w W n2 n3 nv k G B where
 st:=hJ _ _ _ _ h.st (ht.mono h1)
 nm:=h.nm.tn ht
 kw:=fun i hi hf=>(ht.block i (by have:=h.sz;omega) (.inl (by omega))).trans (h.kw i hi hf)
 yb:=ht.blk h.yb
 sz:=Nat.le_trans h.sz ht.size
 gh:=fun i hi=>⟨(h.gh i hi).1,Nat.lt_of_lt_of_le (h.gh i hi).2 ht.size⟩
def marks (bs:List Nat):List Deferred:=bs.map fun b=>{ target:=.collected b,args:=#[] }
theorem gives53 {X:Nat->Prop}(eb b m:Nat)(q:Int × Int)(D:DB)(hD:GoodD D)(Fw:Nat->Prop)(w:World)(hb:Blk w eb 28 #[ptr b])(he:EngB w b q m)(hm:EM X w m D)(hFw:∀i,Fw i->i<w.heap.size)(hap:ApartD w Fw):GivesN Tryz.prog 53 #[.pointer (some ⟨eb,0,none⟩)] (flatD D).length (Xf (flatD D)) Fw w:=by
 intro lp J Jx W hgW hJ hJx hY h0
 obtain ⟨E,hE,hEn,hET⟩:=hm
 have hlen:E.length<=1000000:=ents_few hD hE hEn
 have hmF:¬Fw m:=fun hf=>by
  obtain ⟨t,c,hb2,_⟩:=hap m hf hE.lt
  exact Blk.notMap hb2 hE
 have HE:Hid (EngB W b q m/\Blk W eb 28 #[ptr b]/\MapAt W m E):=⟨Blk.grown he hgW (by simp),hb.grown hgW (by simp),hE.grown hgW (by simp)⟩
 have HC:Hid (w.heap.size<=W.heap.size/\(∀i,Fw i->i<w.heap.size)/\ApartD w Fw/\KW Fw w W/\MapAt w m E/\¬Fw m/\(∀x ∈ E,LocT w Fw x.2 (rowsOf D x.1))/\GoodD D/\(∀n,n ∈ E.map (·.1)<->n ∈ namesD D)/\E.length<=1000000):=⟨hgW.size,hFw,hap,fun i hi _=>hgW.block i hi (by simp),hE,hmF,fun x hx=>loc_of hap (hET x hx),hD,hEn,hlen⟩
 have HJ:Hid _:=hJ
 have HJX:Hid _:=hJx
 have HY:Hid _:=hY
 have H0:Hid (J 0 (fun _=>False) W):=h0
 clear hJ hJx hY h0 hb he hgW hFw hap hE hEn hET hlen hmF hD
 show Calls Tryz.prog 53 #[.func (.yield lp) #[] #[],.pointer (some ⟨eb,0,none⟩)] W _
 refine calls_marks Tryz.func53 rfl ?_
 simp only [Tryz.ntmps53,List.size_toArray,List.length_cons,List.length_nil,Nat.reduceAdd,Nat.reduceSub,Array.replicate_succ,Array.replicate_zero,List.push_toArray,List.append_toArray,List.nil_append,List.cons_append]
 obtain ⟨w1,hw1,H1⟩:=al W #[.func (.yield lp) #[] #[]] 103
 have c0:=(HE.out.2.1.grown H1.out.2.1 (by simp)).cell 0
 simp at c0
 go_wp2_with (go_at_call 42;refine (byName42 b m q w1 (Blk.grown HE.out.1 H1.out.2.1 (by simp))).mono ?_;rintro e w2 ⟨rfl,hw⟩;rw [hw];clear hw)
 refine (keys55 (some m) w1).mono ?_
 rintro e w2 ⟨rfl,hk,g2⟩
 have H2:Hid (Blk w2 w1.heap.size 62 #[.map (some m)]/\w1.grownBy w2 none/\W.grownBy w2 none):=⟨hk,g2,grown_trans H1.out.2.1 g2⟩
 clear hk g2
 go_wp2_with fail
 refine (sorted54 w1.heap.size m E D HC.out.2.2.2.2.2.2.2.1.rise HC.out.2.2.2.2.2.2.2.2.1 w2 H2.out.1 (HE.out.2.2.grown H2.out.2.2 (by simp)) HC.out.2.2.2.2.2.2.2.2.2).mono ?_
 rintro e w3 ⟨v3,rfl,hN,g3⟩
 obtain ⟨a3,c3,rfl,hc3,hc3',hcell⟩:=hN.vec
 obtain ⟨n,hn⟩:∃n,(namesD D).length=n:=⟨_,rfl⟩
 rw [hn] at hN hc3 ⊢
 have H3:Hid (Nos w3 w2.heap.size (.slice a3 n c3) (namesD D)/\W.grownBy w3 none/\Blk w3 W.heap.size 103 #[.func (.yield lp) #[] #[]]/\D.length=n):=⟨hN,grown_trans H2.out.2.2 g3,(H1.out.1.grown H2.out.2.1 (by simp)).grown g3 (by simp),by rw [<-hn];simp [namesD]⟩
 clear hN g3 hcell hn
 go_wp2_with fail
 refine wp_loop (fun a A=>∃(j:Nat) (G:Nat->Prop) (bs:List Nat) (y5 y15 y16 y17 y18 y19 y20 y21 y31:Value),a={ tmps:=#[.func (.yield lp) #[] #[],.pointer (some ⟨eb,0,none⟩),.pointer (some ⟨W.heap.size,0,none⟩),.map (some m),undef,y5,undef,undef,ptr b,.map (some m),.map (some m),.func (.func 80) #[] #[.pointer (some ⟨w1.heap.size,0,none⟩)],.slice a3 n c3,.int .i64 (n:Int),.int .i64 (j:Int),y15,y16,y17,y18,y19,y20,y21,undef,undef,undef,undef,undef,undef,undef,undef,undef,y31],defers:=marks bs }/\Hid (j<=n/\Lp D J lp Fw w W w2.heap.size w3.heap.size (.slice a3 n c3) (offD D j) G A/\bs.Nodup/\∀b ∈ bs,w3.heap.size<=b/\¬G b/\A.heap[b]? = some (.deferred (some [])))) (fun a _=>n-(intOf (a.tmps.getD 14 undef)).toNat) ?_ ?_
 ·refine ⟨0,fun _=>False,[],undef,undef,undef,undef,undef,undef,undef,undef,undef,rfl,Nat.zero_le _,⟨?_,H3.out.1,?_,H3.out.2.2.1,Nat.le_refl _,fun _ h=>h.elim⟩,List.nodup_nil,fun _ h=>by simp at h⟩
  ·exact HJ.out _ _ _ _ H0.out (Tn.of_grown H3.out.2.1)
  ·exact fun i hi hf=>(H3.out.2.1.block i (by have:=HC.out.1;omega) (by simp)).trans (HC.out.2.2.2.1 i hi hf)
 ·rintro a A ⟨j,G,bs,y5,y15,y16,y17,y18,y19,y20,y21,y31,rfl,HL⟩
  have hjn:=HL.out.1
  rcases Nat.lt_or_ge j n with hlt | hge
  ·have hjD:j<D.length:=by rw [H3.out.2.2.2];exact hlt
   have hjN:j<(namesD D).length:=by simpa [namesD] using hjD
   obtain ⟨a',c',e',_,_,hcell⟩:=HL.out.2.1.nm.vec
   simp at e'
   obtain ⟨rfl,hnn,rfl⟩:=e'
   clear hnn
   obtain ⟨g,rfl,hc⟩:=hcell j hjN
   clear hcell
   obtain ⟨nm,hnm⟩:∃nm,(namesD D)[j]=nm:=⟨_,rfl⟩
   have hnD:D[j].1=nm:=by rw [<-hnm];simp [namesD]
   rw [hnm] at hc
   obtain ⟨p,hfp,hpE⟩:=find_ent ((HC.out.2.2.2.2.2.2.2.2.1 nm).2 (by rw [<-hnm];exact List.getElem_mem _))
   have hrw:rowsOf D nm=D[j].2:=by rw [<-hnD];exact rows_mem HC.out.2.2.2.2.2.2.2.1.rise.nodup (List.getElem_mem _)
   have hloc:=HC.out.2.2.2.2.2.2.1 _ hpE
   simp only at hloc
   rw [hrw] at hloc
   obtain ⟨rs,hrs⟩:∃rs,D[j].2=rs:=⟨_,rfl⟩
   rw [hrs] at hloc
   have HP:Hid (LocT w Fw p rs/\Table.Good rs/\offD D (j+1)=offD D j+rs.length/\∀i (hi:i<rs.length),∃h':offD D j+i<(flatD D).length,(flatD D)[offD D j+i]=(nm,rs[i])):=by
    subst hrs
    exact ⟨hloc,HC.out.2.2.2.2.2.2.2.1.good _ (List.getElem_mem _),off_succ hjD,fun i hi=>by rw [<-hnD];exact flat_at hjD hi⟩
   clear hloc hrw hrs hnD hnm hpE
   have i0:(0:Int)<=(j:Int):=by omega
   have i1:(j:Int)<(n:Int):=by omega
   have HM:Hid (MapAt A m E):=HC.out.2.2.2.2.1.same (HL.out.2.1.kw m HC.out.2.2.2.2.1.lt HC.out.2.2.2.2.2.1)
   obtain ⟨w4,hw4,H4⟩:=al A #[.string ⟨nm.toArray⟩] 9
   have hw5:Hid (A.alloc (.cells #[.string ⟨nm.toArray⟩] 9)=w4):=hw4
   clear hw4
   have hlk:∀y:World,A.grownBy y none->(Instr.lookup 62 (.map (some m)) (.string ⟨nm.toArray⟩) false).run Tryz.prog y=.ok (ptr p) y:=fun y hy=>by
    have:=run_look (HM.out.grown hy (by simp)) nm false
    rw [hfp] at this
    exact this
   have hl4:=hlk (A.alloc (.cells #[.string ⟨nm.toArray⟩] 9)) (World.grownBy_alloc _ _ _)
   clear hlk
   unfold Str at hc
   rw [Nat.zero_add] at hc
   go_wp2_with (go_at_call 56;rw [hw5.out];refine (all14 (ptr p) ⟨_,rfl⟩ w4).mono ?_)
   rintro e w5 ⟨rfl,hb5,g5,hs5⟩
   obtain ⟨b5,hb5'⟩:∃x,A.heap.size=x:=⟨_,rfl⟩
   obtain ⟨Bt,hBt⟩:∃x,w4.heap.size=x:=⟨_,rfl⟩
   have H5:Hid (Blk w5 Bt 92 #[ptr p]/\A.grownBy w5 none/\Blk w5 b5 9 #[.string ⟨nm.toArray⟩]/\w5.heap.size=b5+2/\A.heap.size=b5/\Bt=b5+1):=by
    have h4:=H4.out
    refine ⟨by rw [<-hBt];exact hb5,grown_trans h4.2.1 g5,by rw [<-hb5'];exact h4.1.grown g5 (by simp),?_,hb5',?_⟩ <;> omega
   rw [hBt,hb5']
   clear hb5 g5 hs5 hBt hb5' hl4 hw5 hc
   go_wp2_with fail
   have HQ:=HL.out.2.1
   obtain ⟨f,hTf,hRI⟩:=loc_keep HC.out.2.2.1 HP.out.1 (A:=w5) (fun i hi hf=>(H5.out.2.1.block i (by have:=HQ.sz;have:=H3.out.2.1.size;have:=HC.out.1;omega) (by simp)).trans (HQ.kw i hi hf))
   have HG:Hid (GivesN Tryz.prog 81 #[.pointer (some ⟨Bt,0,none⟩)] rs.length (Xt rs) (fun i=>Fw i\/G i\/(w.heap.size<=i/\i<W.heap.size)) w5):=by
    refine all45S _ Bt (ptr p) true rs HP.out.2.1 w5 H5.out.1 f hTf (rowsIn_weak hRI ?_) ?_
    ·rintro k ⟨h1,h2⟩
     refine ⟨by have:=HQ.sz;have:=H3.out.2.1.size;have:=HC.out.1;have:=H5.out.2.1.size;omega,?_⟩
     rintro (h | h | h)
     ·exact h2 h
     ·have:=(HQ.gh k h).1;have:=H3.out.2.1.size;have:=HC.out.1;omega
     ·omega
    ·rintro i (h | h | h)
     ·have:=HC.out.2.1 i h;have:=HQ.sz;have:=H3.out.2.1.size;have:=HC.out.1;have:=H5.out.2.1.size;omega
     ·have:=(HQ.gh i h).2;have:=H5.out.2.1.size;omega
     ·have:=HQ.sz;have:=H3.out.2.1.size;have:=H5.out.2.1.size;omega
   clear hTf hRI HQ
   refine wp_rangeS (gf:=81) (lb:=#[.pointer (some ⟨Bt,0,none⟩)]) rfl (enters_of Tryz.func81 (by kernel_rfl) rfl) HG.out ?hps
    (fun i Gi A'=>∃Go,Hid (Lp D J lp Fw w W w2.heap.size w3.heap.size (.slice (some ⟨g,0,none⟩) n c3) (offD D j+i) Go A'/\(∀x,Go x->G x\/Gi x)/\(∀x,Gi x->b5+4<=x)/\Blk A' b5 9 #[.string ⟨nm.toArray⟩]/\(∀x ∈ bs,A'.heap[x]? = some (.deferred (some [])))/\b5+2<=A'.heap.size))
    (fun A'=>Hid (Jx A'/\(∀x ∈ bs,A'.heap[x]? = some (.deferred (some []))))) ?hIg ?hXg ?h0 ?hround ?hdone ?hstop
   case hps =>
    rintro k k' W0 W1 xs ⟨_,_,_,x,y,rfl,_⟩
    rfl
   case hIg =>
    rintro k Gi A1 B1 ⟨Go,HA⟩ ht
    have z1:=H5.out
    have z2:=HC.out.1
    have z3:=H3.out.2.1.size
    have z4:=HL.out.2.1.sz
    exact ⟨Go,HA.out.1.tn ht HJ.out (by omega) z2 (by omega),HA.out.2.1,HA.out.2.2.1,ht.blk HA.out.2.2.2.1,fun x hx=>by
     have hx1:=HA.out.2.2.2.2.1 x hx
     have hx2:=(Array.getElem?_eq_some_iff.1 (HL.out.2.2.2 x hx).2.2).1
     rw [ht.block x (Array.getElem?_eq_some_iff.1 hx1).1 (.inl (by omega))]
     exact hx1,Nat.le_trans HA.out.2.2.2.2.2 ht.size⟩
   case hXg =>
    rintro A1 B1 HA ht
    have z1:=H5.out
    have z3:=H3.out.2.1.size
    have z4:=HL.out.2.1.sz
    exact ⟨HJX.out _ _ HA.out.1 (ht.mono (by omega)),fun x hx=>by
     have hx1:=HA.out.2 x hx
     have hx2:=(Array.getElem?_eq_some_iff.1 (HL.out.2.2.2 x hx).2.2).1
     rw [ht.block x (Array.getElem?_eq_some_iff.1 hx1).1 (.inl (by omega))]
     exact hx1⟩
   case h0 =>
    have z1:=H5.out
    have z2:=HC.out.1
    have z3:=H3.out.2.1.size
    have z4:=HL.out.2.1.sz
    exact ⟨G,HL.out.2.1.tn (Tn.of_grown (n0:=W.heap.size) z1.2.1) HJ.out (Nat.le_refl _) z2 (by omega),fun x hx=>.inl hx,fun _ h=>h.elim,z1.2.2.1,fun x hx=>by
     have hx1:=(HL.out.2.2.2 x hx).2.2
     rw [z1.2.1.block x (Array.getElem?_eq_some_iff.1 hx1).1 (by simp)]
     exact hx1,by omega⟩
   case hstop =>
    rintro A1 HA hd
    have HD:Hid _:=hd
    clear hd
    go_wp2_with fail
    have z1:=H5.out
    have z3:=H3.out.2.1.size
    have z4:=HL.out.2.1.sz
    refine leaves_many W.heap.size (w5.heap.size :: bs) A1 (List.nodup_cons.2 ⟨fun hx=>?_,HL.out.2.2.1⟩) ?_ (fun w' ht=>?_)
    ·have:=(Array.getElem?_eq_some_iff.1 (HL.out.2.2.2 _ hx).2.2).1
     omega
    ·intro x hx
     rw [List.mem_cons] at hx
     rcases hx with rfl | hx
     ·exact ⟨by omega,HD.out⟩
     ·exact ⟨by have:=(HL.out.2.2.2 x hx).1;omega,HA.out.2 x hx⟩
    ·exact ⟨_,results_none rfl _ _ _,⟨_,rfl⟩,.inr (HJX.out _ _ HA.out.1 ht)⟩
   case hdone =>
    rintro A1 s Gi hs ⟨Go,HA⟩ hd
    have HD:Hid (s=rs.length/\A1.heap[w5.heap.size]? = some (.deferred (some []))):=⟨hs,hd⟩
    clear hd hs
    refine (‹∀(a:Act) (w:World),Code.wp Tryz.prog _ _ a w->_› _ _ ?_)
    go_wp2_with fail
    have hj1:(j:Int)+1=((j+1:Nat):Int):=by omega
    rw [hj1]
    have z1:=H5.out
    have z2:=HC.out.1
    have z3:=H3.out.2.1.size
    have z4:=HL.out.2.1.sz
    refine ⟨⟨j+1,Go,w5.heap.size :: bs,_,_,_,_,_,_,_,_,_,rfl,by omega,?_,?_,?_⟩,?_⟩
    ·have:=HA.out.1
     rw [HD.out.1] at this
     rw [HP.out.2.2.1]
     exact this
    ·refine List.nodup_cons.2 ⟨fun hx=>?_,HL.out.2.2.1⟩
     have:=(Array.getElem?_eq_some_iff.1 (HL.out.2.2.2 _ hx).2.2).1
     omega
    ·intro x hx
     rw [List.mem_cons] at hx
     rcases hx with rfl | hx
     ·refine ⟨by omega,fun hg=>?_,HD.out.2⟩
      rcases HA.out.2.1 _ hg with h | h
      ·have:=(HL.out.2.1.gh _ h).2;omega
      ·have:=HA.out.2.2.1 _ h;omega
     ·have hx2:=(Array.getElem?_eq_some_iff.1 (HL.out.2.2.2 x hx).2.2).1
      refine ⟨(HL.out.2.2.2 x hx).1,fun hg=>?_,HA.out.2.2.2.2.1 x hx⟩
      rcases HA.out.2.1 _ hg with h | h
      ·exact (HL.out.2.2.2 x hx).2.1 h
      ·have:=HA.out.2.2.1 _ h;omega
    ·simp [intOf]
     omega
   case hround =>
    rintro l' i i' Gi W0 W1 xs ⟨Go,HI⟩ hlt0 htn ⟨rfl,hi,hi2,x,y,rfl,ox,oy⟩ ⟨rc,hrc⟩
    obtain ⟨ax,nx,cx,rfl⟩:=Calls.slice_of ox
    obtain ⟨ay,ny,cy,rfl⟩:=Calls.slice_of oy
    obtain ⟨hfl,hfe⟩:=HP.out.2.2.2 i hi
    have HF:Hid (∃h':offD D j+i<(flatD D).length,(flatD D)[offD D j+i]=(nm,rs[i])):=⟨hfl,hfe⟩
    have HO:Hid (Disk.Own W1 W0.heap.size (.slice ax nx cx) rs[i].1/\Disk.Own W1 W0.heap.size (.slice ay ny cy) rs[i].2/\Tn (w5.heap.size+2) W0 W1/\w5.heap.size+1<W0.heap.size/\W1.heap[w5.heap.size+1]? = some (.loop rc)):=⟨ox,oy,htn,hlt0,hrc⟩
    clear ox oy htn hlt0 hrc hfl hfe
    simp only [List.zip_toArray,List.zip_cons_cons,List.zip_nil_right,List.foldl_toArray',List.size_toArray,List.foldl_cons,List.foldl_nil,List.setIfInBounds_toArray,List.set_cons_zero,List.set_cons_succ]
    refine wpIn_seq ?_
    refine region_round (by rintro ⟨_,_,h⟩;exact h) rfl ?_
    go_wp2_with fail
    refine region_round (by rintro ⟨_,_,h⟩;exact h) rfl ?_
    go_wp2_with fail
    refine ⟨grown_refl _ _,fun r=>?_⟩
    obtain ⟨W2,hW2⟩:∃W2,W1.putObj (w5.heap.size+1) (.loop r)=W2:=⟨_,rfl⟩
    have HT2:Hid (Tn (w5.heap.size+1) W1 W2/\W2.heap.size=W1.heap.size/\∀i,i≠w5.heap.size+1->W2.heap[i]? = W1.heap[i]?):=by
     rw [<-hW2]
     exact ⟨Tn.put _ HO.out.2.2.2.2 (Nat.le_refl _),by simp [World.putObj],fun i hi=>World.putObj_heap_other hi⟩
    rw [hW2]
    clear hW2
    have z1:=H5.out
    have z2:=HC.out.1
    have z3:=H3.out.2.1.size
    have z4:=HL.out.2.1.sz
    have HT0:Hid (Tn (w5.heap.size+1) W0 W2):=(HO.out.2.2.1.mono (Nat.le_succ _)).trans HT2.out.1
    have c2:=(HT0.out.blk HI.out.1.yb).cell 0
    have c5:=(HT0.out.blk HI.out.2.2.2.1).cell 0
    simp at c2 c5
    clear z1 z2 z3 z4
    refine wpIn_block (wpIn_seq ?_)
    refine wpIn_region_lit ?_
    refine wpListIn_plain rfl fun K1 hK1=>oper_round l' 0 (fun c=>by simp) ?_
    have HK1:Hid _:=hK1
    clear hK1
    go_wp2_with fail
    refine HK1.out _ _ ?_
    clear HK1 K1
    refine wpListIn_plain rfl fun K1 hK1=>oper_round l' 0 (fun c=>by simp) ?_
    have HK1:Hid _:=hK1
    clear hK1
    go_wp2_with fail
    refine HK1.out _ _ ?_
    clear HK1 K1
    refine wpListIn_plain rfl fun K1 hK1=>oper_round l' 0 (fun c=>by simp) ?_
    have HK1:Hid _:=hK1
    clear hK1
    go_wp2_with fail
    refine HK1.out _ _ ?_
    clear HK1 K1
    refine wpListIn_plain rfl fun K1 hK1=>oper_round l' 0 (fun c=>by simp) ?_
    have HK1:Hid _:=hK1
    clear hK1
    go_wp2_with fail
    refine HK1.out _ _ ?_
    clear HK1 K1
    refine wpListIn_plain rfl fun K1 hK1=>oper_round l' 0 (fun c=>by simp) ?_
    have HK1:Hid _:=hK1
    clear hK1
    go_wp2_with fail
    refine HK1.out _ _ ?_
    clear HK1 K1
    have HXF:Hid (XS (flatD D).length (Xf (flatD D)) (offD D j+i) (offD D j+i+1) W0 W2 #[.agg #[.string ⟨nm.toArray⟩,.slice ax nx cx,.slice ay ny cy]]):=by
     obtain ⟨h',he⟩:=HF.out
     refine ⟨rfl,h',h',.slice ax nx cx,.slice ay ny cy,?_,?_,?_⟩
     ·rw [he]
      rfl
     ·rw [he]
      exact HT2.out.1.own HO.out.1
     ·rw [he]
      exact HT2.out.1.own HO.out.2.1
    have HYY:=HY.out (offD D j+i) (offD D j+i+1) Go W0 W2 _ HI.out.1.st (by have:=HI.out.1.sz;have:=H3.out.2.1.size;omega) (HT0.out.mono (by have:=H5.out;have:=H3.out.2.1.size;have:=HL.out.2.1.sz;omega)) HXF.out
    have keep:∀W',KeptG w.heap.size W.heap.size Fw Go #[.agg #[.string ⟨nm.toArray⟩,.slice ax nx cx,.slice ay ny cy]] W2 W'->(W'.heap[w5.heap.size]? = W2.heap[w5.heap.size]?/\W'.heap[w5.heap.size+1]? = W2.heap[w5.heap.size+1]?)/\KeptG w5.heap.size (w5.heap.size+2) (fun i=>Fw i\/G i\/(w.heap.size<=i/\i<W.heap.size)) Gi #[.slice ax nx cx,.slice ay ny cy] W1 W'/\(∀x ∈ bs,W'.heap[x]? = some (.deferred (some [])))/\Blk W' b5 9 #[.string ⟨nm.toArray⟩]/\Nos W' w2.heap.size (.slice (some ⟨g,0,none⟩) n c3) (namesD D)/\KW Fw w W'/\Blk W' W.heap.size 103 #[.func (.yield lp) #[] #[]]/\W2.heap.size<=W'.heap.size:=by
     intro W' hkp
     have z1:=H5.out
     have z2:=HC.out.1
     have z3:=H3.out.2.1.size
     have z4:=HL.out.2.1.sz
     have z5:=HO.out.2.2.2.1
     have z6:=HT2.out.2.1
     have z7:=HT0.out.size
     have z8:=HI.out
     have z9:=HC.out.2.1
     have hz2:=H2.out.2.2.size
     have hz1:=H1.out.2.2
     have hsame:∀i,i<W0.heap.size->(i<w.heap.size\/W.heap.size<=i)->¬Fw i->¬Go i->W'.heap[i]? = W2.heap[i]?:=fun i h1 h2 h3 h4=>hkp.2 i (by omega) h2 h3 (fun hh=>hand_low HO.out.1 HO.out.2.1 h1 (hand_agg hh)) h4
     have hnF:∀i,w.heap.size<=i->¬Fw i:=fun i h hf=>by have:=z9 i hf;omega
     have hnG:∀i,i<b5+4->¬G i->¬Go i:=fun i h1 h2 h3=>by
      rcases z8.2.1 i h3 with h | h
      ·exact h2 h
      ·have:=z8.2.2.1 i h;omega
     have hG5:∀i,b5<=i->¬G i:=fun i h hg=>by have:=(HL.out.2.1.gh i hg).2;omega
     have hG3:∀i,i<w3.heap.size->¬Go i:=fun i h hg=>by have:=(z8.1.gh i hg).1;omega
     refine ⟨⟨hsame _ (by omega) (.inr (by omega)) (hnF _ (by omega)) (hnG _ (by omega) (hG5 _ (by omega))),hsame _ (by omega) (.inr (by omega)) (hnF _ (by omega)) (hnG _ (by omega) (hG5 _ (by omega)))⟩,⟨by have:=hkp.1;omega,fun i h1 h2 h3 hh5 h5=>?_⟩,fun x hx=>?_,?_,?_,fun i h1 h2=>?_,?_,hkp.1⟩
     ·rw [hkp.2 i (by omega) ?_ (fun h=>h3 (.inl h)) (fun hh=>hh5 (hand_agg hh)) ?_]
      ·exact HT2.out.2.2 i (by omega)
      ·rcases Nat.lt_or_ge i w.heap.size with h | h
       ·exact .inl h
       ·rcases Nat.lt_or_ge i W.heap.size with h6 | h6
        ·exact absurd (.inr (.inr ⟨h,h6⟩)) h3
        ·exact .inr h6
      ·intro hg
       rcases z8.2.1 i hg with h | h
       ·exact h3 (.inr (.inl h))
       ·exact h5 h
     ·have hx0:=HL.out.2.2.2 x hx
      have hx1:=(Array.getElem?_eq_some_iff.1 hx0.2.2).1
      rw [hsame x (by omega) (.inr (by omega)) (hnF _ (by omega)) (hnG _ (by omega) hx0.2.1),HT0.out.block x (by omega) (.inl (by omega))]
      exact z8.2.2.2.2.1 x hx
     ·exact (HT0.out.blk z8.2.2.2.1).same (hsame _ (by omega) (.inr (by omega)) (hnF _ (by omega)) (hnG _ (by omega) (hG5 _ (by omega))))
     ·have hN:=z8.1.nm.tn HT0.out
      refine hN.same fun k hk=>?_
      have hk1:=World.ownsRow.lt hN k hk
      have hk2:=World.ownsRow.lt H3.out.1 k hk
      exact hsame k (by omega) (.inr (by omega)) (hnF _ (by omega)) (hG3 _ hk2.2)
     ·rw [hsame i (by omega) (.inl h1) h2 (hG3 _ (by omega)),HT0.out.block i (by omega) (.inl (by omega))]
      exact z8.1.kw i h1 h2
     ·have:=H3.out.2.2.1.lt
      exact (HT0.out.blk z8.1.yb).same (hsame _ (by omega) (.inr (by omega)) (hnF _ (by omega)) (hG3 _ this))
    refine wpListIn_plain rfl fun K1 hK1=>yield_round1 (l':=l') HYY rfl rfl rfl ?_
    rintro e W' (⟨rfl,G',hnew,hJ',hkept⟩ | ⟨rfl,hx,hkept⟩)
    ·refine ⟨_,rfl,hK1 _ _ ?_⟩
     have HK:Hid (J (offD D j+i+1) G' W'/\KeptG w.heap.size W.heap.size Fw Go #[.agg #[.string ⟨nm.toArray⟩,.slice ax nx cx,.slice ay ny cy]] W2 W'/\NewG Go G' W2 W'):=⟨hJ',hkept,hnew⟩
     clear hJ' hkept hnew HYY hK1 K1
     simp only [Act.put,List.setIfInBounds_toArray,List.set_cons_zero,List.set_cons_succ]
     refine wpListIn_plain rfl fun K1 hK1=>oper_round l' 0 (fun c=>by simp) ?_
     have HK1:Hid _:=hK1
     clear hK1
     go_wp2_with fail
     refine HK1.out _ _ ?_
     clear HK1 K1
     refine wpListIn_nil ?_
     refine wpIn_cond_false rfl (wpIn_skip ?_)
     have hh:=keep W' HK.out.2.1
     have z1:=H5.out
     have z3:=H3.out.2.1.size
     have z4:=HL.out.2.1.sz
     have z5:=HO.out.2.2.2.1
     have z6:=HT2.out.2.1
     have z7:=HT0.out.size
     have hnw:=HK.out.2.2
     refine ⟨hh.1,fun x=>G' x/\¬G x,fun x hx=>⟨?_,(hnw x hx.1).2⟩,hh.2.1,G',⟨HK.out.1,hh.2.2.2.2.1,hh.2.2.2.2.2.1,hh.2.2.2.2.2.2.1,?_,fun x hx=>⟨?_,(hnw x hx).2⟩⟩,fun x hx=>?_,fun x hx=>?_,hh.2.2.2.1,hh.2.2.1,?_⟩
     ·rcases (hnw x hx.1).1 with h | h
      ·rcases HI.out.2.1 x h with h | h
       ·exact absurd h hx.2
       ·exact .inl h
      ·exact .inr (by omega)
     ·have:=hh.2.2.2.2.2.2.2;omega
     ·rcases (hnw x hx).1 with h | h
      ·exact (HI.out.1.gh x h).1
      ·omega
     ·by_cases hg:G x
      ·exact .inl hg
      ·exact .inr ⟨hx,hg⟩
     ·rcases (hnw x hx.1).1 with h | h
      ·rcases HI.out.2.1 x h with h | h
       ·exact absurd h hx.2
       ·exact HI.out.2.2.1 x h
      ·omega
     ·have:=hh.2.2.2.2.2.2.2;omega
    ·refine ⟨_,rfl,hK1 _ _ ?_⟩
     have HXX:Hid (Jx W'/\KeptG w.heap.size W.heap.size Fw Go #[.agg #[.string ⟨nm.toArray⟩,.slice ax nx cx,.slice ay ny cy]] W2 W'):=⟨hx,hkept⟩
     clear hx hkept HYY hK1 K1
     simp only [Act.put,List.setIfInBounds_toArray,List.set_cons_zero,List.set_cons_succ]
     refine wpListIn_plain rfl fun K1 hK1=>oper_round l' 0 (fun c=>by simp) ?_
     have HK1:Hid _:=hK1
     clear hK1
     go_wp2_with fail
     refine HK1.out _ _ ?_
     clear HK1 K1
     refine wpListIn_nil ?_
     refine wpIn_cond_true rfl (wpIn_ret ?_)
     have hh:=keep W' HXX.out.2
     exact ⟨hh.1,hh.2.1,HXX.out.1,hh.2.2.1⟩
  ·have e:j=n:=by omega
   subst e
   go_wp2_with fail
   refine leaves_many W.heap.size bs A HL.out.2.2.1 (fun b hb=>⟨by have:=(HL.out.2.2.2 b hb).1;have:=H3.out.2.1.size;omega,(HL.out.2.2.2 b hb).2.2⟩) (fun w' ht=>?_)
   exact ⟨_,results_none rfl _ _ _,⟨_,rfl⟩,.inl ⟨_,G,by rw [<-off_end,H3.out.2.2.2],HJ.out _ _ _ _ HL.out.2.1.st ht⟩⟩
end Go.Proofs.YtakmlhhapegpoaaGreat
namespace Go.Proofs.YtakmlhhapegpoaaGreat
open Go.RowKit Disk Table
open Names (Str cmpL keyB valueB tabB)
open _root_.Go.Proofs.YtakmlhhapegpoaaGreat.Calls (POp POut PRes opV OpSeg mayOp Ops OpAt ops_at ops_open chk rds mayCall)
def TabD (D:DB):Prop:=∀x ∈ D,tabB x.1=true
theorem TabD.set {D:DB}(h:TabD D){n:Bs}(hn:tabB n=true)(r:List PRow):TabD (setD D n r):=fun x hx=>by
 rcases set_mem hx with rfl | hx
 ·exact hn
 ·exact h x hx
theorem TabD.del {D:DB}(h:TabD D)(n:Bs):TabD (delD D n):=fun x hx=>h x (List.mem_filter.1 hx).1
theorem TabD.stand {D:DB}(h:TabD D){n:Bs}(hn:tabB n=true)(r:List PRow):TabD (standD D n r):=by
 unfold standD
 split
 ·exact h.del n
 ·exact h.set hn r
theorem newD_tab:∀(N:Nat) (l:List NRow),l.length<=N->∀(D:DB) (last:Bs) (D':DB),TabD D->newD D last l=some D'->TabD D'
 | _,[],_,D,last,D',hD,h=>by
  unfold newD at h
  simp at h
  rw [<-h]
  exact hD
 | 0,r :: l,hl,_,_,_,_,_=>by simp at hl
 | N+1,r :: l,hl,D,last,D',hD,h=>by
  unfold newD at h
  split at h
  ·rename_i hc
   exact newD_tab N _ (by have:=front_pos r l;rw [List.length_drop];simp at hl ⊢;omega) _ _ _ (hD.stand hc.2.1 _) h
  ·cases h
theorem set_last {A:DB}{n:Bs}{r:List PRow}(h:∀x ∈ A,cmpL x.1 n<0):setD A n r=A ++ [(n,r)]:=by
 induction A with
 | nil=>rfl
 | cons y A ih =>
  have h1:=h y (by simp)
  have h2:y.1≠n:=fun e=>by rw [e,Names.cmp_self] at h1;omega
  have h3:¬cmpL n y.1<0:=by have:=Names.cmp_flip y.1 n;omega
  simp [setD,h2,h3,ih fun x hx=>h x (by simp [hx])]
theorem take_same {n:Bs}{rs:List PRow}{l:List NRow}(hl:∀x ∈ l,x.1≠n):(rs.map (fun r=>(n,r)) ++ l).takeWhile (fun x=>decide (x.1=n))=rs.map (fun r=>(n,r)):=by
 induction rs with
 | nil =>
  cases l with
  | nil=>rfl
  | cons x l=>simp [hl x (by simp)]
 | cons r rs ih=>simp at ih ⊢;exact ih
theorem flat_mem {D:DB}{x:NRow}(h:x ∈ flatD D):∃y ∈ D,y.1=x.1:=by
 simp [flatD] at h
 obtain ⟨a,b,h1,c,d,h2,rfl⟩:=h
 exact ⟨(a,b),h1,rfl⟩
theorem newD_flat:∀(B A:DB) (last:Bs),RiseD (A ++ B)->(∀x ∈ B,x.2≠[])->(∀x ∈ B,Table.Good x.2)->TabD B->(∀x ∈ B,cmpL last x.1<0)->newD A last (flatD B)=some (A ++ B)
 | [],A,last,_,_,_,_,_=>by
  unfold newD flatD
  simp
 | x :: B,A,last,hR,hS,hG,hT,hl=>by
  obtain ⟨n,rs⟩:=x
  have hne:=hS (n,rs) (by simp)
  simp only at hne
  obtain ⟨r,rs',rfl⟩:∃r rs',rs=r :: rs':=List.exists_cons_of_ne_nil hne
  have hR2:=List.pairwise_append.1 hR
  have hRB:=List.pairwise_cons.1 hR2.2.1
  have hnB:∀y ∈ flatD B,y.1≠n:=fun y hy e=>by
   obtain ⟨z,hz,e2⟩:=flat_mem hy
   have:=hRB.1 z hz
   simp only at this
   rw [e2,e,Names.cmp_self] at this
   omega
  have hfr:front (flatD ((n,r :: rs') :: B))=(r :: rs').map (fun r=>(n,r)):=by
   rw [flat_cons]
   have:=take_same (rs:=r :: rs') hnB
   simpa [front] using this
  have hfR:frontR (flatD ((n,r :: rs') :: B))=r :: rs':=by
   unfold frontR
   rw [hfr,List.map_map]
   exact List.map_id _
  have hst:standD A n (r :: rs')=A ++ [(n,r :: rs')]:=by
   unfold standD
   rw [if_neg (by simp)]
   exact set_last fun y hy=>hR2.2.2 y hy (n,r :: rs') (by simp)
  have hcons:flatD ((n,r :: rs') :: B)=(n,r) :: (rs'.map (fun r=>(n,r)) ++ flatD B):=by rw [flat_cons];rfl
  rw [hcons]
  unfold newD
  rw [<-hcons,hfR,hfr,if_pos ⟨hG (n,r :: rs') (by simp),hT (n,r :: rs') (by simp),hl (n,r :: rs') (by simp)⟩]
  simp only
  have hdrop:(flatD ((n,r :: rs') :: B)).drop ((r :: rs').map (fun r=>(n,r))).length=flatD B:=by
   rw [flat_cons]
   simp only
   exact List.drop_left
  rw [hdrop,hst,newD_flat B (A ++ [(n,r :: rs')]) n (by simpa using hR) (fun y hy=>hS y (by simp [hy])) (fun y hy=>hG y (by simp [hy])) (fun y hy=>hT y (by simp [hy])) (fun y hy=>hRB.1 y hy)]
  simp
theorem tab_pos {n:Bs}(h:tabB n=true):cmpL [] n<0:=by
 cases n with
 | nil=>exact absurd h (by decide)
 | cons _ _=>simp [cmpL]
theorem new_all {D:DB}(hD:GoodD D)(hT:TabD D):newD [] [] (flatD D)=some D:=by
 have:=newD_flat D [] [] (by simpa using hD.rise) hD.some hD.good hT (fun x hx=>tab_pos (hT x hx))
 simpa using this
theorem opD_tab {q:Int × Int}{D D':DB}{o:POp}{r:POut}(h:TabD D)(hm:tabB o.table=true)(ho:opD q D o=.ok (r,D')):TabD D':=by
 unfold opD at ho
 split at ho
 ·simp at ho
  rw [<-ho.2]
  exact h
 ·split at ho
  ·simp at ho
   rw [<-ho.2]
   exact h.stand hm _
  ·split at ho
   ·simp at ho
    rw [<-ho.2]
    exact h
   ·split at ho
    ·cases ho
    ·unfold putR at ho
     split at ho
     ·simp at ho
      rw [<-ho.2]
      unfold putD
      exact h.stand hm _
     ·cases ho
theorem callD_tab {q:Int × Int}:∀{l:List POp} {D D':DB} {outs outs':List POut},TabD D->(∀o ∈ l,tabB o.table=true)->callD q D outs l=.ok (outs',D')->TabD D'
 | [],D,D',outs,outs',h,_,hc=>by
  simp [callD] at hc
  rw [<-hc.2]
  exact h
 | o :: l,D,D',outs,outs',h,ht,hc=>by
  unfold callD at hc
  cases ho:opD q D o with
  | error c=>rw [ho] at hc;cases hc
  | ok x =>
   rw [ho] at hc
   exact callD_tab (opD_tab (r:=x.1) h (ht o (by simp)) ho) (fun p hp=>ht p (by simp [hp])) hc
theorem may_tab {o:POp}(h:mayOp o=true):tabB o.table=true:=by
 unfold mayOp at h
 simp only [Bool.and_eq_true] at h
 exact h.1.1.1.1.1.2
theorem chk_tab {l:List POp}(h:chk l=0):∀o ∈ l,tabB o.table=true:=fun o ho=>by
 unfold chk at h
 split at h
 ·rename_i hm
  simp [mayCall] at hm
  exact may_tab (hm.2 o ho)
 ·cases h
end Go.Proofs.YtakmlhhapegpoaaGreat
