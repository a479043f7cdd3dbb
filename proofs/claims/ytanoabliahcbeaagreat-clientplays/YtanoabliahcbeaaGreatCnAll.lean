import Derived.Test.YtanoabliahcbeaaGreatCallsK
set_option maxHeartbeats 4000000
set_option maxRecDepth 100000
namespace Go.Proofs.YtanoabliahcbeaaGreat.Calls
open Go.RowKit Disk
open Names (Str)
open Wire (RdB RdG)
theorem results_row_tmp {fn:Func}{p u:Tmp}{ty:TypeId}(h:fn.results=#[.cell p ty,.tmp u])(tmps:Array Value)(w:World)(g:Nat)(cs:Array Value)
  (hp:tmps.getD p undef=.pointer (some ⟨g,0,none⟩)) (hl:(loadVar ty ⟨g,0,none⟩).run Tryz.prog w=.ok (.agg cs) w) :
  (results fn tmps).run Tryz.prog w=.ok (.tuple #[.agg cs,tmps.getD u undef]) w:=by
 rw [results_cell_tmp h,hp]
 simp [asAddr,Result.andThen,hl]
theorem ne171 (c:Value)(w:World):(binOp .eql 224 (.func (.func 152) #[] #[c]) .nilFunc).run Tryz.prog w=.ok (.bool false) w:=by kernel_rfl
theorem one134 (b f:Nat)(L:Bs)(w:World)(hz:L.length<=140737488355328)(hr:RR w b L)(hf:Blk w f 189 #[.func (.func 118) #[] #[]]) :
  Calls Tryz.prog 152 #[.pointer (some ⟨b,0,none⟩),.pointer (some ⟨f,0,none⟩)] w (RdPost b w (pOp L) (fun o v w'=>∃u,v=.tuple #[u,.int .i64 0]/\OpTold w o u w')):=by
 have HR:Hid (RR w b L):=hr
 have hb:b<w.heap.size:=by obtain ⟨s,hs⟩:=hr.blk;exact hs.lt
 have kf:=fun o=>grown_fun (World.grownBy_alloc w o none) (hf.cell 0)
 clear hr
 go_enter Tryz.func152,Tryz.ntmps152
 go_wp2_with (go_at_call 118;refine (op89 b L _ hz (HR.out.grown (World.grownBy_alloc _ _ none))).mono ?_)
 intro e w1 h
 rcases h.symm with ⟨hx,rfl,hg⟩ | ⟨o,M,v,hx,rfl,ho,hR,hg⟩
 ·have F:Hid (pOp L=none/\w.grownBy w1 (some b)):=⟨hx,grown_trans (World.grownBy_alloc _ _ _) hg⟩
  clear hx hg h
  unfold Pan
  go_wp2_with fail
  exact ⟨rfl,.inr ⟨F.out.1,rfl,F.out.2⟩⟩
 clear h
 have hres:Blk w1 w.heap.size 109 #[.int .i64 0,.string ⟨#[]⟩,.slice none 0 0,.slice none 0 0,.bool false,.slice none 0 0,.slice none 0 0,.int .i64 0]:=Blk.grown (heap_alloc_new w _) hg (fun e=>by simp at e;omega)
 have HW:Hid (w.grownBy w1 (some b)/\RR w1 b M/\pOp L=some (o,M)):=⟨grown_trans (World.grownBy_alloc _ _ _) hg,hR,hx⟩
 obtain ⟨k,x,ol,t,rfl,ho⟩:=ho
 obtain ⟨x1,n1,y1,rfl⟩:=cut_slice ho.key
 obtain ⟨x2,n2,y2,rfl⟩:=cut_slice ho.value
 obtain ⟨x3,n3,y3,rfl⟩:=cut_slice ho.old
 obtain ⟨x4,n4,y4,rfl⟩:=cut_slice ho.tos
 obtain ⟨r0,r1,r2,r3,r4,r5,r6,r7⟩:=cells8 hres
 obtain ⟨z0,z1,z2,z3,z4,z5,z6,z7⟩:=frees8 hres
 have hb1:=(((((((hres.store 0 (.int .i64 o.kind)).store 1 (.string ⟨o.table.toArray⟩)).store 2 (.slice x1 n1 y1)).store 3 (.slice x2 n2 y2)).store 4 (.bool o.has)).store 5 (.slice x3 n3 y3)).store 6 (.slice x4 n4 y4)).store 7 (.int .i64 o.most)
 have hg1:=grown8 w1 w.heap.size (.int .i64 o.kind) (.string ⟨o.table.toArray⟩) (.slice x1 n1 y1) (.slice x2 n2 y2) (.bool o.has) (.slice x3 n3 y3) (.slice x4 n4 y4) (.int .i64 o.most)
 have HO:Hid (OpOwn w1 w.heap.size (.slice x1 n1 y1) (.slice x2 n2 y2) (.slice x3 n3 y3) (.slice x4 n4 y4) o/\Blk w1 w.heap.size 109 #[.int .i64 0,.string ⟨#[]⟩,.slice none 0 0,.slice none 0 0,.bool false,.slice none 0 0,.slice none 0 0,.int .i64 0]):=⟨ho.mono (by simp),hres⟩
 have HB:Hid _:=And.intro hb1 hg1
 clear ho hres hx hg hR hb1 hg1
 unfold opV Str
 go_wp2_with fail
 refine bodyPost_ret (v:=_) (results_row_tmp rfl _ _ w.heap.size _ rfl (run_loadVar_row _ w.heap.size 109 109 _ (0,0) _ HB.out.1 Tryz.underlying109 rfl (by kernel_rfl))) rfl ?_
 exact .inl ⟨o,M,_,HW.out.2.2,rfl,⟨_,rfl,_,_,_,_,rfl,HO.out.1.set HO.out.2 (by decide) HB.out.2⟩,HW.out.2.1.set HO.out.2 HB.out.2 (by decide) (by decide),grown_new HW.out.1 HB.out.2 (fun y hy=>by simp at hy;omega)⟩
theorem Tryz.info109:(Tryz.prog.info? 109).map (fun i=>(i.zero,i.size,i.bytes))=some (some (.agg #[.int .i64 0,.string ⟨#[]⟩,.slice none 0 0,.slice none 0 0,.bool false,.slice none 0 0,.slice none 0 0,.int .i64 0]),8,136):=by kernel_rfl
theorem add_addr (g j:Nat):(⟨g,0,none⟩:Addr).add j=⟨g,j,none⟩:=by unfold Addr.add;split <;> simp_all
theorem app71_wp {o:Oper}{a:Act}{K:Act->World->Prop}{Q:Exit->Act->World->Prop}(w:World)(s x:Operand)
  (ho:o.op=.call { callee:=.builtin .append,args:=#[s,x],argTypes:=#[33,33] })
  (B:Nat) (v:Value) (l:List POp) (p:POp) (g:Nat) (k vl ol t:Value) (hs:a.eval s=v) (hx:a.eval x=.slice (some ⟨g,0,none⟩) 1 1)
  (hrow:OpsOwn w B v l) (hc:Blk w g 109 #[.int .i64 p.kind,.string ⟨p.table.toArray⟩,k,vl,.bool p.has,ol,t,.int .i64 p.most]) (hp:OpOwn w B k vl ol t p) (hb:l.length<=1034834473199) (hB:B<=w.heap.size)
  (h:∀g' cap' w',OpsOwn w' B (.slice (some ⟨g',0,none⟩) (l.length+1) cap') (l ++ [p])->w.grownBy w' v.ownBlock->(v.ownBlock=some g'\/g'=w.heap.size)->K (a.put o.dst (.slice (some ⟨g',0,none⟩) (l.length+1) cap')) w'):o.wp Tryz.prog a w K Q:=by
 obtain ⟨i0,hi,hz0,hz1,hz2⟩:=info_parts Tryz.info109
 obtain ⟨⟨vs,h1,h2,h3,h4⟩,hl⟩:=hrow
 obtain ⟨q0,q1,q2,q3,q4,q5,q6,q7⟩:=cells8 hc
 obtain ⟨x1,n1,y1,rfl⟩:=cut_slice hp.key
 obtain ⟨x2,n2,y2,rfl⟩:=cut_slice hp.value
 obtain ⟨x3,n3,y3,rfl⟩:=cut_slice hp.old
 obtain ⟨x4,n4,y4,rfl⟩:=cut_slice hp.tos
 refine wp_append_lies w s x 33 ho B 109 i0 _ 8 136 Tryz.underlying33 hi hz0 hz1 hz2 rfl (by decide) v l.length vs.flatten hs h1 ⟨g,0,none⟩ 1 1 [.int .i64 p.kind,.string ⟨p.table.toArray⟩,.slice x1 n1 y1,.slice x2 n2 y2,.bool p.has,.slice x3 n3 y3,.slice x4 n4 y4,.int .i64 p.most] hx rfl ?_ ?_ (by decide) (by unfold maxLen;omega) (by omega) hB w.heap.size rfl ?_
 ·intro j y hj
  rw [add_addr]
  match j,hj with
  | 0,hj=>simp at hj;subst hj;exact q0
  | 1,hj=>simp at hj;subst hj;exact q1
  | 2,hj=>simp at hj;subst hj;exact q2
  | 3,hj=>simp at hj;subst hj;exact q3
  | 4,hj=>simp at hj;subst hj;exact q4
  | 5,hj=>simp at hj;subst hj;exact q5
  | 6,hj=>simp at hj;subst hj;exact q6
  | 7,hj=>simp at hj;subst hj;exact q7
  | j+8,hj=>simp at hj
 ·intro y hy
  simp at hy
  rcases hy with rfl | rfl | rfl | rfl | rfl | rfl | rfl | rfl <;> rfl
 ·intro g' cap' w' r2 r3 r4 _
  exact h g' cap' w' ⟨LRow.snoc (opR_stab B) (by decide) h1 h2 h3 h4 rfl ⟨_,_,_,_,rfl,hp⟩ r3 r2,by simp;omega⟩ r3 r4
theorem app71 {ops:Array Oper}{rest:List Oper}{o:Oper}{a:Act}{Q:Exit->Act->World->Prop}(w:World)(hw:Region.wanted o (yielded ops a.tmps)=true)(s x:Operand)
  (ho:o.op=.call { callee:=.builtin .append,args:=#[s,x],argTypes:=#[33,33] })
  (B:Nat) (v:Value) (l:List POp) (p:POp) (g:Nat) (k vl ol t:Value) (hs:a.eval s=v) (hx:a.eval x=.slice (some ⟨g,0,none⟩) 1 1)
  (hrow:OpsOwn w B v l) (hc:Blk w g 109 #[.int .i64 p.kind,.string ⟨p.table.toArray⟩,k,vl,.bool p.has,ol,t,.int .i64 p.most]) (hp:OpOwn w B k vl ol t p) (hb:l.length<=1034834473199) (hB:B<=w.heap.size)
  (h:∀g' cap' w',OpsOwn w' B (.slice (some ⟨g',0,none⟩) (l.length+1) cap') (l ++ [p])->w.grownBy w' v.ownBlock->(v.ownBlock=some g'\/g'=w.heap.size)->wpList Tryz.prog ops Q rest (a.put o.dst (.slice (some ⟨g',0,none⟩) (l.length+1) cap')) w'):wpList Tryz.prog ops Q (o :: rest) a w :=
 BigFrame.wpList_want hw fun _ hK=>app71_wp w s x ho B v l p g k vl ol t hs hx hrow hc hp hb hB fun g' cap' w' h1 h2 h3=>hK _ _ (h g' cap' w' h1 h2 h3)
theorem pMany_snoc {α:Type}{p:Bs->Option (α × Bs)}:∀(k:Nat) (L:Bs) (xs:List α) (M:Bs),pMany p k L=some (xs,M)->pMany p (k+1) L=(p M).bind fun x=>some (xs ++ [x.1],x.2)
 | 0,L,xs,M,h=>by
  simp [pMany] at h
  obtain ⟨rfl,rfl⟩:=h
  simp only [pMany]
  cases p L <;> rfl
 | k+1,L,xs,M,h=>by
  rw [pMany] at h
  cases hp:p L with
  | none=>rw [hp] at h;cases h
  | some y =>
   rw [hp] at h
   simp only [Option.bind_some] at h
   cases hq:pMany p k y.2 with
   | none=>rw [hq] at h;cases h
   | some z =>
    rw [hq] at h
    simp at h
    obtain ⟨rfl,rfl⟩:=h
    rw [pMany,hp]
    simp only [Option.bind_some]
    rw [pMany_snoc k y.2 z.1 z.2 hq]
    cases p z.2 <;> simp
theorem pMany_none {α:Type}{p:Bs->Option (α × Bs)}:∀(k n:Nat) (L:Bs) (xs:List α) (M:Bs),pMany p k L=some (xs,M)->p M=none->k<n->pMany p n L=none
 | 0,n,L,xs,M,h,hn,hk=>by
  simp [pMany] at h
  obtain ⟨rfl,rfl⟩:=h
  cases n with
  | zero=>omega
  | succ n=>rw [pMany,hn];rfl
 | k+1,n,L,xs,M,h,hn,hk=>by
  rw [pMany] at h
  cases hp:p L with
  | none=>rw [hp] at h;cases h
  | some y =>
   rw [hp] at h
   simp only [Option.bind_some] at h
   cases hq:pMany p k y.2 with
   | none=>rw [hq] at h;cases h
   | some z =>
    rw [hq] at h
    simp at h
    obtain ⟨rfl,rfl⟩:=h
    cases n with
    | zero=>omega
    | succ n =>
     rw [pMany,hp]
     simp only [Option.bind_some]
     rw [pMany_none k n y.2 z.1 z.2 hq hn (by omega)]
     rfl
theorem pMany_len {α:Type}{p:Bs->Option (α × Bs)}(hp:∀L x M,p L=some (x,M)->M.length<=L.length):∀(k:Nat) (L:Bs) (xs:List α) (M:Bs),pMany p k L=some (xs,M)->M.length<=L.length/\xs.length=k
 | 0,L,xs,M,h=>by simp [pMany] at h;obtain ⟨rfl,rfl⟩:=h;simp
 | k+1,L,xs,M,h=>by
  rw [pMany] at h
  cases hp':p L with
  | none=>rw [hp'] at h;cases h
  | some y =>
   rw [hp'] at h
   simp only [Option.bind_some] at h
   cases hq:pMany p k y.2 with
   | none=>rw [hq] at h;cases h
   | some z =>
    rw [hq] at h
    simp at h
    obtain ⟨rfl,rfl⟩:=h
    have h1:=hp L y.1 y.2 hp'
    have h2:=pMany_len hp k y.2 z.1 z.2 hq
    simp;omega
theorem pOp_le (L:Bs)(x:POp)(M:Bs)(h:pOp L=some (x,M)):M.length<=L.length:=by rw [(pOp_inv h).2];simp
theorem OpsOwn.slice {w:World}{B:Nat}{v:Value}{l:List POp}(h:OpsOwn w B v l):∃x n y,v=.slice x n y/\n=l.length:=by obtain ⟨x,y,e⟩:=h.1.shape;exact ⟨x,_,y,e,rfl⟩
theorem things170 (b f n:Nat)(L:Bs)(w:World)(hn:n<=100)(hz:L.length<=140737488355328)(hr:RR w b L)(hf:Blk w f 189 #[.func (.func 118) #[] #[]]) :
  Calls Tryz.prog 174 #[.pointer (some ⟨b,0,none⟩),.int .u64 n,.func (.func 152) #[] #[.pointer (some ⟨f,0,none⟩)]] w (RdPost b w (pMany pOp n L) (fun l v w'=>∃u,v=.tuple #[u,.int .i64 0]/\OpsOwn w' w.heap.size u l)):=by
 have HR:Hid (RR w b L/\Blk w f 189 #[.func (.func 118) #[] #[]]):=⟨hr,hf⟩
 have hblt:b<w.heap.size:=by obtain ⟨s,hs⟩:=hr.blk;exact hs.lt
 have hfb:f≠b:=hr.ne hf (by decide)
 clear hr hf
 go_enter Tryz.func174,Tryz.ntmps174
 go_wp2_with fail
 go_loopw [8,12] (fun v i wr=>∃(k:Nat) (xs:List POp) (M:Bs),k<=n/\i=.int .u64 k/\Hid (pMany pOp k L=some (xs,M))/\OpsOwn wr w.heap.size v xs/\RR wr b M/\w.grownBy wr (some b)) (fun _ i _=>n-(intOf i).toNat)
 case atStart=>exact ⟨0,[],L,by omega,rfl,rfl,⟨lrow_nil _ _,by simp⟩,HR.out.1,grown_refl _ _⟩
 case round =>
  obtain ⟨k,xs,M,hk,rfl,hp,hown,hrr,hg⟩:=hrel
  obtain ⟨hlen,hxs⟩:=pMany_len pOp_le k L xs M hp.out
  have hf1:Blk wr f 189 #[.func (.func 118) #[] #[]]:=HR.out.2.grown hg (fun e=>hfb (by simpa using e.symm))
  by_cases hlt:k<n
  ·have i2:(k:Int)<(n:Int):=by omega
   have HO:Hid (OpsOwn wr w.heap.size u8 xs/\RR wr b M/\w.grownBy wr (some b)/\Blk wr f 189 #[.func (.func 118) #[] #[]]):=⟨hown,hrr,hg,hf1⟩
   have hzM:M.length<=140737488355328:=by omega
   clear hown hrr hg hf1
   go_wp2_with (go_at_call 152;refine (one134 b f M _ hzM HO.out.2.1 HO.out.2.2.2).mono ?_)
   intro e w1 h
   rcases h.symm with ⟨hx,rfl,hg1⟩ | ⟨o,M1,v,hx,rfl,⟨u,rfl,k1,x1,ol1,t1,rfl,ho⟩,hR,hg1⟩
   ·have F:Hid (pMany pOp n L=none/\w.grownBy w1 (some b)):=⟨pMany_none k n L xs M hp.out hx hlt,grown_trans HO.out.2.2.1 hg1⟩
    clear hx hg1 h
    unfold Pan
    go_wp2_with fail
    exact ⟨rfl,.inr ⟨F.out.1,rfl,F.out.2⟩⟩
   clear h
   obtain ⟨s,hs⟩:=HO.out.2.1.blk
   have hown1:=HO.out.1.set hs (by decide) (by decide) hg1
   have HP:Hid (pMany pOp (k+1) L=some (xs ++ [o],M1)):=by rw [pMany_snoc k L xs M hp.out,hx];rfl
   obtain ⟨xa,na,ya,rfl⟩:=cut_slice ho.key
   obtain ⟨xb,nb,yb,rfl⟩:=cut_slice ho.value
   obtain ⟨xc,nc,yc,rfl⟩:=cut_slice ho.old
   obtain ⟨xd,nd,yd,rfl⟩:=cut_slice ho.tos
   have HQ:Hid (OpsOwn w1 w.heap.size u8 xs/\OpOwn w1 w.heap.size (.slice xa na ya) (.slice xb nb yb) (.slice xc nc yc) (.slice xd nd yd) o/\RR w1 b M1/\w.grownBy w1 (some b)/\w.heap.size<=w1.heap.size):=⟨hown1,ho.mono HO.out.2.2.1.size,hR,grown_trans HO.out.2.2.1 hg1,Nat.le_trans HO.out.2.2.1.size hg1.size⟩
   clear hx hg1 ho hR hown1 hs
   unfold opV Str
   have HX:Hid (OpsOwn ((w1.alloc (.cells #[.int .i64 o.kind,.string ⟨o.table.toArray⟩,.slice xa na ya,.slice xb nb yb,.bool o.has,.slice xc nc yc,.slice xd nd yd,.int .i64 o.most] 109)).alloc (.cells #[.int .i64 o.kind,.string ⟨o.table.toArray⟩,.slice xa na ya,.slice xb nb yb,.bool o.has,.slice xc nc yc,.slice xd nd yd,.int .i64 o.most] 109)) w.heap.size u8 xs):=HQ.out.1.grown (grown_trans (World.grownBy_alloc _ _ none) (World.grownBy_alloc _ _ none))
   have HY:Hid (OpOwn ((w1.alloc (.cells #[.int .i64 o.kind,.string ⟨o.table.toArray⟩,.slice xa na ya,.slice xb nb yb,.bool o.has,.slice xc nc yc,.slice xd nd yd,.int .i64 o.most] 109)).alloc (.cells #[.int .i64 o.kind,.string ⟨o.table.toArray⟩,.slice xa na ya,.slice xb nb yb,.bool o.has,.slice xc nc yc,.slice xd nd yd,.int .i64 o.most] 109)) w.heap.size (.slice xa na ya) (.slice xb nb yb) (.slice xc nc yc) (.slice xd nd yd) o):=HQ.out.2.1.grown (grown_trans (World.grownBy_alloc _ _ none) (World.grownBy_alloc _ _ none))
   have HZ:Hid (Blk ((w1.alloc (.cells #[.int .i64 o.kind,.string ⟨o.table.toArray⟩,.slice xa na ya,.slice xb nb yb,.bool o.has,.slice xc nc yc,.slice xd nd yd,.int .i64 o.most] 109)).alloc (.cells #[.int .i64 o.kind,.string ⟨o.table.toArray⟩,.slice xa na ya,.slice xb nb yb,.bool o.has,.slice xc nc yc,.slice xd nd yd,.int .i64 o.most] 109)) (w1.heap.size+1) 109 #[.int .i64 o.kind,.string ⟨o.table.toArray⟩,.slice xa na ya,.slice xb nb yb,.bool o.has,.slice xc nc yc,.slice xd nd yd,.int .i64 o.most]):=by
    have:=heap_alloc_new (w1.alloc (.cells #[.int .i64 o.kind,.string ⟨o.table.toArray⟩,.slice xa na ya,.slice xb nb yb,.bool o.has,.slice xc nc yc,.slice xd nd yd,.int .i64 o.most] 109)) (.cells #[.int .i64 o.kind,.string ⟨o.table.toArray⟩,.slice xa na ya,.slice xb nb yb,.bool o.has,.slice xc nc yc,.slice xd nd yd,.int .i64 o.most] 109)
    simpa [Blk,Hid] using this
   have HU:Hid (w.heap.size<=((w1.alloc (.cells #[.int .i64 o.kind,.string ⟨o.table.toArray⟩,.slice xa na ya,.slice xb nb yb,.bool o.has,.slice xc nc yc,.slice xd nd yd,.int .i64 o.most] 109)).alloc (.cells #[.int .i64 o.kind,.string ⟨o.table.toArray⟩,.slice xa na ya,.slice xb nb yb,.bool o.has,.slice xc nc yc,.slice xd nd yd,.int .i64 o.most] 109)).heap.size):=by have:=HQ.out.2.2.2.2;unfold Hid;simp;omega
   go_wp2_with (at_builtin;refine app71 _ rfl (.tmp 23) (.tmp 25) rfl w.heap.size u8 xs o _ _ _ _ _ rfl rfl HX.out HZ.out HY.out (by omega) HU.out ?_;intro g' cap' w3 o3 g3 l3)
   have S4:Hid (OpsOwn w3 w.heap.size (.slice (some ⟨g',0,none⟩) (xs.length+1) cap') (xs ++ [o])/\RR w3 b M1/\w.grownBy w3 (some b)):=by
    have q1:RR ((w1.alloc (.cells #[.int .i64 o.kind,.string ⟨o.table.toArray⟩,.slice xa na ya,.slice xb nb yb,.bool o.has,.slice xc nc yc,.slice xd nd yd,.int .i64 o.most] 109)).alloc (.cells #[.int .i64 o.kind,.string ⟨o.table.toArray⟩,.slice xa na ya,.slice xb nb yb,.bool o.has,.slice xc nc yc,.slice xd nd yd,.int .i64 o.most] 109)) b M1:=HQ.out.2.2.1.grown (grown_trans (World.grownBy_alloc _ _ none) (World.grownBy_alloc _ _ none))
    have q2:=grown_trans HQ.out.2.2.2.1 (grown_weak (grown_trans (World.grownBy_alloc w1 (.cells #[.int .i64 o.kind,.string ⟨o.table.toArray⟩,.slice xa na ya,.slice xb nb yb,.bool o.has,.slice xc nc yc,.slice xd nd yd,.int .i64 o.most] 109) none) (World.grownBy_alloc _ (.cells #[.int .i64 o.kind,.string ⟨o.table.toArray⟩,.slice xa na ya,.slice xb nb yb,.bool o.has,.slice xc nc yc,.slice xd nd yd,.int .i64 o.most] 109) none)) (some b))
    refine ⟨o3,?_,grown_new q2 g3 (fun y hy=>(HX.out.1.lt y hy).1)⟩
    cases hv:Value.ownBlock u8 with
    | none=>rw [hv] at g3;exact q1.grown g3
    | some y =>
     rw [hv] at g3
     obtain ⟨vs,hvs,_⟩:=HX.out.1
     obtain ⟨cur,hcur⟩:=owns_blk hvs hv
     exact q1.set hcur g3 (by decide) (by decide)
   clear o3 g3 l3 HX HY HQ
   go_wp2_with fail
   go_roundw
   case rel=>exact ⟨k+1,xs ++ [o],M1,by omega,by go_num,HP.out,by have:=S4.out.1;rw [hxs] at this;exact this,S4.out.2.1,S4.out.2.2⟩
   case measure=>simp [intOf];omega
  ·have e:k=n:=by omega
   subst e
   have HO:Hid (OpsOwn wr w.heap.size u8 xs/\RR wr b M/\w.grownBy wr (some b)):=⟨hown,hrr,hg⟩
   clear hown hrr hg
   go_wp2_with fail
   go_ret2
   exact .inl ⟨xs,M,_,hp.out,rfl,⟨_,rfl,HO.out.1⟩,HO.out.2.1,HO.out.2.2⟩
theorem count169 (b:Nat)(L:Bs)(most:Nat)(w:World)(hm:most<=9223372036854775807)(hr:RR w b L) :
  Calls Tryz.prog 173 #[.pointer (some ⟨b,0,none⟩),.int .i64 most] w fun e w'=>(∃n M,pNum most L=some (n,M)/\e=.returned (.tuple #[.int .u64 n,.int .i64 0])/\n<=most/\RR w' b M/\w.grownBy w' (some b))\/(∃er:Int,pNum most L=none/\(er != 0)=true/\e=.returned (.tuple #[.int .u64 0,.int .i64 er])/\(∃s2,Blk w' b 220 #[.bool true,s2])/\w.grownBy w' (some b)):=by
 obtain ⟨g,hg,hk⟩:=rr_of hr
 obtain ⟨s,h1,h2,h3⟩:=hg
 unfold pNum
 cases hs:Wire.scan 0 0 L with
 | none =>
  refine (Wire.count50_none b true s L most w h1 h2 (by omega) hs).mono ?_
  rintro e w' ⟨rfl,rfl⟩
  exact .inr ⟨4,rfl,rfl,rfl,⟨s,h1⟩,grown_refl _ _⟩
 | some nk =>
  obtain ⟨n,k⟩:=nk
  refine (Wire.count50_g b true s L n k most w h1 h2 g h3 (by omega) (by omega) hs).mono ?_
  rintro e w' ⟨rfl,t,ht,hit,rfl⟩
  by_cases hle:n<=most
  ·rw [Wire.rdCount_ok (by omega) hs (by omega)]
   refine .inl ⟨n,L.drop k,by simp [hle],rfl,hle,hk _ _ ?_ (grown_setCell _ _ _ _) (fun h=>by rw [h];simp),grown_setCell _ _ _ _⟩
   exact Wire.after_count g n k h1 h2 h3 t ht hit
  ·rw [Wire.rdCount_long (by omega) hs (by omega)]
   exact .inr ⟨3,by simp [hle],rfl,rfl,⟨t,h1.store t⟩,grown_setCell _ _ _ _⟩
abbrev OpsTold (w:World)(l:List POp)(v:Value)(w':World):Prop:=∃u,v=.tuple #[u,.int .i64 0]/\OpsOwn w' w.heap.size u l
def TkPost (b:Nat)(w:World)(r:Option (List POp × Bs))(e:Ending)(w':World):Prop :=
 RdPost b w r (OpsTold w) e w'\/(r=none/\(∃u er,e=.returned (.tuple #[u,.int .i64 er])/\(er != 0)=true)/\(∃s2,Blk w' b 220 #[.bool true,s2])/\w.grownBy w' (some b))
theorem pMany_le {most n:Nat}{L M:Bs}(h:pNum most L=some (n,M)):pList pOp most L=pMany pOp n M:=by unfold pList;rw [h];rfl
theorem pList_no {most:Nat}{L:Bs}(h:pNum most L=none):pList pOp most L=none:=by unfold pList;rw [h];rfl
theorem take168 (b m f g:Nat)(L:Bs)(most:Nat)(w:World)(hm:most<=100)(hz:L.length<=140737488355328)(hr:RR w b L)(hmc:w.cell? ⟨m,0,none⟩=some (.int .i64 most))(hgc:Blk w g 224 #[.func (.func 152) #[] #[.pointer (some ⟨f,0,none⟩)]])(hf:Blk w f 189 #[.func (.func 118) #[] #[]]) :
  Calls Tryz.prog 172 #[.pointer (some ⟨b,0,none⟩),.pointer (some ⟨m,0,none⟩),.pointer (some ⟨g,0,none⟩)] w (TkPost b w (pList pOp most L)):=by
 have HR:Hid (RR w b L/\Blk w f 189 #[.func (.func 118) #[] #[]]/\Blk w g 224 #[.func (.func 152) #[] #[.pointer (some ⟨f,0,none⟩)]]):=⟨hr,hf,hgc⟩
 have hfb:f≠b:=hr.ne hf (by decide)
 have hgb:g≠b:=hr.ne hgc (by decide)
 clear hr hf hgc
 go_enter Tryz.func172,Tryz.ntmps172
 go_wp2_with (go_at_call 173;refine (count169 b L most _ (by omega) HR.out.1).mono ?_)
 rintro e w1 (⟨n,M,hx,rfl,hn,hR,hg⟩ | ⟨er,hx,her,rfl,hs2,hg⟩)
 ·have HF:Hid (Blk w1 f 189 #[.func (.func 118) #[] #[]]):=HR.out.2.1.grown hg (fun e=>hfb (by simpa using e.symm))
  have hgc:=(HR.out.2.2.grown hg (fun e=>hgb (by simpa using e.symm))).cell 0
  have HN:Hid (pNum most L=some (n,M)/\RR w1 b M/\w.grownBy w1 (some b)):=⟨hx,hR,hg⟩
  have hzM:=pOp_len hx
  clear hx hR hg
  go_wp2_with (go_at_call 174;refine (things170 b f n M _ (by omega) (by omega) HN.out.2.1 HF.out).mono ?_)
  intro e w2 h
  rcases h.symm with ⟨hx,rfl,hg2⟩ | ⟨l,M2,v,hx,rfl,⟨u,rfl,ho⟩,hR2,hg2⟩
  ·have F:Hid (pList pOp most L=none/\w.grownBy w2 (some b)):=⟨by rw [pMany_le HN.out.1,hx],grown_trans HN.out.2.2 hg2⟩
   clear hx hg2 h
   unfold Pan
   go_wp2_with fail
   exact ⟨rfl,.inl (.inr ⟨F.out.1,rfl,F.out.2⟩)⟩
  clear h
  have F:Hid (pList pOp most L=some (l,M2)/\OpsOwn w2 w.heap.size u l/\RR w2 b M2/\w.grownBy w2 (some b)):=⟨by rw [pMany_le HN.out.1,hx],ho.mono HN.out.2.2.size,hR2,grown_trans HN.out.2.2 hg2⟩
  clear hx ho hR2 hg2
  go_wp2_with fail
  go_ret2
  exact .inl (.inl ⟨l,M2,_,F.out.1,rfl,⟨_,rfl,F.out.2.1⟩,F.out.2.2.1,F.out.2.2.2⟩)
 ·have F:Hid (pList pOp most L=none/\(er != 0)=true/\(∃s2,Blk w1 b 220 #[.bool true,s2])/\w.grownBy w1 (some b)):=⟨pList_no hx,her,hs2,hg⟩
  clear hx hs2 hg
  go_wp2_with fail
  go_ret2
  exact .inr ⟨F.out.1,⟨_,_,rfl,F.out.2.1⟩,F.out.2.2.1,F.out.2.2.2⟩
theorem whole167 (b m f g:Nat)(L:Bs)(most:Nat)(w:World)(hm:most<=100)(hz:L.length<=140737488355328)(hr:RR w b L)(hmc:w.cell? ⟨m,0,none⟩=some (.int .i64 most))(hgc:Blk w g 224 #[.func (.func 152) #[] #[.pointer (some ⟨f,0,none⟩)]])(hf:Blk w f 189 #[.func (.func 118) #[] #[]]) :
  Calls Tryz.prog 171 #[.pointer (some ⟨b,0,none⟩),.func (.func 172) #[] #[.pointer (some ⟨m,0,none⟩),.pointer (some ⟨g,0,none⟩)]] w fun e w'=>RdPost b w (pList pOp most L) (OpsTold w) e w'\/(pList pOp most L=none/\(∃u er,e=.returned (.tuple #[u,.int .i64 er])/\(er != 0)=true)/\w.grownBy w' (some b)):=by
 have HR:Hid (RR w b L/\Blk w f 189 #[.func (.func 118) #[] #[]]/\Blk w g 224 #[.func (.func 152) #[] #[.pointer (some ⟨f,0,none⟩)]]/\w.cell? ⟨m,0,none⟩=some (.int .i64 most)):=⟨hr,hf,hgc,hmc⟩
 obtain ⟨s,hs,hseg,hk⟩:=hr
 obtain ⟨x0,y0,e0⟩:=hseg.shape
 obtain ⟨n0,hn0⟩:∃n,n=L.length:=⟨_,rfl⟩
 rw [<-hn0] at e0
 subst e0
 have c0:=hs.cell0
 have c1:=hs.cell1
 have hbl:b<w.heap.size:=hs.lt
 have HS:Hid (RdB w b true (.slice x0 n0 y0)):=hs
 clear hgc hf hmc hseg hk hn0
 go_enter Tryz.func171,Tryz.ntmps171
 go_wp2_with (first | (go_at_call 148;refine (Wire.there_some b true _ _ HS.out).mono ?_;rintro e w1 ⟨rfl,hw1⟩;rw [hw1];clear hw1) | (go_at_call 172;refine (take168 b m f g L most _ hm hz (HR.out.1.grown (World.grownBy_alloc _ _ none)) (grown_fun (World.grownBy_alloc _ _ none) HR.out.2.2.2) (HR.out.2.2.1.grown (World.grownBy_alloc _ _ none) (by simp)) (HR.out.2.1.grown (World.grownBy_alloc _ _ none) (by simp))).mono ?_))
 rintro e w1 (h | ⟨hx,⟨u,er,rfl,her⟩,⟨s2,hs2⟩,hg⟩)
 ·rcases h.symm with ⟨hx,rfl,hg⟩ | ⟨l,M,v,hx,rfl,⟨u,rfl,ho⟩,hR,hg⟩
  ·have F:Hid (pList pOp most L=none/\w.grownBy w1 (some b)):=⟨hx,grown_trans (World.grownBy_alloc _ _ _) hg⟩
   clear hx hg h
   unfold Pan
   go_wp2_with fail
   exact ⟨rfl,.inl (.inr ⟨F.out.1,rfl,F.out.2⟩)⟩
  ·have F:Hid (pList pOp most L=some (l,M)/\OpsOwn w1 w.heap.size u l/\RR w1 b M/\w.grownBy w1 (some b)):=⟨hx,ho.mono (by simp),hR,grown_trans (World.grownBy_alloc _ _ _) hg⟩
   clear hx ho hR hg h
   go_wp2_with fail
   go_ret2
   exact .inl (.inl ⟨l,M,_,F.out.1,rfl,⟨_,rfl,F.out.2.1⟩,F.out.2.2.1,F.out.2.2.2⟩)
 ·have F:Hid (pList pOp most L=none/\(er != 0)=true/\w.grownBy w1 (some b)):=⟨hx,her,grown_trans (World.grownBy_alloc _ _ _) hg⟩
  have hw:Blk w1 w.heap.size 220 #[.bool true,.slice x0 n0 y0]:=Blk.grown (heap_alloc_new w _) hg (fun e=>by simp at e;omega)
  have d0:=hw.cell 0
  have d1:=hw.cell 1
  have b0:=hs2.cell 0
  have b1:=hs2.cell 1
  have z0:=hs2.free 0
  have z1:=hs2.free 1
  clear hx hg hw hs2
  go_wp2_with fail
  go_ret2
  exact .inr ⟨F.out.1,⟨_,_,rfl,F.out.2.1⟩,grown_trans F.out.2.2 (grown_trans (grown_setCell _ _ _ _) (grown_setCell _ _ _ _))⟩
theorem take133 (b f:Nat)(L:Bs)(most:Nat)(w:World)(hm:most<=100)(hz:L.length<=140737488355328)(hr:RR w b L)(hf:Blk w f 189 #[.func (.func 118) #[] #[]]) :
  Calls Tryz.prog 151 #[.pointer (some ⟨b,0,none⟩),.int .i64 most,.func (.func 152) #[] #[.pointer (some ⟨f,0,none⟩)]] w fun e w'=>RdPost b w (pList pOp most L) (OpsTold w) e w'\/(pList pOp most L=none/\(∃u er,e=.returned (.tuple #[u,.int .i64 er])/\(er != 0)=true)/\w.grownBy w' (some b)):=by
 have HR:Hid (RR w b L/\Blk w f 189 #[.func (.func 118) #[] #[]]):=⟨hr,hf⟩
 have q1:=ne171
 have hmf:∀(fn:Fn) (first cap:Array Value) (w:World),(Instr.makeFunc fn first cap).run Tryz.prog w=.ok (.func fn first cap) w:=fun _ _ _ _=>rfl
 clear hr hf
 have HB:Hid (Blk ((w.alloc (.cells #[.int .i64 most] 3)).alloc (.cells #[.func (.func 152) #[] #[.pointer (some ⟨f,0,none⟩)]] 224)) (w.heap.size+1) 224 #[.func (.func 152) #[] #[.pointer (some ⟨f,0,none⟩)]]):=by
  have:=heap_alloc_new (w.alloc (.cells #[.int .i64 most] 3)) (.cells #[.func (.func 152) #[] #[.pointer (some ⟨f,0,none⟩)]] 224)
  simpa [Blk,Hid] using this
 go_enter Tryz.func151,Tryz.ntmps151
 go_wp2_with (go_at_call 171;refine (whole167 b w.heap.size f (w.heap.size+1) L most _ hm hz (HR.out.1.grown (grown_trans (World.grownBy_alloc _ _ none) (World.grownBy_alloc _ _ none))) (by simp [go_sem]) HB.out (HR.out.2.grown (grown_trans (World.grownBy_alloc _ _ none) (World.grownBy_alloc _ _ none)) (by simp))).mono ?_)
 rintro e w1 (h | ⟨hx,⟨u,er,rfl,her⟩,hg⟩)
 ·rcases h.symm with ⟨hx,rfl,hg⟩ | ⟨l,M,v,hx,rfl,⟨u,rfl,ho⟩,hR,hg⟩
  ·have F:Hid (pList pOp most L=none/\w.grownBy w1 (some b)):=⟨hx,grown_trans (grown_trans (World.grownBy_alloc _ _ _) (World.grownBy_alloc _ _ _)) hg⟩
   clear hx hg h
   unfold Pan
   go_wp2_with fail
   exact ⟨rfl,.inl (.inr ⟨F.out.1,rfl,F.out.2⟩)⟩
  ·have F:Hid (pList pOp most L=some (l,M)/\OpsOwn w1 w.heap.size u l/\RR w1 b M/\w.grownBy w1 (some b)):=⟨hx,ho.mono (by simp;omega),hR,grown_trans (grown_trans (World.grownBy_alloc _ _ _) (World.grownBy_alloc _ _ _)) hg⟩
   clear hx ho hR hg h
   go_wp2_with fail
   go_ret2
   exact .inl (.inl ⟨l,M,_,F.out.1,rfl,⟨_,rfl,F.out.2.1⟩,F.out.2.2.1,F.out.2.2.2⟩)
 ·have F:Hid (pList pOp most L=none/\(er != 0)=true/\w.grownBy w1 (some b)):=⟨hx,her,grown_trans (grown_trans (World.grownBy_alloc _ _ _) (World.grownBy_alloc _ _ _)) hg⟩
  clear hx hg
  go_wp2_with fail
  go_ret2
  exact .inr ⟨F.out.1,⟨_,_,rfl,F.out.2.1⟩,F.out.2.2⟩
theorem list132 (b m f:Nat)(L:Bs)(most:Nat)(w:World)(hm:most<=100)(hz:L.length<=140737488355328)(hr:RR w b L)(hmc:w.cell? ⟨m,0,none⟩=some (.int .i64 most))(hf:Blk w f 189 #[.func (.func 118) #[] #[]]) :
  Calls Tryz.prog 150 #[.pointer (some ⟨b,0,none⟩),.pointer (some ⟨m,0,none⟩),.pointer (some ⟨f,0,none⟩)] w fun e w'=>RdPost b w (pList pOp most L) (OpsTold w) e w'\/(pList pOp most L=none/\(∃u er,e=.returned (.tuple #[u,.int .i64 er])/\(er != 0)=true)/\w.grownBy w' (some b)):=by
 have HR:Hid (RR w b L/\Blk w f 189 #[.func (.func 118) #[] #[]]):=⟨hr,hf⟩
 have hmf:∀(fn:Fn) (first cap:Array Value) (w:World),(Instr.makeFunc fn first cap).run Tryz.prog w=.ok (.func fn first cap) w:=fun _ _ _ _=>rfl
 clear hr hf
 go_enter Tryz.func150,Tryz.ntmps150
 go_wp2_with (go_at_call 151;refine (take133 b f L most _ hm hz HR.out.1 HR.out.2).mono ?_)
 rintro e w1 (h | ⟨hx,⟨u,er,rfl,her⟩,hg⟩)
 ·rcases h.symm with ⟨hx,rfl,hg⟩ | ⟨l,M,v,hx,rfl,⟨u,rfl,ho⟩,hR,hg⟩
  ·have F:Hid (pList pOp most L=none/\w.grownBy w1 (some b)):=⟨hx,hg⟩
   clear hx hg h
   unfold Pan
   go_wp2_with fail
   exact ⟨rfl,.inl (.inr ⟨F.out.1,rfl,F.out.2⟩)⟩
  ·have F:Hid (pList pOp most L=some (l,M)/\OpsOwn w1 w.heap.size u l/\RR w1 b M/\w.grownBy w1 (some b)):=⟨hx,ho,hR,hg⟩
   clear hx ho hR hg h
   go_wp2_with fail
   go_ret2
   exact .inl (.inl ⟨l,M,_,F.out.1,rfl,⟨_,rfl,F.out.2.1⟩,F.out.2.2.1,F.out.2.2.2⟩)
 ·have F:Hid (pList pOp most L=none/\(er != 0)=true/\w.grownBy w1 (some b)):=⟨hx,her,hg⟩
  clear hx hg
  go_wp2_with fail
  go_ret2
  exact .inr ⟨F.out.1,⟨_,_,rfl,F.out.2.1⟩,F.out.2.2⟩
theorem next131 (b m f:Nat)(L:Bs)(most:Nat)(w:World)(hm:most<=100)(hz:L.length<=140737488355328)(hr:RR w b L)(hmc:w.cell? ⟨m,0,none⟩=some (.int .i64 most))(hf:Blk w f 189 #[.func (.func 118) #[] #[]]) :
  Calls Tryz.prog 149 #[rdV b,.func (.func 150) #[] #[.pointer (some ⟨m,0,none⟩),.pointer (some ⟨f,0,none⟩)]] w (RdPost b w (pList pOp most L) (fun l v w'=>OpsOwn w' w.heap.size v l)):=by
 have HR:Hid (RR w b L/\Blk w f 189 #[.func (.func 118) #[] #[]]/\w.cell? ⟨m,0,none⟩=some (.int .i64 most)):=⟨hr,hf,hmc⟩
 clear hr hf hmc
 have e0:rdV b=.agg #[.pointer (some ⟨b,0,none⟩)]:=rfl
 rw [e0]
 go_enter Tryz.func149,Tryz.ntmps149
 go_wp2_with (go_at_call 150;refine (list132 b m f L most _ hm hz (HR.out.1.grown (World.grownBy_alloc _ _ none)) (grown_fun (World.grownBy_alloc _ _ none) HR.out.2.2) (HR.out.2.1.grown (World.grownBy_alloc _ _ none) (by simp))).mono ?_)
 rintro e w1 (h | ⟨hx,⟨u,er,rfl,her⟩,hg⟩)
 ·rcases h.symm with ⟨hx,rfl,hg⟩ | ⟨l,M,v,hx,rfl,⟨u,rfl,ho⟩,hR,hg⟩
  ·have F:Hid (pList pOp most L=none/\w.grownBy w1 (some b)):=⟨hx,grown_trans (World.grownBy_alloc _ _ _) hg⟩
   clear hx hg h
   unfold Pan
   go_wp2_with fail
   exact ⟨rfl,.inr ⟨F.out.1,rfl,F.out.2⟩⟩
  ·have F:Hid (pList pOp most L=some (l,M)/\OpsOwn w1 w.heap.size u l/\RR w1 b M/\w.grownBy w1 (some b)):=⟨hx,ho.mono (by simp),hR,grown_trans (World.grownBy_alloc _ _ _) hg⟩
   clear hx ho hR hg h
   go_wp2_with (go_at_call 110;refine (sure_yes _ _).mono ?_;rintro e w2 ⟨rfl,hw2⟩;rw [hw2];clear hw2)
   go_ret
   exact .inl ⟨l,M,_,F.out.1,rfl,F.out.2.1,F.out.2.2.1,F.out.2.2.2⟩
 ·have F:Hid (pList pOp most L=none/\w.grownBy w1 (some b)):=⟨hx,grown_trans (World.grownBy_alloc _ _ _) hg⟩
  have q:(er==0)=false:=by simpa using her
  clear hx hg her
  go_wp2_with (go_at_call 110;refine (sure_no _ _).mono ?_;rintro e w2 ⟨rfl,hw2⟩;rw [hw2];clear hw2;unfold Pan)
  exact ⟨rfl,.inr ⟨F.out.1,rfl,F.out.2⟩⟩
theorem list88 (b:Nat)(L:Bs)(most:Nat)(w:World)(hm:most<=100)(hz:L.length<=140737488355328)(hr:RR w b L) :
  Calls Tryz.prog 117 #[rdV b,.int .i64 most,.func (.func 118) #[] #[]] w (RdPost b w (pList pOp most L) (fun l v w'=>OpsOwn w' w.heap.size v l)):=by
 have HR:Hid (RR w b L):=hr
 have hmf:∀(fn:Fn) (first cap:Array Value) (w:World),(Instr.makeFunc fn first cap).run Tryz.prog w=.ok (.func fn first cap) w:=fun _ _ _ _=>rfl
 clear hr
 have e0:rdV b=.agg #[.pointer (some ⟨b,0,none⟩)]:=rfl
 rw [e0]
 have HB:Hid (Blk (((w.alloc (.cells #[.pointer (some ⟨b,0,none⟩)] 149)).alloc (.cells #[.int .i64 most] 3)).alloc (.cells #[.func (.func 118) #[] #[]] 189)) (w.heap.size+1+1) 189 #[.func (.func 118) #[] #[]]):=by
  have:=heap_alloc_new ((w.alloc (.cells #[.pointer (some ⟨b,0,none⟩)] 149)).alloc (.cells #[.int .i64 most] 3)) (.cells #[.func (.func 118) #[] #[]] 189)
  simpa [Blk,Hid] using this
 go_enter Tryz.func117,Tryz.ntmps117
 go_wp2_with (go_at_call 149;refine (next131 b (w.heap.size+1) (w.heap.size+1+1) L most _ hm hz (HR.out.grown (grown3 _ _ _ _)) (by simp [go_sem]) HB.out).mono ?_)
 intro e w1 h
 rcases h.symm with ⟨hx,rfl,hg⟩ | ⟨l,M,v,hx,rfl,ho,hR,hg⟩
 ·have F:Hid (pList pOp most L=none/\w.grownBy w1 (some b)):=⟨hx,grown_trans (grown_weak (grown3 _ _ _ _) _) hg⟩
  clear hx hg h
  unfold Pan
  go_wp2_with fail
  exact ⟨rfl,.inr ⟨F.out.1,rfl,F.out.2⟩⟩
 ·have F:Hid (pList pOp most L=some (l,M)/\OpsOwn w1 w.heap.size v l/\RR w1 b M/\w.grownBy w1 (some b)):=⟨hx,ho.mono (by simp;omega),hR,grown_trans (grown_weak (grown3 _ _ _ _) _) hg⟩
  clear hx ho hR hg h
  go_wp2_with fail
  go_ret
  exact .inl ⟨l,M,_,F.out.1,rfl,F.out.2.1,F.out.2.2.1,F.out.2.2.2⟩
theorem list88_int (x:Int)(b:Nat)(L:Bs)(most:Nat)(hx:x=most)(w:World)(hm:most<=100)(hz:L.length<=140737488355328)(hr:RR w b L) :
  Calls Tryz.prog 117 #[rdV b,.int .i64 x,.func (.func 118) #[] #[]] w (RdPost b w (pList pOp most L) (fun l v w'=>OpsOwn w' w.heap.size v l)):=by subst hx;exact list88 b L most w hm hz hr
def pOps (L:Bs):Option (List POp × Bs):=(pList pOp 16 L).bind fun l=>if l.1.length=0 then none else some l
theorem pCall_ops (L:Bs):pCall L=(pOps L).bind fun l=>if l.2.length=0 then some l.1 else none:=by
 unfold pCall pOps
 cases pList pOp 16 L with
 | none=>rfl
 | some l=>simp only [Option.bind_some];split <;> rfl
theorem call48 (b:Nat)(L:Bs)(w:World)(hz:L.length<=140737488355328)(hr:RR w b L) :
  Calls Tryz.prog 85 #[rdV b] w (RdPost b w (pOps L) (fun l v w'=>∃u,v=.agg #[u]/\OpsOwn w' w.heap.size u l)):=by
 have HR:Hid (RR w b L):=hr
 have hbl:b<w.heap.size:=by obtain ⟨s,hs⟩:=hr.blk;exact hs.lt
 clear hr
 have e0:rdV b=.agg #[.pointer (some ⟨b,0,none⟩)]:=rfl
 rw [e0]
 go_enter Tryz.func85,Tryz.ntmps85
 go_wp2_with (go_at_call 117;refine (list88_int _ b L 16 rfl _ (by decide) hz (HR.out.grown (grown_trans (World.grownBy_alloc _ _ none) (World.grownBy_alloc _ _ none)))).mono ?_)
 intro e w1 h
 rcases h.symm with ⟨hx,rfl,hg⟩ | ⟨l,M,v,hx,rfl,ho,hR,hg⟩
 ·have F:Hid (pOps L=none/\w.grownBy w1 (some b)):=⟨by unfold pOps;rw [hx];rfl,grown_trans (grown_trans (World.grownBy_alloc _ _ _) (World.grownBy_alloc _ _ _)) hg⟩
  clear hx hg h
  unfold Pan
  go_wp2_with fail
  exact ⟨rfl,.inr ⟨F.out.1,rfl,F.out.2⟩⟩
 clear h
 obtain ⟨x,n,y,rfl,hn⟩:=ho.slice
 have hres:Blk w1 (w.heap.size+1) 35 #[.slice none 0 0]:=by
  have:=Blk.grown (heap_alloc_new (w.alloc (.cells #[.pointer (some ⟨b,0,none⟩)] 149)) (.cells #[.slice none 0 0] 35)) hg (fun e=>by simp at e;omega)
  simpa using this
 have F:Hid (pList pOp 16 L=some (l,M)/\OpsOwn w1 w.heap.size (.slice x n y) l/\RR w1 b M/\w.grownBy w1 (some b)/\n=l.length/\Blk w1 (w.heap.size+1) 35 #[.slice none 0 0]):=⟨hx,ho.mono (by simp;omega),hR,grown_trans (grown_trans (World.grownBy_alloc _ _ _) (World.grownBy_alloc _ _ _)) hg,hn,hres⟩
 have c0:=hres.cell 0
 have z0:=hres.free 0
 have hn2:n<=1099511627776:=by rw [hn];exact ho.2
 clear hx ho hR hg hn hres
 by_cases h0:n=0
 ·have HQ:Hid (pOps L=none):=by unfold pOps;rw [F.out.1];simp only [Option.bind_some];rw [if_pos (by rw [<-F.out.2.2.2.2.1];exact h0)];rfl
  subst h0
  go_wp2_with (go_at_call 110;refine (sure_no _ _).mono ?_;rintro e w2 ⟨rfl,hw2⟩;rw [hw2];clear hw2;unfold Pan)
  exact ⟨rfl,.inr ⟨HQ.out,rfl,F.out.2.2.2.1⟩⟩
 ·have i0:(0:Int)<(n:Int):=by omega
  have i1:0<n:=by omega
  have HQ:Hid (pOps L=some (l,M)):=by unfold pOps;rw [F.out.1];simp only [Option.bind_some];rw [if_neg (by rw [<-F.out.2.2.2.2.1];exact h0)];rfl
  have hb:=F.out.2.2.2.2.2.store 0 (.slice x n y)
  have HB:Hid _:=hb
  clear hb
  go_wp2_with (go_at_call 110;refine (sure_yes _ _).mono ?_;rintro e w2 ⟨rfl,hw2⟩;rw [hw2];clear hw2)
  refine bodyPost_ret (v:=_) (results_cell_row rfl _ _ (w.heap.size+1) 35 _ (0,0) _ rfl HB.out Tryz.underlying35 rfl (by kernel_rfl)) rfl ?_
  exact .inl ⟨l,M,_,HQ.out,rfl,⟨_,rfl,F.out.2.1.set F.out.2.2.2.2.2 (by decide) (by decide) (grown_setCell _ _ _ _)⟩,F.out.2.2.1.set F.out.2.2.2.2.2 (grown_setCell _ _ _ _) (by decide) (by decide),grown_new F.out.2.2.2.1 (grown_setCell _ _ _ _) (fun y hy=>by simp at hy;omega)⟩
theorem whole85 (p q:Nat)(v:Value)(L:Bs)(w:World)(hz:L.length<=140737488355328)(hp:w.cell? ⟨p,0,none⟩=some v)(hq:w.cell? ⟨q,0,none⟩=some (.func (.func 85) #[] #[]))(hs:Seg w v L) :
  Calls Tryz.prog 114 #[.pointer (some ⟨p,0,none⟩),.pointer (some ⟨q,0,none⟩)] w (Within w (fun u w'=>∃l x,pCall L=some l/\u=.agg #[x]/\OpsOwn w' w.heap.size x l) (fun c _=>pCall L=none/\c=4)):=by
 have HS:Hid (Seg w v L):=hs
 obtain ⟨x0,y0,e0⟩:=hs.shape
 obtain ⟨n0,hn0⟩:∃n,n=L.length:=⟨_,rfl⟩
 rw [<-hn0] at e0
 subst e0
 have kp:=fun o=>grown_fun (World.grownBy_alloc w o none) hp
 have HQ:Hid (w.cell? ⟨q,0,none⟩=some (.func (.func 85) #[] #[])):=hq
 clear hs hp hq hn0
 go_enter Tryz.func114,Tryz.ntmps114
 go_wp2_with (go_at_call 115;refine (open86 _ L _ (HS.out.grown (World.grownBy_alloc _ _ none)) hz).mono ?_)
 rintro e w1 ⟨b,rfl,hb,hR,hg⟩
 have hres:Blk w1 w.heap.size 35 #[.slice none 0 0]:=Blk.grown (heap_alloc_new w _) hg (by simp)
 have kq:=fun o=>grown_fun (World.grownBy_alloc w1 o none) (grown_fun (grown_trans (World.grownBy_alloc _ _ none) hg) HQ.out)
 have H1:Hid (RR (w1.alloc (.cells #[.pointer (some ⟨b,0,none⟩)] 149)) b L/\w.grownBy (w1.alloc (.cells #[.pointer (some ⟨b,0,none⟩)] 149)) none/\Blk (w1.alloc (.cells #[.pointer (some ⟨b,0,none⟩)] 149)) w.heap.size 35 #[.slice none 0 0]/\Blk (w1.alloc (.cells #[.pointer (some ⟨b,0,none⟩)] 149)) w1.heap.size 149 #[.pointer (some ⟨b,0,none⟩)]/\w.heap.size<b/\w.heap.size<w1.heap.size):=⟨hR.grown (World.grownBy_alloc _ _ none),grown_trans (grown_trans (World.grownBy_alloc _ _ none) hg) (World.grownBy_alloc _ _ none),hres.grown (World.grownBy_alloc _ _ none) (by simp),heap_alloc_new _ _,by simp at hb;omega,by have:=hg.size;simp at this;omega⟩
 clear hR hres hg kp hb
 go_wp2_with (go_at_call 85;refine (call48 b L _ hz H1.out.1).mono ?_)
 generalize (w1.alloc (.cells #[.pointer (some ⟨b,0,none⟩)] 149))=W1 at H1 ⊢
 intro e w2 h
 rcases h.symm with ⟨hx,rfl,hg⟩ | ⟨l,M,v,hx,rfl,⟨u,rfl,ho⟩,hR,hg⟩
 ·have F:Hid (pCall L=none/\w.grownBy w2 none):=⟨by rw [pCall_ops,hx];rfl,grown_new H1.out.2.1 hg (fun y hy=>by simp at hy;have:=H1.out.2.2.2.2.1;omega)⟩
  clear hx hg h
  unfold Pan
  go_wp2_with fail
  exact ⟨rfl,.inr ⟨4,rfl,⟨F.out.1,rfl⟩,F.out.2⟩⟩
 clear h
 obtain ⟨x,n,y,rfl,hn⟩:=ho.slice
 have hr2:Blk w2 w.heap.size 35 #[.slice none 0 0]:=H1.out.2.2.1.grown hg (fun e=>by simp at e;have:=H1.out.2.2.2.2.1;omega)
 have hx2:Blk w2 w1.heap.size 149 #[.pointer (some ⟨b,0,none⟩)]:=H1.out.2.2.2.1.grown hg (fun e=>by
  simp at e
  exact H1.out.1.ne H1.out.2.2.2.1 (by decide) e.symm)
 have F:Hid (pOps L=some (l,M)/\OpsOwn w2 w.heap.size (.slice x n y) l/\RR w2 b M/\w.grownBy w2 none/\Blk w2 w.heap.size 35 #[.slice none 0 0]):=⟨hx,ho.mono H1.out.2.1.size,hR,grown_new H1.out.2.1 hg (fun y hy=>by simp at hy;have:=H1.out.2.2.2.2.1;omega),hr2⟩
 have kx:=fun o=>grown_fun (World.grownBy_alloc w2 o none) (hx2.cell 0)
 have c0:=fun o=>grown_fun (World.grownBy_alloc w2 o none) (hr2.cell 0)
 have z0:=fun o=>(hr2.grown (World.grownBy_alloc w2 o none) (by simp)).free 0
 have HRR:=fun o=>F.out.2.2.1.grown (World.grownBy_alloc w2 o none)
 have HR2:Hid _:=HRR
 clear hx ho hR hg hn hr2 hx2 HRR
 by_cases hM:M=[]
 ·have HC:Hid (pCall L=some l):=by rw [pCall_ops,F.out.1];simp [hM,Hid]
  go_wp2_with (first | (go_at_call 116;refine (end87 b M _ (HR2.out _)).mono ?_;rintro e w3 ⟨rfl,hw3⟩;rw [hw3,if_pos hM];clear hw3) | (go_at_call 110;refine (sure_yes _ _).mono ?_;rintro e w3 ⟨rfl,hw3⟩;rw [hw3];clear hw3))
  have hb:=(F.out.2.2.2.2.grown (World.grownBy_alloc w2 (.cells #[.slice x n y] 35) none) (by simp)).store 0 (.slice x n y)
  refine bodyPost_ret (v:=_) (results_cell_row rfl _ _ w.heap.size 35 _ (0,0) _ rfl hb Tryz.underlying35 rfl (by kernel_rfl)) rfl ?_
  exact .inl ⟨_,rfl,⟨l,_,HC.out,rfl,(F.out.2.1.grown (World.grownBy_alloc _ _ none)).set (F.out.2.2.2.2.grown (World.grownBy_alloc _ _ none) (by simp)) (by decide) (by decide) (grown_setCell _ _ _ _)⟩,grown_new (grown_trans F.out.2.2.2.1 (World.grownBy_alloc _ _ none)) (grown_setCell _ _ _ _) (fun y hy=>by simp at hy;omega)⟩
 ·have HC:Hid (pCall L=none):=by rw [pCall_ops,F.out.1];simp [hM,Hid]
  go_wp2_with (first | (go_at_call 116;refine (end87 b M _ (HR2.out _)).mono ?_;rintro e w3 ⟨rfl,hw3⟩;rw [hw3,if_neg hM];clear hw3) | (go_at_call 110;refine (sure_no _ _).mono ?_;rintro e w3 ⟨rfl,hw3⟩;rw [hw3];clear hw3;unfold Pan))
  exact ⟨rfl,.inr ⟨4,rfl,⟨HC.out,rfl⟩,grown_trans F.out.2.2.2.1 (World.grownBy_alloc _ _ none)⟩⟩
def ReadPost (w:World)(r:List POp × Int)(e:Ending)(w':World):Prop:=∃u,e=.returned (.tuple #[.agg #[u],.int .i64 r.2])/\OpsOwn w' w.heap.size u r.1/\w.grownBy w' none
def rdRes (L:Bs):List POp × Int:=match pCall L with | some l=>(l,0) | none=>([],4)
theorem whole47 (v:Value)(L:Bs)(w:World)(hz:L.length<=140737488355328)(hs:Seg w v L) :
  Calls Tryz.prog 84 #[v,.func (.func 85) #[] #[]] w (ReadPost w (rdRes L)):=by
 have HS:Hid (Seg w v L):=hs
 obtain ⟨x0,y0,e0⟩:=hs.shape
 obtain ⟨n0,hn0⟩:∃n,n=L.length:=⟨_,rfl⟩
 rw [<-hn0] at e0
 subst e0
 have hmf:∀(fn:Fn) (first cap:Array Value) (w:World),(Instr.makeFunc fn first cap).run Tryz.prog w=.ok (.func fn first cap) w:=fun _ _ _ _=>rfl
 clear hs hn0
 obtain ⟨W,hW⟩:∃W,W=((w.alloc (.cells #[.slice x0 n0 y0] 41)).alloc (.cells #[.func (.func 85) #[] #[]] 146)).alloc (.cells #[.slice none 0 0] 35):=⟨_,rfl⟩
 have hgW:w.grownBy W none:=by rw [hW];exact grown3 _ _ _ _
 have k1:W.cell? ⟨w.heap.size,0,none⟩=some (.slice x0 n0 y0):=by rw [hW];simp [go_sem]
 have k2:W.cell? ⟨w.heap.size+1,0,none⟩=some (.func (.func 85) #[] #[]):=by rw [hW];simp [go_sem]
 have k3:Blk W (w.heap.size+1+1) 35 #[.slice none 0 0]:=by
  have:=heap_alloc_new ((w.alloc (.cells #[.slice x0 n0 y0] 41)).alloc (.cells #[.func (.func 85) #[] #[]] 146)) (.cells #[.slice none 0 0] 35)
  rw [hW]
  simpa [Blk] using this
 have hin:=whole85 w.heap.size (w.heap.size+1) (.slice x0 n0 y0) L ((W.alloc (.cells #[.slice none 0 0] 35)).alloc (.cells #[.int .i64 0] 28)) hz (grown_fun (grown_trans (World.grownBy_alloc _ _ none) (World.grownBy_alloc _ _ none)) k1) (grown_fun (grown_trans (World.grownBy_alloc _ _ none) (World.grownBy_alloc _ _ none)) k2) (HS.out.grown (grown_trans hgW (grown_trans (World.grownBy_alloc _ _ none) (World.grownBy_alloc _ _ none))))
 have HF:Hid _:=face51_85 _ _ W _ _ (by
  rintro u w1 ⟨l,x,_,rfl,ho⟩
  obtain ⟨a,n,c,rfl,_⟩:=ho.slice
  exact ⟨a,n,c,rfl⟩) (by
  rintro u w1 w2 b t c ⟨l,x,h1,h2,ho⟩ hb ht hg
  refine ⟨l,x,h1,h2,ho.set hb ?_ ?_ hg⟩ <;> omega) hin
 have HG:Hid (w.grownBy W none/\Blk W (w.heap.size+1+1) 35 #[.slice none 0 0]):=⟨hgW,k3⟩
 clear hin hgW k1 k2 k3
 go_enter Tryz.func84,Tryz.ntmps84
 go_wp2_with (go_at_call 113;rw [<-hW];refine Calls.mono HF.out ?_)
 rintro e w1 ⟨(⟨u,rfl,l,x,hx,rfl,ho⟩ | ⟨c,w2,rfl,hx,rfl⟩),hg⟩
 ·obtain ⟨a,n,y,rfl,hn⟩:=ho.slice
  have hb:Blk w1 (w.heap.size+1+1) 35 #[.slice none 0 0]:=HG.out.2.grown hg (by simp)
  have c0:=hb.cell 0
  have z0:=hb.free 0
  have F:Hid (rdRes L=(l,0)/\OpsOwn w1 w.heap.size (.slice a n y) l/\w.grownBy w1 none/\Blk w1 (w.heap.size+1+1) 35 #[.slice none 0 0]):=⟨by unfold rdRes;rw [hx],ho.mono (by have:=HG.out.1.size;simp;omega),grown_trans HG.out.1 hg,hb⟩
  clear hx ho hg hb HF hW hn
  go_wp2_with fail
  have hb2:=F.out.2.2.2.store 0 (.slice a n y)
  refine bodyPost_ret (v:=_) (results_row_tmp rfl _ _ (w.heap.size+1+1) _ rfl (run_loadVar_row _ (w.heap.size+1+1) 35 35 _ (0,0) _ hb2 Tryz.underlying35 rfl (by kernel_rfl))) rfl ?_
  exact ⟨_,by rw [F.out.1];rfl,by rw [F.out.1];exact F.out.2.1.set F.out.2.2.2 (by decide) (by decide) (grown_setCell _ _ _ _),grown_new F.out.2.2.1 (grown_setCell _ _ _ _) (fun y hy=>by simp at hy;omega)⟩
 ·have hb:Blk w1 (w.heap.size+1+1) 35 #[.slice none 0 0]:=HG.out.2.grown hg (by simp)
  have c0:=hb.cell 0
  have z0:=hb.free 0
  have F:Hid (rdRes L=([],4)/\w.grownBy w1 none/\Blk w1 (w.heap.size+1+1) 35 #[.slice none 0 0]):=⟨by unfold rdRes;rw [hx],grown_trans HG.out.1 hg,hb⟩
  clear hx hg hb HF hW
  go_wp2_with fail
  have hb2:=F.out.2.2.store 0 (.slice none 0 0)
  refine bodyPost_ret (v:=_) (results_row_tmp rfl _ _ (w.heap.size+1+1) _ rfl (run_loadVar_row _ (w.heap.size+1+1) 35 35 _ (0,0) _ hb2 Tryz.underlying35 rfl (by kernel_rfl))) rfl ?_
  exact ⟨_,by rw [F.out.1];rfl,by rw [F.out.1];exact ⟨lrow_nil _ _,by simp⟩,grown_new F.out.2.1 (grown_setCell _ _ _ _) (fun y hy=>by simp at hy;omega)⟩
theorem read22 (v:Value)(L:Bs)(w:World)(hz:L.length<=140737488355328)(hs:Seg w v L) :
  Calls Tryz.prog 58 #[v] w (ReadPost w (readC L)):=by
 have HS:Hid (Seg w v L):=hs
 obtain ⟨x0,y0,e0⟩:=hs.shape
 obtain ⟨n0,hn0⟩:∃n,n=L.length:=⟨_,rfl⟩
 rw [<-hn0] at e0
 subst e0
 have hn1:n0<=140737488355328:=by omega
 have HN:Hid (n0=L.length):=hn0
 clear hs hn0
 by_cases hle:n0<=4096
 ·have i1:¬(4096:Int)<(n0:Int):=by omega
  have HC:Hid (readC L=rdRes L):=by unfold readC rdRes;rw [if_pos (by rw [<-HN.out];exact hle)];rfl
  go_enter Tryz.func58,Tryz.ntmps58
  go_wp2_with (go_at_call 84;refine (whole47 _ L _ hz (HS.out.grown (World.grownBy_alloc _ _ none))).mono ?_)
  rintro e w1 ⟨u,rfl,ho,hg⟩
  obtain ⟨a,n,y,rfl,hn⟩:=ho.slice
  have hb:Blk w1 w.heap.size 35 #[.slice none 0 0]:=Blk.grown (heap_alloc_new w _) hg (by simp)
  have c0:=hb.cell 0
  have z0:=hb.free 0
  have F:Hid (OpsOwn w1 w.heap.size (.slice a n y) (rdRes L).1/\w.grownBy w1 none/\Blk w1 w.heap.size 35 #[.slice none 0 0]):=⟨ho.mono (by simp),grown_trans (World.grownBy_alloc _ _ none) hg,hb⟩
  clear ho hg hb hn
  go_wp2_with fail
  have hb2:=F.out.2.2.store 0 (.slice a n y)
  refine bodyPost_ret (v:=_) (results_row_tmp rfl _ _ w.heap.size _ rfl (run_loadVar_row _ w.heap.size 35 35 _ (0,0) _ hb2 Tryz.underlying35 rfl (by kernel_rfl))) rfl ?_
  exact ⟨_,by rw [HC.out];rfl,by rw [HC.out];exact F.out.1.set F.out.2.2 (by decide) (by decide) (grown_setCell _ _ _ _),grown_new F.out.2.1 (grown_setCell _ _ _ _) (fun y hy=>by simp at hy;omega)⟩
 ·have i1:(4096:Int)<(n0:Int):=by omega
  have HC:Hid (readC L=([],3)):=by unfold readC;rw [if_neg (by rw [<-HN.out];exact hle)];rfl
  go_enter Tryz.func58,Tryz.ntmps58
  go_wp2_with fail
  refine bodyPost_ret (v:=_) (results_row_tmp rfl _ _ w.heap.size _ rfl (run_loadVar_row _ w.heap.size 35 35 _ (0,0) _ (heap_alloc_new w _) Tryz.underlying35 rfl (by kernel_rfl))) rfl ?_
  exact ⟨_,by rw [HC.out];rfl,by rw [HC.out];exact ⟨lrow_nil _ _,by simp⟩,World.grownBy_alloc _ _ none⟩
end Go.Proofs.YtanoabliahcbeaaGreat.Calls
