import Derived.Test.YtakmlhhapegpoaaGreatCjAll
import Derived.Test.YtakmlhhapegpoaaGreatHm
import Derived.Deep.DeepCutAuto
set_option maxHeartbeats 16000000
set_option maxRecDepth 100000
namespace Go.Proofs.YtakmlhhapegpoaaGreat.Calls
open Go.RowKit Disk
open Names (Str)
theorem own_blk {w:World}{B:Nat}{v:Value}{L:List UInt8}(h:Disk.Own w B v L){k:Nat}(hk:v.ownBlock=some k):∃cur,Blk w k 5 cur:=by
 rcases h.2 with ⟨rfl,_⟩ | ⟨g,c,cur,e,hb,hg,_⟩
 ·simp [Value.ownBlock] at hk
 ·subst e
  simp [Value.ownBlock] at hk
  subst hk
  exact ⟨cur,hg⟩
def CutX (w:World)(B E:Nat)(v:Value)(n:Nat):Prop:=∃L:Bs,L.length=n/\Names.Cut w B v L/\∀k,v.ownBlock=some k->k<E
theorem CutX.grown {w w':World}{B E n:Nat}{v:Value}(h:CutX w B E v n)(hg:w.grownBy w' none):CutX w' B E v n:=by obtain ⟨L,h1,h2,h3⟩:=h;exact ⟨L,h1,h2.grown hg,h3⟩
theorem CutX.set {w w':World}{B E n x t:Nat}{v:Value}{c:Array Value}(h:CutX w B E v n)(hx:Blk w x t c)(ht:t≠5)(hg:w.grownBy w' (some x)):CutX w' B E v n:=by obtain ⟨L,h1,h2,h3⟩:=h;exact ⟨L,h1,cut_set h2 hx ht hg,h3⟩
theorem own_byte {w:World}{B:Nat}{v:Value}{L:Bs}(h:Disk.Own w B v L)(g j:Nat):∃M:Bs,M.length=L.length/\Disk.Own (w.setCell ⟨g,j,none⟩ (.int .u8 90)) B v M:=by
 rcases h.shape with ⟨rfl,rfl⟩ | ⟨q,cap,rfl,_,_⟩
 ·exact ⟨[],rfl,Disk.Own.nil _ _⟩
 ·by_cases e:q=g
  ·subst e
   exact ⟨L.set j 90,by simp,Names.own_store h j 90 90 rfl⟩
  ·refine ⟨L,rfl,h.same fun k hk=>heap_setCell_other w ⟨g,j,none⟩ k _ (fun e2=>?_)⟩
   simp [Value.ownBlock] at hk
   simp at e2
   omega
theorem CutX.byte {w:World}{B E n:Nat}{v:Value}(h:CutX w B E v n)(g j:Nat):CutX (w.setCell ⟨g,j,none⟩ (.int .u8 90)) B E v n:=by
 obtain ⟨L,h1,h2,h3⟩:=h
 rcases h2 with h2 | ⟨q,cap,rfl,h2⟩
 ·obtain ⟨M,e,ho⟩:=own_byte h2 g j
  exact ⟨M,by omega,.inl ho,h3⟩
 ·obtain ⟨M,e,ho⟩:=own_byte h2 g j
  exact ⟨M,by omega,.inr ⟨q,cap,by rw [e],by rw [e];exact ho⟩,h3⟩
theorem CutX.cell {w:World}{B E n y k:Nat}{x:Option Addr}(h:CutX w B E (.slice x n y) n)(hk:k<n):∃g c0 cc,x=some ⟨g,0,none⟩/\w.cell? ⟨g,k,none⟩=some c0/\w.frozen? ⟨g,k,none⟩=false/\B<=g/\g<E/\Blk w g 5 cc/\noP c0:=by
 obtain ⟨L,h1,h2,h3⟩:=h
 rcases h2 with h2 | ⟨q,cap,e,h2⟩
 ·rcases h2.shape with ⟨e,e2⟩ | ⟨g,cap,e,hB,_⟩
  ·simp at e;omega
  ·simp at e
   obtain ⟨rfl,_,rfl⟩:=e
   have hc:=Names.own_cell h2 k (by omega)
   obtain ⟨cc,hcc⟩:=own_blk h2 (k:=g) (by simp [Value.ownBlock])
   exact ⟨g,_,cc,rfl,hc.1,hc.2,hB,h3 g (by simp [Value.ownBlock]),hcc,fun p=>by simp [Table.ptr]⟩
 ·simp at e
  obtain ⟨rfl,_,_⟩:=e
  have hc:=Names.own_cell h2 k (by omega)
  obtain ⟨cc,hcc⟩:=own_blk h2 (k:=q) (by simp [Value.ownBlock])
  exact ⟨q,_,cc,rfl,hc.1,hc.2,(h2.lt q (by simp [Value.ownBlock])).1,h3 q (by simp [Value.ownBlock]),hcc,fun p=>by simp [Table.ptr]⟩
theorem CutX.len {w:World}{B E n:Nat}{v:Value}(h:CutX w B E v n):n<=9223372036854775807:=by obtain ⟨L,h1,h2,_⟩:=h;rw [<-h1];exact h2.seg.len
def SpOp (w:World)(B E g p:Nat):Prop:=∃(i0:Int) (s1:ByteArray) (x1 x2 x3 x4:Option Addr) (n1 n2 n3 n4 y1 y2 y3 y4:Nat) (bb:Bool) (i7:Int),
 (w.cell? ⟨g,p,none⟩=some (.int .i64 i0)/\w.cell? ⟨g,p+1,none⟩=some (.string s1)/\w.cell? ⟨g,p+2,none⟩=some (.slice x1 n1 y1)/\w.cell? ⟨g,p+3,none⟩=some (.slice x2 n2 y2)/\w.cell? ⟨g,p+4,none⟩=some (.bool bb)/\w.cell? ⟨g,p+5,none⟩=some (.slice x3 n3 y3)/\w.cell? ⟨g,p+6,none⟩=some (.slice x4 n4 y4)/\w.cell? ⟨g,p+7,none⟩=some (.int .i64 i7)) ∧
 CutX w B E (.slice x1 n1 y1) n1/\CutX w B E (.slice x2 n2 y2) n2/\CutX w B E (.slice x3 n3 y3) n3/\CutX w B E (.slice x4 n4 y4) n4
def SpF (w0 w:World)(B E g n:Nat):Prop:=Fr w0 w (fun i=>B<=i/\i<E)/\Sp5 (fun i=>B<=i/\i<E) w0 w/\∀p,p<n*8->∃u,w.cell? ⟨g,p,none⟩=some u/\noP u
theorem spop_cell {w:World}{B E g p:Nat}(h:SpOp w B E g p)(r:Nat)(hr:r<8):∃u,w.cell? ⟨g,p+r,none⟩=some u/\noP u:=by
 obtain ⟨i0,s1,x1,x2,x3,x4,n1,n2,n3,n4,y1,y2,y3,y4,bb,i7,⟨c0,c1,c2,c3,c4,c5,c6,c7⟩,_⟩:=h
 match r,hr with
 | 0,_=>exact ⟨_,c0,fun p=>by simp [Table.ptr]⟩
 | 1,_=>exact ⟨_,c1,fun p=>by simp [Table.ptr]⟩
 | 2,_=>exact ⟨_,c2,fun p=>by simp [Table.ptr]⟩
 | 3,_=>exact ⟨_,c3,fun p=>by simp [Table.ptr]⟩
 | 4,_=>exact ⟨_,c4,fun p=>by simp [Table.ptr]⟩
 | 5,_=>exact ⟨_,c5,fun p=>by simp [Table.ptr]⟩
 | 6,_=>exact ⟨_,c6,fun p=>by simp [Table.ptr]⟩
 | 7,_=>exact ⟨_,c7,fun p=>by simp [Table.ptr]⟩
def SpSt (w0 w:World)(B E g n k:Nat):Prop:=(∀j,k<=j->j<n->SpOp w B E g (j*8))/\(∃cur,Blk w g 67 cur/\n*8<=cur.size)/\B<=g/\g<E/\E<=w0.heap.size/\SpF w0 w B E g n
theorem SpSt.grown {w0 w w':World}{B E g n k:Nat}(h:SpSt w0 w B E g n k)(hg:w.grownBy w' none):SpSt w0 w' B E g n k:=by
 obtain ⟨h1,⟨cur,h2,h3⟩,h4,h5,h6,h7⟩:=h
 refine ⟨fun j hj hn=>?_,⟨cur,h2.grown hg (by simp),h3⟩,h4,h5,h6,h7.1.trans (Fr.of (F:=fun i=>B<=i/\i<E) hg (fun k hk=>by cases hk)) (fun i hi=>Or.inl hi),h7.2.1.trans (sp5_grown hg),fun p hp=>by obtain ⟨u,hu,hn⟩:=h7.2.2 p hp;exact ⟨u,grown_fun hg hu,hn⟩⟩
 obtain ⟨i0,s1,x1,x2,x3,x4,n1,n2,n3,n4,y1,y2,y3,y4,bb,i7,⟨c0,c1,c2,c3,c4,c5,c6,c7⟩,q1,q2,q3,q4⟩:=h1 j hj hn
 exact ⟨i0,s1,x1,x2,x3,x4,n1,n2,n3,n4,y1,y2,y3,y4,bb,i7,⟨grown_fun hg c0,grown_fun hg c1,grown_fun hg c2,grown_fun hg c3,grown_fun hg c4,grown_fun hg c5,grown_fun hg c6,grown_fun hg c7⟩,q1.grown hg,q2.grown hg,q3.grown hg,q4.grown hg⟩
theorem SpSt.byte {w0 w:World}{B E g n k h j:Nat}{cc:Array Value}{c0:Value}(hs:SpSt w0 w B E g n k)(hb:Blk w h 5 cc)(h1:B<=h)(h2:h<E)(hc0:w.cell? ⟨h,j,none⟩=some c0)(hn0:noP c0):SpSt w0 (w.setCell ⟨h,j,none⟩ (.int .u8 90)) B E g n k:=by
 obtain ⟨s1,⟨cur,s2,s3⟩,s4,s5,s6,s7⟩:=hs
 have ne:h≠g:=fun e=>by subst e;unfold Blk at hb s2;rw [hb] at s2;simp at s2
 have hg:=grown_setCell w h j (.int .u8 90)
 have kp:∀{p:Nat} {v:Value},w.cell? ⟨g,p,none⟩=some v->(w.setCell ⟨h,j,none⟩ (.int .u8 90)).cell? ⟨g,p,none⟩=some v:=fun hc=>hg.cell hc (by simp;exact fun e=>ne e.symm)
 refine ⟨fun i hi hn=>?_,⟨cur,s2.grown hg (by simp;exact ne),s3⟩,s4,s5,s6,s7.1.trans (Fr.of (F:=fun i=>i=h) hg (fun k hk=>by simp at hk;exact hk.symm)) (fun i hi=>Or.inl (by rw [hi];exact ⟨h1,h2⟩)),s7.2.1.trans (sp5_store hb (.inl ⟨rfl,h1,h2⟩) hc0 hn0),fun p hp=>by obtain ⟨u,hu,hn⟩:=s7.2.2 p hp;exact ⟨u,kp hu,hn⟩⟩
 obtain ⟨i0,t1,x1,x2,x3,x4,n1,n2,n3,n4,y1,y2,y3,y4,bb,i7,⟨c0,c1,c2,c3,c4,c5,c6,c7⟩,q1,q2,q3,q4⟩:=s1 i hi hn
 exact ⟨i0,t1,x1,x2,x3,x4,n1,n2,n3,n4,y1,y2,y3,y4,bb,i7,⟨kp c0,kp c1,kp c2,kp c3,kp c4,kp c5,kp c6,kp c7⟩,q1.byte h j,q2.byte h j,q3.byte h j,q4.byte h j⟩
theorem SpSt.put {w0 w:World}{B E g n k q:Nat}{v:Value}(hs:SpSt w0 w B E g n (k+1))(hq:q<(k+1)*8)(hv:noP v)(hqn:q<n*8):SpSt w0 (w.setCell ⟨g,q,none⟩ v) B E g n (k+1):=by
 obtain ⟨s1,⟨cur,s2,s3⟩,s4,s5,s6,s7⟩:=hs
 have hg:=grown_setCell w g q v
 have kp:∀{p:Nat} {u:Value},w.cell? ⟨g,p,none⟩=some u->p≠q->(w.setCell ⟨g,q,none⟩ v).cell? ⟨g,p,none⟩=some u:=fun {p u} hc hp=>by
  rw [(s2.store q v).cell p,Array.getElem?_setIfInBounds,if_neg (fun e=>hp e.symm),<-s2.cell p]
  exact hc
 refine ⟨fun i hi hn=>?_,⟨_,s2.store q v,by simpa using s3⟩,s4,s5,s6,s7.1.trans (Fr.of (F:=fun i=>i=g) hg (fun k hk=>by simp at hk;exact hk.symm)) (fun i hi=>Or.inl (by rw [hi];exact ⟨s4,s5⟩)),(by obtain ⟨u,hu,hn⟩:=s7.2.2 q hqn;exact s7.2.1.trans (sp5_store s2 (.inr (.inl rfl)) hu hn)),fun p hp=>?_⟩
 ·obtain ⟨i0,t1,x1,x2,x3,x4,n1,n2,n3,n4,y1,y2,y3,y4,bb,i7,⟨c0,c1,c2,c3,c4,c5,c6,c7⟩,q1,q2,q3,q4⟩:=s1 i hi hn
  have hm:(k+1)*8<=i*8:=Nat.mul_le_mul_right 8 hi
  exact ⟨i0,t1,x1,x2,x3,x4,n1,n2,n3,n4,y1,y2,y3,y4,bb,i7,⟨kp c0 (by omega),kp c1 (by omega),kp c2 (by omega),kp c3 (by omega),kp c4 (by omega),kp c5 (by omega),kp c6 (by omega),kp c7 (by omega)⟩,q1.set s2 (by decide) hg,q2.set s2 (by decide) hg,q3.set s2 (by decide) hg,q4.set s2 (by decide) hg⟩
 ·by_cases e:p=q
  ·subst e
   refine ⟨v,?_,hv⟩
   rw [(s2.store p v).cell p,Array.getElem?_setIfInBounds,if_pos rfl,if_pos (by omega)]
  ·obtain ⟨u,hu,hn⟩:=s7.2.2 p hp
   exact ⟨u,kp hu e,hn⟩
theorem SpSt.next {w0 w:World}{B E g n k:Nat}(hs:SpSt w0 w B E g n k):SpSt w0 w B E g n (k+1):=⟨fun j hj hn=>hs.1 j (by omega) hn,hs.2⟩
theorem SpSt.free {w0 w:World}{B E g n k p:Nat}(hs:SpSt w0 w B E g n k)(hp:p<n*8):(∃v,w.cell? ⟨g,p,none⟩=some v)/\w.frozen? ⟨g,p,none⟩=false:=by
 obtain ⟨_,⟨cur,s2,s3⟩,_⟩:=hs
 refine ⟨⟨cur[p]'(by omega),?_⟩,s2.free p⟩
 rw [s2.cell p]
 exact Array.getElem?_eq_getElem (by omega)
theorem spst_of {wE w0:World}{B:Nat}{v:Value}{l:List POp}(h:OpsOwn wE B v l)(hg:wE.grownBy w0 none)(h0:l≠[]):∃g cap,v=.slice (some ⟨g,0,none⟩) l.length cap/\SpSt w0 w0 B wE.heap.size g l.length 0:=by
 have hrow:=h.1
 have hcells:=fun j hj=>LRow.cell h.1 j hj
 obtain ⟨vs,r1,r2,r3,r4⟩:=hrow
 have hlt:=fun k hk=>World.ownsRow.lt r1 k hk
 rcases r1.2 with ⟨_,e⟩ | ⟨g,cap,cur,rfl,hb,hgk,q1,q2,q3,q4⟩
 ·exact absurd (List.length_eq_zero_iff.1 e) h0
 ·have hgE:g<wE.heap.size:=(hlt g (by simp [Value.ownBlock])).2
  have hblk:Blk wE g 67 cur:=hgk
  have hop:∀j,j<l.length->SpOp w0 B wE.heap.size g (j*8):=fun j hj=>by
   obtain ⟨g',cap',cs,e2,hlen,⟨k,v',ol,t,rfl,ho⟩,_,_,hc⟩:=hcells j hj
   simp at e2
   obtain ⟨rfl,_⟩:=e2
   have cx:∀{x:Value} {L:Bs},Names.Cut wE B x L->∃a n y,x=.slice a n y/\CutX w0 B wE.heap.size (.slice a n y) n:=fun {x L} hx=>by
    obtain ⟨a,y,e⟩:=hx.seg.shape
    exact ⟨a,L.length,y,e,L,rfl,by rw [<-e];exact hx.grown hg,fun k hk=>by rw [<-e] at hk;exact (hx.lt k hk).2⟩
   obtain ⟨x1,n1,y1,e1,k1⟩:=cx ho.key
   obtain ⟨x2,n2,y2,e3,k2⟩:=cx ho.value
   obtain ⟨x3,n3,y3,e4,k3⟩:=cx ho.old
   obtain ⟨x4,n4,y4,e5,k4⟩:=cx ho.tos
   subst e1 e3 e4 e5
   exact ⟨_,_,x1,x2,x3,x4,n1,n2,n3,n4,y1,y2,y3,y4,_,_,⟨grown_fun hg (hc 0 (by omega)),grown_fun hg (hc 1 (by omega)),grown_fun hg (hc 2 (by omega)),grown_fun hg (hc 3 (by omega)),grown_fun hg (hc 4 (by omega)),grown_fun hg (hc 5 (by omega)),grown_fun hg (hc 6 (by omega)),grown_fun hg (hc 7 (by omega))⟩,k1,k2,k3,k4⟩
  refine ⟨g,cap,rfl,fun j _ hj=>hop j hj,⟨cur,hblk.grown hg (by simp),?_⟩,hb,hgE,hg.size,Fr.of (grown_refl w0 none) (fun k hk=>by cases hk),Sp5.refl _ _,fun p hp=>?_⟩
  ·have:l.length*8<=cap*8:=Nat.mul_le_mul_right 8 q1
   omega
  ·have:=spop_cell (hop (p / 8) (by omega)) (p % 8) (Nat.mod_lt _ (by decide))
   rw [show p / 8*8+p % 8=p by omega] at this
   exact this
theorem idx93_0 (s1 s2 s3 s4:Value)(w:World):(Instr.index 118 (.agg #[s1,s2,s3,s4]) (.int .i64 0)).run Tryz.prog w=.ok s1 w:=by kernel_rfl
theorem idx93_1 (s1 s2 s3 s4:Value)(w:World):(Instr.index 118 (.agg #[s1,s2,s3,s4]) (.int .i64 1)).run Tryz.prog w=.ok s2 w:=by kernel_rfl
theorem idx93_2 (s1 s2 s3 s4:Value)(w:World):(Instr.index 118 (.agg #[s1,s2,s3,s4]) (.int .i64 2)).run Tryz.prog w=.ok s3 w:=by kernel_rfl
theorem idx93_3 (s1 s2 s3 s4:Value)(w:World):(Instr.index 118 (.agg #[s1,s2,s3,s4]) (.int .i64 3)).run Tryz.prog w=.ok s4 w:=by kernel_rfl
theorem spoil24 (v:Value)(l:List POp)(B:Nat)(wE w:World)(h:OpsOwn wE B v l)(hg:wE.grownBy w none):Calls Tryz.prog 36 #[.agg #[v]] w fun e w'=>e=.returned (.tuple #[])/\Fr w w' (fun i=>B<=i/\i<wE.heap.size)/\Sp5 (fun i=>B<=i/\i<wE.heap.size) w w':=by
 obtain ⟨E,hEE⟩:∃E,wE.heap.size=E:=⟨_,rfl⟩
 by_cases h0:l=[]
 case pos =>
  subst h0
  obtain ⟨x,y,e⟩:=h.1.shape
  subst e
  clear h hg hEE
  simp only [List.length_nil]
  go_enter Tryz.func36,Tryz.ntmps36
  go_wp2_with fail
  go_loopw [2] (fun i wr=>i=.int .i64 0/\Hid (Blk wr w.heap.size 37 #[.slice x 0 y]/\w.grownBy wr none)) (fun _ _=>0)
  case atStart=>exact ⟨rfl,heap_alloc_new w _,World.grownBy_alloc _ _ none⟩
  case round =>
   obtain ⟨rfl,HR⟩:=hrel
   have cc:=HR.out.1.cell 0
   go_wp2_with fail
   go_end0
   exact ⟨rfl,Fr.of HR.out.2 (fun k hk=>by cases hk),sp5_grown HR.out.2⟩
 obtain ⟨g,cap,rfl,hst⟩:=spst_of h hg h0
 obtain ⟨n,hn⟩:∃n,l.length=n:=⟨_,rfl⟩
 rw [hn,hEE] at hst
 rw [hn,hEE]
 have hl:=h.2
 rw [hn] at hl
 clear h hg hn hEE h0
 have H0:Hid (SpSt w w B E g n 0):=hst
 clear hst
 go_enter Tryz.func36,Tryz.ntmps36
 go_wp2_with fail
 go_loopw [2] (fun i wr=>∃k:Nat,k<=n/\i=.int .i64 k/\Hid (SpSt w wr B E g n k/\Blk wr w.heap.size 37 #[.slice (some ⟨g,0,none⟩) n cap])) (fun i _=>n-(intOf i).toNat)
 case atStart=>exact ⟨0,by omega,rfl,H0.out.grown (World.grownBy_alloc _ _ none),heap_alloc_new w _⟩
 case round =>
  obtain ⟨k,hk,rfl,HR⟩:=hrel
  have cc:=HR.out.2.cell 0
  by_cases hlt:k<n
  ·have i0:(0:Int)<=(k:Int):=by omega
   have i1:(k:Int)<(n:Int):=by omega
   obtain ⟨a0,s1,x1,x2,x3,x4,n1,n2,n3,n4,y1,y2,y3,y4,bb,a7,⟨c0,c1,c2,c3,c4,c5,c6,c7⟩,q1,q2,q3,q4⟩:=HR.out.1.1 k (Nat.le_refl _) hlt
   have HQ:Hid (CutX wr B E (.slice x1 n1 y1) n1/\CutX wr B E (.slice x2 n2 y2) n2/\CutX wr B E (.slice x3 n3 y3) n3/\CutX wr B E (.slice x4 n4 y4) n4):=⟨q1,q2,q3,q4⟩
   clear q1 q2 q3 q4
   have G0:Hid ((SpSt w (wr.alloc (.cells #[.int .i64 a0,.string s1,.slice x1 n1 y1,.slice x2 n2 y2,.bool bb,.slice x3 n3 y3,.slice x4 n4 y4,.int .i64 a7] 67)) B E g n k/\Blk (wr.alloc (.cells #[.int .i64 a0,.string s1,.slice x1 n1 y1,.slice x2 n2 y2,.bool bb,.slice x3 n3 y3,.slice x4 n4 y4,.int .i64 a7] 67)) w.heap.size 37 #[.slice (some ⟨g,0,none⟩) n cap])/\CutX (wr.alloc (.cells #[.int .i64 a0,.string s1,.slice x1 n1 y1,.slice x2 n2 y2,.bool bb,.slice x3 n3 y3,.slice x4 n4 y4,.int .i64 a7] 67)) B E (.slice x1 n1 y1) n1/\CutX (wr.alloc (.cells #[.int .i64 a0,.string s1,.slice x1 n1 y1,.slice x2 n2 y2,.bool bb,.slice x3 n3 y3,.slice x4 n4 y4,.int .i64 a7] 67)) B E (.slice x2 n2 y2) n2/\CutX (wr.alloc (.cells #[.int .i64 a0,.string s1,.slice x1 n1 y1,.slice x2 n2 y2,.bool bb,.slice x3 n3 y3,.slice x4 n4 y4,.int .i64 a7] 67)) B E (.slice x3 n3 y3) n3/\CutX (wr.alloc (.cells #[.int .i64 a0,.string s1,.slice x1 n1 y1,.slice x2 n2 y2,.bool bb,.slice x3 n3 y3,.slice x4 n4 y4,.int .i64 a7] 67)) B E (.slice x4 n4 y4) n4):=by
    have hg:=World.grownBy_alloc wr (.cells #[.int .i64 a0,.string s1,.slice x1 n1 y1,.slice x2 n2 y2,.bool bb,.slice x3 n3 y3,.slice x4 n4 y4,.int .i64 a7] 67) none
    exact ⟨⟨HR.out.1.grown hg,HR.out.2.grown hg (by simp)⟩,HQ.out.1.grown hg,HQ.out.2.1.grown hg,HQ.out.2.2.1.grown hg,HQ.out.2.2.2.grown hg⟩
   go_wp2_with fail
   clear cc c0 c1 c2 c3 c4 c5 c6 c7 HQ HR
   go_loopw [28] (fun i wv=>∃k2:Nat,k2<=4/\i=.int .i64 k2/\Hid ((SpSt w wv B E g n k/\Blk wv w.heap.size 37 #[.slice (some ⟨g,0,none⟩) n cap])/\CutX wv B E (.slice x1 n1 y1) n1/\CutX wv B E (.slice x2 n2 y2) n2/\CutX wv B E (.slice x3 n3 y3) n3/\CutX wv B E (.slice x4 n4 y4) n4)) (fun i _=>4-(intOf i).toNat)
   case atStart=>exact ⟨0,by omega,rfl,G0⟩
   case round =>
    obtain ⟨k2,hk2,rfl,HV⟩:=hrel
    clear G0
    by_cases hlt2:k2<4
    ·have h4:k2=0\/k2=1\/k2=2\/k2=3:=by omega
     rcases h4 with rfl | rfl | rfl | rfl
     ·have lz:=HV.out.2.1.len
      have ix:=fun wk=>idx93_0 (.slice x1 n1 y1) (.slice x2 n2 y2) (.slice x3 n3 y3) (.slice x4 n4 y4) wk
      go_wp2_with fail
      clear ix
      go_loopw [6] (fun i wz=>∃k3:Nat,k3<=n1/\i=.int .i64 k3/\Hid ((SpSt w wz B E g n k/\Blk wz w.heap.size 37 #[.slice (some ⟨g,0,none⟩) n cap])/\CutX wz B E (.slice x1 n1 y1) n1/\CutX wz B E (.slice x2 n2 y2) n2/\CutX wz B E (.slice x3 n3 y3) n3/\CutX wz B E (.slice x4 n4 y4) n4)) (fun i _=>n1-(intOf i).toNat)
      case atStart=>exact ⟨0,by omega,rfl,HV⟩
      case round =>
       obtain ⟨k3,hk3,rfl,HZ⟩:=hrel
       clear HV
       by_cases hlt3:k3<n1
       ·have j0:(0:Int)<=(k3:Int):=by omega
        have j1:(k3:Int)<(n1:Int):=by omega
        obtain ⟨h,d0,dc,hx,e1,e2,hB,hE,hbk,hnp⟩:=CutX.cell HZ.out.2.1 hlt3
        subst hx
        have HZ2:Hid ((SpSt w (wr.setCell ⟨h,k3,none⟩ (.int .u8 90)) B E g n k/\Blk (wr.setCell ⟨h,k3,none⟩ (.int .u8 90)) w.heap.size 37 #[.slice (some ⟨g,0,none⟩) n cap])/\CutX (wr.setCell ⟨h,k3,none⟩ (.int .u8 90)) B E (.slice (some ⟨h,0,none⟩) n1 y1) n1/\CutX (wr.setCell ⟨h,k3,none⟩ (.int .u8 90)) B E (.slice x2 n2 y2) n2/\CutX (wr.setCell ⟨h,k3,none⟩ (.int .u8 90)) B E (.slice x3 n3 y3) n3/\CutX (wr.setCell ⟨h,k3,none⟩ (.int .u8 90)) B E (.slice x4 n4 y4) n4):=by
         have hg:=grown_setCell wr h k3 (.int .u8 90)
         have hne:w.heap.size≠h:=by have h1:=HZ.out.1.1.2.2.2.2.1;omega
         exact ⟨⟨HZ.out.1.1.byte hbk hB hE e1 hnp,HZ.out.1.2.grown hg (by simp;exact fun e=>hne e.symm)⟩,HZ.out.2.1.byte h k3,HZ.out.2.2.1.byte h k3,HZ.out.2.2.2.1.byte h k3,HZ.out.2.2.2.2.byte h k3⟩
        clear hbk hnp
        go_wp2_with fail
        go_roundw
        case rel=>exact ⟨k3+1,by omega,by go_num,HZ2⟩
        case measure=>simp [intOf];omega
       ·have j1:((k3:Int)<(n1:Int))=False:=eq_false (by omega)
        go_wp2_with fail
        go_roundw
        case rel=>exact ⟨0+1,by omega,by first | rfl | go_num,HZ⟩
        case measure=>simp [intOf]
     ·have lz:=HV.out.2.2.1.len
      have ix:=fun wk=>idx93_1 (.slice x1 n1 y1) (.slice x2 n2 y2) (.slice x3 n3 y3) (.slice x4 n4 y4) wk
      go_wp2_with fail
      clear ix
      go_loopw [6] (fun i wz=>∃k3:Nat,k3<=n2/\i=.int .i64 k3/\Hid ((SpSt w wz B E g n k/\Blk wz w.heap.size 37 #[.slice (some ⟨g,0,none⟩) n cap])/\CutX wz B E (.slice x1 n1 y1) n1/\CutX wz B E (.slice x2 n2 y2) n2/\CutX wz B E (.slice x3 n3 y3) n3/\CutX wz B E (.slice x4 n4 y4) n4)) (fun i _=>n2-(intOf i).toNat)
      case atStart=>exact ⟨0,by omega,rfl,HV⟩
      case round =>
       obtain ⟨k3,hk3,rfl,HZ⟩:=hrel
       clear HV
       by_cases hlt3:k3<n2
       ·have j0:(0:Int)<=(k3:Int):=by omega
        have j1:(k3:Int)<(n2:Int):=by omega
        obtain ⟨h,d0,dc,hx,e1,e2,hB,hE,hbk,hnp⟩:=CutX.cell HZ.out.2.2.1 hlt3
        subst hx
        have HZ2:Hid ((SpSt w (wr.setCell ⟨h,k3,none⟩ (.int .u8 90)) B E g n k/\Blk (wr.setCell ⟨h,k3,none⟩ (.int .u8 90)) w.heap.size 37 #[.slice (some ⟨g,0,none⟩) n cap])/\CutX (wr.setCell ⟨h,k3,none⟩ (.int .u8 90)) B E (.slice x1 n1 y1) n1/\CutX (wr.setCell ⟨h,k3,none⟩ (.int .u8 90)) B E (.slice (some ⟨h,0,none⟩) n2 y2) n2/\CutX (wr.setCell ⟨h,k3,none⟩ (.int .u8 90)) B E (.slice x3 n3 y3) n3/\CutX (wr.setCell ⟨h,k3,none⟩ (.int .u8 90)) B E (.slice x4 n4 y4) n4):=by
         have hg:=grown_setCell wr h k3 (.int .u8 90)
         have hne:w.heap.size≠h:=by have h1:=HZ.out.1.1.2.2.2.2.1;omega
         exact ⟨⟨HZ.out.1.1.byte hbk hB hE e1 hnp,HZ.out.1.2.grown hg (by simp;exact fun e=>hne e.symm)⟩,HZ.out.2.1.byte h k3,HZ.out.2.2.1.byte h k3,HZ.out.2.2.2.1.byte h k3,HZ.out.2.2.2.2.byte h k3⟩
        clear hbk hnp
        go_wp2_with fail
        go_roundw
        case rel=>exact ⟨k3+1,by omega,by go_num,HZ2⟩
        case measure=>simp [intOf];omega
       ·have j1:((k3:Int)<(n2:Int))=False:=eq_false (by omega)
        go_wp2_with fail
        go_roundw
        case rel=>exact ⟨1+1,by omega,by first | rfl | go_num,HZ⟩
        case measure=>simp [intOf]
     ·have lz:=HV.out.2.2.2.1.len
      have ix:=fun wk=>idx93_2 (.slice x1 n1 y1) (.slice x2 n2 y2) (.slice x3 n3 y3) (.slice x4 n4 y4) wk
      go_wp2_with fail
      clear ix
      go_loopw [6] (fun i wz=>∃k3:Nat,k3<=n3/\i=.int .i64 k3/\Hid ((SpSt w wz B E g n k/\Blk wz w.heap.size 37 #[.slice (some ⟨g,0,none⟩) n cap])/\CutX wz B E (.slice x1 n1 y1) n1/\CutX wz B E (.slice x2 n2 y2) n2/\CutX wz B E (.slice x3 n3 y3) n3/\CutX wz B E (.slice x4 n4 y4) n4)) (fun i _=>n3-(intOf i).toNat)
      case atStart=>exact ⟨0,by omega,rfl,HV⟩
      case round =>
       obtain ⟨k3,hk3,rfl,HZ⟩:=hrel
       clear HV
       by_cases hlt3:k3<n3
       ·have j0:(0:Int)<=(k3:Int):=by omega
        have j1:(k3:Int)<(n3:Int):=by omega
        obtain ⟨h,d0,dc,hx,e1,e2,hB,hE,hbk,hnp⟩:=CutX.cell HZ.out.2.2.2.1 hlt3
        subst hx
        have HZ2:Hid ((SpSt w (wr.setCell ⟨h,k3,none⟩ (.int .u8 90)) B E g n k/\Blk (wr.setCell ⟨h,k3,none⟩ (.int .u8 90)) w.heap.size 37 #[.slice (some ⟨g,0,none⟩) n cap])/\CutX (wr.setCell ⟨h,k3,none⟩ (.int .u8 90)) B E (.slice x1 n1 y1) n1/\CutX (wr.setCell ⟨h,k3,none⟩ (.int .u8 90)) B E (.slice x2 n2 y2) n2/\CutX (wr.setCell ⟨h,k3,none⟩ (.int .u8 90)) B E (.slice (some ⟨h,0,none⟩) n3 y3) n3/\CutX (wr.setCell ⟨h,k3,none⟩ (.int .u8 90)) B E (.slice x4 n4 y4) n4):=by
         have hg:=grown_setCell wr h k3 (.int .u8 90)
         have hne:w.heap.size≠h:=by have h1:=HZ.out.1.1.2.2.2.2.1;omega
         exact ⟨⟨HZ.out.1.1.byte hbk hB hE e1 hnp,HZ.out.1.2.grown hg (by simp;exact fun e=>hne e.symm)⟩,HZ.out.2.1.byte h k3,HZ.out.2.2.1.byte h k3,HZ.out.2.2.2.1.byte h k3,HZ.out.2.2.2.2.byte h k3⟩
        clear hbk hnp
        go_wp2_with fail
        go_roundw
        case rel=>exact ⟨k3+1,by omega,by go_num,HZ2⟩
        case measure=>simp [intOf];omega
       ·have j1:((k3:Int)<(n3:Int))=False:=eq_false (by omega)
        go_wp2_with fail
        go_roundw
        case rel=>exact ⟨2+1,by omega,by first | rfl | go_num,HZ⟩
        case measure=>simp [intOf]
     ·have lz:=HV.out.2.2.2.2.len
      have ix:=fun wk=>idx93_3 (.slice x1 n1 y1) (.slice x2 n2 y2) (.slice x3 n3 y3) (.slice x4 n4 y4) wk
      go_wp2_with fail
      clear ix
      go_loopw [6] (fun i wz=>∃k3:Nat,k3<=n4/\i=.int .i64 k3/\Hid ((SpSt w wz B E g n k/\Blk wz w.heap.size 37 #[.slice (some ⟨g,0,none⟩) n cap])/\CutX wz B E (.slice x1 n1 y1) n1/\CutX wz B E (.slice x2 n2 y2) n2/\CutX wz B E (.slice x3 n3 y3) n3/\CutX wz B E (.slice x4 n4 y4) n4)) (fun i _=>n4-(intOf i).toNat)
      case atStart=>exact ⟨0,by omega,rfl,HV⟩
      case round =>
       obtain ⟨k3,hk3,rfl,HZ⟩:=hrel
       clear HV
       by_cases hlt3:k3<n4
       ·have j0:(0:Int)<=(k3:Int):=by omega
        have j1:(k3:Int)<(n4:Int):=by omega
        obtain ⟨h,d0,dc,hx,e1,e2,hB,hE,hbk,hnp⟩:=CutX.cell HZ.out.2.2.2.2 hlt3
        subst hx
        have HZ2:Hid ((SpSt w (wr.setCell ⟨h,k3,none⟩ (.int .u8 90)) B E g n k/\Blk (wr.setCell ⟨h,k3,none⟩ (.int .u8 90)) w.heap.size 37 #[.slice (some ⟨g,0,none⟩) n cap])/\CutX (wr.setCell ⟨h,k3,none⟩ (.int .u8 90)) B E (.slice x1 n1 y1) n1/\CutX (wr.setCell ⟨h,k3,none⟩ (.int .u8 90)) B E (.slice x2 n2 y2) n2/\CutX (wr.setCell ⟨h,k3,none⟩ (.int .u8 90)) B E (.slice x3 n3 y3) n3/\CutX (wr.setCell ⟨h,k3,none⟩ (.int .u8 90)) B E (.slice (some ⟨h,0,none⟩) n4 y4) n4):=by
         have hg:=grown_setCell wr h k3 (.int .u8 90)
         have hne:w.heap.size≠h:=by have h1:=HZ.out.1.1.2.2.2.2.1;omega
         exact ⟨⟨HZ.out.1.1.byte hbk hB hE e1 hnp,HZ.out.1.2.grown hg (by simp;exact fun e=>hne e.symm)⟩,HZ.out.2.1.byte h k3,HZ.out.2.2.1.byte h k3,HZ.out.2.2.2.1.byte h k3,HZ.out.2.2.2.2.byte h k3⟩
        clear hbk hnp
        go_wp2_with fail
        go_roundw
        case rel=>exact ⟨k3+1,by omega,by go_num,HZ2⟩
        case measure=>simp [intOf];omega
       ·have j1:((k3:Int)<(n4:Int))=False:=eq_false (by omega)
        go_wp2_with fail
        go_roundw
        case rel=>exact ⟨3+1,by omega,by first | rfl | go_num,HZ⟩
        case measure=>simp [intOf]
    ·obtain rfl:k2=4:=by omega
     have cc:=HV.out.1.2.cell 0
     obtain ⟨⟨v0,e0⟩,z0⟩:=HV.out.1.1.free (p:=k*8) (by omega)
     obtain ⟨⟨v1,e1⟩,z1⟩:=HV.out.1.1.free (p:=k*8+1) (by omega)
     obtain ⟨⟨v2,e2⟩,z2⟩:=HV.out.1.1.free (p:=k*8+2) (by omega)
     obtain ⟨⟨v3,e3⟩,z3⟩:=HV.out.1.1.free (p:=k*8+3) (by omega)
     obtain ⟨⟨v4,e4⟩,z4⟩:=HV.out.1.1.free (p:=k*8+4) (by omega)
     obtain ⟨⟨v5,e5⟩,z5⟩:=HV.out.1.1.free (p:=k*8+5) (by omega)
     obtain ⟨⟨v6,e6⟩,z6⟩:=HV.out.1.1.free (p:=k*8+6) (by omega)
     obtain ⟨⟨v7,e7⟩,z7⟩:=HV.out.1.1.free (p:=k*8+7) (by omega)
     go_wp2_with fail
     have ST:Hid (SpSt w ((((((((wr.setCell ⟨g,k*8,none⟩ (.int .i64 0)).setCell ⟨g,k*8+1,none⟩ (.string ⟨#[]⟩)).setCell ⟨g,k*8+2,none⟩ (.slice none 0 0)).setCell ⟨g,k*8+3,none⟩ (.slice none 0 0)).setCell ⟨g,k*8+4,none⟩ (.bool false)).setCell ⟨g,k*8+5,none⟩ (.slice none 0 0)).setCell ⟨g,k*8+6,none⟩ (.slice none 0 0)).setCell ⟨g,k*8+7,none⟩ (.int .i64 0)) B E g n (k+1)/\Blk ((((((((wr.setCell ⟨g,k*8,none⟩ (.int .i64 0)).setCell ⟨g,k*8+1,none⟩ (.string ⟨#[]⟩)).setCell ⟨g,k*8+2,none⟩ (.slice none 0 0)).setCell ⟨g,k*8+3,none⟩ (.slice none 0 0)).setCell ⟨g,k*8+4,none⟩ (.bool false)).setCell ⟨g,k*8+5,none⟩ (.slice none 0 0)).setCell ⟨g,k*8+6,none⟩ (.slice none 0 0)).setCell ⟨g,k*8+7,none⟩ (.int .i64 0)) w.heap.size 37 #[.slice (some ⟨g,0,none⟩) n cap]):=by
      have hne:w.heap.size≠g:=by have h1:=HV.out.1.1.2.2.2.1;have h2:=HV.out.1.1.2.2.2.2.1;omega
      exact ⟨((((((((HV.out.1.1.next.put (q:=k*8) (v:=.int .i64 0) (by omega) (by intro p;simp [Table.ptr]) (by omega)).put (q:=k*8+1) (v:=.string ⟨#[]⟩) (by omega) (by intro p;simp [Table.ptr]) (by omega)).put (q:=k*8+2) (v:=.slice none 0 0) (by omega) (by intro p;simp [Table.ptr]) (by omega)).put (q:=k*8+3) (v:=.slice none 0 0) (by omega) (by intro p;simp [Table.ptr]) (by omega)).put (q:=k*8+4) (v:=.bool false) (by omega) (by intro p;simp [Table.ptr]) (by omega)).put (q:=k*8+5) (v:=.slice none 0 0) (by omega) (by intro p;simp [Table.ptr]) (by omega)).put (q:=k*8+6) (v:=.slice none 0 0) (by omega) (by intro p;simp [Table.ptr]) (by omega)).put (q:=k*8+7) (v:=.int .i64 0) (by omega) (by intro p;simp [Table.ptr]) (by omega)),HV.out.1.2.grown (r:=some g) (grown_trans (grown_trans (grown_trans (grown_trans (grown_trans (grown_trans (grown_trans (grown_setCell _ _ _ _) (grown_setCell _ _ _ _)) (grown_setCell _ _ _ _)) (grown_setCell _ _ _ _)) (grown_setCell _ _ _ _)) (grown_setCell _ _ _ _)) (grown_setCell _ _ _ _)) (grown_setCell _ _ _ _)) (by simp;exact fun e=>hne e.symm)⟩
     go_roundw
     case rel=>exact ⟨k+1,by omega,by go_num,ST⟩
     case measure=>simp [intOf];omega
  ·have i1:((k:Int)<(n:Int))=False:=eq_false (by omega)
   go_wp2_with fail
   go_end0
   exact ⟨rfl,HR.out.1.2.2.2.2.2.1,HR.out.1.2.2.2.2.2.2.1⟩
end Go.Proofs.YtakmlhhapegpoaaGreat.Calls
