import Derived.Test.YtadhfejefpildaaGreatFrmAll
set_option maxHeartbeats 4000000
set_option maxRecDepth 100000
namespace Go.Proofs.YtadhfejefpildaaGreat.Frame
open Go.RowKit Disk
def eA (L:List UInt8)(w:World)(e:Ending)(w':World):Prop :=
 w.grownBy w' none/\(code L≠0->e=.returned (.tuple #[.agg #[.int .i64 0,.slice none 0 0],.int .i64 0,.int .i64 (code L:Nat)]))/\(code L=0->∃u,e=.returned (.tuple #[.agg #[.int .i64 (aW L:Nat),u],.int .i64 (9+ba L:Nat),.int .i64 0])/\Own w' w.heap.size u (aG L))
theorem mq (v:Value)(L:List UInt8)(w:World)(hs:Seg w v L)(hL:L.length<9):Calls Tryz.prog 86 #[v] w (eA L w):=by
 obtain ⟨ao,cap,hv⟩:=hs.shape
 subst hv
 obtain ⟨n,hn⟩:∃n,L.length=n:=⟨_,rfl⟩
 have HC:Hid (code L=140):=by unfold Hid code;rw [show spl L=140 from by unfold spl;rw [if_pos hL]];rfl
 rw [hn] at hL ⊢
 clear hn hs
 have hi:(n:Int)<9:=by omega
 go_enter Tryz.func86,Tryz.ntmps86
 go_wp2_with fail
 have hb:Blk (w.alloc (.cells #[.int .i64 0,.slice none 0 0] 109)) w.heap.size 109 #[.int .i64 0,.slice none 0 0]:=heap_alloc_new _ _
 refine bodyPost_ret (ew rfl (eH hb) rfl rfl rfl) rfl ?_
 exact ⟨World.grownBy_alloc _ _ _,fun _=>by rw [HC.out];rfl,fun h=>absurd h (by rw [HC.out];decide)⟩
theorem ia {L:List UInt8}(_h:9+ba L<=L.length):frm (aW L) (aG L)=L.take (9+ba L)<->L.take 9=hdr (aW L) (aG L):=by
 rw [List.take_add,show (L.drop 9).take (ba L)=aG L from rfl]
 unfold frm
 constructor
 ·intro e
  exact (List.append_cancel_right e).symm
 ·intro e
  rw [e]
theorem lj (ao:Option Addr)(cap:Nat)(L:List UInt8)(w:World)(hs:Seg w (.slice ao L.length cap) L)(hL:9<=L.length)(hmax:L.length<=140737488355328)(HH1:2147483647<ba L):Calls Tryz.prog 86 #[.slice ao L.length cap] w (eA L w):=by
 have HX1:Hid _:=HH1
 clear HH1
 obtain ⟨n,hn⟩:∃n,L.length=n:=⟨_,rfl⟩
 have HS:Hid (Seg w (.slice ao n cap) L):=by rw [<-hn];exact hs
 have HN:Hid _:=hn
 have hcap:n<=cap/\cap<=9223372036854775807/\∃b off,ao=some ⟨b,off,none⟩/\∀j (hj:j<L.length),w.cell? ⟨b,off+j,none⟩=some (.int .u8 (L[j].toNat:Int)):=by
  obtain ⟨ao',cap',hv,h1,h2,h3,h4⟩:=hs
  simp at hv
  obtain ⟨rfl,rfl⟩:=hv
  obtain ⟨b,off,e,_⟩:=h4 0 (by omega)
  unfold maxLen at h2
  refine ⟨by omega,by omega,b,off,e,fun j hj=>?_⟩
  obtain ⟨b',off',e',hc⟩:=h4 j hj
  rw [e] at e'
  simp at e'
  obtain ⟨rfl,rfl⟩:=e'
  exact hc
 obtain ⟨hcap,hcap2,b,off,rfl,hcells⟩:=hcap
 have HCS:Hid _:=hcells
 rw [hn] at hL hmax ⊢
 clear hn hs hcells
 obtain ⟨a0,a1,a2,a3,a4,ha⟩:∃a0 a1 a2 a3 a4:UInt8,L[0]? = some a0/\L[1]? = some a1/\L[2]? = some a2/\L[3]? = some a3/\L[4]? = some a4:=by
  have hl:=HN.out
  exact ⟨L[0],L[1],L[2],L[3],L[4],by simp,by simp,by simp,by simp,by simp⟩
 have HK:Hid (aW L=a0.toNat/\ba L=unbe a1 a2 a3 a4):=by
  obtain ⟨h0,h1,h2,h3,h4⟩:=ha
  unfold Hid aW ba
  simp [h0,h1,h2,h3,h4]
 have HCL:Hid (∀x:World,w.grownBy x none->x.cell? ⟨b,off,none⟩=some (.int .u8 a0.toNat)/\x.cell? ⟨b,off+1,none⟩=some (.int .u8 a1.toNat)/\x.cell? ⟨b,off+2,none⟩=some (.int .u8 a2.toNat)/\x.cell? ⟨b,off+3,none⟩=some (.int .u8 a3.toNat)/\x.cell? ⟨b,off+4,none⟩=some (.int .u8 a4.toNat)):=fun x hx=>by
  obtain ⟨h0,h1,h2,h3,h4⟩:=ha
  have hl:=HN.out
  have q:∀j c,L[j]? = some c->x.cell? ⟨b,off+j,none⟩=some (.int .u8 c.toNat):=fun j c hj=>by
   obtain ⟨hj1,hj2⟩:=List.getElem?_eq_some_iff.1 hj
   have:=hx.cell (HCS.out j hj1) (by simp)
   rw [hj2] at this
   exact this
  exact ⟨q 0 a0 h0,q 1 a1 h1,q 2 a2 h2,q 3 a3 h3,q 4 a4 h4⟩
 clear ha
 have t0:=a0.toNat_lt
 have t1:=a1.toNat_lt
 have t2:=a2.toNat_lt
 have t3:=a3.toNat_lt
 have t4:=a4.toNat_lt
 have hU:unbe a1 a2 a3 a4=a1.toNat*16777216+a2.toNat*65536+a3.toNat*256+a4.toNat:=rfl
 obtain ⟨m,hm⟩:∃m,unbe a1 a2 a3 a4=m:=⟨_,rfl⟩
 rw [hm] at HK hU
 have hml:m<4294967296:=by rw [<-hm];exact fk _ _ _ _
 clear hm
 generalize a0.toNat=b0 at *
 generalize a1.toNat=b1 at *
 generalize a2.toNat=b2 at *
 generalize a3.toNat=b3 at *
 generalize a4.toNat=b4 at *
 have HU:Hid _:=hU
 clear hU
 have hi:¬(n:Int)<9:=by omega
 have n0:(0:Int)<(n:Int):=by omega
 have n1:(1:Int)<(n:Int):=by omega
 have n2:(2:Int)<(n:Int):=by omega
 have n3:(3:Int)<(n:Int):=by omega
 have n4:(4:Int)<(n:Int):=by omega
 go_enter Tryz.func86,Tryz.ntmps86
 go_wp2_with fail
 have HW:Hid (w.grownBy (w.alloc (.cells #[.int .i64 0,.slice none 0 0] 109)) none/\Blk (w.alloc (.cells #[.int .i64 0,.slice none 0 0] 109)) w.heap.size 109 #[.int .i64 0,.slice none 0 0]):=⟨World.grownBy_alloc _ _ _,heap_alloc_new _ _⟩
 generalize w.alloc (.cells #[.int .i64 0,.slice none 0 0] 109)=w1 at HW ⊢
 obtain ⟨r0,r1,r2,r3,r4⟩:=HCL.out _ HW.out.1
 go_quiet (fail)
 have hmz:(b1:Int)*16777216+(b2:Int)*65536+(b3:Int)*256+(b4:Int)=(m:Int):=by have:=HU.out;omega
 rw [hmz]
 refine (‹∀(a:Act) (w:World),Code.wp Tryz.prog _ _ a w->_› _ _ ?_)
 have H2:Hid (w.grownBy (w1.drewN nq) none/\Blk (w1.drewN nq) w.heap.size 109 #[.int .i64 0,.slice none 0 0]):=⟨aa HW.out.1 (ax _ _ _),HW.out.2.grown (ax _ _ none) (by simp)⟩
 generalize w1.drewN nq=w2 at H2 ⊢
 clear HW r0 r1 r2 r3 r4 hmz
 have q0:=H2.out.2.cell 0
 have q1:=H2.out.2.cell 1
 have f0:=H2.out.2.free 0
 have f1:=H2.out.2.free 1
 simp at q0 q1
 have hm1:2147483647<m:=by have:=HX1.out;rw [HK.out.2] at this;exact this
 have hmi:(2147483647:Int)<(m:Int):=by omega
 have hmj:¬(m:Int)<=2147483647:=by omega
 have HC:Hid (code L=141):=by unfold Hid code;rw [show spl L=141 from by unfold spl;rw [HN.out,HK.out.2,if_neg (by omega),if_pos hm1]];rfl
 go_wp2_with fail
 refine bodyPost_ret (ew rfl (eH (b_ _ _ H2.out.2)) rfl rfl rfl) rfl ?_
 exact ⟨ck _ _ H2.out.1 (Nat.le_refl _),fun _=>by rw [HC.out];rfl,fun h=>absurd h (by rw [HC.out];decide)⟩
theorem lk (ao:Option Addr)(cap:Nat)(L:List UInt8)(w:World)(hs:Seg w (.slice ao L.length cap) L)(hL:9<=L.length)(hmax:L.length<=140737488355328)(HH1:¬2147483647<ba L)(HH2:L.length<9+ba L):Calls Tryz.prog 86 #[.slice ao L.length cap] w (eA L w):=by
 have HX1:Hid _:=HH1
 have HX2:Hid _:=HH2
 clear HH1 HH2
 obtain ⟨n,hn⟩:∃n,L.length=n:=⟨_,rfl⟩
 have HS:Hid (Seg w (.slice ao n cap) L):=by rw [<-hn];exact hs
 have HN:Hid _:=hn
 have hcap:n<=cap/\cap<=9223372036854775807/\∃b off,ao=some ⟨b,off,none⟩/\∀j (hj:j<L.length),w.cell? ⟨b,off+j,none⟩=some (.int .u8 (L[j].toNat:Int)):=by
  obtain ⟨ao',cap',hv,h1,h2,h3,h4⟩:=hs
  simp at hv
  obtain ⟨rfl,rfl⟩:=hv
  obtain ⟨b,off,e,_⟩:=h4 0 (by omega)
  unfold maxLen at h2
  refine ⟨by omega,by omega,b,off,e,fun j hj=>?_⟩
  obtain ⟨b',off',e',hc⟩:=h4 j hj
  rw [e] at e'
  simp at e'
  obtain ⟨rfl,rfl⟩:=e'
  exact hc
 obtain ⟨hcap,hcap2,b,off,rfl,hcells⟩:=hcap
 have HCS:Hid _:=hcells
 rw [hn] at hL hmax ⊢
 clear hn hs hcells
 obtain ⟨a0,a1,a2,a3,a4,ha⟩:∃a0 a1 a2 a3 a4:UInt8,L[0]? = some a0/\L[1]? = some a1/\L[2]? = some a2/\L[3]? = some a3/\L[4]? = some a4:=by
  have hl:=HN.out
  exact ⟨L[0],L[1],L[2],L[3],L[4],by simp,by simp,by simp,by simp,by simp⟩
 have HK:Hid (aW L=a0.toNat/\ba L=unbe a1 a2 a3 a4):=by
  obtain ⟨h0,h1,h2,h3,h4⟩:=ha
  unfold Hid aW ba
  simp [h0,h1,h2,h3,h4]
 have HCL:Hid (∀x:World,w.grownBy x none->x.cell? ⟨b,off,none⟩=some (.int .u8 a0.toNat)/\x.cell? ⟨b,off+1,none⟩=some (.int .u8 a1.toNat)/\x.cell? ⟨b,off+2,none⟩=some (.int .u8 a2.toNat)/\x.cell? ⟨b,off+3,none⟩=some (.int .u8 a3.toNat)/\x.cell? ⟨b,off+4,none⟩=some (.int .u8 a4.toNat)):=fun x hx=>by
  obtain ⟨h0,h1,h2,h3,h4⟩:=ha
  have hl:=HN.out
  have q:∀j c,L[j]? = some c->x.cell? ⟨b,off+j,none⟩=some (.int .u8 c.toNat):=fun j c hj=>by
   obtain ⟨hj1,hj2⟩:=List.getElem?_eq_some_iff.1 hj
   have:=hx.cell (HCS.out j hj1) (by simp)
   rw [hj2] at this
   exact this
  exact ⟨q 0 a0 h0,q 1 a1 h1,q 2 a2 h2,q 3 a3 h3,q 4 a4 h4⟩
 clear ha
 have t0:=a0.toNat_lt
 have t1:=a1.toNat_lt
 have t2:=a2.toNat_lt
 have t3:=a3.toNat_lt
 have t4:=a4.toNat_lt
 have hU:unbe a1 a2 a3 a4=a1.toNat*16777216+a2.toNat*65536+a3.toNat*256+a4.toNat:=rfl
 obtain ⟨m,hm⟩:∃m,unbe a1 a2 a3 a4=m:=⟨_,rfl⟩
 rw [hm] at HK hU
 have hml:m<4294967296:=by rw [<-hm];exact fk _ _ _ _
 clear hm
 generalize a0.toNat=b0 at *
 generalize a1.toNat=b1 at *
 generalize a2.toNat=b2 at *
 generalize a3.toNat=b3 at *
 generalize a4.toNat=b4 at *
 have HU:Hid _:=hU
 clear hU
 have hi:¬(n:Int)<9:=by omega
 have n0:(0:Int)<(n:Int):=by omega
 have n1:(1:Int)<(n:Int):=by omega
 have n2:(2:Int)<(n:Int):=by omega
 have n3:(3:Int)<(n:Int):=by omega
 have n4:(4:Int)<(n:Int):=by omega
 go_enter Tryz.func86,Tryz.ntmps86
 go_wp2_with fail
 have HW:Hid (w.grownBy (w.alloc (.cells #[.int .i64 0,.slice none 0 0] 109)) none/\Blk (w.alloc (.cells #[.int .i64 0,.slice none 0 0] 109)) w.heap.size 109 #[.int .i64 0,.slice none 0 0]):=⟨World.grownBy_alloc _ _ _,heap_alloc_new _ _⟩
 generalize w.alloc (.cells #[.int .i64 0,.slice none 0 0] 109)=w1 at HW ⊢
 obtain ⟨r0,r1,r2,r3,r4⟩:=HCL.out _ HW.out.1
 go_quiet (fail)
 have hmz:(b1:Int)*16777216+(b2:Int)*65536+(b3:Int)*256+(b4:Int)=(m:Int):=by have:=HU.out;omega
 rw [hmz]
 refine (‹∀(a:Act) (w:World),Code.wp Tryz.prog _ _ a w->_› _ _ ?_)
 have H2:Hid (w.grownBy (w1.drewN nq) none/\Blk (w1.drewN nq) w.heap.size 109 #[.int .i64 0,.slice none 0 0]):=⟨aa HW.out.1 (ax _ _ _),HW.out.2.grown (ax _ _ none) (by simp)⟩
 generalize w1.drewN nq=w2 at H2 ⊢
 clear HW r0 r1 r2 r3 r4 hmz
 have q0:=H2.out.2.cell 0
 have q1:=H2.out.2.cell 1
 have f0:=H2.out.2.free 0
 have f1:=H2.out.2.free 1
 simp at q0 q1
 have hm1:¬2147483647<m:=by have:=HX1.out;rw [HK.out.2] at this;exact this
 have hm2':n<9+m:=by have:=HX2.out;rw [HK.out.2,HN.out] at this;exact this
 have hmi:¬(2147483647:Int)<(m:Int):=by omega
 have hmj:(m:Int)<=2147483647:=by omega
 obtain ⟨p,hp⟩:∃p,9+m=p:=⟨_,rfl⟩
 have HP:Hid _:=hp
 have hpi:(9:Int)+(m:Int)=(p:Int):=by omega
 have hm2:n<p:=by omega
 have hmk:(n:Int)<(p:Int):=by omega
 have HC:Hid (code L=140):=by unfold Hid code;rw [show spl L=140 from by unfold spl;rw [HN.out,HK.out.2,if_neg (by omega),if_neg hm1,if_pos (by omega)]];rfl
 clear hp
 go_wp2_with fail
 refine bodyPost_ret (ew rfl (eH (b_ _ _ H2.out.2)) rfl rfl rfl) rfl ?_
 exact ⟨ck _ _ H2.out.1 (Nat.le_refl _),fun _=>by rw [HC.out];rfl,fun h=>absurd h (by rw [HC.out];decide)⟩
theorem ic (ao:Option Addr)(cap:Nat)(L:List UInt8)(w:World)(hs:Seg w (.slice ao L.length cap) L)(hL:9<=L.length)(hmax:L.length<=140737488355328)(HH1:¬2147483647<ba L)(HH2:¬L.length<9+ba L)(hc9:cap=9)(HH3:L.take 9=hdr (aW L) (aG L)):Calls Tryz.prog 86 #[.slice ao L.length cap] w (eA L w):=by
 have HX1:Hid _:=HH1
 have HX2:Hid _:=HH2
 have HX3:Hid _:=HH3
 clear HH1 HH2 HH3
 obtain ⟨n,hn⟩:∃n,L.length=n:=⟨_,rfl⟩
 have HS:Hid (Seg w (.slice ao n cap) L):=by rw [<-hn];exact hs
 have HN:Hid _:=hn
 have hcap:n<=cap/\cap<=9223372036854775807/\∃b off,ao=some ⟨b,off,none⟩/\∀j (hj:j<L.length),w.cell? ⟨b,off+j,none⟩=some (.int .u8 (L[j].toNat:Int)):=by
  obtain ⟨ao',cap',hv,h1,h2,h3,h4⟩:=hs
  simp at hv
  obtain ⟨rfl,rfl⟩:=hv
  obtain ⟨b,off,e,_⟩:=h4 0 (by omega)
  unfold maxLen at h2
  refine ⟨by omega,by omega,b,off,e,fun j hj=>?_⟩
  obtain ⟨b',off',e',hc⟩:=h4 j hj
  rw [e] at e'
  simp at e'
  obtain ⟨rfl,rfl⟩:=e'
  exact hc
 obtain ⟨hcap,hcap2,b,off,rfl,hcells⟩:=hcap
 have HCS:Hid _:=hcells
 rw [hn] at hL hmax ⊢
 clear hn hs hcells
 obtain ⟨a0,a1,a2,a3,a4,ha⟩:∃a0 a1 a2 a3 a4:UInt8,L[0]? = some a0/\L[1]? = some a1/\L[2]? = some a2/\L[3]? = some a3/\L[4]? = some a4:=by
  have hl:=HN.out
  exact ⟨L[0],L[1],L[2],L[3],L[4],by simp,by simp,by simp,by simp,by simp⟩
 have HK:Hid (aW L=a0.toNat/\ba L=unbe a1 a2 a3 a4):=by
  obtain ⟨h0,h1,h2,h3,h4⟩:=ha
  unfold Hid aW ba
  simp [h0,h1,h2,h3,h4]
 have HCL:Hid (∀x:World,w.grownBy x none->x.cell? ⟨b,off,none⟩=some (.int .u8 a0.toNat)/\x.cell? ⟨b,off+1,none⟩=some (.int .u8 a1.toNat)/\x.cell? ⟨b,off+2,none⟩=some (.int .u8 a2.toNat)/\x.cell? ⟨b,off+3,none⟩=some (.int .u8 a3.toNat)/\x.cell? ⟨b,off+4,none⟩=some (.int .u8 a4.toNat)):=fun x hx=>by
  obtain ⟨h0,h1,h2,h3,h4⟩:=ha
  have hl:=HN.out
  have q:∀j c,L[j]? = some c->x.cell? ⟨b,off+j,none⟩=some (.int .u8 c.toNat):=fun j c hj=>by
   obtain ⟨hj1,hj2⟩:=List.getElem?_eq_some_iff.1 hj
   have:=hx.cell (HCS.out j hj1) (by simp)
   rw [hj2] at this
   exact this
  exact ⟨q 0 a0 h0,q 1 a1 h1,q 2 a2 h2,q 3 a3 h3,q 4 a4 h4⟩
 clear ha
 have t0:=a0.toNat_lt
 have t1:=a1.toNat_lt
 have t2:=a2.toNat_lt
 have t3:=a3.toNat_lt
 have t4:=a4.toNat_lt
 have hU:unbe a1 a2 a3 a4=a1.toNat*16777216+a2.toNat*65536+a3.toNat*256+a4.toNat:=rfl
 obtain ⟨m,hm⟩:∃m,unbe a1 a2 a3 a4=m:=⟨_,rfl⟩
 rw [hm] at HK hU
 have hml:m<4294967296:=by rw [<-hm];exact fk _ _ _ _
 clear hm
 generalize a0.toNat=b0 at *
 generalize a1.toNat=b1 at *
 generalize a2.toNat=b2 at *
 generalize a3.toNat=b3 at *
 generalize a4.toNat=b4 at *
 have HU:Hid _:=hU
 clear hU
 have hi:¬(n:Int)<9:=by omega
 have n0:(0:Int)<(n:Int):=by omega
 have n1:(1:Int)<(n:Int):=by omega
 have n2:(2:Int)<(n:Int):=by omega
 have n3:(3:Int)<(n:Int):=by omega
 have n4:(4:Int)<(n:Int):=by omega
 go_enter Tryz.func86,Tryz.ntmps86
 go_wp2_with fail
 have HW:Hid (w.grownBy (w.alloc (.cells #[.int .i64 0,.slice none 0 0] 109)) none/\Blk (w.alloc (.cells #[.int .i64 0,.slice none 0 0] 109)) w.heap.size 109 #[.int .i64 0,.slice none 0 0]):=⟨World.grownBy_alloc _ _ _,heap_alloc_new _ _⟩
 generalize w.alloc (.cells #[.int .i64 0,.slice none 0 0] 109)=w1 at HW ⊢
 obtain ⟨r0,r1,r2,r3,r4⟩:=HCL.out _ HW.out.1
 go_quiet (fail)
 have hmz:(b1:Int)*16777216+(b2:Int)*65536+(b3:Int)*256+(b4:Int)=(m:Int):=by have:=HU.out;omega
 rw [hmz]
 refine (‹∀(a:Act) (w:World),Code.wp Tryz.prog _ _ a w->_› _ _ ?_)
 have H2:Hid (w.grownBy (w1.drewN nq) none/\Blk (w1.drewN nq) w.heap.size 109 #[.int .i64 0,.slice none 0 0]):=⟨aa HW.out.1 (ax _ _ _),HW.out.2.grown (ax _ _ none) (by simp)⟩
 generalize w1.drewN nq=w2 at H2 ⊢
 clear HW r0 r1 r2 r3 r4 hmz
 have q0:=H2.out.2.cell 0
 have q1:=H2.out.2.cell 1
 have f0:=H2.out.2.free 0
 have f1:=H2.out.2.free 1
 simp at q0 q1
 have hm1:¬2147483647<m:=by have:=HX1.out;rw [HK.out.2] at this;exact this
 have hm2':¬n<9+m:=by have:=HX2.out;rw [HK.out.2,HN.out] at this;exact this
 have hmi:¬(2147483647:Int)<(m:Int):=by omega
 have hmj:(m:Int)<=2147483647:=by omega
 obtain ⟨p,hp⟩:∃p,9+m=p:=⟨_,rfl⟩
 have HP:Hid _:=hp
 have hpi:(9:Int)+(m:Int)=(p:Int):=by omega
 have hm2:¬n<p:=by omega
 have hmk:¬(n:Int)<(p:Int):=by omega
 have HSP:Hid (spl L=0):=by unfold Hid spl;rw [HN.out,HK.out.2,if_neg (by omega),if_neg hm1,if_neg (by omega)]
 have HBL:Hid ((aG L).length=m):=by have:=(cj HSP.out).1;rw [HK.out.2] at this;exact this
 have hpc:(p:Int)<=(cap:Int):=by omega
 have hpc2:p<=cap:=by omega
 have h9p:(9:Int)<=(p:Int):=by omega
 have h9q:9<=p:=by omega
 have h0p:(0:Int)<=(p:Int):=by omega
 clear q0 q1 f0 f1
 obtain rfl:m=0:=by omega
 obtain rfl:n=9:=by omega
 obtain rfl:p=9:=by omega
 subst hc9
 have w9:IntKind.i64.wrap 9=9:=by decide
 have t00:b0<256:=t0
 have wb0:IntKind.i64.wrap (b0:Int)=(b0:Int):=by rw [IntKind.wrap_i64];omega
 have HB:Hid (Seg w2 (.slice (some ⟨b,off,none⟩) 0 0) (aG L)):=by
  have h9:=(by have:=bk 9 (by rw [HN.out];omega) rfl (by rw [HN.out];exact HS.out.grown H2.out.1:Seg w2 (.slice (some ⟨b,off,none⟩) L.length 9) L);rw [HN.out] at this;exact this:Seg w2 (.slice (some ⟨b,off,none⟩) 0 0) (L.drop 9))
  unfold aG
  rw [HK.out.2]
  have hl:(L.drop 9).length=0:=by rw [List.length_drop,HN.out]
  exact bB 0 (by rw [hl];omega) (by rw [hl];exact h9)
 go_upto_region 8 with fail
 refine wp_region_lit ?_
 refine wpList_plain rfl fun K1 hK1=>?_
 have HK1:Hid _:=hK1
 clear hK1
 go_wp2_with fail
 refine HK1.out _ _ ?_
 clear HK1 K1
 refine wpList_plain rfl fun K1 hK1=>?_
 have HK1:Hid _:=hK1
 clear hK1
 go_wp2_with fail
 refine HK1.out _ _ ?_
 clear HK1 K1
 refine wpList_plain rfl fun K1 hK1=>?_
 have HK1:Hid _:=hK1
 clear hK1
 go_wp2_with fail
 refine HK1.out _ _ ?_
 clear HK1 K1
 refine wpList_plain rfl fun K1 hK1=>?_
 have HK1:Hid _:=hK1
 clear hK1
 go_wp2_with fail
 refine HK1.out _ _ ?_
 clear HK1 K1
 refine wpList_plain rfl fun K1 hK1=>?_
 have HK1:Hid _:=hK1
 clear hK1
 refine fJ _ _ _ rfl w2.heap.size (.slice none 0 0) [] _ (aG L) rfl rfl (Own.nil _ _) HB.out (by rw [HBL.out];simp only [List.length_nil];omega) (Nat.le_refl _) ?_
 intro v3 w3 o3 g3 l3
 refine HK1.out _ _ ?_
 clear HK1 K1
 simp only [Act.put,List.setIfInBounds_toArray,List.set_cons_zero,List.set_cons_succ]
 have H3:Hid (Own w3 w2.heap.size v3 (aG L)/\w2.grownBy w3 none):=⟨by rw [List.nil_append] at o3;exact o3,g3⟩
 clear o3 g3 l3
 obtain ⟨a3,c3,hv3⟩:=H3.out.1.seg.shape
 rw [HBL.out] at hv3
 subst hv3
 go_wp2_with fail
 have HQ:Hid (∀x:World,w3.grownBy x none->x.cell? ⟨b,off,none⟩=some (.int .u8 b0)/\(convert 23 9 (.slice (some ⟨b,off,none⟩) 9 9)).run Tryz.prog x=.ok (.string ⟨(L.take 9).toArray⟩) x):=fun x hx=>by
  have g:=aa H2.out.1 (aa H3.out.2 hx)
  refine ⟨(HCL.out x g).1,aJ ?_⟩
  exact bB 9 (by rw [HN.out];omega) (by rw [HN.out];exact HS.out.grown g)
 obtain ⟨S1,hS1⟩:∃S1:ByteArray,⟨(L.take 9).toArray⟩=S1:=⟨_,rfl⟩
 obtain ⟨S2,hS2⟩:∃S2:ByteArray,⟨(frm b0 (aG L)).toArray⟩=S2:=⟨_,rfl⟩
 have HSS:Hid (S2=S1<->L.take 9=hdr (aW L) (aG L)):=by
  unfold Hid
  rw [<-hS1,<-hS2,<-ia (by rw [HK.out.2,HN.out];omega),HK.out.1,HK.out.2,show 9+0=9 from rfl]
  simp
 have HTT:Hid (S2.toList=S1.toList->S2=S1):=by
  unfold Hid
  rw [<-hS1,<-hS2,ByteArray.toList_eq,ByteArray.toList_eq]
  intro h
  simpa using h
 have HS2:Hid _:=hS2
 rw [hS1] at HQ
 clear hS1 hS2
 have heq:S2=S1:=HSS.out.2 HX3.out
 have HC:Hid (code L=0):=by unfold Hid code;rw [if_neg (by simpa using HSP.out),if_pos (HSS.out.1 heq)]
 have hte:S2.toList=S1.toList:=by rw [heq]
 refine wp_region_noPanic ?_
 refine am 1000 (fun x=>w3.grownBy x none) (by kernel_rfl) ?_
 have J:Idx [0,1,2,3,4,7,8,9,10,11]:=trivial
 iterate 10 (refine tK J (af _ _) rfl rfl (fun wk hk=>by obtain ⟨k0,k1⟩:=HQ.out wk hk;go_simp;try rfl) ?_;replace J:=J.tl;try simp only [pN])
 refine wO 5 rfl fun K hK=>?_
 go_simp
 refine (fM b0 _ (aG L) _ t0 (H3.out.1.seg.grown (af _ _)) (by rw [HBL.out];omega)).mono ?_
 rintro e w4 ⟨u4,rfl,o4,g4⟩
 have G4:Hid (w3.grownBy w4 none):=aa (af _ _) g4
 have HQ4:Hid (∀x:World,w4.grownBy x none->(convert 23 9 u4).run Tryz.prog x=.ok (.string S2) x):=fun x hx=>by rw [<-HS2.out];exact aJ (o4.seg.grown hx)
 clear o4 g4
 go_wp2_with fail
 refine hK.out _ _ (fun _=>G4.out) ?_
 clear hK K
 try simp only [pN]
 refine wO 6 rfl fun K hK=>?_
 have cv:=HQ4.out _ (aj _ none)
 go_wp2_with fail
 refine hK.out _ _ (fun _=>G4.out) ?_
 clear hK K
 try simp only [pN]
 refine tS 12 (G4.out) rfl rfl (fun wk hk=>by obtain ⟨k0,k1⟩:=HQ.out wk hk;go_simp;try rfl) ?_
 try simp only [pN]
 refine wD ?_
 refine (‹∀(a:Act) (w:World),Code.wp Tryz.prog _ _ a w->_› _ _ ?_)
 obtain ⟨r0,_⟩:=HQ.out _ G4.out
 have H5:Hid (w.grownBy w4 none/\Blk w4 w.heap.size 109 #[.int .i64 0,.slice none 0 0]/\Own w4 w2.heap.size (.slice a3 0 c3) (aG L)):=⟨aa H2.out.1 (aa H3.out.2 G4.out),(H2.out.2.grown H3.out.2 (by simp)).grown G4.out (by simp),H3.out.1.grown G4.out⟩
 have q0:=H5.out.2.1.cell 0
 have q1:=H5.out.2.1.cell 1
 have f0:=H5.out.2.1.free 0
 have f1:=H5.out.2.1.free 1
 simp at q0 q1
 go_wp2_with fail
 refine bodyPost_ret (ew rfl (eH (b_ _ _ H5.out.2.1)) rfl rfl rfl) rfl ?_
 refine ⟨ck _ _ H5.out.1 (Nat.le_refl _),fun h=>absurd HC.out h,fun _=>⟨.slice a3 0 c3,?_,?_⟩⟩
 ·rw [HK.out.1,HK.out.2,show 9+0=9 from rfl]
  rfl
 ·refine Own.mono (B:=w2.heap.size) (H5.out.2.2.same fun k hk=>?_) (by have:=H2.out.1.size;omega)
  have hk2:=(H5.out.2.2.lt k hk).1
  have hlt2:=H2.out.2.lt
  rw [heap_setCell_other _ _ _ _ (by simp;omega),heap_setCell_other _ _ _ _ (by simp;omega)]
theorem gI (ao:Option Addr)(cap:Nat)(L:List UInt8)(w:World)(hs:Seg w (.slice ao L.length cap) L)(hL:9<=L.length)(hmax:L.length<=140737488355328)(HH1:¬2147483647<ba L)(HH2:¬L.length<9+ba L)(hc9:cap=9)(HH3:¬L.take 9=hdr (aW L) (aG L)):Calls Tryz.prog 86 #[.slice ao L.length cap] w (eA L w):=by
 have HX1:Hid _:=HH1
 have HX2:Hid _:=HH2
 have HX3:Hid _:=HH3
 clear HH1 HH2 HH3
 obtain ⟨n,hn⟩:∃n,L.length=n:=⟨_,rfl⟩
 have HS:Hid (Seg w (.slice ao n cap) L):=by rw [<-hn];exact hs
 have HN:Hid _:=hn
 have hcap:n<=cap/\cap<=9223372036854775807/\∃b off,ao=some ⟨b,off,none⟩/\∀j (hj:j<L.length),w.cell? ⟨b,off+j,none⟩=some (.int .u8 (L[j].toNat:Int)):=by
  obtain ⟨ao',cap',hv,h1,h2,h3,h4⟩:=hs
  simp at hv
  obtain ⟨rfl,rfl⟩:=hv
  obtain ⟨b,off,e,_⟩:=h4 0 (by omega)
  unfold maxLen at h2
  refine ⟨by omega,by omega,b,off,e,fun j hj=>?_⟩
  obtain ⟨b',off',e',hc⟩:=h4 j hj
  rw [e] at e'
  simp at e'
  obtain ⟨rfl,rfl⟩:=e'
  exact hc
 obtain ⟨hcap,hcap2,b,off,rfl,hcells⟩:=hcap
 have HCS:Hid _:=hcells
 rw [hn] at hL hmax ⊢
 clear hn hs hcells
 obtain ⟨a0,a1,a2,a3,a4,ha⟩:∃a0 a1 a2 a3 a4:UInt8,L[0]? = some a0/\L[1]? = some a1/\L[2]? = some a2/\L[3]? = some a3/\L[4]? = some a4:=by
  have hl:=HN.out
  exact ⟨L[0],L[1],L[2],L[3],L[4],by simp,by simp,by simp,by simp,by simp⟩
 have HK:Hid (aW L=a0.toNat/\ba L=unbe a1 a2 a3 a4):=by
  obtain ⟨h0,h1,h2,h3,h4⟩:=ha
  unfold Hid aW ba
  simp [h0,h1,h2,h3,h4]
 have HCL:Hid (∀x:World,w.grownBy x none->x.cell? ⟨b,off,none⟩=some (.int .u8 a0.toNat)/\x.cell? ⟨b,off+1,none⟩=some (.int .u8 a1.toNat)/\x.cell? ⟨b,off+2,none⟩=some (.int .u8 a2.toNat)/\x.cell? ⟨b,off+3,none⟩=some (.int .u8 a3.toNat)/\x.cell? ⟨b,off+4,none⟩=some (.int .u8 a4.toNat)):=fun x hx=>by
  obtain ⟨h0,h1,h2,h3,h4⟩:=ha
  have hl:=HN.out
  have q:∀j c,L[j]? = some c->x.cell? ⟨b,off+j,none⟩=some (.int .u8 c.toNat):=fun j c hj=>by
   obtain ⟨hj1,hj2⟩:=List.getElem?_eq_some_iff.1 hj
   have:=hx.cell (HCS.out j hj1) (by simp)
   rw [hj2] at this
   exact this
  exact ⟨q 0 a0 h0,q 1 a1 h1,q 2 a2 h2,q 3 a3 h3,q 4 a4 h4⟩
 clear ha
 have t0:=a0.toNat_lt
 have t1:=a1.toNat_lt
 have t2:=a2.toNat_lt
 have t3:=a3.toNat_lt
 have t4:=a4.toNat_lt
 have hU:unbe a1 a2 a3 a4=a1.toNat*16777216+a2.toNat*65536+a3.toNat*256+a4.toNat:=rfl
 obtain ⟨m,hm⟩:∃m,unbe a1 a2 a3 a4=m:=⟨_,rfl⟩
 rw [hm] at HK hU
 have hml:m<4294967296:=by rw [<-hm];exact fk _ _ _ _
 clear hm
 generalize a0.toNat=b0 at *
 generalize a1.toNat=b1 at *
 generalize a2.toNat=b2 at *
 generalize a3.toNat=b3 at *
 generalize a4.toNat=b4 at *
 have HU:Hid _:=hU
 clear hU
 have hi:¬(n:Int)<9:=by omega
 have n0:(0:Int)<(n:Int):=by omega
 have n1:(1:Int)<(n:Int):=by omega
 have n2:(2:Int)<(n:Int):=by omega
 have n3:(3:Int)<(n:Int):=by omega
 have n4:(4:Int)<(n:Int):=by omega
 go_enter Tryz.func86,Tryz.ntmps86
 go_wp2_with fail
 have HW:Hid (w.grownBy (w.alloc (.cells #[.int .i64 0,.slice none 0 0] 109)) none/\Blk (w.alloc (.cells #[.int .i64 0,.slice none 0 0] 109)) w.heap.size 109 #[.int .i64 0,.slice none 0 0]):=⟨World.grownBy_alloc _ _ _,heap_alloc_new _ _⟩
 generalize w.alloc (.cells #[.int .i64 0,.slice none 0 0] 109)=w1 at HW ⊢
 obtain ⟨r0,r1,r2,r3,r4⟩:=HCL.out _ HW.out.1
 go_quiet (fail)
 have hmz:(b1:Int)*16777216+(b2:Int)*65536+(b3:Int)*256+(b4:Int)=(m:Int):=by have:=HU.out;omega
 rw [hmz]
 refine (‹∀(a:Act) (w:World),Code.wp Tryz.prog _ _ a w->_› _ _ ?_)
 have H2:Hid (w.grownBy (w1.drewN nq) none/\Blk (w1.drewN nq) w.heap.size 109 #[.int .i64 0,.slice none 0 0]):=⟨aa HW.out.1 (ax _ _ _),HW.out.2.grown (ax _ _ none) (by simp)⟩
 generalize w1.drewN nq=w2 at H2 ⊢
 clear HW r0 r1 r2 r3 r4 hmz
 have q0:=H2.out.2.cell 0
 have q1:=H2.out.2.cell 1
 have f0:=H2.out.2.free 0
 have f1:=H2.out.2.free 1
 simp at q0 q1
 have hm1:¬2147483647<m:=by have:=HX1.out;rw [HK.out.2] at this;exact this
 have hm2':¬n<9+m:=by have:=HX2.out;rw [HK.out.2,HN.out] at this;exact this
 have hmi:¬(2147483647:Int)<(m:Int):=by omega
 have hmj:(m:Int)<=2147483647:=by omega
 obtain ⟨p,hp⟩:∃p,9+m=p:=⟨_,rfl⟩
 have HP:Hid _:=hp
 have hpi:(9:Int)+(m:Int)=(p:Int):=by omega
 have hm2:¬n<p:=by omega
 have hmk:¬(n:Int)<(p:Int):=by omega
 have HSP:Hid (spl L=0):=by unfold Hid spl;rw [HN.out,HK.out.2,if_neg (by omega),if_neg hm1,if_neg (by omega)]
 have HBL:Hid ((aG L).length=m):=by have:=(cj HSP.out).1;rw [HK.out.2] at this;exact this
 have hpc:(p:Int)<=(cap:Int):=by omega
 have hpc2:p<=cap:=by omega
 have h9p:(9:Int)<=(p:Int):=by omega
 have h9q:9<=p:=by omega
 have h0p:(0:Int)<=(p:Int):=by omega
 clear q0 q1 f0 f1
 obtain rfl:m=0:=by omega
 obtain rfl:n=9:=by omega
 obtain rfl:p=9:=by omega
 subst hc9
 have w9:IntKind.i64.wrap 9=9:=by decide
 have t00:b0<256:=t0
 have wb0:IntKind.i64.wrap (b0:Int)=(b0:Int):=by rw [IntKind.wrap_i64];omega
 have HB:Hid (Seg w2 (.slice (some ⟨b,off,none⟩) 0 0) (aG L)):=by
  have h9:=(by have:=bk 9 (by rw [HN.out];omega) rfl (by rw [HN.out];exact HS.out.grown H2.out.1:Seg w2 (.slice (some ⟨b,off,none⟩) L.length 9) L);rw [HN.out] at this;exact this:Seg w2 (.slice (some ⟨b,off,none⟩) 0 0) (L.drop 9))
  unfold aG
  rw [HK.out.2]
  have hl:(L.drop 9).length=0:=by rw [List.length_drop,HN.out]
  exact bB 0 (by rw [hl];omega) (by rw [hl];exact h9)
 go_upto_region 8 with fail
 refine wp_region_lit ?_
 refine wpList_plain rfl fun K1 hK1=>?_
 have HK1:Hid _:=hK1
 clear hK1
 go_wp2_with fail
 refine HK1.out _ _ ?_
 clear HK1 K1
 refine wpList_plain rfl fun K1 hK1=>?_
 have HK1:Hid _:=hK1
 clear hK1
 go_wp2_with fail
 refine HK1.out _ _ ?_
 clear HK1 K1
 refine wpList_plain rfl fun K1 hK1=>?_
 have HK1:Hid _:=hK1
 clear hK1
 go_wp2_with fail
 refine HK1.out _ _ ?_
 clear HK1 K1
 refine wpList_plain rfl fun K1 hK1=>?_
 have HK1:Hid _:=hK1
 clear hK1
 go_wp2_with fail
 refine HK1.out _ _ ?_
 clear HK1 K1
 refine wpList_plain rfl fun K1 hK1=>?_
 have HK1:Hid _:=hK1
 clear hK1
 refine fJ _ _ _ rfl w2.heap.size (.slice none 0 0) [] _ (aG L) rfl rfl (Own.nil _ _) HB.out (by rw [HBL.out];simp only [List.length_nil];omega) (Nat.le_refl _) ?_
 intro v3 w3 o3 g3 l3
 refine HK1.out _ _ ?_
 clear HK1 K1
 simp only [Act.put,List.setIfInBounds_toArray,List.set_cons_zero,List.set_cons_succ]
 have H3:Hid (Own w3 w2.heap.size v3 (aG L)/\w2.grownBy w3 none):=⟨by rw [List.nil_append] at o3;exact o3,g3⟩
 clear o3 g3 l3
 obtain ⟨a3,c3,hv3⟩:=H3.out.1.seg.shape
 rw [HBL.out] at hv3
 subst hv3
 go_wp2_with fail
 have HQ:Hid (∀x:World,w3.grownBy x none->x.cell? ⟨b,off,none⟩=some (.int .u8 b0)/\(convert 23 9 (.slice (some ⟨b,off,none⟩) 9 9)).run Tryz.prog x=.ok (.string ⟨(L.take 9).toArray⟩) x):=fun x hx=>by
  have g:=aa H2.out.1 (aa H3.out.2 hx)
  refine ⟨(HCL.out x g).1,aJ ?_⟩
  exact bB 9 (by rw [HN.out];omega) (by rw [HN.out];exact HS.out.grown g)
 obtain ⟨S1,hS1⟩:∃S1:ByteArray,⟨(L.take 9).toArray⟩=S1:=⟨_,rfl⟩
 obtain ⟨S2,hS2⟩:∃S2:ByteArray,⟨(frm b0 (aG L)).toArray⟩=S2:=⟨_,rfl⟩
 have HSS:Hid (S2=S1<->L.take 9=hdr (aW L) (aG L)):=by
  unfold Hid
  rw [<-hS1,<-hS2,<-ia (by rw [HK.out.2,HN.out];omega),HK.out.1,HK.out.2,show 9+0=9 from rfl]
  simp
 have HTT:Hid (S2.toList=S1.toList->S2=S1):=by
  unfold Hid
  rw [<-hS1,<-hS2,ByteArray.toList_eq,ByteArray.toList_eq]
  intro h
  simpa using h
 have HS2:Hid _:=hS2
 rw [hS1] at HQ
 clear hS1 hS2
 have heq:¬S2=S1:=fun h=>HX3.out (HSS.out.1 h)
 have HC:Hid (code L=141):=by unfold Hid code;rw [if_neg (by simpa using HSP.out),if_neg (fun h=>heq (HSS.out.2 h))]
 have hte:(S2.toList==S1.toList)=false:=by
  have h1:¬S2.toList=S1.toList:=fun h=>heq (HTT.out h)
  simpa using h1
 refine wp_region_noPanic ?_
 refine am 1000 (fun x=>w3.grownBy x none) (by kernel_rfl) ?_
 have J:Idx [0,1,2,3,4,7,8,9,10,11]:=trivial
 iterate 10 (refine tK J (af _ _) rfl rfl (fun wk hk=>by obtain ⟨k0,k1⟩:=HQ.out wk hk;go_simp;try rfl) ?_;replace J:=J.tl;try simp only [pN])
 refine wO 5 rfl fun K hK=>?_
 go_simp
 refine (fM b0 _ (aG L) _ t0 (H3.out.1.seg.grown (af _ _)) (by rw [HBL.out];omega)).mono ?_
 rintro e w4 ⟨u4,rfl,o4,g4⟩
 have G4:Hid (w3.grownBy w4 none):=aa (af _ _) g4
 have HQ4:Hid (∀x:World,w4.grownBy x none->(convert 23 9 u4).run Tryz.prog x=.ok (.string S2) x):=fun x hx=>by rw [<-HS2.out];exact aJ (o4.seg.grown hx)
 clear o4 g4
 go_wp2_with fail
 refine hK.out _ _ (fun _=>G4.out) ?_
 clear hK K
 try simp only [pN]
 refine wO 6 rfl fun K hK=>?_
 have cv:=HQ4.out _ (aj _ none)
 go_wp2_with fail
 refine hK.out _ _ (fun _=>G4.out) ?_
 clear hK K
 try simp only [pN]
 refine tS 12 (G4.out) rfl rfl (fun wk hk=>by obtain ⟨k0,k1⟩:=HQ.out wk hk;go_simp;try rfl) ?_
 try simp only [pN]
 refine wD ?_
 refine (‹∀(a:Act) (w:World),Code.wp Tryz.prog _ _ a w->_› _ _ ?_)
 have H5:Hid (w.grownBy w4 none/\Blk w4 w.heap.size 109 #[.int .i64 0,.slice none 0 0]):=⟨aa H2.out.1 (aa H3.out.2 G4.out),(H2.out.2.grown H3.out.2 (by simp)).grown G4.out (by simp)⟩
 have q0:=H5.out.2.cell 0
 have q1:=H5.out.2.cell 1
 have f0:=H5.out.2.free 0
 have f1:=H5.out.2.free 1
 simp at q0 q1
 go_wp2_with fail
 refine bodyPost_ret (ew rfl (eH (b_ _ _ H5.out.2)) rfl rfl rfl) rfl ?_
 exact ⟨ck _ _ H5.out.1 (Nat.le_refl _),fun _=>by rw [HC.out];rfl,fun h=>absurd h (by rw [HC.out];decide)⟩
theorem ie (ao:Option Addr)(cap:Nat)(L:List UInt8)(w:World)(hs:Seg w (.slice ao L.length cap) L)(hL:9<=L.length)(hmax:L.length<=140737488355328)(HH1:¬2147483647<ba L)(HH2:¬L.length<9+ba L)(hc9:¬cap=9)(HH3:L.take 9=hdr (aW L) (aG L)):Calls Tryz.prog 86 #[.slice ao L.length cap] w (eA L w):=by
 have HX1:Hid _:=HH1
 have HX2:Hid _:=HH2
 have HX3:Hid _:=HH3
 clear HH1 HH2 HH3
 obtain ⟨n,hn⟩:∃n,L.length=n:=⟨_,rfl⟩
 have HS:Hid (Seg w (.slice ao n cap) L):=by rw [<-hn];exact hs
 have HN:Hid _:=hn
 have hcap:n<=cap/\cap<=9223372036854775807/\∃b off,ao=some ⟨b,off,none⟩/\∀j (hj:j<L.length),w.cell? ⟨b,off+j,none⟩=some (.int .u8 (L[j].toNat:Int)):=by
  obtain ⟨ao',cap',hv,h1,h2,h3,h4⟩:=hs
  simp at hv
  obtain ⟨rfl,rfl⟩:=hv
  obtain ⟨b,off,e,_⟩:=h4 0 (by omega)
  unfold maxLen at h2
  refine ⟨by omega,by omega,b,off,e,fun j hj=>?_⟩
  obtain ⟨b',off',e',hc⟩:=h4 j hj
  rw [e] at e'
  simp at e'
  obtain ⟨rfl,rfl⟩:=e'
  exact hc
 obtain ⟨hcap,hcap2,b,off,rfl,hcells⟩:=hcap
 have HCS:Hid _:=hcells
 rw [hn] at hL hmax ⊢
 clear hn hs hcells
 obtain ⟨a0,a1,a2,a3,a4,ha⟩:∃a0 a1 a2 a3 a4:UInt8,L[0]? = some a0/\L[1]? = some a1/\L[2]? = some a2/\L[3]? = some a3/\L[4]? = some a4:=by
  have hl:=HN.out
  exact ⟨L[0],L[1],L[2],L[3],L[4],by simp,by simp,by simp,by simp,by simp⟩
 have HK:Hid (aW L=a0.toNat/\ba L=unbe a1 a2 a3 a4):=by
  obtain ⟨h0,h1,h2,h3,h4⟩:=ha
  unfold Hid aW ba
  simp [h0,h1,h2,h3,h4]
 have HCL:Hid (∀x:World,w.grownBy x none->x.cell? ⟨b,off,none⟩=some (.int .u8 a0.toNat)/\x.cell? ⟨b,off+1,none⟩=some (.int .u8 a1.toNat)/\x.cell? ⟨b,off+2,none⟩=some (.int .u8 a2.toNat)/\x.cell? ⟨b,off+3,none⟩=some (.int .u8 a3.toNat)/\x.cell? ⟨b,off+4,none⟩=some (.int .u8 a4.toNat)):=fun x hx=>by
  obtain ⟨h0,h1,h2,h3,h4⟩:=ha
  have hl:=HN.out
  have q:∀j c,L[j]? = some c->x.cell? ⟨b,off+j,none⟩=some (.int .u8 c.toNat):=fun j c hj=>by
   obtain ⟨hj1,hj2⟩:=List.getElem?_eq_some_iff.1 hj
   have:=hx.cell (HCS.out j hj1) (by simp)
   rw [hj2] at this
   exact this
  exact ⟨q 0 a0 h0,q 1 a1 h1,q 2 a2 h2,q 3 a3 h3,q 4 a4 h4⟩
 clear ha
 have t0:=a0.toNat_lt
 have t1:=a1.toNat_lt
 have t2:=a2.toNat_lt
 have t3:=a3.toNat_lt
 have t4:=a4.toNat_lt
 have hU:unbe a1 a2 a3 a4=a1.toNat*16777216+a2.toNat*65536+a3.toNat*256+a4.toNat:=rfl
 obtain ⟨m,hm⟩:∃m,unbe a1 a2 a3 a4=m:=⟨_,rfl⟩
 rw [hm] at HK hU
 have hml:m<4294967296:=by rw [<-hm];exact fk _ _ _ _
 clear hm
 generalize a0.toNat=b0 at *
 generalize a1.toNat=b1 at *
 generalize a2.toNat=b2 at *
 generalize a3.toNat=b3 at *
 generalize a4.toNat=b4 at *
 have HU:Hid _:=hU
 clear hU
 have hi:¬(n:Int)<9:=by omega
 have n0:(0:Int)<(n:Int):=by omega
 have n1:(1:Int)<(n:Int):=by omega
 have n2:(2:Int)<(n:Int):=by omega
 have n3:(3:Int)<(n:Int):=by omega
 have n4:(4:Int)<(n:Int):=by omega
 go_enter Tryz.func86,Tryz.ntmps86
 go_wp2_with fail
 have HW:Hid (w.grownBy (w.alloc (.cells #[.int .i64 0,.slice none 0 0] 109)) none/\Blk (w.alloc (.cells #[.int .i64 0,.slice none 0 0] 109)) w.heap.size 109 #[.int .i64 0,.slice none 0 0]):=⟨World.grownBy_alloc _ _ _,heap_alloc_new _ _⟩
 generalize w.alloc (.cells #[.int .i64 0,.slice none 0 0] 109)=w1 at HW ⊢
 obtain ⟨r0,r1,r2,r3,r4⟩:=HCL.out _ HW.out.1
 go_quiet (fail)
 have hmz:(b1:Int)*16777216+(b2:Int)*65536+(b3:Int)*256+(b4:Int)=(m:Int):=by have:=HU.out;omega
 rw [hmz]
 refine (‹∀(a:Act) (w:World),Code.wp Tryz.prog _ _ a w->_› _ _ ?_)
 have H2:Hid (w.grownBy (w1.drewN nq) none/\Blk (w1.drewN nq) w.heap.size 109 #[.int .i64 0,.slice none 0 0]):=⟨aa HW.out.1 (ax _ _ _),HW.out.2.grown (ax _ _ none) (by simp)⟩
 generalize w1.drewN nq=w2 at H2 ⊢
 clear HW r0 r1 r2 r3 r4 hmz
 have q0:=H2.out.2.cell 0
 have q1:=H2.out.2.cell 1
 have f0:=H2.out.2.free 0
 have f1:=H2.out.2.free 1
 simp at q0 q1
 have hm1:¬2147483647<m:=by have:=HX1.out;rw [HK.out.2] at this;exact this
 have hm2':¬n<9+m:=by have:=HX2.out;rw [HK.out.2,HN.out] at this;exact this
 have hmi:¬(2147483647:Int)<(m:Int):=by omega
 have hmj:(m:Int)<=2147483647:=by omega
 obtain ⟨p,hp⟩:∃p,9+m=p:=⟨_,rfl⟩
 have HP:Hid _:=hp
 have hpi:(9:Int)+(m:Int)=(p:Int):=by omega
 have hm2:¬n<p:=by omega
 have hmk:¬(n:Int)<(p:Int):=by omega
 have HSP:Hid (spl L=0):=by unfold Hid spl;rw [HN.out,HK.out.2,if_neg (by omega),if_neg hm1,if_neg (by omega)]
 have HBL:Hid ((aG L).length=m):=by have:=(cj HSP.out).1;rw [HK.out.2] at this;exact this
 have hpc:(p:Int)<=(cap:Int):=by omega
 have hpc2:p<=cap:=by omega
 have h9p:(9:Int)<=(p:Int):=by omega
 have h9q:9<=p:=by omega
 have h0p:(0:Int)<=(p:Int):=by omega
 clear q0 q1 f0 f1
 have hmp:p-9=m:=by omega
 have n0n:0<n:=by omega
 have wp9:IntKind.i64.wrap (p:Int)=(p:Int):=by rw [IntKind.wrap_i64];omega
 clear hp
 have t00:b0<256:=t0
 have wb0:IntKind.i64.wrap (b0:Int)=(b0:Int):=by rw [IntKind.wrap_i64];omega
 have HB:Hid (Seg w2 (.slice (some ⟨b,off+9,none⟩) m (cap-9)) (aG L)):=by
  have h9:=(by have:=bC 9 (by rw [HN.out];omega) (by rw [HN.out];exact HS.out.grown H2.out.1:Seg w2 (.slice (some ⟨b,off,none⟩) L.length cap) L);rw [HN.out] at this;exact this:Seg w2 (.slice (some ⟨b,off+9,none⟩) (n-9) (cap-9)) (L.drop 9))
  unfold aG
  rw [HK.out.2]
  have hl:(L.drop 9).length=n-9:=by rw [List.length_drop,HN.out]
  exact bB m (by rw [hl];omega) (by rw [hl];exact h9)
 go_upto_region 8 with fail
 refine wp_region_lit ?_
 refine wpList_plain rfl fun K1 hK1=>?_
 have HK1:Hid _:=hK1
 clear hK1
 go_wp2_with fail
 refine HK1.out _ _ ?_
 clear HK1 K1
 refine wpList_plain rfl fun K1 hK1=>?_
 have HK1:Hid _:=hK1
 clear hK1
 go_wp2_with fail
 refine HK1.out _ _ ?_
 clear HK1 K1
 refine wpList_plain rfl fun K1 hK1=>?_
 have HK1:Hid _:=hK1
 clear hK1
 go_wp2_with fail
 refine HK1.out _ _ ?_
 clear HK1 K1
 refine wpList_plain rfl fun K1 hK1=>?_
 have HK1:Hid _:=hK1
 clear hK1
 go_wp2_with fail
 refine HK1.out _ _ ?_
 clear HK1 K1
 refine wpList_plain rfl fun K1 hK1=>?_
 have HK1:Hid _:=hK1
 clear hK1
 refine fJ _ _ _ rfl w2.heap.size (.slice none 0 0) [] _ (aG L) rfl rfl (Own.nil _ _) HB.out (by rw [HBL.out];simp only [List.length_nil];omega) (Nat.le_refl _) ?_
 intro v3 w3 o3 g3 l3
 refine HK1.out _ _ ?_
 clear HK1 K1
 simp only [Act.put,List.setIfInBounds_toArray,List.set_cons_zero,List.set_cons_succ]
 have H3:Hid (Own w3 w2.heap.size v3 (aG L)/\w2.grownBy w3 none):=⟨by rw [List.nil_append] at o3;exact o3,g3⟩
 clear o3 g3 l3
 obtain ⟨a3,c3,hv3⟩:=H3.out.1.seg.shape
 rw [HBL.out] at hv3
 subst hv3
 go_wp2_with fail
 have HQ:Hid (∀x:World,w3.grownBy x none->x.cell? ⟨b,off,none⟩=some (.int .u8 b0)/\(convert 23 9 (.slice (some ⟨b,off,none⟩) p cap)).run Tryz.prog x=.ok (.string ⟨(L.take p).toArray⟩) x):=fun x hx=>by
  have g:=aa H2.out.1 (aa H3.out.2 hx)
  refine ⟨(HCL.out x g).1,aJ ?_⟩
  exact bB p (by rw [HN.out];omega) (by rw [HN.out];exact HS.out.grown g)
 obtain ⟨S1,hS1⟩:∃S1:ByteArray,⟨(L.take p).toArray⟩=S1:=⟨_,rfl⟩
 obtain ⟨S2,hS2⟩:∃S2:ByteArray,⟨(frm b0 (aG L)).toArray⟩=S2:=⟨_,rfl⟩
 have HSS:Hid (S2=S1<->L.take 9=hdr (aW L) (aG L)):=by
  unfold Hid
  rw [<-hS1,<-hS2,<-ia (by rw [HK.out.2,HN.out];omega),HK.out.1,HK.out.2,HP.out]
  simp
 have HTT:Hid (S2.toList=S1.toList->S2=S1):=by
  unfold Hid
  rw [<-hS1,<-hS2,ByteArray.toList_eq,ByteArray.toList_eq]
  intro h
  simpa using h
 have HS2:Hid _:=hS2
 rw [hS1] at HQ
 clear hS1 hS2
 have heq:S2=S1:=HSS.out.2 HX3.out
 have HC:Hid (code L=0):=by unfold Hid code;rw [if_neg (by simpa using HSP.out),if_pos (HSS.out.1 heq)]
 have hte:S2.toList=S1.toList:=by rw [heq]
 refine wp_region_noPanic ?_
 refine am 1000 (fun x=>w3.grownBy x none) (by kernel_rfl) ?_
 have J:Idx [0,1,2,3,4,7,8,9,10,11]:=trivial
 iterate 10 (refine tK J (af _ _) rfl rfl (fun wk hk=>by obtain ⟨k0,k1⟩:=HQ.out wk hk;go_simp;try rfl) ?_;replace J:=J.tl;try simp only [pN])
 refine wO 5 rfl fun K hK=>?_
 go_simp
 refine (fM b0 _ (aG L) _ t0 (H3.out.1.seg.grown (af _ _)) (by rw [HBL.out];omega)).mono ?_
 rintro e w4 ⟨u4,rfl,o4,g4⟩
 have G4:Hid (w3.grownBy w4 none):=aa (af _ _) g4
 have HQ4:Hid (∀x:World,w4.grownBy x none->(convert 23 9 u4).run Tryz.prog x=.ok (.string S2) x):=fun x hx=>by rw [<-HS2.out];exact aJ (o4.seg.grown hx)
 clear o4 g4
 go_wp2_with fail
 refine hK.out _ _ (fun _=>G4.out) ?_
 clear hK K
 try simp only [pN]
 refine wO 6 rfl fun K hK=>?_
 have cv:=HQ4.out _ (aj _ none)
 go_wp2_with fail
 refine hK.out _ _ (fun _=>G4.out) ?_
 clear hK K
 try simp only [pN]
 refine tS 12 (G4.out) rfl rfl (fun wk hk=>by obtain ⟨k0,k1⟩:=HQ.out wk hk;go_simp;try rfl) ?_
 try simp only [pN]
 refine wD ?_
 refine (‹∀(a:Act) (w:World),Code.wp Tryz.prog _ _ a w->_› _ _ ?_)
 obtain ⟨r0,_⟩:=HQ.out _ G4.out
 have H5:Hid (w.grownBy w4 none/\Blk w4 w.heap.size 109 #[.int .i64 0,.slice none 0 0]/\Own w4 w2.heap.size (.slice a3 m c3) (aG L)):=⟨aa H2.out.1 (aa H3.out.2 G4.out),(H2.out.2.grown H3.out.2 (by simp)).grown G4.out (by simp),H3.out.1.grown G4.out⟩
 have q0:=H5.out.2.1.cell 0
 have q1:=H5.out.2.1.cell 1
 have f0:=H5.out.2.1.free 0
 have f1:=H5.out.2.1.free 1
 simp at q0 q1
 go_wp2_with fail
 refine bodyPost_ret (ew rfl (eH (b_ _ _ H5.out.2.1)) rfl rfl rfl) rfl ?_
 refine ⟨ck _ _ H5.out.1 (Nat.le_refl _),fun h=>absurd HC.out h,fun _=>⟨.slice a3 m c3,?_,?_⟩⟩
 ·rw [HK.out.1,HK.out.2,HP.out]
  rfl
 ·refine Own.mono (B:=w2.heap.size) (H5.out.2.2.same fun k hk=>?_) (by have:=H2.out.1.size;omega)
  have hk2:=(H5.out.2.2.lt k hk).1
  have hlt2:=H2.out.2.lt
  rw [heap_setCell_other _ _ _ _ (by simp;omega),heap_setCell_other _ _ _ _ (by simp;omega)]
theorem gJ (ao:Option Addr)(cap:Nat)(L:List UInt8)(w:World)(hs:Seg w (.slice ao L.length cap) L)(hL:9<=L.length)(hmax:L.length<=140737488355328)(HH1:¬2147483647<ba L)(HH2:¬L.length<9+ba L)(hc9:¬cap=9)(HH3:¬L.take 9=hdr (aW L) (aG L)):Calls Tryz.prog 86 #[.slice ao L.length cap] w (eA L w):=by
 have HX1:Hid _:=HH1
 have HX2:Hid _:=HH2
 have HX3:Hid _:=HH3
 clear HH1 HH2 HH3
 obtain ⟨n,hn⟩:∃n,L.length=n:=⟨_,rfl⟩
 have HS:Hid (Seg w (.slice ao n cap) L):=by rw [<-hn];exact hs
 have HN:Hid _:=hn
 have hcap:n<=cap/\cap<=9223372036854775807/\∃b off,ao=some ⟨b,off,none⟩/\∀j (hj:j<L.length),w.cell? ⟨b,off+j,none⟩=some (.int .u8 (L[j].toNat:Int)):=by
  obtain ⟨ao',cap',hv,h1,h2,h3,h4⟩:=hs
  simp at hv
  obtain ⟨rfl,rfl⟩:=hv
  obtain ⟨b,off,e,_⟩:=h4 0 (by omega)
  unfold maxLen at h2
  refine ⟨by omega,by omega,b,off,e,fun j hj=>?_⟩
  obtain ⟨b',off',e',hc⟩:=h4 j hj
  rw [e] at e'
  simp at e'
  obtain ⟨rfl,rfl⟩:=e'
  exact hc
 obtain ⟨hcap,hcap2,b,off,rfl,hcells⟩:=hcap
 have HCS:Hid _:=hcells
 rw [hn] at hL hmax ⊢
 clear hn hs hcells
 obtain ⟨a0,a1,a2,a3,a4,ha⟩:∃a0 a1 a2 a3 a4:UInt8,L[0]? = some a0/\L[1]? = some a1/\L[2]? = some a2/\L[3]? = some a3/\L[4]? = some a4:=by
  have hl:=HN.out
  exact ⟨L[0],L[1],L[2],L[3],L[4],by simp,by simp,by simp,by simp,by simp⟩
 have HK:Hid (aW L=a0.toNat/\ba L=unbe a1 a2 a3 a4):=by
  obtain ⟨h0,h1,h2,h3,h4⟩:=ha
  unfold Hid aW ba
  simp [h0,h1,h2,h3,h4]
 have HCL:Hid (∀x:World,w.grownBy x none->x.cell? ⟨b,off,none⟩=some (.int .u8 a0.toNat)/\x.cell? ⟨b,off+1,none⟩=some (.int .u8 a1.toNat)/\x.cell? ⟨b,off+2,none⟩=some (.int .u8 a2.toNat)/\x.cell? ⟨b,off+3,none⟩=some (.int .u8 a3.toNat)/\x.cell? ⟨b,off+4,none⟩=some (.int .u8 a4.toNat)):=fun x hx=>by
  obtain ⟨h0,h1,h2,h3,h4⟩:=ha
  have hl:=HN.out
  have q:∀j c,L[j]? = some c->x.cell? ⟨b,off+j,none⟩=some (.int .u8 c.toNat):=fun j c hj=>by
   obtain ⟨hj1,hj2⟩:=List.getElem?_eq_some_iff.1 hj
   have:=hx.cell (HCS.out j hj1) (by simp)
   rw [hj2] at this
   exact this
  exact ⟨q 0 a0 h0,q 1 a1 h1,q 2 a2 h2,q 3 a3 h3,q 4 a4 h4⟩
 clear ha
 have t0:=a0.toNat_lt
 have t1:=a1.toNat_lt
 have t2:=a2.toNat_lt
 have t3:=a3.toNat_lt
 have t4:=a4.toNat_lt
 have hU:unbe a1 a2 a3 a4=a1.toNat*16777216+a2.toNat*65536+a3.toNat*256+a4.toNat:=rfl
 obtain ⟨m,hm⟩:∃m,unbe a1 a2 a3 a4=m:=⟨_,rfl⟩
 rw [hm] at HK hU
 have hml:m<4294967296:=by rw [<-hm];exact fk _ _ _ _
 clear hm
 generalize a0.toNat=b0 at *
 generalize a1.toNat=b1 at *
 generalize a2.toNat=b2 at *
 generalize a3.toNat=b3 at *
 generalize a4.toNat=b4 at *
 have HU:Hid _:=hU
 clear hU
 have hi:¬(n:Int)<9:=by omega
 have n0:(0:Int)<(n:Int):=by omega
 have n1:(1:Int)<(n:Int):=by omega
 have n2:(2:Int)<(n:Int):=by omega
 have n3:(3:Int)<(n:Int):=by omega
 have n4:(4:Int)<(n:Int):=by omega
 go_enter Tryz.func86,Tryz.ntmps86
 go_wp2_with fail
 have HW:Hid (w.grownBy (w.alloc (.cells #[.int .i64 0,.slice none 0 0] 109)) none/\Blk (w.alloc (.cells #[.int .i64 0,.slice none 0 0] 109)) w.heap.size 109 #[.int .i64 0,.slice none 0 0]):=⟨World.grownBy_alloc _ _ _,heap_alloc_new _ _⟩
 generalize w.alloc (.cells #[.int .i64 0,.slice none 0 0] 109)=w1 at HW ⊢
 obtain ⟨r0,r1,r2,r3,r4⟩:=HCL.out _ HW.out.1
 go_quiet (fail)
 have hmz:(b1:Int)*16777216+(b2:Int)*65536+(b3:Int)*256+(b4:Int)=(m:Int):=by have:=HU.out;omega
 rw [hmz]
 refine (‹∀(a:Act) (w:World),Code.wp Tryz.prog _ _ a w->_› _ _ ?_)
 have H2:Hid (w.grownBy (w1.drewN nq) none/\Blk (w1.drewN nq) w.heap.size 109 #[.int .i64 0,.slice none 0 0]):=⟨aa HW.out.1 (ax _ _ _),HW.out.2.grown (ax _ _ none) (by simp)⟩
 generalize w1.drewN nq=w2 at H2 ⊢
 clear HW r0 r1 r2 r3 r4 hmz
 have q0:=H2.out.2.cell 0
 have q1:=H2.out.2.cell 1
 have f0:=H2.out.2.free 0
 have f1:=H2.out.2.free 1
 simp at q0 q1
 have hm1:¬2147483647<m:=by have:=HX1.out;rw [HK.out.2] at this;exact this
 have hm2':¬n<9+m:=by have:=HX2.out;rw [HK.out.2,HN.out] at this;exact this
 have hmi:¬(2147483647:Int)<(m:Int):=by omega
 have hmj:(m:Int)<=2147483647:=by omega
 obtain ⟨p,hp⟩:∃p,9+m=p:=⟨_,rfl⟩
 have HP:Hid _:=hp
 have hpi:(9:Int)+(m:Int)=(p:Int):=by omega
 have hm2:¬n<p:=by omega
 have hmk:¬(n:Int)<(p:Int):=by omega
 have HSP:Hid (spl L=0):=by unfold Hid spl;rw [HN.out,HK.out.2,if_neg (by omega),if_neg hm1,if_neg (by omega)]
 have HBL:Hid ((aG L).length=m):=by have:=(cj HSP.out).1;rw [HK.out.2] at this;exact this
 have hpc:(p:Int)<=(cap:Int):=by omega
 have hpc2:p<=cap:=by omega
 have h9p:(9:Int)<=(p:Int):=by omega
 have h9q:9<=p:=by omega
 have h0p:(0:Int)<=(p:Int):=by omega
 clear q0 q1 f0 f1
 have hmp:p-9=m:=by omega
 have n0n:0<n:=by omega
 have wp9:IntKind.i64.wrap (p:Int)=(p:Int):=by rw [IntKind.wrap_i64];omega
 clear hp
 have t00:b0<256:=t0
 have wb0:IntKind.i64.wrap (b0:Int)=(b0:Int):=by rw [IntKind.wrap_i64];omega
 have HB:Hid (Seg w2 (.slice (some ⟨b,off+9,none⟩) m (cap-9)) (aG L)):=by
  have h9:=(by have:=bC 9 (by rw [HN.out];omega) (by rw [HN.out];exact HS.out.grown H2.out.1:Seg w2 (.slice (some ⟨b,off,none⟩) L.length cap) L);rw [HN.out] at this;exact this:Seg w2 (.slice (some ⟨b,off+9,none⟩) (n-9) (cap-9)) (L.drop 9))
  unfold aG
  rw [HK.out.2]
  have hl:(L.drop 9).length=n-9:=by rw [List.length_drop,HN.out]
  exact bB m (by rw [hl];omega) (by rw [hl];exact h9)
 go_upto_region 8 with fail
 refine wp_region_lit ?_
 refine wpList_plain rfl fun K1 hK1=>?_
 have HK1:Hid _:=hK1
 clear hK1
 go_wp2_with fail
 refine HK1.out _ _ ?_
 clear HK1 K1
 refine wpList_plain rfl fun K1 hK1=>?_
 have HK1:Hid _:=hK1
 clear hK1
 go_wp2_with fail
 refine HK1.out _ _ ?_
 clear HK1 K1
 refine wpList_plain rfl fun K1 hK1=>?_
 have HK1:Hid _:=hK1
 clear hK1
 go_wp2_with fail
 refine HK1.out _ _ ?_
 clear HK1 K1
 refine wpList_plain rfl fun K1 hK1=>?_
 have HK1:Hid _:=hK1
 clear hK1
 go_wp2_with fail
 refine HK1.out _ _ ?_
 clear HK1 K1
 refine wpList_plain rfl fun K1 hK1=>?_
 have HK1:Hid _:=hK1
 clear hK1
 refine fJ _ _ _ rfl w2.heap.size (.slice none 0 0) [] _ (aG L) rfl rfl (Own.nil _ _) HB.out (by rw [HBL.out];simp only [List.length_nil];omega) (Nat.le_refl _) ?_
 intro v3 w3 o3 g3 l3
 refine HK1.out _ _ ?_
 clear HK1 K1
 simp only [Act.put,List.setIfInBounds_toArray,List.set_cons_zero,List.set_cons_succ]
 have H3:Hid (Own w3 w2.heap.size v3 (aG L)/\w2.grownBy w3 none):=⟨by rw [List.nil_append] at o3;exact o3,g3⟩
 clear o3 g3 l3
 obtain ⟨a3,c3,hv3⟩:=H3.out.1.seg.shape
 rw [HBL.out] at hv3
 subst hv3
 go_wp2_with fail
 have HQ:Hid (∀x:World,w3.grownBy x none->x.cell? ⟨b,off,none⟩=some (.int .u8 b0)/\(convert 23 9 (.slice (some ⟨b,off,none⟩) p cap)).run Tryz.prog x=.ok (.string ⟨(L.take p).toArray⟩) x):=fun x hx=>by
  have g:=aa H2.out.1 (aa H3.out.2 hx)
  refine ⟨(HCL.out x g).1,aJ ?_⟩
  exact bB p (by rw [HN.out];omega) (by rw [HN.out];exact HS.out.grown g)
 obtain ⟨S1,hS1⟩:∃S1:ByteArray,⟨(L.take p).toArray⟩=S1:=⟨_,rfl⟩
 obtain ⟨S2,hS2⟩:∃S2:ByteArray,⟨(frm b0 (aG L)).toArray⟩=S2:=⟨_,rfl⟩
 have HSS:Hid (S2=S1<->L.take 9=hdr (aW L) (aG L)):=by
  unfold Hid
  rw [<-hS1,<-hS2,<-ia (by rw [HK.out.2,HN.out];omega),HK.out.1,HK.out.2,HP.out]
  simp
 have HTT:Hid (S2.toList=S1.toList->S2=S1):=by
  unfold Hid
  rw [<-hS1,<-hS2,ByteArray.toList_eq,ByteArray.toList_eq]
  intro h
  simpa using h
 have HS2:Hid _:=hS2
 rw [hS1] at HQ
 clear hS1 hS2
 have heq:¬S2=S1:=fun h=>HX3.out (HSS.out.1 h)
 have HC:Hid (code L=141):=by unfold Hid code;rw [if_neg (by simpa using HSP.out),if_neg (fun h=>heq (HSS.out.2 h))]
 have hte:(S2.toList==S1.toList)=false:=by
  have h1:¬S2.toList=S1.toList:=fun h=>heq (HTT.out h)
  simpa using h1
 refine wp_region_noPanic ?_
 refine am 1000 (fun x=>w3.grownBy x none) (by kernel_rfl) ?_
 have J:Idx [0,1,2,3,4,7,8,9,10,11]:=trivial
 iterate 10 (refine tK J (af _ _) rfl rfl (fun wk hk=>by obtain ⟨k0,k1⟩:=HQ.out wk hk;go_simp;try rfl) ?_;replace J:=J.tl;try simp only [pN])
 refine wO 5 rfl fun K hK=>?_
 go_simp
 refine (fM b0 _ (aG L) _ t0 (H3.out.1.seg.grown (af _ _)) (by rw [HBL.out];omega)).mono ?_
 rintro e w4 ⟨u4,rfl,o4,g4⟩
 have G4:Hid (w3.grownBy w4 none):=aa (af _ _) g4
 have HQ4:Hid (∀x:World,w4.grownBy x none->(convert 23 9 u4).run Tryz.prog x=.ok (.string S2) x):=fun x hx=>by rw [<-HS2.out];exact aJ (o4.seg.grown hx)
 clear o4 g4
 go_wp2_with fail
 refine hK.out _ _ (fun _=>G4.out) ?_
 clear hK K
 try simp only [pN]
 refine wO 6 rfl fun K hK=>?_
 have cv:=HQ4.out _ (aj _ none)
 go_wp2_with fail
 refine hK.out _ _ (fun _=>G4.out) ?_
 clear hK K
 try simp only [pN]
 refine tS 12 (G4.out) rfl rfl (fun wk hk=>by obtain ⟨k0,k1⟩:=HQ.out wk hk;go_simp;try rfl) ?_
 try simp only [pN]
 refine wD ?_
 refine (‹∀(a:Act) (w:World),Code.wp Tryz.prog _ _ a w->_› _ _ ?_)
 have H5:Hid (w.grownBy w4 none/\Blk w4 w.heap.size 109 #[.int .i64 0,.slice none 0 0]):=⟨aa H2.out.1 (aa H3.out.2 G4.out),(H2.out.2.grown H3.out.2 (by simp)).grown G4.out (by simp)⟩
 have q0:=H5.out.2.cell 0
 have q1:=H5.out.2.cell 1
 have f0:=H5.out.2.free 0
 have f1:=H5.out.2.free 1
 simp at q0 q1
 go_wp2_with fail
 refine bodyPost_ret (ew rfl (eH (b_ _ _ H5.out.2)) rfl rfl rfl) rfl ?_
 exact ⟨ck _ _ H5.out.1 (Nat.le_refl _),fun _=>by rw [HC.out];rfl,fun h=>absurd h (by rw [HC.out];decide)⟩
theorem oX (v:Value)(L:List UInt8)(w:World)(hs:Seg w v L)(hmax:L.length<=140737488355328):Calls Tryz.prog 86 #[v] w (eA L w):=by
 by_cases h:L.length<9
 ·exact mq v L w hs h
 ·obtain ⟨ao,cap,hv⟩:=hs.shape
  subst hv
  by_cases h1:2147483647<ba L
  ·exact lj ao cap L w hs (by omega) hmax h1
  ·by_cases h2:L.length<9+ba L
   ·exact lk ao cap L w hs (by omega) hmax h1 h2
   ·by_cases h3:cap=9
    ·by_cases h4:L.take 9=hdr (aW L) (aG L)
     ·exact ic ao cap L w hs (by omega) hmax h1 h2 h3 h4
     ·exact gI ao cap L w hs (by omega) hmax h1 h2 h3 h4
    ·by_cases h4:L.take 9=hdr (aW L) (aG L)
     ·exact ie ao cap L w hs (by omega) hmax h1 h2 h3 h4
     ·exact gJ ao cap L w hs (by omega) hmax h1 h2 h3 h4
end Go.Proofs.YtadhfejefpildaaGreat.Frame
