import Derived.Test.YtadhfejefpildaaGreatEb
import Derived.Deep.DeepCutAuto
set_option maxHeartbeats 8000000
set_option maxRecDepth 100000
namespace Go.Proofs.YtadhfejefpildaaGreat
open Go.RowKit Disk
open Go.Proofs.YtadhfejefpildaaGreat.Calls
open Go.Proofs.YtadhfejefpildaaGreat.Command
open Go.Proofs.YtadhfejefpildaaGreat.Frame (Frs)
theorem al2' (w:World)(A B:Array Value)(s t:Nat):∃W,(w.alloc (.cells A s)).alloc (.cells B t)=W/\Hid (Blk W w.heap.size s A/\Blk W (w.heap.size+1) t B/\w.grownBy W none/\W.heap.size=w.heap.size+2):=by
 refine ⟨_,rfl,Blk.grown (heap_alloc_new _ _) gA_ (by simp),?_,aa gA_ gA_,by simp⟩
 have:=heap_alloc_new (w.alloc (.cells A s)) (.cells B t)
 simpa [Blk] using this
def NumP (b:Nat)(L:Bs)(w:World)(x:Ending)(w':World):Prop:=w.grownBy w' (some b)/\((∃n M,numE L=some (n,M)/\x=.returned (.tuple #[.int .i64 (n:Nat),.bool true])/\RR w' b M)\/(numE L=none/\x=.returned (.tuple #[.int .i64 0,.bool false])))
theorem ks (L:Bs):(∃n:Nat,Wire.aT L=(n,4,L)/\numE L=none)\/(∃n M,Wire.aT L=(n,0,M)/\n<18446744073709551616/\((n=0/\numE L=none)\/(4611686018427387904<n/\numE L=none)\/(1<=n/\n<=4611686018427387904/\numE L=some (n,M)))):=by
 rcases dX L with ⟨_,h2,_,h4⟩ | ⟨n,k,_,h2,h3,_,h5⟩
 ·exact .inl ⟨0,h2,by unfold numE;rw [h4];rfl⟩
 ·refine .inr ⟨n,_,h3,h2,?_⟩
  unfold numE
  rw [h5]
  rcases Nat.lt_or_ge 4611686018427387904 n with h | h
  ·exact .inr (.inl ⟨h,by rw [if_neg (by omega)];rfl⟩)
  ·rw [if_pos h]
   simp only [Option.bind_some]
   by_cases h0:n=0
   ·exact .inl ⟨h0,by rw [if_pos h0]⟩
   ·exact .inr (.inr ⟨by omega,h,by rw [if_neg h0]⟩)
theorem pW (b:Nat)(L:Bs)(w:World)(hr:RR w b L):Calls Tryz.prog 104 #[.func (.func 105) #[.pointer (some ⟨b,0,none⟩)] #[]] w (NumP b L w):=by
 have H0:Hid (RR w b L):=hr
 clear hr
 go_enter Tryz.func104,Tryz.ntmps104
 go_wp2_with fail
 refine (q_ b L w H0.out).mono ?_
 rintro e w1 ⟨rfl,hR,g1⟩
 rcases ks L with ⟨n,hn,hE⟩ | ⟨n,M,hn,hlt,hE⟩
 ·rw [hn]
  have H1:Hid (NumP b L w (.returned (.tuple #[.int .i64 0,.bool false])) w1):=⟨g1,.inr ⟨hE,rfl⟩⟩
  clear hR hn hE g1 H0
  go_wp2_with fail
  go_ret2
  exact H1.out
 rw [hn] at hR ⊢
 rcases hE with ⟨h0,hE⟩ | ⟨h0,hE⟩ | ⟨h0,h1,hE⟩
 ·subst h0
  have H1:Hid (NumP b L w (.returned (.tuple #[.int .i64 0,.bool false])) w1):=⟨g1,.inr ⟨hE,rfl⟩⟩
  clear hR hn hE g1 H0
  go_wp2_with fail
  go_ret2
  exact H1.out
 ·have H1:Hid (NumP b L w (.returned (.tuple #[.int .i64 0,.bool false])) w1):=⟨g1,.inr ⟨hE,rfl⟩⟩
  have q1:((n:Int)<1)=False:=eq_false (by omega)
  have q2:((4611686018427387904:Int)<(n:Int))=True:=eq_true (by omega)
  have q3:(n=0)=False:=eq_false (by omega)
  have q4:(4611686018427387904<n)=True:=eq_true h0
  clear hR hn hE g1 H0 hlt h0
  go_wp2_with fail
  go_ret2
  exact H1.out
 ·have H1:Hid (NumP b L w (.returned (.tuple #[.int .i64 (n:Nat),.bool true])) w1):=⟨g1,.inl ⟨n,M,hE,rfl,hR⟩⟩
  have q1:((n:Int)<1)=False:=eq_false (by omega)
  have q2:((4611686018427387904:Int)<(n:Int))=False:=eq_false (by omega)
  have q3:(n=0)=False:=eq_false (by omega)
  have q4:(4611686018427387904<n)=False:=eq_false (by omega)
  have q5:IntKind.i64.wrap (n:Int)=(n:Int):=by
   unfold IntKind.wrap
   simp [IntKind.bits,IntKind.signed]
   omega
  clear hR hn hE g1 H0 hlt h0 h1
  go_wp2_with fail
  go_ret2
  exact H1.out
def wj (f:Int × Bs)(w:World)(x:Ending)(w':World):Prop:=w.grownBy w' none/\((∃e ov,bV f=some e/\x=.returned (.tuple #[entV ov e,.bool true])/\aC w' w.heap.size ov e.2.ops)\/(bV f=none/\x=.returned (.tuple #[entV (.slice none 0 0) (0,bi),.bool false])))
theorem du {k:Int}{L:Bs}(h:k=1->numE L=none):bV (k,L)=none:=by
 unfold bV
 split
 ·rename_i h1
  rw [h h1];rfl
 ·rfl
theorem kt {L M:Bs}{n:Nat}(h:numE L=some (n,M)):bV (1,L)=(pCmd M).map fun c=>((n:Int),c):=by
 unfold bV
 rw [if_pos rfl]
 simp only [h,Option.bind_some]
 cases pCmd M <;> rfl
theorem nL {L M:Bs}{n:Nat}(h:numE L=some (n,M)):L=Wire.ai n ++ M:=by
 unfold numE at h
 cases hp:pNum 4611686018427387904 L with
 | none=>rw [hp] at h;cases h
 | some y =>
  rw [hp] at h
  simp only [Option.bind_some] at h
  split at h
  ·cases h
  ·simp at h
   subst h
   exact (cq hp).1
theorem blk2 {w:World}{b t:Nat}{x y:Value}(h:Blk w b t #[x,y]):w.cell? ⟨b,0,none⟩=some x/\w.cell? ⟨b,1,none⟩=some y:=⟨h.cell 0,h.cell 1⟩
theorem blk7 {w:World}{b t:Nat}{x0 x1 x2 x3 x4 x5 x6:Value}(h:Blk w b t #[x0,x1,x2,x3,x4,x5,x6]):w.cell? ⟨b,0,none⟩=some x0/\w.cell? ⟨b,1,none⟩=some x1/\w.cell? ⟨b,2,none⟩=some x2/\w.cell? ⟨b,3,none⟩=some x3/\w.cell? ⟨b,4,none⟩=some x4/\w.cell? ⟨b,5,none⟩=some x5/\w.cell? ⟨b,6,none⟩=some x6:=⟨h.cell 0,h.cell 1,h.cell 2,h.cell 3,h.cell 4,h.cell 5,h.cell 6⟩
theorem ku {w:World}{b t:Nat}{c:Array Value}(h:Blk w b t c):w.frozen? ⟨b,0,none⟩=false/\w.frozen? ⟨b,1,none⟩=false/\w.frozen? ⟨b,2,none⟩=false/\w.frozen? ⟨b,3,none⟩=false/\w.frozen? ⟨b,4,none⟩=false/\w.frozen? ⟨b,5,none⟩=false/\w.frozen? ⟨b,6,none⟩=false:=⟨h.free 0,h.free 1,h.free 2,h.free 3,h.free 4,h.free 5,h.free 6⟩
theorem set7 {x:World}{b t:Nat}{c0 c1 c2 c3 c4 c5 c6:Value}(h:Blk x b t #[c0,c1,c2,c3,c4,c5,c6])(v0 v1 v2 v3 v4 v5 v6:Value):∃W,((((((x.setCell ⟨b,0,none⟩ v0).setCell ⟨b,1,none⟩ v1).setCell ⟨b,2,none⟩ v2).setCell ⟨b,3,none⟩ v3).setCell ⟨b,4,none⟩ v4).setCell ⟨b,5,none⟩ v5).setCell ⟨b,6,none⟩ v6=W/\Hid (Blk W b t #[v0,v1,v2,v3,v4,v5,v6]/\x.grownBy W (some b)) :=
 ⟨_,rfl,((((((h.store 0 v0).store 1 v1).store 2 v2).store 3 v3).store 4 v4).store 5 v5).store 6 v6,aa (aa (aa (aa (aa (aa (ae _ _ _ _) (ae _ _ _ _)) (ae _ _ _ _)) (ae _ _ _ _)) (ae _ _ _ _)) (ae _ _ _ _)) (ae _ _ _ _)⟩
theorem oN (b:Nat)(L:Bs)(w:World)(hr:RR w b L):Calls Tryz.prog 107 #[.pointer (some ⟨b,0,none⟩)] w fun e w'=>e=.returned (.int .i64 L.length)/\w'=w:=by
 obtain ⟨s,h1,h2,_⟩:=hr
 exact Wire.vK b L w ⟨s,h1,h2⟩
theorem vw (kd:Int)(v:Value)(L:Bs)(w:World)(hv:Seg w v L)(hL:L.length<=140737488355328):Calls Tryz.prog 81 #[.agg #[.int .i64 kd,v]] w (wj (kd,L) w):=by
 obtain ⟨ao,cap,rfl⟩:=hv.shape
 have hcl:L.length<=cap/\cap<=9223372036854775807:=by
  obtain ⟨a',c',hv',q1,q2,q3,q4⟩:=hv
  simp at hv'
  obtain ⟨rfl,rfl⟩:=hv'
  unfold maxLen at q2
  exact ⟨by omega,by omega⟩
 have H0:Hid (Seg w (.slice ao L.length cap) L):=hv
 have HL:Hid (L.length<=140737488355328):=hL
 clear hv hL
 obtain ⟨n,hn⟩:∃n,L.length=n:=⟨_,rfl⟩
 have HN:Hid (L.length=n):=hn
 rw [hn] at H0 hcl ⊢
 clear hn
 go_enter Tryz.func81,Tryz.ntmps81
 go_upto_region 1 with fail
 obtain ⟨W,hW,HW⟩:=al2' w #[.int .i64 kd,.slice ao n cap] #[.int .i64 0,.int .i64 0,.int .i64 0,.int .i64 0,.int .i64 0,.int .i64 0,.slice none 0 0] 109 34
 rw [hW]
 clear hW
 obtain ⟨c0,c1⟩:=blk2 HW.out.1
 go_wp2_with fail
 refine (np (.slice ao n cap) L W (H0.out.grown HW.out.2.2.1) HL.out).mono ?_
 rintro e w1 ⟨b,rfl,hb,hR,g1⟩
 obtain ⟨db,hdb⟩:∃x,w.heap.size=x:=⟨_,rfl⟩
 have HDB:Hid (w.heap.size=db):=hdb
 rw [hdb] at HW c0 c1 ⊢
 clear hdb
 have H1:Hid (Blk w1 db 109 #[.int .i64 kd,.slice ao n cap]/\Blk w1 (db+1) 34 #[.int .i64 0,.int .i64 0,.int .i64 0,.int .i64 0,.int .i64 0,.int .i64 0,.slice none 0 0]/\RR w1 b L/\w.grownBy w1 none/\db+2<=b/\Seg w1 (.slice ao n cap) L):=⟨HW.out.1.grown g1 (by simp),HW.out.2.1.grown g1 (by simp),hR,aa HW.out.2.2.1 g1,by have:=HW.out.2.2.2;have:=HDB.out;omega,(H0.out.grown HW.out.2.2.1).grown g1⟩
 clear hR g1 hb HW c0 c1
 go_wp2_with fail
 refine (pW b L w1 H1.out.2.2.1).mono ?_
 rintro e w2 ⟨g2,hN⟩
 have hbF:b≠db/\b≠db+1:=by have:=H1.out.2.2.2.2.1;omega
 have H2:Hid (Blk w2 db 109 #[.int .i64 kd,.slice ao n cap]/\Blk w2 (db+1) 34 #[.int .i64 0,.int .i64 0,.int .i64 0,.int .i64 0,.int .i64 0,.int .i64 0,.slice none 0 0]/\w.grownBy w2 none):=⟨H1.out.1.grown g2 (by simp;omega),H1.out.2.1.grown g2 (by simp;omega),ah H1.out.2.2.2.1 g2 (fun x hx=>by simp at hx;have:=H1.out.2.2.2.2.1;have:=HDB.out;omega)⟩
 obtain ⟨c0,c1⟩:=blk2 H2.out.1
 rcases hN with ⟨m,M,hE,rfl,hR⟩ | ⟨hE,rfl⟩
 rotate_left
 ·have HE:Hid (bV (kd,L)=none):=du fun _=>hE
  clear hE
  obtain ⟨z0,z1,z2,z3,z4,z5,z6⟩:=blk7 H2.out.2.1
  obtain ⟨f0,f1,f2,f3,f4,f5,f6⟩:=ku H2.out.2.1
  go_wp2_with fail
  obtain ⟨W7,hW7,H7⟩:=set7 H2.out.2.1 (.int .i64 0) (.int .i64 0) (.int .i64 0) (.int .i64 0) (.int .i64 0) (.int .i64 0) (.slice none 0 0)
  rw [hW7]
  obtain ⟨y0,y1,y2,y3,y4,y5,y6⟩:=blk7 H7.out.1
  exact bodyPost_ret (v:=.tuple #[.agg #[.int .i64 0,.int .i64 0,.int .i64 0,.int .i64 0,.int .i64 0,.int .i64 0,.slice none 0 0],.bool false]) (by simp [results,Tryz.results81,go_sem,y0,y1,y2,y3,y4,y5,y6]) rfl ⟨ah H2.out.2.2 H7.out.2 (fun x hx=>by simp at hx;have:=HDB.out;omega),.inr ⟨HE.out,rfl⟩⟩
 by_cases hk:kd=1
 rotate_left
 ·have HE:Hid (bV (kd,L)=none):=du fun h=>absurd h hk
  have k1:(kd=1)=False:=eq_false hk
  have k2:(kd==1)=false:=by simpa using hk
  clear hE hk hR
  obtain ⟨z0,z1,z2,z3,z4,z5,z6⟩:=blk7 H2.out.2.1
  obtain ⟨f0,f1,f2,f3,f4,f5,f6⟩:=ku H2.out.2.1
  go_wp2_with fail
  obtain ⟨W7,hW7,H7⟩:=set7 H2.out.2.1 (.int .i64 0) (.int .i64 0) (.int .i64 0) (.int .i64 0) (.int .i64 0) (.int .i64 0) (.slice none 0 0)
  rw [hW7]
  obtain ⟨y0,y1,y2,y3,y4,y5,y6⟩:=blk7 H7.out.1
  exact bodyPost_ret (v:=.tuple #[.agg #[.int .i64 0,.int .i64 0,.int .i64 0,.int .i64 0,.int .i64 0,.int .i64 0,.slice none 0 0],.bool false]) (by simp [results,Tryz.results81,go_sem,y0,y1,y2,y3,y4,y5,y6]) rfl ⟨ah H2.out.2.2 H7.out.2 (fun x hx=>by simp at hx;have:=HDB.out;omega),.inr ⟨HE.out,rfl⟩⟩
 subst hk
 have HE:Hid (bV (1,L)=(pCmd M).map fun c=>((m:Int),c)):=kt hE
 have hsp:=nL hE
 obtain ⟨k,hkk⟩:∃k,(Wire.ai m).length=k:=⟨_,rfl⟩
 have hnm:n=k+M.length:=by rw [<-HN.out,hsp,List.length_append,hkk]
 have hdr:L.drop k=M:=by rw [hsp,<-hkk];simp
 obtain ⟨q,hq⟩:∃q,M.length=q:=⟨_,rfl⟩
 have HM:Hid (M.length=q):=hq
 rw [hq] at hnm
 have HK:Hid (n=k+q/\L.drop k=M/\q<=140737488355328):=⟨hnm,hdr,by have:=HL.out;have:=HN.out;omega⟩
 have HR:Hid (RR w2 b M):=hR
 have HSD:Hid ((cap=k/\Hid (Seg w2 (.slice ao q 0) M))\/(¬cap=k/\Hid (Seg w2 (.slice (Option.map (fun x=>x.add k) ao) q (cap-k)) M))):=by
  have h1:Seg w2 (.slice ao L.length cap) L:=by rw [HN.out];exact H0.out.grown H2.out.2.2
  have h2:L.length-k=q:=by rw [HN.out];omega
  by_cases hck:cap=k
  ·have:=bk k (by rw [HN.out];omega) hck h1
   rw [h2,hdr] at this
   exact .inl ⟨hck,this⟩
  ·have:=bC k (by rw [HN.out];omega) h1
   rw [h2,hdr] at this
   exact .inr ⟨hck,this⟩
 have hkn:(k:Int)<=(n:Int):=by omega
 have hk0:(0:Int)<=(k:Int):=by omega
 have hwk:IntKind.i64.wrap (k:Int)=(k:Int):=by
  unfold IntKind.wrap
  simp [IntKind.bits,IntKind.signed]
  have:=HL.out
  have:=HN.out
  omega
 have hwk2:(n:Int)-(q:Int)=(k:Int):=by omega
 have hnk:n-k=q:=by omega
 have HC:Hid (∀y:World,w2.grownBy y none->y.cell? ⟨db,0,none⟩=some (.int .i64 1)/\y.cell? ⟨db,1,none⟩=some (.slice ao n cap)):=fun y hy=>blk2 (H2.out.1.grown hy (by simp))
 clear hE hsp hkk hnm hdr hq hR g2 hbF c1
 go_upto_region 5 with fail
 clear c0
 go_cut [7,8] (fun x y wc=>∃(xb:Nat) (o1:Option Addr) (o2 o3:Nat),x=.pointer (some ⟨xb,0,none⟩)/\y=.int .i64 (aM M).2/\Blk wc xb 32 (cmdA (.slice o1 o2 o3) (aM M).1)/\aC wc w2.heap.size (.slice o1 o2 o3) (aM M).1.ops/\w2.grownBy wc none)
 case first =>
  rcases HSD.out with ⟨hck,HS⟩ | ⟨hck,HS⟩
  all_goals
   try subst hck
   clear HSD
   refine wp_region_noPanic ?_
   refine am 1000 (fun y=>w2.grownBy y none) (by kernel_rfl) ?_
   have G0:Hid (w2.grownBy w2.drew none):=af _ _
   generalize w2.drew=wd at G0 ⊢
   have J:Idx [0,1,2,3,4,5]:=trivial
   iterate 6 (refine tK J (G0.out) rfl rfl (fun wk hk=>by obtain ⟨m0,m1⟩:=HC.out wk hk;go_simp;try rfl) ?_;replace J:=J.tl;try simp only [pN])
   refine c_ (i:=6) (j:=13) rfl rfl (by kernel_rfl) (by rfl) (by rfl) (fun K hK=>?_) (fun K hK=>?_)
   ·go_wp2_with fail
    refine (oN b M wd (HR.out.grown G0.out)).mono ?_
    rintro e wx ⟨rfl,hwx⟩
    rw [hwx,HM.out]
    clear hwx
    go_wp2_with fail
    refine hK.out _ _ (fun _=>G0.out) ?_
    clear hK K
    try simp only [pN]
    have J:Idx [7,8]:=trivial
    iterate 2 (refine tK J (G0.out) rfl rfl (fun wk hk=>by obtain ⟨m0,m1⟩:=HC.out wk hk;go_simp;try rfl) ?_;replace J:=J.tl;try simp only [pN])
    refine c_ (i:=9) (j:=13) rfl rfl (by kernel_rfl) (by rfl) (by rfl) (fun K hK=>?_) (fun K hK=>?_)
    ·go_wp2_with fail
     refine (nB _ M wd (HS.out.grown G0.out) (by rw [HM.out];exact HK.out.2.2)).mono ?_
     rintro e wd ⟨ov,rfl,oo,gg⟩
     obtain ⟨o1,o2,o3,eo,hol⟩:=aC.slice oo
     clear hol
     subst eo
     have HO:Hid (aC wd w2.heap.size (.slice o1 o2 o3) (aM M).1.ops):=oo.mono G0.out.size
     try replace HX:Hid (Blk wd xb 32 #[.int .i64 0,.int .i64 0,.int .i64 0,.int .i64 0,.int .i64 0,.slice none 0 0]):=HX.out.grown gg (by simp)
     replace G0:Hid (w2.grownBy wd none):=aa G0.out gg
     clear gg oo
     simp only [cmdV]
     go_wp2_with fail
     refine hK.out _ _ (fun _=>G0.out) ?_
     clear hK K
     try simp only [pN]
     have J:Idx [10,11,12]:=trivial
     iterate 3 (refine tK J (G0.out) rfl rfl (fun wk hk=>by obtain ⟨m0,m1⟩:=HC.out wk hk;go_simp;try rfl) ?_;replace J:=J.tl;try simp only [pN])
     refine wO 13 rfl fun K hK=>?_
     go_wp2_with fail
     obtain ⟨xb,hxb⟩:∃x,wd.heap.size=x:=⟨_,rfl⟩
     have HXB:Hid (w2.heap.size<=xb):=by rw [<-hxb];exact G0.out.size
     obtain ⟨wd,hwn,HA⟩:=al1 wd #[.int .i64 0,.int .i64 0,.int .i64 0,.int .i64 0,.int .i64 0,.slice none 0 0] 32
     rw [hwn,hxb]
     rw [hxb] at HA
     have HX:Hid (Blk wd xb 32 #[.int .i64 0,.int .i64 0,.int .i64 0,.int .i64 0,.int .i64 0,.slice none 0 0]):=HA.out.1
     try replace HO:Hid (aC wd w2.heap.size (.slice o1 o2 o3) (aM M).1.ops):=HO.out.grown HA.out.2.1
     replace G0:Hid (w2.grownBy wd none):=aa G0.out HA.out.2.1
     clear hwn hxb HA
     refine hK.out _ _ (fun _=>G0.out) ?_
     clear hK K
     try simp only [pN]
     refine wO 14 rfl fun K hK=>?_
     have f0:=HX.out.free 0
     have f1:=HX.out.free 1
     have f2:=HX.out.free 2
     have f3:=HX.out.free 3
     have f4:=HX.out.free 4
     have f5:=HX.out.free 5
     have b0:=HX.out.cell 0
     have b1:=HX.out.cell 1
     have b2:=HX.out.cell 2
     have b3:=HX.out.cell 3
     have b4:=HX.out.cell 4
     have b5:=HX.out.cell 5
     simp at b0 b1 b2 b3 b4 b5
     go_wp2_with fail
     obtain ⟨wz,hwz,HZ⟩:=set6 HX.out (.int .i64 (aM M).1.kind) (.int .i64 (aM M).1.token) (.int .i64 (aM M).1.session) (.int .i64 (aM M).1.number) (.int .i64 (aM M).1.mark) (.slice o1 o2 o3)
     rw [hwz]
     have HZ2:Hid (w2.grownBy wz none):=ah G0.out HZ.out.2 (fun x hx=>by simp at hx;have:=HXB.out;omega)
     have HZ3:Hid (aC wz w2.heap.size (.slice o1 o2 o3) (aM M).1.ops):=HO.out.set HX.out (by decide) (by decide) HZ.out.2
     clear f0 f1 f2 f3 f4 f5 b0 b1 b2 b3 b4 b5 hwz
     refine hK.out _ _ (fun _=>HZ2.out) ?_
     clear hK K
     try simp only [pN]
     have J:Idx [15]:=trivial
     iterate 1 (refine tK J (HZ2.out) rfl rfl (fun wk hk=>by obtain ⟨m0,m1⟩:=HC.out wk hk;go_simp;try rfl) ?_;replace J:=J.tl;try simp only [pN])
     refine wD ?_
     refine (‹∀(a:Act) (w:World),Met _ a w->_› _ _ ?_)
     go_meet
     case rel=>exact ⟨xb,o1,o2,o3,rfl,rfl,HZ.out.1,HZ3.out,HZ2.out⟩
    ·go_wp2_with fail
     obtain ⟨xb,hxb⟩:∃x,wd.heap.size=x:=⟨_,rfl⟩
     have HXB:Hid (w2.heap.size<=xb):=by rw [<-hxb];exact G0.out.size
     obtain ⟨wd,hwn,HA⟩:=al1 wd #[.int .i64 0,.int .i64 0,.int .i64 0,.int .i64 0,.int .i64 0,.slice none 0 0] 32
     rw [hwn,hxb]
     rw [hxb] at HA
     have HX:Hid (Blk wd xb 32 #[.int .i64 0,.int .i64 0,.int .i64 0,.int .i64 0,.int .i64 0,.slice none 0 0]):=HA.out.1
     try replace HO:Hid (aC wd w2.heap.size (.slice o1 o2 o3) (aM M).1.ops):=HO.out.grown HA.out.2.1
     replace G0:Hid (w2.grownBy wd none):=aa G0.out HA.out.2.1
     clear hwn hxb HA
     refine hK.out _ _ (fun _=>G0.out) ?_
     clear hK K
     try simp only [pN]
     refine wO 9 rfl fun K hK=>?_
     go_wp2_with fail
     refine (nB _ M wd (HS.out.grown G0.out) (by rw [HM.out];exact HK.out.2.2)).mono ?_
     rintro e wd ⟨ov,rfl,oo,gg⟩
     obtain ⟨o1,o2,o3,eo,hol⟩:=aC.slice oo
     clear hol
     subst eo
     have HO:Hid (aC wd w2.heap.size (.slice o1 o2 o3) (aM M).1.ops):=oo.mono G0.out.size
     try replace HX:Hid (Blk wd xb 32 #[.int .i64 0,.int .i64 0,.int .i64 0,.int .i64 0,.int .i64 0,.slice none 0 0]):=HX.out.grown gg (by simp)
     replace G0:Hid (w2.grownBy wd none):=aa G0.out gg
     clear gg oo
     simp only [cmdV]
     go_wp2_with fail
     refine hK.out _ _ (fun _=>G0.out) ?_
     clear hK K
     try simp only [pN]
     have J:Idx [10,11,12]:=trivial
     iterate 3 (refine tK J (G0.out) rfl rfl (fun wk hk=>by obtain ⟨m0,m1⟩:=HC.out wk hk;go_simp;try rfl) ?_;replace J:=J.tl;try simp only [pN])
     refine wO 14 rfl fun K hK=>?_
     have f0:=HX.out.free 0
     have f1:=HX.out.free 1
     have f2:=HX.out.free 2
     have f3:=HX.out.free 3
     have f4:=HX.out.free 4
     have f5:=HX.out.free 5
     have b0:=HX.out.cell 0
     have b1:=HX.out.cell 1
     have b2:=HX.out.cell 2
     have b3:=HX.out.cell 3
     have b4:=HX.out.cell 4
     have b5:=HX.out.cell 5
     simp at b0 b1 b2 b3 b4 b5
     go_wp2_with fail
     obtain ⟨wz,hwz,HZ⟩:=set6 HX.out (.int .i64 (aM M).1.kind) (.int .i64 (aM M).1.token) (.int .i64 (aM M).1.session) (.int .i64 (aM M).1.number) (.int .i64 (aM M).1.mark) (.slice o1 o2 o3)
     rw [hwz]
     have HZ2:Hid (w2.grownBy wz none):=ah G0.out HZ.out.2 (fun x hx=>by simp at hx;have:=HXB.out;omega)
     have HZ3:Hid (aC wz w2.heap.size (.slice o1 o2 o3) (aM M).1.ops):=HO.out.set HX.out (by decide) (by decide) HZ.out.2
     clear f0 f1 f2 f3 f4 f5 b0 b1 b2 b3 b4 b5 hwz
     refine hK.out _ _ (fun _=>HZ2.out) ?_
     clear hK K
     try simp only [pN]
     have J:Idx [15]:=trivial
     iterate 1 (refine tK J (HZ2.out) rfl rfl (fun wk hk=>by obtain ⟨m0,m1⟩:=HC.out wk hk;go_simp;try rfl) ?_;replace J:=J.tl;try simp only [pN])
     refine wD ?_
     refine (‹∀(a:Act) (w:World),Met _ a w->_› _ _ ?_)
     go_meet
     case rel=>exact ⟨xb,o1,o2,o3,rfl,rfl,HZ.out.1,HZ3.out,HZ2.out⟩
   ·go_wp2_with fail
    obtain ⟨xb,hxb⟩:∃x,wd.heap.size=x:=⟨_,rfl⟩
    have HXB:Hid (w2.heap.size<=xb):=by rw [<-hxb];exact G0.out.size
    obtain ⟨wd,hwn,HA⟩:=al1 wd #[.int .i64 0,.int .i64 0,.int .i64 0,.int .i64 0,.int .i64 0,.slice none 0 0] 32
    rw [hwn,hxb]
    rw [hxb] at HA
    have HX:Hid (Blk wd xb 32 #[.int .i64 0,.int .i64 0,.int .i64 0,.int .i64 0,.int .i64 0,.slice none 0 0]):=HA.out.1
    try replace HO:Hid (aC wd w2.heap.size (.slice o1 o2 o3) (aM M).1.ops):=HO.out.grown HA.out.2.1
    replace G0:Hid (w2.grownBy wd none):=aa G0.out HA.out.2.1
    clear hwn hxb HA
    refine hK.out _ _ (fun _=>G0.out) ?_
    clear hK K
    try simp only [pN]
    refine wO 6 rfl fun K hK=>?_
    go_wp2_with fail
    refine (oN b M wd (HR.out.grown G0.out)).mono ?_
    rintro e wx ⟨rfl,hwx⟩
    rw [hwx,HM.out]
    clear hwx
    go_wp2_with fail
    refine hK.out _ _ (fun _=>G0.out) ?_
    clear hK K
    try simp only [pN]
    have J:Idx [7,8]:=trivial
    iterate 2 (refine tK J (G0.out) rfl rfl (fun wk hk=>by obtain ⟨m0,m1⟩:=HC.out wk hk;go_simp;try rfl) ?_;replace J:=J.tl;try simp only [pN])
    refine wO 9 rfl fun K hK=>?_
    go_wp2_with fail
    refine (nB _ M wd (HS.out.grown G0.out) (by rw [HM.out];exact HK.out.2.2)).mono ?_
    rintro e wd ⟨ov,rfl,oo,gg⟩
    obtain ⟨o1,o2,o3,eo,hol⟩:=aC.slice oo
    clear hol
    subst eo
    have HO:Hid (aC wd w2.heap.size (.slice o1 o2 o3) (aM M).1.ops):=oo.mono G0.out.size
    try replace HX:Hid (Blk wd xb 32 #[.int .i64 0,.int .i64 0,.int .i64 0,.int .i64 0,.int .i64 0,.slice none 0 0]):=HX.out.grown gg (by simp)
    replace G0:Hid (w2.grownBy wd none):=aa G0.out gg
    clear gg oo
    simp only [cmdV]
    go_wp2_with fail
    refine hK.out _ _ (fun _=>G0.out) ?_
    clear hK K
    try simp only [pN]
    have J:Idx [10,11,12]:=trivial
    iterate 3 (refine tK J (G0.out) rfl rfl (fun wk hk=>by obtain ⟨m0,m1⟩:=HC.out wk hk;go_simp;try rfl) ?_;replace J:=J.tl;try simp only [pN])
    refine wO 14 rfl fun K hK=>?_
    have f0:=HX.out.free 0
    have f1:=HX.out.free 1
    have f2:=HX.out.free 2
    have f3:=HX.out.free 3
    have f4:=HX.out.free 4
    have f5:=HX.out.free 5
    have b0:=HX.out.cell 0
    have b1:=HX.out.cell 1
    have b2:=HX.out.cell 2
    have b3:=HX.out.cell 3
    have b4:=HX.out.cell 4
    have b5:=HX.out.cell 5
    simp at b0 b1 b2 b3 b4 b5
    go_wp2_with fail
    obtain ⟨wz,hwz,HZ⟩:=set6 HX.out (.int .i64 (aM M).1.kind) (.int .i64 (aM M).1.token) (.int .i64 (aM M).1.session) (.int .i64 (aM M).1.number) (.int .i64 (aM M).1.mark) (.slice o1 o2 o3)
    rw [hwz]
    have HZ2:Hid (w2.grownBy wz none):=ah G0.out HZ.out.2 (fun x hx=>by simp at hx;have:=HXB.out;omega)
    have HZ3:Hid (aC wz w2.heap.size (.slice o1 o2 o3) (aM M).1.ops):=HO.out.set HX.out (by decide) (by decide) HZ.out.2
    clear f0 f1 f2 f3 f4 f5 b0 b1 b2 b3 b4 b5 hwz
    refine hK.out _ _ (fun _=>HZ2.out) ?_
    clear hK K
    try simp only [pN]
    have J:Idx [15]:=trivial
    iterate 1 (refine tK J (HZ2.out) rfl rfl (fun wk hk=>by obtain ⟨m0,m1⟩:=HC.out wk hk;go_simp;try rfl) ?_;replace J:=J.tl;try simp only [pN])
    refine wD ?_
    refine (‹∀(a:Act) (w:World),Met _ a w->_› _ _ ?_)
    go_meet
    case rel=>exact ⟨xb,o1,o2,o3,rfl,rfl,HZ.out.1,HZ3.out,HZ2.out⟩
 case rest =>
  obtain ⟨xb,o1,o2,o3,rfl,rfl,hx1,hx2,hx3⟩:=hcut
  have H3:Hid (Blk wc xb 32 (cmdA (.slice o1 o2 o3) (aM M).1)/\aC wc w2.heap.size (.slice o1 o2 o3) (aM M).1.ops/\w.grownBy wc none/\Blk wc (db+1) 34 #[.int .i64 0,.int .i64 0,.int .i64 0,.int .i64 0,.int .i64 0,.int .i64 0,.slice none 0 0]):=⟨hx1,hx2,aa H2.out.2.2 hx3,H2.out.2.1.grown hx3 (by simp)⟩
  clear hx1 hx2 hx3 HC
  cases hp:pCmd M with
  | none =>
   have e1:aM M=(bi,4):=by unfold aM;rw [hp]
   rw [e1] at H3 ⊢
   have HE':Hid (bV (1,L)=none):=by unfold Hid;rw [HE.out,hp];rfl
   clear HE
   have HE:=HE'
   clear HE' hp e1
   obtain ⟨z0,z1,z2,z3,z4,z5,z6⟩:=blk7 H3.out.2.2.2
   obtain ⟨f0,f1,f2,f3,f4,f5,f6⟩:=ku H3.out.2.2.2
   go_wp2_with fail
   obtain ⟨W7,hW7,H7⟩:=set7 H3.out.2.2.2 (.int .i64 0) (.int .i64 0) (.int .i64 0) (.int .i64 0) (.int .i64 0) (.int .i64 0) (.slice none 0 0)
   rw [hW7]
   obtain ⟨y0,y1,y2,y3,y4,y5,y6⟩:=blk7 H7.out.1
   exact bodyPost_ret (v:=.tuple #[.agg #[.int .i64 0,.int .i64 0,.int .i64 0,.int .i64 0,.int .i64 0,.int .i64 0,.slice none 0 0],.bool false]) (by simp [results,Tryz.results81,go_sem,y0,y1,y2,y3,y4,y5,y6]) rfl ⟨ah H3.out.2.2.1 H7.out.2 (fun x hx=>by simp at hx;have:=HDB.out;omega),.inr ⟨HE.out,rfl⟩⟩
  | some c =>
   have e1:aM M=(c,0):=by unfold aM;rw [hp]
   rw [e1] at H3 ⊢
   have HE':Hid (bV (1,L)=some ((m:Int),c)):=by unfold Hid;rw [HE.out,hp];rfl
   clear HE
   have HE:=HE'
   clear HE' hp e1
   obtain ⟨q0,q1,q2,q3,q4,q5⟩:=CB.cells H3.out.1
   obtain ⟨z0,z1,z2,z3,z4,z5,z6⟩:=blk7 H3.out.2.2.2
   obtain ⟨f0,f1,f2,f3,f4,f5,f6⟩:=ku H3.out.2.2.2
   go_wp2_with fail
   obtain ⟨W7,hW7,H7⟩:=set7 H3.out.2.2.2 (.int .i64 (m:Int)) (.int .i64 c.kind) (.int .i64 c.token) (.int .i64 c.session) (.int .i64 c.number) (.int .i64 c.mark) (.slice o1 o2 o3)
   rw [hW7]
   obtain ⟨y0,y1,y2,y3,y4,y5,y6⟩:=blk7 H7.out.1
   exact bodyPost_ret (v:=.tuple #[.agg #[.int .i64 (m:Int),.int .i64 c.kind,.int .i64 c.token,.int .i64 c.session,.int .i64 c.number,.int .i64 c.mark,.slice o1 o2 o3],.bool true]) (by simp [results,Tryz.results81,go_sem,y0,y1,y2,y3,y4,y5,y6]) rfl ⟨ah H3.out.2.2.1 H7.out.2 (fun x hx=>by simp at hx;have:=HDB.out;omega),.inl ⟨_,_,HE.out,rfl,(H3.out.2.1.set H3.out.2.2.2 (by decide) (by decide) H7.out.2).mono H2.out.2.2.size⟩⟩
end Go.Proofs.YtadhfejefpildaaGreat
