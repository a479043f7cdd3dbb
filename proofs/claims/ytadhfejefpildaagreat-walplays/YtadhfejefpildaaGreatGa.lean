import Derived.Test.YtadhfejefpildaaGreatEh
import Derived.Test.YtadhfejefpildaaGreatRrAll
set_option maxHeartbeats 8000000
set_option maxRecDepth 100000
namespace Go.Proofs.YtadhfejefpildaaGreat
open Go.RowKit Disk
open Go.Proofs.YtadhfejefpildaaGreat.Calls
open Go.Proofs.YtadhfejefpildaaGreat.Command
open Go.Proofs.YtadhfejefpildaaGreat.Frame (Frs)
theorem fO {x:Int}(h0:0<=x)(h1:x<=4611686018427387904):IntKind.i64.wrap x=x:=by
 unfold IntKind.wrap
 simp [IntKind.bits,IntKind.signed]
 omega
def uE (f:Int × Bs)(w:World)(x:Ending)(w':World):Prop:=w.grownBy w' none/\((∃e ov,bV f=some e/\x=.returned (.tuple #[entV ov e,.bool true])/\aC w' w.heap.size ov e.2.ops)\/(bV f=none/\∃e o1 o2 o3,x=.returned (.tuple #[entV (.slice o1 o2 o3) e,.bool false])))
theorem t5 (kd:Int)(v:Value)(L:Bs)(w:World)(hv:Seg w v L)(hL:L.length<=1048576):Calls Tryz.prog 49 #[.agg #[.int .i64 kd,v]] w (uE (kd,L) w):=by
 obtain ⟨ao,cap,rfl⟩:=hv.shape
 have hcl:L.length<=cap/\cap<=9223372036854775807:=by
  obtain ⟨a',c',hv',q1,q2,q3,q4⟩:=hv
  simp at hv'
  obtain ⟨rfl,rfl⟩:=hv'
  unfold maxLen at q2
  exact ⟨by omega,by omega⟩
 have H0:Hid (Seg w (.slice ao L.length cap) L):=hv
 have HL:Hid (L.length<=1048576):=hL
 clear hv hL
 go_enter Tryz.func49,Tryz.ntmps49
 go_upto_region 2 with fail
 obtain ⟨W,hW,HW⟩:=al3 w #[.int .i64 kd,.slice ao L.length cap] #[.int .i64 0,.int .i64 0,.int .i64 0,.int .i64 0,.int .i64 0,.int .i64 0,.slice none 0 0] #[.slice ao L.length cap,.int .i64 0] 109 34 151
 rw [hW]
 clear hW
 obtain ⟨db,hdb⟩:∃x,w.heap.size=x:=⟨_,rfl⟩
 have HDB:Hid (w.heap.size=db):=hdb
 rw [hdb] at HW ⊢
 clear hdb
 go_wp2_with fail
 refine (Wire.dG (db+1+1) ao cap 0 L W HW.out.2.2.1 (H0.out.grown HW.out.2.2.2.1) (by omega)).mono ?_
 rintro e w1 ⟨rfl,k1,hk1,hM,hrf,g1⟩
 rw [List.drop_zero] at hM ⊢
 have H1:Hid (Blk w1 db 109 #[.int .i64 kd,.slice ao L.length cap]/\Blk w1 (db+1) 34 #[.int .i64 0,.int .i64 0,.int .i64 0,.int .i64 0,.int .i64 0,.int .i64 0,.slice none 0 0]/\Blk w1 (db+1+1) 151 #[.slice ao L.length cap,.int .i64 k1]/\w.grownBy w1 none/\Seg w1 (.slice ao L.length cap) L):=⟨HW.out.1.grown g1 (by simp;omega),HW.out.2.1.grown g1 (by simp),hrf,ah HW.out.2.2.2.1 g1 (fun x hx=>by simp at hx;have:=HDB.out;omega),H0.out.grown (ah HW.out.2.2.2.1 g1 (fun x hx=>by simp at hx;have:=HDB.out;omega))⟩
 clear hrf g1 HW
 obtain ⟨c0,c1⟩:=blk2 H1.out.1
 obtain ⟨d0,d1⟩:=blk2 H1.out.2.2.1
 obtain ⟨z0,z1,z2,z3,z4,z5,z6⟩:=blk7 H1.out.2.1
 obtain ⟨f0,f1,f2,f3,f4,f5,f6⟩:=ku H1.out.2.1
 by_cases hk:kd=1
 rotate_left
 ·have HE:Hid (bV (kd,L)=none):=du fun h=>absurd h hk
  have q1:(kd=1)=False:=eq_false hk
  have q2:(kd==1)=false:=by simpa using hk
  clear hk hM
  go_wp2_with fail
  obtain ⟨W7,hW7,H7⟩:=set7 H1.out.2.1 (.int .i64 0) (.int .i64 0) (.int .i64 0) (.int .i64 0) (.int .i64 0) (.int .i64 0) (.slice none 0 0)
  rw [hW7]
  obtain ⟨y0,y1,y2,y3,y4,y5,y6⟩:=blk7 H7.out.1
  exact bodyPost_ret (v:=.tuple #[.agg #[.int .i64 0,.int .i64 0,.int .i64 0,.int .i64 0,.int .i64 0,.int .i64 0,.slice none 0 0],.bool false]) (by simp [results,Tryz.results49,go_sem,y0,y1,y2,y3,y4,y5,y6]) rfl ⟨ah H1.out.2.2.2.1 H7.out.2 (fun x hx=>by simp at hx;have:=HDB.out;omega),.inr ⟨HE.out,(0,bi),none,0,0,rfl⟩⟩
 subst hk
 rcases ks L with ⟨n,hn,hE⟩ | ⟨n,M,hn,hlt,hE⟩
 ·rw [hn]
  have HE:Hid (bV (1,L)=none):=du fun _=>hE
  clear hn hE hM
  go_wp2_with fail
  obtain ⟨W7,hW7,H7⟩:=set7 H1.out.2.1 (.int .i64 0) (.int .i64 0) (.int .i64 0) (.int .i64 0) (.int .i64 0) (.int .i64 0) (.slice none 0 0)
  rw [hW7]
  obtain ⟨y0,y1,y2,y3,y4,y5,y6⟩:=blk7 H7.out.1
  exact bodyPost_ret (v:=.tuple #[.agg #[.int .i64 0,.int .i64 0,.int .i64 0,.int .i64 0,.int .i64 0,.int .i64 0,.slice none 0 0],.bool false]) (by simp [results,Tryz.results49,go_sem,y0,y1,y2,y3,y4,y5,y6]) rfl ⟨ah H1.out.2.2.2.1 H7.out.2 (fun x hx=>by simp at hx;have:=HDB.out;omega),.inr ⟨HE.out,(0,bi),none,0,0,rfl⟩⟩
 rw [hn] at hM ⊢
 rcases hE with ⟨h0,hE⟩ | ⟨h0,hE⟩ | ⟨h0,h1,hE⟩
 ·subst h0
  have HE:Hid (bV (1,L)=none):=du fun _=>hE
  clear hn hE hM
  go_wp2_with fail
  obtain ⟨W7,hW7,H7⟩:=set7 H1.out.2.1 (.int .i64 0) (.int .i64 0) (.int .i64 0) (.int .i64 0) (.int .i64 0) (.int .i64 0) (.slice none 0 0)
  rw [hW7]
  obtain ⟨y0,y1,y2,y3,y4,y5,y6⟩:=blk7 H7.out.1
  exact bodyPost_ret (v:=.tuple #[.agg #[.int .i64 0,.int .i64 0,.int .i64 0,.int .i64 0,.int .i64 0,.int .i64 0,.slice none 0 0],.bool false]) (by simp [results,Tryz.results49,go_sem,y0,y1,y2,y3,y4,y5,y6]) rfl ⟨ah H1.out.2.2.2.1 H7.out.2 (fun x hx=>by simp at hx;have:=HDB.out;omega),.inr ⟨HE.out,(0,bi),none,0,0,rfl⟩⟩
 ·have HE:Hid (bV (1,L)=none):=du fun _=>hE
  have q1:((n:Int)<1)=False:=eq_false (by omega)
  have q2:((4611686018427387904:Int)<(n:Int))=True:=eq_true (by omega)
  have q3:(n=0)=False:=eq_false (by omega)
  have q4:(4611686018427387904<n)=True:=eq_true h0
  clear hn hE hM hlt h0
  go_wp2_with fail
  obtain ⟨W7,hW7,H7⟩:=set7 H1.out.2.1 (.int .i64 0) (.int .i64 0) (.int .i64 0) (.int .i64 0) (.int .i64 0) (.int .i64 0) (.slice none 0 0)
  rw [hW7]
  obtain ⟨y0,y1,y2,y3,y4,y5,y6⟩:=blk7 H7.out.1
  exact bodyPost_ret (v:=.tuple #[.agg #[.int .i64 0,.int .i64 0,.int .i64 0,.int .i64 0,.int .i64 0,.int .i64 0,.slice none 0 0],.bool false]) (by simp [results,Tryz.results49,go_sem,y0,y1,y2,y3,y4,y5,y6]) rfl ⟨ah H1.out.2.2.2.1 H7.out.2 (fun x hx=>by simp at hx;have:=HDB.out;omega),.inr ⟨HE.out,(0,bi),none,0,0,rfl⟩⟩
 have HE:Hid (bV (1,L)=(pCmd M).map fun c=>((n:Int),c)):=kt hE
 obtain ⟨ln,hln⟩:∃x,L.length=x:=⟨_,rfl⟩
 obtain ⟨q,hq⟩:∃x,M.length=x:=⟨_,rfl⟩
 have hM':L.drop k1=M:=hM
 have hkq:ln-k1=q:=by rw [<-hln,<-hq,<-hM',List.length_drop]
 have HSD:Hid ((k1=cap/\Hid (Seg w1 (.slice ao q 0) M))\/(¬cap=k1/\Hid (Seg w1 (.slice (Option.map (fun x=>x.add k1) ao) q (cap-k1)) M))):=by
  have h2:L.length-k1=q:=by rw [hln];exact hkq
  by_cases hck:cap=k1
  ·have:=bk k1 hk1 hck H1.out.2.2.2.2
   rw [h2,hM'] at this
   exact .inl ⟨hck.symm,this⟩
  ·have:=bC k1 hk1 H1.out.2.2.2.2
   rw [h2,hM'] at this
   exact .inr ⟨hck,this⟩
 have HQ:Hid (M.length=q/\q<=1048576):=⟨hq,by have:=HL.out;omega⟩
 have p1:((n:Int)<1)=False:=eq_false (by omega)
 have p2:((4611686018427387904:Int)<(n:Int))=False:=eq_false (by omega)
 have p3:(n=0)=False:=eq_false (by omega)
 have p4:(4611686018427387904<n)=False:=eq_false (by omega)
 have p5:IntKind.i64.wrap (n:Int)=(n:Int):=fO (by omega) (by omega)
 have j0:(0:Int)<=(k1:Int):=by omega
 have j1:(k1:Int)<=(ln:Int):=by omega
 rw [hln] at c1 d0 hcl ⊢
 clear hn hE hM hM' hlt h0 h1 hq hk1
 rcases HSD.out with ⟨hck,HS⟩ | ⟨hck,HS⟩
 all_goals
  try subst hck
  clear HSD hln
  go_wp2_with fail
  refine (vH _ M w1 HS.out (by have:=HQ.out;omega)).mono ?_
  rintro e w2 ⟨ov,rfl,oo,g2⟩
  obtain ⟨o1,o2,o3,eo,hol⟩:=aC.slice oo
  clear hol
  subst eo
  have H2:Hid (w.grownBy w2 none/\aC w2 w.heap.size (.slice o1 o2 o3) (aM M).1.ops/\Blk w2 (db+1) 34 #[.int .i64 0,.int .i64 0,.int .i64 0,.int .i64 0,.int .i64 0,.int .i64 0,.slice none 0 0]):=⟨aa H1.out.2.2.2.1 g2,oo.mono H1.out.2.2.2.1.size,H1.out.2.1.grown g2 (by simp)⟩
  clear oo g2 z0 z1 z2 z3 z4 z5 z6 f0 f1 f2 f3 f4 f5 f6
  unfold cmdV
  go_upto_region 6 with fail
  obtain ⟨w3,hw3,H3⟩:=al1 w2 #[.int .i64 (aM M).1.kind,.int .i64 (aM M).1.token,.int .i64 (aM M).1.session,.int .i64 (aM M).1.number,.int .i64 (aM M).1.mark,.slice o1 o2 o3] 32
  rw [hw3]
  clear hw3
  obtain ⟨x0,x1,x2,x3,x4,x5⟩:=CB.cells (c:=(aM M).1) (ov:=.slice o1 o2 o3) H3.out.1
  have hz:=H2.out.2.2.grown H3.out.2.1 (by simp)
  obtain ⟨z0,z1,z2,z3,z4,z5,z6⟩:=blk7 hz
  obtain ⟨f0,f1,f2,f3,f4,f5,f6⟩:=ku hz
  obtain ⟨rc,hrc⟩:∃x,aM M=x:=⟨_,rfl⟩
  rw [hrc] at H2 H3 x0 x1 x2 x3 x4 ⊢
  obtain ⟨rcc,rce⟩:=rc
  have hfin:∀(W7:World) (b:Bool),Hid (Blk W7 (db+1) 34 #[.int .i64 (n:Int),.int .i64 rcc.kind,.int .i64 rcc.token,.int .i64 rcc.session,.int .i64 rcc.number,.int .i64 rcc.mark,.slice o1 o2 o3]/\w3.grownBy W7 (some (db+1)))->decide (rce=0)=b->uE (1,L) w (.returned (.tuple #[.agg #[.int .i64 (n:Int),.int .i64 rcc.kind,.int .i64 rcc.token,.int .i64 rcc.session,.int .i64 rcc.number,.int .i64 rcc.mark,.slice o1 o2 o3],.bool b])) W7:=by
   intro W7 b H7 hb
   have gg:=ah (aa H2.out.1 H3.out.2.1) H7.out.2 (fun x hx=>by simp at hx;have:=HDB.out;omega)
   refine ⟨gg,?_⟩
   unfold aM at hrc
   cases hp:pCmd M with
   | none =>
    rw [hp] at hrc
    simp at hrc
    rw [<-hrc.2] at hb
    simp at hb
    rw [<-hb]
    exact .inr ⟨by rw [HE.out,hp];rfl,((n:Int),rcc),o1,o2,o3,rfl⟩
   | some c =>
    rw [hp] at hrc
    simp at hrc
    rw [<-hrc.2] at hb
    simp at hb
    rw [<-hb]
    refine .inl ⟨((n:Int),rcc),.slice o1 o2 o3,by rw [HE.out,hp,<-hrc.1];rfl,rfl,?_⟩
    have h5:=H2.out.2.1.grown H3.out.2.1
    exact h5.set hz (by decide) (by decide) H7.out.2
  have HFIN:Hid _:=hfin
  clear hfin hrc
  by_cases hr0:rce=0
  ·subst hr0
   go_wp2_with fail
   obtain ⟨W7,hW7,H7⟩:=set7 hz (.int .i64 (n:Int)) (.int .i64 rcc.kind) (.int .i64 rcc.token) (.int .i64 rcc.session) (.int .i64 rcc.number) (.int .i64 rcc.mark) (.slice o1 o2 o3)
   rw [hW7]
   obtain ⟨y0,y1,y2,y3,y4,y5,y6⟩:=blk7 H7.out.1
   exact bodyPost_ret (v:=.tuple #[.agg #[.int .i64 (n:Int),.int .i64 rcc.kind,.int .i64 rcc.token,.int .i64 rcc.session,.int .i64 rcc.number,.int .i64 rcc.mark,.slice o1 o2 o3],.bool true]) (by simp [results,Tryz.results49,go_sem,y0,y1,y2,y3,y4,y5,y6]) rfl (HFIN.out W7 true H7 (by simp))
  ·have r1:(rce=0)=False:=eq_false hr0
   have r2:(rce==0)=false:=by simpa using hr0
   go_wp2_with fail
   obtain ⟨W7,hW7,H7⟩:=set7 hz (.int .i64 (n:Int)) (.int .i64 rcc.kind) (.int .i64 rcc.token) (.int .i64 rcc.session) (.int .i64 rcc.number) (.int .i64 rcc.mark) (.slice o1 o2 o3)
   rw [hW7]
   obtain ⟨y0,y1,y2,y3,y4,y5,y6⟩:=blk7 H7.out.1
   exact bodyPost_ret (v:=.tuple #[.agg #[.int .i64 (n:Int),.int .i64 rcc.kind,.int .i64 rcc.token,.int .i64 rcc.session,.int .i64 rcc.number,.int .i64 rcc.mark,.slice o1 o2 o3],.bool false]) (by simp [results,Tryz.results49,go_sem,y0,y1,y2,y3,y4,y5,y6]) rfl (HFIN.out W7 false H7 (by simp [hr0]))
end Go.Proofs.YtadhfejefpildaaGreat
