import Derived.Test.YtadhfejefpildaaGreatEa
set_option maxHeartbeats 4000000
set_option maxRecDepth 100000
namespace Go.Proofs.YtadhfejefpildaaGreat
open Go.RowKit Disk
open Go.Proofs.YtadhfejefpildaaGreat.Calls
open Go.Proofs.YtadhfejefpildaaGreat.Command
open Go.Proofs.YtadhfejefpildaaGreat.Frame (Frs)
def entA (ov:Value)(e:PEnt):Array Value:=#[.int .i64 e.1,.int .i64 e.2.kind,.int .i64 e.2.token,.int .i64 e.2.session,.int .i64 e.2.number,.int .i64 e.2.mark,ov]
def entV (ov:Value)(e:PEnt):Value:=.agg (entA ov e)
def oM (e:PEnt)(w:World)(x:Ending)(w':World):Prop:=w.grownBy w' none/\((okE e=false/\x=.returned (.tuple #[.slice none 0 0,.int .i64 2]))\/(okE e=true/\∃u,x=.returned (.tuple #[u,.int .i64 0])/\Own w' w.heap.size u (Frame.frm 1 (bt e))))
theorem tP (ov:Value)(n:Int)(c:PCmd)(w:World)(h:Ops w ov c.ops)(hI:InC c)(hs:∃x y z,ov=.slice x y z):Calls Tryz.prog 7 #[entV ov (n,c)] w (oM (n,c) w):=by
 obtain ⟨ao,an,ac,rfl⟩:=hs
 have H0:Hid (Ops w (.slice ao an ac) c.ops/\InC c):=⟨h,hI⟩
 clear h hI
 unfold entV entA
 go_enter Tryz.func7,Tryz.ntmps7
 go_upto_region 1 with fail
 obtain ⟨W,hW,HW⟩:=al1 w #[.int .i64 n,.int .i64 c.kind,.int .i64 c.token,.int .i64 c.session,.int .i64 c.number,.int .i64 c.mark,.slice ao an ac] 34
 rw [hW]
 clear hW
 have c0:=HW.out.1.cell 0
 have c1:=HW.out.1.cell 1
 have c2:=HW.out.1.cell 2
 have c3:=HW.out.1.cell 3
 have c4:=HW.out.1.cell 4
 have c5:=HW.out.1.cell 5
 have c6:=HW.out.1.cell 6
 simp at c0 c1 c2 c3 c4 c5 c6
 go_wp2_with fail
 refine (oA (.slice ao an ac) c W (H0.out.1.grown HW.out.2.1) H0.out.2).mono ?_
 rintro e w1 ⟨u,rfl,ou,g1⟩
 obtain ⟨ua,uc,eu⟩:=ou.seg.shape
 subst eu
 have H1:Hid (Blk w1 w.heap.size 34 #[.int .i64 n,.int .i64 c.kind,.int .i64 c.token,.int .i64 c.session,.int .i64 c.number,.int .i64 c.mark,.slice ao an ac]/\w.grownBy w1 none):=⟨HW.out.1.grown g1 (by simp),aa HW.out.2.1 g1⟩
 clear g1 HW c0 c1 c2 c3 c4 c5 c6
 have c0:=H1.out.1.cell 0
 simp at c0
 by_cases hok:okC c=true
 rotate_left
 ·rw [show chkC c=2 by unfold chkC;rw [if_neg hok]]
  rw [if_neg hok]
  have hE:Hid (okE (n,c)=false):=by
   have:¬okE (n,c)=true:=fun h=>hok (bZ.1 h).2.2
   show okE (n,c)=false
   simpa using this
  clear hok ou
  go_wp2_with fail
  go_ret2
  exact ⟨H1.out.2,.inl ⟨hE.out,rfl⟩⟩
 rw [show chkC c=0 by unfold chkC;rw [if_pos hok]]
 rw [if_pos hok] at ou ⊢
 by_cases h1:n<1
 ·have hE:Hid (okE (n,c)=false):=by
   have:¬okE (n,c)=true:=fun h=>by have:=(bZ.1 h).1;simp at this;omega
   show okE (n,c)=false
   simpa using this
  clear hok ou
  have h1':=eq_true h1
  clear h1
  go_wp2_with fail
  go_ret2
  exact ⟨H1.out.2,.inl ⟨hE.out,rfl⟩⟩
 by_cases h2:n > 4611686018427387904
 ·have hE:Hid (okE (n,c)=false):=by
   have:¬okE (n,c)=true:=fun h=>by have:=(bZ.1 h).2.1;simp at this;omega
   show okE (n,c)=false
   simpa using this
  clear hok ou
  have h1':=eq_false h1
  have h2':(4611686018427387904<n)=True:=eq_true h2
  clear h1 h2
  go_wp2_with fail
  go_ret2
  exact ⟨H1.out.2,.inl ⟨hE.out,rfl⟩⟩
 have hE:Hid (okE (n,c)=true):=bZ.2 ⟨by omega,by simp;omega,hok⟩
 have HB:Hid ((aS c).length<=5000/\1<=n/\n<=4611686018427387904):=⟨fZ hok H0.out.2,by omega,by omega⟩
 have HU:Hid (Seg w1 (.slice ua (aS c).length uc) (aS c)):=ou.seg
 have h1':(n<1)=False:=eq_false h1
 have h2':(4611686018427387904<n)=False:=eq_false h2
 have hwr:IntKind.u64.wrap n=n:=by
  have:=HB.out
  unfold IntKind.wrap
  simp [IntKind.bits,IntKind.signed]
  omega
 clear ou hok h1 h2
 obtain ⟨fl,hfl⟩:∃x,(aS c).length=x:=⟨_,rfl⟩
 rw [hfl] at HU HB ⊢
 clear hfl
 go_wp2_with fail
 refine (Wire.aQ n n.toNat (by have:=HB.out;omega) (by have:=HB.out;omega) _).mono ?_
 rintro e w2 ⟨v,rfl,ov,g2⟩
 obtain ⟨va,vc,ev⟩:=ov.seg.shape
 subst ev
 obtain ⟨nl,hnl⟩:∃x,(Wire.ai n.toNat).length=x:=⟨_,rfl⟩
 have H2:Hid (w.grownBy w2 none/\Seg w2 (.slice va nl vc) (Wire.ai n.toNat)/\Seg w2 (.slice ua fl uc) (aS c)/\nl<=10/\(Wire.ai n.toNat).length=nl):=⟨aa H1.out.2 g2,by rw [<-hnl];exact ov.seg,HU.out.grown g2,by rw [<-hnl];exact Wire.ay _ (by have:=HB.out;omega),hnl⟩
 rw [hnl]
 clear hnl ov g2 H1 c0 HU
 go_wp2_with fail
 have hlen:(aS c).length<=5000:=fZ (bZ.1 hE.out).2.2 H0.out.2
 refine (Wire.bO _ [Wire.ai n.toNat,aS c] _ (Wire.ch H2.out.2.1 H2.out.2.2.1) (by have:=H2.out;simp;omega)).mono ?_
 rintro e w3 ⟨z,rfl,oz,g3⟩
 obtain ⟨za,zc,ez⟩:=oz.seg.shape
 subst ez
 have hfl:[Wire.ai n.toNat,aS c].flatten=bt (n,c):=by simp [bt]
 rw [hfl] at oz ⊢
 have hbl:=eP hE.out H0.out.2
 obtain ⟨bl,hbl'⟩:∃x,(bt (n,c)).length=x:=⟨_,rfl⟩
 have H3:Hid (w.grownBy w3 none/\Seg w3 (.slice za bl zc) (bt (n,c))/\(bt (n,c)).length<=5010):=⟨aa H2.out.1 (aa (World.grownBy_alloc _ _ _) g3),by rw [<-hbl'];exact oz.seg,hbl⟩
 rw [hbl']
 clear oz g3 hfl hbl hbl' hlen
 go_wp2_with fail
 refine (Frame.put8 1 (.slice za bl zc) (bt (n,c)) w3 H3.out.2.1 (by have:=H3.out.2.2;omega)).mono ?_
 rintro e w4 ⟨g4,_,hk⟩
 obtain ⟨y,rfl,oy⟩:=hk (fun f hf=>by simp at hf;subst hf;simp)
 obtain ⟨ya,yc,ey⟩:=oy.seg.shape
 subst ey
 have hfl:Frame.flat [(1,bt (n,c))]=Frame.frm 1 (bt (n,c)):=by simp [Frame.flat]
 rw [hfl] at oy ⊢
 have H4:Hid (oM (n,c) w (.returned (.tuple #[.slice ya (Frame.frm 1 (bt (n,c))).length yc,.int .i64 0])) w4):=⟨aa H3.out.1 g4,.inr ⟨hE.out,_,rfl,oy.mono H3.out.1.size⟩⟩
 obtain ⟨rl,hrl⟩:∃x,(Frame.frm 1 (bt (n,c))).length=x:=⟨_,rfl⟩
 rw [hrl] at H4 ⊢
 clear hk oy g4 hfl hrl
 go_wp2_with fail
 go_ret2
 exact H4.out
end Go.Proofs.YtadhfejefpildaaGreat
