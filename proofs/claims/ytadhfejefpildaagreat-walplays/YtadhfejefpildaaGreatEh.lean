import Derived.Test.YtadhfejefpildaaGreatEg
set_option maxHeartbeats 4000000
set_option maxRecDepth 100000
namespace Go.Proofs.YtadhfejefpildaaGreat
open Go.RowKit Disk
open Go.Proofs.YtadhfejefpildaaGreat.Calls
open Go.Proofs.YtadhfejefpildaaGreat.Command
open Go.Proofs.YtadhfejefpildaaGreat.Frame (Frs)
def jB (w:World)(b off:Nat)(o1:Option Addr)(o2 o3:Nat)(e:PEnt):Prop:=w.cell? ⟨b,off,none⟩=some (.int .i64 e.1)/\w.cell? ⟨b,off+1,none⟩=some (.int .i64 e.2.kind)/\w.cell? ⟨b,off+2,none⟩=some (.int .i64 e.2.token)/\w.cell? ⟨b,off+3,none⟩=some (.int .i64 e.2.session)/\w.cell? ⟨b,off+4,none⟩=some (.int .i64 e.2.number)/\w.cell? ⟨b,off+5,none⟩=some (.int .i64 e.2.mark)/\w.cell? ⟨b,off+6,none⟩=some (.slice o1 o2 o3)
def Ents (w:World)(v:Value)(E:List PEnt):Prop:=∃ao cap,v=.slice ao E.length cap/\∀j (hj:j<E.length),∃b off o1 o2 o3,ao=some ⟨b,off,none⟩/\jB w b (off+j*7) o1 o2 o3 E[j]/\Ops w (.slice o1 o2 o3) E[j].2.ops
theorem bA.ents {w:World}{B:Nat}{v:Value}{E:List PEnt}(h:bA w B v E):Ents w v E:=by
 have h':=h
 obtain ⟨ao,cap,rfl⟩:=LRow.shape h'
 refine ⟨ao,cap,rfl,fun j hj=>?_⟩
 obtain ⟨g,cp,x,e,_,⟨ov,hx,ho⟩,_,_,hc⟩:=LRow.cell h j hj
 simp at e
 obtain ⟨rfl,rfl⟩:=e
 obtain ⟨o1,o2,o3,rfl,_⟩:=aC.slice ho
 refine ⟨g,0,o1,o2,o3,rfl,?_,ho.ops⟩
 rw [Nat.zero_add]
 subst hx
 have h0:=hc 0 (by decide)
 rw [Nat.add_zero] at h0
 exact ⟨h0,hc 1 (by decide),hc 2 (by decide),hc 3 (by decide),hc 4 (by decide),hc 5 (by decide),hc 6 (by decide)⟩
theorem Ents.grown {w w':World}{v:Value}{E:List PEnt}(h:Ents w v E)(hg:w.grownBy w' none):Ents w' v E:=by
 obtain ⟨ao,cap,h1,h4⟩:=h
 refine ⟨ao,cap,h1,fun j hj=>?_⟩
 obtain ⟨b,off,o1,o2,o3,e,⟨g0,g1,g2,g3,g4,g5,g6⟩,g⟩:=h4 j hj
 exact ⟨b,off,o1,o2,o3,e,⟨hg.cell g0 (by simp),hg.cell g1 (by simp),hg.cell g2 (by simp),hg.cell g3 (by simp),hg.cell g4 (by simp),hg.cell g5 (by simp),hg.cell g6 (by simp)⟩,g.grown hg⟩
theorem dZ {w:World}{ao:Option Addr}{n cap:Nat}{E:List PEnt}(h:Ents w (.slice ao n cap) E)(j:Nat)(hj:j<E.length):∃b off o1 o2 o3,ao=some ⟨b,off,none⟩/\jB w b (off+j*7) o1 o2 o3 E[j]/\Ops w (.slice o1 o2 o3) E[j].2.ops:=by
 obtain ⟨ao',cap',e,h4⟩:=h
 simp at e
 obtain ⟨rfl,rfl,rfl⟩:=e
 exact h4 j hj
theorem rU (F:Nat->Prop)(v:Value)(S:St)(fs:Frs)(R:Bs)(w:World)(h:DK w F v S)(hsc:Frame.Sc S.log fs R)(hL:S.log.length<=9000000):Calls Tryz.prog 33 #[v] w (EntP S.log fs R w):=by
 have HD:Hid (DK w F v S/\Frame.Sc S.log fs R/\S.log.length<=9000000):=⟨h,hsc,hL⟩
 obtain ⟨b,lv,v0,v1,rfl,hb⟩:=h
 clear hb hsc hL
 go_enter Tryz.func33,Tryz.ntmps33
 go_upto_region 1 with fail
 obtain ⟨w1,hw1,H1⟩:=al1 w #[.slice none 0 0,.int .i64 0,.int .i64 0,.int .i64 0] 38
 rw [hw1]
 clear hw1
 obtain ⟨rb,hrb⟩:∃x,w.heap.size=x:=⟨_,rfl⟩
 have HR:Hid (w.heap.size=rb):=hrb
 rw [hrb] at H1 ⊢
 clear hrb
 go_wp2_with fail
 refine (jz F _ S w1 (HD.out.1.grown H1.out.2.1)).mono ?_
 rintro e w2 ⟨rfl,g2⟩
 have H2:Hid (w.grownBy w2 none/\Blk w2 rb 38 #[.slice none 0 0,.int .i64 0,.int .i64 0,.int .i64 0]):=⟨aa H1.out.2.1 g2,H1.out.1.grown g2 (by simp)⟩
 clear g2 H1
 go_wp2_with fail
 refine (oI F _ S w2 (HD.out.1.grown H2.out.1)).mono ?_
 rintro e w3 ⟨u,rfl,ou,g3⟩
 obtain ⟨ua,un,uc,eu⟩:=Calls.aB ou
 subst eu
 have H3:Hid (w.grownBy w3 none/\Blk w3 rb 38 #[.slice none 0 0,.int .i64 0,.int .i64 0,.int .i64 0]/\Seg w3 (.slice ua un uc) S.log):=⟨aa H2.out.1 g3,H2.out.2.grown g3 (by simp),ou.seg⟩
 clear ou g3 H2
 go_wp2_with fail
 refine (pX (.slice ua un uc) S.log fs R w3 H3.out.2.2 HD.out.2.1 HD.out.2.2).mono ?_
 rintro e w4 ⟨g4,hE⟩
 have hrb4:=H3.out.2.1.grown g4 (by simp)
 have hg4:=aa H3.out.1 g4
 rcases hE with ⟨hok,vv,rfl,hE⟩ | ⟨hno,rfl⟩
 ·obtain ⟨e1,e2,eE⟩:=LRow.shape hE
  obtain ⟨ln,hln⟩:∃x,(az 0 fs).1.length=x:=⟨_,rfl⟩
  rw [hln] at eE
  subst eE
  have H4:Hid (w.grownBy w4 none/\Blk w4 rb 38 #[.slice none 0 0,.int .i64 0,.int .i64 0,.int .i64 0]/\(az 0 fs).2=true/\bA w4 w.heap.size (.slice e1 ln e2) (az 0 fs).1):=⟨hg4,hrb4,hok,hE.mono H3.out.1.size⟩
  obtain ⟨x1,hx1⟩:∃x,(Frame.flat fs).length=x:=⟨_,rfl⟩
  obtain ⟨x2,hx2⟩:∃x,S.log.length=x:=⟨_,rfl⟩
  obtain ⟨x3,hx3⟩:∃x,Frame.ends R=x:=⟨_,rfl⟩
  have HX:Hid ((Frame.flat fs).length=x1/\S.log.length=x2/\Frame.ends R=x3):=⟨hx1,hx2,hx3⟩
  rw [hx1,hx2,hx3]
  clear g4 hrb4 hg4 hok hE hln hx1 hx2 hx3 H3
  obtain ⟨c0,c1,c2,c3⟩:=blk4 H4.out.2.1
  obtain ⟨f0,f1,f2,f3⟩:=eQ H4.out.2.1
  go_wp2_with fail
  obtain ⟨w5,hw5,H5⟩:=set4 H4.out.2.1 (.slice e1 ln e2) (.int .i64 x1) (.int .i64 x2) (.int .i64 x3)
  rw [hw5]
  obtain ⟨y0,y1,y2,y3⟩:=blk4 H5.out.1
  have hr:=HR.out
  exact bodyPost_ret (v:=.tuple #[.agg #[.slice e1 ln e2,.int .i64 x1,.int .i64 x2,.int .i64 x3],.int .i64 0]) (by simp [results,Tryz.results33,go_sem,y0,y1,y2,y3]) rfl ⟨ah H4.out.1 H5.out.2 (fun x hx=>by simp at hx;omega),.inl ⟨H4.out.2.2.1,_,by rw [HX.out.1,HX.out.2.1,HX.out.2.2],H4.out.2.2.2.set H4.out.2.1 (by decide) (by decide) (by decide) H5.out.2⟩⟩
 ·have H4:Hid (w.grownBy w4 none/\Blk w4 rb 38 #[.slice none 0 0,.int .i64 0,.int .i64 0,.int .i64 0]/\(az 0 fs).2=false):=⟨hg4,hrb4,hno⟩
  clear g4 hrb4 hg4 hno H3
  obtain ⟨c0,c1,c2,c3⟩:=blk4 H4.out.2.1
  obtain ⟨f0,f1,f2,f3⟩:=eQ H4.out.2.1
  go_wp2_with fail
  obtain ⟨w5,hw5,H5⟩:=set4 H4.out.2.1 (.slice none 0 0) (.int .i64 0) (.int .i64 0) (.int .i64 0)
  rw [hw5]
  obtain ⟨y0,y1,y2,y3⟩:=blk4 H5.out.1
  have hr:=HR.out
  exact bodyPost_ret (v:=.tuple #[.agg #[.slice none 0 0,.int .i64 0,.int .i64 0,.int .i64 0],.int .i64 8]) (by simp [results,Tryz.results33,go_sem,y0,y1,y2,y3]) rfl ⟨ah H4.out.1 H5.out.2 (fun x hx=>by simp at hx;omega),.inr ⟨H4.out.2.2,rfl⟩⟩
def oC:PCmd:=⟨1,5,0,0,0,[]⟩
def cC:PCmd:=⟨3,0,1,0,0,[]⟩
theorem rV:InC oC:=by constructor <;> decide
theorem uC:InC cC:=by constructor <;> decide
theorem dh:refA 1 [oC,cC]=0/\fitN 1000 1 [oC,cC]=2/\refA 0 [oC]=2/\OkL 1 [oC,cC]:=by
 have hi1:=rV
 have hi2:=uC
 have h1:okC oC=true:=by kernel_rfl
 have h2:okC cC=true:=by kernel_rfl
 have hr:refA 1 [oC,cC]=0:=by kernel_rfl
 refine ⟨hr,?_,by kernel_rfl,vA hr (by simp [hi1,hi2])⟩
 have e1:(bt ((1:Int),oC)).length=3:=by kernel_rfl
 have e2:(bt ((2:Int),cC)).length=3:=by kernel_rfl
 simp [fitN,Frame.dN,e1,e2]
theorem fV (w:World):Ops w (.slice none 0 0) []:=⟨none,0,rfl,by simp,fun j hj=>absurd hj (by simp)⟩
theorem rW {w:World}{g:Nat}(h:Blk w g 32 #[.int .i64 1,.int .i64 5,.int .i64 0,.int .i64 0,.int .i64 0,.slice none 0 0,.int .i64 3,.int .i64 0,.int .i64 1,.int .i64 0,.int .i64 0,.slice none 0 0]):Cmds w (.slice (some ⟨g,0,none⟩) 2 2) [oC,cC]:=by
 refine ⟨_,2,rfl,by simp,by omega,by simp,fun j hj=>?_⟩
 match j,hj with
 | 0,_=>exact ⟨g,0,none,0,0,rfl,⟨h.cell 0,h.cell 1,h.cell 2,h.cell 3,h.cell 4,h.cell 5⟩,fV w,rV⟩
 | 1,_=>exact ⟨g,0,none,0,0,rfl,⟨h.cell 6,h.cell 7,h.cell 8,h.cell 9,h.cell 10,h.cell 11⟩,fV w,uC⟩
theorem rX {w:World}{g:Nat}(h:Blk w g 32 #[.int .i64 1,.int .i64 5,.int .i64 0,.int .i64 0,.int .i64 0,.slice none 0 0]):Cmds w (.slice (some ⟨g,0,none⟩) 1 1) [oC]:=by
 refine ⟨_,1,rfl,by simp,by omega,by simp,fun j hj=>?_⟩
 match j,hj with
 | 0,_=>exact ⟨g,0,none,0,0,rfl,⟨h.cell 0,h.cell 1,h.cell 2,h.cell 3,h.cell 4,h.cell 5⟩,fV w,rV⟩
theorem St.write_fits {S:St}{M:Bs}(h:M.length<=S.cap-S.log.length):S.write M={ S.step with log:=S.log ++ M }:=by
 unfold St.write St.full
 rw [if_neg (by simp;omega)]
theorem nO {w w':World}{F:Nat->Prop}{v:Value}{S:St}(h:DAft w F w' v S){w0:World}(hg:w0.grownBy w none)(hF:∀k,F k->w0.heap.size<=k):w0.grownBy w' none/\∃F',DK w' F' v S/\∀k,F' k->w0.heap.size<=k:=by
 obtain ⟨F',h1,h2⟩:=h
 refine ⟨⟨h2.fr.os.trans hg.os,h2.fr.tape.trans hg.tape,h2.fr.output.trans hg.output,Nat.le_trans hg.size h2.fr.size,fun i hi _=>?_⟩,F',h1,fun k hk=>?_⟩
 ·rw [h2.fr.block i (Nat.lt_of_lt_of_le hi hg.size) (fun hf=>by have:=hF i hf;omega)]
  exact hg.block i hi (by simp)
 ·rcases h2.sub k hk with h | h
  ·exact hF k h
  ·exact Nat.le_trans hg.size h
theorem tR (w:World):Calls Tryz.prog 14 #[] w fun e w'=>e=.returned (.bool true)/\w.grownBy w' none:=by
 go_enter Tryz.func14,Tryz.ntmps14
 go_wp2_with fail
 refine (uA 1000 w (by decide) (by decide)).mono ?_
 rintro e w1 ⟨p,rfl,g1,F1,hd1,hF1⟩
 obtain ⟨db,rfl⟩:∃b,p=.pointer (some ⟨b,0,none⟩):=by obtain ⟨b,_,_,_,h,_⟩:=hd1;exact ⟨b,h⟩
 have H1:Hid (DK w1 F1 (.pointer (some ⟨db,0,none⟩)) (St.of 1000 [] [])/\w.grownBy w1 none/\∀k,F1 k->w.heap.size<=k):=⟨hd1,g1,hF1⟩
 clear hd1 g1 hF1
 go_upto_region 3 with fail
 obtain ⟨w2,hw2,H2⟩:=al1 w1 #[.int .i64 1,.int .i64 5,.int .i64 0,.int .i64 0,.int .i64 0,.slice none 0 0] 32
 rw [hw2]
 clear hw2
 obtain ⟨ob,hob⟩:∃x,w1.heap.size=x:=⟨_,rfl⟩
 have HOB:Hid (w1.heap.size=ob):=hob
 rw [hob] at H2 ⊢
 clear hob
 have c0:=H2.out.1.cell 0
 have c1:=H2.out.1.cell 1
 have c2:=H2.out.1.cell 2
 have c3:=H2.out.1.cell 3
 have c4:=H2.out.1.cell 4
 have c5:=H2.out.1.cell 5
 simp at c0 c1 c2 c3 c4 c5
 go_wp2_with fail
 obtain ⟨w3,hw3,H3⟩:=al1 w2 #[.int .i64 1,.int .i64 5,.int .i64 0,.int .i64 0,.int .i64 0,.slice none 0 0,.int .i64 3,.int .i64 0,.int .i64 1,.int .i64 0,.int .i64 0,.slice none 0 0] 32
 rw [hw3]
 refine (jA F1 _ _ (St.of 1000 [] []) 1 [oC,cC] w3 ((H1.out.1.grown H2.out.2.1).grown H3.out.2.1) (by simp [St.of]) (rW H3.out.1)).mono ?_
 rintro e w4 hA
 rcases hA with ⟨hno,_⟩ | ⟨_,m,hm,rfl,hlen,hD⟩
 ·exact absurd dh.1 hno
 have hm2:m=2:=by rw [<-hm];exact dh.2.1
 subst hm2
 rw [if_neg (by decide),St.write_fits hlen] at hD
 obtain ⟨g4,F4,hd4,hF4⟩:=nO hD (aa (aa H1.out.2.1 H2.out.2.1) H3.out.2.1) H1.out.2.2
 have hlog:({ (St.of 1000 [] []).step with log:=(St.of 1000 [] []).log ++ aY 1 ([oC,cC].take 2) }:St).log=Frame.flat ((seqE 1 [oC,cC]).map frE):=rfl
 obtain ⟨S4,hS4⟩:∃x,({ (St.of 1000 [] []).step with log:=(St.of 1000 [] []).log ++ aY 1 ([oC,cC].take 2) }:St)=x:=⟨_,rfl⟩
 rw [hS4] at hd4 hlog
 have hlen4:S4.log.length<=1000:=by
  have h9:S4.log=aY 1 ([oC,cC].take 2):=by rw [<-hS4];rfl
  rw [h9]
  have:=hlen
  simp [St.of] at this ⊢
  omega
 have hst:S4.steps<9223372036854775807:=by rw [<-hS4];simp [St.of,St.step]
 have H4:Hid (DK w4 F4 (.pointer (some ⟨db,0,none⟩)) S4/\w.grownBy w4 none/\(∀k,F4 k->w.heap.size<=k)/\S4.log=Frame.flat ((seqE 1 [oC,cC]).map frE)/\S4.log.length<=1000/\S4.steps<9223372036854775807):=⟨hd4,g4,hF4,hlog,hlen4,hst⟩
 have HB4:Hid (Blk w4 ob 32 #[.int .i64 1,.int .i64 5,.int .i64 0,.int .i64 0,.int .i64 0,.slice none 0 0]):=by
  obtain ⟨F',hk',ha'⟩:=hD
  exact (H2.out.1.grown H3.out.2.1 (by simp)).same (ha'.fr.block ob (by have:=H2.out.1.lt;have:=H3.out.2.1.size;omega) (fun hf=>by have:=H1.out.1.lt ob hf;have:=HOB.out;omega))
 clear hd4 g4 hF4 hlog hS4 hlen4 hst hD hlen hm hw3 c0 c1 c2 c3 c4 c5
 go_wp2_with fail
 refine (rU F4 _ S4 ((seqE 1 [oC,cC]).map frE) [] w4 H4.out.1 (by rw [H4.out.2.2.2.1];exact Frame.tV (oL _ _ dh.2.2.2)) (by have:=H4.out;omega)).mono ?_
 rintro e w5 ⟨g5,hE⟩
 have hes:=l5 [oC,cC] 1 0 dh.2.2.2 (.inl (by decide))
 rw [hes] at hE
 rcases hE with ⟨_,vv,rfl,hE⟩ | ⟨h,_⟩
 rotate_left
 ·cases h
 obtain ⟨ea,ec,rfl⟩:=LRow.shape hE
 have hn2:(seqE 1 [oC,cC]).length=2:=rfl
 rw [hn2]
 have hgs:(Frame.flat ((seqE 1 [oC,cC]).map frE)).length=S4.log.length:=by rw [H4.out.2.2.2.1]
 rw [hgs]
 obtain ⟨lg,hlg⟩:∃x,S4.log.length=x:=⟨_,rfl⟩
 rw [hlg]
 have hen:=hE.ents
 simp only [hn2] at hen
 obtain ⟨eb,off,p1,p2,p3,hea,hat0,hop0⟩:=dZ hen 0 (by rw [hn2];decide)
 obtain ⟨eb',off',r1,r2,r3,hea',hat1,hop1⟩:=dZ hen 1 (by rw [hn2];decide)
 rw [hea] at hea'
 simp at hea'
 obtain ⟨rfl,rfl⟩:=hea'
 subst hea
 have hends:((Frame.ends ([]:Bs):Nat):Int)=0:=rfl
 rw [hends]
 have H5:Hid (w.grownBy w5 none/\DK w5 F4 (.pointer (some ⟨db,0,none⟩)) S4/\Blk w5 ob 32 #[.int .i64 1,.int .i64 5,.int .i64 0,.int .i64 0,.int .i64 0,.slice none 0 0]/\w5.cell? ⟨eb,off+1*7,none⟩=some (.int .i64 2)/\w5.cell? ⟨eb,off+0*7+2,none⟩=some (.int .i64 5)):=⟨aa H4.out.2.1 g5,H4.out.1.grown g5,HB4.out.grown g5 (by simp),hat1.1,hat0.2.2.1⟩
 clear hop0 hop1 hE hen hat0 hat1 hes g5 hn2 hgs hlg hends
 go_upto_region 5 with fail
 obtain ⟨w6,hw6,H6⟩:=al1 w5 #[.slice (some ⟨eb,off,none⟩) 2 ec,.int .i64 lg,.int .i64 lg,.int .i64 0] 38
 rw [hw6]
 clear hw6
 obtain ⟨tb,htb⟩:∃x,w5.heap.size=x:=⟨_,rfl⟩
 rw [htb] at H6 ⊢
 clear htb
 have hb6:=H5.out.2.2.1.grown H6.out.2.1 (by simp)
 have c0:=hb6.cell 0
 have c1:=hb6.cell 1
 have c2:=hb6.cell 2
 have c3:=hb6.cell 3
 have c4:=hb6.cell 4
 have c5:=hb6.cell 5
 simp at c0 c1 c2 c3 c4 c5
 clear hb6
 go_wp2_with fail
 obtain ⟨w7,hw7,H7⟩:=al1 w6 #[.int .i64 1,.int .i64 5,.int .i64 0,.int .i64 0,.int .i64 0,.slice none 0 0] 32
 rw [hw7]
 refine (jA F4 _ _ S4 0 [oC] w7 ((H5.out.2.1.grown H6.out.2.1).grown H7.out.2.1) H4.out.2.2.2.2.2 (rX H7.out.1)).mono ?_
 rintro e w8 hA
 rcases hA with ⟨_,rfl,g8⟩ | ⟨hno,_⟩
 rotate_left
 ·rw [dh.2.2.1] at hno;cases hno
 rw [dh.2.2.1]
 have H8:Hid (w.grownBy w8 none/\Blk w8 tb 38 #[.slice (some ⟨eb,off,none⟩) 2 ec,.int .i64 lg,.int .i64 lg,.int .i64 0]/\w8.cell? ⟨eb,off+1*7,none⟩=some (.int .i64 2)/\w8.cell? ⟨eb,off+0*7+2,none⟩=some (.int .i64 5)):=by
  have g:=aa H6.out.2.1 (aa H7.out.2.1 g8)
  have g':=aa H7.out.2.1 g8
  exact ⟨aa H5.out.1 g,H6.out.1.grown g' (by simp),g.cell H5.out.2.2.2.1 (by simp),g.cell H5.out.2.2.2.2 (by simp)⟩
 clear g8 hw7 c0 c1 c2 c3 c4 c5
 obtain ⟨c0,c1,c2,c3⟩:=blk4 H8.out.2.1
 have d0:=H8.out.2.2.1
 have d1:=H8.out.2.2.2
 simp at d0 d1
 go_wp2_with fail
 go_ret
 exact ⟨by simp,H8.out.1⟩
end Go.Proofs.YtadhfejefpildaaGreat
