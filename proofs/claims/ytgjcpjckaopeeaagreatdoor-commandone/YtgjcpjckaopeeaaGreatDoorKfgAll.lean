import Derived.Test.YtgjcpjckaopeeaaGreatDoorKceAll
import Derived.Test.YtgjcpjckaopeeaaGreatDoorCwAll
set_option maxHeartbeats 8000000
set_option maxRecDepth 100000
namespace Go.Proofs.YtgjcpjckaopeeaaGreatDoor
open Go.RowKit Disk
open _root_.Go.Proofs.YtgjcpjckaopeeaaGreatDoor.Calls
theorem check9_1 (ao:Option Addr)(n cp:Nat)(tk ss nb mk:Int)(w:World):Calls Tryz.prog 9 #[.agg #[.int .i64 1,.int .i64 tk,.int .i64 ss,.int .i64 nb,.int .i64 mk,.slice ao n cp]] w fun e w'=>e=.returned (.int .i64 (if 1<=tk/\ss=0/\nb=0/\mk=0/\n=0 then 0 else 2))/\w.grownBy w' none:=by
 by_cases e0:1<=tk
 rotate_left
 ·rw [if_neg (fun h=>e0 h.1)]
  have q0:(tk ≥ 1)=False:=by simp;omega
  have q0':(1<=tk)=False:=by simp;omega
  clear e0
  go_enter Tryz.func9,Tryz.ntmps9
  go_wp2_with fail
  go_ret
  exact ⟨rfl,World.grownBy_alloc _ _ _⟩
 have q0:(tk ≥ 1)=True:=by simp;omega
 have q0':(1<=tk)=True:=by simp;omega
 have N0:Hid (1<=tk):=e0
 clear e0
 by_cases e1:ss=0
 rotate_left
 ·rw [if_neg (fun h=>e1 h.2.1)]
  have q1:(ss==0)=false:=by simp;omega
  skip
  clear e1
  go_enter Tryz.func9,Tryz.ntmps9
  go_wp2_with fail
  go_ret
  exact ⟨rfl,World.grownBy_alloc _ _ _⟩
 subst e1
 by_cases e2:nb=0
 rotate_left
 ·rw [if_neg (fun h=>e2 h.2.2.1)]
  have q2:(nb==0)=false:=by simp;omega
  skip
  clear e2
  go_enter Tryz.func9,Tryz.ntmps9
  go_wp2_with fail
  go_ret
  exact ⟨rfl,World.grownBy_alloc _ _ _⟩
 subst e2
 by_cases e3:mk=0
 rotate_left
 ·rw [if_neg (fun h=>e3 h.2.2.2.1)]
  have q3:(mk==0)=false:=by simp;omega
  skip
  clear e3
  go_enter Tryz.func9,Tryz.ntmps9
  go_wp2_with fail
  go_ret
  exact ⟨rfl,World.grownBy_alloc _ _ _⟩
 subst e3
 by_cases e4:n=0
 rotate_left
 ·rw [if_neg (fun h=>e4 h.2.2.2.2)]
  have q4:((n:Int)==0)=false:=by simp;omega
  skip
  clear e4
  go_enter Tryz.func9,Tryz.ntmps9
  go_wp2_with fail
  go_ret
  exact ⟨rfl,World.grownBy_alloc _ _ _⟩
 subst e4
 rw [if_pos ⟨N0.out,rfl,rfl,rfl,rfl⟩]
 go_enter Tryz.func9,Tryz.ntmps9
 go_wp2_with fail
 go_ret
 exact ⟨rfl,World.grownBy_alloc _ _ _⟩
theorem check9_3 (ao:Option Addr)(n cp:Nat)(tk ss nb mk:Int)(w:World):Calls Tryz.prog 9 #[.agg #[.int .i64 3,.int .i64 tk,.int .i64 ss,.int .i64 nb,.int .i64 mk,.slice ao n cp]] w fun e w'=>e=.returned (.int .i64 (if tk=0/\1<=ss/\nb=0/\mk=0/\n=0 then 0 else 2))/\w.grownBy w' none:=by
 by_cases e0:tk=0
 rotate_left
 ·rw [if_neg (fun h=>e0 h.1)]
  have q0:(tk==0)=false:=by simp;omega
  skip
  clear e0
  go_enter Tryz.func9,Tryz.ntmps9
  go_wp2_with fail
  go_ret
  exact ⟨rfl,World.grownBy_alloc _ _ _⟩
 subst e0
 by_cases e1:1<=ss
 rotate_left
 ·rw [if_neg (fun h=>e1 h.2.1)]
  have q1:(ss ≥ 1)=False:=by simp;omega
  have q1':(1<=ss)=False:=by simp;omega
  clear e1
  go_enter Tryz.func9,Tryz.ntmps9
  go_wp2_with fail
  go_ret
  exact ⟨rfl,World.grownBy_alloc _ _ _⟩
 have q1:(ss ≥ 1)=True:=by simp;omega
 have q1':(1<=ss)=True:=by simp;omega
 have N1:Hid (1<=ss):=e1
 clear e1
 by_cases e2:nb=0
 rotate_left
 ·rw [if_neg (fun h=>e2 h.2.2.1)]
  have q2:(nb==0)=false:=by simp;omega
  skip
  clear e2
  go_enter Tryz.func9,Tryz.ntmps9
  go_wp2_with fail
  go_ret
  exact ⟨rfl,World.grownBy_alloc _ _ _⟩
 subst e2
 by_cases e3:mk=0
 rotate_left
 ·rw [if_neg (fun h=>e3 h.2.2.2.1)]
  have q3:(mk==0)=false:=by simp;omega
  skip
  clear e3
  go_enter Tryz.func9,Tryz.ntmps9
  go_wp2_with fail
  go_ret
  exact ⟨rfl,World.grownBy_alloc _ _ _⟩
 subst e3
 by_cases e4:n=0
 rotate_left
 ·rw [if_neg (fun h=>e4 h.2.2.2.2)]
  have q4:((n:Int)==0)=false:=by simp;omega
  skip
  clear e4
  go_enter Tryz.func9,Tryz.ntmps9
  go_wp2_with fail
  go_ret
  exact ⟨rfl,World.grownBy_alloc _ _ _⟩
 subst e4
 rw [if_pos ⟨rfl,N1.out,rfl,rfl,rfl⟩]
 go_enter Tryz.func9,Tryz.ntmps9
 go_wp2_with fail
 go_ret
 exact ⟨rfl,World.grownBy_alloc _ _ _⟩
theorem check9_4 (ao:Option Addr)(n cp:Nat)(tk ss nb mk:Int)(w:World):Calls Tryz.prog 9 #[.agg #[.int .i64 4,.int .i64 tk,.int .i64 ss,.int .i64 nb,.int .i64 mk,.slice ao n cp]] w fun e w'=>e=.returned (.int .i64 (if tk=0/\1<=ss/\nb=0/\mk=0/\n=0 then 0 else 2))/\w.grownBy w' none:=by
 by_cases e0:tk=0
 rotate_left
 ·rw [if_neg (fun h=>e0 h.1)]
  have q0:(tk==0)=false:=by simp;omega
  skip
  clear e0
  go_enter Tryz.func9,Tryz.ntmps9
  go_wp2_with fail
  go_ret
  exact ⟨rfl,World.grownBy_alloc _ _ _⟩
 subst e0
 by_cases e1:1<=ss
 rotate_left
 ·rw [if_neg (fun h=>e1 h.2.1)]
  have q1:(ss ≥ 1)=False:=by simp;omega
  have q1':(1<=ss)=False:=by simp;omega
  clear e1
  go_enter Tryz.func9,Tryz.ntmps9
  go_wp2_with fail
  go_ret
  exact ⟨rfl,World.grownBy_alloc _ _ _⟩
 have q1:(ss ≥ 1)=True:=by simp;omega
 have q1':(1<=ss)=True:=by simp;omega
 have N1:Hid (1<=ss):=e1
 clear e1
 by_cases e2:nb=0
 rotate_left
 ·rw [if_neg (fun h=>e2 h.2.2.1)]
  have q2:(nb==0)=false:=by simp;omega
  skip
  clear e2
  go_enter Tryz.func9,Tryz.ntmps9
  go_wp2_with fail
  go_ret
  exact ⟨rfl,World.grownBy_alloc _ _ _⟩
 subst e2
 by_cases e3:mk=0
 rotate_left
 ·rw [if_neg (fun h=>e3 h.2.2.2.1)]
  have q3:(mk==0)=false:=by simp;omega
  skip
  clear e3
  go_enter Tryz.func9,Tryz.ntmps9
  go_wp2_with fail
  go_ret
  exact ⟨rfl,World.grownBy_alloc _ _ _⟩
 subst e3
 by_cases e4:n=0
 rotate_left
 ·rw [if_neg (fun h=>e4 h.2.2.2.2)]
  have q4:((n:Int)==0)=false:=by simp;omega
  skip
  clear e4
  go_enter Tryz.func9,Tryz.ntmps9
  go_wp2_with fail
  go_ret
  exact ⟨rfl,World.grownBy_alloc _ _ _⟩
 subst e4
 rw [if_pos ⟨rfl,N1.out,rfl,rfl,rfl⟩]
 go_enter Tryz.func9,Tryz.ntmps9
 go_wp2_with fail
 go_ret
 exact ⟨rfl,World.grownBy_alloc _ _ _⟩
theorem check9_2 (ao:Option Addr)(n cp:Nat)(tk ss nb mk:Int)(l:List POp)(w:World)(hl:Ops w (.slice ao n cp) l):Calls Tryz.prog 9 #[.agg #[.int .i64 2,.int .i64 tk,.int .i64 ss,.int .i64 nb,.int .i64 mk,.slice ao n cp]] w fun e w'=>e=.returned (.int .i64 (if tk=0/\1<=ss/\1<=nb/\0<=mk/\mk<nb/\chk l=0 then 0 else 2))/\w.grownBy w' none:=by
 have HL:Hid (Ops w (.slice ao n cp) l):=hl
 clear hl
 by_cases e0:tk=0
 rotate_left
 ·rw [if_neg (fun h=>e0 h.1)]
  have q0:(tk==0)=false:=by simp;omega
  clear e0
  go_enter Tryz.func9,Tryz.ntmps9
  go_wp2_with fail
  go_ret
  exact ⟨rfl,World.grownBy_alloc _ _ _⟩
 subst e0
 by_cases e1:1<=ss
 rotate_left
 ·rw [if_neg (fun h=>e1 h.2.1)]
  have q1:(1<=ss)=False:=by simp;omega
  clear e1
  go_enter Tryz.func9,Tryz.ntmps9
  go_wp2_with fail
  go_ret
  exact ⟨rfl,World.grownBy_alloc _ _ _⟩
 have q1:(1<=ss)=True:=by simp;omega
 have N1:Hid (1<=ss):=e1
 clear e1
 by_cases e2:1<=nb
 rotate_left
 ·rw [if_neg (fun h=>e2 h.2.2.1)]
  have q2:(1<=nb)=False:=by simp;omega
  clear e2
  go_enter Tryz.func9,Tryz.ntmps9
  go_wp2_with fail
  go_ret
  exact ⟨rfl,World.grownBy_alloc _ _ _⟩
 have q2:(1<=nb)=True:=by simp;omega
 have N2:Hid (1<=nb):=e2
 clear e2
 by_cases e3:0<=mk
 rotate_left
 ·rw [if_neg (fun h=>e3 h.2.2.2.1)]
  have q3:(0<=mk)=False:=by simp;omega
  clear e3
  go_enter Tryz.func9,Tryz.ntmps9
  go_wp2_with fail
  go_ret
  exact ⟨rfl,World.grownBy_alloc _ _ _⟩
 have q3:(0<=mk)=True:=by simp;omega
 have N3:Hid (0<=mk):=e3
 clear e3
 by_cases e4:mk<nb
 rotate_left
 ·rw [if_neg (fun h=>e4 h.2.2.2.2.1)]
  have q4:(mk<nb)=False:=by simp;omega
  clear e4
  go_enter Tryz.func9,Tryz.ntmps9
  go_wp2_with fail
  go_ret
  exact ⟨rfl,World.grownBy_alloc _ _ _⟩
 have q4:(mk<nb)=True:=by simp;omega
 have N4:Hid (mk<nb):=e4
 clear e4
 by_cases hc:chk l=0
 ·rw [if_pos ⟨rfl,N1.out,N2.out,N3.out,N4.out,hc⟩]
  have HC:Hid (chk l=0):=hc
  clear hc
  go_enter Tryz.func9,Tryz.ntmps9
  go_wp2_with fail
  obtain ⟨W,hW,HW⟩:=al1 w #[.int .i64 2,.int .i64 0,.int .i64 ss,.int .i64 nb,.int .i64 mk,.slice ao n cp] 27
  rw [hW]
  clear hW
  refine (check12 (.slice ao n cp) l W (HL.out.grown HW.out.2.1)).mono ?_
  rintro e w1 ⟨rfl,g1⟩
  rw [HC.out]
  have G:Hid (w.grownBy w1 none):=grown_trans HW.out.2.1 g1
  clear g1 HW
  go_wp2_with fail
  go_ret
  exact ⟨rfl,G.out⟩
 ·rw [if_neg (fun h=>hc h.2.2.2.2.2)]
  have qc:(chk l==0)=false:=by simp [hc]
  clear hc
  go_enter Tryz.func9,Tryz.ntmps9
  go_wp2_with fail
  obtain ⟨W,hW,HW⟩:=al1 w #[.int .i64 2,.int .i64 0,.int .i64 ss,.int .i64 nb,.int .i64 mk,.slice ao n cp] 27
  rw [hW]
  clear hW
  refine (check12 (.slice ao n cp) l W (HL.out.grown HW.out.2.1)).mono ?_
  rintro e w1 ⟨rfl,g1⟩
  have G:Hid (w.grownBy w1 none):=grown_trans HW.out.2.1 g1
  clear g1 HW
  go_wp2_with fail
  go_ret
  exact ⟨rfl,G.out⟩
theorem check9_0 (ao:Option Addr)(n cp:Nat)(k tk ss nb mk:Int)(w:World)(h1:(k==1)=false)(h2:(k==2)=false)(h3:(k==3)=false)(h4:(k==4)=false):Calls Tryz.prog 9 #[.agg #[.int .i64 k,.int .i64 tk,.int .i64 ss,.int .i64 nb,.int .i64 mk,.slice ao n cp]] w fun e w'=>e=.returned (.int .i64 2)/\w.grownBy w' none:=by
 go_enter Tryz.func9,Tryz.ntmps9
 go_wp2_with fail
 go_ret
 exact ⟨rfl,World.grownBy_alloc _ _ _⟩
theorem okC_iff (c:PCmd):okC c=true<->(c.kind=1/\1<=c.token/\c.session=0/\c.number=0/\c.mark=0/\c.ops=[])\/(c.kind=2/\c.token=0/\1<=c.session/\1<=c.number/\0<=c.mark/\c.mark<c.number/\chk c.ops=0)\/((c.kind=3\/c.kind=4)/\c.token=0/\1<=c.session/\c.number=0/\c.mark=0/\c.ops=[]):=by
 obtain ⟨k,tk,ss,nb,mk,l⟩:=c
 unfold okC fitC idOk idC markOk namedC
 by_cases h1:k=1
 ·subst h1;simp <;> grind
 ·by_cases h2:k=2
  ·subst h2;simp <;> grind
  ·by_cases h3:k=3
   ·subst h3;simp <;> grind
   ·by_cases h4:k=4
    ·subst h4;simp <;> grind
    ·simp [h1,h2,h3,h4]
theorem check9 (ov:Value)(c:PCmd)(w:World)(h:Ops w ov c.ops):Calls Tryz.prog 9 #[cmdV ov c] w fun e w'=>e=.returned (.int .i64 (chkC c))/\w.grownBy w' none:=by
 obtain ⟨ao,n,cp,rfl,hn,_⟩:=ops_open h
 have he:∀{P:Prop} [Decidable P],(okC c=true<->P)->chkC c=if P then 0 else 2:=fun {P} _ hP=>by
  unfold chkC
  by_cases hp:P
  ·rw [if_pos hp,if_pos (hP.2 hp)]
  ·rw [if_neg hp,if_neg (fun e=>hp (hP.1 e))]
 have hnil:n=0<->c.ops=[]:=by rw [<-hn,List.length_eq_zero_iff]
 obtain ⟨k,tk,ss,nb,mk,l⟩:=c
 simp only at h he hnil
 unfold cmdV
 simp only
 have ok:=okC_iff ⟨k,tk,ss,nb,mk,l⟩
 simp only at ok
 by_cases h1:k=1
 ·subst h1
  rw [he (P:=1<=tk/\ss=0/\nb=0/\mk=0/\n=0) (by rw [ok,hnil];simp)]
  exact check9_1 ao n cp tk ss nb mk w
 ·by_cases h2:k=2
  ·subst h2
   rw [he (P:=tk=0/\1<=ss/\1<=nb/\0<=mk/\mk<nb/\chk l=0) (by rw [ok];simp)]
   exact check9_2 ao n cp tk ss nb mk l w h
  ·by_cases h3:k=3
   ·subst h3
    rw [he (P:=tk=0/\1<=ss/\nb=0/\mk=0/\n=0) (by rw [ok,hnil];simp)]
    exact check9_3 ao n cp tk ss nb mk w
   ·by_cases h4:k=4
    ·subst h4
     rw [he (P:=tk=0/\1<=ss/\nb=0/\mk=0/\n=0) (by rw [ok,hnil];simp)]
     exact check9_4 ao n cp tk ss nb mk w
    ·have hno:¬okC ⟨k,tk,ss,nb,mk,l⟩=true:=by rw [ok];simp [h1,h2,h3,h4]
     rw [chkC,if_neg hno]
     exact check9_0 ao n cp k tk ss nb mk w (by simp [h1]) (by simp [h2]) (by simp [h3]) (by simp [h4])
theorem dSgn (n:Int)(h1:-9223372036854775808<=n)(h2:n<=9223372036854775807)(w:World):Calls Tryz.prog 42 #[.int .i64 n] w (FormIs (sgn n) w):=(Wire.signed14 n h1 h2 w).mono fun _ _ h=>formIs_wire h
theorem form17_1 (ao:Option Addr)(n cp:Nat)(tk ss nb mk:Int)(l:List POp)(w:World)(hl:Ops w (.slice ao n cp) l)(hI:InC (⟨1,tk,ss,nb,mk,l⟩:PCmd)):Calls Tryz.prog 17 #[cmdV (.slice ao n cp) (⟨1,tk,ss,nb,mk,l⟩:PCmd)] w (FormIs (formC (⟨1,tk,ss,nb,mk,l⟩:PCmd)) w):=by
 have HL:Hid (Ops w (.slice ao n cp) l/\InC (⟨1,tk,ss,nb,mk,l⟩:PCmd)):=⟨hl,hI⟩
 clear hl hI
 simp only [cmdV]
 go_enter Tryz.func17,Tryz.ntmps17
 go_wp2_with fail
 obtain ⟨W,hW,HW⟩:=al1 w #[.int .i64 1,.int .i64 tk,.int .i64 ss,.int .i64 nb,.int .i64 mk,.slice ao n cp] 27
 rw [hW]
 clear hW
 refine (dNum _ 1 rfl (by decide) _).mono ?_
 rintro e w2 ⟨u0,rfl,o0,gg2⟩
 have H3:Hid (Blk w2 w.heap.size 27 #[.int .i64 1,.int .i64 tk,.int .i64 ss,.int .i64 nb,.int .i64 mk,.slice ao n cp]/\w.grownBy w2 none/\Own w2 (w.heap.size+1) u0 (Wire.numForm 1)):=⟨HW.out.1.grown gg2 (by simp),grown_trans HW.out.2.1 gg2,Own.mono o0 (by have:=HW.out.2.2;omega)⟩
 clear gg2 o0 HW
 obtain ⟨F0,hF0⟩:∃F,Wire.numForm 1=F:=⟨_,rfl⟩
 have B0:Hid (F0.length<=10/\Wire.numForm 1=F0):=⟨by rw [<-hF0];exact Wire.numForm_len10 _ (by decide),hF0⟩
 rw [hF0] at H3
 clear hF0
 have a0:=H3.out.1.cell 0
 have a1:=H3.out.1.cell 1
 simp at a0 a1
 go_wp2_with fail
 refine (dSgn tk HL.out.2.t0 HL.out.2.t1 _).mono ?_
 rintro e p0 ⟨r0,rfl,or0,gr0⟩
 have H4:Hid (Blk p0 w.heap.size 27 #[.int .i64 1,.int .i64 tk,.int .i64 ss,.int .i64 nb,.int .i64 mk,.slice ao n cp]/\w.grownBy p0 none/\Own p0 (w.heap.size+1) u0 F0/\Seg p0 r0 (sgn tk)/\w.heap.size+1<=p0.heap.size):=⟨H3.out.1.grown gr0 (by simp),grown_trans H3.out.2.1 gr0,H3.out.2.2.grown gr0,or0.seg,by have:=gr0.size;have:=H3.out.1.lt;omega⟩
 clear or0 gr0 H3 a0 a1
 go_wp2_with (at_builtin;refine app22 _ rfl _ _ rfl (w.heap.size+1) _ F0 _ (sgn tk) rfl rfl H4.out.2.2.1 H4.out.2.2.2.1 ?c0 H4.out.2.2.2.2 ?_)
 case c0 =>
  have h1:=B0.out.1
  have h2:(sgn tk).length<=10:=sgn_len HL.out.2.t0 HL.out.2.t1
  omega
 intro u1 q0 o1 g1 _
 obtain ⟨F1,hF1⟩:∃F,F0 ++ sgn tk=F:=⟨_,rfl⟩
 rw [hF1] at o1
 have B1:Hid (F1.length<=20/\F0 ++ sgn tk=F1):=⟨by
  have h1:=B0.out.1
  have h2:(sgn tk).length<=10:=sgn_len HL.out.2.t0 HL.out.2.t1
  rw [<-hF1,List.length_append];omega,hF1⟩
 clear hF1
 have H3:Hid (Blk q0 w.heap.size 27 #[.int .i64 1,.int .i64 tk,.int .i64 ss,.int .i64 nb,.int .i64 mk,.slice ao n cp]/\w.grownBy q0 none/\Own q0 (w.heap.size+1) u1 F1):=by
  have hne:∀x,(u0:Value).ownBlock=some x->w.heap.size+1<=x:=fun x hx=>(H4.out.2.2.1.lt x hx).1
  exact ⟨H4.out.1.grown g1 (fun e=>by have:=hne _ e;omega),grown_new H4.out.2.1 g1 (fun x hx=>by have:=hne x hx;omega),o1⟩
 clear o1 g1 H4
 go_wp2_with fail
 go_ret
 have hE:formC (⟨1,tk,ss,nb,mk,l⟩:PCmd)=F1:=by
  rw [<-B1.out.2,<-B0.out.2]
  simp [formC,frontC,headC,numsC]
 refine ⟨_,rfl,?_,H3.out.2.1⟩
 rw [hE]
 exact Own.mono H3.out.2.2 (by omega)
theorem form17_2 (ao:Option Addr)(n cp:Nat)(tk ss nb mk:Int)(l:List POp)(w:World)(hl:Ops w (.slice ao n cp) l)(hI:InC (⟨2,tk,ss,nb,mk,l⟩:PCmd))(hc:chk l=0):Calls Tryz.prog 17 #[cmdV (.slice ao n cp) (⟨2,tk,ss,nb,mk,l⟩:PCmd)] w (FormIs (formC (⟨2,tk,ss,nb,mk,l⟩:PCmd)) w):=by
 have HL:Hid (Ops w (.slice ao n cp) l/\InC (⟨2,tk,ss,nb,mk,l⟩:PCmd)):=⟨hl,hI⟩
 clear hl hI
 simp only [cmdV]
 go_enter Tryz.func17,Tryz.ntmps17
 go_wp2_with fail
 obtain ⟨W,hW,HW⟩:=al1 w #[.int .i64 2,.int .i64 tk,.int .i64 ss,.int .i64 nb,.int .i64 mk,.slice ao n cp] 27
 rw [hW]
 clear hW
 refine (dNum _ 2 rfl (by decide) _).mono ?_
 rintro e w2 ⟨u0,rfl,o0,gg2⟩
 have H3:Hid (Blk w2 w.heap.size 27 #[.int .i64 2,.int .i64 tk,.int .i64 ss,.int .i64 nb,.int .i64 mk,.slice ao n cp]/\w.grownBy w2 none/\Own w2 (w.heap.size+1) u0 (Wire.numForm 2)):=⟨HW.out.1.grown gg2 (by simp),grown_trans HW.out.2.1 gg2,Own.mono o0 (by have:=HW.out.2.2;omega)⟩
 clear gg2 o0 HW
 obtain ⟨F0,hF0⟩:∃F,Wire.numForm 2=F:=⟨_,rfl⟩
 have B0:Hid (F0.length<=10/\Wire.numForm 2=F0):=⟨by rw [<-hF0];exact Wire.numForm_len10 _ (by decide),hF0⟩
 rw [hF0] at H3
 clear hF0
 have a0:=H3.out.1.cell 0
 have a1:=H3.out.1.cell 2
 simp at a0 a1
 go_wp2_with fail
 refine (dSgn ss HL.out.2.s0 HL.out.2.s1 _).mono ?_
 rintro e p0 ⟨r0,rfl,or0,gr0⟩
 have H4:Hid (Blk p0 w.heap.size 27 #[.int .i64 2,.int .i64 tk,.int .i64 ss,.int .i64 nb,.int .i64 mk,.slice ao n cp]/\w.grownBy p0 none/\Own p0 (w.heap.size+1) u0 F0/\Seg p0 r0 (sgn ss)/\w.heap.size+1<=p0.heap.size):=⟨H3.out.1.grown gr0 (by simp),grown_trans H3.out.2.1 gr0,H3.out.2.2.grown gr0,or0.seg,by have:=gr0.size;have:=H3.out.1.lt;omega⟩
 clear or0 gr0 H3 a0 a1
 go_wp2_with (at_builtin;refine app22 _ rfl _ _ rfl (w.heap.size+1) _ F0 _ (sgn ss) rfl rfl H4.out.2.2.1 H4.out.2.2.2.1 ?c0 H4.out.2.2.2.2 ?_)
 case c0 =>
  have h1:=B0.out.1
  have h2:(sgn ss).length<=10:=sgn_len HL.out.2.s0 HL.out.2.s1
  omega
 intro u1 q0 o1 g1 _
 obtain ⟨F1,hF1⟩:∃F,F0 ++ sgn ss=F:=⟨_,rfl⟩
 rw [hF1] at o1
 have B1:Hid (F1.length<=20/\F0 ++ sgn ss=F1):=⟨by
  have h1:=B0.out.1
  have h2:(sgn ss).length<=10:=sgn_len HL.out.2.s0 HL.out.2.s1
  rw [<-hF1,List.length_append];omega,hF1⟩
 clear hF1
 have H3:Hid (Blk q0 w.heap.size 27 #[.int .i64 2,.int .i64 tk,.int .i64 ss,.int .i64 nb,.int .i64 mk,.slice ao n cp]/\w.grownBy q0 none/\Own q0 (w.heap.size+1) u1 F1):=by
  have hne:∀x,(u0:Value).ownBlock=some x->w.heap.size+1<=x:=fun x hx=>(H4.out.2.2.1.lt x hx).1
  exact ⟨H4.out.1.grown g1 (fun e=>by have:=hne _ e;omega),grown_new H4.out.2.1 g1 (fun x hx=>by have:=hne x hx;omega),o1⟩
 clear o1 g1 H4
 have a0:=H3.out.1.cell 0
 have a1:=H3.out.1.cell 3
 simp at a0 a1
 go_wp2_with fail
 refine (dSgn nb HL.out.2.n0 HL.out.2.n1 _).mono ?_
 rintro e p1 ⟨r1,rfl,or1,gr1⟩
 have H4:Hid (Blk p1 w.heap.size 27 #[.int .i64 2,.int .i64 tk,.int .i64 ss,.int .i64 nb,.int .i64 mk,.slice ao n cp]/\w.grownBy p1 none/\Own p1 (w.heap.size+1) u1 F1/\Seg p1 r1 (sgn nb)/\w.heap.size+1<=p1.heap.size):=⟨H3.out.1.grown gr1 (by simp),grown_trans H3.out.2.1 gr1,H3.out.2.2.grown gr1,or1.seg,by have:=gr1.size;have:=H3.out.1.lt;omega⟩
 clear or1 gr1 H3 a0 a1
 go_wp2_with (at_builtin;refine app22 _ rfl _ _ rfl (w.heap.size+1) _ F1 _ (sgn nb) rfl rfl H4.out.2.2.1 H4.out.2.2.2.1 ?c0 H4.out.2.2.2.2 ?_)
 case c0 =>
  have h1:=B1.out.1
  have h2:(sgn nb).length<=10:=sgn_len HL.out.2.n0 HL.out.2.n1
  omega
 intro u2 q1 o2 g2 _
 obtain ⟨F2,hF2⟩:∃F,F1 ++ sgn nb=F:=⟨_,rfl⟩
 rw [hF2] at o2
 have B2:Hid (F2.length<=30/\F1 ++ sgn nb=F2):=⟨by
  have h1:=B1.out.1
  have h2:(sgn nb).length<=10:=sgn_len HL.out.2.n0 HL.out.2.n1
  rw [<-hF2,List.length_append];omega,hF2⟩
 clear hF2
 have H3:Hid (Blk q1 w.heap.size 27 #[.int .i64 2,.int .i64 tk,.int .i64 ss,.int .i64 nb,.int .i64 mk,.slice ao n cp]/\w.grownBy q1 none/\Own q1 (w.heap.size+1) u2 F2):=by
  have hne:∀x,(u1:Value).ownBlock=some x->w.heap.size+1<=x:=fun x hx=>(H4.out.2.2.1.lt x hx).1
  exact ⟨H4.out.1.grown g2 (fun e=>by have:=hne _ e;omega),grown_new H4.out.2.1 g2 (fun x hx=>by have:=hne x hx;omega),o2⟩
 clear o2 g2 H4
 have a0:=H3.out.1.cell 0
 have a1:=H3.out.1.cell 4
 simp at a0 a1
 go_wp2_with fail
 refine (dSgn mk HL.out.2.m0 HL.out.2.m1 _).mono ?_
 rintro e p2 ⟨r2,rfl,or2,gr2⟩
 have H4:Hid (Blk p2 w.heap.size 27 #[.int .i64 2,.int .i64 tk,.int .i64 ss,.int .i64 nb,.int .i64 mk,.slice ao n cp]/\w.grownBy p2 none/\Own p2 (w.heap.size+1) u2 F2/\Seg p2 r2 (sgn mk)/\w.heap.size+1<=p2.heap.size):=⟨H3.out.1.grown gr2 (by simp),grown_trans H3.out.2.1 gr2,H3.out.2.2.grown gr2,or2.seg,by have:=gr2.size;have:=H3.out.1.lt;omega⟩
 clear or2 gr2 H3 a0 a1
 go_wp2_with (at_builtin;refine app22 _ rfl _ _ rfl (w.heap.size+1) _ F2 _ (sgn mk) rfl rfl H4.out.2.2.1 H4.out.2.2.2.1 ?c0 H4.out.2.2.2.2 ?_)
 case c0 =>
  have h1:=B2.out.1
  have h2:(sgn mk).length<=10:=sgn_len HL.out.2.m0 HL.out.2.m1
  omega
 intro u3 q2 o3 g3 _
 obtain ⟨F3,hF3⟩:∃F,F2 ++ sgn mk=F:=⟨_,rfl⟩
 rw [hF3] at o3
 have B3:Hid (F3.length<=40/\F2 ++ sgn mk=F3):=⟨by
  have h1:=B2.out.1
  have h2:(sgn mk).length<=10:=sgn_len HL.out.2.m0 HL.out.2.m1
  rw [<-hF3,List.length_append];omega,hF3⟩
 clear hF3
 have H3:Hid (Blk q2 w.heap.size 27 #[.int .i64 2,.int .i64 tk,.int .i64 ss,.int .i64 nb,.int .i64 mk,.slice ao n cp]/\w.grownBy q2 none/\Own q2 (w.heap.size+1) u3 F3):=by
  have hne:∀x,(u2:Value).ownBlock=some x->w.heap.size+1<=x:=fun x hx=>(H4.out.2.2.1.lt x hx).1
  exact ⟨H4.out.1.grown g3 (fun e=>by have:=hne _ e;omega),grown_new H4.out.2.1 g3 (fun x hx=>by have:=hne x hx;omega),o3⟩
 clear o3 g3 H4
 have HC:Hid (chk l=0):=hc
 clear hc
 have a0:=H3.out.1.cell 5
 simp at a0
 go_wp2_with fail
 refine (form20 (.slice ao n cp) l _ (HL.out.1.grown H3.out.2.1) (chk0 HC.out).1).mono ?_
 rintro e v1 ⟨r9,rfl,o9,g9⟩
 have H4:Hid (w.grownBy v1 none/\Own v1 (w.heap.size+1) u3 F3/\Seg v1 r9 (callForm l)/\w.heap.size+1<=v1.heap.size):=⟨grown_trans H3.out.2.1 g9,H3.out.2.2.grown g9,o9.seg,by have:=g9.size;have:=H3.out.1.lt;omega⟩
 clear o9 g9 H3 a0
 obtain ⟨CF,hCF⟩:∃F,callForm l=F:=⟨_,rfl⟩
 have BC:Hid (callForm l=CF/\CF.length<=4096):=⟨hCF,by rw [<-hCF];exact (chk0 HC.out).2⟩
 rw [hCF] at H4
 clear hCF
 go_wp2_with fail
 refine (dBytes r9 CF v1 H4.out.2.2.1 (by have:=BC.out.2;omega)).mono ?_
 rintro e v2 ⟨r7,rfl,o7,g7⟩
 have H5:Hid (w.grownBy v2 none/\Own v2 (w.heap.size+1) u3 F3/\Seg v2 r7 (bytesForm CF)/\w.heap.size+1<=v2.heap.size):=⟨grown_trans H4.out.1 g7,H4.out.2.1.grown g7,o7.seg,by have:=g7.size;have:=H4.out.2.2.2;omega⟩
 have bl:Hid ((bytesForm CF).length<=4106):=by
  have h1:=BC.out.2
  have h2:=Wire.numForm_len10 CF.length (by omega)
  unfold Hid bytesForm
  rw [List.length_append];omega
 clear o7 g7 H4
 go_wp2_with (at_builtin;refine app22 _ rfl _ _ rfl (w.heap.size+1) _ F3 _ (bytesForm CF) rfl rfl H5.out.2.1 H5.out.2.2.1 ?c0 H5.out.2.2.2 ?_)
 case c0 =>
  have h1:=B3.out.1
  have h2:=bl.out
  omega
 intro u9 v3 o3 g3 _
 have H6:Hid (w.grownBy v3 none/\Own v3 w.heap.size u9 (F3 ++ bytesForm CF)):=⟨grown_new H5.out.1 g3 (fun x hx=>by have:=(H5.out.2.1.lt x hx).1;omega),Own.mono o3 (by omega)⟩
 clear o3 g3 H5
 go_wp2_with fail
 go_ret
 have hE:formC (⟨2,tk,ss,nb,mk,l⟩:PCmd)=F3 ++ bytesForm CF:=by
  rw [<-BC.out.1]
  rw [<-B3.out.2,<-B2.out.2,<-B1.out.2,<-B0.out.2]
  simp [formC,frontC,headC,numsC]
 refine ⟨_,rfl,?_,H6.out.1⟩
 rw [hE]
 exact H6.out.2
theorem form17_3 (ao:Option Addr)(n cp:Nat)(tk ss nb mk:Int)(l:List POp)(w:World)(hl:Ops w (.slice ao n cp) l)(hI:InC (⟨3,tk,ss,nb,mk,l⟩:PCmd)):Calls Tryz.prog 17 #[cmdV (.slice ao n cp) (⟨3,tk,ss,nb,mk,l⟩:PCmd)] w (FormIs (formC (⟨3,tk,ss,nb,mk,l⟩:PCmd)) w):=by
 have HL:Hid (Ops w (.slice ao n cp) l/\InC (⟨3,tk,ss,nb,mk,l⟩:PCmd)):=⟨hl,hI⟩
 clear hl hI
 simp only [cmdV]
 go_enter Tryz.func17,Tryz.ntmps17
 go_wp2_with fail
 obtain ⟨W,hW,HW⟩:=al1 w #[.int .i64 3,.int .i64 tk,.int .i64 ss,.int .i64 nb,.int .i64 mk,.slice ao n cp] 27
 rw [hW]
 clear hW
 refine (dNum _ 3 rfl (by decide) _).mono ?_
 rintro e w2 ⟨u0,rfl,o0,gg2⟩
 have H3:Hid (Blk w2 w.heap.size 27 #[.int .i64 3,.int .i64 tk,.int .i64 ss,.int .i64 nb,.int .i64 mk,.slice ao n cp]/\w.grownBy w2 none/\Own w2 (w.heap.size+1) u0 (Wire.numForm 3)):=⟨HW.out.1.grown gg2 (by simp),grown_trans HW.out.2.1 gg2,Own.mono o0 (by have:=HW.out.2.2;omega)⟩
 clear gg2 o0 HW
 obtain ⟨F0,hF0⟩:∃F,Wire.numForm 3=F:=⟨_,rfl⟩
 have B0:Hid (F0.length<=10/\Wire.numForm 3=F0):=⟨by rw [<-hF0];exact Wire.numForm_len10 _ (by decide),hF0⟩
 rw [hF0] at H3
 clear hF0
 have a0:=H3.out.1.cell 0
 have a1:=H3.out.1.cell 2
 simp at a0 a1
 go_wp2_with fail
 refine (dSgn ss HL.out.2.s0 HL.out.2.s1 _).mono ?_
 rintro e p0 ⟨r0,rfl,or0,gr0⟩
 have H4:Hid (Blk p0 w.heap.size 27 #[.int .i64 3,.int .i64 tk,.int .i64 ss,.int .i64 nb,.int .i64 mk,.slice ao n cp]/\w.grownBy p0 none/\Own p0 (w.heap.size+1) u0 F0/\Seg p0 r0 (sgn ss)/\w.heap.size+1<=p0.heap.size):=⟨H3.out.1.grown gr0 (by simp),grown_trans H3.out.2.1 gr0,H3.out.2.2.grown gr0,or0.seg,by have:=gr0.size;have:=H3.out.1.lt;omega⟩
 clear or0 gr0 H3 a0 a1
 go_wp2_with (at_builtin;refine app22 _ rfl _ _ rfl (w.heap.size+1) _ F0 _ (sgn ss) rfl rfl H4.out.2.2.1 H4.out.2.2.2.1 ?c0 H4.out.2.2.2.2 ?_)
 case c0 =>
  have h1:=B0.out.1
  have h2:(sgn ss).length<=10:=sgn_len HL.out.2.s0 HL.out.2.s1
  omega
 intro u1 q0 o1 g1 _
 obtain ⟨F1,hF1⟩:∃F,F0 ++ sgn ss=F:=⟨_,rfl⟩
 rw [hF1] at o1
 have B1:Hid (F1.length<=20/\F0 ++ sgn ss=F1):=⟨by
  have h1:=B0.out.1
  have h2:(sgn ss).length<=10:=sgn_len HL.out.2.s0 HL.out.2.s1
  rw [<-hF1,List.length_append];omega,hF1⟩
 clear hF1
 have H3:Hid (Blk q0 w.heap.size 27 #[.int .i64 3,.int .i64 tk,.int .i64 ss,.int .i64 nb,.int .i64 mk,.slice ao n cp]/\w.grownBy q0 none/\Own q0 (w.heap.size+1) u1 F1):=by
  have hne:∀x,(u0:Value).ownBlock=some x->w.heap.size+1<=x:=fun x hx=>(H4.out.2.2.1.lt x hx).1
  exact ⟨H4.out.1.grown g1 (fun e=>by have:=hne _ e;omega),grown_new H4.out.2.1 g1 (fun x hx=>by have:=hne x hx;omega),o1⟩
 clear o1 g1 H4
 go_wp2_with fail
 go_ret
 have hE:formC (⟨3,tk,ss,nb,mk,l⟩:PCmd)=F1:=by
  rw [<-B1.out.2,<-B0.out.2]
  simp [formC,frontC,headC,numsC]
 refine ⟨_,rfl,?_,H3.out.2.1⟩
 rw [hE]
 exact Own.mono H3.out.2.2 (by omega)
theorem form17_4 (ao:Option Addr)(n cp:Nat)(tk ss nb mk:Int)(l:List POp)(w:World)(hl:Ops w (.slice ao n cp) l)(hI:InC (⟨4,tk,ss,nb,mk,l⟩:PCmd)):Calls Tryz.prog 17 #[cmdV (.slice ao n cp) (⟨4,tk,ss,nb,mk,l⟩:PCmd)] w (FormIs (formC (⟨4,tk,ss,nb,mk,l⟩:PCmd)) w):=by
 have HL:Hid (Ops w (.slice ao n cp) l/\InC (⟨4,tk,ss,nb,mk,l⟩:PCmd)):=⟨hl,hI⟩
 clear hl hI
 simp only [cmdV]
 go_enter Tryz.func17,Tryz.ntmps17
 go_wp2_with fail
 obtain ⟨W,hW,HW⟩:=al1 w #[.int .i64 4,.int .i64 tk,.int .i64 ss,.int .i64 nb,.int .i64 mk,.slice ao n cp] 27
 rw [hW]
 clear hW
 refine (dNum _ 4 rfl (by decide) _).mono ?_
 rintro e w2 ⟨u0,rfl,o0,gg2⟩
 have H3:Hid (Blk w2 w.heap.size 27 #[.int .i64 4,.int .i64 tk,.int .i64 ss,.int .i64 nb,.int .i64 mk,.slice ao n cp]/\w.grownBy w2 none/\Own w2 (w.heap.size+1) u0 (Wire.numForm 4)):=⟨HW.out.1.grown gg2 (by simp),grown_trans HW.out.2.1 gg2,Own.mono o0 (by have:=HW.out.2.2;omega)⟩
 clear gg2 o0 HW
 obtain ⟨F0,hF0⟩:∃F,Wire.numForm 4=F:=⟨_,rfl⟩
 have B0:Hid (F0.length<=10/\Wire.numForm 4=F0):=⟨by rw [<-hF0];exact Wire.numForm_len10 _ (by decide),hF0⟩
 rw [hF0] at H3
 clear hF0
 have a0:=H3.out.1.cell 0
 have a1:=H3.out.1.cell 2
 simp at a0 a1
 go_wp2_with fail
 refine (dSgn ss HL.out.2.s0 HL.out.2.s1 _).mono ?_
 rintro e p0 ⟨r0,rfl,or0,gr0⟩
 have H4:Hid (Blk p0 w.heap.size 27 #[.int .i64 4,.int .i64 tk,.int .i64 ss,.int .i64 nb,.int .i64 mk,.slice ao n cp]/\w.grownBy p0 none/\Own p0 (w.heap.size+1) u0 F0/\Seg p0 r0 (sgn ss)/\w.heap.size+1<=p0.heap.size):=⟨H3.out.1.grown gr0 (by simp),grown_trans H3.out.2.1 gr0,H3.out.2.2.grown gr0,or0.seg,by have:=gr0.size;have:=H3.out.1.lt;omega⟩
 clear or0 gr0 H3 a0 a1
 go_wp2_with (at_builtin;refine app22 _ rfl _ _ rfl (w.heap.size+1) _ F0 _ (sgn ss) rfl rfl H4.out.2.2.1 H4.out.2.2.2.1 ?c0 H4.out.2.2.2.2 ?_)
 case c0 =>
  have h1:=B0.out.1
  have h2:(sgn ss).length<=10:=sgn_len HL.out.2.s0 HL.out.2.s1
  omega
 intro u1 q0 o1 g1 _
 obtain ⟨F1,hF1⟩:∃F,F0 ++ sgn ss=F:=⟨_,rfl⟩
 rw [hF1] at o1
 have B1:Hid (F1.length<=20/\F0 ++ sgn ss=F1):=⟨by
  have h1:=B0.out.1
  have h2:(sgn ss).length<=10:=sgn_len HL.out.2.s0 HL.out.2.s1
  rw [<-hF1,List.length_append];omega,hF1⟩
 clear hF1
 have H3:Hid (Blk q0 w.heap.size 27 #[.int .i64 4,.int .i64 tk,.int .i64 ss,.int .i64 nb,.int .i64 mk,.slice ao n cp]/\w.grownBy q0 none/\Own q0 (w.heap.size+1) u1 F1):=by
  have hne:∀x,(u0:Value).ownBlock=some x->w.heap.size+1<=x:=fun x hx=>(H4.out.2.2.1.lt x hx).1
  exact ⟨H4.out.1.grown g1 (fun e=>by have:=hne _ e;omega),grown_new H4.out.2.1 g1 (fun x hx=>by have:=hne x hx;omega),o1⟩
 clear o1 g1 H4
 go_wp2_with fail
 go_ret
 have hE:formC (⟨4,tk,ss,nb,mk,l⟩:PCmd)=F1:=by
  rw [<-B1.out.2,<-B0.out.2]
  simp [formC,frontC,headC,numsC]
 refine ⟨_,rfl,?_,H3.out.2.1⟩
 rw [hE]
 exact Own.mono H3.out.2.2 (by omega)
theorem form17 (ov:Value)(c:PCmd)(w:World)(h:Ops w ov c.ops)(hI:InC c)(hk:okC c=true):Calls Tryz.prog 17 #[cmdV ov c] w (FormIs (formC c) w):=by
 have hk4:=fitC_kind (okC_fit hk)
 obtain ⟨ao,n,cp,rfl,_⟩:=ops_open h
 have hc:=okC_chk hk
 obtain ⟨k,tk,ss,nb,mk,l⟩:=c
 simp only at hk4 hc
 rcases (show k=1\/k=2\/k=3\/k=4 by omega) with rfl | rfl | rfl | rfl
 ·exact form17_1 ao n cp tk ss nb mk l w h hI
 ·exact form17_2 ao n cp tk ss nb mk l w h hI (hc rfl)
 ·exact form17_3 ao n cp tk ss nb mk l w h hI
 ·exact form17_4 ao n cp tk ss nb mk l w h hI
theorem check9_at (ov:Value)(c:PCmd)(w:World)(k:Int)(hk:c.kind=k)(h:Ops w ov c.ops):Calls Tryz.prog 9 #[.agg #[.int .i64 k,.int .i64 c.token,.int .i64 c.session,.int .i64 c.number,.int .i64 c.mark,ov]] w fun e w'=>e=.returned (.int .i64 (chkC c))/\w.grownBy w' none:=by
 subst hk
 exact check9 ov c w h
theorem changes15 (ov:Value)(c:PCmd)(w:World)(h:Ops w ov c.ops):Calls Tryz.prog 15 #[cmdV ov c] w fun e w'=>e=.returned (.bool (chgC c))/\w.grownBy w' none:=by
 obtain ⟨ao,n,cp,rfl,_,_,HL⟩:=ops_open h
 clear h
 unfold cmdV
 by_cases ho:okC c=true
 ·have HO:Hid (okC c=true):=ho
  clear ho
  by_cases hk:c.kind=2
  ·have HK:Hid (c.kind=2):=hk
   rw [hk]
   clear hk
   go_enter Tryz.func15,Tryz.ntmps15
   go_wp2_with fail
   obtain ⟨W,hW,HW⟩:=al1 w #[.int .i64 2,.int .i64 c.token,.int .i64 c.session,.int .i64 c.number,.int .i64 c.mark,.slice ao n cp] 27
   rw [hW]
   clear hW
   refine (check9_at (.slice ao n cp) c W 2 HK.out (HL.out.grown HW.out.2.1)).mono ?_
   rintro e w1 ⟨rfl,g1⟩
   rw [show chkC c=0 by rw [chkC,if_pos HO.out]]
   have H1:Hid (Blk w1 w.heap.size 27 #[.int .i64 2,.int .i64 c.token,.int .i64 c.session,.int .i64 c.number,.int .i64 c.mark,.slice ao n cp]/\w.grownBy w1 none):=⟨HW.out.1.grown g1 (by simp),grown_trans HW.out.2.1 g1⟩
   have c0:=H1.out.1.cell 0
   have c5:=H1.out.1.cell 5
   simp at c0 c5
   clear g1 HW
   go_wp2_with fail
   refine (reads18 (.slice ao n cp) c.ops w1 (HL.out.grown H1.out.2)).mono ?_
   rintro e w2 ⟨rfl,g2'⟩
   have G:Hid (w.grownBy w2 none):=grown_trans H1.out.2 g2'
   clear g2' H1 c5 c0
   go_wp2_with fail
   go_ret
   refine ⟨?_,G.out⟩
   simp [chgC,HK.out,HO.out]
  ·have q:(c.kind==2)=false:=by simp [hk]
   have HK:Hid (¬c.kind=2):=hk
   clear hk
   go_enter Tryz.func15,Tryz.ntmps15
   go_wp2_with fail
   obtain ⟨W,hW,HW⟩:=al1 w (cmdA (.slice ao n cp) c) 27
   unfold cmdA at hW
   rw [hW]
   clear hW
   refine (check9 (.slice ao n cp) c W (HL.out.grown HW.out.2.1)).mono ?_
   rintro e w1 ⟨rfl,g1⟩
   rw [show chkC c=0 by rw [chkC,if_pos HO.out]]
   have H1:Hid (Blk w1 w.heap.size 27 (cmdA (.slice ao n cp) c)/\w.grownBy w1 none):=⟨HW.out.1.grown g1 (by simp),grown_trans HW.out.2.1 g1⟩
   have c0:=H1.out.1.cell 0
   simp [cmdA] at c0
   clear g1 HW
   go_wp2_with fail
   go_ret
   refine ⟨?_,H1.out.2⟩
   simp [chgC,HK.out]
 ·have HO:Hid (okC c=false):=by simpa [Hid] using ho
  clear ho
  go_enter Tryz.func15,Tryz.ntmps15
  go_wp2_with fail
  obtain ⟨W,hW,HW⟩:=al1 w (cmdA (.slice ao n cp) c) 27
  unfold cmdA at hW
  rw [hW]
  clear hW
  refine (check9 (.slice ao n cp) c W (HL.out.grown HW.out.2.1)).mono ?_
  rintro e w1 ⟨rfl,g1⟩
  rw [show chkC c=2 by rw [chkC,if_neg (by rw [HO.out];decide)]]
  have G:Hid (w.grownBy w1 none):=grown_trans HW.out.2.1 g1
  clear g1 HW
  go_wp2_with fail
  go_ret
  refine ⟨?_,G.out⟩
  simp [chgC,HO.out]
end Go.Proofs.YtgjcpjckaopeeaaGreatDoor
