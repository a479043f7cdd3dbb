import Derived.Test.YtgjcpjckaopeeaaGreatDoorKt
import Derived.Test.YtgjcpjckaopeeaaGreatDoorCppAll
set_option maxHeartbeats 4000000
set_option maxRecDepth 100000
namespace Go.Proofs.YtgjcpjckaopeeaaGreatDoor
open Go.RowKit Disk
open Go.Proofs.YtgjcpjckaopeeaaGreatDoor.Calls
open Names (Str)
def wd (s:Bs):Bs × Bs:=(s.takeWhile (fun x=>x≠32),(s.dropWhile (fun x=>x≠32)).drop 1)
theorem qS:∀(s:Bs) (k:Nat) (_:(32:UInt8) ∉ s.take k) (hk:k<s.length) (_:s[k]=32),s.takeWhile (fun x=>x≠32)=s.take k/\s.dropWhile (fun x=>x≠32)=s.drop k
 | [],k,_,hk,_=>by simp at hk
 | a :: s,0,_,_,h=>by
  have ha:a=32:=h
  subst ha
  simp [List.takeWhile,List.dropWhile]
 | a :: s,k+1,h,hk,h2=>by
  have ha:a≠32:=fun e=>h (by rw [e];simp)
  have ih:=qS s k (fun e=>h (by simp [e])) (by simpa using hk) (by simpa using h2)
  have hd:(decide (a≠32))=true:=by simp [ha]
  rw [List.takeWhile_cons_of_pos (by simpa using ha),List.dropWhile_cons_of_pos (by simpa using ha)]
  exact ⟨by rw [ih.1];rfl,by rw [ih.2];rfl⟩
theorem qT {s:Bs}{k:Nat}(h:(32:UInt8) ∉ s.take k)(hk:k<s.length)(h2:s[k]=32):wd s=(s.take k,s.drop (k+1)):=by
 have:=qS s k h hk h2
 unfold wd
 rw [this.1,this.2,List.drop_drop]
theorem nf:∀(s:Bs) (_:(32:UInt8) ∉ s),s.takeWhile (fun x=>x≠32)=s/\s.dropWhile (fun x=>x≠32)=[]
 | [],_=>by simp
 | a :: s,h=>by
  have ha:a≠32:=fun e=>h (by rw [e];simp)
  have ih:=nf s (fun e=>h (by simp [e]))
  rw [List.takeWhile_cons_of_pos (by simpa using ha),List.dropWhile_cons_of_pos (by simpa using ha)]
  exact ⟨by rw [ih.1],ih.2⟩
theorem j7 {s:Bs}(h:(32:UInt8) ∉ s):wd s=(s,[]):=by
 have:=nf s h
 unfold wd
 rw [this.1,this.2]
 rfl
theorem eP {x r:Bs}(h:(32:UInt8) ∉ x):wd (x ++ 32 :: r)=(x,r):=by
 have hk:x.length<(x ++ 32 :: r).length:=by simp
 have:=qT (s:=x ++ 32 :: r) (k:=x.length) (by rw [List.take_left];exact h) hk (by simp)
 rw [this,List.take_left,List.drop_append]
 simp
theorem my (L:Bs)(b:Nat)(hb:b<=L.length)(w:World):(Instr.slice 9 (.string ⟨L.toArray⟩) none (some (.int .i64 b)) none).run Tryz.prog w=.ok (.string ⟨(L.take b).toArray⟩) w:=by
 rw [run_slice_string_to_if w 9 _ _ _ Tryz.underlying9,if_pos ⟨by omega,by rw [Names.cP];omega⟩]
 have e:(⟨L.toArray⟩:ByteArray).extract 0 (b:Int).toNat=⟨(L.take b).toArray⟩:=by
  apply ByteArray.ext
  rw [ByteArray.data_extract]
  simp
 rw [e]
theorem qU (s:Bs)(w:World)(hz:s.length<=20000):Calls Tryz.prog 56 #[.string ⟨s.toArray⟩] w fun e w'=>e=.returned (.tuple #[.string ⟨(wd s).1.toArray⟩,.string ⟨(wd s).2.toArray⟩])/\w.grownBy w' none:=by
 obtain ⟨n,hn⟩:∃n,s.length=n:=⟨_,rfl⟩
 obtain ⟨X,hX⟩:∃X:ByteArray,X=⟨s.toArray⟩:=⟨_,rfl⟩
 have hsz:X.size=n:=by rw [hX];simp [ByteArray.size,hn]
 have HN:Hid (s.length=n):=hn
 have HX:Hid (X=⟨s.toArray⟩):=hX
 rw [hn] at hz
 rw [<-hX]
 clear hn hX
 obtain ⟨p,hp⟩:∃p,wd s=p:=⟨_,rfl⟩
 have HP:Hid (wd s=p):=hp
 rw [hp]
 clear hp
 go_enter Tryz.func56,Tryz.ntmps56
 go_wp2_with fail
 go_loopw [4] (fun i wr=>∃k:Nat,k<=n/\i=.int .i64 k/\Hid ((32:UInt8) ∉ s.take k)/\Hid (w.grownBy wr none)) (fun i _=>n-(intOf i).toNat)
 case atStart=>exact ⟨0,by omega,rfl,by unfold Hid;simp,ai _ _⟩
 case round =>
  obtain ⟨k,hk,rfl,HT,HR⟩:=hrel
  by_cases hlt:k<n
  ·have i1:(k:Int)<(n:Int):=by omega
   have hk2:k<s.length:=by rw [HN.out];exact hlt
   by_cases hc:s[k]=32
   ·have hidx:∀wk,(Instr.index 9 (.string X) (.int .i64 k)).run Tryz.prog wk=.ok (.int .u8 32) wk:=fun wk=>by
     have:=Names.bf s k hk2 wk
     rw [hc] at this
     rw [HX.out]
     exact this
    have hp2:=qT HT.out hk2 hc
    rw [HP.out] at hp2
    have hc1:∀wk,(Instr.slice 9 (.string X) none (some (.int .i64 k)) none).run Tryz.prog wk=.ok (.string ⟨p.1.toArray⟩) wk:=fun wk=>by rw [HX.out,hp2];exact my s k (by omega) wk
    have hc2:∀wk,(Instr.slice 9 (.string X) (some (.int .i64 ((k:Int)+1))) none none).run Tryz.prog wk=.ok (.string ⟨p.2.toArray⟩) wk:=fun wk=>by rw [HX.out,hp2];exact Names.fZ s (k+1) (by omega) wk
    have hw1:IntKind.i64.wrap ((k:Int)+1)=(k:Int)+1:=by simp [IntKind.wrap,IntKind.bits,IntKind.signed];omega
    have hw2:((k:Int)+1<=(n:Int))=True:=eq_true (by omega)
    clear hc hp2 hk2
    go_wp2_with fail
    refine wp_region_noPanic ?_
    refine aj 1000 (fun y=>wr.grownBy y none) (by kernel_rfl) ?_
    have G0:Hid (wr.grownBy wr.drew none):=ac _ _
    generalize wr.drew=wq at G0 ⊢
    have J:Idx [0,1,2,3,4,5,6,7,8]:=trivial
    iterate 9 (refine tK J (G0.out) rfl rfl (fun wk hk=>by have hk1:=hc1 wk;have hk2:=hw1;have hk3:=hw2;go_simp;try rfl) ?_;replace J:=J.tl;try simp only [pN])
    refine wD ?_
    refine (‹∀(a:Act) (w:World),Code.wp Tryz.prog _ _ a w->_› _ _ ?_)
    go_wp2_with fail
    go_ret2
    exact ⟨rfl,aa HR.out G0.out⟩
   ·have hc3:s[k].toNat≠32:=fun e=>hc (UInt8.toNat_inj.1 (by simpa using e))
    obtain ⟨c,hcc⟩:∃c,s[k].toNat=c:=⟨_,rfl⟩
    have hidx:∀wk,(Instr.index 9 (.string X) (.int .i64 k)).run Tryz.prog wk=.ok (.int .u8 c) wk:=fun wk=>by
     have:=Names.bf s k hk2 wk
     rw [hcc] at this
     rw [HX.out]
     exact this
    have HT2:Hid ((32:UInt8) ∉ s.take (k+1)):=by
     unfold Hid
     rw [List.take_succ_eq_append_getElem hk2]
     simp only [List.mem_append,List.mem_singleton,not_or]
     exact ⟨HT.out,fun e=>hc e.symm⟩
    rw [hcc] at hc3
    have c1:((c:Int)==32)=false:=by rw [beq_eq_false_iff_ne];omega
    have c2:((c:Int)=32)=False:=eq_false (by omega)
    have c3:(c=32)=False:=eq_false hc3
    clear hc hcc hk2 HT
    go_wp2_with fail
    go_roundw
    case rel=>exact ⟨k+1,by omega,by go_num,HT2,HR⟩
    case measure=>simp [intOf];omega
  ·have i1:((k:Int)<(n:Int))=False:=eq_false (by omega)
   have hp2:=j7 (s:=s) (by have:=HT.out;rw [List.take_of_length_le (by rw [HN.out];omega)] at this;exact this)
   rw [HP.out] at hp2
   go_wp2_with fail
   go_ret2
   refine ⟨?_,HR.out⟩
   rw [hp2,HX.out]
   rfl
theorem fg (s:Bs):(wd s).1.length<=s.length/\(wd s).2.length<=s.length:=by
 have e:=List.takeWhile_append_dropWhile (p:=fun x:UInt8=>decide (x≠32)) (l:=s)
 have:=congrArg List.length e
 rw [List.length_append] at this
 unfold wd
 refine ⟨by simp only [];omega,?_⟩
 simp only [List.length_drop]
 omega
def d_ (x:Bs)(n:Int):Prop:=∀m:Int,-9223372036854775808<=m->m<=9223372036854775807->x=Lib.itoa m->n=m
theorem uJ (x:Bs)(w:World)(hl:x.length<=20000)(hE:EnvF w):Calls Tryz.prog 91 #[.string ⟨x.toArray⟩,.int .i64 10,.int .i64 64] w fun e w'=>∃(n:Int) (v:Value),e=.returned (.tuple #[.int .i64 n,v])/\-9223372036854775808<=n/\n<=9223372036854775807/\w.grownBy w' none/\d_ x n:=by
 have hsz:(⟨x.toArray⟩:ByteArray).size<=20000:=by simpa [ByteArray.size] using hl
 cases hA:Lib.parseIntB 64 x with
 | ok v =>
  have hb:=qA hA
  refine (Tryz.strconv_ParseInt_10_at64_ok ⟨x.toArray⟩ (by omega) v hA w).mono ?_
  rintro e w' ⟨rfl,hw⟩
  refine ⟨v,_,rfl,hb.1,hb.2,?_,fun m h0 h1 e=>?_⟩
  ·rcases hw with rfl | ⟨t,rfl⟩
   ·exact ai _ _
   ·exact aL _ _
  ·rw [e,jY h0 h1] at hA
   injection hA with hA
   exact hA.symm
 | «syntax» =>
  obtain ⟨tp,p,hv⟩:=hE.syn
  refine (Tryz.strconv_ParseInt_10_at64_syntax ⟨x.toArray⟩ (by omega) hA _ w hv (.inr ⟨tp,p,rfl⟩)).mono ?_
  rintro e w' ⟨N,rfl,_,_,hbl⟩
  exact ⟨0,_,rfl,by decide,by decide,bT hbl,fun m h0 h1 e=>by rw [e,jY h0 h1] at hA;cases hA⟩
 | range =>
  obtain ⟨tp,p,hv⟩:=hE.rng
  refine (Tryz.strconv_ParseInt_10_at64_range ⟨x.toArray⟩ (by omega) hA _ w hv (.inr ⟨tp,p,rfl⟩)).mono ?_
  rintro e w' ⟨N,rfl,_,_,hbl⟩
  refine ⟨_,_,rfl,?_,?_,bT hbl,fun m h0 h1 e=>by rw [e,jY h0 h1] at hA;cases hA⟩
  ·unfold Lib.intSat;split <;> decide
  ·unfold Lib.intSat;split <;> decide
theorem eC (s:Bs)(w:World)(hz:s.length<=20000)(hE:EnvF w):Calls Tryz.prog 57 #[.string ⟨s.toArray⟩] w fun e w'=>∃n:Int,e=.returned (.tuple #[.int .i64 n,.string ⟨(wd s).2.toArray⟩])/\-9223372036854775808<=n/\n<=9223372036854775807/\w.grownBy w' none/\d_ (wd s).1 n:=by
 have HE:Hid (EnvF w/\s.length<=20000):=⟨hE,hz⟩
 clear hE hz
 go_enter Tryz.func57,Tryz.ntmps57
 go_wp2_with fail
 refine (qU s w HE.out.2).mono ?_
 rintro e w1 ⟨rfl,g1⟩
 have H1:Hid (w.grownBy w1 none):=g1
 clear g1
 go_wp2_with fail
 refine (uJ (wd s).1 w1 (by have:=HE.out.2;have:=(fg s).1;omega) (HE.out.1.grown H1.out)).mono ?_
 rintro e w2 ⟨n,v,rfl,n0,n1,g2,hs⟩
 have H2:Hid (w.grownBy w2 none/\-9223372036854775808<=n/\n<=9223372036854775807/\d_ (wd s).1 n):=⟨aa H1.out g2,n0,n1,hs⟩
 clear n0 n1 g2 hs
 go_wp2_with fail
 go_ret2
 exact ⟨n,rfl,H2.out.2.1,H2.out.2.2.1,H2.out.1,H2.out.2.2.2⟩
theorem tj {d:PCmd}(h:d.kind=1):bi d=ay 1 ++ 32 :: Lib.itoa d.token:=by
 unfold bi ce dt bK
 rw [if_pos h,if_neg (by omega),h]
 simp [Lib.join]
theorem qV {d:PCmd}{k:Int}(h:d.kind=k)(hk:k=3\/k=4):bi d=ay k ++ 32 :: Lib.itoa d.session:=by
 unfold bi ce dt bK
 rw [h,if_neg (by omega),if_neg (by omega),if_pos hk,if_neg (by omega)]
 simp [Lib.join]
theorem tm {d:PCmd}(h:d.kind=2):bi d=ay 2 ++ 32 :: (Lib.itoa d.session ++ 32 :: (Lib.itoa d.number ++ 32 :: (Lib.itoa d.mark ++ 32 :: aw d.ops))):=by
 unfold bi ce dt bK
 rw [h,if_neg (by omega),if_pos rfl,if_pos rfl]
 simp [Lib.join]
theorem jA {d:PCmd}(h:okC d=true):∃r,wd (bi d)=(ay d.kind,r):=by
 rcases (d8 d).1 h with e | e | e
 ·rw [tj e.1,eP (cU _),e.1];exact ⟨_,rfl⟩
 ·rw [tm e.1,eP (cU _),e.1];exact ⟨_,rfl⟩
 ·rw [qV rfl e.1,eP (cU _)];exact ⟨_,rfl⟩
theorem qW {a b:Int}(ha:1<=a/\a<=4)(hb:1<=b/\b<=4)(h:ay a=ay b):a=b:=by
 rw [<-ff ha,<-ff hb,h]
theorem gJ {s:Bs}{k:Int}(hk:1<=k/\k<=4)(hw:(wd s).1=ay k){d:PCmd}(h:okC d=true)(e:s=bi d):d.kind=k:=by
 obtain ⟨r,hr⟩:=jA h
 rw [e,hr] at hw
 exact qW (cf (cT h)) hk hw
def Cand (s:Bs)(c:PCmd):Prop:=∀d,okC d=true->InC d->s=bi d->c=d
theorem uK {s:Bs}{n:Int}(hw:(wd s).1=ay 1)(hn:d_ (wd (wd s).2).1 n):Cand s ⟨1,n,0,0,0,[]⟩:=fun d h hi e=>by
 have hk:=gJ (by decide) hw h e
 have h2:(wd s).2=Lib.itoa d.token:=by rw [e,tj hk,eP (cU _)]
 rw [h2,j7 (cD _)] at hn
 have:=hn _ hi.t0 hi.t1 rfl
 rcases (d8 d).1 h with e | e | e
 ·exact PCmd.ext'.2 ⟨hk.symm,this,e.2.2.1.symm,e.2.2.2.1.symm,e.2.2.2.2.1.symm,e.2.2.2.2.2.symm⟩
 ·omega
 ·omega
theorem qX {s:Bs}{k n:Int}(h34:k=3\/k=4)(hw:(wd s).1=ay k)(hn:d_ (wd (wd s).2).1 n):Cand s ⟨k,0,n,0,0,[]⟩:=fun d h hi e=>by
 have hk:=gJ (by omega) hw h e
 have h2:(wd s).2=Lib.itoa d.session:=by rw [e,qV hk h34,eP (cU _)]
 rw [h2,j7 (cD _)] at hn
 have:=hn _ hi.s0 hi.s1 rfl
 rcases (d8 d).1 h with e | e | e
 ·omega
 ·omega
 ·exact PCmd.ext'.2 ⟨hk.symm,e.2.1.symm,this,e.2.2.2.1.symm,e.2.2.2.2.1.symm,e.2.2.2.2.2.symm⟩
theorem uL {s:Bs}{a b c:Int}(hw:(wd s).1=ay 2)(ha:d_ (wd (wd s).2).1 a)(hb:d_ (wd (wd (wd s).2).2).1 b)(hc:d_ (wd (wd (wd (wd s).2).2).2).1 c):Cand s ⟨2,0,a,b,c,(aN (wd (wd (wd (wd s).2).2).2).2).1⟩:=fun d h hi e=>by
 have hk:=gJ (by decide) hw h e
 have h2:(wd s).2=Lib.itoa d.session ++ 32 :: (Lib.itoa d.number ++ 32 :: (Lib.itoa d.mark ++ 32 :: aw d.ops)):=by rw [e,tm hk,eP (cU _)]
 rw [h2,eP (cD _)] at ha hb hc ⊢
 rw [eP (cD _)] at hb hc ⊢
 rw [eP (cD _)] at hc ⊢
 have e1:=ha _ hi.s0 hi.s1 rfl
 have e2:=hb _ hi.n0 hi.n1 rfl
 have e3:=hc _ hi.m0 hi.m1 rfl
 rcases (d8 d).1 h with e | e | e
 ·omega
 ·exact PCmd.ext'.2 ⟨hk.symm,e.2.1.symm,e1,e2,e3,by simp only [io e.2.2.2.2.2.2]⟩
 ·omega
theorem uM {s:Bs}(h1:(wd s).1≠ay 1)(h2:(wd s).1≠ay 2)(h3:(wd s).1≠ay 3)(h4:(wd s).1≠ay 4):Cand s bj:=fun d h _ e=>by
 obtain ⟨r,hr⟩:=jA h
 have hk:=cf (cT h)
 rw [e,hr] at h1 h2 h3 h4
 exfalso
 obtain e | e | e | e:d.kind=1\/d.kind=2\/d.kind=3\/d.kind=4:=by omega
 ·exact h1 (by rw [e])
 ·exact h2 (by rw [e])
 ·exact h3 (by rw [e])
 ·exact h4 (by rw [e])
theorem ng {s:Bs}{c:PCmd}(h:Cand s c)(hn:okC c=true->bi c≠s):cA s=(bj,4):=by
 unfold cA
 cases hp:pTxt s with
 | none=>rfl
 | some d =>
  obtain ⟨h1,h2,h3⟩:=kP.1 hp
  have:=h d h1 h2 h3
  subst this
  exact absurd h3.symm (hn h1)
end Go.Proofs.YtgjcpjckaopeeaaGreatDoor
