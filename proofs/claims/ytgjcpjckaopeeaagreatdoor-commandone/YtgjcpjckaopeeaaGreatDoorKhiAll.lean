import Derived.Test.YtgjcpjckaopeeaaGreatDoorCallsBp
import Derived.Lib.ParseIntB
import Derived.Test.YtgjcpjckaopeeaaGreatDoorKceAll
set_option maxHeartbeats 8000000
set_option maxRecDepth 100000
namespace Go.Proofs.YtgjcpjckaopeeaaGreatDoor
open Go.RowKit
open _root_.Go.Proofs.YtgjcpjckaopeeaaGreatDoor.Calls
theorem dec_len:∀(k u:Nat),u<10 ^ (k+1)->(Lib.decDigits u).length<=k+1
 | 0,u,h=>by rw [Lib.decDigits_one (by simpa using h)];simp
 | k+1,u,h=>by
  rw [Lib.decDigits]
  split
  ·simp
  ·rw [List.length_append]
   have:=dec_len k (u / 10) (by rw [Nat.div_lt_iff_lt_mul (by decide)];rw [Nat.pow_succ] at h;exact h)
   simp;omega
theorem itoa_len {n:Int}(h0:-9223372036854775808<=n)(h1:n<=9223372036854775807):(Lib.itoa n).length<=21:=by
 unfold Lib.itoa
 split
 ·have:=dec_len 19 n.natAbs (by omega)
  simp;omega
 ·have:=dec_len 19 n.toNat (by omega)
  omega
theorem pi_in {l:List UInt8}{v:Int}(h:Lib.parseIntB 64 l=.ok v):-9223372036854775808<=v/\v<=9223372036854775807:=by
 unfold Lib.parseIntB at h
 cases l with
 | nil=>cases h
 | cons c r =>
  simp only at h
  split at h
  ·cases h
  ·cases h
  ·split at h
   ·cases h
   ·split at h
    ·cases h
    ·rename_i u hu h1 h2
     simp only [Lib.NumEnd.ok.injEq] at h
     subst h
     by_cases hc:c.toNat=45
     ·rw [if_pos hc]
      simp [hc] at h2
      omega
     ·rw [if_neg hc]
      simp [hc] at h1
      omega
def pInt (x:Bs):Option Int:=match Lib.parseIntB 64 x with | .ok v=>if Lib.itoa v=x then some v else none | _=>none
theorem pInt_inv {x:Bs}{v:Int}(h:pInt x=some v):x=Lib.itoa v/\-9223372036854775808<=v/\v<=9223372036854775807:=by
 unfold pInt at h
 split at h
 ·rename_i u hu
  split at h
  ·rename_i e
   simp at h
   subst h
   exact ⟨e.symm,pi_in hu⟩
  ·cases h
 ·cases h
theorem pInt_nil:pInt []=none:=rfl
def wordK (k:Int):Bs:=if k=1 then [111,112,101,110] else if k=2 then [99,97,108,108] else if k=3 then [99,108,111,115,101] else if k=4 then [101,120,112,105,114,101] else []
def tailW (c:PCmd):List Bs:=(numsC c).map Lib.itoa ++ (if c.kind=2 then [callTxt c.ops] else [])
def wordsC (c:PCmd):List Bs:=wordK c.kind :: tailW c
def textC (c:PCmd):Bs:=Lib.join (wordsC c) [32]
def wNx (L:List Bs):Bs × List Bs:=match L with | []=>([],[]) | x :: r=>(x,r)
def kindOf (x:Bs):Int:=if x=wordK 1 then 1 else if x=wordK 2 then 2 else if x=wordK 3 then 3 else if x=wordK 4 then 4 else 0
def numW (L:List Bs):Option (Int × List Bs):=(pInt (wNx L).1).map fun v=>(v,(wNx L).2)
def finW (c:PCmd)(L:List Bs):Option PCmd:=if L=[]/\okC c=true then some c else none
def callW (s n m:Int)(L:List Bs):Option PCmd:=if (parseC (wNx L).1).2=0 then finW ⟨2,0,s,n,m,(parseC (wNx L).1).1⟩ (wNx L).2 else none
def pWords (L:List Bs):Option PCmd :=
 if kindOf (wNx L).1=1 then (numW (wNx L).2).bind fun t=>finW ⟨1,t.1,0,0,0,[]⟩ t.2
 else if kindOf (wNx L).1=2 then (numW (wNx L).2).bind fun s=>(numW s.2).bind fun n=>(numW n.2).bind fun m=>callW s.1 n.1 m.1 m.2
 else if kindOf (wNx L).1=3\/kindOf (wNx L).1=4 then (numW (wNx L).2).bind fun s=>finW ⟨kindOf (wNx L).1,0,s.1,0,0,[]⟩ s.2
 else none
def cutN (s:Bs):List Bs:=Lib.splitK [32] 0 (min 5 (s.length+1)-1) s
def pTxt (s:Bs):Option PCmd:=pWords (cutN s)
def parseM (s:Bs):PCmd × Int:=match pTxt s with | some c=>(c,0) | none=>(zeroC,4)
theorem numW_inv {L:List Bs}{x:Int × List Bs}(h:numW L=some x):L=Lib.itoa x.1 :: x.2/\-9223372036854775808<=x.1/\x.1<=9223372036854775807:=by
 unfold numW at h
 cases L with
 | nil=>simp [wNx,pInt_nil] at h
 | cons a r =>
  simp only [wNx] at h
  cases hp:pInt a with
  | none=>rw [hp] at h;cases h
  | some v =>
   rw [hp] at h
   simp at h
   subst h
   obtain ⟨e,b⟩:=pInt_inv hp
   exact ⟨by rw [e],b⟩
theorem callTxt_len {l:List POp}(h:chk l=0):(callTxt l).length<=12288:=callTxt_three h
theorem textC_len {c:PCmd}(h:okC c=true)(hi:InC c):(textC c).length<=13000:=by
 have hk:=fitC_kind (okC_fit h)
 have ht:=itoa_len hi.t0 hi.t1
 have hs:=itoa_len hi.s0 hi.s1
 have hn:=itoa_len hi.n0 hi.n1
 have hm:=itoa_len hi.m0 hi.m1
 unfold textC wordsC tailW numsC
 rcases (show c.kind=1\/c.kind=2\/c.kind=3\/c.kind=4 by omega) with e | e | e | e
 ·rw [e];simp [join_two,join_one,wordK];omega
 ·have:=callTxt_len (okC_chk h e)
  rw [e];simp [join_two,join_one,wordK];omega
 ·rw [e];simp [join_two,join_one,wordK];omega
 ·rw [e];simp [join_two,join_one,wordK];omega
end Go.Proofs.YtgjcpjckaopeeaaGreatDoor
namespace Go.Proofs.YtgjcpjckaopeeaaGreatDoor
open Go.RowKit Disk
open _root_.Go.Proofs.YtgjcpjckaopeeaaGreatDoor.Calls
open Names (Str)
structure EnvC (w:World):Prop where
 env:EnvF w
 k0:w.cell? ⟨0,0,none⟩=some (.string ⟨#[]⟩)
 k1:w.cell? ⟨0,1,none⟩=some (.string ⟨#[111,112,101,110]⟩)
 k2:w.cell? ⟨0,2,none⟩=some (.string ⟨#[99,97,108,108]⟩)
 k3:w.cell? ⟨0,3,none⟩=some (.string ⟨#[99,108,111,115,101]⟩)
 k4:w.cell? ⟨0,4,none⟩=some (.string ⟨#[101,120,112,105,114,101]⟩)
theorem EnvC.grown {w w':World}(h:EnvC w)(hg:w.grownBy w' none):EnvC w':=⟨h.env.grown hg,grown_fun hg h.k0,grown_fun hg h.k1,grown_fun hg h.k2,grown_fun hg h.k3,grown_fun hg h.k4⟩
theorem EnvC.set {w w':World}{b:Nat}(h:EnvC w)(hg:w.grownBy w' (some b))(hb:10<=b):EnvC w':=by
 have up:∀{j v},w.cell? ⟨0,j,none⟩=some v->w'.cell? ⟨0,j,none⟩=some v:=fun hc=>hg.cell hc (fun e=>by simp at e;omega)
 exact ⟨h.env.set hg hb,up h.k0,up h.k1,up h.k2,up h.k3,up h.k4⟩
theorem fmt45 (n:Int)(w:World)(hE:EnvF w)(h0:-9223372036854775808<=n)(h1:n<=9223372036854775807):Calls Tryz.prog 45 #[.int .i64 n,.int .i64 10] w fun e w'=>e=.returned (.string ⟨(Lib.itoa n).toArray⟩)/\w.grownBy w' none:=by
 refine (Tryz.strconv_FormatInt_10 n h0 h1 w hE.tab).mono ?_
 rintro e w' ⟨rfl,k,os,rfl⟩
 exact ⟨rfl,grow_grown _ _ _⟩
theorem numtext35 (n:Int)(w:World)(hE:EnvF w)(h0:-9223372036854775808<=n)(h1:n<=9223372036854775807):Calls Tryz.prog 35 #[.int .i64 n] w fun e w'=>e=.returned (.string ⟨(Lib.itoa n).toArray⟩)/\w.grownBy w' none:=by
 go_enter Tryz.func35,Tryz.ntmps35
 go_wp2_with (go_at_call 45;refine (fmt45 n w hE h0 h1).mono ?_;rintro e w1 ⟨rfl,hg⟩)
 go_ret
 exact ⟨rfl,hg⟩
def TextM (c:PCmd)(w:World)(e:Ending)(w':World):Prop:=e=.returned (.tuple #[Str (if okC c=true then textC c else []),.int .i64 (chkC c)])/\w.grownBy w' none
theorem text11_no (ov:Value)(c:PCmd)(w:World)(hl:Ops w ov c.ops)(hI:InC c)(ho:okC c=false):Calls Tryz.prog 11 #[cmdV ov c] w (TextM c w):=by
 obtain ⟨ao,n,cp,rfl,_,_,HL⟩:=ops_open hl
 have HI:Hid (InC c/\okC c=false):=⟨hI,ho⟩
 clear hl hI ho
 unfold cmdV
 go_enter Tryz.func11,Tryz.ntmps11
 go_wp2_with fail
 obtain ⟨W,hW,HW⟩:=al1 w (cmdA (.slice ao n cp) c) 27
 unfold cmdA at hW
 rw [hW]
 clear hW
 refine (check13 (.slice ao n cp) c W (HL.out.grown HW.out.2.1) HI.out.1).mono ?_
 rintro e w1 ⟨rfl,g1⟩
 rw [show chkC c=2 by rw [chkC,if_neg (by rw [HI.out.2];decide)]]
 have G:Hid (w.grownBy w1 none):=grown_trans HW.out.2.1 g1
 clear g1 HW
 go_wp2_with fail
 go_ret2
 refine ⟨?_,G.out⟩
 rw [if_neg (by rw [HI.out.2];decide),chkC,if_neg (by rw [HI.out.2];decide)]
 rfl
theorem text11_1 (ao:Option Addr)(n cp:Nat)(tk ss nb mk:Int)(l:List POp)(w:World)(hl:Ops w (.slice ao n cp) l)(hI:InC (⟨1,tk,ss,nb,mk,l⟩:PCmd))(ho:okC (⟨1,tk,ss,nb,mk,l⟩:PCmd)=true)(hE:EnvC w):Calls Tryz.prog 11 #[cmdV (.slice ao n cp) (⟨1,tk,ss,nb,mk,l⟩:PCmd)] w (TextM (⟨1,tk,ss,nb,mk,l⟩:PCmd) w):=by
 have HL:Hid (Ops w (.slice ao n cp) l/\InC (⟨1,tk,ss,nb,mk,l⟩:PCmd)/\okC (⟨1,tk,ss,nb,mk,l⟩:PCmd)=true/\EnvC w):=⟨hl,hI,ho,hE⟩
 clear hl hI ho hE
 simp only [cmdV]
 have i0:=ix0
 have i1:=ix1
 have i2:=ix2
 go_enter Tryz.func11,Tryz.ntmps11
 go_wp2_with fail
 obtain ⟨W,hW,HW⟩:=al1 w #[.int .i64 1,.int .i64 tk,.int .i64 ss,.int .i64 nb,.int .i64 mk,.slice ao n cp] 27
 rw [hW]
 clear hW
 refine (check13 (.slice ao n cp) (⟨1,tk,ss,nb,mk,l⟩:PCmd) W (HL.out.1.grown HW.out.2.1) HL.out.2.1).mono ?_
 rintro e w1 ⟨rfl,gg1⟩
 rw [show chkC (⟨1,tk,ss,nb,mk,l⟩:PCmd)=0 by rw [chkC,if_pos HL.out.2.2.1]]
 have H1:Hid (Blk w1 w.heap.size 27 #[.int .i64 1,.int .i64 tk,.int .i64 ss,.int .i64 nb,.int .i64 mk,.slice ao n cp]/\w.grownBy w1 none/\w.heap.size<w1.heap.size):=⟨HW.out.1.grown gg1 (by simp),grown_trans HW.out.2.1 gg1,by have:=gg1.size;have:=HW.out.2.2;omega⟩
 clear gg1 HW
 have c0:=H1.out.1.cell 0
 have kw:=(HL.out.2.2.2.grown H1.out.2.1).k1
 simp at c0
 go_wp2_with fail
 clear c0 kw
 obtain ⟨w2,hw2,H2⟩:=al1 w1 #[.string ⟨#[111,112,101,110]⟩] 9
 rw [hw2]
 have H3:Hid (Blk w2 w.heap.size 27 #[.int .i64 1,.int .i64 tk,.int .i64 ss,.int .i64 nb,.int .i64 mk,.slice ao n cp]/\w.grownBy w2 none/\SRow w2 (w.heap.size+1) (.slice (some ⟨w1.heap.size,0,none⟩) 1 1) [wordK 1]):=⟨H1.out.1.grown H2.out.2.1 (by simp),grown_trans H1.out.2.1 H2.out.2.1,by rw [<-hw2];exact srow_lit w1 [wordK 1] (w.heap.size+1) 1 rfl H1.out.2.2 (by omega)⟩
 clear hw2 H2 H1
 refine (numbers30_1 w.heap.size (.slice ao n cp) (⟨1,tk,ss,nb,mk,l⟩:PCmd) w2 H3.out.1 rfl).mono ?_
 rintro e w3 ⟨rfl,gg3⟩
 have H4:Hid (Blk w3 w.heap.size 27 #[.int .i64 1,.int .i64 tk,.int .i64 ss,.int .i64 nb,.int .i64 mk,.slice ao n cp]/\w.grownBy w3 none/\SRow w3 (w.heap.size+1) (.slice (some ⟨w1.heap.size,0,none⟩) 1 1) [wordK 1]):=⟨H3.out.1.grown gg3 (by simp),grown_trans H3.out.2.1 gg3,H3.out.2.2.grown gg3⟩
 clear gg3 H3
 have H3:=H4
 clear H4
 try unfold pt
 go_wp2_with fail
 refine wp_loop_rounds 4 ?_
 rw [rounds_succ]
 have a0:=H3.out.1.cell 1
 simp at a0
 go_wp2_with fail
 refine (numtext35 tk _ (HL.out.2.2.2.grown H3.out.2.1).env HL.out.2.1.t0 HL.out.2.1.t1).mono ?_
 rintro e p0 ⟨rfl,gr0⟩
 have H4:Hid (Blk p0 w.heap.size 27 #[.int .i64 1,.int .i64 tk,.int .i64 ss,.int .i64 nb,.int .i64 mk,.slice ao n cp]/\w.grownBy p0 none/\SRow p0 (w.heap.size+1) (.slice (some ⟨w1.heap.size,0,none⟩) 1 1) [wordK 1]):=⟨H3.out.1.grown gr0 (by simp),grown_trans H3.out.2.1 gr0,H3.out.2.2.grown gr0⟩
 clear gr0 H3 a0
 have H5:Hid (Blk (p0.alloc (.cells #[.string ⟨(Lib.itoa tk).toArray⟩] 9)) w.heap.size 27 #[.int .i64 1,.int .i64 tk,.int .i64 ss,.int .i64 nb,.int .i64 mk,.slice ao n cp]/\w.grownBy (p0.alloc (.cells #[.string ⟨(Lib.itoa tk).toArray⟩] 9)) none/\SRow (p0.alloc (.cells #[.string ⟨(Lib.itoa tk).toArray⟩] 9)) (w.heap.size+1) (.slice (some ⟨w1.heap.size,0,none⟩) 1 1) [wordK 1]/\Blk (p0.alloc (.cells #[.string ⟨(Lib.itoa tk).toArray⟩] 9)) p0.heap.size 9 #[.string ⟨(Lib.itoa tk).toArray⟩]/\w.heap.size+1<=(p0.alloc (.cells #[.string ⟨(Lib.itoa tk).toArray⟩] 9)).heap.size):=by
  have ga:=World.grownBy_alloc p0 (.cells #[.string ⟨(Lib.itoa tk).toArray⟩] 9) none
  exact ⟨H4.out.1.grown ga (by simp),grown_trans H4.out.2.1 ga,H4.out.2.2.grown ga,heap_alloc_new _ _,by have:=ga.size;have:=H4.out.1.lt;omega⟩
 clear H4
 go_wp2_with (at_builtin;refine app9 _ rfl (.tmp 23) (.tmp 28) rfl (w.heap.size+1) (.slice (some ⟨w1.heap.size,0,none⟩) 1 1) [wordK 1] [Lib.itoa tk] 1 _ rfl rfl rfl H5.out.2.2.1 H5.out.2.2.2.1 (by decide) (by simp) H5.out.2.2.2.2 ?_;intro x1 z1 y1 o1 g1 _)
 have H6:Hid (Blk y1 w.heap.size 27 #[.int .i64 1,.int .i64 tk,.int .i64 ss,.int .i64 nb,.int .i64 mk,.slice ao n cp]/\w.grownBy y1 none/\SRow y1 (w.heap.size+1) (.slice (some ⟨x1,0,none⟩) 2 z1) [wordK 1,Lib.itoa tk]):=by
  have hne:∀x,((.slice (some ⟨w1.heap.size,0,none⟩) 1 1):Value).ownBlock=some x->w.heap.size+1<=x:=fun x hx=>(World.ownsRow.lt H5.out.2.2.1 x hx).1
  exact ⟨H5.out.1.grown g1 (fun e=>by have:=hne _ e;omega),grown_new H5.out.2.1 g1 (fun x hx=>by have:=hne x hx;omega),o1⟩
 clear o1 g1 H5
 have H3:=H6
 clear H6
 try simp only [List.length_cons,List.length_nil,Nat.zero_add,Nat.reduceAdd]
 go_wp2_with fail
 rw [rounds_succ]
 go_wp2_with fail
 rw [rounds_succ]
 go_wp2_with fail
 rw [rounds_succ]
 have a9:=H3.out.1.cell 0
 have a8:=H3.out.1.cell 5
 simp at a9 a8
 go_wp2_with fail
 have HT:Hid (Lib.join [wordK 1,Lib.itoa tk] [32]=textC (⟨1,tk,ss,nb,mk,l⟩:PCmd)):=by simp [Hid,textC,wordsC,tailW,numsC]
 refine (join40 _ [wordK 1,Lib.itoa tk] [32] _ _ H3.out.2.2 (by simp) (by rw [HT.out];have:=textC_len HL.out.2.2.1 HL.out.2.1;omega)).mono ?_
 rintro e v9 ⟨rfl,g9⟩
 rw [HT.out]
 have G:Hid (w.grownBy v9 none):=grown_trans H3.out.2.1 g9
 clear g9 H3
 unfold Str
 go_wp2_with fail
 go_ret2
 refine ⟨?_,G.out⟩
 rw [if_pos HL.out.2.2.1,chkC,if_pos HL.out.2.2.1]
 rfl
theorem text11_2 (ao:Option Addr)(n cp:Nat)(tk ss nb mk:Int)(l:List POp)(w:World)(hl:Ops w (.slice ao n cp) l)(hI:InC (⟨2,tk,ss,nb,mk,l⟩:PCmd))(ho:okC (⟨2,tk,ss,nb,mk,l⟩:PCmd)=true)(hE:EnvC w):Calls Tryz.prog 11 #[cmdV (.slice ao n cp) (⟨2,tk,ss,nb,mk,l⟩:PCmd)] w (TextM (⟨2,tk,ss,nb,mk,l⟩:PCmd) w):=by
 have HL:Hid (Ops w (.slice ao n cp) l/\InC (⟨2,tk,ss,nb,mk,l⟩:PCmd)/\okC (⟨2,tk,ss,nb,mk,l⟩:PCmd)=true/\EnvC w):=⟨hl,hI,ho,hE⟩
 clear hl hI ho hE
 simp only [cmdV]
 have i0:=ix0
 have i1:=ix1
 have i2:=ix2
 go_enter Tryz.func11,Tryz.ntmps11
 go_wp2_with fail
 obtain ⟨W,hW,HW⟩:=al1 w #[.int .i64 2,.int .i64 tk,.int .i64 ss,.int .i64 nb,.int .i64 mk,.slice ao n cp] 27
 rw [hW]
 clear hW
 refine (check13 (.slice ao n cp) (⟨2,tk,ss,nb,mk,l⟩:PCmd) W (HL.out.1.grown HW.out.2.1) HL.out.2.1).mono ?_
 rintro e w1 ⟨rfl,gg1⟩
 rw [show chkC (⟨2,tk,ss,nb,mk,l⟩:PCmd)=0 by rw [chkC,if_pos HL.out.2.2.1]]
 have H1:Hid (Blk w1 w.heap.size 27 #[.int .i64 2,.int .i64 tk,.int .i64 ss,.int .i64 nb,.int .i64 mk,.slice ao n cp]/\w.grownBy w1 none/\w.heap.size<w1.heap.size):=⟨HW.out.1.grown gg1 (by simp),grown_trans HW.out.2.1 gg1,by have:=gg1.size;have:=HW.out.2.2;omega⟩
 clear gg1 HW
 have c0:=H1.out.1.cell 0
 have kw:=(HL.out.2.2.2.grown H1.out.2.1).k2
 simp at c0
 go_wp2_with fail
 clear c0 kw
 obtain ⟨w2,hw2,H2⟩:=al1 w1 #[.string ⟨#[99,97,108,108]⟩] 9
 rw [hw2]
 have H3:Hid (Blk w2 w.heap.size 27 #[.int .i64 2,.int .i64 tk,.int .i64 ss,.int .i64 nb,.int .i64 mk,.slice ao n cp]/\w.grownBy w2 none/\SRow w2 (w.heap.size+1) (.slice (some ⟨w1.heap.size,0,none⟩) 1 1) [wordK 2]):=⟨H1.out.1.grown H2.out.2.1 (by simp),grown_trans H1.out.2.1 H2.out.2.1,by rw [<-hw2];exact srow_lit w1 [wordK 2] (w.heap.size+1) 1 rfl H1.out.2.2 (by omega)⟩
 clear hw2 H2 H1
 refine (numbers30_2 w.heap.size (.slice ao n cp) (⟨2,tk,ss,nb,mk,l⟩:PCmd) w2 H3.out.1 rfl).mono ?_
 rintro e w3 ⟨rfl,gg3⟩
 have H4:Hid (Blk w3 w.heap.size 27 #[.int .i64 2,.int .i64 tk,.int .i64 ss,.int .i64 nb,.int .i64 mk,.slice ao n cp]/\w.grownBy w3 none/\SRow w3 (w.heap.size+1) (.slice (some ⟨w1.heap.size,0,none⟩) 1 1) [wordK 2]):=⟨H3.out.1.grown gg3 (by simp),grown_trans H3.out.2.1 gg3,H3.out.2.2.grown gg3⟩
 clear gg3 H3
 have H3:=H4
 clear H4
 try unfold pt
 go_wp2_with fail
 refine wp_loop_rounds 4 ?_
 rw [rounds_succ]
 have a0:=H3.out.1.cell 2
 simp at a0
 go_wp2_with fail
 refine (numtext35 ss _ (HL.out.2.2.2.grown H3.out.2.1).env HL.out.2.1.s0 HL.out.2.1.s1).mono ?_
 rintro e p0 ⟨rfl,gr0⟩
 have H4:Hid (Blk p0 w.heap.size 27 #[.int .i64 2,.int .i64 tk,.int .i64 ss,.int .i64 nb,.int .i64 mk,.slice ao n cp]/\w.grownBy p0 none/\SRow p0 (w.heap.size+1) (.slice (some ⟨w1.heap.size,0,none⟩) 1 1) [wordK 2]):=⟨H3.out.1.grown gr0 (by simp),grown_trans H3.out.2.1 gr0,H3.out.2.2.grown gr0⟩
 clear gr0 H3 a0
 have H5:Hid (Blk (p0.alloc (.cells #[.string ⟨(Lib.itoa ss).toArray⟩] 9)) w.heap.size 27 #[.int .i64 2,.int .i64 tk,.int .i64 ss,.int .i64 nb,.int .i64 mk,.slice ao n cp]/\w.grownBy (p0.alloc (.cells #[.string ⟨(Lib.itoa ss).toArray⟩] 9)) none/\SRow (p0.alloc (.cells #[.string ⟨(Lib.itoa ss).toArray⟩] 9)) (w.heap.size+1) (.slice (some ⟨w1.heap.size,0,none⟩) 1 1) [wordK 2]/\Blk (p0.alloc (.cells #[.string ⟨(Lib.itoa ss).toArray⟩] 9)) p0.heap.size 9 #[.string ⟨(Lib.itoa ss).toArray⟩]/\w.heap.size+1<=(p0.alloc (.cells #[.string ⟨(Lib.itoa ss).toArray⟩] 9)).heap.size):=by
  have ga:=World.grownBy_alloc p0 (.cells #[.string ⟨(Lib.itoa ss).toArray⟩] 9) none
  exact ⟨H4.out.1.grown ga (by simp),grown_trans H4.out.2.1 ga,H4.out.2.2.grown ga,heap_alloc_new _ _,by have:=ga.size;have:=H4.out.1.lt;omega⟩
 clear H4
 go_wp2_with (at_builtin;refine app9 _ rfl (.tmp 23) (.tmp 28) rfl (w.heap.size+1) (.slice (some ⟨w1.heap.size,0,none⟩) 1 1) [wordK 2] [Lib.itoa ss] 1 _ rfl rfl rfl H5.out.2.2.1 H5.out.2.2.2.1 (by decide) (by simp) H5.out.2.2.2.2 ?_;intro x1 z1 y1 o1 g1 _)
 have H6:Hid (Blk y1 w.heap.size 27 #[.int .i64 2,.int .i64 tk,.int .i64 ss,.int .i64 nb,.int .i64 mk,.slice ao n cp]/\w.grownBy y1 none/\SRow y1 (w.heap.size+1) (.slice (some ⟨x1,0,none⟩) 2 z1) [wordK 2,Lib.itoa ss]):=by
  have hne:∀x,((.slice (some ⟨w1.heap.size,0,none⟩) 1 1):Value).ownBlock=some x->w.heap.size+1<=x:=fun x hx=>(World.ownsRow.lt H5.out.2.2.1 x hx).1
  exact ⟨H5.out.1.grown g1 (fun e=>by have:=hne _ e;omega),grown_new H5.out.2.1 g1 (fun x hx=>by have:=hne x hx;omega),o1⟩
 clear o1 g1 H5
 have H3:=H6
 clear H6
 try simp only [List.length_cons,List.length_nil,Nat.zero_add,Nat.reduceAdd]
 go_wp2_with fail
 rw [rounds_succ]
 have a1:=H3.out.1.cell 3
 simp at a1
 go_wp2_with fail
 refine (numtext35 nb _ (HL.out.2.2.2.grown H3.out.2.1).env HL.out.2.1.n0 HL.out.2.1.n1).mono ?_
 rintro e p1 ⟨rfl,gr1⟩
 have H4:Hid (Blk p1 w.heap.size 27 #[.int .i64 2,.int .i64 tk,.int .i64 ss,.int .i64 nb,.int .i64 mk,.slice ao n cp]/\w.grownBy p1 none/\SRow p1 (w.heap.size+1) (.slice (some ⟨x1,0,none⟩) 2 z1) [wordK 2,Lib.itoa ss]):=⟨H3.out.1.grown gr1 (by simp),grown_trans H3.out.2.1 gr1,H3.out.2.2.grown gr1⟩
 clear gr1 H3 a1
 have H5:Hid (Blk (p1.alloc (.cells #[.string ⟨(Lib.itoa nb).toArray⟩] 9)) w.heap.size 27 #[.int .i64 2,.int .i64 tk,.int .i64 ss,.int .i64 nb,.int .i64 mk,.slice ao n cp]/\w.grownBy (p1.alloc (.cells #[.string ⟨(Lib.itoa nb).toArray⟩] 9)) none/\SRow (p1.alloc (.cells #[.string ⟨(Lib.itoa nb).toArray⟩] 9)) (w.heap.size+1) (.slice (some ⟨x1,0,none⟩) 2 z1) [wordK 2,Lib.itoa ss]/\Blk (p1.alloc (.cells #[.string ⟨(Lib.itoa nb).toArray⟩] 9)) p1.heap.size 9 #[.string ⟨(Lib.itoa nb).toArray⟩]/\w.heap.size+1<=(p1.alloc (.cells #[.string ⟨(Lib.itoa nb).toArray⟩] 9)).heap.size):=by
  have ga:=World.grownBy_alloc p1 (.cells #[.string ⟨(Lib.itoa nb).toArray⟩] 9) none
  exact ⟨H4.out.1.grown ga (by simp),grown_trans H4.out.2.1 ga,H4.out.2.2.grown ga,heap_alloc_new _ _,by have:=ga.size;have:=H4.out.1.lt;omega⟩
 clear H4
 go_wp2_with (at_builtin;refine app9 _ rfl (.tmp 23) (.tmp 28) rfl (w.heap.size+1) (.slice (some ⟨x1,0,none⟩) 2 z1) [wordK 2,Lib.itoa ss] [Lib.itoa nb] 1 _ rfl rfl rfl H5.out.2.2.1 H5.out.2.2.2.1 (by decide) (by simp) H5.out.2.2.2.2 ?_;intro x2 z2 y2 o2 g2 _)
 have H6:Hid (Blk y2 w.heap.size 27 #[.int .i64 2,.int .i64 tk,.int .i64 ss,.int .i64 nb,.int .i64 mk,.slice ao n cp]/\w.grownBy y2 none/\SRow y2 (w.heap.size+1) (.slice (some ⟨x2,0,none⟩) 3 z2) [wordK 2,Lib.itoa ss,Lib.itoa nb]):=by
  have hne:∀x,((.slice (some ⟨x1,0,none⟩) 2 z1):Value).ownBlock=some x->w.heap.size+1<=x:=fun x hx=>(World.ownsRow.lt H5.out.2.2.1 x hx).1
  exact ⟨H5.out.1.grown g2 (fun e=>by have:=hne _ e;omega),grown_new H5.out.2.1 g2 (fun x hx=>by have:=hne x hx;omega),o2⟩
 clear o2 g2 H5
 have H3:=H6
 clear H6
 try simp only [List.length_cons,List.length_nil,Nat.zero_add,Nat.reduceAdd]
 go_wp2_with fail
 rw [rounds_succ]
 have a2:=H3.out.1.cell 4
 simp at a2
 go_wp2_with fail
 refine (numtext35 mk _ (HL.out.2.2.2.grown H3.out.2.1).env HL.out.2.1.m0 HL.out.2.1.m1).mono ?_
 rintro e p2 ⟨rfl,gr2⟩
 have H4:Hid (Blk p2 w.heap.size 27 #[.int .i64 2,.int .i64 tk,.int .i64 ss,.int .i64 nb,.int .i64 mk,.slice ao n cp]/\w.grownBy p2 none/\SRow p2 (w.heap.size+1) (.slice (some ⟨x2,0,none⟩) 3 z2) [wordK 2,Lib.itoa ss,Lib.itoa nb]):=⟨H3.out.1.grown gr2 (by simp),grown_trans H3.out.2.1 gr2,H3.out.2.2.grown gr2⟩
 clear gr2 H3 a2
 have H5:Hid (Blk (p2.alloc (.cells #[.string ⟨(Lib.itoa mk).toArray⟩] 9)) w.heap.size 27 #[.int .i64 2,.int .i64 tk,.int .i64 ss,.int .i64 nb,.int .i64 mk,.slice ao n cp]/\w.grownBy (p2.alloc (.cells #[.string ⟨(Lib.itoa mk).toArray⟩] 9)) none/\SRow (p2.alloc (.cells #[.string ⟨(Lib.itoa mk).toArray⟩] 9)) (w.heap.size+1) (.slice (some ⟨x2,0,none⟩) 3 z2) [wordK 2,Lib.itoa ss,Lib.itoa nb]/\Blk (p2.alloc (.cells #[.string ⟨(Lib.itoa mk).toArray⟩] 9)) p2.heap.size 9 #[.string ⟨(Lib.itoa mk).toArray⟩]/\w.heap.size+1<=(p2.alloc (.cells #[.string ⟨(Lib.itoa mk).toArray⟩] 9)).heap.size):=by
  have ga:=World.grownBy_alloc p2 (.cells #[.string ⟨(Lib.itoa mk).toArray⟩] 9) none
  exact ⟨H4.out.1.grown ga (by simp),grown_trans H4.out.2.1 ga,H4.out.2.2.grown ga,heap_alloc_new _ _,by have:=ga.size;have:=H4.out.1.lt;omega⟩
 clear H4
 go_wp2_with (at_builtin;refine app9 _ rfl (.tmp 23) (.tmp 28) rfl (w.heap.size+1) (.slice (some ⟨x2,0,none⟩) 3 z2) [wordK 2,Lib.itoa ss,Lib.itoa nb] [Lib.itoa mk] 1 _ rfl rfl rfl H5.out.2.2.1 H5.out.2.2.2.1 (by decide) (by simp) H5.out.2.2.2.2 ?_;intro x3 z3 y3 o3 g3 _)
 have H6:Hid (Blk y3 w.heap.size 27 #[.int .i64 2,.int .i64 tk,.int .i64 ss,.int .i64 nb,.int .i64 mk,.slice ao n cp]/\w.grownBy y3 none/\SRow y3 (w.heap.size+1) (.slice (some ⟨x3,0,none⟩) 4 z3) [wordK 2,Lib.itoa ss,Lib.itoa nb,Lib.itoa mk]):=by
  have hne:∀x,((.slice (some ⟨x2,0,none⟩) 3 z2):Value).ownBlock=some x->w.heap.size+1<=x:=fun x hx=>(World.ownsRow.lt H5.out.2.2.1 x hx).1
  exact ⟨H5.out.1.grown g3 (fun e=>by have:=hne _ e;omega),grown_new H5.out.2.1 g3 (fun x hx=>by have:=hne x hx;omega),o3⟩
 clear o3 g3 H5
 have H3:=H6
 clear H6
 try simp only [List.length_cons,List.length_nil,Nat.zero_add,Nat.reduceAdd]
 go_wp2_with fail
 rw [rounds_succ]
 have a9:=H3.out.1.cell 0
 have a8:=H3.out.1.cell 5
 simp at a9 a8
 go_wp2_with fail
 refine (text14 (.slice ao n cp) l y3 (HL.out.1.grown H3.out.2.1) (HL.out.2.2.2.grown H3.out.2.1).env.kw).mono ?_
 rintro e p9 ⟨rfl,gr9⟩
 have hc:chk l=0:=okC_chk HL.out.2.2.1 rfl
 rw [if_pos hc,hc]
 unfold Str
 have H4:Hid (Blk p9 w.heap.size 27 #[.int .i64 2,.int .i64 tk,.int .i64 ss,.int .i64 nb,.int .i64 mk,.slice ao n cp]/\w.grownBy p9 none/\SRow p9 (w.heap.size+1) (.slice (some ⟨x3,0,none⟩) 4 z3) [wordK 2,Lib.itoa ss,Lib.itoa nb,Lib.itoa mk]):=⟨H3.out.1.grown gr9 (by simp),grown_trans H3.out.2.1 gr9,H3.out.2.2.grown gr9⟩
 clear gr9 H3 a9 a8 hc
 have H5:Hid (Blk (p9.alloc (.cells #[.string ⟨(callTxt l).toArray⟩] 9)) w.heap.size 27 #[.int .i64 2,.int .i64 tk,.int .i64 ss,.int .i64 nb,.int .i64 mk,.slice ao n cp]/\w.grownBy (p9.alloc (.cells #[.string ⟨(callTxt l).toArray⟩] 9)) none/\SRow (p9.alloc (.cells #[.string ⟨(callTxt l).toArray⟩] 9)) (w.heap.size+1) (.slice (some ⟨x3,0,none⟩) 4 z3) [wordK 2,Lib.itoa ss,Lib.itoa nb,Lib.itoa mk]/\Blk (p9.alloc (.cells #[.string ⟨(callTxt l).toArray⟩] 9)) p9.heap.size 9 #[.string ⟨(callTxt l).toArray⟩]/\w.heap.size+1<=(p9.alloc (.cells #[.string ⟨(callTxt l).toArray⟩] 9)).heap.size):=by
  have ga:=World.grownBy_alloc p9 (.cells #[.string ⟨(callTxt l).toArray⟩] 9) none
  exact ⟨H4.out.1.grown ga (by simp),grown_trans H4.out.2.1 ga,H4.out.2.2.grown ga,heap_alloc_new _ _,by have:=ga.size;have:=H4.out.1.lt;omega⟩
 clear H4
 go_wp2_with (at_builtin;refine app9 _ rfl (.tmp 40) (.tmp 42) rfl (w.heap.size+1) (.slice (some ⟨x3,0,none⟩) 4 z3) [wordK 2,Lib.itoa ss,Lib.itoa nb,Lib.itoa mk] [callTxt l] 1 _ rfl rfl rfl H5.out.2.2.1 H5.out.2.2.2.1 (by decide) (by simp) H5.out.2.2.2.2 ?_;intro x9 z9 y9 o9 g9 _)
 have H6:Hid (Blk y9 w.heap.size 27 #[.int .i64 2,.int .i64 tk,.int .i64 ss,.int .i64 nb,.int .i64 mk,.slice ao n cp]/\w.grownBy y9 none/\SRow y9 (w.heap.size+1) (.slice (some ⟨x9,0,none⟩) 5 z9) [wordK 2,Lib.itoa ss,Lib.itoa nb,Lib.itoa mk,callTxt l]):=by
  have hne:∀x,((.slice (some ⟨x3,0,none⟩) 4 z3):Value).ownBlock=some x->w.heap.size+1<=x:=fun x hx=>(World.ownsRow.lt H5.out.2.2.1 x hx).1
  exact ⟨H5.out.1.grown g9 (fun e=>by have:=hne _ e;omega),grown_new H5.out.2.1 g9 (fun x hx=>by have:=hne x hx;omega),o9⟩
 clear o9 g9 H5
 have H3:=H6
 clear H6
 try simp only [List.length_cons,List.length_nil,Nat.zero_add,Nat.reduceAdd]
 go_wp2_with fail
 have HT:Hid (Lib.join [wordK 2,Lib.itoa ss,Lib.itoa nb,Lib.itoa mk,callTxt l] [32]=textC (⟨2,tk,ss,nb,mk,l⟩:PCmd)):=by simp [Hid,textC,wordsC,tailW,numsC]
 refine (join40 _ [wordK 2,Lib.itoa ss,Lib.itoa nb,Lib.itoa mk,callTxt l] [32] _ _ H3.out.2.2 (by simp) (by rw [HT.out];have:=textC_len HL.out.2.2.1 HL.out.2.1;omega)).mono ?_
 rintro e v9 ⟨rfl,g9⟩
 rw [HT.out]
 have G:Hid (w.grownBy v9 none):=grown_trans H3.out.2.1 g9
 clear g9 H3
 unfold Str
 go_wp2_with fail
 go_ret2
 refine ⟨?_,G.out⟩
 rw [if_pos HL.out.2.2.1,chkC,if_pos HL.out.2.2.1]
 rfl
theorem text11_3 (ao:Option Addr)(n cp:Nat)(tk ss nb mk:Int)(l:List POp)(w:World)(hl:Ops w (.slice ao n cp) l)(hI:InC (⟨3,tk,ss,nb,mk,l⟩:PCmd))(ho:okC (⟨3,tk,ss,nb,mk,l⟩:PCmd)=true)(hE:EnvC w):Calls Tryz.prog 11 #[cmdV (.slice ao n cp) (⟨3,tk,ss,nb,mk,l⟩:PCmd)] w (TextM (⟨3,tk,ss,nb,mk,l⟩:PCmd) w):=by
 have HL:Hid (Ops w (.slice ao n cp) l/\InC (⟨3,tk,ss,nb,mk,l⟩:PCmd)/\okC (⟨3,tk,ss,nb,mk,l⟩:PCmd)=true/\EnvC w):=⟨hl,hI,ho,hE⟩
 clear hl hI ho hE
 simp only [cmdV]
 have i0:=ix0
 have i1:=ix1
 have i2:=ix2
 go_enter Tryz.func11,Tryz.ntmps11
 go_wp2_with fail
 obtain ⟨W,hW,HW⟩:=al1 w #[.int .i64 3,.int .i64 tk,.int .i64 ss,.int .i64 nb,.int .i64 mk,.slice ao n cp] 27
 rw [hW]
 clear hW
 refine (check13 (.slice ao n cp) (⟨3,tk,ss,nb,mk,l⟩:PCmd) W (HL.out.1.grown HW.out.2.1) HL.out.2.1).mono ?_
 rintro e w1 ⟨rfl,gg1⟩
 rw [show chkC (⟨3,tk,ss,nb,mk,l⟩:PCmd)=0 by rw [chkC,if_pos HL.out.2.2.1]]
 have H1:Hid (Blk w1 w.heap.size 27 #[.int .i64 3,.int .i64 tk,.int .i64 ss,.int .i64 nb,.int .i64 mk,.slice ao n cp]/\w.grownBy w1 none/\w.heap.size<w1.heap.size):=⟨HW.out.1.grown gg1 (by simp),grown_trans HW.out.2.1 gg1,by have:=gg1.size;have:=HW.out.2.2;omega⟩
 clear gg1 HW
 have c0:=H1.out.1.cell 0
 have kw:=(HL.out.2.2.2.grown H1.out.2.1).k3
 simp at c0
 go_wp2_with fail
 clear c0 kw
 obtain ⟨w2,hw2,H2⟩:=al1 w1 #[.string ⟨#[99,108,111,115,101]⟩] 9
 rw [hw2]
 have H3:Hid (Blk w2 w.heap.size 27 #[.int .i64 3,.int .i64 tk,.int .i64 ss,.int .i64 nb,.int .i64 mk,.slice ao n cp]/\w.grownBy w2 none/\SRow w2 (w.heap.size+1) (.slice (some ⟨w1.heap.size,0,none⟩) 1 1) [wordK 3]):=⟨H1.out.1.grown H2.out.2.1 (by simp),grown_trans H1.out.2.1 H2.out.2.1,by rw [<-hw2];exact srow_lit w1 [wordK 3] (w.heap.size+1) 1 rfl H1.out.2.2 (by omega)⟩
 clear hw2 H2 H1
 refine (numbers30_3 w.heap.size (.slice ao n cp) (⟨3,tk,ss,nb,mk,l⟩:PCmd) w2 H3.out.1 rfl).mono ?_
 rintro e w3 ⟨rfl,gg3⟩
 have H4:Hid (Blk w3 w.heap.size 27 #[.int .i64 3,.int .i64 tk,.int .i64 ss,.int .i64 nb,.int .i64 mk,.slice ao n cp]/\w.grownBy w3 none/\SRow w3 (w.heap.size+1) (.slice (some ⟨w1.heap.size,0,none⟩) 1 1) [wordK 3]):=⟨H3.out.1.grown gg3 (by simp),grown_trans H3.out.2.1 gg3,H3.out.2.2.grown gg3⟩
 clear gg3 H3
 have H3:=H4
 clear H4
 try unfold pt
 go_wp2_with fail
 refine wp_loop_rounds 4 ?_
 rw [rounds_succ]
 have a0:=H3.out.1.cell 2
 simp at a0
 go_wp2_with fail
 refine (numtext35 ss _ (HL.out.2.2.2.grown H3.out.2.1).env HL.out.2.1.s0 HL.out.2.1.s1).mono ?_
 rintro e p0 ⟨rfl,gr0⟩
 have H4:Hid (Blk p0 w.heap.size 27 #[.int .i64 3,.int .i64 tk,.int .i64 ss,.int .i64 nb,.int .i64 mk,.slice ao n cp]/\w.grownBy p0 none/\SRow p0 (w.heap.size+1) (.slice (some ⟨w1.heap.size,0,none⟩) 1 1) [wordK 3]):=⟨H3.out.1.grown gr0 (by simp),grown_trans H3.out.2.1 gr0,H3.out.2.2.grown gr0⟩
 clear gr0 H3 a0
 have H5:Hid (Blk (p0.alloc (.cells #[.string ⟨(Lib.itoa ss).toArray⟩] 9)) w.heap.size 27 #[.int .i64 3,.int .i64 tk,.int .i64 ss,.int .i64 nb,.int .i64 mk,.slice ao n cp]/\w.grownBy (p0.alloc (.cells #[.string ⟨(Lib.itoa ss).toArray⟩] 9)) none/\SRow (p0.alloc (.cells #[.string ⟨(Lib.itoa ss).toArray⟩] 9)) (w.heap.size+1) (.slice (some ⟨w1.heap.size,0,none⟩) 1 1) [wordK 3]/\Blk (p0.alloc (.cells #[.string ⟨(Lib.itoa ss).toArray⟩] 9)) p0.heap.size 9 #[.string ⟨(Lib.itoa ss).toArray⟩]/\w.heap.size+1<=(p0.alloc (.cells #[.string ⟨(Lib.itoa ss).toArray⟩] 9)).heap.size):=by
  have ga:=World.grownBy_alloc p0 (.cells #[.string ⟨(Lib.itoa ss).toArray⟩] 9) none
  exact ⟨H4.out.1.grown ga (by simp),grown_trans H4.out.2.1 ga,H4.out.2.2.grown ga,heap_alloc_new _ _,by have:=ga.size;have:=H4.out.1.lt;omega⟩
 clear H4
 go_wp2_with (at_builtin;refine app9 _ rfl (.tmp 23) (.tmp 28) rfl (w.heap.size+1) (.slice (some ⟨w1.heap.size,0,none⟩) 1 1) [wordK 3] [Lib.itoa ss] 1 _ rfl rfl rfl H5.out.2.2.1 H5.out.2.2.2.1 (by decide) (by simp) H5.out.2.2.2.2 ?_;intro x1 z1 y1 o1 g1 _)
 have H6:Hid (Blk y1 w.heap.size 27 #[.int .i64 3,.int .i64 tk,.int .i64 ss,.int .i64 nb,.int .i64 mk,.slice ao n cp]/\w.grownBy y1 none/\SRow y1 (w.heap.size+1) (.slice (some ⟨x1,0,none⟩) 2 z1) [wordK 3,Lib.itoa ss]):=by
  have hne:∀x,((.slice (some ⟨w1.heap.size,0,none⟩) 1 1):Value).ownBlock=some x->w.heap.size+1<=x:=fun x hx=>(World.ownsRow.lt H5.out.2.2.1 x hx).1
  exact ⟨H5.out.1.grown g1 (fun e=>by have:=hne _ e;omega),grown_new H5.out.2.1 g1 (fun x hx=>by have:=hne x hx;omega),o1⟩
 clear o1 g1 H5
 have H3:=H6
 clear H6
 try simp only [List.length_cons,List.length_nil,Nat.zero_add,Nat.reduceAdd]
 go_wp2_with fail
 rw [rounds_succ]
 go_wp2_with fail
 rw [rounds_succ]
 go_wp2_with fail
 rw [rounds_succ]
 have a9:=H3.out.1.cell 0
 have a8:=H3.out.1.cell 5
 simp at a9 a8
 go_wp2_with fail
 have HT:Hid (Lib.join [wordK 3,Lib.itoa ss] [32]=textC (⟨3,tk,ss,nb,mk,l⟩:PCmd)):=by simp [Hid,textC,wordsC,tailW,numsC]
 refine (join40 _ [wordK 3,Lib.itoa ss] [32] _ _ H3.out.2.2 (by simp) (by rw [HT.out];have:=textC_len HL.out.2.2.1 HL.out.2.1;omega)).mono ?_
 rintro e v9 ⟨rfl,g9⟩
 rw [HT.out]
 have G:Hid (w.grownBy v9 none):=grown_trans H3.out.2.1 g9
 clear g9 H3
 unfold Str
 go_wp2_with fail
 go_ret2
 refine ⟨?_,G.out⟩
 rw [if_pos HL.out.2.2.1,chkC,if_pos HL.out.2.2.1]
 rfl
theorem text11_4 (ao:Option Addr)(n cp:Nat)(tk ss nb mk:Int)(l:List POp)(w:World)(hl:Ops w (.slice ao n cp) l)(hI:InC (⟨4,tk,ss,nb,mk,l⟩:PCmd))(ho:okC (⟨4,tk,ss,nb,mk,l⟩:PCmd)=true)(hE:EnvC w):Calls Tryz.prog 11 #[cmdV (.slice ao n cp) (⟨4,tk,ss,nb,mk,l⟩:PCmd)] w (TextM (⟨4,tk,ss,nb,mk,l⟩:PCmd) w):=by
 have HL:Hid (Ops w (.slice ao n cp) l/\InC (⟨4,tk,ss,nb,mk,l⟩:PCmd)/\okC (⟨4,tk,ss,nb,mk,l⟩:PCmd)=true/\EnvC w):=⟨hl,hI,ho,hE⟩
 clear hl hI ho hE
 simp only [cmdV]
 have i0:=ix0
 have i1:=ix1
 have i2:=ix2
 go_enter Tryz.func11,Tryz.ntmps11
 go_wp2_with fail
 obtain ⟨W,hW,HW⟩:=al1 w #[.int .i64 4,.int .i64 tk,.int .i64 ss,.int .i64 nb,.int .i64 mk,.slice ao n cp] 27
 rw [hW]
 clear hW
 refine (check13 (.slice ao n cp) (⟨4,tk,ss,nb,mk,l⟩:PCmd) W (HL.out.1.grown HW.out.2.1) HL.out.2.1).mono ?_
 rintro e w1 ⟨rfl,gg1⟩
 rw [show chkC (⟨4,tk,ss,nb,mk,l⟩:PCmd)=0 by rw [chkC,if_pos HL.out.2.2.1]]
 have H1:Hid (Blk w1 w.heap.size 27 #[.int .i64 4,.int .i64 tk,.int .i64 ss,.int .i64 nb,.int .i64 mk,.slice ao n cp]/\w.grownBy w1 none/\w.heap.size<w1.heap.size):=⟨HW.out.1.grown gg1 (by simp),grown_trans HW.out.2.1 gg1,by have:=gg1.size;have:=HW.out.2.2;omega⟩
 clear gg1 HW
 have c0:=H1.out.1.cell 0
 have kw:=(HL.out.2.2.2.grown H1.out.2.1).k4
 simp at c0
 go_wp2_with fail
 clear c0 kw
 obtain ⟨w2,hw2,H2⟩:=al1 w1 #[.string ⟨#[101,120,112,105,114,101]⟩] 9
 rw [hw2]
 have H3:Hid (Blk w2 w.heap.size 27 #[.int .i64 4,.int .i64 tk,.int .i64 ss,.int .i64 nb,.int .i64 mk,.slice ao n cp]/\w.grownBy w2 none/\SRow w2 (w.heap.size+1) (.slice (some ⟨w1.heap.size,0,none⟩) 1 1) [wordK 4]):=⟨H1.out.1.grown H2.out.2.1 (by simp),grown_trans H1.out.2.1 H2.out.2.1,by rw [<-hw2];exact srow_lit w1 [wordK 4] (w.heap.size+1) 1 rfl H1.out.2.2 (by omega)⟩
 clear hw2 H2 H1
 refine (numbers30_4 w.heap.size (.slice ao n cp) (⟨4,tk,ss,nb,mk,l⟩:PCmd) w2 H3.out.1 rfl).mono ?_
 rintro e w3 ⟨rfl,gg3⟩
 have H4:Hid (Blk w3 w.heap.size 27 #[.int .i64 4,.int .i64 tk,.int .i64 ss,.int .i64 nb,.int .i64 mk,.slice ao n cp]/\w.grownBy w3 none/\SRow w3 (w.heap.size+1) (.slice (some ⟨w1.heap.size,0,none⟩) 1 1) [wordK 4]):=⟨H3.out.1.grown gg3 (by simp),grown_trans H3.out.2.1 gg3,H3.out.2.2.grown gg3⟩
 clear gg3 H3
 have H3:=H4
 clear H4
 try unfold pt
 go_wp2_with fail
 refine wp_loop_rounds 4 ?_
 rw [rounds_succ]
 have a0:=H3.out.1.cell 2
 simp at a0
 go_wp2_with fail
 refine (numtext35 ss _ (HL.out.2.2.2.grown H3.out.2.1).env HL.out.2.1.s0 HL.out.2.1.s1).mono ?_
 rintro e p0 ⟨rfl,gr0⟩
 have H4:Hid (Blk p0 w.heap.size 27 #[.int .i64 4,.int .i64 tk,.int .i64 ss,.int .i64 nb,.int .i64 mk,.slice ao n cp]/\w.grownBy p0 none/\SRow p0 (w.heap.size+1) (.slice (some ⟨w1.heap.size,0,none⟩) 1 1) [wordK 4]):=⟨H3.out.1.grown gr0 (by simp),grown_trans H3.out.2.1 gr0,H3.out.2.2.grown gr0⟩
 clear gr0 H3 a0
 have H5:Hid (Blk (p0.alloc (.cells #[.string ⟨(Lib.itoa ss).toArray⟩] 9)) w.heap.size 27 #[.int .i64 4,.int .i64 tk,.int .i64 ss,.int .i64 nb,.int .i64 mk,.slice ao n cp]/\w.grownBy (p0.alloc (.cells #[.string ⟨(Lib.itoa ss).toArray⟩] 9)) none/\SRow (p0.alloc (.cells #[.string ⟨(Lib.itoa ss).toArray⟩] 9)) (w.heap.size+1) (.slice (some ⟨w1.heap.size,0,none⟩) 1 1) [wordK 4]/\Blk (p0.alloc (.cells #[.string ⟨(Lib.itoa ss).toArray⟩] 9)) p0.heap.size 9 #[.string ⟨(Lib.itoa ss).toArray⟩]/\w.heap.size+1<=(p0.alloc (.cells #[.string ⟨(Lib.itoa ss).toArray⟩] 9)).heap.size):=by
  have ga:=World.grownBy_alloc p0 (.cells #[.string ⟨(Lib.itoa ss).toArray⟩] 9) none
  exact ⟨H4.out.1.grown ga (by simp),grown_trans H4.out.2.1 ga,H4.out.2.2.grown ga,heap_alloc_new _ _,by have:=ga.size;have:=H4.out.1.lt;omega⟩
 clear H4
 go_wp2_with (at_builtin;refine app9 _ rfl (.tmp 23) (.tmp 28) rfl (w.heap.size+1) (.slice (some ⟨w1.heap.size,0,none⟩) 1 1) [wordK 4] [Lib.itoa ss] 1 _ rfl rfl rfl H5.out.2.2.1 H5.out.2.2.2.1 (by decide) (by simp) H5.out.2.2.2.2 ?_;intro x1 z1 y1 o1 g1 _)
 have H6:Hid (Blk y1 w.heap.size 27 #[.int .i64 4,.int .i64 tk,.int .i64 ss,.int .i64 nb,.int .i64 mk,.slice ao n cp]/\w.grownBy y1 none/\SRow y1 (w.heap.size+1) (.slice (some ⟨x1,0,none⟩) 2 z1) [wordK 4,Lib.itoa ss]):=by
  have hne:∀x,((.slice (some ⟨w1.heap.size,0,none⟩) 1 1):Value).ownBlock=some x->w.heap.size+1<=x:=fun x hx=>(World.ownsRow.lt H5.out.2.2.1 x hx).1
  exact ⟨H5.out.1.grown g1 (fun e=>by have:=hne _ e;omega),grown_new H5.out.2.1 g1 (fun x hx=>by have:=hne x hx;omega),o1⟩
 clear o1 g1 H5
 have H3:=H6
 clear H6
 try simp only [List.length_cons,List.length_nil,Nat.zero_add,Nat.reduceAdd]
 go_wp2_with fail
 rw [rounds_succ]
 go_wp2_with fail
 rw [rounds_succ]
 go_wp2_with fail
 rw [rounds_succ]
 have a9:=H3.out.1.cell 0
 have a8:=H3.out.1.cell 5
 simp at a9 a8
 go_wp2_with fail
 have HT:Hid (Lib.join [wordK 4,Lib.itoa ss] [32]=textC (⟨4,tk,ss,nb,mk,l⟩:PCmd)):=by simp [Hid,textC,wordsC,tailW,numsC]
 refine (join40 _ [wordK 4,Lib.itoa ss] [32] _ _ H3.out.2.2 (by simp) (by rw [HT.out];have:=textC_len HL.out.2.2.1 HL.out.2.1;omega)).mono ?_
 rintro e v9 ⟨rfl,g9⟩
 rw [HT.out]
 have G:Hid (w.grownBy v9 none):=grown_trans H3.out.2.1 g9
 clear g9 H3
 unfold Str
 go_wp2_with fail
 go_ret2
 refine ⟨?_,G.out⟩
 rw [if_pos HL.out.2.2.1,chkC,if_pos HL.out.2.2.1]
 rfl
theorem text11 (ov:Value)(c:PCmd)(w:World)(h:Ops w ov c.ops)(hI:InC c)(hE:EnvC w):Calls Tryz.prog 11 #[cmdV ov c] w (TextM c w):=by
 by_cases ho:okC c=true
 ·have hk:=fitC_kind (okC_fit ho)
  obtain ⟨ao,n,cp,rfl,_⟩:=ops_open h
  obtain ⟨k,tk,ss,nb,mk,l⟩:=c
  simp only at hk
  rcases (show k=1\/k=2\/k=3\/k=4 by omega) with rfl | rfl | rfl | rfl
  ·exact text11_1 ao n cp tk ss nb mk l w h hI ho hE
  ·exact text11_2 ao n cp tk ss nb mk l w h hI ho hE
  ·exact text11_3 ao n cp tk ss nb mk l w h hI ho hE
  ·exact text11_4 ao n cp tk ss nb mk l w h hI ho hE
 ·exact text11_no ov c w h hI (by simpa using ho)
end Go.Proofs.YtgjcpjckaopeeaaGreatDoor
