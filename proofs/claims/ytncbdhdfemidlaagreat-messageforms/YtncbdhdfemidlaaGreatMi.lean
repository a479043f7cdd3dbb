import Derived.Test.YtncbdhdfemidlaaGreatMs
import Derived.Test.YtncbdhdfemidlaaGreatCrbAll
set_option maxHeartbeats 4000000
set_option maxRecDepth 100000
namespace Go.Proofs.YtncbdhdfemidlaaGreat
open Go.RowKit Disk
open _root_.Go.Proofs.YtncbdhdfemidlaaGreat.Calls _root_.Go.Proofs.YtncbdhdfemidlaaGreat.Command
def NumR (b:Nat)(L:Bs)(w:World)(e:Ending)(w':World):Prop :=
 (pNum 9223372036854775807 L=none/\e=.returned (.tuple #[.int .i64 0,.int .i64 4])/\w.grownBy w' (some b)) ∨
 (∃n M,pNum 9223372036854775807 L=some (n,M)/\e=.returned (.tuple #[.int .i64 ((n:Nat):Int),.int .i64 0])/\RR w' b M/\w.grownBy w' (some b))
theorem number62 (b:Nat)(lo:Option Addr)(ln lc:Nat)(L:Bs)(w:World)(hr:RR w b L):Calls Tryz.prog 62 #[.agg #[.pointer (some ⟨b,0,none⟩),.slice lo ln lc]] w (NumR b L w):=by
 obtain ⟨W,hW,HW⟩:=al1' w #[.pointer (some ⟨b,0,none⟩),.slice lo ln lc] 109
 have hr1:=hr.grown HW.out.2.1
 obtain ⟨g,hg,hk⟩:=rr_of hr1
 have HG:Hid (Wire.RdG W b g L):=hg
 have HK:Hid _:=hk
 clear hr hr1 hg hk
 have c0:=HW.out.1.cell 0
 simp at c0
 cases hs:Wire.scan 0 0 L with
 | none =>
  have HS:Hid (Wire.rdNum L=(0,4,L)/\pNum 9223372036854775807 L=none):=⟨Wire.rdNum_none hs,by simp [pNum,hs]⟩
  clear hs
  go_enter Tryz.func62,Tryz.ntmps62
  go_upto_region 1 with fail
  try rw [hW]
  clear hW
  go_wp2_with fail
  refine (Wire.number25_g b g L W HG.out).mono ?_
  rw [HS.out.1]
  rintro e w1 ⟨rfl,h1,h2⟩
  have F:Hid (w.grownBy w1 (some b)):=grown_trans (grown_weak HW.out.2.1 _) h2
  clear h1 h2
  go_wp2_with fail
  go_ret2
  exact .inl ⟨HS.out.2,rfl,F.out⟩
 | some nk =>
  obtain ⟨n,k⟩:=nk
  have hn64:=(Wire.scan_bound L 0 0 (by omega) (by simp) n k hs).1
  by_cases hn:n<=9223372036854775807
  ·have HS:Hid (Wire.rdNum L=(n,0,L.drop k)/\pNum 9223372036854775807 L=some (n,L.drop k)):=⟨Wire.rdNum_some hs,by simp [pNum,hs,hn]⟩
   clear hs
   have j1:((n:Int) > 9223372036854775807)=False:=eq_false (by omega)
   have j2:((9223372036854775807:Int)<(n:Int))=False:=eq_false (by omega)
   have wi:IntKind.i64.wrap (n:Int)=(n:Int):=by rw [IntKind.wrap_i64];omega
   go_enter Tryz.func62,Tryz.ntmps62
   go_upto_region 1 with fail
   try rw [hW]
   clear hW
   go_wp2_with fail
   refine (Wire.number25_g b g L W HG.out).mono ?_
   rw [HS.out.1]
   rintro e w1 ⟨rfl,h1,h2⟩
   have F:Hid (RR w1 b (L.drop k)/\w.grownBy w1 (some b)):=⟨HK.out w1 _ h1 h2 (fun h=>by rw [h];simp),grown_trans (grown_weak HW.out.2.1 _) h2⟩
   clear h1 h2
   go_wp2_with fail
   go_ret2
   exact .inr ⟨n,_,HS.out.2,rfl,F.out.1,F.out.2⟩
  ·have HS:Hid (Wire.rdNum L=(n,0,L.drop k)/\pNum 9223372036854775807 L=none):=⟨Wire.rdNum_some hs,by simp [pNum,hs,hn]⟩
   clear hs
   have j1:((n:Int) > 9223372036854775807)=True:=eq_true (by omega)
   have j2:((9223372036854775807:Int)<(n:Int))=True:=eq_true (by omega)
   have j3:(9223372036854775807<n)=True:=eq_true (by omega)
   go_enter Tryz.func62,Tryz.ntmps62
   go_upto_region 1 with fail
   try rw [hW]
   clear hW
   go_wp2_with fail
   refine (Wire.number25_g b g L W HG.out).mono ?_
   rw [HS.out.1]
   rintro e w1 ⟨rfl,h1,h2⟩
   have F:Hid (w.grownBy w1 (some b)):=grown_trans (grown_weak HW.out.2.1 _) h2
   clear h1 h2
   go_wp2_with fail
   go_ret2
   exact .inl ⟨HS.out.2,rfl,F.out⟩
theorem mb_rr {w w':World}{b x:Nat}{ov av:Value}{m:PMsg}(h:MB w x ov av m){L:Bs}(hr:RR w b L)(hg:w.grownBy w' (some b)):MB w' x ov av m:=h.but hg (fun e=>(hr.ne h (by decide)) e.symm)
def FillP (x b:Nat)(ov av:Value)(m:PMsg)(L:Bs)(w:World)(e:Ending)(w':World):Prop :=
 (readNums (fld m) m L=none/\e=.returned (.int .i64 4)/\Fr w w' (RF x b)) ∨
 (∃r M,readNums (fld m) m L=some (r,M)/\e=.returned (.int .i64 0)/\MB w' x ov av r/\RR w' b M/\Fr w w' (RF x b))
theorem fill61 (x b:Nat)(lo:Option Addr)(ln lc:Nat)(ao:Option Addr)(n ca:Nat)(bo:Option Addr)(p cb:Nat)(m:PMsg)(L:Bs)(w:World)(hm:MB w x (.slice ao n ca) (.slice bo p cb) m)(hr:RR w b L):Calls Tryz.prog 61 #[.pointer (some ⟨x,0,none⟩),.func (.func 62) #[.agg #[.pointer (some ⟨b,0,none⟩),.slice lo ln lc]] #[]] w (FillP x b (.slice ao n ca) (.slice bo p cb) m L w):=by
 have H0:Hid (MB w x (.slice ao n ca) (.slice bo p cb) m/\RR w b L/\x<w.heap.size/\b<w.heap.size):=⟨hm,hr,hm.lt,by obtain ⟨s,hs⟩:=hr.blk;exact hs.lt⟩
 clear hm hr
 go_enter Tryz.func61,Tryz.ntmps61
 go_wp2_with fail
 refine (numbers26 x (.slice ao n ca) (.slice bo p cb) m w H0.out.1).mono ?_
 rintro e w1 ⟨v1,rfl,f1,g1⟩
 obtain ⟨l,hl⟩:∃l,fld m=l:=⟨_,rfl⟩
 obtain ⟨nf,hnf⟩:∃x,l.length=x:=⟨_,rfl⟩
 have nf3:nf<=3:=by rw [<-hnf,<-hl];exact fld_len m
 have HL:Hid (fld m=l/\l.length=nf):=⟨hl,hnf⟩
 have H1:Hid (MB w1 x (.slice ao n ca) (.slice bo p cb) m/\RR w1 b L/\Fr w w1 (RF x b)/\Flds w1 w.heap.size x v1 l):=⟨H0.out.1.grown g1,H0.out.2.1.grown g1,fr_n g1,by rw [<-hl];exact f1⟩
 obtain ⟨a1,rfl⟩:∃a1,v1=.slice a1 nf nf:=by obtain ⟨x,hx⟩:=H1.out.2.2.2.shape;rw [hnf] at hx;exact ⟨x,hx⟩
 clear f1 g1 hl hnf
 go_wp2_with fail
 go_loopw [12] (fun i wr=>∃(k:Nat) (r:PMsg) (M:Bs),k<=nf/\i=.int .i64 k/\Hid (MB wr x (.slice ao n ca) (.slice bo p cb) r/\RR wr b M/\Fr w wr (RF x b)/\Flds wr w.heap.size x (.slice a1 nf nf) l/\readNums (l.drop k) r M=readNums l m L)) (fun i _=>nf-(intOf i).toNat)
 case atStart=>exact ⟨0,m,L,by omega,rfl,H1.out.1,H1.out.2.1,H1.out.2.2.1,H1.out.2.2.2,rfl⟩
 case round =>
  obtain ⟨k,r,M,hk,rfl,HR⟩:=hrel
  by_cases hlt:k<nf
  ·have i3:(k:Int)<(nf:Int):=by omega
   have i0:(0:Int)<=(k:Int):=by omega
   have hkl:k<l.length:=by rw [HL.out.2];omega
   obtain ⟨q1,rfl,hq1,x0,x1⟩:=HR.out.2.2.2.1.at k hkl
   have HO:Hid (isOff l[k].1):=(fld_off m l[k] (by rw [HL.out.1];exact List.getElem_mem hkl)).1
   have HT:Hid ((pNum 9223372036854775807 M).bind (fun y=>readNums (l.drop (k+1)) (setV r l[k].1 y.1) y.2)=readNums l m L):=by
    have h:=HR.out.2.2.2.2
    rw [List.drop_eq_getElem_cons hkl,readNums] at h
    exact h
   obtain ⟨f,hf⟩:∃f,l[k]=f:=⟨_,rfl⟩
   rw [hf] at x0 x1 HO HT
   clear hf hkl
   obtain ⟨fo,fl⟩:=f
   dsimp only at x0 x1 HO HT
   unfold pt at x0
   go_upto_region 4 with fail
   obtain ⟨W5,hW5,H5⟩:=al1' wr #[.pointer (some ⟨x,fo,none⟩),.int .i64 fl] 67
   rw [hW5]
   clear hW5 x0 x1
   have HB5:Hid (RR W5 b M):=HR.out.2.1.grown H5.out.2.1
   go_wp2_with fail
   refine (number62 b lo ln lc M W5 HB5.out).mono ?_
   rintro e w6 hh
   rcases hh with ⟨hp,rfl,hg⟩ | ⟨nn,M',hp,rfl,hrr,hg⟩
   ·have F:Hid (readNums l m L=none/\Fr w w6 (RF x b)):=⟨by rw [<-HT.out,hp];rfl,fr_t HR.out.2.2.1 (fr_t (fr_n H5.out.2.1) (Fr.of hg (fun k hk=>by simp at hk;exact .inr hk.symm)))⟩
    clear hp hg HT
    go_wp2_with fail
    go_ret
    exact .inl ⟨by rw [HL.out.1];exact F.out.1,rfl,F.out.2⟩
   ·have H6:Hid (MB w6 x (.slice ao n ca) (.slice bo p cb) r/\RR w6 b M'/\Fr w w6 (RF x b)/\Flds w6 w.heap.size x (.slice (some ⟨q1,0,none⟩) nf nf) l/\readNums (l.drop (k+1)) (setV r fo nn) M'=readNums l m L/\Blk w6 wr.heap.size 67 #[.pointer (some ⟨x,fo,none⟩),.int .i64 fl]):=by
     refine ⟨mb_rr (HR.out.1.grown H5.out.2.1) HB5.out hg,hrr,fr_t HR.out.2.2.1 (fr_t (fr_n H5.out.2.1) (Fr.of hg (fun k hk=>by simp at hk;exact .inr hk.symm))),(HR.out.2.2.2.1.grown H5.out.2.1).but hg H0.out.2.2.2,?_,H5.out.1.grown hg (by have h1:=HR.out.2.2.1.size;have h2:=H0.out.2.2.2;simp;omega)⟩
     rw [<-HT.out,hp]
     rfl
    clear hp hg hrr HT H5 HB5
    have y0:=H6.out.2.2.2.2.2.cell 0
    simp at y0
    have s0:=H6.out.1.at HO.out
    have z0:=H6.out.1.free fo
    go_wp2_with fail
    have HZ:Hid (MB (w6.setCell ⟨x,fo,none⟩ (.int .i64 (nn:Int))) x (.slice ao n ca) (.slice bo p cb) (setV r fo nn)/\RR (w6.setCell ⟨x,fo,none⟩ (.int .i64 (nn:Int))) b M'/\Fr w (w6.setCell ⟨x,fo,none⟩ (.int .i64 (nn:Int))) (RF x b)/\Flds (w6.setCell ⟨x,fo,none⟩ (.int .i64 (nn:Int))) w.heap.size x (.slice (some ⟨q1,0,none⟩) nf nf) l):=by
     have s:=grown_setCell w6 x fo (.int .i64 (nn:Int))
     refine ⟨H6.out.1.set HO.out _,H6.out.2.1.set H6.out.1 s (by decide) (by decide),fr_t H6.out.2.2.1 (Fr.of s (fun k hk=>by simp at hk;exact .inl hk.symm)),H6.out.2.2.2.1.but s H0.out.2.2.1⟩
    generalize w6.setCell ⟨x,fo,none⟩ (.int .i64 (nn:Int))=wz at HZ ⊢
    clear y0 s0 z0
    go_wp2_with fail
    go_roundw
    case rel=>exact ⟨k+1,setV r fo nn,M',by omega,by go_num,HZ.out.1,HZ.out.2.1,HZ.out.2.2.1,HZ.out.2.2.2,H6.out.2.2.2.2.1⟩
    case measure=>simp [intOf];omega
  ·have i3:((k:Int)<(nf:Int))=False:=eq_false (by omega)
   have HE:Hid (readNums l m L=some (r,M)):=by
    have h:=HR.out.2.2.2.2
    rw [List.drop_of_length_le (by rw [HL.out.2];omega),readNums] at h
    exact h.symm
   go_wp2_with fail
   go_ret
   exact .inr ⟨r,M,by rw [HL.out.1];exact HE.out,rfl,HR.out.1,HR.out.2.1,HR.out.2.2.1⟩
end Go.Proofs.YtncbdhdfemidlaaGreat
