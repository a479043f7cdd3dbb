import Derived.Test.YtgjcpjckaopeeaaGreatDoorKq
set_option maxHeartbeats 4000000
set_option maxRecDepth 100000
namespace Go.Proofs.YtgjcpjckaopeeaaGreatDoor
open Go.RowKit Disk
open _root_.Go.Proofs.YtgjcpjckaopeeaaGreatDoor.Calls
open Names (Str)
attribute [local go_sem ↓] run_min9
theorem raw_form {c:PCmd}(h:okC c=true)(hi:InC c)(M:Bs):rawP (formC c ++ M)=some (c,M):=by
 have hk:=fitC_kind (okC_fit h)
 have hn:=fitC_named (okC_fit h)
 unfold rawP formC frontC headC numsC fillP
 by_cases h1:c.kind=1
 ·have e:c=⟨1,c.token,0,0,0,[]⟩:=by rw [hn,namedC,if_pos h1];simp [h1]
  rw [if_pos h1,if_neg (by omega),h1]
  simp only [List.flatMap_cons,List.flatMap_nil,List.append_nil,List.append_assoc]
  rw [pNum_form (by decide) (by decide)]
  simp only [Option.bind_some]
  rw [if_pos (by decide),pSgn_form hi.t0 hi.t1]
  simp only [Option.bind_some]
  rw [if_neg (by decide),<-e]
 ·rw [if_neg h1]
  by_cases h2:c.kind=2
  ·have e:c=⟨2,0,c.session,c.number,c.mark,c.ops⟩:=by rw [hn,namedC,if_neg h1,if_pos h2];simp [h2]
   rw [if_pos h2,if_pos h2,h2]
   simp only [List.flatMap_cons,List.flatMap_nil,List.append_nil,List.append_assoc]
   rw [pNum_form (by decide) (by decide)]
   simp only [Option.bind_some]
   rw [if_neg (by decide),if_pos (by decide),pSgn_form hi.s0 hi.s1]
   simp only [Option.bind_some]
   rw [pSgn_form hi.n0 hi.n1]
   simp only [Option.bind_some]
   rw [pSgn_form hi.m0 hi.m1]
   simp only [Option.bind_some]
   have hc:=okC_chk h h2
   rw [if_pos (by decide),pBytes_form (b:=callForm c.ops) (most:=4096) (chk0 hc).2 (by decide) M]
   simp only [Option.bind_some]
   rw [pCall_iff.2 ⟨(chk0 hc).1,rfl⟩]
   simp only [Option.bind_some]
   rw [<-e]
  ·have h3:c.kind=3\/c.kind=4:=by omega
   have e:c=⟨c.kind,0,c.session,0,0,[]⟩:=by rw [hn,namedC,if_neg h1,if_neg h2,if_pos h3]
   rw [if_neg h2,if_pos h3,if_neg h2]
   simp only [List.flatMap_cons,List.flatMap_nil,List.append_nil,List.append_assoc]
   rw [pNum_form (by omega) (by decide)]
   simp only [Option.bind_some]
   rw [if_neg (by omega),if_neg (by omega),if_pos (by omega),pSgn_form hi.s0 hi.s1]
   simp only [Option.bind_some]
   rw [if_neg (by omega),show ((c.kind.toNat:Nat):Int)=c.kind by omega,<-e]
theorem formC_len {c:PCmd}(h:okC c=true)(hi:InC c):(formC c).length<=140737488355328:=by
 have hk:=fitC_kind (okC_fit h)
 have h0:=Wire.numForm_len10 c.kind.toNat (by omega)
 have ht:=sgn_len hi.t0 hi.t1
 have hs:=sgn_len hi.s0 hi.s1
 have hn:=sgn_len hi.n0 hi.n1
 have hm:=sgn_len hi.m0 hi.m1
 unfold formC frontC headC numsC
 by_cases h1:c.kind=1
 ·rw [if_pos h1,if_neg (by omega)];simp;omega
 ·rw [if_neg h1]
  by_cases h2:c.kind=2
  ·have hc:=(chk0 (okC_chk h h2)).2
   have hb:=Wire.numForm_len10 (callForm c.ops).length (by omega)
   rw [if_pos h2,if_pos h2];simp [bytesForm];omega
  ·rw [if_neg h2,if_pos (by omega),if_neg h2];simp;omega
def opN (o:POp):Nat:=min o.table.length 9999+min o.key.length 9999+min o.value.length 9999+min o.old.length 9999+min o.to.length 9999
def smN (l:List POp):Nat:=(l.map opN).sum
theorem smN_take (l:List POp)(k:Nat)(hk:k<l.length):smN (l.take (k+1))=smN (l.take k)+opN l[k]:=by
 unfold smN
 rw [List.take_succ_eq_append_getElem hk,List.map_append,List.sum_append]
 simp
def smallB (c:PCmd):Bool:=decide (smN (c.ops.take 20)<9999)
theorem small6e (a:Value)(c:PCmd)(w:World)(ha:Ops w a c.ops):Calls Tryz.prog 6 #[cmdV a c] w fun e w'=>e=.returned (.bool (smallB c))/\w.grownBy w' none:=by
 obtain ⟨ao,n,ca,rfl,hna,la,HA⟩:=ops_open ha
 unfold smallB
 obtain ⟨l,hl⟩:∃l,c.ops=l:=⟨_,rfl⟩
 rw [hl] at HA hna ⊢
 have HN:Hid (l.length=n):=hna
 clear ha hna hl
 unfold cmdV
 go_enter Tryz.func6,Tryz.ntmps6
 go_wp2_with fail
 go_loopw [3,4] (fun s i wr=>∃k m:Nat,k<=n/\k<=20/\s=.int .i64 m/\i=.int .i64 k/\m<=k*49995/\Hid (Blk wr w.heap.size 27 #[.int .i64 c.kind,.int .i64 c.token,.int .i64 c.session,.int .i64 c.number,.int .i64 c.mark,.slice ao n ca]/\w.grownBy wr none/\m=smN (l.take k))) (fun _ i _=>20-(intOf i).toNat)
 case atStart=>exact ⟨0,0,by omega,by omega,rfl,rfl,by omega,heap_alloc_new w _,World.grownBy_alloc _ _ none,rfl⟩
 case round =>
  obtain ⟨k,m,hk,hk2,rfl,rfl,hm,HR⟩:=hrel
  have c0:=HR.out.1.cell 5
  simp at c0
  by_cases hlt:k<n
  ·have i1:(k:Int)<(n:Int):=by omega
   by_cases h20:k<20
   ·have i2:(k:Int)<20:=by omega
    have i0:(0:Int)<=(k:Int):=by omega
    have hkl:k<l.length:=by rw [HN.out];omega
    have HT:Hid (smN (l.take (k+1))=smN (l.take k)+opN l[k]):=smN_take l k hkl
    obtain ⟨b1,o1,k1,x1,ol1,t1,rfl,h1,s1⟩:=ops_at (HA.out.grown HR.out.2.1) k hkl
    obtain ⟨o,ho⟩:∃o,l[k]=o:=⟨_,rfl⟩
    rw [ho] at h1 s1 HT
    clear ho hkl
    have tl:=s1.fits.tl
    obtain ⟨_,_,_,_,_,_,_,_,rfl,rfl,rfl,rfl⟩:=s1.shapes
    clear s1
    obtain ⟨a0,a1,a2,a3,a4,a5,a6,a7⟩:=h1
    unfold Str at a1
    have q1:min o.table.length 9999<=9999:=Nat.min_le_right _ _
    have q2:min o.key.length 9999<=9999:=Nat.min_le_right _ _
    have q3:min o.value.length 9999<=9999:=Nat.min_le_right _ _
    have q4:min o.old.length 9999<=9999:=Nat.min_le_right _ _
    have q5:min o.to.length 9999<=9999:=Nat.min_le_right _ _
    go_wp2_with fail
    go_roundw
    case rel=>exact ⟨k+1,m+min o.table.length 9999+min o.key.length 9999+min o.value.length 9999+min o.old.length 9999+min o.to.length 9999,by omega,by omega,by go_num,by go_num,by omega,HR.out.1.grown (World.grownBy_alloc _ _ none) (by simp),grown_trans HR.out.2.1 (World.grownBy_alloc _ _ none),by rw [HT.out,<-HR.out.2.2];unfold opN;omega⟩
    case measure=>simp [intOf];omega
   ·have i2:((k:Int)<20)=False:=eq_false (by omega)
    have e20:k=20:=by omega
    have HF:Hid (m=smN (l.take 20)):=by rw [Hid,HR.out.2.2,e20]
    clear e20
    go_wp2_with fail
    go_ret
    refine ⟨?_,HR.out.2.1⟩
    rw [<-HF.out]
    simp
    try omega
  ·have i1:((k:Int)<(n:Int))=False:=eq_false (by omega)
   have HF:Hid (m=smN (l.take 20)):=by rw [Hid,HR.out.2.2,List.take_of_length_le (by rw [HN.out];omega),List.take_of_length_le (by rw [HN.out];omega)]
   go_wp2_with fail
   go_ret
   refine ⟨?_,HR.out.2.1⟩
   rw [<-HF.out]
   simp
   try omega
end Go.Proofs.YtgjcpjckaopeeaaGreatDoor
