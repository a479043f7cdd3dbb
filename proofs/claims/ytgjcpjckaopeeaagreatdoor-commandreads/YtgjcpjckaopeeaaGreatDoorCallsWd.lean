import Derived.Test.YtgjcpjckaopeeaaGreatDoorCallsBp
import Derived.Deep.DeepCutAuto
set_option maxHeartbeats 4000000
set_option maxRecDepth 100000
namespace Go.Proofs.YtgjcpjckaopeeaaGreatDoor.Calls
open Go.RowKit Disk
open Names (Str)
theorem nI {c:UInt8}{y r:Bs}(h:c ∉ y):Lib.split (y ++ c :: r) [c]=y :: Lib.split r [c]:=by
 have hi:Lib.index (y ++ c :: r) [c]=(y.length:Int):=ep (s:=[]) (r:=r) h
 have hd:(y ++ c :: r).drop (y.length + [c].length)=r:=by
  rw [show y ++ c :: r=(y ++ [c]) ++ r by simp,show y.length + [c].length=(y ++ [c]).length by simp,List.drop_left]
 unfold Lib.split
 rw [Lib.count_hit (by simp) hi,hd,Nat.add_comm]
 conv=>lhs;unfold Lib.splitK
 rw [hi]
 have e:((y.length:Int)==-1)=false:=by rw [beq_eq_false_iff_ne];omega
 rw [e]
 have et:((y.length:Int).toNat)=y.length:=by omega
 rw [et,hd]
 simp
theorem lG {c:UInt8}{y:Bs}(h:c ∉ y):Lib.split y [c]=[y]:=by
 unfold Lib.split
 rw [Lib.count_miss (ii (s:=[]) h)]
 rfl
theorem kB (L:Bs)(a b:Nat)(ha:a<=b)(hb:b<=L.length)(w:World):(Instr.slice 9 (.string ⟨L.toArray⟩) (some (.int .i64 a)) (some (.int .i64 b)) none).run Tryz.prog w=.ok (.string ⟨((L.take b).drop a).toArray⟩) w:=by
 rw [run_slice_string_if w 9 _ _ _ _ _ Tryz.underlying9,if_pos (by rw [Names.cP];omega)]
 have e:(⟨L.toArray⟩:ByteArray).extract (a:Int).toNat (b:Int).toNat=⟨((L.take b).drop a).toArray⟩:=by
  apply ByteArray.ext
  rw [ByteArray.data_extract]
  simp
  rw [List.drop_take]
 rw [e,if_pos (by omega)]
theorem es (s:Bs)(w:World)(hl:s.length<=100000):Calls Tryz.prog 133 #[.string ⟨s.toArray⟩] w fun e w'=>∃x,e=.returned x/\Own w' w.heap.size x (Names.aZ s)/\w.grownBy w' none:=by
 go_enter Tryz.func133,Tryz.ntmps133
 go_wp2_with (go_at_call 175;refine (Names.uk s _ (by omega)).mono ?_)
 rintro e w1 ⟨x,rfl,ho,hg⟩
 go_wp2_with fail
 go_ret
 exact ⟨_,rfl,ho,hg⟩
def pu (s:Bs)(n i a:Nat)(l:List Bs):Prop:=(i<=n/\a<=i/\(32:UInt8) ∉ (s.take i).drop a/\Lib.split s [32]=l ++ Lib.split (s.drop a) [32])\/(i=n+1/\l=Lib.split s [32])
theorem rQ (s:Bs)(w:World)(hz:s.length<=20000):Calls Tryz.prog 132 #[.string ⟨s.toArray⟩] w fun e w'=>∃v,e=.returned v/\SRow w' w.heap.size v (Lib.split s [32])/\w.grownBy w' none:=by
 obtain ⟨n,hn⟩:∃n,s.length=n:=⟨_,rfl⟩
 obtain ⟨X,hX⟩:∃X:ByteArray,X=⟨s.toArray⟩:=⟨_,rfl⟩
 have hsz:X.size=n:=by rw [hX];simp [ByteArray.size,hn]
 have HN:Hid (s.length=n):=hn
 have HX:Hid (X=⟨s.toArray⟩):=hX
 rw [hn] at hz
 rw [<-hX]
 clear hn hX
 go_enter Tryz.func132,Tryz.ntmps132
 go_wp2_with fail
 go_loopw [3,4,5] (fun x at_ i wr=>∃(k a:Nat) (l:List Bs),k<=n+1/\i=.int .i64 k/\at_=.int .i64 a/\Hid (l.length<=k/\pu s n k a l)/\Hid (SRow wr w.heap.size x l/\w.grownBy wr none)) (fun _ _ i _=>n+1-(intOf i).toNat)
 case atStart=>exact ⟨0,0,[],by omega,rfl,rfl,⟨by simp,.inl ⟨by omega,by omega,by simp,by simp⟩⟩,World.ownsRow_nil _ _ _ _,ai _ _⟩
 case round =>
  obtain ⟨k,a,l,hk,rfl,rfl,HP,HR⟩:=hrel
  by_cases hle:k<=n
  ·have i1:(k:Int)<=(n:Int):=by omega
   obtain ⟨h1,h2,h3,h4⟩:k<=n/\a<=k/\(32:UInt8) ∉ (s.take k).drop a/\Lib.split s [32]=l ++ Lib.split (s.drop a) [32]:=by
    rcases HP.out.2 with h | h
    ·exact h
    ·omega
   have hcut:∀wk,(Instr.slice 9 (.string X) (some (.int .i64 a)) (some (.int .i64 k)) none).run Tryz.prog wk=.ok (.string ⟨((s.take k).drop a).toArray⟩) wk:=fun wk=>by rw [HX.out];exact kB s a k h2 (by rw [HN.out];omega) wk
   by_cases hc:k=n\/∃h:k<s.length,s[k]=32
   ·obtain ⟨y,hy⟩:∃y,(s.take k).drop a=y:=⟨_,rfl⟩
    rw [hy] at hcut h3
    have HW:Hid (pu s n (k+1) (k+1) (l ++ [y])):=by
     rcases hc with rfl | ⟨hk2,h5⟩
     ·refine .inr ⟨rfl,?_⟩
      have e:s.drop a=y:=by rw [<-hy,List.take_of_length_le (by rw [HN.out];omega)]
      rw [h4,e,lG h3]
     ·have hkn:k<n:=by rw [<-HN.out];exact hk2
      refine .inl ⟨by omega,by omega,by rw [List.drop_of_length_le (by simp;omega)];simp,?_⟩
      have e:s.drop a=y ++ 32 :: s.drop (k+1):=by
       have e1:s=s.take k ++ s[k] :: s.drop (k+1):=by rw [<-List.drop_eq_getElem_cons hk2,List.take_append_drop]
       conv=>lhs;rw [e1]
       rw [List.drop_append_of_le_length (by rw [List.length_take];omega),hy,h5]
      rw [h4,e,nI h3]
      simp
    have HLl:Hid (l.length<=k):=HP.out.1
    clear hy h3 h4 HP h2
    have hbr:(k=n)\/(k<n/\∀wk,(Instr.index 9 (.string X) (.int .i64 k)).run Tryz.prog wk=.ok (.int .u8 32) wk):=by
     rcases hc with h | ⟨hk2,h5⟩
     ·exact .inl h
     ·refine .inr ⟨by rw [<-HN.out];exact hk2,fun wk=>?_⟩
      have:=Names.bf s k hk2 wk
      rw [h5] at this
      rw [HX.out]
      exact this
    clear hc
    rcases hbr with rfl | ⟨hkn,hidx⟩
    ·have HZ:Hid (l.length+1<=1000000):=by have:=HLl.out;unfold Hid;omega
     have H3:Hid (SRow (wr.alloc (.cells #[.string ⟨y.toArray⟩] 9)) w.heap.size u3 l/\Blk (wr.alloc (.cells #[.string ⟨y.toArray⟩] 9)) wr.heap.size 9 #[.string ⟨y.toArray⟩]/\w.grownBy (wr.alloc (.cells #[.string ⟨y.toArray⟩] 9)) none):=⟨HR.out.1.grown gA_,heap_alloc_new _ _,aa HR.out.2 gA_⟩
     go_wp2_with (at_builtin;refine app9 _ rfl (.tmp 22) (.tmp 27) rfl w.heap.size u3 l [y] 1 _ rfl rfl rfl H3.out.1 H3.out.2.1 (by decide) HZ.out H3.out.2.2.size ?_;intro g' cap' w4 o4 g4 l4)
     have S4:Hid (SRow w4 w.heap.size (.slice (some ⟨g',0,none⟩) (l.length+1) cap') (l ++ [y])/\w.grownBy w4 none):=⟨o4,ag H3.out.2.2 g4 (fun x hx=>(World.ownsRow.lt H3.out.1 x hx).1)⟩
     clear o4 g4 l4 H3
     go_wp2_with fail
     go_roundw
     case rel=>exact ⟨k+1,k+1,l ++ [y],by omega,by go_num,by go_num,⟨by have:=HLl.out;simp;omega,HW.out⟩,S4⟩
     case measure=>first | (simp [intOf];omega) | simp [intOf]
    ·have j1:((k:Int)=(n:Int))=False:=eq_false (by omega)
     have j2:((k:Int)==(n:Int))=false:=by rw [beq_eq_false_iff_ne];omega
     have j3:(k=n)=False:=eq_false (by omega)
     have HZ:Hid (l.length+1<=1000000):=by have:=HLl.out;unfold Hid;omega
     have H3:Hid (SRow (wr.alloc (.cells #[.string ⟨y.toArray⟩] 9)) w.heap.size u3 l/\Blk (wr.alloc (.cells #[.string ⟨y.toArray⟩] 9)) wr.heap.size 9 #[.string ⟨y.toArray⟩]/\w.grownBy (wr.alloc (.cells #[.string ⟨y.toArray⟩] 9)) none):=⟨HR.out.1.grown gA_,heap_alloc_new _ _,aa HR.out.2 gA_⟩
     go_wp2_with (at_builtin;refine app9 _ rfl (.tmp 22) (.tmp 27) rfl w.heap.size u3 l [y] 1 _ rfl rfl rfl H3.out.1 H3.out.2.1 (by decide) HZ.out H3.out.2.2.size ?_;intro g' cap' w4 o4 g4 l4)
     have S4:Hid (SRow w4 w.heap.size (.slice (some ⟨g',0,none⟩) (l.length+1) cap') (l ++ [y])/\w.grownBy w4 none):=⟨o4,ag H3.out.2.2 g4 (fun x hx=>(World.ownsRow.lt H3.out.1 x hx).1)⟩
     clear o4 g4 l4 H3
     go_wp2_with fail
     go_roundw
     case rel=>exact ⟨k+1,k+1,l ++ [y],by omega,by go_num,by go_num,⟨by have:=HLl.out;simp;omega,HW.out⟩,S4⟩
     case measure=>simp [intOf];omega
   ·have hkn:k<n:=by
     rcases Nat.lt_or_ge k n with h | h
     ·exact h
     ·exact absurd (.inl (by omega)) hc
    have hks:k<s.length:=by rw [HN.out];exact hkn
    have h5:s[k]≠32:=fun e=>hc (.inr ⟨hks,e⟩)
    have HW:Hid (pu s n (k+1) a l):=by
     refine .inl ⟨by omega,by omega,?_,h4⟩
     rw [List.take_succ_eq_append_getElem hks,List.drop_append_of_le_length (by rw [List.length_take];omega)]
     intro e
     rcases List.mem_append.1 e with e | e
     ·exact h3 e
     ·simp at e
      exact h5 e.symm
    have HLl:Hid (l.length<=k):=HP.out.1
    obtain ⟨c,hcc⟩:∃c,s[k]=c:=⟨_,rfl⟩
    have hidx:∀wk,(Instr.index 9 (.string X) (.int .i64 k)).run Tryz.prog wk=.ok (.int .u8 (c.toNat:Int)) wk:=fun wk=>by
     have:=Names.bf s k hks wk
     rw [hcc] at this
     rw [HX.out]
     exact this
    have hc32:c.toNat≠32:=fun e=>h5 (by rw [hcc];exact UInt8.toNat_inj.1 (by simpa using e))
    have j1:((k:Int)=(n:Int))=False:=eq_false (by omega)
    have j2:((k:Int)==(n:Int))=false:=by rw [beq_eq_false_iff_ne];omega
    have j3:(k=n)=False:=eq_false (by omega)
    have j4:((c.toNat:Int)=32)=False:=eq_false (by omega)
    have j5:((c.toNat:Int)==32)=false:=by rw [beq_eq_false_iff_ne];omega
    clear h3 h4 HP h2 hc h5 hcc hcut hc32 hks
    go_wp2_with fail
    go_roundw
    case rel=>exact ⟨k+1,a,l,by omega,by go_num,rfl,⟨by have:=HLl.out;omega,HW.out⟩,HR⟩
    case measure=>simp [intOf];omega
  ·have i1:((k:Int)<=(n:Int))=False:=eq_false (by omega)
   have hl:l=Lib.split s [32]:=by
    rcases HP.out.2 with h | h
    ·omega
    ·exact h.2
   go_wp2_with fail
   go_ret
   exact ⟨_,rfl,by rw [<-hl];exact HR.out.1,HR.out.2⟩
end Go.Proofs.YtgjcpjckaopeeaaGreatDoor.Calls
