import Derived.Test.YtncbdhdfemidlaaGreatNabAll
import Derived.Test.YtncbdhdfemidlaaGreatMklAll
set_option maxHeartbeats 4000000
set_option maxRecDepth 100000
namespace Go.Proofs.YtncbdhdfemidlaaGreat
open Go.RowKit Disk
open _root_.Go.Proofs.YtncbdhdfemidlaaGreat.Calls _root_.Go.Proofs.YtncbdhdfemidlaaGreat.Command
theorem own_lits (w:World)(C:Array Value)(L:Bs)(h:C.toList=BV L)(hl:L.length<=100):Own (w.alloc (.cells C 5)) w.heap.size (.slice (some ⟨w.heap.size,0,none⟩) L.length L.length) L:=by
 have h1:C.size=L.length:=by rw [<-Array.length_toList,h,BV_len]
 have:=World.ownsRow_lit (base:=w.heap.size) (e:=5) (size:=1) w C L.length (Nat.le_refl _) (by unfold maxLen;omega) (by rw [h1];omega)
 unfold Own
 rw [<-h]
 exact this
theorem form19_a1 (ao bo:Option Addr)(n ca p cb:Nat)(c a1 a2 a3 a4 b1 b2 b3:Int)(tk:Int)(w:World)(hc:0<=c/\c<8)(ha1:0<=a1/\a1<=9223372036854775807):Calls Tryz.prog 19 #[.agg #[.int .i64 1,.int .i64 c,.int .i64 1,.int .i64 a1,.int .i64 a2,.int .i64 a3,.int .i64 a4,.slice ao n ca,.int .i64 tk,.int .i64 b1,.int .i64 b2,.int .i64 b3,.slice bo p cb]] w (FormIs ([1,UInt8.ofNat c.toNat,1] ++ Wire.numForm a1.toNat) w):=by
 have wc:IntKind.u8.wrap c=c:=by rw [IntKind.wrap_u8];omega
 have HHD:Hid ([Value.int .u8 1,.int .u8 c,.int .u8 1]=BV [1,UInt8.ofNat c.toNat,1]):=by
  unfold Hid BV
  have e2:((UInt8.ofNat c.toNat).toNat:Int)=c:=byte_back hc.1 (by omega)
  simp only [List.map_cons,List.map_nil,e2]
  rfl
 have wa1:IntKind.u64.wrap a1=a1:=by rw [IntKind.wrap_u64];omega
 have La1:Hid ((Wire.numForm a1.toNat).length<=10):=num_short _ (by omega)
 have Na1:Hid (a1=(a1.toNat:Int)/\a1.toNat<2 ^ 64):=⟨by omega,by omega⟩
 clear hc ha1
 go_enter Tryz.func19,Tryz.ntmps19
 go_upto_region 1 with fail
 obtain ⟨W0,hW0,S0⟩:=al1' w #[.int .i64 1,.int .i64 c,.int .i64 1,.int .i64 a1,.int .i64 a2,.int .i64 a3,.int .i64 a4,.slice ao n ca,.int .i64 tk,.int .i64 b1,.int .i64 b2,.int .i64 b3,.slice bo p cb] 34
 rw [hW0]
 clear hW0
 have c0:=S0.out.1.cell 0
 have c1:=S0.out.1.cell 1
 have c2:=S0.out.1.cell 2
 have c3:=S0.out.1.cell 3
 have c4:=S0.out.1.cell 4
 have c5:=S0.out.1.cell 5
 have c6:=S0.out.1.cell 6
 have c7:=S0.out.1.cell 7
 have c8:=S0.out.1.cell 8
 have c9:=S0.out.1.cell 9
 have c10:=S0.out.1.cell 10
 have c11:=S0.out.1.cell 11
 have c12:=S0.out.1.cell 12
 simp at c0 c1 c2 c3 c4 c5 c6 c7 c8 c9 c10 c11 c12
 go_upto_region 3 with fail
 obtain ⟨W1,hW1,S1⟩:=al1' W0 #[.int .u8 1,.int .u8 c,.int .u8 1] 5
 have SA0:Hid (Acc W0 W1 (.slice (some ⟨W0.heap.size,0,none⟩) 3 3) [1,UInt8.ofNat c.toNat,1] w.heap.size 34 #[.int .i64 1,.int .i64 c,.int .i64 1,.int .i64 a1,.int .i64 a2,.int .i64 a3,.int .i64 a4,.slice ao n ca,.int .i64 tk,.int .i64 b1,.int .i64 b2,.int .i64 b3,.slice bo p cb]):=⟨by rw [<-hW1];exact own_lits W0 _ [1,UInt8.ofNat c.toNat,1] HHD.out (by simp),S1.out.2.1,S0.out.1.grown S1.out.2.1 (by simp)⟩
 rw [hW1]
 clear hW1 S1
 clear c0 c1 c2 c3 c4 c5 c6 c7 c8 c9 c10 c11 c12
 have c0:=SA0.out.blk.cell 0
 have c1:=SA0.out.blk.cell 1
 have c2:=SA0.out.blk.cell 2
 have c3:=SA0.out.blk.cell 3
 have c4:=SA0.out.blk.cell 4
 have c5:=SA0.out.blk.cell 5
 have c6:=SA0.out.blk.cell 6
 have c7:=SA0.out.blk.cell 7
 have c8:=SA0.out.blk.cell 8
 have c9:=SA0.out.blk.cell 9
 have c10:=SA0.out.blk.cell 10
 have c11:=SA0.out.blk.cell 11
 have c12:=SA0.out.blk.cell 12
 simp at c0 c1 c2 c3 c4 c5 c6 c7 c8 c9 c10 c11 c12
 go_wp2_with fail
 refine (dNum a1 a1.toNat Na1.out.1 Na1.out.2 W1).mono ?_
 rintro e z0 ⟨u0,rfl,o0,g0⟩
 have Y0:Hid (Acc W0 z0 (.slice (some ⟨W0.heap.size,0,none⟩) 3 3) [1,UInt8.ofNat c.toNat,1] w.heap.size 34 #[.int .i64 1,.int .i64 c,.int .i64 1,.int .i64 a1,.int .i64 a2,.int .i64 a3,.int .i64 a4,.slice ao n ca,.int .i64 tk,.int .i64 b1,.int .i64 b2,.int .i64 b3,.slice bo p cb]/\Seg z0 u0 (Wire.numForm a1.toNat)):=⟨SA0.out.call g0,o0.seg⟩
 clear o0 g0 c0 c1 c2 c3 c4 c5 c6 c7 c8 c9 c10 c11 c12
 go_wp2_with (at_builtin;refine app_acc z0 rfl _ _ rfl rfl rfl Y0.out.1 (by decide) Y0.out.2 ?c0 ?_)
 case c0=>have q0:=La1.out;simp;omega
 intro x0 W2 hz
 have SA1:Hid (Acc W0 W2 x0 ([1,UInt8.ofNat c.toNat,1] ++ Wire.numForm a1.toNat) w.heap.size 34 #[.int .i64 1,.int .i64 c,.int .i64 1,.int .i64 a1,.int .i64 a2,.int .i64 a3,.int .i64 a4,.slice ao n ca,.int .i64 tk,.int .i64 b1,.int .i64 b2,.int .i64 b3,.slice bo p cb]):=by unfold Hid;simpa only [List.append_assoc,List.cons_append,List.nil_append] using hz
 clear hz Y0
 go_wp2_with fail
 go_ret
 exact ⟨_,rfl,SA1.out.own.mono S0.out.2.1.size,grown_trans S0.out.2.1 SA1.out.grown⟩
theorem form19_a3 (ao bo:Option Addr)(n ca p cb:Nat)(c a1 a2 a3 a4 b1 b2 b3:Int)(tk:Int)(w:World)(hc:0<=c/\c<8)(ha2:0<=a2/\a2<=9223372036854775807):Calls Tryz.prog 19 #[.agg #[.int .i64 1,.int .i64 c,.int .i64 3,.int .i64 a1,.int .i64 a2,.int .i64 a3,.int .i64 a4,.slice ao n ca,.int .i64 tk,.int .i64 b1,.int .i64 b2,.int .i64 b3,.slice bo p cb]] w (FormIs ([1,UInt8.ofNat c.toNat,3] ++ Wire.numForm a2.toNat) w):=by
 have wc:IntKind.u8.wrap c=c:=by rw [IntKind.wrap_u8];omega
 have HHD:Hid ([Value.int .u8 1,.int .u8 c,.int .u8 3]=BV [1,UInt8.ofNat c.toNat,3]):=by
  unfold Hid BV
  have e2:((UInt8.ofNat c.toNat).toNat:Int)=c:=byte_back hc.1 (by omega)
  simp only [List.map_cons,List.map_nil,e2]
  rfl
 have wa2:IntKind.u64.wrap a2=a2:=by rw [IntKind.wrap_u64];omega
 have La2:Hid ((Wire.numForm a2.toNat).length<=10):=num_short _ (by omega)
 have Na2:Hid (a2=(a2.toNat:Int)/\a2.toNat<2 ^ 64):=⟨by omega,by omega⟩
 clear hc ha2
 go_enter Tryz.func19,Tryz.ntmps19
 go_upto_region 1 with fail
 obtain ⟨W0,hW0,S0⟩:=al1' w #[.int .i64 1,.int .i64 c,.int .i64 3,.int .i64 a1,.int .i64 a2,.int .i64 a3,.int .i64 a4,.slice ao n ca,.int .i64 tk,.int .i64 b1,.int .i64 b2,.int .i64 b3,.slice bo p cb] 34
 rw [hW0]
 clear hW0
 have c0:=S0.out.1.cell 0
 have c1:=S0.out.1.cell 1
 have c2:=S0.out.1.cell 2
 have c3:=S0.out.1.cell 3
 have c4:=S0.out.1.cell 4
 have c5:=S0.out.1.cell 5
 have c6:=S0.out.1.cell 6
 have c7:=S0.out.1.cell 7
 have c8:=S0.out.1.cell 8
 have c9:=S0.out.1.cell 9
 have c10:=S0.out.1.cell 10
 have c11:=S0.out.1.cell 11
 have c12:=S0.out.1.cell 12
 simp at c0 c1 c2 c3 c4 c5 c6 c7 c8 c9 c10 c11 c12
 go_upto_region 3 with fail
 obtain ⟨W1,hW1,S1⟩:=al1' W0 #[.int .u8 1,.int .u8 c,.int .u8 3] 5
 have SA0:Hid (Acc W0 W1 (.slice (some ⟨W0.heap.size,0,none⟩) 3 3) [1,UInt8.ofNat c.toNat,3] w.heap.size 34 #[.int .i64 1,.int .i64 c,.int .i64 3,.int .i64 a1,.int .i64 a2,.int .i64 a3,.int .i64 a4,.slice ao n ca,.int .i64 tk,.int .i64 b1,.int .i64 b2,.int .i64 b3,.slice bo p cb]):=⟨by rw [<-hW1];exact own_lits W0 _ [1,UInt8.ofNat c.toNat,3] HHD.out (by simp),S1.out.2.1,S0.out.1.grown S1.out.2.1 (by simp)⟩
 rw [hW1]
 clear hW1 S1
 clear c0 c1 c2 c3 c4 c5 c6 c7 c8 c9 c10 c11 c12
 have c0:=SA0.out.blk.cell 0
 have c1:=SA0.out.blk.cell 1
 have c2:=SA0.out.blk.cell 2
 have c3:=SA0.out.blk.cell 3
 have c4:=SA0.out.blk.cell 4
 have c5:=SA0.out.blk.cell 5
 have c6:=SA0.out.blk.cell 6
 have c7:=SA0.out.blk.cell 7
 have c8:=SA0.out.blk.cell 8
 have c9:=SA0.out.blk.cell 9
 have c10:=SA0.out.blk.cell 10
 have c11:=SA0.out.blk.cell 11
 have c12:=SA0.out.blk.cell 12
 simp at c0 c1 c2 c3 c4 c5 c6 c7 c8 c9 c10 c11 c12
 go_wp2_with fail
 refine (dNum a2 a2.toNat Na2.out.1 Na2.out.2 W1).mono ?_
 rintro e z0 ⟨u0,rfl,o0,g0⟩
 have Y0:Hid (Acc W0 z0 (.slice (some ⟨W0.heap.size,0,none⟩) 3 3) [1,UInt8.ofNat c.toNat,3] w.heap.size 34 #[.int .i64 1,.int .i64 c,.int .i64 3,.int .i64 a1,.int .i64 a2,.int .i64 a3,.int .i64 a4,.slice ao n ca,.int .i64 tk,.int .i64 b1,.int .i64 b2,.int .i64 b3,.slice bo p cb]/\Seg z0 u0 (Wire.numForm a2.toNat)):=⟨SA0.out.call g0,o0.seg⟩
 clear o0 g0 c0 c1 c2 c3 c4 c5 c6 c7 c8 c9 c10 c11 c12
 go_wp2_with (at_builtin;refine app_acc z0 rfl _ _ rfl rfl rfl Y0.out.1 (by decide) Y0.out.2 ?c0 ?_)
 case c0=>have q0:=La2.out;simp;omega
 intro x0 W2 hz
 have SA1:Hid (Acc W0 W2 x0 ([1,UInt8.ofNat c.toNat,3] ++ Wire.numForm a2.toNat) w.heap.size 34 #[.int .i64 1,.int .i64 c,.int .i64 3,.int .i64 a1,.int .i64 a2,.int .i64 a3,.int .i64 a4,.slice ao n ca,.int .i64 tk,.int .i64 b1,.int .i64 b2,.int .i64 b3,.slice bo p cb]):=by unfold Hid;simpa only [List.append_assoc,List.cons_append,List.nil_append] using hz
 clear hz Y0
 go_wp2_with fail
 go_ret
 exact ⟨_,rfl,SA1.out.own.mono S0.out.2.1.size,grown_trans S0.out.2.1 SA1.out.grown⟩
theorem form19_a2 (ao bo:Option Addr)(n ca p cb:Nat)(c a1 a2 a3 a4 b1 b2 b3:Int)(tk:Int)(w:World)(hc:0<=c/\c<8)(ha2:0<=a2/\a2<=9223372036854775807)(ha3:0<=a3/\a3<=9223372036854775807)(ha4:0<=a4/\a4<=9223372036854775807)(l:List POp)(hl:Ops w (.slice ao n ca) l)(hm:mayCall l=true)(hml:(callForm l).length<=4096):Calls Tryz.prog 19 #[.agg #[.int .i64 1,.int .i64 c,.int .i64 2,.int .i64 a1,.int .i64 a2,.int .i64 a3,.int .i64 a4,.slice ao n ca,.int .i64 tk,.int .i64 b1,.int .i64 b2,.int .i64 b3,.slice bo p cb]] w (FormIs (((([1,UInt8.ofNat c.toNat,2] ++ Wire.numForm a2.toNat) ++ Wire.numForm a3.toNat) ++ Wire.numForm a4.toNat) ++ callForm l) w):=by
 have wc:IntKind.u8.wrap c=c:=by rw [IntKind.wrap_u8];omega
 have HHD:Hid ([Value.int .u8 1,.int .u8 c,.int .u8 2]=BV [1,UInt8.ofNat c.toNat,2]):=by
  unfold Hid BV
  have e2:((UInt8.ofNat c.toNat).toNat:Int)=c:=byte_back hc.1 (by omega)
  simp only [List.map_cons,List.map_nil,e2]
  rfl
 have wa2:IntKind.u64.wrap a2=a2:=by rw [IntKind.wrap_u64];omega
 have La2:Hid ((Wire.numForm a2.toNat).length<=10):=num_short _ (by omega)
 have Na2:Hid (a2=(a2.toNat:Int)/\a2.toNat<2 ^ 64):=⟨by omega,by omega⟩
 have wa3:IntKind.u64.wrap a3=a3:=by rw [IntKind.wrap_u64];omega
 have La3:Hid ((Wire.numForm a3.toNat).length<=10):=num_short _ (by omega)
 have Na3:Hid (a3=(a3.toNat:Int)/\a3.toNat<2 ^ 64):=⟨by omega,by omega⟩
 have wa4:IntKind.u64.wrap a4=a4:=by rw [IntKind.wrap_u64];omega
 have La4:Hid ((Wire.numForm a4.toNat).length<=10):=num_short _ (by omega)
 have Na4:Hid (a4=(a4.toNat:Int)/\a4.toNat<2 ^ 64):=⟨by omega,by omega⟩
 have HC:Hid (Ops w (.slice ao n ca) l/\mayCall l=true/\(callForm l).length<=4096):=⟨hl,hm,hml⟩
 clear hl hm hml
 clear hc ha2 ha3 ha4
 go_enter Tryz.func19,Tryz.ntmps19
 go_upto_region 1 with fail
 obtain ⟨W0,hW0,S0⟩:=al1' w #[.int .i64 1,.int .i64 c,.int .i64 2,.int .i64 a1,.int .i64 a2,.int .i64 a3,.int .i64 a4,.slice ao n ca,.int .i64 tk,.int .i64 b1,.int .i64 b2,.int .i64 b3,.slice bo p cb] 34
 rw [hW0]
 clear hW0
 have c0:=S0.out.1.cell 0
 have c1:=S0.out.1.cell 1
 have c2:=S0.out.1.cell 2
 have c3:=S0.out.1.cell 3
 have c4:=S0.out.1.cell 4
 have c5:=S0.out.1.cell 5
 have c6:=S0.out.1.cell 6
 have c7:=S0.out.1.cell 7
 have c8:=S0.out.1.cell 8
 have c9:=S0.out.1.cell 9
 have c10:=S0.out.1.cell 10
 have c11:=S0.out.1.cell 11
 have c12:=S0.out.1.cell 12
 simp at c0 c1 c2 c3 c4 c5 c6 c7 c8 c9 c10 c11 c12
 go_upto_region 3 with fail
 obtain ⟨W1,hW1,S1⟩:=al1' W0 #[.int .u8 1,.int .u8 c,.int .u8 2] 5
 have SA0:Hid (Acc W0 W1 (.slice (some ⟨W0.heap.size,0,none⟩) 3 3) [1,UInt8.ofNat c.toNat,2] w.heap.size 34 #[.int .i64 1,.int .i64 c,.int .i64 2,.int .i64 a1,.int .i64 a2,.int .i64 a3,.int .i64 a4,.slice ao n ca,.int .i64 tk,.int .i64 b1,.int .i64 b2,.int .i64 b3,.slice bo p cb]):=⟨by rw [<-hW1];exact own_lits W0 _ [1,UInt8.ofNat c.toNat,2] HHD.out (by simp),S1.out.2.1,S0.out.1.grown S1.out.2.1 (by simp)⟩
 rw [hW1]
 clear hW1 S1
 clear c0 c1 c2 c3 c4 c5 c6 c7 c8 c9 c10 c11 c12
 have c0:=SA0.out.blk.cell 0
 have c1:=SA0.out.blk.cell 1
 have c2:=SA0.out.blk.cell 2
 have c3:=SA0.out.blk.cell 3
 have c4:=SA0.out.blk.cell 4
 have c5:=SA0.out.blk.cell 5
 have c6:=SA0.out.blk.cell 6
 have c7:=SA0.out.blk.cell 7
 have c8:=SA0.out.blk.cell 8
 have c9:=SA0.out.blk.cell 9
 have c10:=SA0.out.blk.cell 10
 have c11:=SA0.out.blk.cell 11
 have c12:=SA0.out.blk.cell 12
 simp at c0 c1 c2 c3 c4 c5 c6 c7 c8 c9 c10 c11 c12
 go_wp2_with fail
 refine (dNum a2 a2.toNat Na2.out.1 Na2.out.2 W1).mono ?_
 rintro e z0 ⟨u0,rfl,o0,g0⟩
 have Y0:Hid (Acc W0 z0 (.slice (some ⟨W0.heap.size,0,none⟩) 3 3) [1,UInt8.ofNat c.toNat,2] w.heap.size 34 #[.int .i64 1,.int .i64 c,.int .i64 2,.int .i64 a1,.int .i64 a2,.int .i64 a3,.int .i64 a4,.slice ao n ca,.int .i64 tk,.int .i64 b1,.int .i64 b2,.int .i64 b3,.slice bo p cb]/\Seg z0 u0 (Wire.numForm a2.toNat)):=⟨SA0.out.call g0,o0.seg⟩
 clear o0 g0 c0 c1 c2 c3 c4 c5 c6 c7 c8 c9 c10 c11 c12
 go_wp2_with (at_builtin;refine app_acc z0 rfl _ _ rfl rfl rfl Y0.out.1 (by decide) Y0.out.2 ?c0 ?_)
 case c0=>have q0:=La2.out;simp;omega
 intro x0 W2 hz
 have SA1:Hid (Acc W0 W2 x0 ([1,UInt8.ofNat c.toNat,2] ++ Wire.numForm a2.toNat) w.heap.size 34 #[.int .i64 1,.int .i64 c,.int .i64 2,.int .i64 a1,.int .i64 a2,.int .i64 a3,.int .i64 a4,.slice ao n ca,.int .i64 tk,.int .i64 b1,.int .i64 b2,.int .i64 b3,.slice bo p cb]):=by unfold Hid;simpa only [List.append_assoc,List.cons_append,List.nil_append] using hz
 clear hz Y0
 have c0:=SA1.out.blk.cell 0
 have c1:=SA1.out.blk.cell 1
 have c2:=SA1.out.blk.cell 2
 have c3:=SA1.out.blk.cell 3
 have c4:=SA1.out.blk.cell 4
 have c5:=SA1.out.blk.cell 5
 have c6:=SA1.out.blk.cell 6
 have c7:=SA1.out.blk.cell 7
 have c8:=SA1.out.blk.cell 8
 have c9:=SA1.out.blk.cell 9
 have c10:=SA1.out.blk.cell 10
 have c11:=SA1.out.blk.cell 11
 have c12:=SA1.out.blk.cell 12
 simp at c0 c1 c2 c3 c4 c5 c6 c7 c8 c9 c10 c11 c12
 go_wp2_with fail
 refine (dNum a3 a3.toNat Na3.out.1 Na3.out.2 W2).mono ?_
 rintro e z1 ⟨u1,rfl,o1,g1⟩
 have Y1:Hid (Acc W0 z1 x0 ([1,UInt8.ofNat c.toNat,2] ++ Wire.numForm a2.toNat) w.heap.size 34 #[.int .i64 1,.int .i64 c,.int .i64 2,.int .i64 a1,.int .i64 a2,.int .i64 a3,.int .i64 a4,.slice ao n ca,.int .i64 tk,.int .i64 b1,.int .i64 b2,.int .i64 b3,.slice bo p cb]/\Seg z1 u1 (Wire.numForm a3.toNat)):=⟨SA1.out.call g1,o1.seg⟩
 clear o1 g1 c0 c1 c2 c3 c4 c5 c6 c7 c8 c9 c10 c11 c12
 go_wp2_with (at_builtin;refine app_acc z1 rfl _ _ rfl rfl rfl Y1.out.1 (by decide) Y1.out.2 ?c0 ?_)
 case c0=>have q0:=La2.out;have q1:=La3.out;simp;omega
 intro x1 W3 hz
 have SA2:Hid (Acc W0 W3 x1 (([1,UInt8.ofNat c.toNat,2] ++ Wire.numForm a2.toNat) ++ Wire.numForm a3.toNat) w.heap.size 34 #[.int .i64 1,.int .i64 c,.int .i64 2,.int .i64 a1,.int .i64 a2,.int .i64 a3,.int .i64 a4,.slice ao n ca,.int .i64 tk,.int .i64 b1,.int .i64 b2,.int .i64 b3,.slice bo p cb]):=by unfold Hid;simpa only [List.append_assoc,List.cons_append,List.nil_append] using hz
 clear hz Y1
 have c0:=SA2.out.blk.cell 0
 have c1:=SA2.out.blk.cell 1
 have c2:=SA2.out.blk.cell 2
 have c3:=SA2.out.blk.cell 3
 have c4:=SA2.out.blk.cell 4
 have c5:=SA2.out.blk.cell 5
 have c6:=SA2.out.blk.cell 6
 have c7:=SA2.out.blk.cell 7
 have c8:=SA2.out.blk.cell 8
 have c9:=SA2.out.blk.cell 9
 have c10:=SA2.out.blk.cell 10
 have c11:=SA2.out.blk.cell 11
 have c12:=SA2.out.blk.cell 12
 simp at c0 c1 c2 c3 c4 c5 c6 c7 c8 c9 c10 c11 c12
 go_wp2_with fail
 refine (dNum a4 a4.toNat Na4.out.1 Na4.out.2 W3).mono ?_
 rintro e z2 ⟨u2,rfl,o2,g2⟩
 have Y2:Hid (Acc W0 z2 x1 (([1,UInt8.ofNat c.toNat,2] ++ Wire.numForm a2.toNat) ++ Wire.numForm a3.toNat) w.heap.size 34 #[.int .i64 1,.int .i64 c,.int .i64 2,.int .i64 a1,.int .i64 a2,.int .i64 a3,.int .i64 a4,.slice ao n ca,.int .i64 tk,.int .i64 b1,.int .i64 b2,.int .i64 b3,.slice bo p cb]/\Seg z2 u2 (Wire.numForm a4.toNat)):=⟨SA2.out.call g2,o2.seg⟩
 clear o2 g2 c0 c1 c2 c3 c4 c5 c6 c7 c8 c9 c10 c11 c12
 go_wp2_with (at_builtin;refine app_acc z2 rfl _ _ rfl rfl rfl Y2.out.1 (by decide) Y2.out.2 ?c0 ?_)
 case c0=>have q0:=La2.out;have q1:=La3.out;have q2:=La4.out;simp;omega
 intro x2 W4 hz
 have SA3:Hid (Acc W0 W4 x2 ((([1,UInt8.ofNat c.toNat,2] ++ Wire.numForm a2.toNat) ++ Wire.numForm a3.toNat) ++ Wire.numForm a4.toNat) w.heap.size 34 #[.int .i64 1,.int .i64 c,.int .i64 2,.int .i64 a1,.int .i64 a2,.int .i64 a3,.int .i64 a4,.slice ao n ca,.int .i64 tk,.int .i64 b1,.int .i64 b2,.int .i64 b3,.slice bo p cb]):=by unfold Hid;simpa only [List.append_assoc,List.cons_append,List.nil_append] using hz
 clear hz Y2
 have c0:=SA3.out.blk.cell 0
 have c1:=SA3.out.blk.cell 1
 have c2:=SA3.out.blk.cell 2
 have c3:=SA3.out.blk.cell 3
 have c4:=SA3.out.blk.cell 4
 have c5:=SA3.out.blk.cell 5
 have c6:=SA3.out.blk.cell 6
 have c7:=SA3.out.blk.cell 7
 have c8:=SA3.out.blk.cell 8
 have c9:=SA3.out.blk.cell 9
 have c10:=SA3.out.blk.cell 10
 have c11:=SA3.out.blk.cell 11
 have c12:=SA3.out.blk.cell 12
 simp at c0 c1 c2 c3 c4 c5 c6 c7 c8 c9 c10 c11 c12
 go_wp2_with fail
 refine (form20 (.slice ao n ca) l W4 (HC.out.1.grown (grown_trans S0.out.2.1 SA3.out.grown)) HC.out.2.1).mono ?_
 rintro e z3 ⟨u3,rfl,o3,g3⟩
 have Y3:Hid (Acc W0 z3 x2 ((([1,UInt8.ofNat c.toNat,2] ++ Wire.numForm a2.toNat) ++ Wire.numForm a3.toNat) ++ Wire.numForm a4.toNat) w.heap.size 34 #[.int .i64 1,.int .i64 c,.int .i64 2,.int .i64 a1,.int .i64 a2,.int .i64 a3,.int .i64 a4,.slice ao n ca,.int .i64 tk,.int .i64 b1,.int .i64 b2,.int .i64 b3,.slice bo p cb]/\Seg z3 u3 (callForm l)):=⟨SA3.out.call g3,o3.seg⟩
 clear o3 g3 c0 c1 c2 c3 c4 c5 c6 c7 c8 c9 c10 c11 c12
 go_wp2_with (at_builtin;refine app_acc z3 rfl _ _ rfl rfl rfl Y3.out.1 (by decide) Y3.out.2 ?c0 ?_)
 case c0=>have q0:=La2.out;have q1:=La3.out;have q2:=La4.out;have q9:=HC.out.2.2;simp;omega
 intro x3 W5 hz
 have SA4:Hid (Acc W0 W5 x3 (((([1,UInt8.ofNat c.toNat,2] ++ Wire.numForm a2.toNat) ++ Wire.numForm a3.toNat) ++ Wire.numForm a4.toNat) ++ callForm l) w.heap.size 34 #[.int .i64 1,.int .i64 c,.int .i64 2,.int .i64 a1,.int .i64 a2,.int .i64 a3,.int .i64 a4,.slice ao n ca,.int .i64 tk,.int .i64 b1,.int .i64 b2,.int .i64 b3,.slice bo p cb]):=by unfold Hid;simpa only [List.append_assoc,List.cons_append,List.nil_append] using hz
 clear hz Y3
 go_wp2_with fail
 go_ret
 exact ⟨_,rfl,SA4.out.own.mono S0.out.2.1.size,grown_trans S0.out.2.1 SA4.out.grown⟩
theorem form19_t2 (ao bo:Option Addr)(n ca p cb:Nat)(c a1 a2 a3 a4 b1 b2 b3:Int)(ak:Int)(w:World)(hc:0<=c/\c<8)(hb1:0<=b1/\b1<=9223372036854775807):Calls Tryz.prog 19 #[.agg #[.int .i64 2,.int .i64 c,.int .i64 ak,.int .i64 a1,.int .i64 a2,.int .i64 a3,.int .i64 a4,.slice ao n ca,.int .i64 2,.int .i64 b1,.int .i64 b2,.int .i64 b3,.slice bo p cb]] w (FormIs ([2,UInt8.ofNat c.toNat,2] ++ Wire.numForm b1.toNat) w):=by
 have wc:IntKind.u8.wrap c=c:=by rw [IntKind.wrap_u8];omega
 have HHD:Hid ([Value.int .u8 2,.int .u8 c,.int .u8 2]=BV [2,UInt8.ofNat c.toNat,2]):=by
  unfold Hid BV
  have e2:((UInt8.ofNat c.toNat).toNat:Int)=c:=byte_back hc.1 (by omega)
  simp only [List.map_cons,List.map_nil,e2]
  rfl
 have wb1:IntKind.u64.wrap b1=b1:=by rw [IntKind.wrap_u64];omega
 have Lb1:Hid ((Wire.numForm b1.toNat).length<=10):=num_short _ (by omega)
 have Nb1:Hid (b1=(b1.toNat:Int)/\b1.toNat<2 ^ 64):=⟨by omega,by omega⟩
 clear hc hb1
 go_enter Tryz.func19,Tryz.ntmps19
 go_upto_region 1 with fail
 obtain ⟨W0,hW0,S0⟩:=al1' w #[.int .i64 2,.int .i64 c,.int .i64 ak,.int .i64 a1,.int .i64 a2,.int .i64 a3,.int .i64 a4,.slice ao n ca,.int .i64 2,.int .i64 b1,.int .i64 b2,.int .i64 b3,.slice bo p cb] 34
 rw [hW0]
 clear hW0
 have c0:=S0.out.1.cell 0
 have c1:=S0.out.1.cell 1
 have c2:=S0.out.1.cell 2
 have c3:=S0.out.1.cell 3
 have c4:=S0.out.1.cell 4
 have c5:=S0.out.1.cell 5
 have c6:=S0.out.1.cell 6
 have c7:=S0.out.1.cell 7
 have c8:=S0.out.1.cell 8
 have c9:=S0.out.1.cell 9
 have c10:=S0.out.1.cell 10
 have c11:=S0.out.1.cell 11
 have c12:=S0.out.1.cell 12
 simp at c0 c1 c2 c3 c4 c5 c6 c7 c8 c9 c10 c11 c12
 go_upto_region 13 with fail
 obtain ⟨W1,hW1,S1⟩:=al1' W0 #[.int .u8 2,.int .u8 c,.int .u8 2] 5
 have SA0:Hid (Acc W0 W1 (.slice (some ⟨W0.heap.size,0,none⟩) 3 3) [2,UInt8.ofNat c.toNat,2] w.heap.size 34 #[.int .i64 2,.int .i64 c,.int .i64 ak,.int .i64 a1,.int .i64 a2,.int .i64 a3,.int .i64 a4,.slice ao n ca,.int .i64 2,.int .i64 b1,.int .i64 b2,.int .i64 b3,.slice bo p cb]):=⟨by rw [<-hW1];exact own_lits W0 _ [2,UInt8.ofNat c.toNat,2] HHD.out (by simp),S1.out.2.1,S0.out.1.grown S1.out.2.1 (by simp)⟩
 rw [hW1]
 clear hW1 S1
 clear c0 c1 c2 c3 c4 c5 c6 c7 c8 c9 c10 c11 c12
 have c0:=SA0.out.blk.cell 0
 have c1:=SA0.out.blk.cell 1
 have c2:=SA0.out.blk.cell 2
 have c3:=SA0.out.blk.cell 3
 have c4:=SA0.out.blk.cell 4
 have c5:=SA0.out.blk.cell 5
 have c6:=SA0.out.blk.cell 6
 have c7:=SA0.out.blk.cell 7
 have c8:=SA0.out.blk.cell 8
 have c9:=SA0.out.blk.cell 9
 have c10:=SA0.out.blk.cell 10
 have c11:=SA0.out.blk.cell 11
 have c12:=SA0.out.blk.cell 12
 simp at c0 c1 c2 c3 c4 c5 c6 c7 c8 c9 c10 c11 c12
 go_wp2_with fail
 refine (dNum b1 b1.toNat Nb1.out.1 Nb1.out.2 W1).mono ?_
 rintro e z0 ⟨u0,rfl,o0,g0⟩
 have Y0:Hid (Acc W0 z0 (.slice (some ⟨W0.heap.size,0,none⟩) 3 3) [2,UInt8.ofNat c.toNat,2] w.heap.size 34 #[.int .i64 2,.int .i64 c,.int .i64 ak,.int .i64 a1,.int .i64 a2,.int .i64 a3,.int .i64 a4,.slice ao n ca,.int .i64 2,.int .i64 b1,.int .i64 b2,.int .i64 b3,.slice bo p cb]/\Seg z0 u0 (Wire.numForm b1.toNat)):=⟨SA0.out.call g0,o0.seg⟩
 clear o0 g0 c0 c1 c2 c3 c4 c5 c6 c7 c8 c9 c10 c11 c12
 go_wp2_with (at_builtin;refine app_acc z0 rfl _ _ rfl rfl rfl Y0.out.1 (by decide) Y0.out.2 ?c0 ?_)
 case c0=>have q0:=Lb1.out;simp;omega
 intro x0 W2 hz
 have SA1:Hid (Acc W0 W2 x0 ([2,UInt8.ofNat c.toNat,2] ++ Wire.numForm b1.toNat) w.heap.size 34 #[.int .i64 2,.int .i64 c,.int .i64 ak,.int .i64 a1,.int .i64 a2,.int .i64 a3,.int .i64 a4,.slice ao n ca,.int .i64 2,.int .i64 b1,.int .i64 b2,.int .i64 b3,.slice bo p cb]):=by unfold Hid;simpa only [List.append_assoc,List.cons_append,List.nil_append] using hz
 clear hz Y0
 go_wp2_with fail
 go_ret
 exact ⟨_,rfl,SA1.out.own.mono S0.out.2.1.size,grown_trans S0.out.2.1 SA1.out.grown⟩
theorem form19_t1 (ao bo:Option Addr)(n ca p cb:Nat)(c a1 a2 a3 a4 b1 b2 b3:Int)(ak:Int)(w:World)(hc:0<=c/\c<8)(hb1:0<=b1/\b1<=9223372036854775807)(hb2:0<=b2/\b2<=9223372036854775807):Calls Tryz.prog 19 #[.agg #[.int .i64 2,.int .i64 c,.int .i64 ak,.int .i64 a1,.int .i64 a2,.int .i64 a3,.int .i64 a4,.slice ao n ca,.int .i64 1,.int .i64 b1,.int .i64 b2,.int .i64 b3,.slice bo p cb]] w (FormIs (([2,UInt8.ofNat c.toNat,1] ++ Wire.numForm b1.toNat) ++ Wire.numForm b2.toNat) w):=by
 have wc:IntKind.u8.wrap c=c:=by rw [IntKind.wrap_u8];omega
 have HHD:Hid ([Value.int .u8 2,.int .u8 c,.int .u8 1]=BV [2,UInt8.ofNat c.toNat,1]):=by
  unfold Hid BV
  have e2:((UInt8.ofNat c.toNat).toNat:Int)=c:=byte_back hc.1 (by omega)
  simp only [List.map_cons,List.map_nil,e2]
  rfl
 have wb1:IntKind.u64.wrap b1=b1:=by rw [IntKind.wrap_u64];omega
 have Lb1:Hid ((Wire.numForm b1.toNat).length<=10):=num_short _ (by omega)
 have Nb1:Hid (b1=(b1.toNat:Int)/\b1.toNat<2 ^ 64):=⟨by omega,by omega⟩
 have wb2:IntKind.u64.wrap b2=b2:=by rw [IntKind.wrap_u64];omega
 have Lb2:Hid ((Wire.numForm b2.toNat).length<=10):=num_short _ (by omega)
 have Nb2:Hid (b2=(b2.toNat:Int)/\b2.toNat<2 ^ 64):=⟨by omega,by omega⟩
 clear hc hb1 hb2
 go_enter Tryz.func19,Tryz.ntmps19
 go_upto_region 1 with fail
 obtain ⟨W0,hW0,S0⟩:=al1' w #[.int .i64 2,.int .i64 c,.int .i64 ak,.int .i64 a1,.int .i64 a2,.int .i64 a3,.int .i64 a4,.slice ao n ca,.int .i64 1,.int .i64 b1,.int .i64 b2,.int .i64 b3,.slice bo p cb] 34
 rw [hW0]
 clear hW0
 have c0:=S0.out.1.cell 0
 have c1:=S0.out.1.cell 1
 have c2:=S0.out.1.cell 2
 have c3:=S0.out.1.cell 3
 have c4:=S0.out.1.cell 4
 have c5:=S0.out.1.cell 5
 have c6:=S0.out.1.cell 6
 have c7:=S0.out.1.cell 7
 have c8:=S0.out.1.cell 8
 have c9:=S0.out.1.cell 9
 have c10:=S0.out.1.cell 10
 have c11:=S0.out.1.cell 11
 have c12:=S0.out.1.cell 12
 simp at c0 c1 c2 c3 c4 c5 c6 c7 c8 c9 c10 c11 c12
 go_upto_region 13 with fail
 obtain ⟨W1,hW1,S1⟩:=al1' W0 #[.int .u8 2,.int .u8 c,.int .u8 1] 5
 have SA0:Hid (Acc W0 W1 (.slice (some ⟨W0.heap.size,0,none⟩) 3 3) [2,UInt8.ofNat c.toNat,1] w.heap.size 34 #[.int .i64 2,.int .i64 c,.int .i64 ak,.int .i64 a1,.int .i64 a2,.int .i64 a3,.int .i64 a4,.slice ao n ca,.int .i64 1,.int .i64 b1,.int .i64 b2,.int .i64 b3,.slice bo p cb]):=⟨by rw [<-hW1];exact own_lits W0 _ [2,UInt8.ofNat c.toNat,1] HHD.out (by simp),S1.out.2.1,S0.out.1.grown S1.out.2.1 (by simp)⟩
 rw [hW1]
 clear hW1 S1
 clear c0 c1 c2 c3 c4 c5 c6 c7 c8 c9 c10 c11 c12
 have c0:=SA0.out.blk.cell 0
 have c1:=SA0.out.blk.cell 1
 have c2:=SA0.out.blk.cell 2
 have c3:=SA0.out.blk.cell 3
 have c4:=SA0.out.blk.cell 4
 have c5:=SA0.out.blk.cell 5
 have c6:=SA0.out.blk.cell 6
 have c7:=SA0.out.blk.cell 7
 have c8:=SA0.out.blk.cell 8
 have c9:=SA0.out.blk.cell 9
 have c10:=SA0.out.blk.cell 10
 have c11:=SA0.out.blk.cell 11
 have c12:=SA0.out.blk.cell 12
 simp at c0 c1 c2 c3 c4 c5 c6 c7 c8 c9 c10 c11 c12
 go_wp2_with fail
 refine (dNum b1 b1.toNat Nb1.out.1 Nb1.out.2 W1).mono ?_
 rintro e z0 ⟨u0,rfl,o0,g0⟩
 have Y0:Hid (Acc W0 z0 (.slice (some ⟨W0.heap.size,0,none⟩) 3 3) [2,UInt8.ofNat c.toNat,1] w.heap.size 34 #[.int .i64 2,.int .i64 c,.int .i64 ak,.int .i64 a1,.int .i64 a2,.int .i64 a3,.int .i64 a4,.slice ao n ca,.int .i64 1,.int .i64 b1,.int .i64 b2,.int .i64 b3,.slice bo p cb]/\Seg z0 u0 (Wire.numForm b1.toNat)):=⟨SA0.out.call g0,o0.seg⟩
 clear o0 g0 c0 c1 c2 c3 c4 c5 c6 c7 c8 c9 c10 c11 c12
 go_wp2_with (at_builtin;refine app_acc z0 rfl _ _ rfl rfl rfl Y0.out.1 (by decide) Y0.out.2 ?c0 ?_)
 case c0=>have q0:=Lb1.out;simp;omega
 intro x0 W2 hz
 have SA1:Hid (Acc W0 W2 x0 ([2,UInt8.ofNat c.toNat,1] ++ Wire.numForm b1.toNat) w.heap.size 34 #[.int .i64 2,.int .i64 c,.int .i64 ak,.int .i64 a1,.int .i64 a2,.int .i64 a3,.int .i64 a4,.slice ao n ca,.int .i64 1,.int .i64 b1,.int .i64 b2,.int .i64 b3,.slice bo p cb]):=by unfold Hid;simpa only [List.append_assoc,List.cons_append,List.nil_append] using hz
 clear hz Y0
 have c0:=SA1.out.blk.cell 0
 have c1:=SA1.out.blk.cell 1
 have c2:=SA1.out.blk.cell 2
 have c3:=SA1.out.blk.cell 3
 have c4:=SA1.out.blk.cell 4
 have c5:=SA1.out.blk.cell 5
 have c6:=SA1.out.blk.cell 6
 have c7:=SA1.out.blk.cell 7
 have c8:=SA1.out.blk.cell 8
 have c9:=SA1.out.blk.cell 9
 have c10:=SA1.out.blk.cell 10
 have c11:=SA1.out.blk.cell 11
 have c12:=SA1.out.blk.cell 12
 simp at c0 c1 c2 c3 c4 c5 c6 c7 c8 c9 c10 c11 c12
 go_wp2_with fail
 refine (dNum b2 b2.toNat Nb2.out.1 Nb2.out.2 W2).mono ?_
 rintro e z1 ⟨u1,rfl,o1,g1⟩
 have Y1:Hid (Acc W0 z1 x0 ([2,UInt8.ofNat c.toNat,1] ++ Wire.numForm b1.toNat) w.heap.size 34 #[.int .i64 2,.int .i64 c,.int .i64 ak,.int .i64 a1,.int .i64 a2,.int .i64 a3,.int .i64 a4,.slice ao n ca,.int .i64 1,.int .i64 b1,.int .i64 b2,.int .i64 b3,.slice bo p cb]/\Seg z1 u1 (Wire.numForm b2.toNat)):=⟨SA1.out.call g1,o1.seg⟩
 clear o1 g1 c0 c1 c2 c3 c4 c5 c6 c7 c8 c9 c10 c11 c12
 go_wp2_with (at_builtin;refine app_acc z1 rfl _ _ rfl rfl rfl Y1.out.1 (by decide) Y1.out.2 ?c0 ?_)
 case c0=>have q0:=Lb1.out;have q1:=Lb2.out;simp;omega
 intro x1 W3 hz
 have SA2:Hid (Acc W0 W3 x1 (([2,UInt8.ofNat c.toNat,1] ++ Wire.numForm b1.toNat) ++ Wire.numForm b2.toNat) w.heap.size 34 #[.int .i64 2,.int .i64 c,.int .i64 ak,.int .i64 a1,.int .i64 a2,.int .i64 a3,.int .i64 a4,.slice ao n ca,.int .i64 1,.int .i64 b1,.int .i64 b2,.int .i64 b3,.slice bo p cb]):=by unfold Hid;simpa only [List.append_assoc,List.cons_append,List.nil_append] using hz
 clear hz Y1
 go_wp2_with fail
 go_ret
 exact ⟨_,rfl,SA2.out.own.mono S0.out.2.1.size,grown_trans S0.out.2.1 SA2.out.grown⟩
theorem form19_t7 (ao bo:Option Addr)(n ca p cb:Nat)(c a1 a2 a3 a4 b1 b2 b3:Int)(ak:Int)(w:World)(hc:0<=c/\c<8)(hb2:0<=b2/\b2<=9223372036854775807):Calls Tryz.prog 19 #[.agg #[.int .i64 2,.int .i64 c,.int .i64 ak,.int .i64 a1,.int .i64 a2,.int .i64 a3,.int .i64 a4,.slice ao n ca,.int .i64 7,.int .i64 b1,.int .i64 b2,.int .i64 b3,.slice bo p cb]] w (FormIs ([2,UInt8.ofNat c.toNat,7] ++ Wire.numForm b2.toNat) w):=by
 have wc:IntKind.u8.wrap c=c:=by rw [IntKind.wrap_u8];omega
 have HHD:Hid ([Value.int .u8 2,.int .u8 c,.int .u8 7]=BV [2,UInt8.ofNat c.toNat,7]):=by
  unfold Hid BV
  have e2:((UInt8.ofNat c.toNat).toNat:Int)=c:=byte_back hc.1 (by omega)
  simp only [List.map_cons,List.map_nil,e2]
  rfl
 have wb2:IntKind.u64.wrap b2=b2:=by rw [IntKind.wrap_u64];omega
 have Lb2:Hid ((Wire.numForm b2.toNat).length<=10):=num_short _ (by omega)
 have Nb2:Hid (b2=(b2.toNat:Int)/\b2.toNat<2 ^ 64):=⟨by omega,by omega⟩
 clear hc hb2
 go_enter Tryz.func19,Tryz.ntmps19
 go_upto_region 1 with fail
 obtain ⟨W0,hW0,S0⟩:=al1' w #[.int .i64 2,.int .i64 c,.int .i64 ak,.int .i64 a1,.int .i64 a2,.int .i64 a3,.int .i64 a4,.slice ao n ca,.int .i64 7,.int .i64 b1,.int .i64 b2,.int .i64 b3,.slice bo p cb] 34
 rw [hW0]
 clear hW0
 have c0:=S0.out.1.cell 0
 have c1:=S0.out.1.cell 1
 have c2:=S0.out.1.cell 2
 have c3:=S0.out.1.cell 3
 have c4:=S0.out.1.cell 4
 have c5:=S0.out.1.cell 5
 have c6:=S0.out.1.cell 6
 have c7:=S0.out.1.cell 7
 have c8:=S0.out.1.cell 8
 have c9:=S0.out.1.cell 9
 have c10:=S0.out.1.cell 10
 have c11:=S0.out.1.cell 11
 have c12:=S0.out.1.cell 12
 simp at c0 c1 c2 c3 c4 c5 c6 c7 c8 c9 c10 c11 c12
 go_upto_region 13 with fail
 obtain ⟨W1,hW1,S1⟩:=al1' W0 #[.int .u8 2,.int .u8 c,.int .u8 7] 5
 have SA0:Hid (Acc W0 W1 (.slice (some ⟨W0.heap.size,0,none⟩) 3 3) [2,UInt8.ofNat c.toNat,7] w.heap.size 34 #[.int .i64 2,.int .i64 c,.int .i64 ak,.int .i64 a1,.int .i64 a2,.int .i64 a3,.int .i64 a4,.slice ao n ca,.int .i64 7,.int .i64 b1,.int .i64 b2,.int .i64 b3,.slice bo p cb]):=⟨by rw [<-hW1];exact own_lits W0 _ [2,UInt8.ofNat c.toNat,7] HHD.out (by simp),S1.out.2.1,S0.out.1.grown S1.out.2.1 (by simp)⟩
 rw [hW1]
 clear hW1 S1
 clear c0 c1 c2 c3 c4 c5 c6 c7 c8 c9 c10 c11 c12
 have c0:=SA0.out.blk.cell 0
 have c1:=SA0.out.blk.cell 1
 have c2:=SA0.out.blk.cell 2
 have c3:=SA0.out.blk.cell 3
 have c4:=SA0.out.blk.cell 4
 have c5:=SA0.out.blk.cell 5
 have c6:=SA0.out.blk.cell 6
 have c7:=SA0.out.blk.cell 7
 have c8:=SA0.out.blk.cell 8
 have c9:=SA0.out.blk.cell 9
 have c10:=SA0.out.blk.cell 10
 have c11:=SA0.out.blk.cell 11
 have c12:=SA0.out.blk.cell 12
 simp at c0 c1 c2 c3 c4 c5 c6 c7 c8 c9 c10 c11 c12
 go_wp2_with fail
 refine (dNum b2 b2.toNat Nb2.out.1 Nb2.out.2 W1).mono ?_
 rintro e z0 ⟨u0,rfl,o0,g0⟩
 have Y0:Hid (Acc W0 z0 (.slice (some ⟨W0.heap.size,0,none⟩) 3 3) [2,UInt8.ofNat c.toNat,7] w.heap.size 34 #[.int .i64 2,.int .i64 c,.int .i64 ak,.int .i64 a1,.int .i64 a2,.int .i64 a3,.int .i64 a4,.slice ao n ca,.int .i64 7,.int .i64 b1,.int .i64 b2,.int .i64 b3,.slice bo p cb]/\Seg z0 u0 (Wire.numForm b2.toNat)):=⟨SA0.out.call g0,o0.seg⟩
 clear o0 g0 c0 c1 c2 c3 c4 c5 c6 c7 c8 c9 c10 c11 c12
 go_wp2_with (at_builtin;refine app_acc z0 rfl _ _ rfl rfl rfl Y0.out.1 (by decide) Y0.out.2 ?c0 ?_)
 case c0=>have q0:=Lb2.out;simp;omega
 intro x0 W2 hz
 have SA1:Hid (Acc W0 W2 x0 ([2,UInt8.ofNat c.toNat,7] ++ Wire.numForm b2.toNat) w.heap.size 34 #[.int .i64 2,.int .i64 c,.int .i64 ak,.int .i64 a1,.int .i64 a2,.int .i64 a3,.int .i64 a4,.slice ao n ca,.int .i64 7,.int .i64 b1,.int .i64 b2,.int .i64 b3,.slice bo p cb]):=by unfold Hid;simpa only [List.append_assoc,List.cons_append,List.nil_append] using hz
 clear hz Y0
 have c0:=SA1.out.blk.cell 0
 have c1:=SA1.out.blk.cell 1
 have c2:=SA1.out.blk.cell 2
 have c3:=SA1.out.blk.cell 3
 have c4:=SA1.out.blk.cell 4
 have c5:=SA1.out.blk.cell 5
 have c6:=SA1.out.blk.cell 6
 have c7:=SA1.out.blk.cell 7
 have c8:=SA1.out.blk.cell 8
 have c9:=SA1.out.blk.cell 9
 have c10:=SA1.out.blk.cell 10
 have c11:=SA1.out.blk.cell 11
 have c12:=SA1.out.blk.cell 12
 simp at c0 c1 c2 c3 c4 c5 c6 c7 c8 c9 c10 c11 c12
 go_wp2_with fail
 go_ret
 exact ⟨_,rfl,SA1.out.own.mono S0.out.2.1.size,grown_trans S0.out.2.1 SA1.out.grown⟩
theorem form19_t3 (ao bo:Option Addr)(n ca p cb:Nat)(c a1 a2 a3 a4 b1 b2 b3:Int)(ak:Int)(w:World)(hc:0<=c/\c<8)(hb2:0<=b2/\b2<=9223372036854775807)(hb3:0<=b3/\b3<=9223372036854775807)(an:Bs)(hs:Seg w (.slice bo p cb) an)(hz:an.length<=140737488354304):Calls Tryz.prog 19 #[.agg #[.int .i64 2,.int .i64 c,.int .i64 ak,.int .i64 a1,.int .i64 a2,.int .i64 a3,.int .i64 a4,.slice ao n ca,.int .i64 3,.int .i64 b1,.int .i64 b2,.int .i64 b3,.slice bo p cb]] w (FormIs ((([2,UInt8.ofNat c.toNat,3] ++ Wire.numForm b2.toNat) ++ Wire.numForm b3.toNat) ++ an) w):=by
 have wc:IntKind.u8.wrap c=c:=by rw [IntKind.wrap_u8];omega
 have HHD:Hid ([Value.int .u8 2,.int .u8 c,.int .u8 3]=BV [2,UInt8.ofNat c.toNat,3]):=by
  unfold Hid BV
  have e2:((UInt8.ofNat c.toNat).toNat:Int)=c:=byte_back hc.1 (by omega)
  simp only [List.map_cons,List.map_nil,e2]
  rfl
 have wb2:IntKind.u64.wrap b2=b2:=by rw [IntKind.wrap_u64];omega
 have Lb2:Hid ((Wire.numForm b2.toNat).length<=10):=num_short _ (by omega)
 have Nb2:Hid (b2=(b2.toNat:Int)/\b2.toNat<2 ^ 64):=⟨by omega,by omega⟩
 have wb3:IntKind.u64.wrap b3=b3:=by rw [IntKind.wrap_u64];omega
 have Lb3:Hid ((Wire.numForm b3.toNat).length<=10):=num_short _ (by omega)
 have Nb3:Hid (b3=(b3.toNat:Int)/\b3.toNat<2 ^ 64):=⟨by omega,by omega⟩
 have HC:Hid (Seg w (.slice bo p cb) an/\an.length<=140737488354304):=⟨hs,hz⟩
 clear hs hz
 clear hc hb2 hb3
 go_enter Tryz.func19,Tryz.ntmps19
 go_upto_region 1 with fail
 obtain ⟨W0,hW0,S0⟩:=al1' w #[.int .i64 2,.int .i64 c,.int .i64 ak,.int .i64 a1,.int .i64 a2,.int .i64 a3,.int .i64 a4,.slice ao n ca,.int .i64 3,.int .i64 b1,.int .i64 b2,.int .i64 b3,.slice bo p cb] 34
 rw [hW0]
 clear hW0
 have c0:=S0.out.1.cell 0
 have c1:=S0.out.1.cell 1
 have c2:=S0.out.1.cell 2
 have c3:=S0.out.1.cell 3
 have c4:=S0.out.1.cell 4
 have c5:=S0.out.1.cell 5
 have c6:=S0.out.1.cell 6
 have c7:=S0.out.1.cell 7
 have c8:=S0.out.1.cell 8
 have c9:=S0.out.1.cell 9
 have c10:=S0.out.1.cell 10
 have c11:=S0.out.1.cell 11
 have c12:=S0.out.1.cell 12
 simp at c0 c1 c2 c3 c4 c5 c6 c7 c8 c9 c10 c11 c12
 go_upto_region 13 with fail
 obtain ⟨W1,hW1,S1⟩:=al1' W0 #[.int .u8 2,.int .u8 c,.int .u8 3] 5
 have SA0:Hid (Acc W0 W1 (.slice (some ⟨W0.heap.size,0,none⟩) 3 3) [2,UInt8.ofNat c.toNat,3] w.heap.size 34 #[.int .i64 2,.int .i64 c,.int .i64 ak,.int .i64 a1,.int .i64 a2,.int .i64 a3,.int .i64 a4,.slice ao n ca,.int .i64 3,.int .i64 b1,.int .i64 b2,.int .i64 b3,.slice bo p cb]):=⟨by rw [<-hW1];exact own_lits W0 _ [2,UInt8.ofNat c.toNat,3] HHD.out (by simp),S1.out.2.1,S0.out.1.grown S1.out.2.1 (by simp)⟩
 rw [hW1]
 clear hW1 S1
 clear c0 c1 c2 c3 c4 c5 c6 c7 c8 c9 c10 c11 c12
 have c0:=SA0.out.blk.cell 0
 have c1:=SA0.out.blk.cell 1
 have c2:=SA0.out.blk.cell 2
 have c3:=SA0.out.blk.cell 3
 have c4:=SA0.out.blk.cell 4
 have c5:=SA0.out.blk.cell 5
 have c6:=SA0.out.blk.cell 6
 have c7:=SA0.out.blk.cell 7
 have c8:=SA0.out.blk.cell 8
 have c9:=SA0.out.blk.cell 9
 have c10:=SA0.out.blk.cell 10
 have c11:=SA0.out.blk.cell 11
 have c12:=SA0.out.blk.cell 12
 simp at c0 c1 c2 c3 c4 c5 c6 c7 c8 c9 c10 c11 c12
 go_wp2_with fail
 refine (dNum b2 b2.toNat Nb2.out.1 Nb2.out.2 W1).mono ?_
 rintro e z0 ⟨u0,rfl,o0,g0⟩
 have Y0:Hid (Acc W0 z0 (.slice (some ⟨W0.heap.size,0,none⟩) 3 3) [2,UInt8.ofNat c.toNat,3] w.heap.size 34 #[.int .i64 2,.int .i64 c,.int .i64 ak,.int .i64 a1,.int .i64 a2,.int .i64 a3,.int .i64 a4,.slice ao n ca,.int .i64 3,.int .i64 b1,.int .i64 b2,.int .i64 b3,.slice bo p cb]/\Seg z0 u0 (Wire.numForm b2.toNat)):=⟨SA0.out.call g0,o0.seg⟩
 clear o0 g0 c0 c1 c2 c3 c4 c5 c6 c7 c8 c9 c10 c11 c12
 go_wp2_with (at_builtin;refine app_acc z0 rfl _ _ rfl rfl rfl Y0.out.1 (by decide) Y0.out.2 ?c0 ?_)
 case c0=>have q0:=Lb2.out;simp;omega
 intro x0 W2 hz
 have SA1:Hid (Acc W0 W2 x0 ([2,UInt8.ofNat c.toNat,3] ++ Wire.numForm b2.toNat) w.heap.size 34 #[.int .i64 2,.int .i64 c,.int .i64 ak,.int .i64 a1,.int .i64 a2,.int .i64 a3,.int .i64 a4,.slice ao n ca,.int .i64 3,.int .i64 b1,.int .i64 b2,.int .i64 b3,.slice bo p cb]):=by unfold Hid;simpa only [List.append_assoc,List.cons_append,List.nil_append] using hz
 clear hz Y0
 have c0:=SA1.out.blk.cell 0
 have c1:=SA1.out.blk.cell 1
 have c2:=SA1.out.blk.cell 2
 have c3:=SA1.out.blk.cell 3
 have c4:=SA1.out.blk.cell 4
 have c5:=SA1.out.blk.cell 5
 have c6:=SA1.out.blk.cell 6
 have c7:=SA1.out.blk.cell 7
 have c8:=SA1.out.blk.cell 8
 have c9:=SA1.out.blk.cell 9
 have c10:=SA1.out.blk.cell 10
 have c11:=SA1.out.blk.cell 11
 have c12:=SA1.out.blk.cell 12
 simp at c0 c1 c2 c3 c4 c5 c6 c7 c8 c9 c10 c11 c12
 go_wp2_with fail
 refine (dNum b3 b3.toNat Nb3.out.1 Nb3.out.2 W2).mono ?_
 rintro e z1 ⟨u1,rfl,o1,g1⟩
 have Y1:Hid (Acc W0 z1 x0 ([2,UInt8.ofNat c.toNat,3] ++ Wire.numForm b2.toNat) w.heap.size 34 #[.int .i64 2,.int .i64 c,.int .i64 ak,.int .i64 a1,.int .i64 a2,.int .i64 a3,.int .i64 a4,.slice ao n ca,.int .i64 3,.int .i64 b1,.int .i64 b2,.int .i64 b3,.slice bo p cb]/\Seg z1 u1 (Wire.numForm b3.toNat)):=⟨SA1.out.call g1,o1.seg⟩
 clear o1 g1 c0 c1 c2 c3 c4 c5 c6 c7 c8 c9 c10 c11 c12
 go_wp2_with (at_builtin;refine app_acc z1 rfl _ _ rfl rfl rfl Y1.out.1 (by decide) Y1.out.2 ?c0 ?_)
 case c0=>have q0:=Lb2.out;have q1:=Lb3.out;simp;omega
 intro x1 W3 hz
 have SA2:Hid (Acc W0 W3 x1 (([2,UInt8.ofNat c.toNat,3] ++ Wire.numForm b2.toNat) ++ Wire.numForm b3.toNat) w.heap.size 34 #[.int .i64 2,.int .i64 c,.int .i64 ak,.int .i64 a1,.int .i64 a2,.int .i64 a3,.int .i64 a4,.slice ao n ca,.int .i64 3,.int .i64 b1,.int .i64 b2,.int .i64 b3,.slice bo p cb]):=by unfold Hid;simpa only [List.append_assoc,List.cons_append,List.nil_append] using hz
 clear hz Y1
 have c0:=SA2.out.blk.cell 0
 have c1:=SA2.out.blk.cell 1
 have c2:=SA2.out.blk.cell 2
 have c3:=SA2.out.blk.cell 3
 have c4:=SA2.out.blk.cell 4
 have c5:=SA2.out.blk.cell 5
 have c6:=SA2.out.blk.cell 6
 have c7:=SA2.out.blk.cell 7
 have c8:=SA2.out.blk.cell 8
 have c9:=SA2.out.blk.cell 9
 have c10:=SA2.out.blk.cell 10
 have c11:=SA2.out.blk.cell 11
 have c12:=SA2.out.blk.cell 12
 simp at c0 c1 c2 c3 c4 c5 c6 c7 c8 c9 c10 c11 c12
 have HSG:Hid (Seg W3 (.slice bo p cb) an):=HC.out.1.grown (grown_trans S0.out.2.1 SA2.out.grown)
 go_wp2_with (at_builtin;refine app_acc W3 rfl _ _ rfl rfl rfl SA2.out (by decide) HSG.out ?c0 ?_)
 case c0=>have q0:=Lb2.out;have q1:=Lb3.out;have q9:=HC.out.2;simp;omega
 intro x2 W4 hz
 have SA3:Hid (Acc W0 W4 x2 ((([2,UInt8.ofNat c.toNat,3] ++ Wire.numForm b2.toNat) ++ Wire.numForm b3.toNat) ++ an) w.heap.size 34 #[.int .i64 2,.int .i64 c,.int .i64 ak,.int .i64 a1,.int .i64 a2,.int .i64 a3,.int .i64 a4,.slice ao n ca,.int .i64 3,.int .i64 b1,.int .i64 b2,.int .i64 b3,.slice bo p cb]):=by unfold Hid;simpa only [List.append_assoc,List.cons_append,List.nil_append] using hz
 clear hz c0 c1 c2 c3 c4 c5 c6 c7 c8 c9 c10 c11 c12
 go_wp2_with fail
 go_ret
 exact ⟨_,rfl,SA3.out.own.mono S0.out.2.1.size,grown_trans S0.out.2.1 SA3.out.grown⟩
theorem form19_t4 (ao bo:Option Addr)(n ca p cb:Nat)(c a1 a2 a3 a4 b1 b2 b3:Int)(ak:Int)(w:World)(hc:0<=c/\c<8)(hb2:0<=b2/\b2<=9223372036854775807)(hb3:0<=b3/\b3<=9223372036854775807)(an:Bs)(hs:Seg w (.slice bo p cb) an)(hz:an.length<=140737488354304):Calls Tryz.prog 19 #[.agg #[.int .i64 2,.int .i64 c,.int .i64 ak,.int .i64 a1,.int .i64 a2,.int .i64 a3,.int .i64 a4,.slice ao n ca,.int .i64 4,.int .i64 b1,.int .i64 b2,.int .i64 b3,.slice bo p cb]] w (FormIs ((([2,UInt8.ofNat c.toNat,4] ++ Wire.numForm b2.toNat) ++ Wire.numForm b3.toNat) ++ an) w):=by
 have wc:IntKind.u8.wrap c=c:=by rw [IntKind.wrap_u8];omega
 have HHD:Hid ([Value.int .u8 2,.int .u8 c,.int .u8 4]=BV [2,UInt8.ofNat c.toNat,4]):=by
  unfold Hid BV
  have e2:((UInt8.ofNat c.toNat).toNat:Int)=c:=byte_back hc.1 (by omega)
  simp only [List.map_cons,List.map_nil,e2]
  rfl
 have wb2:IntKind.u64.wrap b2=b2:=by rw [IntKind.wrap_u64];omega
 have Lb2:Hid ((Wire.numForm b2.toNat).length<=10):=num_short _ (by omega)
 have Nb2:Hid (b2=(b2.toNat:Int)/\b2.toNat<2 ^ 64):=⟨by omega,by omega⟩
 have wb3:IntKind.u64.wrap b3=b3:=by rw [IntKind.wrap_u64];omega
 have Lb3:Hid ((Wire.numForm b3.toNat).length<=10):=num_short _ (by omega)
 have Nb3:Hid (b3=(b3.toNat:Int)/\b3.toNat<2 ^ 64):=⟨by omega,by omega⟩
 have HC:Hid (Seg w (.slice bo p cb) an/\an.length<=140737488354304):=⟨hs,hz⟩
 clear hs hz
 clear hc hb2 hb3
 go_enter Tryz.func19,Tryz.ntmps19
 go_upto_region 1 with fail
 obtain ⟨W0,hW0,S0⟩:=al1' w #[.int .i64 2,.int .i64 c,.int .i64 ak,.int .i64 a1,.int .i64 a2,.int .i64 a3,.int .i64 a4,.slice ao n ca,.int .i64 4,.int .i64 b1,.int .i64 b2,.int .i64 b3,.slice bo p cb] 34
 rw [hW0]
 clear hW0
 have c0:=S0.out.1.cell 0
 have c1:=S0.out.1.cell 1
 have c2:=S0.out.1.cell 2
 have c3:=S0.out.1.cell 3
 have c4:=S0.out.1.cell 4
 have c5:=S0.out.1.cell 5
 have c6:=S0.out.1.cell 6
 have c7:=S0.out.1.cell 7
 have c8:=S0.out.1.cell 8
 have c9:=S0.out.1.cell 9
 have c10:=S0.out.1.cell 10
 have c11:=S0.out.1.cell 11
 have c12:=S0.out.1.cell 12
 simp at c0 c1 c2 c3 c4 c5 c6 c7 c8 c9 c10 c11 c12
 go_upto_region 13 with fail
 obtain ⟨W1,hW1,S1⟩:=al1' W0 #[.int .u8 2,.int .u8 c,.int .u8 4] 5
 have SA0:Hid (Acc W0 W1 (.slice (some ⟨W0.heap.size,0,none⟩) 3 3) [2,UInt8.ofNat c.toNat,4] w.heap.size 34 #[.int .i64 2,.int .i64 c,.int .i64 ak,.int .i64 a1,.int .i64 a2,.int .i64 a3,.int .i64 a4,.slice ao n ca,.int .i64 4,.int .i64 b1,.int .i64 b2,.int .i64 b3,.slice bo p cb]):=⟨by rw [<-hW1];exact own_lits W0 _ [2,UInt8.ofNat c.toNat,4] HHD.out (by simp),S1.out.2.1,S0.out.1.grown S1.out.2.1 (by simp)⟩
 rw [hW1]
 clear hW1 S1
 clear c0 c1 c2 c3 c4 c5 c6 c7 c8 c9 c10 c11 c12
 have c0:=SA0.out.blk.cell 0
 have c1:=SA0.out.blk.cell 1
 have c2:=SA0.out.blk.cell 2
 have c3:=SA0.out.blk.cell 3
 have c4:=SA0.out.blk.cell 4
 have c5:=SA0.out.blk.cell 5
 have c6:=SA0.out.blk.cell 6
 have c7:=SA0.out.blk.cell 7
 have c8:=SA0.out.blk.cell 8
 have c9:=SA0.out.blk.cell 9
 have c10:=SA0.out.blk.cell 10
 have c11:=SA0.out.blk.cell 11
 have c12:=SA0.out.blk.cell 12
 simp at c0 c1 c2 c3 c4 c5 c6 c7 c8 c9 c10 c11 c12
 go_wp2_with fail
 refine (dNum b2 b2.toNat Nb2.out.1 Nb2.out.2 W1).mono ?_
 rintro e z0 ⟨u0,rfl,o0,g0⟩
 have Y0:Hid (Acc W0 z0 (.slice (some ⟨W0.heap.size,0,none⟩) 3 3) [2,UInt8.ofNat c.toNat,4] w.heap.size 34 #[.int .i64 2,.int .i64 c,.int .i64 ak,.int .i64 a1,.int .i64 a2,.int .i64 a3,.int .i64 a4,.slice ao n ca,.int .i64 4,.int .i64 b1,.int .i64 b2,.int .i64 b3,.slice bo p cb]/\Seg z0 u0 (Wire.numForm b2.toNat)):=⟨SA0.out.call g0,o0.seg⟩
 clear o0 g0 c0 c1 c2 c3 c4 c5 c6 c7 c8 c9 c10 c11 c12
 go_wp2_with (at_builtin;refine app_acc z0 rfl _ _ rfl rfl rfl Y0.out.1 (by decide) Y0.out.2 ?c0 ?_)
 case c0=>have q0:=Lb2.out;simp;omega
 intro x0 W2 hz
 have SA1:Hid (Acc W0 W2 x0 ([2,UInt8.ofNat c.toNat,4] ++ Wire.numForm b2.toNat) w.heap.size 34 #[.int .i64 2,.int .i64 c,.int .i64 ak,.int .i64 a1,.int .i64 a2,.int .i64 a3,.int .i64 a4,.slice ao n ca,.int .i64 4,.int .i64 b1,.int .i64 b2,.int .i64 b3,.slice bo p cb]):=by unfold Hid;simpa only [List.append_assoc,List.cons_append,List.nil_append] using hz
 clear hz Y0
 have c0:=SA1.out.blk.cell 0
 have c1:=SA1.out.blk.cell 1
 have c2:=SA1.out.blk.cell 2
 have c3:=SA1.out.blk.cell 3
 have c4:=SA1.out.blk.cell 4
 have c5:=SA1.out.blk.cell 5
 have c6:=SA1.out.blk.cell 6
 have c7:=SA1.out.blk.cell 7
 have c8:=SA1.out.blk.cell 8
 have c9:=SA1.out.blk.cell 9
 have c10:=SA1.out.blk.cell 10
 have c11:=SA1.out.blk.cell 11
 have c12:=SA1.out.blk.cell 12
 simp at c0 c1 c2 c3 c4 c5 c6 c7 c8 c9 c10 c11 c12
 go_wp2_with fail
 refine (dNum b3 b3.toNat Nb3.out.1 Nb3.out.2 W2).mono ?_
 rintro e z1 ⟨u1,rfl,o1,g1⟩
 have Y1:Hid (Acc W0 z1 x0 ([2,UInt8.ofNat c.toNat,4] ++ Wire.numForm b2.toNat) w.heap.size 34 #[.int .i64 2,.int .i64 c,.int .i64 ak,.int .i64 a1,.int .i64 a2,.int .i64 a3,.int .i64 a4,.slice ao n ca,.int .i64 4,.int .i64 b1,.int .i64 b2,.int .i64 b3,.slice bo p cb]/\Seg z1 u1 (Wire.numForm b3.toNat)):=⟨SA1.out.call g1,o1.seg⟩
 clear o1 g1 c0 c1 c2 c3 c4 c5 c6 c7 c8 c9 c10 c11 c12
 go_wp2_with (at_builtin;refine app_acc z1 rfl _ _ rfl rfl rfl Y1.out.1 (by decide) Y1.out.2 ?c0 ?_)
 case c0=>have q0:=Lb2.out;have q1:=Lb3.out;simp;omega
 intro x1 W3 hz
 have SA2:Hid (Acc W0 W3 x1 (([2,UInt8.ofNat c.toNat,4] ++ Wire.numForm b2.toNat) ++ Wire.numForm b3.toNat) w.heap.size 34 #[.int .i64 2,.int .i64 c,.int .i64 ak,.int .i64 a1,.int .i64 a2,.int .i64 a3,.int .i64 a4,.slice ao n ca,.int .i64 4,.int .i64 b1,.int .i64 b2,.int .i64 b3,.slice bo p cb]):=by unfold Hid;simpa only [List.append_assoc,List.cons_append,List.nil_append] using hz
 clear hz Y1
 have c0:=SA2.out.blk.cell 0
 have c1:=SA2.out.blk.cell 1
 have c2:=SA2.out.blk.cell 2
 have c3:=SA2.out.blk.cell 3
 have c4:=SA2.out.blk.cell 4
 have c5:=SA2.out.blk.cell 5
 have c6:=SA2.out.blk.cell 6
 have c7:=SA2.out.blk.cell 7
 have c8:=SA2.out.blk.cell 8
 have c9:=SA2.out.blk.cell 9
 have c10:=SA2.out.blk.cell 10
 have c11:=SA2.out.blk.cell 11
 have c12:=SA2.out.blk.cell 12
 simp at c0 c1 c2 c3 c4 c5 c6 c7 c8 c9 c10 c11 c12
 have HSG:Hid (Seg W3 (.slice bo p cb) an):=HC.out.1.grown (grown_trans S0.out.2.1 SA2.out.grown)
 go_wp2_with (at_builtin;refine app_acc W3 rfl _ _ rfl rfl rfl SA2.out (by decide) HSG.out ?c0 ?_)
 case c0=>have q0:=Lb2.out;have q1:=Lb3.out;have q9:=HC.out.2;simp;omega
 intro x2 W4 hz
 have SA3:Hid (Acc W0 W4 x2 ((([2,UInt8.ofNat c.toNat,4] ++ Wire.numForm b2.toNat) ++ Wire.numForm b3.toNat) ++ an) w.heap.size 34 #[.int .i64 2,.int .i64 c,.int .i64 ak,.int .i64 a1,.int .i64 a2,.int .i64 a3,.int .i64 a4,.slice ao n ca,.int .i64 4,.int .i64 b1,.int .i64 b2,.int .i64 b3,.slice bo p cb]):=by unfold Hid;simpa only [List.append_assoc,List.cons_append,List.nil_append] using hz
 clear hz c0 c1 c2 c3 c4 c5 c6 c7 c8 c9 c10 c11 c12
 go_wp2_with fail
 go_ret
 exact ⟨_,rfl,SA3.out.own.mono S0.out.2.1.size,grown_trans S0.out.2.1 SA3.out.grown⟩
theorem form19_t5 (ao bo:Option Addr)(n ca p cb:Nat)(c a1 a2 a3 a4 b1 b2 b3:Int)(ak:Int)(w:World)(hc:0<=c/\c<8)(hb2:0<=b2/\b2<=9223372036854775807)(hb3:0<=b3/\b3<=9223372036854775807)(an:Bs)(hs:Seg w (.slice bo p cb) an)(hz:an.length<=140737488354304):Calls Tryz.prog 19 #[.agg #[.int .i64 2,.int .i64 c,.int .i64 ak,.int .i64 a1,.int .i64 a2,.int .i64 a3,.int .i64 a4,.slice ao n ca,.int .i64 5,.int .i64 b1,.int .i64 b2,.int .i64 b3,.slice bo p cb]] w (FormIs ((([2,UInt8.ofNat c.toNat,5] ++ Wire.numForm b2.toNat) ++ Wire.numForm b3.toNat) ++ an) w):=by
 have wc:IntKind.u8.wrap c=c:=by rw [IntKind.wrap_u8];omega
 have HHD:Hid ([Value.int .u8 2,.int .u8 c,.int .u8 5]=BV [2,UInt8.ofNat c.toNat,5]):=by
  unfold Hid BV
  have e2:((UInt8.ofNat c.toNat).toNat:Int)=c:=byte_back hc.1 (by omega)
  simp only [List.map_cons,List.map_nil,e2]
  rfl
 have wb2:IntKind.u64.wrap b2=b2:=by rw [IntKind.wrap_u64];omega
 have Lb2:Hid ((Wire.numForm b2.toNat).length<=10):=num_short _ (by omega)
 have Nb2:Hid (b2=(b2.toNat:Int)/\b2.toNat<2 ^ 64):=⟨by omega,by omega⟩
 have wb3:IntKind.u64.wrap b3=b3:=by rw [IntKind.wrap_u64];omega
 have Lb3:Hid ((Wire.numForm b3.toNat).length<=10):=num_short _ (by omega)
 have Nb3:Hid (b3=(b3.toNat:Int)/\b3.toNat<2 ^ 64):=⟨by omega,by omega⟩
 have HC:Hid (Seg w (.slice bo p cb) an/\an.length<=140737488354304):=⟨hs,hz⟩
 clear hs hz
 clear hc hb2 hb3
 go_enter Tryz.func19,Tryz.ntmps19
 go_upto_region 1 with fail
 obtain ⟨W0,hW0,S0⟩:=al1' w #[.int .i64 2,.int .i64 c,.int .i64 ak,.int .i64 a1,.int .i64 a2,.int .i64 a3,.int .i64 a4,.slice ao n ca,.int .i64 5,.int .i64 b1,.int .i64 b2,.int .i64 b3,.slice bo p cb] 34
 rw [hW0]
 clear hW0
 have c0:=S0.out.1.cell 0
 have c1:=S0.out.1.cell 1
 have c2:=S0.out.1.cell 2
 have c3:=S0.out.1.cell 3
 have c4:=S0.out.1.cell 4
 have c5:=S0.out.1.cell 5
 have c6:=S0.out.1.cell 6
 have c7:=S0.out.1.cell 7
 have c8:=S0.out.1.cell 8
 have c9:=S0.out.1.cell 9
 have c10:=S0.out.1.cell 10
 have c11:=S0.out.1.cell 11
 have c12:=S0.out.1.cell 12
 simp at c0 c1 c2 c3 c4 c5 c6 c7 c8 c9 c10 c11 c12
 go_upto_region 13 with fail
 obtain ⟨W1,hW1,S1⟩:=al1' W0 #[.int .u8 2,.int .u8 c,.int .u8 5] 5
 have SA0:Hid (Acc W0 W1 (.slice (some ⟨W0.heap.size,0,none⟩) 3 3) [2,UInt8.ofNat c.toNat,5] w.heap.size 34 #[.int .i64 2,.int .i64 c,.int .i64 ak,.int .i64 a1,.int .i64 a2,.int .i64 a3,.int .i64 a4,.slice ao n ca,.int .i64 5,.int .i64 b1,.int .i64 b2,.int .i64 b3,.slice bo p cb]):=⟨by rw [<-hW1];exact own_lits W0 _ [2,UInt8.ofNat c.toNat,5] HHD.out (by simp),S1.out.2.1,S0.out.1.grown S1.out.2.1 (by simp)⟩
 rw [hW1]
 clear hW1 S1
 clear c0 c1 c2 c3 c4 c5 c6 c7 c8 c9 c10 c11 c12
 have c0:=SA0.out.blk.cell 0
 have c1:=SA0.out.blk.cell 1
 have c2:=SA0.out.blk.cell 2
 have c3:=SA0.out.blk.cell 3
 have c4:=SA0.out.blk.cell 4
 have c5:=SA0.out.blk.cell 5
 have c6:=SA0.out.blk.cell 6
 have c7:=SA0.out.blk.cell 7
 have c8:=SA0.out.blk.cell 8
 have c9:=SA0.out.blk.cell 9
 have c10:=SA0.out.blk.cell 10
 have c11:=SA0.out.blk.cell 11
 have c12:=SA0.out.blk.cell 12
 simp at c0 c1 c2 c3 c4 c5 c6 c7 c8 c9 c10 c11 c12
 go_wp2_with fail
 refine (dNum b2 b2.toNat Nb2.out.1 Nb2.out.2 W1).mono ?_
 rintro e z0 ⟨u0,rfl,o0,g0⟩
 have Y0:Hid (Acc W0 z0 (.slice (some ⟨W0.heap.size,0,none⟩) 3 3) [2,UInt8.ofNat c.toNat,5] w.heap.size 34 #[.int .i64 2,.int .i64 c,.int .i64 ak,.int .i64 a1,.int .i64 a2,.int .i64 a3,.int .i64 a4,.slice ao n ca,.int .i64 5,.int .i64 b1,.int .i64 b2,.int .i64 b3,.slice bo p cb]/\Seg z0 u0 (Wire.numForm b2.toNat)):=⟨SA0.out.call g0,o0.seg⟩
 clear o0 g0 c0 c1 c2 c3 c4 c5 c6 c7 c8 c9 c10 c11 c12
 go_wp2_with (at_builtin;refine app_acc z0 rfl _ _ rfl rfl rfl Y0.out.1 (by decide) Y0.out.2 ?c0 ?_)
 case c0=>have q0:=Lb2.out;simp;omega
 intro x0 W2 hz
 have SA1:Hid (Acc W0 W2 x0 ([2,UInt8.ofNat c.toNat,5] ++ Wire.numForm b2.toNat) w.heap.size 34 #[.int .i64 2,.int .i64 c,.int .i64 ak,.int .i64 a1,.int .i64 a2,.int .i64 a3,.int .i64 a4,.slice ao n ca,.int .i64 5,.int .i64 b1,.int .i64 b2,.int .i64 b3,.slice bo p cb]):=by unfold Hid;simpa only [List.append_assoc,List.cons_append,List.nil_append] using hz
 clear hz Y0
 have c0:=SA1.out.blk.cell 0
 have c1:=SA1.out.blk.cell 1
 have c2:=SA1.out.blk.cell 2
 have c3:=SA1.out.blk.cell 3
 have c4:=SA1.out.blk.cell 4
 have c5:=SA1.out.blk.cell 5
 have c6:=SA1.out.blk.cell 6
 have c7:=SA1.out.blk.cell 7
 have c8:=SA1.out.blk.cell 8
 have c9:=SA1.out.blk.cell 9
 have c10:=SA1.out.blk.cell 10
 have c11:=SA1.out.blk.cell 11
 have c12:=SA1.out.blk.cell 12
 simp at c0 c1 c2 c3 c4 c5 c6 c7 c8 c9 c10 c11 c12
 go_wp2_with fail
 refine (dNum b3 b3.toNat Nb3.out.1 Nb3.out.2 W2).mono ?_
 rintro e z1 ⟨u1,rfl,o1,g1⟩
 have Y1:Hid (Acc W0 z1 x0 ([2,UInt8.ofNat c.toNat,5] ++ Wire.numForm b2.toNat) w.heap.size 34 #[.int .i64 2,.int .i64 c,.int .i64 ak,.int .i64 a1,.int .i64 a2,.int .i64 a3,.int .i64 a4,.slice ao n ca,.int .i64 5,.int .i64 b1,.int .i64 b2,.int .i64 b3,.slice bo p cb]/\Seg z1 u1 (Wire.numForm b3.toNat)):=⟨SA1.out.call g1,o1.seg⟩
 clear o1 g1 c0 c1 c2 c3 c4 c5 c6 c7 c8 c9 c10 c11 c12
 go_wp2_with (at_builtin;refine app_acc z1 rfl _ _ rfl rfl rfl Y1.out.1 (by decide) Y1.out.2 ?c0 ?_)
 case c0=>have q0:=Lb2.out;have q1:=Lb3.out;simp;omega
 intro x1 W3 hz
 have SA2:Hid (Acc W0 W3 x1 (([2,UInt8.ofNat c.toNat,5] ++ Wire.numForm b2.toNat) ++ Wire.numForm b3.toNat) w.heap.size 34 #[.int .i64 2,.int .i64 c,.int .i64 ak,.int .i64 a1,.int .i64 a2,.int .i64 a3,.int .i64 a4,.slice ao n ca,.int .i64 5,.int .i64 b1,.int .i64 b2,.int .i64 b3,.slice bo p cb]):=by unfold Hid;simpa only [List.append_assoc,List.cons_append,List.nil_append] using hz
 clear hz Y1
 have c0:=SA2.out.blk.cell 0
 have c1:=SA2.out.blk.cell 1
 have c2:=SA2.out.blk.cell 2
 have c3:=SA2.out.blk.cell 3
 have c4:=SA2.out.blk.cell 4
 have c5:=SA2.out.blk.cell 5
 have c6:=SA2.out.blk.cell 6
 have c7:=SA2.out.blk.cell 7
 have c8:=SA2.out.blk.cell 8
 have c9:=SA2.out.blk.cell 9
 have c10:=SA2.out.blk.cell 10
 have c11:=SA2.out.blk.cell 11
 have c12:=SA2.out.blk.cell 12
 simp at c0 c1 c2 c3 c4 c5 c6 c7 c8 c9 c10 c11 c12
 have HSG:Hid (Seg W3 (.slice bo p cb) an):=HC.out.1.grown (grown_trans S0.out.2.1 SA2.out.grown)
 go_wp2_with (at_builtin;refine app_acc W3 rfl _ _ rfl rfl rfl SA2.out (by decide) HSG.out ?c0 ?_)
 case c0=>have q0:=Lb2.out;have q1:=Lb3.out;have q9:=HC.out.2;simp;omega
 intro x2 W4 hz
 have SA3:Hid (Acc W0 W4 x2 ((([2,UInt8.ofNat c.toNat,5] ++ Wire.numForm b2.toNat) ++ Wire.numForm b3.toNat) ++ an) w.heap.size 34 #[.int .i64 2,.int .i64 c,.int .i64 ak,.int .i64 a1,.int .i64 a2,.int .i64 a3,.int .i64 a4,.slice ao n ca,.int .i64 5,.int .i64 b1,.int .i64 b2,.int .i64 b3,.slice bo p cb]):=by unfold Hid;simpa only [List.append_assoc,List.cons_append,List.nil_append] using hz
 clear hz c0 c1 c2 c3 c4 c5 c6 c7 c8 c9 c10 c11 c12
 go_wp2_with fail
 go_ret
 exact ⟨_,rfl,SA3.out.own.mono S0.out.2.1.size,grown_trans S0.out.2.1 SA3.out.grown⟩
theorem form19_t6 (ao bo:Option Addr)(n ca p cb:Nat)(c a1 a2 a3 a4 b1 b2 b3:Int)(ak:Int)(w:World)(hc:0<=c/\c<8)(hb2:0<=b2/\b2<=9223372036854775807)(hb3:0<=b3/\b3<=9223372036854775807)(an:Bs)(hs:Seg w (.slice bo p cb) an)(hz:an.length<=140737488354304):Calls Tryz.prog 19 #[.agg #[.int .i64 2,.int .i64 c,.int .i64 ak,.int .i64 a1,.int .i64 a2,.int .i64 a3,.int .i64 a4,.slice ao n ca,.int .i64 6,.int .i64 b1,.int .i64 b2,.int .i64 b3,.slice bo p cb]] w (FormIs ((([2,UInt8.ofNat c.toNat,6] ++ Wire.numForm b2.toNat) ++ Wire.numForm b3.toNat) ++ an) w):=by
 have wc:IntKind.u8.wrap c=c:=by rw [IntKind.wrap_u8];omega
 have HHD:Hid ([Value.int .u8 2,.int .u8 c,.int .u8 6]=BV [2,UInt8.ofNat c.toNat,6]):=by
  unfold Hid BV
  have e2:((UInt8.ofNat c.toNat).toNat:Int)=c:=byte_back hc.1 (by omega)
  simp only [List.map_cons,List.map_nil,e2]
  rfl
 have wb2:IntKind.u64.wrap b2=b2:=by rw [IntKind.wrap_u64];omega
 have Lb2:Hid ((Wire.numForm b2.toNat).length<=10):=num_short _ (by omega)
 have Nb2:Hid (b2=(b2.toNat:Int)/\b2.toNat<2 ^ 64):=⟨by omega,by omega⟩
 have wb3:IntKind.u64.wrap b3=b3:=by rw [IntKind.wrap_u64];omega
 have Lb3:Hid ((Wire.numForm b3.toNat).length<=10):=num_short _ (by omega)
 have Nb3:Hid (b3=(b3.toNat:Int)/\b3.toNat<2 ^ 64):=⟨by omega,by omega⟩
 have HC:Hid (Seg w (.slice bo p cb) an/\an.length<=140737488354304):=⟨hs,hz⟩
 clear hs hz
 clear hc hb2 hb3
 go_enter Tryz.func19,Tryz.ntmps19
 go_upto_region 1 with fail
 obtain ⟨W0,hW0,S0⟩:=al1' w #[.int .i64 2,.int .i64 c,.int .i64 ak,.int .i64 a1,.int .i64 a2,.int .i64 a3,.int .i64 a4,.slice ao n ca,.int .i64 6,.int .i64 b1,.int .i64 b2,.int .i64 b3,.slice bo p cb] 34
 rw [hW0]
 clear hW0
 have c0:=S0.out.1.cell 0
 have c1:=S0.out.1.cell 1
 have c2:=S0.out.1.cell 2
 have c3:=S0.out.1.cell 3
 have c4:=S0.out.1.cell 4
 have c5:=S0.out.1.cell 5
 have c6:=S0.out.1.cell 6
 have c7:=S0.out.1.cell 7
 have c8:=S0.out.1.cell 8
 have c9:=S0.out.1.cell 9
 have c10:=S0.out.1.cell 10
 have c11:=S0.out.1.cell 11
 have c12:=S0.out.1.cell 12
 simp at c0 c1 c2 c3 c4 c5 c6 c7 c8 c9 c10 c11 c12
 go_upto_region 13 with fail
 obtain ⟨W1,hW1,S1⟩:=al1' W0 #[.int .u8 2,.int .u8 c,.int .u8 6] 5
 have SA0:Hid (Acc W0 W1 (.slice (some ⟨W0.heap.size,0,none⟩) 3 3) [2,UInt8.ofNat c.toNat,6] w.heap.size 34 #[.int .i64 2,.int .i64 c,.int .i64 ak,.int .i64 a1,.int .i64 a2,.int .i64 a3,.int .i64 a4,.slice ao n ca,.int .i64 6,.int .i64 b1,.int .i64 b2,.int .i64 b3,.slice bo p cb]):=⟨by rw [<-hW1];exact own_lits W0 _ [2,UInt8.ofNat c.toNat,6] HHD.out (by simp),S1.out.2.1,S0.out.1.grown S1.out.2.1 (by simp)⟩
 rw [hW1]
 clear hW1 S1
 clear c0 c1 c2 c3 c4 c5 c6 c7 c8 c9 c10 c11 c12
 have c0:=SA0.out.blk.cell 0
 have c1:=SA0.out.blk.cell 1
 have c2:=SA0.out.blk.cell 2
 have c3:=SA0.out.blk.cell 3
 have c4:=SA0.out.blk.cell 4
 have c5:=SA0.out.blk.cell 5
 have c6:=SA0.out.blk.cell 6
 have c7:=SA0.out.blk.cell 7
 have c8:=SA0.out.blk.cell 8
 have c9:=SA0.out.blk.cell 9
 have c10:=SA0.out.blk.cell 10
 have c11:=SA0.out.blk.cell 11
 have c12:=SA0.out.blk.cell 12
 simp at c0 c1 c2 c3 c4 c5 c6 c7 c8 c9 c10 c11 c12
 go_wp2_with fail
 refine (dNum b2 b2.toNat Nb2.out.1 Nb2.out.2 W1).mono ?_
 rintro e z0 ⟨u0,rfl,o0,g0⟩
 have Y0:Hid (Acc W0 z0 (.slice (some ⟨W0.heap.size,0,none⟩) 3 3) [2,UInt8.ofNat c.toNat,6] w.heap.size 34 #[.int .i64 2,.int .i64 c,.int .i64 ak,.int .i64 a1,.int .i64 a2,.int .i64 a3,.int .i64 a4,.slice ao n ca,.int .i64 6,.int .i64 b1,.int .i64 b2,.int .i64 b3,.slice bo p cb]/\Seg z0 u0 (Wire.numForm b2.toNat)):=⟨SA0.out.call g0,o0.seg⟩
 clear o0 g0 c0 c1 c2 c3 c4 c5 c6 c7 c8 c9 c10 c11 c12
 go_wp2_with (at_builtin;refine app_acc z0 rfl _ _ rfl rfl rfl Y0.out.1 (by decide) Y0.out.2 ?c0 ?_)
 case c0=>have q0:=Lb2.out;simp;omega
 intro x0 W2 hz
 have SA1:Hid (Acc W0 W2 x0 ([2,UInt8.ofNat c.toNat,6] ++ Wire.numForm b2.toNat) w.heap.size 34 #[.int .i64 2,.int .i64 c,.int .i64 ak,.int .i64 a1,.int .i64 a2,.int .i64 a3,.int .i64 a4,.slice ao n ca,.int .i64 6,.int .i64 b1,.int .i64 b2,.int .i64 b3,.slice bo p cb]):=by unfold Hid;simpa only [List.append_assoc,List.cons_append,List.nil_append] using hz
 clear hz Y0
 have c0:=SA1.out.blk.cell 0
 have c1:=SA1.out.blk.cell 1
 have c2:=SA1.out.blk.cell 2
 have c3:=SA1.out.blk.cell 3
 have c4:=SA1.out.blk.cell 4
 have c5:=SA1.out.blk.cell 5
 have c6:=SA1.out.blk.cell 6
 have c7:=SA1.out.blk.cell 7
 have c8:=SA1.out.blk.cell 8
 have c9:=SA1.out.blk.cell 9
 have c10:=SA1.out.blk.cell 10
 have c11:=SA1.out.blk.cell 11
 have c12:=SA1.out.blk.cell 12
 simp at c0 c1 c2 c3 c4 c5 c6 c7 c8 c9 c10 c11 c12
 go_wp2_with fail
 refine (dNum b3 b3.toNat Nb3.out.1 Nb3.out.2 W2).mono ?_
 rintro e z1 ⟨u1,rfl,o1,g1⟩
 have Y1:Hid (Acc W0 z1 x0 ([2,UInt8.ofNat c.toNat,6] ++ Wire.numForm b2.toNat) w.heap.size 34 #[.int .i64 2,.int .i64 c,.int .i64 ak,.int .i64 a1,.int .i64 a2,.int .i64 a3,.int .i64 a4,.slice ao n ca,.int .i64 6,.int .i64 b1,.int .i64 b2,.int .i64 b3,.slice bo p cb]/\Seg z1 u1 (Wire.numForm b3.toNat)):=⟨SA1.out.call g1,o1.seg⟩
 clear o1 g1 c0 c1 c2 c3 c4 c5 c6 c7 c8 c9 c10 c11 c12
 go_wp2_with (at_builtin;refine app_acc z1 rfl _ _ rfl rfl rfl Y1.out.1 (by decide) Y1.out.2 ?c0 ?_)
 case c0=>have q0:=Lb2.out;have q1:=Lb3.out;simp;omega
 intro x1 W3 hz
 have SA2:Hid (Acc W0 W3 x1 (([2,UInt8.ofNat c.toNat,6] ++ Wire.numForm b2.toNat) ++ Wire.numForm b3.toNat) w.heap.size 34 #[.int .i64 2,.int .i64 c,.int .i64 ak,.int .i64 a1,.int .i64 a2,.int .i64 a3,.int .i64 a4,.slice ao n ca,.int .i64 6,.int .i64 b1,.int .i64 b2,.int .i64 b3,.slice bo p cb]):=by unfold Hid;simpa only [List.append_assoc,List.cons_append,List.nil_append] using hz
 clear hz Y1
 have c0:=SA2.out.blk.cell 0
 have c1:=SA2.out.blk.cell 1
 have c2:=SA2.out.blk.cell 2
 have c3:=SA2.out.blk.cell 3
 have c4:=SA2.out.blk.cell 4
 have c5:=SA2.out.blk.cell 5
 have c6:=SA2.out.blk.cell 6
 have c7:=SA2.out.blk.cell 7
 have c8:=SA2.out.blk.cell 8
 have c9:=SA2.out.blk.cell 9
 have c10:=SA2.out.blk.cell 10
 have c11:=SA2.out.blk.cell 11
 have c12:=SA2.out.blk.cell 12
 simp at c0 c1 c2 c3 c4 c5 c6 c7 c8 c9 c10 c11 c12
 have HSG:Hid (Seg W3 (.slice bo p cb) an):=HC.out.1.grown (grown_trans S0.out.2.1 SA2.out.grown)
 go_wp2_with (at_builtin;refine app_acc W3 rfl _ _ rfl rfl rfl SA2.out (by decide) HSG.out ?c0 ?_)
 case c0=>have q0:=Lb2.out;have q1:=Lb3.out;have q9:=HC.out.2;simp;omega
 intro x2 W4 hz
 have SA3:Hid (Acc W0 W4 x2 ((([2,UInt8.ofNat c.toNat,6] ++ Wire.numForm b2.toNat) ++ Wire.numForm b3.toNat) ++ an) w.heap.size 34 #[.int .i64 2,.int .i64 c,.int .i64 ak,.int .i64 a1,.int .i64 a2,.int .i64 a3,.int .i64 a4,.slice ao n ca,.int .i64 6,.int .i64 b1,.int .i64 b2,.int .i64 b3,.slice bo p cb]):=by unfold Hid;simpa only [List.append_assoc,List.cons_append,List.nil_append] using hz
 clear hz c0 c1 c2 c3 c4 c5 c6 c7 c8 c9 c10 c11 c12
 go_wp2_with fail
 go_ret
 exact ⟨_,rfl,SA3.out.own.mono S0.out.2.1.size,grown_trans S0.out.2.1 SA3.out.grown⟩
theorem form19 (ov av:Value)(m:PMsg)(w:World)(ho:Ops w ov m.ask.ops)(ha:Seg w av m.tell.answer)(hz:m.tell.answer.length<=140737488354304)(hi:InM m)(hok:okM m=true):Calls Tryz.prog 19 #[msgV ov av m] w (FormIs (formM m) w):=by
 obtain ⟨ao,n,ca,rfl⟩:=isSl_ops ho
 obtain ⟨bo,p,cb,rfl⟩:=isSl_seg ha
 unfold okM at hok
 simp only [Bool.and_eq_true,decide_eq_true_eq] at hok
 obtain ⟨hc,hok⟩:=hok
 by_cases k1:m.kind=1
 ·rw [if_pos k1] at hok
  simp only [Bool.and_eq_true,decide_eq_true_eq] at hok
  obtain ⟨⟨h4,hC⟩,hR⟩:=hok
  obtain ⟨k,c,⟨ak,a1,a2,a3,a4,l⟩,tl⟩:=m
  obtain ⟨_,_,_,_,⟨_,_,i1,i2,i3,i4,i5,i6,i7,i8⟩,_⟩:=hi
  dsimp only at *
  subst k1 hR
  unfold msgV zeroR
  dsimp only
  rw [okC_iff] at hC
  dsimp only at hC
  rcases hC with ⟨rfl,h1,rfl,rfl,rfl,rfl⟩ | ⟨rfl,rfl,h1,h2,h3,h5,h6⟩ | ⟨hk,rfl,h1,rfl,rfl,rfl⟩
  ·have e:formM ⟨1,c,⟨1,a1,0,0,0,[]⟩,⟨0,0,0,0,[]⟩⟩=([1,UInt8.ofNat c.toNat,1] ++ Wire.numForm a1.toNat):=by simp [formM,headM,numsM,lastM,fld,fldA,val,saidM,callsB,answersB]
   rw [e]
   exact form19_a1 ao bo n ca p cb c a1 0 0 0 0 0 0 0 w hc ⟨by omega,i2⟩
  ·have hch:=chk0 h6
   have e:formM ⟨1,c,⟨2,0,a2,a3,a4,l⟩,⟨0,0,0,0,[]⟩⟩=(((([1,UInt8.ofNat c.toNat,2] ++ Wire.numForm a2.toNat) ++ Wire.numForm a3.toNat) ++ Wire.numForm a4.toNat) ++ callForm l):=by simp [formM,headM,numsM,lastM,fld,fldA,val,saidM,callsB]
   rw [e]
   exact form19_a2 ao bo n ca p cb c 0 a2 a3 a4 0 0 0 0 w hc ⟨by omega,i4⟩ ⟨by omega,i6⟩ ⟨by omega,i8⟩ l ho hch.1 hch.2
  ·obtain rfl:ak=3:=by omega
   have e:formM ⟨1,c,⟨3,0,a2,0,0,[]⟩,⟨0,0,0,0,[]⟩⟩=([1,UInt8.ofNat c.toNat,3] ++ Wire.numForm a2.toNat):=by simp [formM,headM,numsM,lastM,fld,fldA,val,saidM,callsB,answersB]
   rw [e]
   exact form19_a3 ao bo n ca p cb c 0 a2 0 0 0 0 0 0 w hc ⟨by omega,i4⟩
 ·rw [if_neg k1] at hok
  simp only [Bool.and_eq_true,decide_eq_true_eq] at hok
  obtain ⟨⟨k2,hr⟩,hA⟩:=hok
  obtain ⟨k,c,ak,⟨tk',b1,b2,b3,an⟩⟩:=m
  obtain ⟨_,_,_,_,_,⟨_,_,j1,j2,j3,j4,j5,j6⟩⟩:=hi
  dsimp only at *
  subst k2 hA
  unfold msgV
  dsimp only [zeroC]
  change Calls Tryz.prog 19 _ w (FormIs (formM ⟨2,c,zeroC,⟨tk',b1,b2,b3,an⟩⟩) w)
  by_cases t2:tk'=2
  ·subst t2
   simp [okR] at hr
   have e:formM ⟨2,c,zeroC,⟨2,b1,b2,b3,an⟩⟩=([2,UInt8.ofNat c.toNat,2] ++ Wire.numForm b1.toNat):=by simp [formM,headM,numsM,lastM,fld,fldT,val,saidM,callsB,answersB,hr]
   rw [e]
   exact form19_t2 ao bo n ca p cb c 0 0 0 0 b1 b2 b3 0 w hc ⟨by omega,j2⟩
  by_cases t1:tk'=1
  ·subst t1
   simp [okR] at hr
   have e:formM ⟨2,c,zeroC,⟨1,b1,b2,b3,an⟩⟩=(([2,UInt8.ofNat c.toNat,1] ++ Wire.numForm b1.toNat) ++ Wire.numForm b2.toNat):=by simp [formM,headM,numsM,lastM,fld,fldT,val,saidM,callsB,answersB,hr]
   rw [e]
   exact form19_t1 ao bo n ca p cb c 0 0 0 0 b1 b2 b3 0 w hc ⟨by omega,j2⟩ ⟨by omega,j4⟩
  by_cases t7:tk'=7
  ·subst t7
   simp [okR] at hr
   have e:formM ⟨2,c,zeroC,⟨7,b1,b2,b3,an⟩⟩=([2,UInt8.ofNat c.toNat,7] ++ Wire.numForm b2.toNat):=by simp [formM,headM,numsM,lastM,fld,fldT,val,saidM,callsB,answersB,hr]
   rw [e]
   exact form19_t7 ao bo n ca p cb c 0 0 0 0 b1 b2 b3 0 w hc ⟨by omega,j4⟩
  by_cases t3:tk'=3
  ·subst t3
   simp [okR] at hr
   have e:formM ⟨2,c,zeroC,⟨3,b1,b2,b3,an⟩⟩=((([2,UInt8.ofNat c.toNat,3] ++ Wire.numForm b2.toNat) ++ Wire.numForm b3.toNat) ++ an):=by simp [formM,headM,numsM,lastM,fld,fldT,val,saidM,callsB,answersB]
   rw [e]
   exact form19_t3 ao bo n ca p cb c 0 0 0 0 b1 b2 b3 0 w hc ⟨by omega,j4⟩ ⟨by omega,j6⟩ an ha hz
  by_cases t4:tk'=4
  ·subst t4
   simp [okR] at hr
   have e:formM ⟨2,c,zeroC,⟨4,b1,b2,b3,an⟩⟩=((([2,UInt8.ofNat c.toNat,4] ++ Wire.numForm b2.toNat) ++ Wire.numForm b3.toNat) ++ an):=by simp [formM,headM,numsM,lastM,fld,fldT,val,saidM,callsB,answersB,hr]
   rw [e]
   exact form19_t4 ao bo n ca p cb c 0 0 0 0 b1 b2 b3 0 w hc ⟨by omega,j4⟩ ⟨by omega,j6⟩ an ha hz
  by_cases t5:tk'=5
  ·subst t5
   simp [okR] at hr
   have e:formM ⟨2,c,zeroC,⟨5,b1,b2,b3,an⟩⟩=((([2,UInt8.ofNat c.toNat,5] ++ Wire.numForm b2.toNat) ++ Wire.numForm b3.toNat) ++ an):=by simp [formM,headM,numsM,lastM,fld,fldT,val,saidM,callsB,answersB,hr]
   rw [e]
   exact form19_t5 ao bo n ca p cb c 0 0 0 0 b1 b2 b3 0 w hc ⟨by omega,j4⟩ ⟨by omega,j6⟩ an ha hz
  by_cases t6:tk'=6
  ·subst t6
   simp [okR] at hr
   have e:formM ⟨2,c,zeroC,⟨6,b1,b2,b3,an⟩⟩=((([2,UInt8.ofNat c.toNat,6] ++ Wire.numForm b2.toNat) ++ Wire.numForm b3.toNat) ++ an):=by simp [formM,headM,numsM,lastM,fld,fldT,val,saidM,callsB,answersB,hr]
   rw [e]
   exact form19_t6 ao bo n ca p cb c 0 0 0 0 b1 b2 b3 0 w hc ⟨by omega,j4⟩ ⟨by omega,j6⟩ an ha hz
  simp [okR,t1,t2,t3,t4,t5,t6,t7] at hr
theorem copy6 (ov av:Value)(m:PMsg)(w:World)(ho:Ops w ov m.ask.ops)(ha:Seg w av m.tell.answer)(hf:Fit m.ask.ops)(hz:m.tell.answer.length<=140737488355328):Calls Tryz.prog 6 #[msgV ov av m] w fun e w'=>∃u v,e=.returned (msgV u v m)/\OpsOwn w' w.heap.size u m.ask.ops/\Own w' w.heap.size v m.tell.answer/\w.grownBy w' none:=by
 obtain ⟨ao,n,ca,rfl⟩:=isSl_ops ho
 obtain ⟨bo,p,cb,rfl⟩:=isSl_seg ha
 have HS:Hid (Ops w (.slice ao n ca) m.ask.ops/\Seg w (.slice bo p cb) m.tell.answer/\m.tell.answer.length<=140737488355328/\Fit m.ask.ops):=⟨ho,ha,hz,hf⟩
 clear ho ha hz hf
 unfold msgV
 go_enter Tryz.func6,Tryz.ntmps6
 go_upto_region 1 with fail
 obtain ⟨W,hW,HW⟩:=al2' w #[.int .i64 m.kind,.int .i64 m.client,.int .i64 m.ask.kind,.int .i64 m.ask.token,.int .i64 m.ask.session,.int .i64 m.ask.number,.int .i64 m.ask.mark,.slice ao n ca,.int .i64 m.tell.kind,.int .i64 m.tell.token,.int .i64 m.tell.session,.int .i64 m.tell.number,.slice bo p cb] #[.int .i64 0,.int .i64 0,.int .i64 0,.int .i64 0,.int .i64 0,.int .i64 0,.int .i64 0,.slice none 0 0,.int .i64 0,.int .i64 0,.int .i64 0,.int .i64 0,.slice none 0 0] 34 34
 rw [hW]
 clear hW
 have HM:Hid (MB W w.heap.size (.slice ao n ca) (.slice bo p cb) m/\Room W (w.heap.size+1)/\w.grownBy W none):=⟨HW.out.1,room_lit HW.out.2.1,HW.out.2.2.1⟩
 clear HW
 obtain ⟨c0,c1,c2,c3,c4,c5,c6,c7,c8,c9,c10,c11,c12⟩:=HM.out.1.cells
 go_wp2_with fail
 refine (copy8 (.slice ao n ca) m.ask W (HS.out.1.grown HM.out.2.2) HS.out.2.2.2).mono ?_
 rintro e w1 ⟨u,rfl,hu,hg⟩
 obtain ⟨uo,un,uc,rfl,hun⟩:=hu.slice
 have H1:Hid (MB w1 w.heap.size (.slice ao n ca) (.slice bo p cb) m/\Room w1 (w.heap.size+1)/\w.grownBy w1 none/\OpsOwn w1 W.heap.size (.slice uo un uc) m.ask.ops):=⟨HM.out.1.grown hg,HM.out.2.1.grown hg,grown_trans HM.out.2.2 hg,hu⟩
 have HWS:Hid (w.heap.size<=W.heap.size):=HM.out.2.2.size
 clear hu hg HM hun c0 c1 c2 c3 c4 c5 c6 c7 c8 c9 c10 c11 c12
 unfold cmdV
 obtain ⟨c0,c1,c2,c3,c4,c5,c6,c7,c8,c9,c10,c11,c12⟩:=H1.out.1.cells
 have f2:=H1.out.1.free 2
 have f3:=H1.out.1.free 3
 have f4:=H1.out.1.free 4
 have f5:=H1.out.1.free 5
 have f6:=H1.out.1.free 6
 have f7:=H1.out.1.free 7
 go_upto_region 2 with fail
 have hch:∃W2,(((((w1.setCell ⟨w.heap.size,2,none⟩ (.int .i64 m.ask.kind)).setCell ⟨w.heap.size,3,none⟩ (.int .i64 m.ask.token)).setCell ⟨w.heap.size,4,none⟩ (.int .i64 m.ask.session)).setCell ⟨w.heap.size,5,none⟩ (.int .i64 m.ask.number)).setCell ⟨w.heap.size,6,none⟩ (.int .i64 m.ask.mark)).setCell ⟨w.heap.size,7,none⟩ (.slice uo un uc)=W2/\Hid (MB W2 w.heap.size (.slice uo un uc) (.slice bo p cb) m/\w1.grownBy W2 (some w.heap.size)):=by
  have b0:=Blk.store H1.out.1 2 (.int .i64 m.ask.kind)
  have b1:=Blk.store b0 3 (.int .i64 m.ask.token)
  have b2:=Blk.store b1 4 (.int .i64 m.ask.session)
  have b3:=Blk.store b2 5 (.int .i64 m.ask.number)
  have b4:=Blk.store b3 6 (.int .i64 m.ask.mark)
  have b5:=Blk.store b4 7 (.slice uo un uc)
  exact ⟨_,rfl,b5,grown_trans (grown_trans (grown_trans (grown_trans (grown_trans (grown_setCell _ _ _ _) (grown_setCell _ _ _ _)) (grown_setCell _ _ _ _)) (grown_setCell _ _ _ _)) (grown_setCell _ _ _ _)) (grown_setCell _ _ _ _)⟩
 obtain ⟨W2,hW2,HW2⟩:=hch
 rw [hW2]
 clear hW2 f2 f3 f4 f5 f6 f7 c0 c1 c2 c3 c4 c5 c6 c7 c8 c9 c10 c11 c12
 have H2:Hid (MB W2 w.heap.size (.slice uo un uc) (.slice bo p cb) m/\Room W2 (w.heap.size+1)/\w.grownBy W2 none/\OpsOwn W2 w.heap.size (.slice uo un uc) m.ask.ops):=⟨HW2.out.1,H1.out.2.1.but HW2.out.2 (by omega),grown_new H1.out.2.2.1 HW2.out.2 (by intro x hx;simp at hx;omega),(H1.out.2.2.2.set H1.out.1 (by decide) (by decide) HW2.out.2).mono HWS.out⟩
 clear H1 HW2
 obtain ⟨c0,c1,c2,c3,c4,c5,c6,c7,c8,c9,c10,c11,c12⟩:=H2.out.1.cells
 have HSG:Hid (Seg W2 (.slice bo p cb) m.tell.answer):=HS.out.2.1.grown H2.out.2.2.1
 have f12:=H2.out.1.free 12
 go_wp2_with (at_builtin;refine app22 W2 rfl _ _ rfl W2.heap.size _ [] _ m.tell.answer rfl rfl (Own.nil _ _) HSG.out ?c0 (Nat.le_refl _) ?_)
 case c0=>have:=HS.out.2.2.1;simp;omega
 intro v3 w3 hv hg _
 try rw [List.nil_append] at hv
 obtain ⟨vo,vn,vc,hvs⟩:=isSl_on hv
 subst hvs
 have hg3:W2.grownBy w3 none:=hg
 have H3:Hid (MB w3 w.heap.size (.slice uo un uc) (.slice bo p cb) m/\Room w3 (w.heap.size+1)/\w.grownBy w3 none/\OpsOwn w3 w.heap.size (.slice uo un uc) m.ask.ops/\Own w3 w.heap.size (.slice vo vn vc) m.tell.answer):=⟨H2.out.1.grown hg3,H2.out.2.1.grown hg3,grown_trans H2.out.2.2.1 hg3,H2.out.2.2.2.grown hg3,hv.mono H2.out.2.2.1.size⟩
 clear hv hg hg3 H2 HSG f12 c0 c1 c2 c3 c4 c5 c6 c7 c8 c9 c10 c11 c12
 have c12:=H3.out.1.cells.2.2.2.2.2.2.2.2.2.2.2.2
 have f12:=H3.out.1.free 12
 go_upto_region 3 with fail
 have H4:Hid (MB (w3.setCell ⟨w.heap.size,12,none⟩ (.slice vo vn vc)) w.heap.size (.slice uo un uc) (.slice vo vn vc) m/\Room (w3.setCell ⟨w.heap.size,12,none⟩ (.slice vo vn vc)) (w.heap.size+1)/\w.grownBy (w3.setCell ⟨w.heap.size,12,none⟩ (.slice vo vn vc)) none/\OpsOwn (w3.setCell ⟨w.heap.size,12,none⟩ (.slice vo vn vc)) w.heap.size (.slice uo un uc) m.ask.ops/\Own (w3.setCell ⟨w.heap.size,12,none⟩ (.slice vo vn vc)) w.heap.size (.slice vo vn vc) m.tell.answer):=by
  have s:=grown_setCell w3 w.heap.size 12 (.slice vo vn vc)
  exact ⟨Blk.store H3.out.1 12 _,H3.out.2.1.but s (by omega),grown_new H3.out.2.2.1 s (by intro x hx;simp at hx;omega),H3.out.2.2.2.1.set H3.out.1 (by decide) (by decide) s,own_set H3.out.2.2.2.2 H3.out.1 (by decide) s⟩
 generalize w3.setCell ⟨w.heap.size,12,none⟩ (.slice vo vn vc)=w4 at H4 ⊢
 clear H3 c12 f12
 obtain ⟨c0,c1,c2,c3,c4,c5,c6,c7,c8,c9,c10,c11,c12⟩:=H4.out.1.cells
 obtain ⟨r0,r1,r2,r3,r4,r5,r6,r7,r8,r9,r10,r11,r12,u0,u1,u2,u3,u4,u5,u6,u7,u8,u9,u10,u11,u12⟩:=H4.out.2.1.cells
 obtain ⟨z0,z1,z2,z3,z4,z5,z6,z7,z8,z9,z10,z11,z12⟩:=H4.out.2.1.frees
 go_wp2_with fail
 obtain ⟨W6,hW6,H6⟩:=setM H4.out.2.1 (.slice uo un uc) (.slice vo vn vc) m
 rw [hW6]
 clear hW6
 refine bodyPost_ret (v:=_) (results_cell_row rfl _ _ (w.heap.size+1) 34 _ (0,0) _ rfl H6.out.1 Tryz.underlying34 rfl (by kernel_rfl)) rfl ?_
 obtain ⟨k0,k1,k2,k3,k4,k5,k6,k7,k8,k9,k10,k11,k12,HRB⟩:=H4.out.2.1
 exact ⟨_,_,rfl,H4.out.2.2.2.1.set HRB (by decide) (by decide) H6.out.2,own_set H4.out.2.2.2.2 HRB (by decide) H6.out.2,grown_new H4.out.2.2.1 H6.out.2 (by intro x hx;simp at hx;omega)⟩
end Go.Proofs.YtncbdhdfemidlaaGreat
