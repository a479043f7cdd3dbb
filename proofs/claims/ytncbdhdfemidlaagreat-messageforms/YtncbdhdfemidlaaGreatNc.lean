import Derived.Test.YtncbdhdfemidlaaGreatNb
set_option maxHeartbeats 4000000
set_option maxRecDepth 100000
namespace Go.Proofs.YtncbdhdfemidlaaGreat
open Go.RowKit Disk
open _root_.Go.Proofs.YtncbdhdfemidlaaGreat.Calls _root_.Go.Proofs.YtncbdhdfemidlaaGreat.Command
theorem own_lits (w:World)(C:Array Value)(L:Bs)(h:C.toList=BV L)(hl:L.length<=100):Own (w.alloc (.cells C 5)) w.heap.size (.slice (some ⟨w.heap.size,0,none⟩) L.length L.length) L:=by
 have h1:C.size=L.length:=by rw [<-Array.length_toList,h,BV_len]
 have:=World.ownsRow_lit (base:=w.heap.size) (e:=5) (size:=1) w C L.length (Nat.le_refl _) (by unfold maxLen;omega) (by rw [h1];omega)
 unfold Own
 rw [<-h]
 exact this
theorem form19_a1 (ao bo:Option Addr)(n ca p cb:Nat)(c a1 a2 a3 a4 b1 b2 b3:Int)(tk:Int)(w:World)(hc:0<=c/\c<8)(ha1:0<=a1/\a1<=9223372036854775807):Calls Tryz.prog 19 #[.agg #[.int .i64 1,.int .i64 c,.int .i64 1,.int .i64 a1,.int .i64 a2,.int .i64 a3,.int .i64 a4,.slice ao n ca,.int .i64 tk,.int .i64 b1,.int .i64 b2,.int .i64 b3,.slice bo p cb]] w (FormIs ([1,UInt8.ofNat c.toNat,1] ++ Wire.numForm a1.toNat) w):=by
 have wc:IntKind.u8.wrap c=c:=by rw [IntKind.wrap_u8];omega
 have HHD:Hid ([Value.int .u8 1,.int .u8 c,.int .u8 1]=BV [1,UInt8.ofNat c.toNat,1]):=by
  unfold Hid BV
  have e2:((UInt8.ofNat c.toNat).toNat:Int)=c:=byte_back hc.1 (by omega)
  simp only [List.map_cons,List.map_nil,e2]
  rfl
 have wa1:IntKind.u64.wrap a1=a1:=by rw [IntKind.wrap_u64];omega
 have La1:Hid ((Wire.numForm a1.toNat).length<=10):=num_short _ (by omega)
 have Na1:Hid (a1=(a1.toNat:Int)/\a1.toNat<2 ^ 64):=⟨by omega,by omega⟩
 clear hc ha1
 go_enter Tryz.func19,Tryz.ntmps19
 go_upto_region 1 with fail
 obtain ⟨W0,hW0,S0⟩:=al1' w #[.int .i64 1,.int .i64 c,.int .i64 1,.int .i64 a1,.int .i64 a2,.int .i64 a3,.int .i64 a4,.slice ao n ca,.int .i64 tk,.int .i64 b1,.int .i64 b2,.int .i64 b3,.slice bo p cb] 34
 rw [hW0]
 clear hW0
 have c0:=S0.out.1.cell 0
 have c1:=S0.out.1.cell 1
 have c2:=S0.out.1.cell 2
 have c3:=S0.out.1.cell 3
 have c4:=S0.out.1.cell 4
 have c5:=S0.out.1.cell 5
 have c6:=S0.out.1.cell 6
 have c7:=S0.out.1.cell 7
 have c8:=S0.out.1.cell 8
 have c9:=S0.out.1.cell 9
 have c10:=S0.out.1.cell 10
 have c11:=S0.out.1.cell 11
 have c12:=S0.out.1.cell 12
 simp at c0 c1 c2 c3 c4 c5 c6 c7 c8 c9 c10 c11 c12
 go_upto_region 3 with fail
 obtain ⟨W1,hW1,S1⟩:=al1' W0 #[.int .u8 1,.int .u8 c,.int .u8 1] 5
 have SA0:Hid (Acc W0 W1 (.slice (some ⟨W0.heap.size,0,none⟩) 3 3) [1,UInt8.ofNat c.toNat,1] w.heap.size 34 #[.int .i64 1,.int .i64 c,.int .i64 1,.int .i64 a1,.int .i64 a2,.int .i64 a3,.int .i64 a4,.slice ao n ca,.int .i64 tk,.int .i64 b1,.int .i64 b2,.int .i64 b3,.slice bo p cb]):=⟨by rw [<-hW1];exact own_lits W0 _ [1,UInt8.ofNat c.toNat,1] HHD.out (by simp),S1.out.2.1,S0.out.1.grown S1.out.2.1 (by simp)⟩
 rw [hW1]
 clear hW1 S1
 clear c0 c1 c2 c3 c4 c5 c6 c7 c8 c9 c10 c11 c12
 have c0:=SA0.out.blk.cell 0
 have c1:=SA0.out.blk.cell 1
 have c2:=SA0.out.blk.cell 2
 have c3:=SA0.out.blk.cell 3
 have c4:=SA0.out.blk.cell 4
 have c5:=SA0.out.blk.cell 5
 have c6:=SA0.out.blk.cell 6
 have c7:=SA0.out.blk.cell 7
 have c8:=SA0.out.blk.cell 8
 have c9:=SA0.out.blk.cell 9
 have c10:=SA0.out.blk.cell 10
 have c11:=SA0.out.blk.cell 11
 have c12:=SA0.out.blk.cell 12
 simp at c0 c1 c2 c3 c4 c5 c6 c7 c8 c9 c10 c11 c12
 go_wp2_with fail
 refine (dNum a1 a1.toNat Na1.out.1 Na1.out.2 W1).mono ?_
 rintro e z0 ⟨u0,rfl,o0,g0⟩
 have Y0:Hid (Acc W0 z0 (.slice (some ⟨W0.heap.size,0,none⟩) 3 3) [1,UInt8.ofNat c.toNat,1] w.heap.size 34 #[.int .i64 1,.int .i64 c,.int .i64 1,.int .i64 a1,.int .i64 a2,.int .i64 a3,.int .i64 a4,.slice ao n ca,.int .i64 tk,.int .i64 b1,.int .i64 b2,.int .i64 b3,.slice bo p cb]/\Seg z0 u0 (Wire.numForm a1.toNat)):=⟨SA0.out.call g0,o0.seg⟩
 clear o0 g0 c0 c1 c2 c3 c4 c5 c6 c7 c8 c9 c10 c11 c12
 go_wp2_with (at_builtin;refine app_acc z0 rfl _ _ rfl rfl rfl Y0.out.1 (by decide) Y0.out.2 ?c0 ?_)
 case c0=>have q0:=La1.out;simp;omega
 intro x0 W2 hz
 have SA1:Hid (Acc W0 W2 x0 ([1,UInt8.ofNat c.toNat,1] ++ Wire.numForm a1.toNat) w.heap.size 34 #[.int .i64 1,.int .i64 c,.int .i64 1,.int .i64 a1,.int .i64 a2,.int .i64 a3,.int .i64 a4,.slice ao n ca,.int .i64 tk,.int .i64 b1,.int .i64 b2,.int .i64 b3,.slice bo p cb]):=by unfold Hid;simpa only [List.append_assoc,List.cons_append,List.nil_append] using hz
 clear hz Y0
 go_wp2_with fail
 go_ret
 exact ⟨_,rfl,SA1.out.own.mono S0.out.2.1.size,grown_trans S0.out.2.1 SA1.out.grown⟩
theorem form19_a3 (ao bo:Option Addr)(n ca p cb:Nat)(c a1 a2 a3 a4 b1 b2 b3:Int)(tk:Int)(w:World)(hc:0<=c/\c<8)(ha2:0<=a2/\a2<=9223372036854775807):Calls Tryz.prog 19 #[.agg #[.int .i64 1,.int .i64 c,.int .i64 3,.int .i64 a1,.int .i64 a2,.int .i64 a3,.int .i64 a4,.slice ao n ca,.int .i64 tk,.int .i64 b1,.int .i64 b2,.int .i64 b3,.slice bo p cb]] w (FormIs ([1,UInt8.ofNat c.toNat,3] ++ Wire.numForm a2.toNat) w):=by
 have wc:IntKind.u8.wrap c=c:=by rw [IntKind.wrap_u8];omega
 have HHD:Hid ([Value.int .u8 1,.int .u8 c,.int .u8 3]=BV [1,UInt8.ofNat c.toNat,3]):=by
  unfold Hid BV
  have e2:((UInt8.ofNat c.toNat).toNat:Int)=c:=byte_back hc.1 (by omega)
  simp only [List.map_cons,List.map_nil,e2]
  rfl
 have wa2:IntKind.u64.wrap a2=a2:=by rw [IntKind.wrap_u64];omega
 have La2:Hid ((Wire.numForm a2.toNat).length<=10):=num_short _ (by omega)
 have Na2:Hid (a2=(a2.toNat:Int)/\a2.toNat<2 ^ 64):=⟨by omega,by omega⟩
 clear hc ha2
 go_enter Tryz.func19,Tryz.ntmps19
 go_upto_region 1 with fail
 obtain ⟨W0,hW0,S0⟩:=al1' w #[.int .i64 1,.int .i64 c,.int .i64 3,.int .i64 a1,.int .i64 a2,.int .i64 a3,.int .i64 a4,.slice ao n ca,.int .i64 tk,.int .i64 b1,.int .i64 b2,.int .i64 b3,.slice bo p cb] 34
 rw [hW0]
 clear hW0
 have c0:=S0.out.1.cell 0
 have c1:=S0.out.1.cell 1
 have c2:=S0.out.1.cell 2
 have c3:=S0.out.1.cell 3
 have c4:=S0.out.1.cell 4
 have c5:=S0.out.1.cell 5
 have c6:=S0.out.1.cell 6
 have c7:=S0.out.1.cell 7
 have c8:=S0.out.1.cell 8
 have c9:=S0.out.1.cell 9
 have c10:=S0.out.1.cell 10
 have c11:=S0.out.1.cell 11
 have c12:=S0.out.1.cell 12
 simp at c0 c1 c2 c3 c4 c5 c6 c7 c8 c9 c10 c11 c12
 go_upto_region 3 with fail
 obtain ⟨W1,hW1,S1⟩:=al1' W0 #[.int .u8 1,.int .u8 c,.int .u8 3] 5
 have SA0:Hid (Acc W0 W1 (.slice (some ⟨W0.heap.size,0,none⟩) 3 3) [1,UInt8.ofNat c.toNat,3] w.heap.size 34 #[.int .i64 1,.int .i64 c,.int .i64 3,.int .i64 a1,.int .i64 a2,.int .i64 a3,.int .i64 a4,.slice ao n ca,.int .i64 tk,.int .i64 b1,.int .i64 b2,.int .i64 b3,.slice bo p cb]):=⟨by rw [<-hW1];exact own_lits W0 _ [1,UInt8.ofNat c.toNat,3] HHD.out (by simp),S1.out.2.1,S0.out.1.grown S1.out.2.1 (by simp)⟩
 rw [hW1]
 clear hW1 S1
 clear c0 c1 c2 c3 c4 c5 c6 c7 c8 c9 c10 c11 c12
 have c0:=SA0.out.blk.cell 0
 have c1:=SA0.out.blk.cell 1
 have c2:=SA0.out.blk.cell 2
 have c3:=SA0.out.blk.cell 3
 have c4:=SA0.out.blk.cell 4
 have c5:=SA0.out.blk.cell 5
 have c6:=SA0.out.blk.cell 6
 have c7:=SA0.out.blk.cell 7
 have c8:=SA0.out.blk.cell 8
 have c9:=SA0.out.blk.cell 9
 have c10:=SA0.out.blk.cell 10
 have c11:=SA0.out.blk.cell 11
 have c12:=SA0.out.blk.cell 12
 simp at c0 c1 c2 c3 c4 c5 c6 c7 c8 c9 c10 c11 c12
 go_wp2_with fail
 refine (dNum a2 a2.toNat Na2.out.1 Na2.out.2 W1).mono ?_
 rintro e z0 ⟨u0,rfl,o0,g0⟩
 have Y0:Hid (Acc W0 z0 (.slice (some ⟨W0.heap.size,0,none⟩) 3 3) [1,UInt8.ofNat c.toNat,3] w.heap.size 34 #[.int .i64 1,.int .i64 c,.int .i64 3,.int .i64 a1,.int .i64 a2,.int .i64 a3,.int .i64 a4,.slice ao n ca,.int .i64 tk,.int .i64 b1,.int .i64 b2,.int .i64 b3,.slice bo p cb]/\Seg z0 u0 (Wire.numForm a2.toNat)):=⟨SA0.out.call g0,o0.seg⟩
 clear o0 g0 c0 c1 c2 c3 c4 c5 c6 c7 c8 c9 c10 c11 c12
 go_wp2_with (at_builtin;refine app_acc z0 rfl _ _ rfl rfl rfl Y0.out.1 (by decide) Y0.out.2 ?c0 ?_)
 case c0=>have q0:=La2.out;simp;omega
 intro x0 W2 hz
 have SA1:Hid (Acc W0 W2 x0 ([1,UInt8.ofNat c.toNat,3] ++ Wire.numForm a2.toNat) w.heap.size 34 #[.int .i64 1,.int .i64 c,.int .i64 3,.int .i64 a1,.int .i64 a2,.int .i64 a3,.int .i64 a4,.slice ao n ca,.int .i64 tk,.int .i64 b1,.int .i64 b2,.int .i64 b3,.slice bo p cb]):=by unfold Hid;simpa only [List.append_assoc,List.cons_append,List.nil_append] using hz
 clear hz Y0
 go_wp2_with fail
 go_ret
 exact ⟨_,rfl,SA1.out.own.mono S0.out.2.1.size,grown_trans S0.out.2.1 SA1.out.grown⟩
theorem form19_a2 (ao bo:Option Addr)(n ca p cb:Nat)(c a1 a2 a3 a4 b1 b2 b3:Int)(tk:Int)(w:World)(hc:0<=c/\c<8)(ha2:0<=a2/\a2<=9223372036854775807)(ha3:0<=a3/\a3<=9223372036854775807)(ha4:0<=a4/\a4<=9223372036854775807)(l:List POp)(hl:Ops w (.slice ao n ca) l)(hm:mayCall l=true)(hml:(callForm l).length<=4096):Calls Tryz.prog 19 #[.agg #[.int .i64 1,.int .i64 c,.int .i64 2,.int .i64 a1,.int .i64 a2,.int .i64 a3,.int .i64 a4,.slice ao n ca,.int .i64 tk,.int .i64 b1,.int .i64 b2,.int .i64 b3,.slice bo p cb]] w (FormIs (((([1,UInt8.ofNat c.toNat,2] ++ Wire.numForm a2.toNat) ++ Wire.numForm a3.toNat) ++ Wire.numForm a4.toNat) ++ callForm l) w):=by
 have wc:IntKind.u8.wrap c=c:=by rw [IntKind.wrap_u8];omega
 have HHD:Hid ([Value.int .u8 1,.int .u8 c,.int .u8 2]=BV [1,UInt8.ofNat c.toNat,2]):=by
  unfold Hid BV
  have e2:((UInt8.ofNat c.toNat).toNat:Int)=c:=byte_back hc.1 (by omega)
  simp only [List.map_cons,List.map_nil,e2]
  rfl
 have wa2:IntKind.u64.wrap a2=a2:=by rw [IntKind.wrap_u64];omega
 have La2:Hid ((Wire.numForm a2.toNat).length<=10):=num_short _ (by omega)
 have Na2:Hid (a2=(a2.toNat:Int)/\a2.toNat<2 ^ 64):=⟨by omega,by omega⟩
 have wa3:IntKind.u64.wrap a3=a3:=by rw [IntKind.wrap_u64];omega
 have La3:Hid ((Wire.numForm a3.toNat).length<=10):=num_short _ (by omega)
 have Na3:Hid (a3=(a3.toNat:Int)/\a3.toNat<2 ^ 64):=⟨by omega,by omega⟩
 have wa4:IntKind.u64.wrap a4=a4:=by rw [IntKind.wrap_u64];omega
 have La4:Hid ((Wire.numForm a4.toNat).length<=10):=num_short _ (by omega)
 have Na4:Hid (a4=(a4.toNat:Int)/\a4.toNat<2 ^ 64):=⟨by omega,by omega⟩
 have HC:Hid (Ops w (.slice ao n ca) l/\mayCall l=true/\(callForm l).length<=4096):=⟨hl,hm,hml⟩
 clear hl hm hml
 clear hc ha2 ha3 ha4
 go_enter Tryz.func19,Tryz.ntmps19
 go_upto_region 1 with fail
 obtain ⟨W0,hW0,S0⟩:=al1' w #[.int .i64 1,.int .i64 c,.int .i64 2,.int .i64 a1,.int .i64 a2,.int .i64 a3,.int .i64 a4,.slice ao n ca,.int .i64 tk,.int .i64 b1,.int .i64 b2,.int .i64 b3,.slice bo p cb] 34
 rw [hW0]
 clear hW0
 have c0:=S0.out.1.cell 0
 have c1:=S0.out.1.cell 1
 have c2:=S0.out.1.cell 2
 have c3:=S0.out.1.cell 3
 have c4:=S0.out.1.cell 4
 have c5:=S0.out.1.cell 5
 have c6:=S0.out.1.cell 6
 have c7:=S0.out.1.cell 7
 have c8:=S0.out.1.cell 8
 have c9:=S0.out.1.cell 9
 have c10:=S0.out.1.cell 10
 have c11:=S0.out.1.cell 11
 have c12:=S0.out.1.cell 12
 simp at c0 c1 c2 c3 c4 c5 c6 c7 c8 c9 c10 c11 c12
 go_upto_region 3 with fail
 obtain ⟨W1,hW1,S1⟩:=al1' W0 #[.int .u8 1,.int .u8 c,.int .u8 2] 5
 have SA0:Hid (Acc W0 W1 (.slice (some ⟨W0.heap.size,0,none⟩) 3 3) [1,UInt8.ofNat c.toNat,2] w.heap.size 34 #[.int .i64 1,.int .i64 c,.int .i64 2,.int .i64 a1,.int .i64 a2,.int .i64 a3,.int .i64 a4,.slice ao n ca,.int .i64 tk,.int .i64 b1,.int .i64 b2,.int .i64 b3,.slice bo p cb]):=⟨by rw [<-hW1];exact own_lits W0 _ [1,UInt8.ofNat c.toNat,2] HHD.out (by simp),S1.out.2.1,S0.out.1.grown S1.out.2.1 (by simp)⟩
 rw [hW1]
 clear hW1 S1
 clear c0 c1 c2 c3 c4 c5 c6 c7 c8 c9 c10 c11 c12
 have c0:=SA0.out.blk.cell 0
 have c1:=SA0.out.blk.cell 1
 have c2:=SA0.out.blk.cell 2
 have c3:=SA0.out.blk.cell 3
 have c4:=SA0.out.blk.cell 4
 have c5:=SA0.out.blk.cell 5
 have c6:=SA0.out.blk.cell 6
 have c7:=SA0.out.blk.cell 7
 have c8:=SA0.out.blk.cell 8
 have c9:=SA0.out.blk.cell 9
 have c10:=SA0.out.blk.cell 10
 have c11:=SA0.out.blk.cell 11
 have c12:=SA0.out.blk.cell 12
 simp at c0 c1 c2 c3 c4 c5 c6 c7 c8 c9 c10 c11 c12
 go_wp2_with fail
 refine (dNum a2 a2.toNat Na2.out.1 Na2.out.2 W1).mono ?_
 rintro e z0 ⟨u0,rfl,o0,g0⟩
 have Y0:Hid (Acc W0 z0 (.slice (some ⟨W0.heap.size,0,none⟩) 3 3) [1,UInt8.ofNat c.toNat,2] w.heap.size 34 #[.int .i64 1,.int .i64 c,.int .i64 2,.int .i64 a1,.int .i64 a2,.int .i64 a3,.int .i64 a4,.slice ao n ca,.int .i64 tk,.int .i64 b1,.int .i64 b2,.int .i64 b3,.slice bo p cb]/\Seg z0 u0 (Wire.numForm a2.toNat)):=⟨SA0.out.call g0,o0.seg⟩
 clear o0 g0 c0 c1 c2 c3 c4 c5 c6 c7 c8 c9 c10 c11 c12
 go_wp2_with (at_builtin;refine app_acc z0 rfl _ _ rfl rfl rfl Y0.out.1 (by decide) Y0.out.2 ?c0 ?_)
 case c0=>have q0:=La2.out;simp;omega
 intro x0 W2 hz
 have SA1:Hid (Acc W0 W2 x0 ([1,UInt8.ofNat c.toNat,2] ++ Wire.numForm a2.toNat) w.heap.size 34 #[.int .i64 1,.int .i64 c,.int .i64 2,.int .i64 a1,.int .i64 a2,.int .i64 a3,.int .i64 a4,.slice ao n ca,.int .i64 tk,.int .i64 b1,.int .i64 b2,.int .i64 b3,.slice bo p cb]):=by unfold Hid;simpa only [List.append_assoc,List.cons_append,List.nil_append] using hz
 clear hz Y0
 have c0:=SA1.out.blk.cell 0
 have c1:=SA1.out.blk.cell 1
 have c2:=SA1.out.blk.cell 2
 have c3:=SA1.out.blk.cell 3
 have c4:=SA1.out.blk.cell 4
 have c5:=SA1.out.blk.cell 5
 have c6:=SA1.out.blk.cell 6
 have c7:=SA1.out.blk.cell 7
 have c8:=SA1.out.blk.cell 8
 have c9:=SA1.out.blk.cell 9
 have c10:=SA1.out.blk.cell 10
 have c11:=SA1.out.blk.cell 11
 have c12:=SA1.out.blk.cell 12
 simp at c0 c1 c2 c3 c4 c5 c6 c7 c8 c9 c10 c11 c12
 go_wp2_with fail
 refine (dNum a3 a3.toNat Na3.out.1 Na3.out.2 W2).mono ?_
 rintro e z1 ⟨u1,rfl,o1,g1⟩
 have Y1:Hid (Acc W0 z1 x0 ([1,UInt8.ofNat c.toNat,2] ++ Wire.numForm a2.toNat) w.heap.size 34 #[.int .i64 1,.int .i64 c,.int .i64 2,.int .i64 a1,.int .i64 a2,.int .i64 a3,.int .i64 a4,.slice ao n ca,.int .i64 tk,.int .i64 b1,.int .i64 b2,.int .i64 b3,.slice bo p cb]/\Seg z1 u1 (Wire.numForm a3.toNat)):=⟨SA1.out.call g1,o1.seg⟩
 clear o1 g1 c0 c1 c2 c3 c4 c5 c6 c7 c8 c9 c10 c11 c12
 go_wp2_with (at_builtin;refine app_acc z1 rfl _ _ rfl rfl rfl Y1.out.1 (by decide) Y1.out.2 ?c0 ?_)
 case c0=>have q0:=La2.out;have q1:=La3.out;simp;omega
 intro x1 W3 hz
 have SA2:Hid (Acc W0 W3 x1 (([1,UInt8.ofNat c.toNat,2] ++ Wire.numForm a2.toNat) ++ Wire.numForm a3.toNat) w.heap.size 34 #[.int .i64 1,.int .i64 c,.int .i64 2,.int .i64 a1,.int .i64 a2,.int .i64 a3,.int .i64 a4,.slice ao n ca,.int .i64 tk,.int .i64 b1,.int .i64 b2,.int .i64 b3,.slice bo p cb]):=by unfold Hid;simpa only [List.append_assoc,List.cons_append,List.nil_append] using hz
 clear hz Y1
 have c0:=SA2.out.blk.cell 0
 have c1:=SA2.out.blk.cell 1
 have c2:=SA2.out.blk.cell 2
 have c3:=SA2.out.blk.cell 3
 have c4:=SA2.out.blk.cell 4
 have c5:=SA2.out.blk.cell 5
 have c6:=SA2.out.blk.cell 6
 have c7:=SA2.out.blk.cell 7
 have c8:=SA2.out.blk.cell 8
 have c9:=SA2.out.blk.cell 9
 have c10:=SA2.out.blk.cell 10
 have c11:=SA2.out.blk.cell 11
 have c12:=SA2.out.blk.cell 12
 simp at c0 c1 c2 c3 c4 c5 c6 c7 c8 c9 c10 c11 c12
 go_wp2_with fail
 refine (dNum a4 a4.toNat Na4.out.1 Na4.out.2 W3).mono ?_
 rintro e z2 ⟨u2,rfl,o2,g2⟩
 have Y2:Hid (Acc W0 z2 x1 (([1,UInt8.ofNat c.toNat,2] ++ Wire.numForm a2.toNat) ++ Wire.numForm a3.toNat) w.heap.size 34 #[.int .i64 1,.int .i64 c,.int .i64 2,.int .i64 a1,.int .i64 a2,.int .i64 a3,.int .i64 a4,.slice ao n ca,.int .i64 tk,.int .i64 b1,.int .i64 b2,.int .i64 b3,.slice bo p cb]/\Seg z2 u2 (Wire.numForm a4.toNat)):=⟨SA2.out.call g2,o2.seg⟩
 clear o2 g2 c0 c1 c2 c3 c4 c5 c6 c7 c8 c9 c10 c11 c12
 go_wp2_with (at_builtin;refine app_acc z2 rfl _ _ rfl rfl rfl Y2.out.1 (by decide) Y2.out.2 ?c0 ?_)
 case c0=>have q0:=La2.out;have q1:=La3.out;have q2:=La4.out;simp;omega
 intro x2 W4 hz
 have SA3:Hid (Acc W0 W4 x2 ((([1,UInt8.ofNat c.toNat,2] ++ Wire.numForm a2.toNat) ++ Wire.numForm a3.toNat) ++ Wire.numForm a4.toNat) w.heap.size 34 #[.int .i64 1,.int .i64 c,.int .i64 2,.int .i64 a1,.int .i64 a2,.int .i64 a3,.int .i64 a4,.slice ao n ca,.int .i64 tk,.int .i64 b1,.int .i64 b2,.int .i64 b3,.slice bo p cb]):=by unfold Hid;simpa only [List.append_assoc,List.cons_append,List.nil_append] using hz
 clear hz Y2
 have c0:=SA3.out.blk.cell 0
 have c1:=SA3.out.blk.cell 1
 have c2:=SA3.out.blk.cell 2
 have c3:=SA3.out.blk.cell 3
 have c4:=SA3.out.blk.cell 4
 have c5:=SA3.out.blk.cell 5
 have c6:=SA3.out.blk.cell 6
 have c7:=SA3.out.blk.cell 7
 have c8:=SA3.out.blk.cell 8
 have c9:=SA3.out.blk.cell 9
 have c10:=SA3.out.blk.cell 10
 have c11:=SA3.out.blk.cell 11
 have c12:=SA3.out.blk.cell 12
 simp at c0 c1 c2 c3 c4 c5 c6 c7 c8 c9 c10 c11 c12
 go_wp2_with fail
 refine (form20 (.slice ao n ca) l W4 (HC.out.1.grown (grown_trans S0.out.2.1 SA3.out.grown)) HC.out.2.1).mono ?_
 rintro e z3 ⟨u3,rfl,o3,g3⟩
 have Y3:Hid (Acc W0 z3 x2 ((([1,UInt8.ofNat c.toNat,2] ++ Wire.numForm a2.toNat) ++ Wire.numForm a3.toNat) ++ Wire.numForm a4.toNat) w.heap.size 34 #[.int .i64 1,.int .i64 c,.int .i64 2,.int .i64 a1,.int .i64 a2,.int .i64 a3,.int .i64 a4,.slice ao n ca,.int .i64 tk,.int .i64 b1,.int .i64 b2,.int .i64 b3,.slice bo p cb]/\Seg z3 u3 (callForm l)):=⟨SA3.out.call g3,o3.seg⟩
 clear o3 g3 c0 c1 c2 c3 c4 c5 c6 c7 c8 c9 c10 c11 c12
 go_wp2_with (at_builtin;refine app_acc z3 rfl _ _ rfl rfl rfl Y3.out.1 (by decide) Y3.out.2 ?c0 ?_)
 case c0=>have q0:=La2.out;have q1:=La3.out;have q2:=La4.out;have q9:=HC.out.2.2;simp;omega
 intro x3 W5 hz
 have SA4:Hid (Acc W0 W5 x3 (((([1,UInt8.ofNat c.toNat,2] ++ Wire.numForm a2.toNat) ++ Wire.numForm a3.toNat) ++ Wire.numForm a4.toNat) ++ callForm l) w.heap.size 34 #[.int .i64 1,.int .i64 c,.int .i64 2,.int .i64 a1,.int .i64 a2,.int .i64 a3,.int .i64 a4,.slice ao n ca,.int .i64 tk,.int .i64 b1,.int .i64 b2,.int .i64 b3,.slice bo p cb]):=by unfold Hid;simpa only [List.append_assoc,List.cons_append,List.nil_append] using hz
 clear hz Y3
 go_wp2_with fail
 go_ret
 exact ⟨_,rfl,SA4.out.own.mono S0.out.2.1.size,grown_trans S0.out.2.1 SA4.out.grown⟩
theorem form19_t2 (ao bo:Option Addr)(n ca p cb:Nat)(c a1 a2 a3 a4 b1 b2 b3:Int)(ak:Int)(w:World)(hc:0<=c/\c<8)(hb1:0<=b1/\b1<=9223372036854775807):Calls Tryz.prog 19 #[.agg #[.int .i64 2,.int .i64 c,.int .i64 ak,.int .i64 a1,.int .i64 a2,.int .i64 a3,.int .i64 a4,.slice ao n ca,.int .i64 2,.int .i64 b1,.int .i64 b2,.int .i64 b3,.slice bo p cb]] w (FormIs ([2,UInt8.ofNat c.toNat,2] ++ Wire.numForm b1.toNat) w):=by
 have wc:IntKind.u8.wrap c=c:=by rw [IntKind.wrap_u8];omega
 have HHD:Hid ([Value.int .u8 2,.int .u8 c,.int .u8 2]=BV [2,UInt8.ofNat c.toNat,2]):=by
  unfold Hid BV
  have e2:((UInt8.ofNat c.toNat).toNat:Int)=c:=byte_back hc.1 (by omega)
  simp only [List.map_cons,List.map_nil,e2]
  rfl
 have wb1:IntKind.u64.wrap b1=b1:=by rw [IntKind.wrap_u64];omega
 have Lb1:Hid ((Wire.numForm b1.toNat).length<=10):=num_short _ (by omega)
 have Nb1:Hid (b1=(b1.toNat:Int)/\b1.toNat<2 ^ 64):=⟨by omega,by omega⟩
 clear hc hb1
 go_enter Tryz.func19,Tryz.ntmps19
 go_upto_region 1 with fail
 obtain ⟨W0,hW0,S0⟩:=al1' w #[.int .i64 2,.int .i64 c,.int .i64 ak,.int .i64 a1,.int .i64 a2,.int .i64 a3,.int .i64 a4,.slice ao n ca,.int .i64 2,.int .i64 b1,.int .i64 b2,.int .i64 b3,.slice bo p cb] 34
 rw [hW0]
 clear hW0
 have c0:=S0.out.1.cell 0
 have c1:=S0.out.1.cell 1
 have c2:=S0.out.1.cell 2
 have c3:=S0.out.1.cell 3
 have c4:=S0.out.1.cell 4
 have c5:=S0.out.1.cell 5
 have c6:=S0.out.1.cell 6
 have c7:=S0.out.1.cell 7
 have c8:=S0.out.1.cell 8
 have c9:=S0.out.1.cell 9
 have c10:=S0.out.1.cell 10
 have c11:=S0.out.1.cell 11
 have c12:=S0.out.1.cell 12
 simp at c0 c1 c2 c3 c4 c5 c6 c7 c8 c9 c10 c11 c12
 go_upto_region 13 with fail
 obtain ⟨W1,hW1,S1⟩:=al1' W0 #[.int .u8 2,.int .u8 c,.int .u8 2] 5
 have SA0:Hid (Acc W0 W1 (.slice (some ⟨W0.heap.size,0,none⟩) 3 3) [2,UInt8.ofNat c.toNat,2] w.heap.size 34 #[.int .i64 2,.int .i64 c,.int .i64 ak,.int .i64 a1,.int .i64 a2,.int .i64 a3,.int .i64 a4,.slice ao n ca,.int .i64 2,.int .i64 b1,.int .i64 b2,.int .i64 b3,.slice bo p cb]):=⟨by rw [<-hW1];exact own_lits W0 _ [2,UInt8.ofNat c.toNat,2] HHD.out (by simp),S1.out.2.1,S0.out.1.grown S1.out.2.1 (by simp)⟩
 rw [hW1]
 clear hW1 S1
 clear c0 c1 c2 c3 c4 c5 c6 c7 c8 c9 c10 c11 c12
 have c0:=SA0.out.blk.cell 0
 have c1:=SA0.out.blk.cell 1
 have c2:=SA0.out.blk.cell 2
 have c3:=SA0.out.blk.cell 3
 have c4:=SA0.out.blk.cell 4
 have c5:=SA0.out.blk.cell 5
 have c6:=SA0.out.blk.cell 6
 have c7:=SA0.out.blk.cell 7
 have c8:=SA0.out.blk.cell 8
 have c9:=SA0.out.blk.cell 9
 have c10:=SA0.out.blk.cell 10
 have c11:=SA0.out.blk.cell 11
 have c12:=SA0.out.blk.cell 12
 simp at c0 c1 c2 c3 c4 c5 c6 c7 c8 c9 c10 c11 c12
 go_wp2_with fail
 refine (dNum b1 b1.toNat Nb1.out.1 Nb1.out.2 W1).mono ?_
 rintro e z0 ⟨u0,rfl,o0,g0⟩
 have Y0:Hid (Acc W0 z0 (.slice (some ⟨W0.heap.size,0,none⟩) 3 3) [2,UInt8.ofNat c.toNat,2] w.heap.size 34 #[.int .i64 2,.int .i64 c,.int .i64 ak,.int .i64 a1,.int .i64 a2,.int .i64 a3,.int .i64 a4,.slice ao n ca,.int .i64 2,.int .i64 b1,.int .i64 b2,.int .i64 b3,.slice bo p cb]/\Seg z0 u0 (Wire.numForm b1.toNat)):=⟨SA0.out.call g0,o0.seg⟩
 clear o0 g0 c0 c1 c2 c3 c4 c5 c6 c7 c8 c9 c10 c11 c12
 go_wp2_with (at_builtin;refine app_acc z0 rfl _ _ rfl rfl rfl Y0.out.1 (by decide) Y0.out.2 ?c0 ?_)
 case c0=>have q0:=Lb1.out;simp;omega
 intro x0 W2 hz
 have SA1:Hid (Acc W0 W2 x0 ([2,UInt8.ofNat c.toNat,2] ++ Wire.numForm b1.toNat) w.heap.size 34 #[.int .i64 2,.int .i64 c,.int .i64 ak,.int .i64 a1,.int .i64 a2,.int .i64 a3,.int .i64 a4,.slice ao n ca,.int .i64 2,.int .i64 b1,.int .i64 b2,.int .i64 b3,.slice bo p cb]):=by unfold Hid;simpa only [List.append_assoc,List.cons_append,List.nil_append] using hz
 clear hz Y0
 go_wp2_with fail
 go_ret
 exact ⟨_,rfl,SA1.out.own.mono S0.out.2.1.size,grown_trans S0.out.2.1 SA1.out.grown⟩
theorem form19_t1 (ao bo:Option Addr)(n ca p cb:Nat)(c a1 a2 a3 a4 b1 b2 b3:Int)(ak:Int)(w:World)(hc:0<=c/\c<8)(hb1:0<=b1/\b1<=9223372036854775807)(hb2:0<=b2/\b2<=9223372036854775807):Calls Tryz.prog 19 #[.agg #[.int .i64 2,.int .i64 c,.int .i64 ak,.int .i64 a1,.int .i64 a2,.int .i64 a3,.int .i64 a4,.slice ao n ca,.int .i64 1,.int .i64 b1,.int .i64 b2,.int .i64 b3,.slice bo p cb]] w (FormIs (([2,UInt8.ofNat c.toNat,1] ++ Wire.numForm b1.toNat) ++ Wire.numForm b2.toNat) w):=by
 have wc:IntKind.u8.wrap c=c:=by rw [IntKind.wrap_u8];omega
 have HHD:Hid ([Value.int .u8 2,.int .u8 c,.int .u8 1]=BV [2,UInt8.ofNat c.toNat,1]):=by
  unfold Hid BV
  have e2:((UInt8.ofNat c.toNat).toNat:Int)=c:=byte_back hc.1 (by omega)
  simp only [List.map_cons,List.map_nil,e2]
  rfl
 have wb1:IntKind.u64.wrap b1=b1:=by rw [IntKind.wrap_u64];omega
 have Lb1:Hid ((Wire.numForm b1.toNat).length<=10):=num_short _ (by omega)
 have Nb1:Hid (b1=(b1.toNat:Int)/\b1.toNat<2 ^ 64):=⟨by omega,by omega⟩
 have wb2:IntKind.u64.wrap b2=b2:=by rw [IntKind.wrap_u64];omega
 have Lb2:Hid ((Wire.numForm b2.toNat).length<=10):=num_short _ (by omega)
 have Nb2:Hid (b2=(b2.toNat:Int)/\b2.toNat<2 ^ 64):=⟨by omega,by omega⟩
 clear hc hb1 hb2
 go_enter Tryz.func19,Tryz.ntmps19
 go_upto_region 1 with fail
 obtain ⟨W0,hW0,S0⟩:=al1' w #[.int .i64 2,.int .i64 c,.int .i64 ak,.int .i64 a1,.int .i64 a2,.int .i64 a3,.int .i64 a4,.slice ao n ca,.int .i64 1,.int .i64 b1,.int .i64 b2,.int .i64 b3,.slice bo p cb] 34
 rw [hW0]
 clear hW0
 have c0:=S0.out.1.cell 0
 have c1:=S0.out.1.cell 1
 have c2:=S0.out.1.cell 2
 have c3:=S0.out.1.cell 3
 have c4:=S0.out.1.cell 4
 have c5:=S0.out.1.cell 5
 have c6:=S0.out.1.cell 6
 have c7:=S0.out.1.cell 7
 have c8:=S0.out.1.cell 8
 have c9:=S0.out.1.cell 9
 have c10:=S0.out.1.cell 10
 have c11:=S0.out.1.cell 11
 have c12:=S0.out.1.cell 12
 simp at c0 c1 c2 c3 c4 c5 c6 c7 c8 c9 c10 c11 c12
 go_upto_region 13 with fail
 obtain ⟨W1,hW1,S1⟩:=al1' W0 #[.int .u8 2,.int .u8 c,.int .u8 1] 5
 have SA0:Hid (Acc W0 W1 (.slice (some ⟨W0.heap.size,0,none⟩) 3 3) [2,UInt8.ofNat c.toNat,1] w.heap.size 34 #[.int .i64 2,.int .i64 c,.int .i64 ak,.int .i64 a1,.int .i64 a2,.int .i64 a3,.int .i64 a4,.slice ao n ca,.int .i64 1,.int .i64 b1,.int .i64 b2,.int .i64 b3,.slice bo p cb]):=⟨by rw [<-hW1];exact own_lits W0 _ [2,UInt8.ofNat c.toNat,1] HHD.out (by simp),S1.out.2.1,S0.out.1.grown S1.out.2.1 (by simp)⟩
 rw [hW1]
 clear hW1 S1
 clear c0 c1 c2 c3 c4 c5 c6 c7 c8 c9 c10 c11 c12
 have c0:=SA0.out.blk.cell 0
 have c1:=SA0.out.blk.cell 1
 have c2:=SA0.out.blk.cell 2
 have c3:=SA0.out.blk.cell 3
 have c4:=SA0.out.blk.cell 4
 have c5:=SA0.out.blk.cell 5
 have c6:=SA0.out.blk.cell 6
 have c7:=SA0.out.blk.cell 7
 have c8:=SA0.out.blk.cell 8
 have c9:=SA0.out.blk.cell 9
 have c10:=SA0.out.blk.cell 10
 have c11:=SA0.out.blk.cell 11
 have c12:=SA0.out.blk.cell 12
 simp at c0 c1 c2 c3 c4 c5 c6 c7 c8 c9 c10 c11 c12
 go_wp2_with fail
 refine (dNum b1 b1.toNat Nb1.out.1 Nb1.out.2 W1).mono ?_
 rintro e z0 ⟨u0,rfl,o0,g0⟩
 have Y0:Hid (Acc W0 z0 (.slice (some ⟨W0.heap.size,0,none⟩) 3 3) [2,UInt8.ofNat c.toNat,1] w.heap.size 34 #[.int .i64 2,.int .i64 c,.int .i64 ak,.int .i64 a1,.int .i64 a2,.int .i64 a3,.int .i64 a4,.slice ao n ca,.int .i64 1,.int .i64 b1,.int .i64 b2,.int .i64 b3,.slice bo p cb]/\Seg z0 u0 (Wire.numForm b1.toNat)):=⟨SA0.out.call g0,o0.seg⟩
 clear o0 g0 c0 c1 c2 c3 c4 c5 c6 c7 c8 c9 c10 c11 c12
 go_wp2_with (at_builtin;refine app_acc z0 rfl _ _ rfl rfl rfl Y0.out.1 (by decide) Y0.out.2 ?c0 ?_)
 case c0=>have q0:=Lb1.out;simp;omega
 intro x0 W2 hz
 have SA1:Hid (Acc W0 W2 x0 ([2,UInt8.ofNat c.toNat,1] ++ Wire.numForm b1.toNat) w.heap.size 34 #[.int .i64 2,.int .i64 c,.int .i64 ak,.int .i64 a1,.int .i64 a2,.int .i64 a3,.int .i64 a4,.slice ao n ca,.int .i64 1,.int .i64 b1,.int .i64 b2,.int .i64 b3,.slice bo p cb]):=by unfold Hid;simpa only [List.append_assoc,List.cons_append,List.nil_append] using hz
 clear hz Y0
 have c0:=SA1.out.blk.cell 0
 have c1:=SA1.out.blk.cell 1
 have c2:=SA1.out.blk.cell 2
 have c3:=SA1.out.blk.cell 3
 have c4:=SA1.out.blk.cell 4
 have c5:=SA1.out.blk.cell 5
 have c6:=SA1.out.blk.cell 6
 have c7:=SA1.out.blk.cell 7
 have c8:=SA1.out.blk.cell 8
 have c9:=SA1.out.blk.cell 9
 have c10:=SA1.out.blk.cell 10
 have c11:=SA1.out.blk.cell 11
 have c12:=SA1.out.blk.cell 12
 simp at c0 c1 c2 c3 c4 c5 c6 c7 c8 c9 c10 c11 c12
 go_wp2_with fail
 refine (dNum b2 b2.toNat Nb2.out.1 Nb2.out.2 W2).mono ?_
 rintro e z1 ⟨u1,rfl,o1,g1⟩
 have Y1:Hid (Acc W0 z1 x0 ([2,UInt8.ofNat c.toNat,1] ++ Wire.numForm b1.toNat) w.heap.size 34 #[.int .i64 2,.int .i64 c,.int .i64 ak,.int .i64 a1,.int .i64 a2,.int .i64 a3,.int .i64 a4,.slice ao n ca,.int .i64 1,.int .i64 b1,.int .i64 b2,.int .i64 b3,.slice bo p cb]/\Seg z1 u1 (Wire.numForm b2.toNat)):=⟨SA1.out.call g1,o1.seg⟩
 clear o1 g1 c0 c1 c2 c3 c4 c5 c6 c7 c8 c9 c10 c11 c12
 go_wp2_with (at_builtin;refine app_acc z1 rfl _ _ rfl rfl rfl Y1.out.1 (by decide) Y1.out.2 ?c0 ?_)
 case c0=>have q0:=Lb1.out;have q1:=Lb2.out;simp;omega
 intro x1 W3 hz
 have SA2:Hid (Acc W0 W3 x1 (([2,UInt8.ofNat c.toNat,1] ++ Wire.numForm b1.toNat) ++ Wire.numForm b2.toNat) w.heap.size 34 #[.int .i64 2,.int .i64 c,.int .i64 ak,.int .i64 a1,.int .i64 a2,.int .i64 a3,.int .i64 a4,.slice ao n ca,.int .i64 1,.int .i64 b1,.int .i64 b2,.int .i64 b3,.slice bo p cb]):=by unfold Hid;simpa only [List.append_assoc,List.cons_append,List.nil_append] using hz
 clear hz Y1
 go_wp2_with fail
 go_ret
 exact ⟨_,rfl,SA2.out.own.mono S0.out.2.1.size,grown_trans S0.out.2.1 SA2.out.grown⟩
theorem form19_t7 (ao bo:Option Addr)(n ca p cb:Nat)(c a1 a2 a3 a4 b1 b2 b3:Int)(ak:Int)(w:World)(hc:0<=c/\c<8)(hb2:0<=b2/\b2<=9223372036854775807):Calls Tryz.prog 19 #[.agg #[.int .i64 2,.int .i64 c,.int .i64 ak,.int .i64 a1,.int .i64 a2,.int .i64 a3,.int .i64 a4,.slice ao n ca,.int .i64 7,.int .i64 b1,.int .i64 b2,.int .i64 b3,.slice bo p cb]] w (FormIs ([2,UInt8.ofNat c.toNat,7] ++ Wire.numForm b2.toNat) w):=by
 have wc:IntKind.u8.wrap c=c:=by rw [IntKind.wrap_u8];omega
 have HHD:Hid ([Value.int .u8 2,.int .u8 c,.int .u8 7]=BV [2,UInt8.ofNat c.toNat,7]):=by
  unfold Hid BV
  have e2:((UInt8.ofNat c.toNat).toNat:Int)=c:=byte_back hc.1 (by omega)
  simp only [List.map_cons,List.map_nil,e2]
  rfl
 have wb2:IntKind.u64.wrap b2=b2:=by rw [IntKind.wrap_u64];omega
 have Lb2:Hid ((Wire.numForm b2.toNat).length<=10):=num_short _ (by omega)
 have Nb2:Hid (b2=(b2.toNat:Int)/\b2.toNat<2 ^ 64):=⟨by omega,by omega⟩
 clear hc hb2
 go_enter Tryz.func19,Tryz.ntmps19
 go_upto_region 1 with fail
 obtain ⟨W0,hW0,S0⟩:=al1' w #[.int .i64 2,.int .i64 c,.int .i64 ak,.int .i64 a1,.int .i64 a2,.int .i64 a3,.int .i64 a4,.slice ao n ca,.int .i64 7,.int .i64 b1,.int .i64 b2,.int .i64 b3,.slice bo p cb] 34
 rw [hW0]
 clear hW0
 have c0:=S0.out.1.cell 0
 have c1:=S0.out.1.cell 1
 have c2:=S0.out.1.cell 2
 have c3:=S0.out.1.cell 3
 have c4:=S0.out.1.cell 4
 have c5:=S0.out.1.cell 5
 have c6:=S0.out.1.cell 6
 have c7:=S0.out.1.cell 7
 have c8:=S0.out.1.cell 8
 have c9:=S0.out.1.cell 9
 have c10:=S0.out.1.cell 10
 have c11:=S0.out.1.cell 11
 have c12:=S0.out.1.cell 12
 simp at c0 c1 c2 c3 c4 c5 c6 c7 c8 c9 c10 c11 c12
 go_upto_region 13 with fail
 obtain ⟨W1,hW1,S1⟩:=al1' W0 #[.int .u8 2,.int .u8 c,.int .u8 7] 5
 have SA0:Hid (Acc W0 W1 (.slice (some ⟨W0.heap.size,0,none⟩) 3 3) [2,UInt8.ofNat c.toNat,7] w.heap.size 34 #[.int .i64 2,.int .i64 c,.int .i64 ak,.int .i64 a1,.int .i64 a2,.int .i64 a3,.int .i64 a4,.slice ao n ca,.int .i64 7,.int .i64 b1,.int .i64 b2,.int .i64 b3,.slice bo p cb]):=⟨by rw [<-hW1];exact own_lits W0 _ [2,UInt8.ofNat c.toNat,7] HHD.out (by simp),S1.out.2.1,S0.out.1.grown S1.out.2.1 (by simp)⟩
 rw [hW1]
 clear hW1 S1
 clear c0 c1 c2 c3 c4 c5 c6 c7 c8 c9 c10 c11 c12
 have c0:=SA0.out.blk.cell 0
 have c1:=SA0.out.blk.cell 1
 have c2:=SA0.out.blk.cell 2
 have c3:=SA0.out.blk.cell 3
 have c4:=SA0.out.blk.cell 4
 have c5:=SA0.out.blk.cell 5
 have c6:=SA0.out.blk.cell 6
 have c7:=SA0.out.blk.cell 7
 have c8:=SA0.out.blk.cell 8
 have c9:=SA0.out.blk.cell 9
 have c10:=SA0.out.blk.cell 10
 have c11:=SA0.out.blk.cell 11
 have c12:=SA0.out.blk.cell 12
 simp at c0 c1 c2 c3 c4 c5 c6 c7 c8 c9 c10 c11 c12
 go_wp2_with fail
 refine (dNum b2 b2.toNat Nb2.out.1 Nb2.out.2 W1).mono ?_
 rintro e z0 ⟨u0,rfl,o0,g0⟩
 have Y0:Hid (Acc W0 z0 (.slice (some ⟨W0.heap.size,0,none⟩) 3 3) [2,UInt8.ofNat c.toNat,7] w.heap.size 34 #[.int .i64 2,.int .i64 c,.int .i64 ak,.int .i64 a1,.int .i64 a2,.int .i64 a3,.int .i64 a4,.slice ao n ca,.int .i64 7,.int .i64 b1,.int .i64 b2,.int .i64 b3,.slice bo p cb]/\Seg z0 u0 (Wire.numForm b2.toNat)):=⟨SA0.out.call g0,o0.seg⟩
 clear o0 g0 c0 c1 c2 c3 c4 c5 c6 c7 c8 c9 c10 c11 c12
 go_wp2_with (at_builtin;refine app_acc z0 rfl _ _ rfl rfl rfl Y0.out.1 (by decide) Y0.out.2 ?c0 ?_)
 case c0=>have q0:=Lb2.out;simp;omega
 intro x0 W2 hz
 have SA1:Hid (Acc W0 W2 x0 ([2,UInt8.ofNat c.toNat,7] ++ Wire.numForm b2.toNat) w.heap.size 34 #[.int .i64 2,.int .i64 c,.int .i64 ak,.int .i64 a1,.int .i64 a2,.int .i64 a3,.int .i64 a4,.slice ao n ca,.int .i64 7,.int .i64 b1,.int .i64 b2,.int .i64 b3,.slice bo p cb]):=by unfold Hid;simpa only [List.append_assoc,List.cons_append,List.nil_append] using hz
 clear hz Y0
 have c0:=SA1.out.blk.cell 0
 have c1:=SA1.out.blk.cell 1
 have c2:=SA1.out.blk.cell 2
 have c3:=SA1.out.blk.cell 3
 have c4:=SA1.out.blk.cell 4
 have c5:=SA1.out.blk.cell 5
 have c6:=SA1.out.blk.cell 6
 have c7:=SA1.out.blk.cell 7
 have c8:=SA1.out.blk.cell 8
 have c9:=SA1.out.blk.cell 9
 have c10:=SA1.out.blk.cell 10
 have c11:=SA1.out.blk.cell 11
 have c12:=SA1.out.blk.cell 12
 simp at c0 c1 c2 c3 c4 c5 c6 c7 c8 c9 c10 c11 c12
 go_wp2_with fail
 go_ret
 exact ⟨_,rfl,SA1.out.own.mono S0.out.2.1.size,grown_trans S0.out.2.1 SA1.out.grown⟩
theorem form19_t3 (ao bo:Option Addr)(n ca p cb:Nat)(c a1 a2 a3 a4 b1 b2 b3:Int)(ak:Int)(w:World)(hc:0<=c/\c<8)(hb2:0<=b2/\b2<=9223372036854775807)(hb3:0<=b3/\b3<=9223372036854775807)(an:Bs)(hs:Seg w (.slice bo p cb) an)(hz:an.length<=140737488354304):Calls Tryz.prog 19 #[.agg #[.int .i64 2,.int .i64 c,.int .i64 ak,.int .i64 a1,.int .i64 a2,.int .i64 a3,.int .i64 a4,.slice ao n ca,.int .i64 3,.int .i64 b1,.int .i64 b2,.int .i64 b3,.slice bo p cb]] w (FormIs ((([2,UInt8.ofNat c.toNat,3] ++ Wire.numForm b2.toNat) ++ Wire.numForm b3.toNat) ++ an) w):=by
 have wc:IntKind.u8.wrap c=c:=by rw [IntKind.wrap_u8];omega
 have HHD:Hid ([Value.int .u8 2,.int .u8 c,.int .u8 3]=BV [2,UInt8.ofNat c.toNat,3]):=by
  unfold Hid BV
  have e2:((UInt8.ofNat c.toNat).toNat:Int)=c:=byte_back hc.1 (by omega)
  simp only [List.map_cons,List.map_nil,e2]
  rfl
 have wb2:IntKind.u64.wrap b2=b2:=by rw [IntKind.wrap_u64];omega
 have Lb2:Hid ((Wire.numForm b2.toNat).length<=10):=num_short _ (by omega)
 have Nb2:Hid (b2=(b2.toNat:Int)/\b2.toNat<2 ^ 64):=⟨by omega,by omega⟩
 have wb3:IntKind.u64.wrap b3=b3:=by rw [IntKind.wrap_u64];omega
 have Lb3:Hid ((Wire.numForm b3.toNat).length<=10):=num_short _ (by omega)
 have Nb3:Hid (b3=(b3.toNat:Int)/\b3.toNat<2 ^ 64):=⟨by omega,by omega⟩
 have HC:Hid (Seg w (.slice bo p cb) an/\an.length<=140737488354304):=⟨hs,hz⟩
 clear hs hz
 clear hc hb2 hb3
 go_enter Tryz.func19,Tryz.ntmps19
 go_upto_region 1 with fail
 obtain ⟨W0,hW0,S0⟩:=al1' w #[.int .i64 2,.int .i64 c,.int .i64 ak,.int .i64 a1,.int .i64 a2,.int .i64 a3,.int .i64 a4,.slice ao n ca,.int .i64 3,.int .i64 b1,.int .i64 b2,.int .i64 b3,.slice bo p cb] 34
 rw [hW0]
 clear hW0
 have c0:=S0.out.1.cell 0
 have c1:=S0.out.1.cell 1
 have c2:=S0.out.1.cell 2
 have c3:=S0.out.1.cell 3
 have c4:=S0.out.1.cell 4
 have c5:=S0.out.1.cell 5
 have c6:=S0.out.1.cell 6
 have c7:=S0.out.1.cell 7
 have c8:=S0.out.1.cell 8
 have c9:=S0.out.1.cell 9
 have c10:=S0.out.1.cell 10
 have c11:=S0.out.1.cell 11
 have c12:=S0.out.1.cell 12
 simp at c0 c1 c2 c3 c4 c5 c6 c7 c8 c9 c10 c11 c12
 go_upto_region 13 with fail
 obtain ⟨W1,hW1,S1⟩:=al1' W0 #[.int .u8 2,.int .u8 c,.int .u8 3] 5
 have SA0:Hid (Acc W0 W1 (.slice (some ⟨W0.heap.size,0,none⟩) 3 3) [2,UInt8.ofNat c.toNat,3] w.heap.size 34 #[.int .i64 2,.int .i64 c,.int .i64 ak,.int .i64 a1,.int .i64 a2,.int .i64 a3,.int .i64 a4,.slice ao n ca,.int .i64 3,.int .i64 b1,.int .i64 b2,.int .i64 b3,.slice bo p cb]):=⟨by rw [<-hW1];exact own_lits W0 _ [2,UInt8.ofNat c.toNat,3] HHD.out (by simp),S1.out.2.1,S0.out.1.grown S1.out.2.1 (by simp)⟩
 rw [hW1]
 clear hW1 S1
 clear c0 c1 c2 c3 c4 c5 c6 c7 c8 c9 c10 c11 c12
 have c0:=SA0.out.blk.cell 0
 have c1:=SA0.out.blk.cell 1
 have c2:=SA0.out.blk.cell 2
 have c3:=SA0.out.blk.cell 3
 have c4:=SA0.out.blk.cell 4
 have c5:=SA0.out.blk.cell 5
 have c6:=SA0.out.blk.cell 6
 have c7:=SA0.out.blk.cell 7
 have c8:=SA0.out.blk.cell 8
 have c9:=SA0.out.blk.cell 9
 have c10:=SA0.out.blk.cell 10
 have c11:=SA0.out.blk.cell 11
 have c12:=SA0.out.blk.cell 12
 simp at c0 c1 c2 c3 c4 c5 c6 c7 c8 c9 c10 c11 c12
 go_wp2_with fail
 refine (dNum b2 b2.toNat Nb2.out.1 Nb2.out.2 W1).mono ?_
 rintro e z0 ⟨u0,rfl,o0,g0⟩
 have Y0:Hid (Acc W0 z0 (.slice (some ⟨W0.heap.size,0,none⟩) 3 3) [2,UInt8.ofNat c.toNat,3] w.heap.size 34 #[.int .i64 2,.int .i64 c,.int .i64 ak,.int .i64 a1,.int .i64 a2,.int .i64 a3,.int .i64 a4,.slice ao n ca,.int .i64 3,.int .i64 b1,.int .i64 b2,.int .i64 b3,.slice bo p cb]/\Seg z0 u0 (Wire.numForm b2.toNat)):=⟨SA0.out.call g0,o0.seg⟩
 clear o0 g0 c0 c1 c2 c3 c4 c5 c6 c7 c8 c9 c10 c11 c12
 go_wp2_with (at_builtin;refine app_acc z0 rfl _ _ rfl rfl rfl Y0.out.1 (by decide) Y0.out.2 ?c0 ?_)
 case c0=>have q0:=Lb2.out;simp;omega
 intro x0 W2 hz
 have SA1:Hid (Acc W0 W2 x0 ([2,UInt8.ofNat c.toNat,3] ++ Wire.numForm b2.toNat) w.heap.size 34 #[.int .i64 2,.int .i64 c,.int .i64 ak,.int .i64 a1,.int .i64 a2,.int .i64 a3,.int .i64 a4,.slice ao n ca,.int .i64 3,.int .i64 b1,.int .i64 b2,.int .i64 b3,.slice bo p cb]):=by unfold Hid;simpa only [List.append_assoc,List.cons_append,List.nil_append] using hz
 clear hz Y0
 have c0:=SA1.out.blk.cell 0
 have c1:=SA1.out.blk.cell 1
 have c2:=SA1.out.blk.cell 2
 have c3:=SA1.out.blk.cell 3
 have c4:=SA1.out.blk.cell 4
 have c5:=SA1.out.blk.cell 5
 have c6:=SA1.out.blk.cell 6
 have c7:=SA1.out.blk.cell 7
 have c8:=SA1.out.blk.cell 8
 have c9:=SA1.out.blk.cell 9
 have c10:=SA1.out.blk.cell 10
 have c11:=SA1.out.blk.cell 11
 have c12:=SA1.out.blk.cell 12
 simp at c0 c1 c2 c3 c4 c5 c6 c7 c8 c9 c10 c11 c12
 go_wp2_with fail
 refine (dNum b3 b3.toNat Nb3.out.1 Nb3.out.2 W2).mono ?_
 rintro e z1 ⟨u1,rfl,o1,g1⟩
 have Y1:Hid (Acc W0 z1 x0 ([2,UInt8.ofNat c.toNat,3] ++ Wire.numForm b2.toNat) w.heap.size 34 #[.int .i64 2,.int .i64 c,.int .i64 ak,.int .i64 a1,.int .i64 a2,.int .i64 a3,.int .i64 a4,.slice ao n ca,.int .i64 3,.int .i64 b1,.int .i64 b2,.int .i64 b3,.slice bo p cb]/\Seg z1 u1 (Wire.numForm b3.toNat)):=⟨SA1.out.call g1,o1.seg⟩
 clear o1 g1 c0 c1 c2 c3 c4 c5 c6 c7 c8 c9 c10 c11 c12
 go_wp2_with (at_builtin;refine app_acc z1 rfl _ _ rfl rfl rfl Y1.out.1 (by decide) Y1.out.2 ?c0 ?_)
 case c0=>have q0:=Lb2.out;have q1:=Lb3.out;simp;omega
 intro x1 W3 hz
 have SA2:Hid (Acc W0 W3 x1 (([2,UInt8.ofNat c.toNat,3] ++ Wire.numForm b2.toNat) ++ Wire.numForm b3.toNat) w.heap.size 34 #[.int .i64 2,.int .i64 c,.int .i64 ak,.int .i64 a1,.int .i64 a2,.int .i64 a3,.int .i64 a4,.slice ao n ca,.int .i64 3,.int .i64 b1,.int .i64 b2,.int .i64 b3,.slice bo p cb]):=by unfold Hid;simpa only [List.append_assoc,List.cons_append,List.nil_append] using hz
 clear hz Y1
 have c0:=SA2.out.blk.cell 0
 have c1:=SA2.out.blk.cell 1
 have c2:=SA2.out.blk.cell 2
 have c3:=SA2.out.blk.cell 3
 have c4:=SA2.out.blk.cell 4
 have c5:=SA2.out.blk.cell 5
 have c6:=SA2.out.blk.cell 6
 have c7:=SA2.out.blk.cell 7
 have c8:=SA2.out.blk.cell 8
 have c9:=SA2.out.blk.cell 9
 have c10:=SA2.out.blk.cell 10
 have c11:=SA2.out.blk.cell 11
 have c12:=SA2.out.blk.cell 12
 simp at c0 c1 c2 c3 c4 c5 c6 c7 c8 c9 c10 c11 c12
 have HSG:Hid (Seg W3 (.slice bo p cb) an):=HC.out.1.grown (grown_trans S0.out.2.1 SA2.out.grown)
 go_wp2_with (at_builtin;refine app_acc W3 rfl _ _ rfl rfl rfl SA2.out (by decide) HSG.out ?c0 ?_)
 case c0=>have q0:=Lb2.out;have q1:=Lb3.out;have q9:=HC.out.2;simp;omega
 intro x2 W4 hz
 have SA3:Hid (Acc W0 W4 x2 ((([2,UInt8.ofNat c.toNat,3] ++ Wire.numForm b2.toNat) ++ Wire.numForm b3.toNat) ++ an) w.heap.size 34 #[.int .i64 2,.int .i64 c,.int .i64 ak,.int .i64 a1,.int .i64 a2,.int .i64 a3,.int .i64 a4,.slice ao n ca,.int .i64 3,.int .i64 b1,.int .i64 b2,.int .i64 b3,.slice bo p cb]):=by unfold Hid;simpa only [List.append_assoc,List.cons_append,List.nil_append] using hz
 clear hz c0 c1 c2 c3 c4 c5 c6 c7 c8 c9 c10 c11 c12
 go_wp2_with fail
 go_ret
 exact ⟨_,rfl,SA3.out.own.mono S0.out.2.1.size,grown_trans S0.out.2.1 SA3.out.grown⟩
theorem form19_t4 (ao bo:Option Addr)(n ca p cb:Nat)(c a1 a2 a3 a4 b1 b2 b3:Int)(ak:Int)(w:World)(hc:0<=c/\c<8)(hb2:0<=b2/\b2<=9223372036854775807)(hb3:0<=b3/\b3<=9223372036854775807)(an:Bs)(hs:Seg w (.slice bo p cb) an)(hz:an.length<=140737488354304):Calls Tryz.prog 19 #[.agg #[.int .i64 2,.int .i64 c,.int .i64 ak,.int .i64 a1,.int .i64 a2,.int .i64 a3,.int .i64 a4,.slice ao n ca,.int .i64 4,.int .i64 b1,.int .i64 b2,.int .i64 b3,.slice bo p cb]] w (FormIs ((([2,UInt8.ofNat c.toNat,4] ++ Wire.numForm b2.toNat) ++ Wire.numForm b3.toNat) ++ an) w):=by
 have wc:IntKind.u8.wrap c=c:=by rw [IntKind.wrap_u8];omega
 have HHD:Hid ([Value.int .u8 2,.int .u8 c,.int .u8 4]=BV [2,UInt8.ofNat c.toNat,4]):=by
  unfold Hid BV
  have e2:((UInt8.ofNat c.toNat).toNat:Int)=c:=byte_back hc.1 (by omega)
  simp only [List.map_cons,List.map_nil,e2]
  rfl
 have wb2:IntKind.u64.wrap b2=b2:=by rw [IntKind.wrap_u64];omega
 have Lb2:Hid ((Wire.numForm b2.toNat).length<=10):=num_short _ (by omega)
 have Nb2:Hid (b2=(b2.toNat:Int)/\b2.toNat<2 ^ 64):=⟨by omega,by omega⟩
 have wb3:IntKind.u64.wrap b3=b3:=by rw [IntKind.wrap_u64];omega
 have Lb3:Hid ((Wire.numForm b3.toNat).length<=10):=num_short _ (by omega)
 have Nb3:Hid (b3=(b3.toNat:Int)/\b3.toNat<2 ^ 64):=⟨by omega,by omega⟩
 have HC:Hid (Seg w (.slice bo p cb) an/\an.length<=140737488354304):=⟨hs,hz⟩
 clear hs hz
 clear hc hb2 hb3
 go_enter Tryz.func19,Tryz.ntmps19
 go_upto_region 1 with fail
 obtain ⟨W0,hW0,S0⟩:=al1' w #[.int .i64 2,.int .i64 c,.int .i64 ak,.int .i64 a1,.int .i64 a2,.int .i64 a3,.int .i64 a4,.slice ao n ca,.int .i64 4,.int .i64 b1,.int .i64 b2,.int .i64 b3,.slice bo p cb] 34
 rw [hW0]
 clear hW0
 have c0:=S0.out.1.cell 0
 have c1:=S0.out.1.cell 1
 have c2:=S0.out.1.cell 2
 have c3:=S0.out.1.cell 3
 have c4:=S0.out.1.cell 4
 have c5:=S0.out.1.cell 5
 have c6:=S0.out.1.cell 6
 have c7:=S0.out.1.cell 7
 have c8:=S0.out.1.cell 8
 have c9:=S0.out.1.cell 9
 have c10:=S0.out.1.cell 10
 have c11:=S0.out.1.cell 11
 have c12:=S0.out.1.cell 12
 simp at c0 c1 c2 c3 c4 c5 c6 c7 c8 c9 c10 c11 c12
 go_upto_region 13 with fail
 obtain ⟨W1,hW1,S1⟩:=al1' W0 #[.int .u8 2,.int .u8 c,.int .u8 4] 5
 have SA0:Hid (Acc W0 W1 (.slice (some ⟨W0.heap.size,0,none⟩) 3 3) [2,UInt8.ofNat c.toNat,4] w.heap.size 34 #[.int .i64 2,.int .i64 c,.int .i64 ak,.int .i64 a1,.int .i64 a2,.int .i64 a3,.int .i64 a4,.slice ao n ca,.int .i64 4,.int .i64 b1,.int .i64 b2,.int .i64 b3,.slice bo p cb]):=⟨by rw [<-hW1];exact own_lits W0 _ [2,UInt8.ofNat c.toNat,4] HHD.out (by simp),S1.out.2.1,S0.out.1.grown S1.out.2.1 (by simp)⟩
 rw [hW1]
 clear hW1 S1
 clear c0 c1 c2 c3 c4 c5 c6 c7 c8 c9 c10 c11 c12
 have c0:=SA0.out.blk.cell 0
 have c1:=SA0.out.blk.cell 1
 have c2:=SA0.out.blk.cell 2
 have c3:=SA0.out.blk.cell 3
 have c4:=SA0.out.blk.cell 4
 have c5:=SA0.out.blk.cell 5
 have c6:=SA0.out.blk.cell 6
 have c7:=SA0.out.blk.cell 7
 have c8:=SA0.out.blk.cell 8
 have c9:=SA0.out.blk.cell 9
 have c10:=SA0.out.blk.cell 10
 have c11:=SA0.out.blk.cell 11
 have c12:=SA0.out.blk.cell 12
 simp at c0 c1 c2 c3 c4 c5 c6 c7 c8 c9 c10 c11 c12
 go_wp2_with fail
 refine (dNum b2 b2.toNat Nb2.out.1 Nb2.out.2 W1).mono ?_
 rintro e z0 ⟨u0,rfl,o0,g0⟩
 have Y0:Hid (Acc W0 z0 (.slice (some ⟨W0.heap.size,0,none⟩) 3 3) [2,UInt8.ofNat c.toNat,4] w.heap.size 34 #[.int .i64 2,.int .i64 c,.int .i64 ak,.int .i64 a1,.int .i64 a2,.int .i64 a3,.int .i64 a4,.slice ao n ca,.int .i64 4,.int .i64 b1,.int .i64 b2,.int .i64 b3,.slice bo p cb]/\Seg z0 u0 (Wire.numForm b2.toNat)):=⟨SA0.out.call g0,o0.seg⟩
 clear o0 g0 c0 c1 c2 c3 c4 c5 c6 c7 c8 c9 c10 c11 c12
 go_wp2_with (at_builtin;refine app_acc z0 rfl _ _ rfl rfl rfl Y0.out.1 (by decide) Y0.out.2 ?c0 ?_)
 case c0=>have q0:=Lb2.out;simp;omega
 intro x0 W2 hz
 have SA1:Hid (Acc W0 W2 x0 ([2,UInt8.ofNat c.toNat,4] ++ Wire.numForm b2.toNat) w.heap.size 34 #[.int .i64 2,.int .i64 c,.int .i64 ak,.int .i64 a1,.int .i64 a2,.int .i64 a3,.int .i64 a4,.slice ao n ca,.int .i64 4,.int .i64 b1,.int .i64 b2,.int .i64 b3,.slice bo p cb]):=by unfold Hid;simpa only [List.append_assoc,List.cons_append,List.nil_append] using hz
 clear hz Y0
 have c0:=SA1.out.blk.cell 0
 have c1:=SA1.out.blk.cell 1
 have c2:=SA1.out.blk.cell 2
 have c3:=SA1.out.blk.cell 3
 have c4:=SA1.out.blk.cell 4
 have c5:=SA1.out.blk.cell 5
 have c6:=SA1.out.blk.cell 6
 have c7:=SA1.out.blk.cell 7
 have c8:=SA1.out.blk.cell 8
 have c9:=SA1.out.blk.cell 9
 have c10:=SA1.out.blk.cell 10
 have c11:=SA1.out.blk.cell 11
 have c12:=SA1.out.blk.cell 12
 simp at c0 c1 c2 c3 c4 c5 c6 c7 c8 c9 c10 c11 c12
 go_wp2_with fail
 refine (dNum b3 b3.toNat Nb3.out.1 Nb3.out.2 W2).mono ?_
 rintro e z1 ⟨u1,rfl,o1,g1⟩
 have Y1:Hid (Acc W0 z1 x0 ([2,UInt8.ofNat c.toNat,4] ++ Wire.numForm b2.toNat) w.heap.size 34 #[.int .i64 2,.int .i64 c,.int .i64 ak,.int .i64 a1,.int .i64 a2,.int .i64 a3,.int .i64 a4,.slice ao n ca,.int .i64 4,.int .i64 b1,.int .i64 b2,.int .i64 b3,.slice bo p cb]/\Seg z1 u1 (Wire.numForm b3.toNat)):=⟨SA1.out.call g1,o1.seg⟩
 clear o1 g1 c0 c1 c2 c3 c4 c5 c6 c7 c8 c9 c10 c11 c12
 go_wp2_with (at_builtin;refine app_acc z1 rfl _ _ rfl rfl rfl Y1.out.1 (by decide) Y1.out.2 ?c0 ?_)
 case c0=>have q0:=Lb2.out;have q1:=Lb3.out;simp;omega
 intro x1 W3 hz
 have SA2:Hid (Acc W0 W3 x1 (([2,UInt8.ofNat c.toNat,4] ++ Wire.numForm b2.toNat) ++ Wire.numForm b3.toNat) w.heap.size 34 #[.int .i64 2,.int .i64 c,.int .i64 ak,.int .i64 a1,.int .i64 a2,.int .i64 a3,.int .i64 a4,.slice ao n ca,.int .i64 4,.int .i64 b1,.int .i64 b2,.int .i64 b3,.slice bo p cb]):=by unfold Hid;simpa only [List.append_assoc,List.cons_append,List.nil_append] using hz
 clear hz Y1
 have c0:=SA2.out.blk.cell 0
 have c1:=SA2.out.blk.cell 1
 have c2:=SA2.out.blk.cell 2
 have c3:=SA2.out.blk.cell 3
 have c4:=SA2.out.blk.cell 4
 have c5:=SA2.out.blk.cell 5
 have c6:=SA2.out.blk.cell 6
 have c7:=SA2.out.blk.cell 7
 have c8:=SA2.out.blk.cell 8
 have c9:=SA2.out.blk.cell 9
 have c10:=SA2.out.blk.cell 10
 have c11:=SA2.out.blk.cell 11
 have c12:=SA2.out.blk.cell 12
 simp at c0 c1 c2 c3 c4 c5 c6 c7 c8 c9 c10 c11 c12
 have HSG:Hid (Seg W3 (.slice bo p cb) an):=HC.out.1.grown (grown_trans S0.out.2.1 SA2.out.grown)
 go_wp2_with (at_builtin;refine app_acc W3 rfl _ _ rfl rfl rfl SA2.out (by decide) HSG.out ?c0 ?_)
 case c0=>have q0:=Lb2.out;have q1:=Lb3.out;have q9:=HC.out.2;simp;omega
 intro x2 W4 hz
 have SA3:Hid (Acc W0 W4 x2 ((([2,UInt8.ofNat c.toNat,4] ++ Wire.numForm b2.toNat) ++ Wire.numForm b3.toNat) ++ an) w.heap.size 34 #[.int .i64 2,.int .i64 c,.int .i64 ak,.int .i64 a1,.int .i64 a2,.int .i64 a3,.int .i64 a4,.slice ao n ca,.int .i64 4,.int .i64 b1,.int .i64 b2,.int .i64 b3,.slice bo p cb]):=by unfold Hid;simpa only [List.append_assoc,List.cons_append,List.nil_append] using hz
 clear hz c0 c1 c2 c3 c4 c5 c6 c7 c8 c9 c10 c11 c12
 go_wp2_with fail
 go_ret
 exact ⟨_,rfl,SA3.out.own.mono S0.out.2.1.size,grown_trans S0.out.2.1 SA3.out.grown⟩
theorem form19_t5 (ao bo:Option Addr)(n ca p cb:Nat)(c a1 a2 a3 a4 b1 b2 b3:Int)(ak:Int)(w:World)(hc:0<=c/\c<8)(hb2:0<=b2/\b2<=9223372036854775807)(hb3:0<=b3/\b3<=9223372036854775807)(an:Bs)(hs:Seg w (.slice bo p cb) an)(hz:an.length<=140737488354304):Calls Tryz.prog 19 #[.agg #[.int .i64 2,.int .i64 c,.int .i64 ak,.int .i64 a1,.int .i64 a2,.int .i64 a3,.int .i64 a4,.slice ao n ca,.int .i64 5,.int .i64 b1,.int .i64 b2,.int .i64 b3,.slice bo p cb]] w (FormIs ((([2,UInt8.ofNat c.toNat,5] ++ Wire.numForm b2.toNat) ++ Wire.numForm b3.toNat) ++ an) w):=by
 have wc:IntKind.u8.wrap c=c:=by rw [IntKind.wrap_u8];omega
 have HHD:Hid ([Value.int .u8 2,.int .u8 c,.int .u8 5]=BV [2,UInt8.ofNat c.toNat,5]):=by
  unfold Hid BV
  have e2:((UInt8.ofNat c.toNat).toNat:Int)=c:=byte_back hc.1 (by omega)
  simp only [List.map_cons,List.map_nil,e2]
  rfl
 have wb2:IntKind.u64.wrap b2=b2:=by rw [IntKind.wrap_u64];omega
 have Lb2:Hid ((Wire.numForm b2.toNat).length<=10):=num_short _ (by omega)
 have Nb2:Hid (b2=(b2.toNat:Int)/\b2.toNat<2 ^ 64):=⟨by omega,by omega⟩
 have wb3:IntKind.u64.wrap b3=b3:=by rw [IntKind.wrap_u64];omega
 have Lb3:Hid ((Wire.numForm b3.toNat).length<=10):=num_short _ (by omega)
 have Nb3:Hid (b3=(b3.toNat:Int)/\b3.toNat<2 ^ 64):=⟨by omega,by omega⟩
 have HC:Hid (Seg w (.slice bo p cb) an/\an.length<=140737488354304):=⟨hs,hz⟩
 clear hs hz
 clear hc hb2 hb3
 go_enter Tryz.func19,Tryz.ntmps19
 go_upto_region 1 with fail
 obtain ⟨W0,hW0,S0⟩:=al1' w #[.int .i64 2,.int .i64 c,.int .i64 ak,.int .i64 a1,.int .i64 a2,.int .i64 a3,.int .i64 a4,.slice ao n ca,.int .i64 5,.int .i64 b1,.int .i64 b2,.int .i64 b3,.slice bo p cb] 34
 rw [hW0]
 clear hW0
 have c0:=S0.out.1.cell 0
 have c1:=S0.out.1.cell 1
 have c2:=S0.out.1.cell 2
 have c3:=S0.out.1.cell 3
 have c4:=S0.out.1.cell 4
 have c5:=S0.out.1.cell 5
 have c6:=S0.out.1.cell 6
 have c7:=S0.out.1.cell 7
 have c8:=S0.out.1.cell 8
 have c9:=S0.out.1.cell 9
 have c10:=S0.out.1.cell 10
 have c11:=S0.out.1.cell 11
 have c12:=S0.out.1.cell 12
 simp at c0 c1 c2 c3 c4 c5 c6 c7 c8 c9 c10 c11 c12
 go_upto_region 13 with fail
 obtain ⟨W1,hW1,S1⟩:=al1' W0 #[.int .u8 2,.int .u8 c,.int .u8 5] 5
 have SA0:Hid (Acc W0 W1 (.slice (some ⟨W0.heap.size,0,none⟩) 3 3) [2,UInt8.ofNat c.toNat,5] w.heap.size 34 #[.int .i64 2,.int .i64 c,.int .i64 ak,.int .i64 a1,.int .i64 a2,.int .i64 a3,.int .i64 a4,.slice ao n ca,.int .i64 5,.int .i64 b1,.int .i64 b2,.int .i64 b3,.slice bo p cb]):=⟨by rw [<-hW1];exact own_lits W0 _ [2,UInt8.ofNat c.toNat,5] HHD.out (by simp),S1.out.2.1,S0.out.1.grown S1.out.2.1 (by simp)⟩
 rw [hW1]
 clear hW1 S1
 clear c0 c1 c2 c3 c4 c5 c6 c7 c8 c9 c10 c11 c12
 have c0:=SA0.out.blk.cell 0
 have c1:=SA0.out.blk.cell 1
 have c2:=SA0.out.blk.cell 2
 have c3:=SA0.out.blk.cell 3
 have c4:=SA0.out.blk.cell 4
 have c5:=SA0.out.blk.cell 5
 have c6:=SA0.out.blk.cell 6
 have c7:=SA0.out.blk.cell 7
 have c8:=SA0.out.blk.cell 8
 have c9:=SA0.out.blk.cell 9
 have c10:=SA0.out.blk.cell 10
 have c11:=SA0.out.blk.cell 11
 have c12:=SA0.out.blk.cell 12
 simp at c0 c1 c2 c3 c4 c5 c6 c7 c8 c9 c10 c11 c12
 go_wp2_with fail
 refine (dNum b2 b2.toNat Nb2.out.1 Nb2.out.2 W1).mono ?_
 rintro e z0 ⟨u0,rfl,o0,g0⟩
 have Y0:Hid (Acc W0 z0 (.slice (some ⟨W0.heap.size,0,none⟩) 3 3) [2,UInt8.ofNat c.toNat,5] w.heap.size 34 #[.int .i64 2,.int .i64 c,.int .i64 ak,.int .i64 a1,.int .i64 a2,.int .i64 a3,.int .i64 a4,.slice ao n ca,.int .i64 5,.int .i64 b1,.int .i64 b2,.int .i64 b3,.slice bo p cb]/\Seg z0 u0 (Wire.numForm b2.toNat)):=⟨SA0.out.call g0,o0.seg⟩
 clear o0 g0 c0 c1 c2 c3 c4 c5 c6 c7 c8 c9 c10 c11 c12
 go_wp2_with (at_builtin;refine app_acc z0 rfl _ _ rfl rfl rfl Y0.out.1 (by decide) Y0.out.2 ?c0 ?_)
 case c0=>have q0:=Lb2.out;simp;omega
 intro x0 W2 hz
 have SA1:Hid (Acc W0 W2 x0 ([2,UInt8.ofNat c.toNat,5] ++ Wire.numForm b2.toNat) w.heap.size 34 #[.int .i64 2,.int .i64 c,.int .i64 ak,.int .i64 a1,.int .i64 a2,.int .i64 a3,.int .i64 a4,.slice ao n ca,.int .i64 5,.int .i64 b1,.int .i64 b2,.int .i64 b3,.slice bo p cb]):=by unfold Hid;simpa only [List.append_assoc,List.cons_append,List.nil_append] using hz
 clear hz Y0
 have c0:=SA1.out.blk.cell 0
 have c1:=SA1.out.blk.cell 1
 have c2:=SA1.out.blk.cell 2
 have c3:=SA1.out.blk.cell 3
 have c4:=SA1.out.blk.cell 4
 have c5:=SA1.out.blk.cell 5
 have c6:=SA1.out.blk.cell 6
 have c7:=SA1.out.blk.cell 7
 have c8:=SA1.out.blk.cell 8
 have c9:=SA1.out.blk.cell 9
 have c10:=SA1.out.blk.cell 10
 have c11:=SA1.out.blk.cell 11
 have c12:=SA1.out.blk.cell 12
 simp at c0 c1 c2 c3 c4 c5 c6 c7 c8 c9 c10 c11 c12
 go_wp2_with fail
 refine (dNum b3 b3.toNat Nb3.out.1 Nb3.out.2 W2).mono ?_
 rintro e z1 ⟨u1,rfl,o1,g1⟩
 have Y1:Hid (Acc W0 z1 x0 ([2,UInt8.ofNat c.toNat,5] ++ Wire.numForm b2.toNat) w.heap.size 34 #[.int .i64 2,.int .i64 c,.int .i64 ak,.int .i64 a1,.int .i64 a2,.int .i64 a3,.int .i64 a4,.slice ao n ca,.int .i64 5,.int .i64 b1,.int .i64 b2,.int .i64 b3,.slice bo p cb]/\Seg z1 u1 (Wire.numForm b3.toNat)):=⟨SA1.out.call g1,o1.seg⟩
 clear o1 g1 c0 c1 c2 c3 c4 c5 c6 c7 c8 c9 c10 c11 c12
 go_wp2_with (at_builtin;refine app_acc z1 rfl _ _ rfl rfl rfl Y1.out.1 (by decide) Y1.out.2 ?c0 ?_)
 case c0=>have q0:=Lb2.out;have q1:=Lb3.out;simp;omega
 intro x1 W3 hz
 have SA2:Hid (Acc W0 W3 x1 (([2,UInt8.ofNat c.toNat,5] ++ Wire.numForm b2.toNat) ++ Wire.numForm b3.toNat) w.heap.size 34 #[.int .i64 2,.int .i64 c,.int .i64 ak,.int .i64 a1,.int .i64 a2,.int .i64 a3,.int .i64 a4,.slice ao n ca,.int .i64 5,.int .i64 b1,.int .i64 b2,.int .i64 b3,.slice bo p cb]):=by unfold Hid;simpa only [List.append_assoc,List.cons_append,List.nil_append] using hz
 clear hz Y1
 have c0:=SA2.out.blk.cell 0
 have c1:=SA2.out.blk.cell 1
 have c2:=SA2.out.blk.cell 2
 have c3:=SA2.out.blk.cell 3
 have c4:=SA2.out.blk.cell 4
 have c5:=SA2.out.blk.cell 5
 have c6:=SA2.out.blk.cell 6
 have c7:=SA2.out.blk.cell 7
 have c8:=SA2.out.blk.cell 8
 have c9:=SA2.out.blk.cell 9
 have c10:=SA2.out.blk.cell 10
 have c11:=SA2.out.blk.cell 11
 have c12:=SA2.out.blk.cell 12
 simp at c0 c1 c2 c3 c4 c5 c6 c7 c8 c9 c10 c11 c12
 have HSG:Hid (Seg W3 (.slice bo p cb) an):=HC.out.1.grown (grown_trans S0.out.2.1 SA2.out.grown)
 go_wp2_with (at_builtin;refine app_acc W3 rfl _ _ rfl rfl rfl SA2.out (by decide) HSG.out ?c0 ?_)
 case c0=>have q0:=Lb2.out;have q1:=Lb3.out;have q9:=HC.out.2;simp;omega
 intro x2 W4 hz
 have SA3:Hid (Acc W0 W4 x2 ((([2,UInt8.ofNat c.toNat,5] ++ Wire.numForm b2.toNat) ++ Wire.numForm b3.toNat) ++ an) w.heap.size 34 #[.int .i64 2,.int .i64 c,.int .i64 ak,.int .i64 a1,.int .i64 a2,.int .i64 a3,.int .i64 a4,.slice ao n ca,.int .i64 5,.int .i64 b1,.int .i64 b2,.int .i64 b3,.slice bo p cb]):=by unfold Hid;simpa only [List.append_assoc,List.cons_append,List.nil_append] using hz
 clear hz c0 c1 c2 c3 c4 c5 c6 c7 c8 c9 c10 c11 c12
 go_wp2_with fail
 go_ret
 exact ⟨_,rfl,SA3.out.own.mono S0.out.2.1.size,grown_trans S0.out.2.1 SA3.out.grown⟩
theorem form19_t6 (ao bo:Option Addr)(n ca p cb:Nat)(c a1 a2 a3 a4 b1 b2 b3:Int)(ak:Int)(w:World)(hc:0<=c/\c<8)(hb2:0<=b2/\b2<=9223372036854775807)(hb3:0<=b3/\b3<=9223372036854775807)(an:Bs)(hs:Seg w (.slice bo p cb) an)(hz:an.length<=140737488354304):Calls Tryz.prog 19 #[.agg #[.int .i64 2,.int .i64 c,.int .i64 ak,.int .i64 a1,.int .i64 a2,.int .i64 a3,.int .i64 a4,.slice ao n ca,.int .i64 6,.int .i64 b1,.int .i64 b2,.int .i64 b3,.slice bo p cb]] w (FormIs ((([2,UInt8.ofNat c.toNat,6] ++ Wire.numForm b2.toNat) ++ Wire.numForm b3.toNat) ++ an) w):=by
 have wc:IntKind.u8.wrap c=c:=by rw [IntKind.wrap_u8];omega
 have HHD:Hid ([Value.int .u8 2,.int .u8 c,.int .u8 6]=BV [2,UInt8.ofNat c.toNat,6]):=by
  unfold Hid BV
  have e2:((UInt8.ofNat c.toNat).toNat:Int)=c:=byte_back hc.1 (by omega)
  simp only [List.map_cons,List.map_nil,e2]
  rfl
 have wb2:IntKind.u64.wrap b2=b2:=by rw [IntKind.wrap_u64];omega
 have Lb2:Hid ((Wire.numForm b2.toNat).length<=10):=num_short _ (by omega)
 have Nb2:Hid (b2=(b2.toNat:Int)/\b2.toNat<2 ^ 64):=⟨by omega,by omega⟩
 have wb3:IntKind.u64.wrap b3=b3:=by rw [IntKind.wrap_u64];omega
 have Lb3:Hid ((Wire.numForm b3.toNat).length<=10):=num_short _ (by omega)
 have Nb3:Hid (b3=(b3.toNat:Int)/\b3.toNat<2 ^ 64):=⟨by omega,by omega⟩
 have HC:Hid (Seg w (.slice bo p cb) an/\an.length<=140737488354304):=⟨hs,hz⟩
 clear hs hz
 clear hc hb2 hb3
 go_enter Tryz.func19,Tryz.ntmps19
 go_upto_region 1 with fail
 obtain ⟨W0,hW0,S0⟩:=al1' w #[.int .i64 2,.int .i64 c,.int .i64 ak,.int .i64 a1,.int .i64 a2,.int .i64 a3,.int .i64 a4,.slice ao n ca,.int .i64 6,.int .i64 b1,.int .i64 b2,.int .i64 b3,.slice bo p cb] 34
 rw [hW0]
 clear hW0
 have c0:=S0.out.1.cell 0
 have c1:=S0.out.1.cell 1
 have c2:=S0.out.1.cell 2
 have c3:=S0.out.1.cell 3
 have c4:=S0.out.1.cell 4
 have c5:=S0.out.1.cell 5
 have c6:=S0.out.1.cell 6
 have c7:=S0.out.1.cell 7
 have c8:=S0.out.1.cell 8
 have c9:=S0.out.1.cell 9
 have c10:=S0.out.1.cell 10
 have c11:=S0.out.1.cell 11
 have c12:=S0.out.1.cell 12
 simp at c0 c1 c2 c3 c4 c5 c6 c7 c8 c9 c10 c11 c12
 go_upto_region 13 with fail
 obtain ⟨W1,hW1,S1⟩:=al1' W0 #[.int .u8 2,.int .u8 c,.int .u8 6] 5
 have SA0:Hid (Acc W0 W1 (.slice (some ⟨W0.heap.size,0,none⟩) 3 3) [2,UInt8.ofNat c.toNat,6] w.heap.size 34 #[.int .i64 2,.int .i64 c,.int .i64 ak,.int .i64 a1,.int .i64 a2,.int .i64 a3,.int .i64 a4,.slice ao n ca,.int .i64 6,.int .i64 b1,.int .i64 b2,.int .i64 b3,.slice bo p cb]):=⟨by rw [<-hW1];exact own_lits W0 _ [2,UInt8.ofNat c.toNat,6] HHD.out (by simp),S1.out.2.1,S0.out.1.grown S1.out.2.1 (by simp)⟩
 rw [hW1]
 clear hW1 S1
 clear c0 c1 c2 c3 c4 c5 c6 c7 c8 c9 c10 c11 c12
 have c0:=SA0.out.blk.cell 0
 have c1:=SA0.out.blk.cell 1
 have c2:=SA0.out.blk.cell 2
 have c3:=SA0.out.blk.cell 3
 have c4:=SA0.out.blk.cell 4
 have c5:=SA0.out.blk.cell 5
 have c6:=SA0.out.blk.cell 6
 have c7:=SA0.out.blk.cell 7
 have c8:=SA0.out.blk.cell 8
 have c9:=SA0.out.blk.cell 9
 have c10:=SA0.out.blk.cell 10
 have c11:=SA0.out.blk.cell 11
 have c12:=SA0.out.blk.cell 12
 simp at c0 c1 c2 c3 c4 c5 c6 c7 c8 c9 c10 c11 c12
 go_wp2_with fail
 refine (dNum b2 b2.toNat Nb2.out.1 Nb2.out.2 W1).mono ?_
 rintro e z0 ⟨u0,rfl,o0,g0⟩
 have Y0:Hid (Acc W0 z0 (.slice (some ⟨W0.heap.size,0,none⟩) 3 3) [2,UInt8.ofNat c.toNat,6] w.heap.size 34 #[.int .i64 2,.int .i64 c,.int .i64 ak,.int .i64 a1,.int .i64 a2,.int .i64 a3,.int .i64 a4,.slice ao n ca,.int .i64 6,.int .i64 b1,.int .i64 b2,.int .i64 b3,.slice bo p cb]/\Seg z0 u0 (Wire.numForm b2.toNat)):=⟨SA0.out.call g0,o0.seg⟩
 clear o0 g0 c0 c1 c2 c3 c4 c5 c6 c7 c8 c9 c10 c11 c12
 go_wp2_with (at_builtin;refine app_acc z0 rfl _ _ rfl rfl rfl Y0.out.1 (by decide) Y0.out.2 ?c0 ?_)
 case c0=>have q0:=Lb2.out;simp;omega
 intro x0 W2 hz
 have SA1:Hid (Acc W0 W2 x0 ([2,UInt8.ofNat c.toNat,6] ++ Wire.numForm b2.toNat) w.heap.size 34 #[.int .i64 2,.int .i64 c,.int .i64 ak,.int .i64 a1,.int .i64 a2,.int .i64 a3,.int .i64 a4,.slice ao n ca,.int .i64 6,.int .i64 b1,.int .i64 b2,.int .i64 b3,.slice bo p cb]):=by unfold Hid;simpa only [List.append_assoc,List.cons_append,List.nil_append] using hz
 clear hz Y0
 have c0:=SA1.out.blk.cell 0
 have c1:=SA1.out.blk.cell 1
 have c2:=SA1.out.blk.cell 2
 have c3:=SA1.out.blk.cell 3
 have c4:=SA1.out.blk.cell 4
 have c5:=SA1.out.blk.cell 5
 have c6:=SA1.out.blk.cell 6
 have c7:=SA1.out.blk.cell 7
 have c8:=SA1.out.blk.cell 8
 have c9:=SA1.out.blk.cell 9
 have c10:=SA1.out.blk.cell 10
 have c11:=SA1.out.blk.cell 11
 have c12:=SA1.out.blk.cell 12
 simp at c0 c1 c2 c3 c4 c5 c6 c7 c8 c9 c10 c11 c12
 go_wp2_with fail
 refine (dNum b3 b3.toNat Nb3.out.1 Nb3.out.2 W2).mono ?_
 rintro e z1 ⟨u1,rfl,o1,g1⟩
 have Y1:Hid (Acc W0 z1 x0 ([2,UInt8.ofNat c.toNat,6] ++ Wire.numForm b2.toNat) w.heap.size 34 #[.int .i64 2,.int .i64 c,.int .i64 ak,.int .i64 a1,.int .i64 a2,.int .i64 a3,.int .i64 a4,.slice ao n ca,.int .i64 6,.int .i64 b1,.int .i64 b2,.int .i64 b3,.slice bo p cb]/\Seg z1 u1 (Wire.numForm b3.toNat)):=⟨SA1.out.call g1,o1.seg⟩
 clear o1 g1 c0 c1 c2 c3 c4 c5 c6 c7 c8 c9 c10 c11 c12
 go_wp2_with (at_builtin;refine app_acc z1 rfl _ _ rfl rfl rfl Y1.out.1 (by decide) Y1.out.2 ?c0 ?_)
 case c0=>have q0:=Lb2.out;have q1:=Lb3.out;simp;omega
 intro x1 W3 hz
 have SA2:Hid (Acc W0 W3 x1 (([2,UInt8.ofNat c.toNat,6] ++ Wire.numForm b2.toNat) ++ Wire.numForm b3.toNat) w.heap.size 34 #[.int .i64 2,.int .i64 c,.int .i64 ak,.int .i64 a1,.int .i64 a2,.int .i64 a3,.int .i64 a4,.slice ao n ca,.int .i64 6,.int .i64 b1,.int .i64 b2,.int .i64 b3,.slice bo p cb]):=by unfold Hid;simpa only [List.append_assoc,List.cons_append,List.nil_append] using hz
 clear hz Y1
 have c0:=SA2.out.blk.cell 0
 have c1:=SA2.out.blk.cell 1
 have c2:=SA2.out.blk.cell 2
 have c3:=SA2.out.blk.cell 3
 have c4:=SA2.out.blk.cell 4
 have c5:=SA2.out.blk.cell 5
 have c6:=SA2.out.blk.cell 6
 have c7:=SA2.out.blk.cell 7
 have c8:=SA2.out.blk.cell 8
 have c9:=SA2.out.blk.cell 9
 have c10:=SA2.out.blk.cell 10
 have c11:=SA2.out.blk.cell 11
 have c12:=SA2.out.blk.cell 12
 simp at c0 c1 c2 c3 c4 c5 c6 c7 c8 c9 c10 c11 c12
 have HSG:Hid (Seg W3 (.slice bo p cb) an):=HC.out.1.grown (grown_trans S0.out.2.1 SA2.out.grown)
 go_wp2_with (at_builtin;refine app_acc W3 rfl _ _ rfl rfl rfl SA2.out (by decide) HSG.out ?c0 ?_)
 case c0=>have q0:=Lb2.out;have q1:=Lb3.out;have q9:=HC.out.2;simp;omega
 intro x2 W4 hz
 have SA3:Hid (Acc W0 W4 x2 ((([2,UInt8.ofNat c.toNat,6] ++ Wire.numForm b2.toNat) ++ Wire.numForm b3.toNat) ++ an) w.heap.size 34 #[.int .i64 2,.int .i64 c,.int .i64 ak,.int .i64 a1,.int .i64 a2,.int .i64 a3,.int .i64 a4,.slice ao n ca,.int .i64 6,.int .i64 b1,.int .i64 b2,.int .i64 b3,.slice bo p cb]):=by unfold Hid;simpa only [List.append_assoc,List.cons_append,List.nil_append] using hz
 clear hz c0 c1 c2 c3 c4 c5 c6 c7 c8 c9 c10 c11 c12
 go_wp2_with fail
 go_ret
 exact ⟨_,rfl,SA3.out.own.mono S0.out.2.1.size,grown_trans S0.out.2.1 SA3.out.grown⟩
end Go.Proofs.YtncbdhdfemidlaaGreat
