import Derived.Test.YtanoabliahcbeaaGreatKacAll
set_option maxHeartbeats 2000000
set_option maxRecDepth 100000
namespace Go.Proofs.YtanoabliahcbeaaGreat.Wn
open Go.RowKit Disk
structure PCfg where
 rows:Int
 bytes:Int
 window:Int
 queue:Int
 wait:Int
 timeout:Int
 idle:Int
 log:Int
def cfgV (c:PCfg):Value:=.agg #[.int .i64 c.rows,.int .i64 c.bytes,.int .i64 c.window,.int .i64 c.queue,.int .i64 c.wait,.int .i64 c.timeout,.int .i64 c.idle,.int .i64 c.log]
def cfgC (c:PCfg):Array Value:=#[.int .i64 c.rows,.int .i64 c.bytes,.int .i64 c.window,.int .i64 c.queue,.int .i64 c.wait,.int .i64 c.timeout,.int .i64 c.idle,.int .i64 c.log]
def upTo (m x:Int):Bool:=decide (1<=x/\x<=m)
def mayCfg (c:PCfg):Bool:=upTo 4096 c.rows && upTo 1048576 c.bytes && upTo 64 c.window && upTo 1024 c.queue && upTo 1024 c.wait && upTo 1048576 c.log && upTo 1099511627776 c.timeout && upTo 1099511627776 c.idle
theorem cells8 {w:World}{b t:Nat}{c0 c1 c2 c3 c4 c5 c6 c7:Value}(h:Blk w b t #[c0,c1,c2,c3,c4,c5,c6,c7]):w.cell? ⟨b,0,none⟩=some c0/\w.cell? ⟨b,1,none⟩=some c1/\w.cell? ⟨b,2,none⟩=some c2/\w.cell? ⟨b,3,none⟩=some c3/\w.cell? ⟨b,4,none⟩=some c4/\w.cell? ⟨b,5,none⟩=some c5/\w.cell? ⟨b,6,none⟩=some c6/\w.cell? ⟨b,7,none⟩=some c7 :=
 ⟨h.cell 0,h.cell 1,h.cell 2,h.cell 3,h.cell 4,h.cell 5,h.cell 6,h.cell 7⟩
theorem up52 (m x:Int)(w:World):Calls Tryz.prog 52 #[.int .i64 m,.int .i64 x] w fun e w'=>e=.returned (.bool (upTo m x))/\w'=w:=by
 by_cases h:1<=x
 ·go_enter Tryz.func52,Tryz.ntmps52
  go_wp2
  go_ret
  exact ⟨by simp [upTo,h],rfl⟩
 ·go_enter Tryz.func52,Tryz.ntmps52
  go_wp2
  go_ret
  exact ⟨by simp [upTo];omega,rfl⟩
theorem up53 (m x:Int)(w:World):Calls Tryz.prog 53 #[.int .i64 m,.int .i64 x] w fun e w'=>e=.returned (.bool (upTo m x))/\w'=w:=by
 by_cases h:1<=x
 ·go_enter Tryz.func53,Tryz.ntmps53
  go_wp2
  go_ret
  exact ⟨by simp [upTo,h],rfl⟩
 ·go_enter Tryz.func53,Tryz.ntmps53
  go_wp2
  go_ret
  exact ⟨by simp [upTo];omega,rfl⟩
theorem few54 (m x:Int)(w:World):Calls Tryz.prog 54 #[.int .i64 x,.int .i64 m] w fun e w'=>e=.returned (.bool (upTo m x))/\w'=w:=by
 by_cases h:1<=x
 ·go_enter Tryz.func54,Tryz.ntmps54
  go_wp2
  go_ret
  exact ⟨by simp [upTo,h],rfl⟩
 ·go_enter Tryz.func54,Tryz.ntmps54
  go_wp2
  go_ret
  exact ⟨by simp [upTo];omega,rfl⟩
theorem tick55 (x:Int)(w:World):Calls Tryz.prog 55 #[.int .i64 x] w fun e w'=>e=.returned (.bool (upTo 1099511627776 x))/\w'=w:=by
 by_cases h:1<=x
 ·go_enter Tryz.func55,Tryz.ntmps55
  go_wp2
  go_ret
  exact ⟨by simp [upTo,h],rfl⟩
 ·go_enter Tryz.func55,Tryz.ntmps55
  go_wp2
  go_ret
  exact ⟨by simp [upTo];omega,rfl⟩
theorem mayBe27 (c:PCfg)(w:World):Calls Tryz.prog 27 #[cfgV c] w fun e w'=>e=.returned (.bool (mayCfg c))/\w.grownBy w' none:=by
 obtain ⟨x0,x1,x2,x3,x4,x5,x6,x7⟩:=c
 obtain ⟨d0,hd0⟩:∃d,upTo 4096 x0=d:=⟨_,rfl⟩
 have HD0:Hid (upTo 4096 x0=d0):=hd0
 clear hd0
 obtain ⟨d1,hd1⟩:∃d,upTo 1048576 x1=d:=⟨_,rfl⟩
 have HD1:Hid (upTo 1048576 x1=d1):=hd1
 clear hd1
 obtain ⟨d2,hd2⟩:∃d,upTo 64 x2=d:=⟨_,rfl⟩
 have HD2:Hid (upTo 64 x2=d2):=hd2
 clear hd2
 obtain ⟨d3,hd3⟩:∃d,upTo 1024 x3=d:=⟨_,rfl⟩
 have HD3:Hid (upTo 1024 x3=d3):=hd3
 clear hd3
 obtain ⟨d4,hd4⟩:∃d,upTo 1024 x4=d:=⟨_,rfl⟩
 have HD4:Hid (upTo 1024 x4=d4):=hd4
 clear hd4
 obtain ⟨d5,hd5⟩:∃d,upTo 1099511627776 x5=d:=⟨_,rfl⟩
 have HD5:Hid (upTo 1099511627776 x5=d5):=hd5
 clear hd5
 obtain ⟨d6,hd6⟩:∃d,upTo 1099511627776 x6=d:=⟨_,rfl⟩
 have HD6:Hid (upTo 1099511627776 x6=d6):=hd6
 clear hd6
 obtain ⟨d7,hd7⟩:∃d,upTo 1048576 x7=d:=⟨_,rfl⟩
 have HD7:Hid (upTo 1048576 x7=d7):=hd7
 clear hd7
 unfold cfgV
 go_enter Tryz.func27,Tryz.ntmps27
 go_upto_region 1 with fail
 obtain ⟨w1,hw1,H1⟩:=al1 w #[.int .i64 x0,.int .i64 x1,.int .i64 x2,.int .i64 x3,.int .i64 x4,.int .i64 x5,.int .i64 x6,.int .i64 x7] 25
 rw [hw1]
 clear hw1
 have HG:Hid (w.grownBy w1 none):=H1.out.2.1
 obtain ⟨k0,k1,k2,k3,k4,k5,k6,k7⟩:=cells8 H1.out.1
 clear H1
 go_wp2_with fail
 refine (up52 4096 x0 _).mono ?_
 rintro e w2 ⟨rfl,rfl⟩
 rw [HD0.out]
 cases d0
 case false =>
  go_wp2_with fail
  go_ret
  refine ⟨?_,HG.out⟩
  simp [mayCfg,HD0.out,HD1.out,HD2.out,HD3.out,HD4.out,HD5.out,HD6.out,HD7.out]
 go_wp2_with fail
 refine (up52 1048576 x1 _).mono ?_
 rintro e w2 ⟨rfl,rfl⟩
 rw [HD1.out]
 cases d1
 case false =>
  go_wp2_with fail
  go_ret
  refine ⟨?_,HG.out⟩
  simp [mayCfg,HD0.out,HD1.out,HD2.out,HD3.out,HD4.out,HD5.out,HD6.out,HD7.out]
 go_wp2_with fail
 refine (up52 64 x2 _).mono ?_
 rintro e w2 ⟨rfl,rfl⟩
 rw [HD2.out]
 cases d2
 case false =>
  go_wp2_with fail
  go_ret
  refine ⟨?_,HG.out⟩
  simp [mayCfg,HD0.out,HD1.out,HD2.out,HD3.out,HD4.out,HD5.out,HD6.out,HD7.out]
 go_wp2_with fail
 refine (up52 1024 x3 _).mono ?_
 rintro e w2 ⟨rfl,rfl⟩
 rw [HD3.out]
 cases d3
 case false =>
  go_wp2_with fail
  go_ret
  refine ⟨?_,HG.out⟩
  simp [mayCfg,HD0.out,HD1.out,HD2.out,HD3.out,HD4.out,HD5.out,HD6.out,HD7.out]
 go_wp2_with fail
 refine (up52 1024 x4 _).mono ?_
 rintro e w2 ⟨rfl,rfl⟩
 rw [HD4.out]
 cases d4
 case false =>
  go_wp2_with fail
  go_ret
  refine ⟨?_,HG.out⟩
  simp [mayCfg,HD0.out,HD1.out,HD2.out,HD3.out,HD4.out,HD5.out,HD6.out,HD7.out]
 go_wp2_with fail
 refine (up52 1048576 x7 _).mono ?_
 rintro e w2 ⟨rfl,rfl⟩
 rw [HD7.out]
 cases d7
 case false =>
  go_wp2_with fail
  go_ret
  refine ⟨?_,HG.out⟩
  simp [mayCfg,HD0.out,HD1.out,HD2.out,HD3.out,HD4.out,HD5.out,HD6.out,HD7.out]
 go_wp2_with fail
 refine (up53 1099511627776 x5 _).mono ?_
 rintro e w2 ⟨rfl,rfl⟩
 rw [HD5.out]
 cases d5
 case false =>
  go_wp2_with fail
  go_ret
  refine ⟨?_,HG.out⟩
  simp [mayCfg,HD0.out,HD1.out,HD2.out,HD3.out,HD4.out,HD5.out,HD6.out,HD7.out]
 go_wp2_with fail
 refine (up53 1099511627776 x6 _).mono ?_
 rintro e w2 ⟨rfl,rfl⟩
 rw [HD6.out]
 go_wp2_with fail
 go_ret
 refine ⟨?_,HG.out⟩
 simp [mayCfg,HD0.out,HD1.out,HD2.out,HD3.out,HD4.out,HD5.out,HD6.out,HD7.out]
theorem job28 (c:PCfg)(w:World):Calls Tryz.prog 28 #[cfgV c] w fun e w'=>e=.returned (.bool (mayCfg c))/\w.grownBy w' none:=by
 obtain ⟨x0,x1,x2,x3,x4,x5,x6,x7⟩:=c
 obtain ⟨d0,hd0⟩:∃d,upTo 4096 x0=d:=⟨_,rfl⟩
 have HD0:Hid (upTo 4096 x0=d0):=hd0
 clear hd0
 obtain ⟨d1,hd1⟩:∃d,upTo 1048576 x1=d:=⟨_,rfl⟩
 have HD1:Hid (upTo 1048576 x1=d1):=hd1
 clear hd1
 obtain ⟨d2,hd2⟩:∃d,upTo 64 x2=d:=⟨_,rfl⟩
 have HD2:Hid (upTo 64 x2=d2):=hd2
 clear hd2
 obtain ⟨d3,hd3⟩:∃d,upTo 1024 x3=d:=⟨_,rfl⟩
 have HD3:Hid (upTo 1024 x3=d3):=hd3
 clear hd3
 obtain ⟨d4,hd4⟩:∃d,upTo 1024 x4=d:=⟨_,rfl⟩
 have HD4:Hid (upTo 1024 x4=d4):=hd4
 clear hd4
 obtain ⟨d5,hd5⟩:∃d,upTo 1099511627776 x5=d:=⟨_,rfl⟩
 have HD5:Hid (upTo 1099511627776 x5=d5):=hd5
 clear hd5
 obtain ⟨d6,hd6⟩:∃d,upTo 1099511627776 x6=d:=⟨_,rfl⟩
 have HD6:Hid (upTo 1099511627776 x6=d6):=hd6
 clear hd6
 obtain ⟨d7,hd7⟩:∃d,upTo 1048576 x7=d:=⟨_,rfl⟩
 have HD7:Hid (upTo 1048576 x7=d7):=hd7
 clear hd7
 unfold cfgV
 go_enter Tryz.func28,Tryz.ntmps28
 go_upto_region 1 with fail
 obtain ⟨w1,hw1,H1⟩:=al1 w #[.int .i64 x0,.int .i64 x1,.int .i64 x2,.int .i64 x3,.int .i64 x4,.int .i64 x5,.int .i64 x6,.int .i64 x7] 25
 rw [hw1]
 clear hw1
 have HG:Hid (w.grownBy w1 none):=H1.out.2.1
 obtain ⟨k0,k1,k2,k3,k4,k5,k6,k7⟩:=cells8 H1.out.1
 clear H1
 go_wp2_with fail
 refine (few54 4096 x0 _).mono ?_
 rintro e w2 ⟨rfl,rfl⟩
 rw [HD0.out]
 cases d0
 case false =>
  go_wp2_with fail
  go_ret
  refine ⟨?_,HG.out⟩
  simp [mayCfg,HD0.out,HD1.out,HD2.out,HD3.out,HD4.out,HD5.out,HD6.out,HD7.out]
 go_wp2_with fail
 refine (few54 1048576 x1 _).mono ?_
 rintro e w2 ⟨rfl,rfl⟩
 rw [HD1.out]
 cases d1
 case false =>
  go_wp2_with fail
  go_ret
  refine ⟨?_,HG.out⟩
  simp [mayCfg,HD0.out,HD1.out,HD2.out,HD3.out,HD4.out,HD5.out,HD6.out,HD7.out]
 go_wp2_with fail
 refine (few54 64 x2 _).mono ?_
 rintro e w2 ⟨rfl,rfl⟩
 rw [HD2.out]
 cases d2
 case false =>
  go_wp2_with fail
  go_ret
  refine ⟨?_,HG.out⟩
  simp [mayCfg,HD0.out,HD1.out,HD2.out,HD3.out,HD4.out,HD5.out,HD6.out,HD7.out]
 go_wp2_with fail
 refine (few54 1024 x3 _).mono ?_
 rintro e w2 ⟨rfl,rfl⟩
 rw [HD3.out]
 cases d3
 case false =>
  go_wp2_with fail
  go_ret
  refine ⟨?_,HG.out⟩
  simp [mayCfg,HD0.out,HD1.out,HD2.out,HD3.out,HD4.out,HD5.out,HD6.out,HD7.out]
 go_wp2_with fail
 refine (few54 1024 x4 _).mono ?_
 rintro e w2 ⟨rfl,rfl⟩
 rw [HD4.out]
 cases d4
 case false =>
  go_wp2_with fail
  go_ret
  refine ⟨?_,HG.out⟩
  simp [mayCfg,HD0.out,HD1.out,HD2.out,HD3.out,HD4.out,HD5.out,HD6.out,HD7.out]
 go_wp2_with fail
 refine (tick55 x5 _).mono ?_
 rintro e w2 ⟨rfl,rfl⟩
 rw [HD5.out]
 cases d5
 case false =>
  go_wp2_with fail
  go_ret
  refine ⟨?_,HG.out⟩
  simp [mayCfg,HD0.out,HD1.out,HD2.out,HD3.out,HD4.out,HD5.out,HD6.out,HD7.out]
 go_wp2_with fail
 refine (tick55 x6 _).mono ?_
 rintro e w2 ⟨rfl,rfl⟩
 rw [HD6.out]
 cases d6
 case false =>
  go_wp2_with fail
  go_ret
  refine ⟨?_,HG.out⟩
  simp [mayCfg,HD0.out,HD1.out,HD2.out,HD3.out,HD4.out,HD5.out,HD6.out,HD7.out]
 go_wp2_with fail
 refine (few54 1048576 x7 _).mono ?_
 rintro e w2 ⟨rfl,rfl⟩
 rw [HD7.out]
 go_wp2_with fail
 go_ret
 refine ⟨?_,HG.out⟩
 simp [mayCfg,HD0.out,HD1.out,HD2.out,HD3.out,HD4.out,HD5.out,HD6.out,HD7.out]
end Go.Proofs.YtanoabliahcbeaaGreat.Wn
namespace Go.Proofs.YtanoabliahcbeaaGreat.Wn
open Go.RowKit Disk
open _root_.Go.Proofs.YtanoabliahcbeaaGreat.Calls _root_.Go.Proofs.YtanoabliahcbeaaGreat.Command
def okNew (n:Int)(c:PCfg):Bool:=decide (0<=n/\n<8) && mayCfg c
def fresh (n:Int)(c:PCfg):CS:=⟨n.toNat,c.window.toNat,c.wait.toNat,c.timeout.toNat,n+1,false,0,0,[],[],0,0⟩
theorem may_bounds {c:PCfg}(h:mayCfg c=true):(1<=c.window/\c.window<=64)/\(1<=c.wait/\c.wait<=1024)/\(1<=c.timeout/\c.timeout<=1099511627776):=by
 simp [mayCfg,upTo] at h
 omega
theorem fresh_ok {n:Int}{c:PCfg}(h:okNew n c=true):Okc (fresh n c):=by
 simp only [okNew,Bool.and_eq_true,decide_eq_true_eq] at h
 obtain ⟨h1,h2⟩:=h
 have:=may_bounds h2
 refine ⟨?_,?_,?_,?_,?_,?_,?_,fun _=>rfl,?_,?_,?_,?_,?_⟩ <;> simp [fresh,outN_zero] <;> omega
def NewC (n:Int)(c:PCfg)(w:World)(e:Ending)(w':World):Prop :=
 w.grownBy w' none/\((okNew n c=false/\e=.returned (.tuple #[.pointer none,.int .i64 2])) ∨
  (okNew n c=true/\∃b,e=.returned (.tuple #[.pointer (some ⟨b,0,none⟩),.int .i64 0])/\w.heap.size<=b/\Cl (fun _=>False) (fun i=>i=b) w' b (fresh n c)))
theorem fresh_cl {w:World}{b:Nat}{n:Int}{c:PCfg}(h:okNew n c=true)(hb:Blk w b 85 #[.int .i64 n,.int .i64 c.window,.int .i64 c.wait,.int .i64 c.timeout,.int .i64 (n+1),.bool false,.int .i64 0,.int .i64 0,.pointer none,.slice none 0 0,.int .i64 0,.int .i64 0]):Cl (fun _=>False) (fun i=>i=b) w b (fresh n c):=by
 have hk:=fresh_ok h
 simp only [okNew,Bool.and_eq_true,decide_eq_true_eq] at h
 have hm:=may_bounds h.2
 refine ⟨none,none,0,?_,.inl ⟨rfl,rfl⟩,lrow_nil _ _,fun k hk=>by simp [Value.ownBlock] at hk,fun c hc=>by rcases hc with hc | hc <;> simp [fresh] at hc,rfl,fun i hi=>⟨85,_,(show i=b from hi) ▸ hb,.inl rfl⟩,fun _ _ h=>h,fun _ h=>h.elim,hk⟩
 have e1:((n.toNat:Nat):Int)=n:=by omega
 have e2:((c.window.toNat:Nat):Int)=c.window:=by omega
 have e3:((c.wait.toNat:Nat):Int)=c.wait:=by omega
 have e4:((c.timeout.toNat:Nat):Int)=c.timeout:=by omega
 simp only [fresh,e1,e2,e3,e4]
 exact hb
theorem new_cl (n:Int)(c:PCfg)(w:World):Calls Tryz.prog 6 #[.int .i64 n,cfgV c] w (NewC n c w):=by
 have HJ:Hid (∀w,Calls Tryz.prog 27 #[cfgV c] w fun e w'=>e=.returned (.bool (mayCfg c))/\w.grownBy w' none):=mayBe27 c
 have HF:Hid (okNew n c=true->∀w b,Blk w b 85 #[.int .i64 n,.int .i64 c.window,.int .i64 c.wait,.int .i64 c.timeout,.int .i64 (n+1),.bool false,.int .i64 0,.int .i64 0,.pointer none,.slice none 0 0,.int .i64 0,.int .i64 0]->Cl (fun _=>False) (fun i=>i=b) w b (fresh n c)):=fun h _ _ hb=>fresh_cl h hb
 obtain ⟨d,hd⟩:∃d,mayCfg c=d:=⟨_,rfl⟩
 have HD:Hid (mayCfg c=d):=hd
 clear hd
 unfold cfgV at HJ ⊢
 by_cases h1:n<0
 ·have HN:Hid (okNew n c=false):=by simp [Hid,okNew];omega
  go_enter Tryz.func6,Tryz.ntmps6
  go_upto_region 1 with fail
  obtain ⟨w1,hw1,H1⟩:=al1 w (cfgC c) 25
  unfold cfgC at hw1
  rw [hw1]
  clear hw1
  go_wp2_with fail
  go_ret2
  exact ⟨H1.out.2.1,.inl ⟨HN.out,rfl⟩⟩
 ·by_cases h2:n<8
  ·have e1:IntKind.i64.wrap (n+1)=n+1:=by rw [IntKind.wrap_i64];omega
   have HN:Hid (okNew n c=d):=by simp [Hid,okNew,HD.out];omega
   go_enter Tryz.func6,Tryz.ntmps6
   go_upto_region 1 with fail
   obtain ⟨w1,hw1,H1⟩:=al1 w (cfgC c) 25
   unfold cfgC at hw1 H1
   rw [hw1]
   clear hw1
   obtain ⟨k0,k1,k2,k3,k4,k5,k6,k7⟩:=cells8 H1.out.1
   go_wp2_with fail
   refine (HJ.out w1).mono ?_
   rintro e w2 ⟨rfl,hg2⟩
   rw [HD.out]
   have H2:Hid (Blk w2 w.heap.size 25 #[.int .i64 c.rows,.int .i64 c.bytes,.int .i64 c.window,.int .i64 c.queue,.int .i64 c.wait,.int .i64 c.timeout,.int .i64 c.idle,.int .i64 c.log]/\w.grownBy w2 none):=⟨H1.out.1.grown hg2 (by simp),grown_trans H1.out.2.1 hg2⟩
   clear k0 k1 k2 k3 k4 k5 k6 k7 hg2 H1
   cases d
   case false =>
    go_wp2_with fail
    go_ret2
    exact ⟨H2.out.2,.inl ⟨HN.out,rfl⟩⟩
   case true =>
    obtain ⟨k0,k1,k2,k3,k4,k5,k6,k7⟩:=cells8 H2.out.1
    obtain ⟨w3,hw3,H3⟩:=al1 w2 #[.int .i64 n,.int .i64 c.window,.int .i64 c.wait,.int .i64 c.timeout,.int .i64 (n+1),.bool false,.int .i64 0,.int .i64 0,.pointer none,.slice none 0 0,.int .i64 0,.int .i64 0] 85
    have HW:Hid (w2.alloc (.cells #[.int .i64 n,.int .i64 c.window,.int .i64 c.wait,.int .i64 c.timeout,.int .i64 (n+1),.bool false,.int .i64 0,.int .i64 0,.pointer none,.slice none 0 0,.int .i64 0,.int .i64 0] 85)=w3):=hw3
    clear hw3
    go_wp2_with fail
    try rw [HW.out]
    go_ret2
    exact ⟨grown_trans H2.out.2 H3.out.2.1,.inr ⟨HN.out,_,rfl,H2.out.2.size,HF.out HN.out _ _ H3.out.1⟩⟩
  ·have HN:Hid (okNew n c=false):=by simp [Hid,okNew];omega
   go_enter Tryz.func6,Tryz.ntmps6
   go_upto_region 1 with fail
   obtain ⟨w1,hw1,H1⟩:=al1 w (cfgC c) 25
   unfold cfgC at hw1
   rw [hw1]
   clear hw1
   go_wp2_with fail
   go_ret2
   exact ⟨H1.out.2.1,.inl ⟨HN.out,rfl⟩⟩
end Go.Proofs.YtanoabliahcbeaaGreat.Wn
