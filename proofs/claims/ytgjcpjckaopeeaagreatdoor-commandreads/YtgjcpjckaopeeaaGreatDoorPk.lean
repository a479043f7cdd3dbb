import Derived.Test.YtgjcpjckaopeeaaGreatDoorKvwAll
import Derived.Deep.CutBlock
set_option maxHeartbeats 16000000
set_option maxRecDepth 100000
namespace Go.Proofs.YtgjcpjckaopeeaaGreatDoor
open Go.RowKit Disk
open Go.Proofs.YtgjcpjckaopeeaaGreatDoor.Calls
open Names (Str)
theorem sU (s:Bs)(w:World)(hz:s.length<=20000)(hE:EnvC w)(hw10:10<=w.heap.size):Calls Tryz.prog 23 #[.string ⟨s.toArray⟩] w (d9 w (cA s)):=by
 have HV:Hid (EnvC w/\s.length<=20000):=⟨hE,hz⟩
 clear hE hz
 go_enter Tryz.func23,Tryz.ntmps23
 go_wp2_with fail
 obtain ⟨W,hW,HW⟩:=al2' w #[.int .i64 0,.int .i64 0,.int .i64 0,.int .i64 0,.int .i64 0,.slice none 0 0] #[.int .i64 0,.int .i64 0,.int .i64 0,.int .i64 0,.int .i64 0,.slice none 0 0] 27 27
 rw [hW]
 clear hW
 refine (qU s W HV.out.2).mono ?_
 rintro e W1 ⟨rfl,g1⟩
 have H1:Hid (Blk W1 w.heap.size 27 #[.int .i64 0,.int .i64 0,.int .i64 0,.int .i64 0,.int .i64 0,.slice none 0 0]/\Blk W1 (w.heap.size+1) 27 #[.int .i64 0,.int .i64 0,.int .i64 0,.int .i64 0,.int .i64 0,.slice none 0 0]/\w.grownBy W1 none/\EnvC W1):=⟨HW.out.1.grown g1 (by simp),HW.out.2.1.grown g1 (by simp),aa HW.out.2.2.1 g1,HV.out.1.grown (aa HW.out.2.2.1 g1)⟩
 clear g1 HW
 obtain ⟨x0,hx0⟩:∃x,(wd s).1=x:=⟨_,rfl⟩
 have HX0:Hid ((wd s).1=x0):=hx0
 rw [hx0]
 clear hx0
 go_upto_block 0 with fail
 go_cut [5,12] (fun x5 x12 wc=>∃(c:PCmd) (o1:Option Addr) (o2 o3:Nat),Hid (Blk wc w.heap.size 27 #[.int .i64 0,.int .i64 0,.int .i64 0,.int .i64 0,.int .i64 0,.slice none 0 0]/\Blk wc (w.heap.size+1) 27 #[.int .i64 c.kind,.int .i64 c.token,.int .i64 c.session,.int .i64 c.number,.int .i64 c.mark,.slice o1 o2 o3]/\w.grownBy wc none/\am wc w.heap.size (.slice o1 o2 o3) c.ops/\EnvC wc/\InC c/\Cand s c))
 case first =>
  by_cases h1:x0=[111,112,101,110]
  case pos =>
   have hx:(wd s).1=ay 1:=by rw [HX0.out];exact h1
   subst h1
   clear HX0
   have HX:Hid ((wd s).1=ay 1):=hx
   clear hx
   obtain ⟨R,hR⟩:∃R,(wd s).2=R:=⟨_,rfl⟩
   have HR:Hid ((wd s).2=R/\R.length<=20000):=⟨hR,by have:=(fg s).2;have:=HV.out.2;rw [<-hR];omega⟩
   rw [hR]
   clear hR
   have p0:=H1.out.2.1.cell 0
   have p1:=H1.out.2.1.cell 1
   have p2:=H1.out.2.1.cell 2
   have p3:=H1.out.2.1.cell 3
   have p4:=H1.out.2.1.cell 4
   have p5:=H1.out.2.1.cell 5
   have f0:=H1.out.2.1.free 0
   have f1:=H1.out.2.1.free 1
   have f2:=H1.out.2.1.free 2
   have f3:=H1.out.2.1.free 3
   have f4:=H1.out.2.1.free 4
   have f5:=H1.out.2.1.free 5
   simp at p0 p1 p2 p3 p4 p5
   go_wp2_with fail
   obtain ⟨W2,hW2⟩:∃y,W1.setCell ⟨w.heap.size+1,0,none⟩ (.int .i64 1)=y:=⟨_,rfl⟩
   have H2:Hid (Blk W2 w.heap.size 27 #[.int .i64 0,.int .i64 0,.int .i64 0,.int .i64 0,.int .i64 0,.slice none 0 0]/\Blk W2 (w.heap.size+1) 27 #[.int .i64 1,.int .i64 0,.int .i64 0,.int .i64 0,.int .i64 0,.slice none 0 0]/\w.grownBy W2 none/\EnvC W2):=by
    have hg:W1.grownBy W2 (some (w.heap.size+1)):=by rw [<-hW2];exact ab _ _ _ _
    refine ⟨H1.out.1.grown hg (by simp),?_,ag H1.out.2.2.1 hg (fun x hx=>by simp at hx;omega),H1.out.2.2.2.set hg (by omega)⟩
    rw [<-hW2]
    exact H1.out.2.1.store 0 _
   rw [hW2]
   clear hW2 p0 p1 p2 p3 p4 p5 f0 f1 f2 f3 f4 f5 H1
   refine (eC R W2 HR.out.2 H2.out.2.2.2.env).mono ?_
   rintro e W3 ⟨n,rfl,n0,n1,g3,hn⟩
   have H3:Hid (Blk W3 w.heap.size 27 #[.int .i64 0,.int .i64 0,.int .i64 0,.int .i64 0,.int .i64 0,.slice none 0 0]/\Blk W3 (w.heap.size+1) 27 #[.int .i64 1,.int .i64 0,.int .i64 0,.int .i64 0,.int .i64 0,.slice none 0 0]/\w.grownBy W3 none/\EnvC W3/\-9223372036854775808<=n/\n<=9223372036854775807/\d_ (wd R).1 n):=⟨H2.out.1.grown g3 (by simp),H2.out.2.1.grown g3 (by simp),aa H2.out.2.2.1 g3,H2.out.2.2.2.grown g3,n0,n1,hn⟩
   clear g3 n0 n1 hn H2
   have p0:=H3.out.2.1.cell 0
   have p1:=H3.out.2.1.cell 1
   have p2:=H3.out.2.1.cell 2
   have p3:=H3.out.2.1.cell 3
   have p4:=H3.out.2.1.cell 4
   have p5:=H3.out.2.1.cell 5
   have f0:=H3.out.2.1.free 0
   have f1:=H3.out.2.1.free 1
   have f2:=H3.out.2.1.free 2
   have f3:=H3.out.2.1.free 3
   have f4:=H3.out.2.1.free 4
   have f5:=H3.out.2.1.free 5
   simp at p0 p1 p2 p3 p4 p5
   go_wp2_with fail
   obtain ⟨Wt,hWt⟩:∃y,W3.setCell ⟨w.heap.size+1,1,none⟩ (.int .i64 n)=y:=⟨_,rfl⟩
   have HT:Hid (Blk Wt w.heap.size 27 #[.int .i64 0,.int .i64 0,.int .i64 0,.int .i64 0,.int .i64 0,.slice none 0 0]/\Blk Wt (w.heap.size+1) 27 #[.int .i64 1,.int .i64 n,.int .i64 0,.int .i64 0,.int .i64 0,.slice none 0 0]/\w.grownBy Wt none/\am Wt w.heap.size (.slice none 0 0) []/\EnvC Wt/\InC (⟨1,n,0,0,0,[]⟩:PCmd)/\Cand s (⟨1,n,0,0,0,[]⟩:PCmd)):=by
    have hg:W3.grownBy Wt (some (w.heap.size+1)):=by rw [<-hWt];exact ab _ _ _ _
    refine ⟨H3.out.1.grown hg (by simp),?_,ag H3.out.2.2.1 hg (fun x hx=>by simp at hx;omega),⟨aD _ _,by simp⟩,H3.out.2.2.2.1.set hg (by omega),?_,uK HX.out (by rw [HR.out.1];exact H3.out.2.2.2.2.2.2)⟩
    ·rw [<-hWt]
     exact H3.out.2.1.store 1 _
    ·have a0:=H3.out.2.2.2.2.1
     have a1:=H3.out.2.2.2.2.2.1
     constructor <;> first | exact a0 | exact a1 | (dsimp only;omega)
   rw [hWt]
   clear hWt p0 p1 p2 p3 p4 p5 f0 f1 f2 f3 f4 f5 H3 HX HR
   go_meet
   case rel=>exact ⟨(⟨1,n,0,0,0,[]⟩:PCmd),none,0,0,HT.out⟩
  by_cases h3:x0=[99,108,111,115,101]
  case pos =>
   have hx:(wd s).1=ay 3:=by rw [HX0.out];exact h3
   subst h3
   clear HX0 h1
   have HX:Hid ((wd s).1=ay 3):=hx
   clear hx
   obtain ⟨R,hR⟩:∃R,(wd s).2=R:=⟨_,rfl⟩
   have HR:Hid ((wd s).2=R/\R.length<=20000):=⟨hR,by have:=(fg s).2;have:=HV.out.2;rw [<-hR];omega⟩
   rw [hR]
   clear hR
   have p0:=H1.out.2.1.cell 0
   have p1:=H1.out.2.1.cell 1
   have p2:=H1.out.2.1.cell 2
   have p3:=H1.out.2.1.cell 3
   have p4:=H1.out.2.1.cell 4
   have p5:=H1.out.2.1.cell 5
   have f0:=H1.out.2.1.free 0
   have f1:=H1.out.2.1.free 1
   have f2:=H1.out.2.1.free 2
   have f3:=H1.out.2.1.free 3
   have f4:=H1.out.2.1.free 4
   have f5:=H1.out.2.1.free 5
   simp at p0 p1 p2 p3 p4 p5
   go_wp2_with fail
   obtain ⟨W2,hW2⟩:∃y,W1.setCell ⟨w.heap.size+1,0,none⟩ (.int .i64 3)=y:=⟨_,rfl⟩
   have H2:Hid (Blk W2 w.heap.size 27 #[.int .i64 0,.int .i64 0,.int .i64 0,.int .i64 0,.int .i64 0,.slice none 0 0]/\Blk W2 (w.heap.size+1) 27 #[.int .i64 3,.int .i64 0,.int .i64 0,.int .i64 0,.int .i64 0,.slice none 0 0]/\w.grownBy W2 none/\EnvC W2):=by
    have hg:W1.grownBy W2 (some (w.heap.size+1)):=by rw [<-hW2];exact ab _ _ _ _
    refine ⟨H1.out.1.grown hg (by simp),?_,ag H1.out.2.2.1 hg (fun x hx=>by simp at hx;omega),H1.out.2.2.2.set hg (by omega)⟩
    rw [<-hW2]
    exact H1.out.2.1.store 0 _
   rw [hW2]
   clear hW2 p0 p1 p2 p3 p4 p5 f0 f1 f2 f3 f4 f5 H1
   refine (eC R W2 HR.out.2 H2.out.2.2.2.env).mono ?_
   rintro e W3 ⟨n,rfl,n0,n1,g3,hn⟩
   have H3:Hid (Blk W3 w.heap.size 27 #[.int .i64 0,.int .i64 0,.int .i64 0,.int .i64 0,.int .i64 0,.slice none 0 0]/\Blk W3 (w.heap.size+1) 27 #[.int .i64 3,.int .i64 0,.int .i64 0,.int .i64 0,.int .i64 0,.slice none 0 0]/\w.grownBy W3 none/\EnvC W3/\-9223372036854775808<=n/\n<=9223372036854775807/\d_ (wd R).1 n):=⟨H2.out.1.grown g3 (by simp),H2.out.2.1.grown g3 (by simp),aa H2.out.2.2.1 g3,H2.out.2.2.2.grown g3,n0,n1,hn⟩
   clear g3 n0 n1 hn H2
   have p0:=H3.out.2.1.cell 0
   have p1:=H3.out.2.1.cell 1
   have p2:=H3.out.2.1.cell 2
   have p3:=H3.out.2.1.cell 3
   have p4:=H3.out.2.1.cell 4
   have p5:=H3.out.2.1.cell 5
   have f0:=H3.out.2.1.free 0
   have f1:=H3.out.2.1.free 1
   have f2:=H3.out.2.1.free 2
   have f3:=H3.out.2.1.free 3
   have f4:=H3.out.2.1.free 4
   have f5:=H3.out.2.1.free 5
   simp at p0 p1 p2 p3 p4 p5
   go_wp2_with fail
   obtain ⟨Wt,hWt⟩:∃y,W3.setCell ⟨w.heap.size+1,2,none⟩ (.int .i64 n)=y:=⟨_,rfl⟩
   have HT:Hid (Blk Wt w.heap.size 27 #[.int .i64 0,.int .i64 0,.int .i64 0,.int .i64 0,.int .i64 0,.slice none 0 0]/\Blk Wt (w.heap.size+1) 27 #[.int .i64 3,.int .i64 0,.int .i64 n,.int .i64 0,.int .i64 0,.slice none 0 0]/\w.grownBy Wt none/\am Wt w.heap.size (.slice none 0 0) []/\EnvC Wt/\InC (⟨3,0,n,0,0,[]⟩:PCmd)/\Cand s (⟨3,0,n,0,0,[]⟩:PCmd)):=by
    have hg:W3.grownBy Wt (some (w.heap.size+1)):=by rw [<-hWt];exact ab _ _ _ _
    refine ⟨H3.out.1.grown hg (by simp),?_,ag H3.out.2.2.1 hg (fun x hx=>by simp at hx;omega),⟨aD _ _,by simp⟩,H3.out.2.2.2.1.set hg (by omega),?_,qX (by decide) HX.out (by rw [HR.out.1];exact H3.out.2.2.2.2.2.2)⟩
    ·rw [<-hWt]
     exact H3.out.2.1.store 2 _
    ·have a0:=H3.out.2.2.2.2.1
     have a1:=H3.out.2.2.2.2.2.1
     constructor <;> first | exact a0 | exact a1 | (dsimp only;omega)
   rw [hWt]
   clear hWt p0 p1 p2 p3 p4 p5 f0 f1 f2 f3 f4 f5 H3 HX HR
   go_meet
   case rel=>exact ⟨(⟨3,0,n,0,0,[]⟩:PCmd),none,0,0,HT.out⟩
  by_cases h4:x0=[101,120,112,105,114,101]
  case pos =>
   have hx:(wd s).1=ay 4:=by rw [HX0.out];exact h4
   subst h4
   clear HX0 h1 h3
   have HX:Hid ((wd s).1=ay 4):=hx
   clear hx
   obtain ⟨R,hR⟩:∃R,(wd s).2=R:=⟨_,rfl⟩
   have HR:Hid ((wd s).2=R/\R.length<=20000):=⟨hR,by have:=(fg s).2;have:=HV.out.2;rw [<-hR];omega⟩
   rw [hR]
   clear hR
   have p0:=H1.out.2.1.cell 0
   have p1:=H1.out.2.1.cell 1
   have p2:=H1.out.2.1.cell 2
   have p3:=H1.out.2.1.cell 3
   have p4:=H1.out.2.1.cell 4
   have p5:=H1.out.2.1.cell 5
   have f0:=H1.out.2.1.free 0
   have f1:=H1.out.2.1.free 1
   have f2:=H1.out.2.1.free 2
   have f3:=H1.out.2.1.free 3
   have f4:=H1.out.2.1.free 4
   have f5:=H1.out.2.1.free 5
   simp at p0 p1 p2 p3 p4 p5
   go_wp2_with fail
   obtain ⟨W2,hW2⟩:∃y,W1.setCell ⟨w.heap.size+1,0,none⟩ (.int .i64 4)=y:=⟨_,rfl⟩
   have H2:Hid (Blk W2 w.heap.size 27 #[.int .i64 0,.int .i64 0,.int .i64 0,.int .i64 0,.int .i64 0,.slice none 0 0]/\Blk W2 (w.heap.size+1) 27 #[.int .i64 4,.int .i64 0,.int .i64 0,.int .i64 0,.int .i64 0,.slice none 0 0]/\w.grownBy W2 none/\EnvC W2):=by
    have hg:W1.grownBy W2 (some (w.heap.size+1)):=by rw [<-hW2];exact ab _ _ _ _
    refine ⟨H1.out.1.grown hg (by simp),?_,ag H1.out.2.2.1 hg (fun x hx=>by simp at hx;omega),H1.out.2.2.2.set hg (by omega)⟩
    rw [<-hW2]
    exact H1.out.2.1.store 0 _
   rw [hW2]
   clear hW2 p0 p1 p2 p3 p4 p5 f0 f1 f2 f3 f4 f5 H1
   refine (eC R W2 HR.out.2 H2.out.2.2.2.env).mono ?_
   rintro e W3 ⟨n,rfl,n0,n1,g3,hn⟩
   have H3:Hid (Blk W3 w.heap.size 27 #[.int .i64 0,.int .i64 0,.int .i64 0,.int .i64 0,.int .i64 0,.slice none 0 0]/\Blk W3 (w.heap.size+1) 27 #[.int .i64 4,.int .i64 0,.int .i64 0,.int .i64 0,.int .i64 0,.slice none 0 0]/\w.grownBy W3 none/\EnvC W3/\-9223372036854775808<=n/\n<=9223372036854775807/\d_ (wd R).1 n):=⟨H2.out.1.grown g3 (by simp),H2.out.2.1.grown g3 (by simp),aa H2.out.2.2.1 g3,H2.out.2.2.2.grown g3,n0,n1,hn⟩
   clear g3 n0 n1 hn H2
   have p0:=H3.out.2.1.cell 0
   have p1:=H3.out.2.1.cell 1
   have p2:=H3.out.2.1.cell 2
   have p3:=H3.out.2.1.cell 3
   have p4:=H3.out.2.1.cell 4
   have p5:=H3.out.2.1.cell 5
   have f0:=H3.out.2.1.free 0
   have f1:=H3.out.2.1.free 1
   have f2:=H3.out.2.1.free 2
   have f3:=H3.out.2.1.free 3
   have f4:=H3.out.2.1.free 4
   have f5:=H3.out.2.1.free 5
   simp at p0 p1 p2 p3 p4 p5
   go_wp2_with fail
   obtain ⟨Wt,hWt⟩:∃y,W3.setCell ⟨w.heap.size+1,2,none⟩ (.int .i64 n)=y:=⟨_,rfl⟩
   have HT:Hid (Blk Wt w.heap.size 27 #[.int .i64 0,.int .i64 0,.int .i64 0,.int .i64 0,.int .i64 0,.slice none 0 0]/\Blk Wt (w.heap.size+1) 27 #[.int .i64 4,.int .i64 0,.int .i64 n,.int .i64 0,.int .i64 0,.slice none 0 0]/\w.grownBy Wt none/\am Wt w.heap.size (.slice none 0 0) []/\EnvC Wt/\InC (⟨4,0,n,0,0,[]⟩:PCmd)/\Cand s (⟨4,0,n,0,0,[]⟩:PCmd)):=by
    have hg:W3.grownBy Wt (some (w.heap.size+1)):=by rw [<-hWt];exact ab _ _ _ _
    refine ⟨H3.out.1.grown hg (by simp),?_,ag H3.out.2.2.1 hg (fun x hx=>by simp at hx;omega),⟨aD _ _,by simp⟩,H3.out.2.2.2.1.set hg (by omega),?_,qX (by decide) HX.out (by rw [HR.out.1];exact H3.out.2.2.2.2.2.2)⟩
    ·rw [<-hWt]
     exact H3.out.2.1.store 2 _
    ·have a0:=H3.out.2.2.2.2.1
     have a1:=H3.out.2.2.2.2.2.1
     constructor <;> first | exact a0 | exact a1 | (dsimp only;omega)
   rw [hWt]
   clear hWt p0 p1 p2 p3 p4 p5 f0 f1 f2 f3 f4 f5 H3 HX HR
   go_meet
   case rel=>exact ⟨(⟨4,0,n,0,0,[]⟩:PCmd),none,0,0,HT.out⟩
  by_cases h2:x0=[99,97,108,108]
  case pos =>
   have hx:(wd s).1=ay 2:=by rw [HX0.out];exact h2
   subst h2
   clear HX0 h1 h3 h4
   have HX:Hid ((wd s).1=ay 2):=hx
   clear hx
   obtain ⟨R,hR⟩:∃R,(wd s).2=R:=⟨_,rfl⟩
   have HR:Hid ((wd s).2=R/\R.length<=20000):=⟨hR,by have:=(fg s).2;have:=HV.out.2;rw [<-hR];omega⟩
   rw [hR]
   clear hR
   have p0:=H1.out.2.1.cell 0
   have p1:=H1.out.2.1.cell 1
   have p2:=H1.out.2.1.cell 2
   have p3:=H1.out.2.1.cell 3
   have p4:=H1.out.2.1.cell 4
   have p5:=H1.out.2.1.cell 5
   have f0:=H1.out.2.1.free 0
   have f1:=H1.out.2.1.free 1
   have f2:=H1.out.2.1.free 2
   have f3:=H1.out.2.1.free 3
   have f4:=H1.out.2.1.free 4
   have f5:=H1.out.2.1.free 5
   simp at p0 p1 p2 p3 p4 p5
   go_wp2_with fail
   obtain ⟨W2,hW2⟩:∃y,W1.setCell ⟨w.heap.size+1,0,none⟩ (.int .i64 2)=y:=⟨_,rfl⟩
   have H2:Hid (Blk W2 w.heap.size 27 #[.int .i64 0,.int .i64 0,.int .i64 0,.int .i64 0,.int .i64 0,.slice none 0 0]/\Blk W2 (w.heap.size+1) 27 #[.int .i64 2,.int .i64 0,.int .i64 0,.int .i64 0,.int .i64 0,.slice none 0 0]/\w.grownBy W2 none/\EnvC W2):=by
    have hg:W1.grownBy W2 (some (w.heap.size+1)):=by rw [<-hW2];exact ab _ _ _ _
    refine ⟨H1.out.1.grown hg (by simp),?_,ag H1.out.2.2.1 hg (fun x hx=>by simp at hx;omega),H1.out.2.2.2.set hg (by omega)⟩
    rw [<-hW2]
    exact H1.out.2.1.store 0 _
   rw [hW2]
   clear hW2 p0 p1 p2 p3 p4 p5 f0 f1 f2 f3 f4 f5 H1
   refine (eC R W2 HR.out.2 H2.out.2.2.2.env).mono ?_
   rintro e Wa0 ⟨a,rfl,n0,n1,g3,hn⟩
   have Ha0:Hid (Blk Wa0 w.heap.size 27 #[.int .i64 0,.int .i64 0,.int .i64 0,.int .i64 0,.int .i64 0,.slice none 0 0]/\Blk Wa0 (w.heap.size+1) 27 #[.int .i64 2,.int .i64 0,.int .i64 0,.int .i64 0,.int .i64 0,.slice none 0 0]/\w.grownBy Wa0 none/\EnvC Wa0):=⟨H2.out.1.grown g3 (by simp),H2.out.2.1.grown g3 (by simp),aa H2.out.2.2.1 g3,H2.out.2.2.2.grown g3⟩
   have HS0:Hid (-9223372036854775808<=a/\a<=9223372036854775807/\d_ (wd R).1 a):=⟨n0,n1,hn⟩
   clear g3 n0 n1 hn H2
   obtain ⟨R1,hR⟩:∃y,(wd R).2=y:=⟨_,rfl⟩
   have HR1:Hid ((wd R).2=R1/\R1.length<=20000):=⟨hR,by have:=(fg R).2;have:=HR.out.2;rw [<-hR];omega⟩
   rw [hR]
   clear hR
   have p0:=Ha0.out.2.1.cell 0
   have p1:=Ha0.out.2.1.cell 1
   have p2:=Ha0.out.2.1.cell 2
   have p3:=Ha0.out.2.1.cell 3
   have p4:=Ha0.out.2.1.cell 4
   have p5:=Ha0.out.2.1.cell 5
   have f0:=Ha0.out.2.1.free 0
   have f1:=Ha0.out.2.1.free 1
   have f2:=Ha0.out.2.1.free 2
   have f3:=Ha0.out.2.1.free 3
   have f4:=Ha0.out.2.1.free 4
   have f5:=Ha0.out.2.1.free 5
   simp at p0 p1 p2 p3 p4 p5
   go_wp2_with fail
   obtain ⟨Wb0,hWm⟩:∃y,Wa0.setCell ⟨w.heap.size+1,2,none⟩ (.int .i64 a)=y:=⟨_,rfl⟩
   have Hb0:Hid (Blk Wb0 w.heap.size 27 #[.int .i64 0,.int .i64 0,.int .i64 0,.int .i64 0,.int .i64 0,.slice none 0 0]/\Blk Wb0 (w.heap.size+1) 27 #[.int .i64 2,.int .i64 0,.int .i64 a,.int .i64 0,.int .i64 0,.slice none 0 0]/\w.grownBy Wb0 none/\EnvC Wb0):=by
    have hg:Wa0.grownBy Wb0 (some (w.heap.size+1)):=by rw [<-hWm];exact ab _ _ _ _
    refine ⟨Ha0.out.1.grown hg (by simp),?_,ag Ha0.out.2.2.1 hg (fun x hx=>by simp at hx;omega),Ha0.out.2.2.2.set hg (by omega)⟩
    rw [<-hWm]
    exact Ha0.out.2.1.store 2 _
   rw [hWm]
   clear hWm p0 p1 p2 p3 p4 p5 f0 f1 f2 f3 f4 f5 Ha0
   refine (eC R1 Wb0 HR1.out.2 Hb0.out.2.2.2.env).mono ?_
   rintro e Wa1 ⟨b,rfl,n0,n1,g3,hn⟩
   have Ha1:Hid (Blk Wa1 w.heap.size 27 #[.int .i64 0,.int .i64 0,.int .i64 0,.int .i64 0,.int .i64 0,.slice none 0 0]/\Blk Wa1 (w.heap.size+1) 27 #[.int .i64 2,.int .i64 0,.int .i64 a,.int .i64 0,.int .i64 0,.slice none 0 0]/\w.grownBy Wa1 none/\EnvC Wa1):=⟨Hb0.out.1.grown g3 (by simp),Hb0.out.2.1.grown g3 (by simp),aa Hb0.out.2.2.1 g3,Hb0.out.2.2.2.grown g3⟩
   have HS1:Hid (-9223372036854775808<=b/\b<=9223372036854775807/\d_ (wd R1).1 b):=⟨n0,n1,hn⟩
   clear g3 n0 n1 hn Hb0
   obtain ⟨R2,hR⟩:∃y,(wd R1).2=y:=⟨_,rfl⟩
   have HR2:Hid ((wd R1).2=R2/\R2.length<=20000):=⟨hR,by have:=(fg R1).2;have:=HR1.out.2;rw [<-hR];omega⟩
   rw [hR]
   clear hR
   have p0:=Ha1.out.2.1.cell 0
   have p1:=Ha1.out.2.1.cell 1
   have p2:=Ha1.out.2.1.cell 2
   have p3:=Ha1.out.2.1.cell 3
   have p4:=Ha1.out.2.1.cell 4
   have p5:=Ha1.out.2.1.cell 5
   have f0:=Ha1.out.2.1.free 0
   have f1:=Ha1.out.2.1.free 1
   have f2:=Ha1.out.2.1.free 2
   have f3:=Ha1.out.2.1.free 3
   have f4:=Ha1.out.2.1.free 4
   have f5:=Ha1.out.2.1.free 5
   simp at p0 p1 p2 p3 p4 p5
   go_wp2_with fail
   obtain ⟨Wb1,hWm⟩:∃y,Wa1.setCell ⟨w.heap.size+1,3,none⟩ (.int .i64 b)=y:=⟨_,rfl⟩
   have Hb1:Hid (Blk Wb1 w.heap.size 27 #[.int .i64 0,.int .i64 0,.int .i64 0,.int .i64 0,.int .i64 0,.slice none 0 0]/\Blk Wb1 (w.heap.size+1) 27 #[.int .i64 2,.int .i64 0,.int .i64 a,.int .i64 b,.int .i64 0,.slice none 0 0]/\w.grownBy Wb1 none/\EnvC Wb1):=by
    have hg:Wa1.grownBy Wb1 (some (w.heap.size+1)):=by rw [<-hWm];exact ab _ _ _ _
    refine ⟨Ha1.out.1.grown hg (by simp),?_,ag Ha1.out.2.2.1 hg (fun x hx=>by simp at hx;omega),Ha1.out.2.2.2.set hg (by omega)⟩
    rw [<-hWm]
    exact Ha1.out.2.1.store 3 _
   rw [hWm]
   clear hWm p0 p1 p2 p3 p4 p5 f0 f1 f2 f3 f4 f5 Ha1
   refine (eC R2 Wb1 HR2.out.2 Hb1.out.2.2.2.env).mono ?_
   rintro e Wa2 ⟨c,rfl,n0,n1,g3,hn⟩
   have Ha2:Hid (Blk Wa2 w.heap.size 27 #[.int .i64 0,.int .i64 0,.int .i64 0,.int .i64 0,.int .i64 0,.slice none 0 0]/\Blk Wa2 (w.heap.size+1) 27 #[.int .i64 2,.int .i64 0,.int .i64 a,.int .i64 b,.int .i64 0,.slice none 0 0]/\w.grownBy Wa2 none/\EnvC Wa2):=⟨Hb1.out.1.grown g3 (by simp),Hb1.out.2.1.grown g3 (by simp),aa Hb1.out.2.2.1 g3,Hb1.out.2.2.2.grown g3⟩
   have HS2:Hid (-9223372036854775808<=c/\c<=9223372036854775807/\d_ (wd R2).1 c):=⟨n0,n1,hn⟩
   clear g3 n0 n1 hn Hb1
   obtain ⟨R3,hR⟩:∃y,(wd R2).2=y:=⟨_,rfl⟩
   have HR3:Hid ((wd R2).2=R3/\R3.length<=20000):=⟨hR,by have:=(fg R2).2;have:=HR2.out.2;rw [<-hR];omega⟩
   rw [hR]
   clear hR
   have p0:=Ha2.out.2.1.cell 0
   have p1:=Ha2.out.2.1.cell 1
   have p2:=Ha2.out.2.1.cell 2
   have p3:=Ha2.out.2.1.cell 3
   have p4:=Ha2.out.2.1.cell 4
   have p5:=Ha2.out.2.1.cell 5
   have f0:=Ha2.out.2.1.free 0
   have f1:=Ha2.out.2.1.free 1
   have f2:=Ha2.out.2.1.free 2
   have f3:=Ha2.out.2.1.free 3
   have f4:=Ha2.out.2.1.free 4
   have f5:=Ha2.out.2.1.free 5
   simp at p0 p1 p2 p3 p4 p5
   go_wp2_with fail
   obtain ⟨Wb2,hWm⟩:∃y,Wa2.setCell ⟨w.heap.size+1,4,none⟩ (.int .i64 c)=y:=⟨_,rfl⟩
   have Hb2:Hid (Blk Wb2 w.heap.size 27 #[.int .i64 0,.int .i64 0,.int .i64 0,.int .i64 0,.int .i64 0,.slice none 0 0]/\Blk Wb2 (w.heap.size+1) 27 #[.int .i64 2,.int .i64 0,.int .i64 a,.int .i64 b,.int .i64 c,.slice none 0 0]/\w.grownBy Wb2 none/\EnvC Wb2):=by
    have hg:Wa2.grownBy Wb2 (some (w.heap.size+1)):=by rw [<-hWm];exact ab _ _ _ _
    refine ⟨Ha2.out.1.grown hg (by simp),?_,ag Ha2.out.2.2.1 hg (fun x hx=>by simp at hx;omega),Ha2.out.2.2.2.set hg (by omega)⟩
    rw [<-hWm]
    exact Ha2.out.2.1.store 4 _
   rw [hWm]
   clear hWm p0 p1 p2 p3 p4 p5 f0 f1 f2 f3 f4 f5 Ha2
   refine (sf R3 Wb2 HR3.out.2 Hb2.out.2.2.2.env).mono ?_
   rintro e W3 ⟨u,rfl,ho,g3⟩
   obtain ⟨x,nx,y,rfl⟩:∃a n b,u=.slice a n b:=by obtain ⟨a,n,b,e,_⟩:=aJ ho.ops;exact ⟨a,n,b,e⟩
   have H3:Hid (Blk W3 w.heap.size 27 #[.int .i64 0,.int .i64 0,.int .i64 0,.int .i64 0,.int .i64 0,.slice none 0 0]/\Blk W3 (w.heap.size+1) 27 #[.int .i64 2,.int .i64 0,.int .i64 a,.int .i64 b,.int .i64 c,.slice none 0 0]/\w.grownBy W3 none/\EnvC W3/\am W3 w.heap.size (.slice x nx y) (aN R3).1):=⟨Hb2.out.1.grown g3 (by simp),Hb2.out.2.1.grown g3 (by simp),aa Hb2.out.2.2.1 g3,Hb2.out.2.2.2.grown g3,ho.mono Hb2.out.2.2.1.size⟩
   clear g3 ho Hb2
   have p0:=H3.out.2.1.cell 0
   have p1:=H3.out.2.1.cell 1
   have p2:=H3.out.2.1.cell 2
   have p3:=H3.out.2.1.cell 3
   have p4:=H3.out.2.1.cell 4
   have p5:=H3.out.2.1.cell 5
   have f0:=H3.out.2.1.free 0
   have f1:=H3.out.2.1.free 1
   have f2:=H3.out.2.1.free 2
   have f3:=H3.out.2.1.free 3
   have f4:=H3.out.2.1.free 4
   have f5:=H3.out.2.1.free 5
   simp at p0 p1 p2 p3 p4 p5
   go_wp2_with fail
   obtain ⟨Wt,hWt⟩:∃q,W3.setCell ⟨w.heap.size+1,5,none⟩ (.slice x nx y)=q:=⟨_,rfl⟩
   obtain ⟨l,hl⟩:∃l,(aN R3).1=l:=⟨_,rfl⟩
   have HT:Hid (Blk Wt w.heap.size 27 #[.int .i64 0,.int .i64 0,.int .i64 0,.int .i64 0,.int .i64 0,.slice none 0 0]/\Blk Wt (w.heap.size+1) 27 #[.int .i64 2,.int .i64 0,.int .i64 a,.int .i64 b,.int .i64 c,.slice x nx y]/\w.grownBy Wt none/\am Wt w.heap.size (.slice x nx y) l/\EnvC Wt/\InC (⟨2,0,a,b,c,l⟩:PCmd)/\Cand s (⟨2,0,a,b,c,l⟩:PCmd)):=by
    have hg:W3.grownBy Wt (some (w.heap.size+1)):=by rw [<-hWt];exact ab _ _ _ _
    rw [<-hl]
    refine ⟨H3.out.1.grown hg (by simp),?_,ag H3.out.2.2.1 hg (fun x hx=>by simp at hx;omega),H3.out.2.2.2.2.set H3.out.2.1 (by decide) (by decide) hg,H3.out.2.2.2.1.set hg (by omega),?_,?_⟩
    ·rw [<-hWt]
     exact H3.out.2.1.store 5 _
    ·have a0:=HS0.out.1
     have a1:=HS0.out.2.1
     have b0:=HS1.out.1
     have b1:=HS1.out.2.1
     have c0:=HS2.out.1
     have c1:=HS2.out.2.1
     constructor <;> first | exact a0 | exact a1 | exact b0 | exact b1 | exact c0 | exact c1 | (dsimp only;omega)
    ·have h:=uL (a:=a) (b:=b) (c:=c) HX.out (by rw [HR.out.1];exact HS0.out.2.2) (by rw [HR.out.1,HR1.out.1];exact HS1.out.2.2) (by rw [HR.out.1,HR1.out.1,HR2.out.1];exact HS2.out.2.2)
     rw [HR.out.1,HR1.out.1,HR2.out.1,HR3.out.1] at h
     exact h
   rw [hWt]
   clear hWt p0 p1 p2 p3 p4 p5 f0 f1 f2 f3 f4 f5 H3 HX HR HR1 HR2 HR3 HS0 HS1 HS2 hl
   go_meet
   case rel=>exact ⟨(⟨2,0,a,b,c,l⟩:PCmd),x,nx,y,HT.out⟩
  have HC:Hid (Cand s bj):=uM (by rw [HX0.out];exact h1) (by rw [HX0.out];exact h2) (by rw [HX0.out];exact h3) (by rw [HX0.out];exact h4)
  clear HX0
  have q1:(x0==[111,112,101,110])=false:=by simpa using h1
  have r1:([111,112,101,110]==x0)=false:=by simpa using fun e=>h1 e.symm
  have q2:(x0==[99,97,108,108])=false:=by simpa using h2
  have r2:([99,97,108,108]==x0)=false:=by simpa using fun e=>h2 e.symm
  have q3:(x0==[99,108,111,115,101])=false:=by simpa using h3
  have r3:([99,108,111,115,101]==x0)=false:=by simpa using fun e=>h3 e.symm
  have q4:(x0==[101,120,112,105,114,101])=false:=by simpa using h4
  have r4:([101,120,112,105,114,101]==x0)=false:=by simpa using fun e=>h4 e.symm
  clear h1 h2 h3 h4
  go_wp2_with fail
  obtain ⟨Wt,hWt⟩:∃y,y=W1:=⟨_,rfl⟩
  subst hWt
  have HT:Hid (Blk Wt w.heap.size 27 #[.int .i64 0,.int .i64 0,.int .i64 0,.int .i64 0,.int .i64 0,.slice none 0 0]/\Blk Wt (w.heap.size+1) 27 #[.int .i64 0,.int .i64 0,.int .i64 0,.int .i64 0,.int .i64 0,.slice none 0 0]/\w.grownBy Wt none/\am Wt w.heap.size (.slice none 0 0) []/\EnvC Wt/\InC (⟨0,0,0,0,0,[]⟩:PCmd)/\Cand s (⟨0,0,0,0,0,[]⟩:PCmd)):=⟨H1.out.1,H1.out.2.1,H1.out.2.2.1,⟨aD _ _,by simp⟩,H1.out.2.2.2,qf,HC.out⟩
  clear H1 HC q1 q2 q3 q4 r1 r2 r3 r4
  go_meet
  case rel=>exact ⟨(⟨0,0,0,0,0,[]⟩:PCmd),none,0,0,HT.out⟩
 case rest =>
 obtain ⟨c,o1,o2,o3,HT⟩:=hcut
 generalize wc=Wt at HT ⊢
 have HK:Hid (w.heap.size+1≠w.heap.size):=by unfold Hid;omega
 have d0:=HT.out.2.1.cell 0
 have d1:=HT.out.2.1.cell 1
 have d2:=HT.out.2.1.cell 2
 have d3:=HT.out.2.1.cell 3
 have d4:=HT.out.2.1.cell 4
 have d5:=HT.out.2.1.cell 5
 simp at d0 d1 d2 d3 d4 d5
 go_wp2_with fail
 refine (jX (.slice o1 o2 o3) c Wt HT.out.2.2.2.1.ops).mono ?_
 rintro e v1 ⟨rfl,g1⟩
 have T1:Hid (Blk v1 w.heap.size 27 #[.int .i64 0,.int .i64 0,.int .i64 0,.int .i64 0,.int .i64 0,.slice none 0 0]/\Blk v1 (w.heap.size+1) 27 #[.int .i64 c.kind,.int .i64 c.token,.int .i64 c.session,.int .i64 c.number,.int .i64 c.mark,.slice o1 o2 o3]/\w.grownBy v1 none/\am v1 w.heap.size (.slice o1 o2 o3) c.ops/\EnvC v1):=⟨HT.out.1.grown g1 (by simp),HT.out.2.1.grown g1 (by simp),aa HT.out.2.2.1 g1,HT.out.2.2.2.1.grown g1,HT.out.2.2.2.2.1.grown g1⟩
 clear g1 d0 d1 d2 d3 d4 d5
 have TI:Hid (InC c/\Cand s c):=HT.out.2.2.2.2.2
 clear HT
 by_cases hok:okC c=true
 rotate_left
 ·have HN:Hid (cA s=(bj,4)):=ng TI.out.2 (fun h=>absurd h hok)
  rw [show chkC c=2 by rw [chkC,if_neg hok]]
  clear hok TI
  have r0:=T1.out.1.cell 0
  have r1:=T1.out.1.cell 1
  have r2:=T1.out.1.cell 2
  have r3:=T1.out.1.cell 3
  have r4:=T1.out.1.cell 4
  have r5:=T1.out.1.cell 5
  have z0:=T1.out.1.free 0
  have z1:=T1.out.1.free 1
  have z2:=T1.out.1.free 2
  have z3:=T1.out.1.free 3
  have z4:=T1.out.1.free 4
  have z5:=T1.out.1.free 5
  simp at r0 r1 r2 r3 r4 r5
  go_wp2_with fail
  obtain ⟨W6,hW6,H6⟩:=set6 T1.out.1 (.int .i64 0) (.int .i64 0) (.int .i64 0) (.int .i64 0) (.int .i64 0) (.slice none 0 0)
  rw [hW6]
  clear hW6
  have y0:=H6.out.1.cell 0
  have y1:=H6.out.1.cell 1
  have y2:=H6.out.1.cell 2
  have y3:=H6.out.1.cell 3
  have y4:=H6.out.1.cell 4
  have y5:=H6.out.1.cell 5
  simp at y0 y1 y2 y3 y4 y5
  exact bodyPost_ret (v:=.tuple #[.agg #[.int .i64 0,.int .i64 0,.int .i64 0,.int .i64 0,.int .i64 0,.slice none 0 0],.int .i64 4]) (by simp [results,Tryz.results23,go_sem,y0,y1,y2,y3,y4,y5]) rfl (by rw [HN.out];exact ⟨.slice none 0 0,rfl,⟨aD _ _,by simp [bj]⟩,ag T1.out.2.2.1 H6.out.2 (fun x hx=>by simp at hx;omega)⟩)
 rw [show chkC c=0 by rw [chkC,if_pos hok]]
 have HO:Hid (okC c=true):=hok
 clear hok
 have d0:=T1.out.2.1.cell 0
 have d1:=T1.out.2.1.cell 1
 have d2:=T1.out.2.1.cell 2
 have d3:=T1.out.2.1.cell 3
 have d4:=T1.out.2.1.cell 4
 have d5:=T1.out.2.1.cell 5
 simp at d0 d1 d2 d3 d4 d5
 go_wp2_with fail
 refine (ud (.slice o1 o2 o3) c v1 T1.out.2.2.2.1.ops TI.out.1 T1.out.2.2.2.2 HO.out).mono ?_
 rintro e v2 ⟨rfl,g2⟩
 have T2:Hid (Blk v2 w.heap.size 27 #[.int .i64 0,.int .i64 0,.int .i64 0,.int .i64 0,.int .i64 0,.slice none 0 0]/\Blk v2 (w.heap.size+1) 27 #[.int .i64 c.kind,.int .i64 c.token,.int .i64 c.session,.int .i64 c.number,.int .i64 c.mark,.slice o1 o2 o3]/\w.grownBy v2 none/\am v2 w.heap.size (.slice o1 o2 o3) c.ops):=⟨T1.out.1.grown g2 (by simp),T1.out.2.1.grown g2 (by simp),aa T1.out.2.2.1 g2,T1.out.2.2.2.1.grown g2⟩
 clear g2 d0 d1 d2 d3 d4 d5 T1
 obtain ⟨T,hT⟩:∃T,bi c=T:=⟨_,rfl⟩
 have HX:Hid (bi c=T):=hT
 rw [hT]
 clear hT
 unfold Str
 by_cases hTs:T=s
 rotate_left
 ·have HN:Hid (cA s=(bj,4)):=ng TI.out.2 (fun _=>by rw [HX.out];exact hTs)
  have q1:(T==s)=false:=by simpa using hTs
  have q2:(s==T)=false:=by simpa using fun h:s=T=>hTs h.symm
  have q3:(T=s)=False:=eq_false hTs
  have q4:(s=T)=False:=eq_false fun h=>hTs h.symm
  clear hTs TI HX HO
  have r0:=T2.out.1.cell 0
  have r1:=T2.out.1.cell 1
  have r2:=T2.out.1.cell 2
  have r3:=T2.out.1.cell 3
  have r4:=T2.out.1.cell 4
  have r5:=T2.out.1.cell 5
  have z0:=T2.out.1.free 0
  have z1:=T2.out.1.free 1
  have z2:=T2.out.1.free 2
  have z3:=T2.out.1.free 3
  have z4:=T2.out.1.free 4
  have z5:=T2.out.1.free 5
  simp at r0 r1 r2 r3 r4 r5
  go_wp2_with fail
  obtain ⟨W6,hW6,H6⟩:=set6 T2.out.1 (.int .i64 0) (.int .i64 0) (.int .i64 0) (.int .i64 0) (.int .i64 0) (.slice none 0 0)
  rw [hW6]
  clear hW6
  have y0:=H6.out.1.cell 0
  have y1:=H6.out.1.cell 1
  have y2:=H6.out.1.cell 2
  have y3:=H6.out.1.cell 3
  have y4:=H6.out.1.cell 4
  have y5:=H6.out.1.cell 5
  simp at y0 y1 y2 y3 y4 y5
  exact bodyPost_ret (v:=.tuple #[.agg #[.int .i64 0,.int .i64 0,.int .i64 0,.int .i64 0,.int .i64 0,.slice none 0 0],.int .i64 4]) (by simp [results,Tryz.results23,go_sem,y0,y1,y2,y3,y4,y5]) rfl (by rw [HN.out];exact ⟨.slice none 0 0,rfl,⟨aD _ _,by simp [bj]⟩,ag T2.out.2.2.1 H6.out.2 (fun x hx=>by simp at hx;omega)⟩)
 subst hTs
 have HN:Hid (cA T=(c,0)):=by have:=kQ HO.out TI.out.1;rw [HX.out] at this;exact this
 clear TI HX HO
 have d0:=T2.out.2.1.cell 0
 have d1:=T2.out.2.1.cell 1
 have d2:=T2.out.2.1.cell 2
 have d3:=T2.out.2.1.cell 3
 have d4:=T2.out.2.1.cell 4
 have d5:=T2.out.2.1.cell 5
 simp at d0 d1 d2 d3 d4 d5
 have r0:=T2.out.1.cell 0
 have r1:=T2.out.1.cell 1
 have r2:=T2.out.1.cell 2
 have r3:=T2.out.1.cell 3
 have r4:=T2.out.1.cell 4
 have r5:=T2.out.1.cell 5
 have z0:=T2.out.1.free 0
 have z1:=T2.out.1.free 1
 have z2:=T2.out.1.free 2
 have z3:=T2.out.1.free 3
 have z4:=T2.out.1.free 4
 have z5:=T2.out.1.free 5
 simp at r0 r1 r2 r3 r4 r5
 go_wp2_with fail
 obtain ⟨W6,hW6,H6⟩:=set6 T2.out.1 (.int .i64 c.kind) (.int .i64 c.token) (.int .i64 c.session) (.int .i64 c.number) (.int .i64 c.mark) (.slice o1 o2 o3)
 rw [hW6]
 clear hW6
 have y0:=H6.out.1.cell 0
 have y1:=H6.out.1.cell 1
 have y2:=H6.out.1.cell 2
 have y3:=H6.out.1.cell 3
 have y4:=H6.out.1.cell 4
 have y5:=H6.out.1.cell 5
 simp at y0 y1 y2 y3 y4 y5
 exact bodyPost_ret (v:=.tuple #[.agg #[.int .i64 c.kind,.int .i64 c.token,.int .i64 c.session,.int .i64 c.number,.int .i64 c.mark,.slice o1 o2 o3],.int .i64 0]) (by simp [results,Tryz.results23,go_sem,y0,y1,y2,y3,y4,y5]) rfl (by rw [HN.out];exact ⟨.slice o1 o2 o3,rfl,T2.out.2.2.2.set T2.out.1 (by decide) (by decide) H6.out.2,ag T2.out.2.2.1 H6.out.2 (fun x hx=>by simp at hx;omega)⟩)
end Go.Proofs.YtgjcpjckaopeeaaGreatDoor
