import Derived.Test.YtgjcpjckaopeeaaGreatDoorCallsZ
import Derived.Test.YtgjcpjckaopeeaaGreatDoorCallsU
import Derived.Lib.SlBytesConst
set_option maxHeartbeats 4000000
set_option maxRecDepth 100000
namespace Go.Proofs.YtgjcpjckaopeeaaGreatDoor.Calls
open Go.RowKit Disk
open Names (Str)
def parseC (s:Bs):List POp × Int:=if s.length<=12288 then (match pParse s with | some l=>(l,0) | none=>([],4)) else ([],3)
theorem parse25 (s:Bs)(w:World)(hz:s.length<=20000)(hE:EnvF w) :
  Calls Tryz.prog 89 #[.string ⟨s.toArray⟩] w (ReadPost w (parseC s)):=by
 obtain ⟨x,hx⟩:∃x:ByteArray,x=⟨s.toArray⟩:=⟨_,rfl⟩
 have hsz:x.size=s.length:=by rw [hx];simp [ByteArray.size]
 have hmf:∀(fn:Fn) (first cap:Array Value) (w:World),(Instr.makeFunc fn first cap).run Tryz.prog w=.ok (.func fn first cap) w:=fun _ _ _ _=>rfl
 by_cases hle:s.length<=12288
 ·obtain ⟨W,hW⟩:∃W,W=(w.alloc (.cells #[.string x] 9)).alloc (.cells #[.slice none 0 0] 25):=⟨_,rfl⟩
  have hgW:w.grownBy W none:=by rw [hW];exact grown_trans (World.grownBy_alloc _ _ none) (World.grownBy_alloc _ _ none)
  have k1:W.cell? ⟨w.heap.size,0,none⟩=some (.string ⟨s.toArray⟩):=by rw [hW,<-hx];simp [go_sem]
  have k3:Blk W (w.heap.size+1) 25 #[.slice none 0 0]:=by
   have:=heap_alloc_new (w.alloc (.cells #[.string x] 9)) (.cells #[.slice none 0 0] 25)
   rw [hW]
   simpa [Blk] using this
  have hin:=parse52 w.heap.size s ((W.alloc (.cells #[.slice none 0 0] 25)).alloc (.cells #[.int .i64 0] 33)) hz (hE.grown (grown_trans hgW (grown_trans (World.grownBy_alloc _ _ none) (World.grownBy_alloc _ _ none)))) (grown_fun (grown_trans (World.grownBy_alloc _ _ none) (World.grownBy_alloc _ _ none)) k1)
  have HF:Hid _:=face51_52 _ W _ _ (by
   rintro u w1 ⟨l,x,_,rfl,ho⟩
   obtain ⟨a,n,c,rfl,_⟩:=ho.slice
   exact ⟨a,n,c,rfl⟩) (by
   rintro u w1 w2 b t c ⟨l,x,h1,h2,ho⟩ hb ht hg
   refine ⟨l,x,h1,h2,ho.set hb ?_ ?_ hg⟩ <;> omega) hin
  have HG:Hid (w.grownBy W none/\Blk W (w.heap.size+1) 25 #[.slice none 0 0]):=⟨hgW,k3⟩
  have HP:Hid (∀l,pParse s=some l->parseC s=(l,0)):=fun l h=>by unfold parseC;rw [if_pos hle,h]
  have HQ:Hid (pParse s=none->parseC s=([],4)):=fun h=>by unfold parseC;rw [if_pos hle,h]
  have i1:¬(12288:Int)<(x.size:Int):=by omega
  rw [<-hx]
  have HX:Hid (x.size=s.length):=hsz
  have HW:Hid (W=(w.alloc (.cells #[.string x] 9)).alloc (.cells #[.slice none 0 0] 25)):=hW
  clear hin hgW k1 k3 hx hsz hE hW
  go_enter Tryz.func89,Tryz.ntmps89
  go_wp2_with (go_at_call 126;rw [<-HW.out];refine Calls.mono HF.out ?_)
  rintro e w1 ⟨(⟨u,rfl,l,hx,y,rfl,ho⟩ | ⟨c,w2,rfl,hx,rfl⟩),hg⟩
  ·obtain ⟨a,n,c,rfl,hn⟩:=ho.slice
   have hb:Blk w1 (w.heap.size+1) 25 #[.slice none 0 0]:=HG.out.2.grown hg (by simp)
   have c0:=hb.cell 0
   have z0:=hb.free 0
   have F:Hid (parseC s=(l,0)/\OpsOwn w1 w.heap.size (.slice a n c) l/\w.grownBy w1 none/\Blk w1 (w.heap.size+1) 25 #[.slice none 0 0]):=⟨HP.out l hx,ho.mono (by have:=HG.out.1.size;simp;omega),grown_trans HG.out.1 hg,hb⟩
   clear hx ho hg hb HF hn
   go_wp2_with fail
   have hb2:=F.out.2.2.2.store 0 (.slice a n c)
   refine bodyPost_ret (v:=_) (results_row_tmp rfl _ _ (w.heap.size+1) _ rfl (run_loadVar_row _ (w.heap.size+1) 25 25 _ (0,0) _ hb2 Tryz.underlying25 rfl (by kernel_rfl))) rfl ?_
   exact ⟨_,by rw [F.out.1];rfl,by rw [F.out.1];exact F.out.2.1.set F.out.2.2.2 (by decide) (by decide) (grown_setCell _ _ _ _),grown_new F.out.2.2.1 (grown_setCell _ _ _ _) (fun y hy=>by simp at hy;omega)⟩
  ·have hb:Blk w1 (w.heap.size+1) 25 #[.slice none 0 0]:=HG.out.2.grown hg (by simp)
   have c0:=hb.cell 0
   have z0:=hb.free 0
   have F:Hid (parseC s=([],4)/\w.grownBy w1 none/\Blk w1 (w.heap.size+1) 25 #[.slice none 0 0]):=⟨HQ.out hx,grown_trans HG.out.1 hg,hb⟩
   clear hx hg hb HF
   go_wp2_with fail
   have hb2:=F.out.2.2.store 0 (.slice none 0 0)
   refine bodyPost_ret (v:=_) (results_row_tmp rfl _ _ (w.heap.size+1) _ rfl (run_loadVar_row _ (w.heap.size+1) 25 25 _ (0,0) _ hb2 Tryz.underlying25 rfl (by kernel_rfl))) rfl ?_
   exact ⟨_,by rw [F.out.1];rfl,by rw [F.out.1];exact ⟨lrow_nil _ _,by simp⟩,grown_new F.out.2.1 (grown_setCell _ _ _ _) (fun y hy=>by simp at hy;omega)⟩
 ·have HC:Hid (parseC s=([],3)):=by unfold parseC;rw [if_neg hle];rfl
  have i1:(12288:Int)<(x.size:Int):=by omega
  have hz2:x.size<=20000:=by omega
  rw [<-hx]
  clear hx hsz hE
  go_enter Tryz.func89,Tryz.ntmps89
  go_wp2_with fail
  have hb:Blk ((w.alloc (.cells #[.string x] 9)).alloc (.cells #[.slice none 0 0] 25)) (w.heap.size+1) 25 #[.slice none 0 0]:=by
   have:=heap_alloc_new (w.alloc (.cells #[.string x] 9)) (.cells #[.slice none 0 0] 25)
   simpa [Blk] using this
  refine bodyPost_ret (v:=_) (results_row_tmp rfl _ _ (w.heap.size+1) _ rfl (run_loadVar_row _ (w.heap.size+1) 25 25 _ (0,0) _ hb Tryz.underlying25 rfl (by kernel_rfl))) rfl ?_
  exact ⟨_,by rw [HC.out];rfl,by rw [HC.out];exact ⟨lrow_nil _ _,by simp⟩,grown_trans (World.grownBy_alloc _ _ none) (World.grownBy_alloc _ _ none)⟩
def getOp:POp:=⟨1,[116],[107],[],false,[],[],0⟩
theorem getOp_in:OpIn getOp:=⟨by decide,by decide,by decide,by decide,by decide⟩
theorem lit29 (w:World)(C:Array Value)(n:Nat)(L:Bs)(h:C.size=n)(hx:C.toList=BV L)(hl:L.length=n)(hz:L.length<=1000) :
  ∃w',(convert 32 32 (.slice (some ⟨w.heap.size,0,none⟩) n n)).run Tryz.prog (w.alloc (.cells C 5))=.ok (.slice (some ⟨w.heap.size,0,none⟩) n n) w'/\w'.heap.size=w.heap.size+1/\Hid (Seg w' (.slice (some ⟨w.heap.size,0,none⟩) n n) L/\w.grownBy w' none):=by
 refine ⟨w.alloc (.cells C 5 (n,n+1)),?_,by simp,?_,World.grownBy_alloc _ _ _⟩
 ·subst h
  exact Go.Lib.run_convert_bytes_const w 32 5 C _ _ Tryz.underlying32 Tryz.underlying5
 ·subst hl
  exact seg_lit w C _ L hx (by omega)
end Go.Proofs.YtgjcpjckaopeeaaGreatDoor.Calls
