import Derived.Test.YtanoabliahcbeaaGreatCrsAll
import Derived.Test.YtanoabliahcbeaaGreatMklAll
namespace Go.Proofs.YtanoabliahcbeaaGreat
open Go.RowKit Disk
open _root_.Go.Proofs.YtanoabliahcbeaaGreat.Calls _root_.Go.Proofs.YtanoabliahcbeaaGreat.Command
def Inv (m0:PMsg)(M0:Bs)(rem:List (Nat × Int))(r:PMsg)(N:Bs)(b:Bool):Prop :=
 (b=true->readNums (fld m0) m0 M0=readNums rem r N)/\(b=false->readNums (fld m0) m0 M0=none)
theorem Inv.step {m0:PMsg}{M0:Bs}{f:Nat × Int}{rem:List (Nat × Int)}{r:PMsg}{N N':Bs}{b b':Bool}{n:Nat}(h:Inv m0 M0 (f :: rem) r N b)(hn:(pNum 9223372036854775807 N=some (n,N')/\b'=b)\/(pNum 9223372036854775807 N=none/\b'=false)):Inv m0 M0 rem (setV r f.1 n) N' b':=by
 rcases hn with ⟨hp,rfl⟩ | ⟨hp,rfl⟩
 ·refine ⟨fun hb=>?_,h.2⟩
  rw [h.1 hb,readNums,hp]
  rfl
 ·refine ⟨(fun hb=>by cases hb),fun _=>?_⟩
  cases b
  ·exact h.2 rfl
  ·rw [h.1 rfl,readNums,hp]
   rfl
structure DS (w wc:World)(X d ob:Nat)(ao:Option Addr)(cap:Nat)(L:Bs)(k:Nat)(b:Bool)(ov av:Value)(r:PMsg):Prop where
 room:Room wc w.heap.size
 mb:MB wc X ov av r
 ops:OpsOwn wc w.heap.size ov r.ask.ops
 ans:Own wc w.heap.size av r.tell.answer
 rk:RK wc d ob ao cap L k b
 gr:w.grownBy wc none
 x1:w.heap.size<X
 d1:w.heap.size<=d
 o1:w.heap.size<=ob
variable {w wc:World} {X d ob:Nat} {ao:Option Addr} {cap:Nat} {L:Bs} {k:Nat} {b:Bool} {ov av:Value} {r:PMsg}
theorem room_fr {w':World}{q:Nat}(h:Room wc q)(hr:RK wc d ob ao cap L k b)(hf:Fr wc w' (RF d ob)):Room w' q:=by
 obtain ⟨c0,c1,c2,c3,c4,c5,c6,c7,c8,c9,c10,c11,c12,h⟩:=h
 exact room_lit (blk_fr h hr hf (by decide) (by decide))
theorem DS.next {w':World}{k':Nat}{b':Bool}(h:DS w wc X d ob ao cap L k b ov av r)(hk:DkPost d ob ao cap L k' b' wc w'):DS w w' X d ob ao cap L k' b' ov av r :=
 ⟨room_fr h.room h.rk hk.2,blk_fr h.mb h.rk hk.2 (by decide) (by decide),opsOwn_fr h.ops h.rk hk.2,own_fr h.ans h.rk hk.2,hk.1,fr_grown h.gr hk.2 h.d1 h.o1,h.x1,h.d1,h.o1⟩
theorem DS.grown {w':World}(h:DS w wc X d ob ao cap L k b ov av r)(hg:wc.grownBy w' none):DS w w' X d ob ao cap L k b ov av r :=
 ⟨h.room.grown hg,h.mb.grown hg,h.ops.grown hg,h.ans.grown hg,h.rk.grown hg,grown_trans h.gr hg,h.x1,h.d1,h.o1⟩
theorem mb_nou8 (j:Nat)(x:Int)(ho:IsSl ov)(ha:IsSl av):(msgA ov av r)[j]?≠some (Value.int .u8 x):=by
 obtain ⟨a1,a2,a3,rfl⟩:=ho
 obtain ⟨a4,a5,a6,rfl⟩:=ha
 unfold msgA
 rcases j with _ | _ | _ | _ | _ | _ | _ | _ | _ | _ | _ | _ | _ | j <;> simp
theorem blk_ne {a t t':Nat}{c c':Array Value}{q:Nat}(h:Blk wc a t c)(h':Blk wc q t' c')(hne:t≠t'):a≠q:=by
 rintro rfl
 exact hne (blk_type h h')
theorem rk_x {w':World}(h:RK wc d ob ao cap L k b)(hm:MB wc X ov av r)(ho:IsSl ov)(ha:IsSl av)(hg:wc.grownBy w' (some X)):RK w' d ob ao cap L k b :=
 ⟨seg_blk h.seg hm (fun j x=>mb_nou8 j x ho ha) hg,h.rf.grown hg (by simp;exact fun e=>blk_ne hm h.rf (by decide) e),h.ok.grown hg (by simp;exact fun e=>blk_ne hm h.ok (by decide) e),h.le,h.zz⟩
theorem DS.store {w':World}{ov' av':Value}{r':PMsg}(h:DS w wc X d ob ao cap L k b ov av r)(hg:wc.grownBy w' (some X))(hm:MB w' X ov' av' r')(h1:OpsOwn wc w.heap.size ov' r'.ask.ops)(h2:Own wc w.heap.size av' r'.tell.answer):DS w w' X d ob ao cap L k b ov' av' r' :=
 ⟨h.room.but hg (by have:=h.x1;omega),hm,h1.set h.mb (by decide) (by decide) hg,own_set h2 h.mb (by decide) hg,rk_x h.rk h.mb (isSl_ow h.ops) (isSl_on h.ans) hg,grown_new h.gr hg (by intro x hx;simp at hx;have:=h.x1;omega),h.x1,h.d1,h.o1⟩
theorem DS.num (h:DS w wc X d ob ao cap L k b ov av r){o:Nat}(ho:isOff o)(n:Int):DS w (wc.setCell ⟨X,o,none⟩ (.int .i64 n)) X d ob ao cap L k b ov av (setV r o n):=by
 obtain ⟨_,_,_,_,h5,h6⟩:=setV_kinds r o n
 exact h.store (grown_setCell _ _ _ _) (h.mb.set ho n) (by rw [h5];exact h.ops) (by rw [h6];exact h.ans)
theorem DS.say (h:DS w wc X d ob ao cap L k b ov av r)(b':Bool):DS w (wc.setCell ⟨ob,0,none⟩ (.bool b')) X d ob ao cap L k b' ov av r :=
 h.next ⟨h.rk.say b',fr_ob _⟩
theorem DS.cells (h:DS w wc X d ob ao cap L k b ov av r):wc.cell? ⟨d,0,none⟩=some (.slice ao L.length cap)/\wc.cell? ⟨d,1,none⟩=some (.int .i64 (k:Int))/\wc.cell? ⟨ob,0,none⟩=some (.bool b)/\wc.frozen? ⟨ob,0,none⟩=false :=
 ⟨h.rk.rf.cell 0,h.rk.rf.cell 1,h.rk.ok.cell 0,h.rk.ok.free 0⟩
end Go.Proofs.YtanoabliahcbeaaGreat
