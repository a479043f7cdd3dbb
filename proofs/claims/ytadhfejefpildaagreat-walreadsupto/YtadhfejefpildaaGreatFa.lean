import Derived.Test.YtadhfejefpildaaGreatEh
namespace Go.Proofs.YtadhfejefpildaaGreat
open Go.RowKit Disk
open _root_.Go.Proofs.YtadhfejefpildaaGreat.Calls
open _root_.Go.Proofs.YtadhfejefpildaaGreat.Command
open _root_.Go.Proofs.YtadhfejefpildaaGreat.Frame (Frs)
structure EntsA (w:World)(v:Value)(E:List PEnt):Prop where
 ents:Ents w v E
 inn:∀e ∈ E,InC e.2
 few:E.length<=1048576
theorem EntsA.grown {w w':World}{v:Value}{E:List PEnt}(h:EntsA w v E)(hg:w.grownBy w' none):EntsA w' v E:=⟨h.ents.grown hg,h.inn,h.few⟩
theorem EntAt.grown {w w':World}{b off:Nat}{o1:Option Addr}{o2 o3:Nat}{e:PEnt}(h:EntAt w b off o1 o2 o3 e)(hg:w.grownBy w' none):EntAt w' b off o1 o2 o3 e:=by
 obtain ⟨g0,g1,g2,g3,g4,g5,g6⟩:=h
 exact ⟨hg.cell g0 (by simp),hg.cell g1 (by simp),hg.cell g2 (by simp),hg.cell g3 (by simp),hg.cell g4 (by simp),hg.cell g5 (by simp),hg.cell g6 (by simp)⟩
theorem all_take {E:List PEnt}{k:Nat}(h:k<E.length)(ha:(E.take k).all okE=true)(hk:okE E[k]=true):(E.take (k+1)).all okE=true:=by
 rw [List.take_succ_eq_append_getElem h,List.all_append,ha]
 simp [hk]
end Go.Proofs.YtadhfejefpildaaGreat
