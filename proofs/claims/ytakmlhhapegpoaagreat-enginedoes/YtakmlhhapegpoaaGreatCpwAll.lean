import Derived.Test.YtakmlhhapegpoaaGreatWireAll
import Derived.Test.YtakmlhhapegpoaaGreatNamesAll
import Derived.Recover
set_option maxHeartbeats 4000000
set_option maxRecDepth 100000
namespace Go.Proofs.YtakmlhhapegpoaaGreat.Calls
abbrev Bs:=List UInt8
structure POp where
 kind:Int
 table:Bs
 key:Bs
 value:Bs
 has:Bool
 old:Bs
 to:Bs
 most:Int
deriving DecidableEq
structure POut where
 has:Bool
 value:Bs
 rows:List (Bs × Bs)
deriving DecidableEq
structure PRes where
 abort:Int
 place:Int
 outs:List POut
deriving DecidableEq
def flagForm (is:Bool):Bs:=if is then [1] else [0]
def bytesForm (L:Bs):Bs:=Wire.numForm L.length ++ L
def named (o:POp):POp :=
 if o.kind=1\/o.kind=3 then ⟨o.kind,o.table,o.key,[],false,[],[],0⟩
 else if o.kind=2 then ⟨o.kind,o.table,o.key,o.value,false,[],[],0⟩
 else if o.kind=4 then ⟨o.kind,o.table,o.key,o.value,o.has,o.old,[],0⟩
 else if o.kind=5 then ⟨o.kind,o.table,o.key,[],false,[],o.to,o.most⟩
 else ⟨0,[],[],[],false,[],[],0⟩
def bounds (o:POp):Bool:=if o.kind=5 then (decide (o.key.length<=64) && decide (1<=o.most) && decide (o.most<=64)) else Names.keyB o.key
def mayOp (o:POp):Bool:=bounds o && Names.tabB o.table && Names.valueB o.value && Names.valueB o.old && (o.has || decide (o.old.length=0)) && decide (o.to.length<=64) && decide (o=named o)
def tailForm (o:POp):Bs :=
 if o.kind=2 then bytesForm o.value
 else if o.kind=4 then flagForm o.has ++ (bytesForm o.old ++ bytesForm o.value)
 else if o.kind=5 then bytesForm o.to ++ Wire.numForm o.most.toNat
 else []
def frontForm (o:POp):Bs:=Wire.numForm o.kind.toNat ++ (bytesForm o.table ++ bytesForm o.key)
def opForm (o:POp):Bs:=frontForm o ++ tailForm o
def callForm (l:List POp):Bs:=Wire.numForm l.length ++ l.flatMap opForm
def mayCall (l:List POp):Bool:=decide (1<=l.length) && decide (l.length<=16) && l.all mayOp
def chk (l:List POp):Int:=if mayCall l=true then (if (callForm l).length<=4096 then 0 else 3) else 2
structure May (o:POp):Prop where
 kind:1<=o.kind/\o.kind<=5
 tab:Names.tabB o.table=true
 key:o.key.length<=64
 keyB:o.kind≠5->Names.keyB o.key=true
 value:o.value.length<=256
 old:o.old.length<=256
 has:o.has=false->o.old=[]
 to:o.to.length<=64
 most:o.kind=5->1<=o.most/\o.most<=64
 named:o=named o
theorem named_kind {o:POp}(h:o=named o)(hk:Names.tabB o.table=true):1<=o.kind/\o.kind<=5:=by
 unfold named at h
 split at h
 ·omega
 ·split at h
  ·omega
  ·split at h
   ·omega
   ·split at h
    ·omega
    ·rw [h] at hk
     simp [Names.tabB] at hk
theorem may_of {o:POp}(h:mayOp o=true):May o:=by
 unfold mayOp at h
 simp only [Bool.and_eq_true,decide_eq_true_eq] at h
 obtain ⟨⟨⟨⟨⟨⟨hb,ht⟩,hv⟩,ho⟩,hh⟩,hto⟩,hn⟩:=h
 refine ⟨named_kind hn ht,ht,?_,?_,?_,?_,?_,hto,?_,hn⟩
 ·unfold bounds at hb
  split at hb
  ·simp at hb;exact hb.1.1
  ·simp [Names.keyB] at hb;exact hb.2
 ·intro h5
  unfold bounds at hb
  rw [if_neg h5] at hb
  exact hb
 ·simpa [Names.valueB] using hv
 ·simpa [Names.valueB] using ho
 ·intro h0
  simp [h0] at hh
  exact hh
 ·intro h5
  unfold bounds at hb
  rw [if_pos h5] at hb
  simp at hb
  omega
theorem may_iff {o:POp}:mayOp o=true<->May o:=by
 refine ⟨may_of,fun h=>?_⟩
 unfold mayOp
 simp only [Bool.and_eq_true,decide_eq_true_eq]
 refine ⟨⟨⟨⟨⟨⟨?_,h.tab⟩,by simpa [Names.valueB] using h.value⟩,by simpa [Names.valueB] using h.old⟩,?_⟩,h.to⟩,h.named⟩
 ·unfold bounds
  split
  ·have:=h.most (by assumption)
   have:=h.key
   simp;omega
  ·exact h.keyB (by assumption)
 ·cases hh:o.has
  ·simp [h.has hh]
  ·simp
theorem tab_len {L:Bs}(h:Names.tabB L=true):L.length<=16:=by
 simp [Names.tabB] at h;exact h.1.2
section
variable {α:Type}
variable {p:Bs->Option (α × Bs)} {f:α->Bs} {ok:α->Bool}
end
end Go.Proofs.YtakmlhhapegpoaaGreat.Calls
namespace Go.Proofs.YtakmlhhapegpoaaGreat.Calls
open Go.RowKit Disk
open Names (Str)
theorem cell_lt {w:World}{b off:Nat}{v:Value}(h:w.cell? ⟨b,off,none⟩=some v):b<w.heap.size:=by
 refine Nat.lt_of_not_le fun hle=>?_
 unfold World.cell? at h
 simp only at h
 rw [Array.getElem?_eq_none hle] at h
 simp at h
def opV (k v ol t:Value)(o:POp):Value:=.agg #[.int .i64 o.kind,Str o.table,k,v,.bool o.has,ol,t,.int .i64 o.most]
structure OpIn (o:POp):Prop where
 k0:-9223372036854775808<=o.kind
 k1:o.kind<=9223372036854775807
 m0:-9223372036854775808<=o.most
 m1:o.most<=9223372036854775807
 tl:o.table.length<=9223372036854775807
structure OpSeg (w:World)(k v ol t:Value)(o:POp):Prop where
 key:Seg w k o.key
 value:Seg w v o.value
 old:Seg w ol o.old
 to:Seg w t o.to
 fits:OpIn o
theorem OpSeg.grown {w w':World}{k v ol t:Value}{o:POp}(h:OpSeg w k v ol t o)(hg:w.grownBy w' none):OpSeg w' k v ol t o:=⟨h.key.grown hg,h.value.grown hg,h.old.grown hg,h.to.grown hg,h.fits⟩
theorem beq_dec (A B:List UInt8):(A==B)=decide (A=B):=by by_cases h:A=B <;> simp [h]
theorem equal114 (a b:Value)(A B:List UInt8)(w:World)(ha:Seg w a A)(hb:Seg w b B) :
  Calls Tryz.prog 97 #[a,b] w fun e w'=>e=.returned (.bool (decide (A=B)))/\w'=w:=by
 have h1:=seg_str ha
 have h2:=seg_str hb
 go_enter Tryz.func97,Tryz.ntmps97
 go_wp2
 go_ret
 refine ⟨?_,rfl⟩
 show Ending.returned (Value.bool (A==B))=_
 rw [beq_dec]
theorem POp.ext' {a b:POp}:a=b<->a.kind=b.kind/\a.table=b.table/\a.has=b.has/\a.most=b.most/\a.key=b.key/\a.value=b.value/\a.old=b.old/\a.to=b.to:=by
 constructor
 ·rintro rfl;simp
 ·rintro ⟨h1,h2,h3,h4,h5,h6,h7,h8⟩
  cases a;cases b;simp_all
theorem same72 (k v ol t k' v' ol' t':Value)(a b:POp)(w:World)(ha:OpSeg w k v ol t a)(hb:OpSeg w k' v' ol' t' b) :
  Calls Tryz.prog 158 #[opV k v ol t a,opV k' v' ol' t' b] w fun e w'=>e=.returned (.bool (decide (a=b)))/\w.grownBy w' none:=by
 unfold opV Str
 obtain ⟨h1,h2,h3,h4,_⟩:=ha
 obtain ⟨i1,i2,i3,i4,_⟩:=hb
 go_enter Tryz.func158,Tryz.ntmps158
 go_wp2_with (go_at_call 97;refine (equal114 _ _ _ _ _ (seg_alloc (seg_alloc (by assumption) _) _) (seg_alloc (seg_alloc (by assumption) _) _)).mono ?_;rintro e w1 ⟨rfl,rfl⟩)
 all_goals go_ret
 all_goals refine ⟨?_,grown_trans (World.grownBy_alloc _ _ none) (World.grownBy_alloc _ _ none)⟩
 all_goals (refine congrArg (fun x=>Ending.returned (Value.bool x)) ?_;simp [POp.ext', *])
structure OpAt (w:World)(b p:Nat)(o:POp)(k v ol t:Value):Prop where
 c0:w.cell? ⟨b,p,none⟩=some (.int .i64 o.kind)
 c1:w.cell? ⟨b,p+1,none⟩=some (Str o.table)
 c2:w.cell? ⟨b,p+2,none⟩=some k
 c3:w.cell? ⟨b,p+3,none⟩=some v
 c4:w.cell? ⟨b,p+4,none⟩=some (.bool o.has)
 c5:w.cell? ⟨b,p+5,none⟩=some ol
 c6:w.cell? ⟨b,p+6,none⟩=some t
 c7:w.cell? ⟨b,p+7,none⟩=some (.int .i64 o.most)
theorem OpAt.grown {w w':World}{b p:Nat}{o:POp}{k v ol t:Value}(h:OpAt w b p o k v ol t)(hg:w.grownBy w' none):OpAt w' b p o k v ol t :=
 ⟨hg.cell h.c0 (by simp),hg.cell h.c1 (by simp),hg.cell h.c2 (by simp),hg.cell h.c3 (by simp),hg.cell h.c4 (by simp),hg.cell h.c5 (by simp),hg.cell h.c6 (by simp),hg.cell h.c7 (by simp)⟩
def Ops (w:World)(v:Value)(l:List POp):Prop :=
 ∃ao cap,v=.slice ao l.length cap/\l.length<=1099511627776/\∀j (hj:j<l.length),∃b off k x ol t,ao=some ⟨b,off,none⟩/\OpAt w b (off+j*8) l[j] k x ol t/\OpSeg w k x ol t l[j]
theorem Ops.shape {w:World}{v:Value}{l:List POp}(h:Ops w v l):∃ao cap,v=.slice ao l.length cap:=by obtain ⟨ao,cap,h,_⟩:=h;exact ⟨ao,cap,h⟩
theorem Ops.len {w:World}{v:Value}{l:List POp}(h:Ops w v l):l.length<=1099511627776:=by obtain ⟨ao,cap,_,h,_⟩:=h;exact h
theorem Ops.grown {w w':World}{v:Value}{l:List POp}(h:Ops w v l)(hg:w.grownBy w' none):Ops w' v l:=by
 obtain ⟨ao,cap,hv,hl,h4⟩:=h
 refine ⟨ao,cap,hv,hl,fun j hj=>?_⟩
 obtain ⟨b,off,k,x,ol,t,e,h1,h2⟩:=h4 j hj
 exact ⟨b,off,k,x,ol,t,e,h1.grown hg,h2.grown hg⟩
theorem ops_open {w:World}{v:Value}{l:List POp}(h:Ops w v l):∃ao n cap,v=.slice ao n cap/\l.length=n/\n<=1099511627776/\Hid (Ops w (.slice ao n cap) l):=by
 obtain ⟨ao,cap,rfl⟩:=h.shape
 exact ⟨ao,_,cap,rfl,rfl,h.len,h⟩
theorem ops_at {w:World}{ao:Option Addr}{n cap:Nat}{l:List POp}(h:Ops w (.slice ao n cap) l)(j:Nat)(hj:j<l.length):∃b off k x ol t,ao=some ⟨b,off,none⟩/\OpAt w b (off+j*8) l[j] k x ol t/\OpSeg w k x ol t l[j]:=by
 obtain ⟨ao',cap',hv,_,h4⟩:=h
 simp at hv
 obtain ⟨rfl,_,_⟩:=hv
 exact h4 j hj
theorem OpSeg.shapes {w:World}{k v ol t:Value}{o:POp}(h:OpSeg w k v ol t o):∃a b c d a' b' c' d',k=.slice a o.key.length a'/\v=.slice b o.value.length b'/\ol=.slice c o.old.length c'/\t=.slice d o.to.length d':=by
 obtain ⟨a,a',h1⟩:=h.key.shape
 obtain ⟨b,b',h2⟩:=h.value.shape
 obtain ⟨c,c',h3⟩:=h.old.shape
 obtain ⟨d,d',h4⟩:=h.to.shape
 exact ⟨a,b,c,d,a',b',c',d',h1,h2,h3,h4⟩
theorem drop_eq {α:Type}{A B:List α}{k:Nat}(ha:k<A.length)(hb:k<B.length):(A.drop k=B.drop k)<->(A[k]=B[k]/\A.drop (k+1)=B.drop (k+1)):=by
 conv=>lhs;rw [List.drop_eq_getElem_cons ha,List.drop_eq_getElem_cons hb]
 exact List.cons_eq_cons
theorem sameop43 (k v ol t k' v' ol' t':Value)(a b:POp)(w:World)(ha:OpSeg w k v ol t a)(hb:OpSeg w k' v' ol' t' b) :
  Calls Tryz.prog 67 #[opV k v ol t a,opV k' v' ol' t' b] w fun e w'=>e=.returned (.bool (decide (a=b)))/\w.grownBy w' none:=by
 unfold opV Str
 obtain ⟨h1,h2,h3,h4,_⟩:=ha
 obtain ⟨i1,i2,i3,i4,_⟩:=hb
 have h1':=fun o1 o2=>seg_str (seg_alloc (seg_alloc h1 o1) o2)
 have h2':=fun o1 o2=>seg_str (seg_alloc (seg_alloc h2 o1) o2)
 have h3':=fun o1 o2=>seg_str (seg_alloc (seg_alloc h3 o1) o2)
 have h4':=fun o1 o2=>seg_str (seg_alloc (seg_alloc h4 o1) o2)
 have i1':=fun o1 o2=>seg_str (seg_alloc (seg_alloc i1 o1) o2)
 have i2':=fun o1 o2=>seg_str (seg_alloc (seg_alloc i2 o1) o2)
 have i3':=fun o1 o2=>seg_str (seg_alloc (seg_alloc i3 o1) o2)
 have i4':=fun o1 o2=>seg_str (seg_alloc (seg_alloc i4 o1) o2)
 go_enter Tryz.func67,Tryz.ntmps67
 go_wp2
 all_goals go_ret
 all_goals refine ⟨?_,grown_trans (World.grownBy_alloc _ _ none) (World.grownBy_alloc _ _ none)⟩
 all_goals (refine congrArg (fun x=>Ending.returned (Value.bool x)) ?_;first | (simp [POp.ext', *];done) | (by_cases hm:a.most=b.most <;> simp [POp.ext', *]))
end Go.Proofs.YtakmlhhapegpoaaGreat.Calls
