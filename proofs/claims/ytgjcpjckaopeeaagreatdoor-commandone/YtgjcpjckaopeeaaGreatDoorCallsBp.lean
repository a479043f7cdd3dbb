import Derived.Test.YtgjcpjckaopeeaaGreatDoorCallsPa
import Derived.Lib.AtoiAllCases
namespace Go.Proofs.YtgjcpjckaopeeaaGreatDoor.Calls
open Names (Str)
theorem pre_no {c:UInt8}{s x r:List UInt8}(hx:x≠[])(h:c ∉ x):(c :: s).isPrefixOf (x ++ r)=false:=by
 cases x with
 | nil=>exact absurd rfl hx
 | cons a y =>
  have:c≠a:=fun e=>h (by simp [e])
  simp [List.isPrefixOf,this]
theorem index_hit {c:UInt8}{s x r:List UInt8}(h:c ∉ x):Lib.index (x ++ (c :: s ++ r)) (c :: s)=x.length:=by
 refine Lib.index_first (by simp) ?_ ?_
 ·unfold Lib.occAt
  rw [List.drop_left]
  simp [List.isPrefixOf_iff_prefix]
 ·intro j hj
  unfold Lib.occAt
  rw [List.drop_append_of_le_length (by omega)]
  refine pre_no ?_ (fun e=>h (List.mem_of_mem_drop e))
  intro e
  have:=congrArg List.length e
  simp at this;omega
theorem index_no {c:UInt8}{s x:List UInt8}(h:c ∉ x):Lib.index x (c :: s)=-1:=by
 refine Lib.index_none fun j _=>?_
 unfold Lib.occAt
 by_cases hd:x.drop j=[]
 ·rw [hd];rfl
 ·have:=pre_no (s:=s) (r:=[]) hd (fun e=>h (List.mem_of_mem_drop e))
  rwa [List.append_nil] at this
theorem join_one (x sep:List UInt8):Lib.join [x] sep=x:=by simp [Lib.join,List.intercalate]
theorem join_two (x y sep:List UInt8)(L:List (List UInt8)):Lib.join (x :: y :: L) sep=x ++ (sep ++ Lib.join (y :: L) sep):=by simp [Lib.join,List.intercalate]
theorem count_join {c:UInt8}{s:List UInt8}:∀(L:List (List UInt8)) (fuel:Nat),L≠[]->L.length<=fuel->(∀x ∈ L,c ∉ x)->Lib.countFrom (c :: s) fuel (Lib.join L (c :: s))=L.length-1
 | [],_,h,_,_=>absurd rfl h
 | [x],fuel,_,hf,hx=>by
  obtain ⟨f,rfl⟩:∃f,fuel=f+1:=⟨fuel-1,by simp at hf;omega⟩
  rw [join_one]
  unfold Lib.countFrom
  rw [index_no (hx x (by simp))];rfl
 | x :: y :: L,fuel,_,hf,hx=>by
  obtain ⟨f,rfl⟩:∃f,fuel=f+1:=⟨fuel-1,by simp at hf;omega⟩
  rw [join_two]
  unfold Lib.countFrom
  rw [index_hit (hx x (by simp))]
  have e:((x.length:Int)==-1)=false:=by rw [beq_eq_false_iff_ne];omega
  rw [e]
  have d:(x ++ (c :: s ++ Lib.join (y :: L) (c :: s))).drop ((x.length:Int).toNat+(c :: s).length)=Lib.join (y :: L) (c :: s):=by
   rw [show ((x.length:Int).toNat+(c :: s).length)=(x ++ (c :: s)).length by simp,<-List.append_assoc,List.drop_left]
  rw [d,count_join (y :: L) f (by simp) (by simp at hf ⊢;omega) (fun z hz=>hx z (by simp at hz ⊢;exact Or.inr hz))]
  simp;omega
theorem split_at {c:UInt8}{s:List UInt8}:∀(L:List (List UInt8)),L≠[]->(∀x ∈ L,c ∉ x)->Lib.splitK (c :: s) 0 (L.length-1) (Lib.join L (c :: s))=L
 | [],h,_=>absurd rfl h
 | [x],_,_=>by rw [join_one];rfl
 | x :: y :: L,_,hx=>by
  rw [join_two,show (x :: y :: L).length-1=((y :: L).length-1)+1 by simp]
  unfold Lib.splitK
  rw [index_hit (hx x (by simp))]
  have e:((x.length:Int)==-1)=false:=by rw [beq_eq_false_iff_ne];omega
  rw [e]
  have d:(x ++ (c :: s ++ Lib.join (y :: L) (c :: s))).drop ((x.length:Int).toNat+(c :: s).length)=Lib.join (y :: L) (c :: s):=by
   rw [show ((x.length:Int).toNat+(c :: s).length)=(x ++ (c :: s)).length by simp,<-List.append_assoc,List.drop_left]
  rw [d,split_at (y :: L) (by simp) (fun z hz=>hx z (by simp at hz ⊢;exact Or.inr hz))]
  simp
theorem join_long {c:UInt8}{s:List UInt8}:∀(L:List (List UInt8)),L.length<=(Lib.join L (c :: s)).length+1
 | []=>by simp
 | [x]=>by simp
 | x :: y :: L=>by
  have:=join_long (c:=c) (s:=s) (y :: L)
  rw [join_two]
  simp at this ⊢;omega
theorem split_join {c:UInt8}{s:List UInt8}{L:List (List UInt8)}(h:L≠[])(hx:∀x ∈ L,c ∉ x):Lib.split (Lib.join L (c :: s)) (c :: s)=L:=by
 unfold Lib.split Lib.count
 rw [count_join L _ h (join_long L) hx,split_at L h hx]
theorem dec_one {n:Nat}(h:n<10):Lib.decDigits n=[UInt8.ofNat (48+n)]:=by rw [Lib.decDigits,dif_pos h]
theorem dec_two {n:Nat}(h:10<=n)(h':n<100):Lib.decDigits n=[UInt8.ofNat (48+n / 10),UInt8.ofNat (48+n % 10)]:=by
 rw [Lib.decDigits,dif_neg (by omega),dec_one (by omega)];rfl
theorem dig_toNat {k:Nat}(h:k<10):(UInt8.ofNat (48+k)).toNat=48+k:=by
 rw [UInt8.toNat_ofNat'];omega
theorem atoi_dec {n:Nat}(h:n<100):Lib.atoiAll (Lib.decDigits n)=.ok (n:Int):=by
 by_cases h1:n<10
 ·rw [dec_one h1,Lib.atoiAll_plain _ _ (by rw [dig_toNat h1];omega) (by rw [dig_toNat h1];omega)]
  simp only [Lib.parseMag,Lib.parseUint10,dig_toNat h1]
  rw [if_neg (by simp),if_pos (by omega),if_neg (by omega),if_neg (by omega)]
  simp only [Lib.signless]
  rw [if_neg (by omega)]
  simp
 ·have ha:n / 10<10:=by omega
  have hb:n % 10<10:=by omega
  rw [dec_two (by omega) h,Lib.atoiAll_plain _ _ (by rw [dig_toNat ha];omega) (by rw [dig_toNat ha];omega)]
  simp only [Lib.parseMag,Lib.parseUint10,dig_toNat ha,dig_toNat hb]
  rw [if_neg (by simp),if_pos (by omega),if_neg (by omega),if_neg (by omega),if_pos (by omega),if_neg (by omega),if_neg (by omega)]
  simp only [Lib.signless]
  rw [if_neg (by omega)]
  simp;omega
theorem itoa_dec (n:Nat):Lib.itoa (n:Int)=Lib.decDigits n:=by unfold Lib.itoa;rw [if_neg (by omega)];rfl
theorem dec_in {n:Nat}(h:n<100):(Lib.decDigits n).length<=2/\∀x ∈ Lib.decDigits n,48<=x.toNat/\x.toNat<=57:=by
 by_cases h1:n<10
 ·rw [dec_one h1]
  refine ⟨by simp,fun x hx=>?_⟩
  rw [List.mem_singleton] at hx;subst hx;rw [dig_toNat h1];omega
 ·rw [dec_two (by omega) h]
  refine ⟨by simp,fun x hx=>?_⟩
  rw [List.mem_cons,List.mem_singleton] at hx
  rcases hx with rfl | rfl
  ·rw [dig_toNat (show n / 10<10 by omega)];omega
  ·rw [dig_toNat (show n % 10<10 by omega)];omega
theorem alnum_in {c:UInt8}(h:Names.alnum c=true):48<=c.toNat/\c.toNat<=122/\c.toNat≠59:=by
 simp [Names.alnum] at h
 omega
def Fine (x:Bs):Prop:=∀c ∈ x,c.toNat≠32/\c.toNat≠59
theorem fine_tab {x:Bs}(h:Names.tabB x=true):Fine x:=by
 simp only [Names.tabB,Bool.and_eq_true,List.all_eq_true] at h
 intro c hc
 have:=alnum_in (h.2 c hc)
 omega
theorem fine_esc (c:UInt8):Fine (Names.esc c):=by
 unfold Names.esc
 split
 ·rename_i h
  simp [Names.plainB] at h
  intro x hx
  simp at hx;subst hx
  omega
 ·have h1:=Names.dig_nat (n:=c.toNat / 16) (by have:=c.toNat_lt;omega)
  have h2:=Names.dig_nat (n:=c.toNat % 16) (by omega)
  intro x hx
  simp at hx
  rcases hx with rfl | rfl | rfl
  ·decide
  ·rw [h1];split <;> omega
  ·rw [h2];split <;> omega
theorem fine_txt (b:Bs):Fine (Names.txt b):=by
 unfold Names.txt
 split
 ·intro c hc;simp at hc;subst hc;decide
 ·intro c hc
  unfold Names.body at hc
  obtain ⟨a,_,ha⟩:=List.mem_flatMap.1 hc
  exact fine_esc a c ha
theorem fine_kind {k:Int}(h:1<=k/\k<=5):Fine (kindWord k):=by
 have:k=1\/k=2\/k=3\/k=4\/k=5:=by omega
 rcases this with rfl | rfl | rfl | rfl | rfl <;> (unfold Fine;decide)
theorem fine_old (o:POp):Fine (oldW o):=by
 unfold oldW
 split
 ·intro c hc
  simp at hc
  rcases hc with rfl | hc
  ·decide
  ·exact fine_txt _ c hc
 ·intro c hc;simp at hc;subst hc;decide
theorem fine_dec {n:Nat}(h:n<100):Fine (Lib.decDigits n):=fun c hc=>by have:=(dec_in h).2 c hc;omega
theorem fine_tail {o:POp}(h:May o):∀x ∈ tailWords o,Fine x:=by
 intro x hx
 unfold tailWords at hx
 split at hx
 ·simp at hx;subst hx;exact fine_txt _
 ·split at hx
  ·simp at hx
   rcases hx with rfl | rfl
   ·exact fine_old _
   ·exact fine_txt _
  ·split at hx
   ·rename_i h5
    have:=h.most h5
    simp at hx
    rcases hx with rfl | rfl
    ·exact fine_txt _
    ·exact fine_dec (by omega)
   ·simp at hx
theorem fine_words {o:POp}(h:May o):∀x ∈ opWords o,Fine x:=by
 intro x hx
 unfold opWords at hx
 simp at hx
 rcases hx with rfl | rfl | rfl | hx
 ·exact fine_kind h.kind
 ·exact fine_tab h.tab
 ·exact fine_txt _
 ·exact fine_tail h x hx
theorem no32 {x:Bs}(h:Fine x):(32:UInt8) ∉ x:=fun e=>(h _ e).1 rfl
theorem split_words {o:POp}(h:May o):Lib.split (opTxt o) [32]=opWords o:=split_join (by simp [opWords]) fun x hx=>no32 (fine_words h x hx)
theorem wBytes_txt (b:Bs)(r:List Bs):wBytes (Names.txt b :: r)=some (b,r):=by
 unfold wBytes wNext
 simp [Names.read_txt b]
theorem wOld_old {o:POp}(h:May o)(r:List Bs):wOld (oldW o :: r)=some ((o.has,o.old),r):=by
 unfold wOld wNext oldW
 cases hh:o.has
 ·simp [h.has hh]
 ·simp [Names.read_txt o.old]
theorem wNum_dec {n:Nat}(h:n<100)(r:List Bs):wNum (Lib.decDigits n :: r)=some ((n:Int),r):=by
 unfold wNum wNext
 simp only [Option.bind_some]
 rw [atoi_dec h]
 simp [itoa_dec]
theorem wKinds_word {k:Int}(h:1<=k/\k<=5)(r:List Bs):wKinds (kindWord k :: r)=some (k.toNat,r):=by
 have:k=1\/k=2\/k=3\/k=4\/k=5:=by omega
 rcases this with rfl | rfl | rfl | rfl | rfl <;> rfl
theorem wRest_tail {o:POp}(h:May o):wRest o.kind.toNat o.table o.key (tailWords o)=some (o,[]):=by
 have hk:=h.kind
 have ek:((o.kind.toNat:Nat):Int)=o.kind:=by omega
 unfold wRest tailWords
 by_cases h2:o.kind=2
 ·rw [if_pos (by omega),if_pos h2,wBytes_txt]
  simp only [Option.bind_some,Option.some.injEq,Prod.mk.injEq,and_true]
  rw [ek]
  have:=h.named
  rw [named,if_neg (by omega),if_pos h2] at this
  exact this.symm
 ·rw [if_neg (by omega),if_neg h2]
  by_cases h4:o.kind=4
  ·rw [if_pos (by omega),if_pos h4,wOld_old h]
   simp only [Option.bind_some]
   rw [wBytes_txt]
   simp only [Option.bind_some,Option.some.injEq,Prod.mk.injEq,and_true]
   rw [ek]
   have:=h.named
   rw [named,if_neg (by omega),if_neg h2,if_pos h4] at this
   exact this.symm
  ·rw [if_neg (by omega),if_neg h4]
   by_cases h5:o.kind=5
   ·have hm:=h.most h5
    rw [if_pos (by omega),if_pos h5,wBytes_txt]
    simp only [Option.bind_some]
    rw [wNum_dec (by omega)]
    simp only [Option.bind_some,Option.some.injEq,Prod.mk.injEq,and_true]
    rw [ek,show ((o.most.toNat:Nat):Int)=o.most by omega]
    have:=h.named
    rw [named,if_neg (by omega),if_neg h2,if_neg h4,if_pos h5] at this
    exact this.symm
   ·rw [if_neg (by omega),if_neg h5]
    simp only [Option.some.injEq,Prod.mk.injEq,and_true]
    rw [ek]
    have:=h.named
    rw [named,if_pos (by omega)] at this
    exact this.symm
theorem wOpT_txt {o:POp}(h:May o):wOpT (opTxt o)=some o:=by
 unfold wOpT
 rw [split_words h]
 show wOp (kindWord o.kind :: o.table :: Names.txt o.key :: tailWords o)=some o
 rw [wOp_of (L1:=o.table :: Names.txt o.key :: tailWords o) (L2:=Names.txt o.key :: tailWords o) (L3:=tailWords o) (wKinds_word h.kind _) rfl (wBytes_txt _ _) (wRest_tail h)]
 rfl
theorem wOps_txt:∀{l:List POp},(∀o ∈ l,May o)->wOps (l.map opTxt)=some l
 | [],_=>rfl
 | o :: l,h=>by
  rw [List.map_cons,wOps,wOpT_txt (h o (by simp)),Option.bind_some,wOps_txt (fun x hx=>h x (by simp [hx]))]
  rfl
theorem may_all {l:List POp}(h:mayCall l=true):l≠[]/\l.length<=16/\∀o ∈ l,May o:=by
 unfold mayCall at h
 simp only [Bool.and_eq_true,decide_eq_true_eq,List.all_eq_true] at h
 refine ⟨fun e=>?_,h.1.2,fun o ho=>may_of (h.2 o ho)⟩
 rw [e] at h
 simp at h
theorem join_sum (sep:Bs):∀(L:List Bs) (n:Nat),(L.map fun x=>x.length+sep.length).sum<=n->(Lib.join L sep).length<=n
 | [],n,_=>by simp [Lib.join,List.intercalate]
 | [x],n,h=>by rw [join_one];simp at h;omega
 | x :: y :: L,n,h=>by
  rw [List.map_cons,List.sum_cons] at h
  rw [join_two,List.length_append,List.length_append]
  have:=join_sum sep (y :: L) (n-(x.length+sep.length)) (by omega)
  omega
theorem bytesForm_long (b:Bs):b.length+1<=(bytesForm b).length:=by
 have:=Wire.numForm_pos b.length
 unfold bytesForm
 simp;omega
theorem tab_pos {L:Bs}(h:Names.tabB L=true):1<=L.length:=by
 simp [Names.tabB] at h;exact h.1.1
theorem opTxt_three {o:POp}(h:May o):(opTxt o).length+2<=3*(opForm o).length:=by
 have hk:=h.kind
 have ht:=tab_pos h.tab
 have f1:=Wire.numForm_pos o.kind.toNat
 have f2:=bytesForm_long o.table
 have f3:=bytesForm_long o.key
 have f4:=bytesForm_long o.value
 have f5:=bytesForm_long o.old
 have f6:=bytesForm_long o.to
 have f7:=Wire.numForm_pos o.most.toNat
 have f8:1<=(flagForm o.has).length:=by unfold flagForm;split <;> simp
 have t3:=Names.txt_len o.key
 have t4:=Names.txt_len o.value
 have t5:=Names.txt_len o.old
 have t6:=Names.txt_len o.to
 have e:(opForm o).length=(Wire.numForm o.kind.toNat).length+(bytesForm o.table).length+(bytesForm o.key).length+(tailForm o).length:=by
  unfold opForm frontForm;simp;omega
 have e2:(opTxt o).length<=(kindWord o.kind).length+o.table.length+(Names.txt o.key).length+2+((tailWords o).map fun x=>x.length+1).sum:=by
  unfold opTxt opWords
  generalize tailWords o=T
  have hs:∀(T:List Bs) (x:Bs),(Lib.join (x :: T) [32]).length<=x.length+(T.map fun x=>x.length+1).sum:=by
   intro T
   induction T with
   | nil=>intro x;rw [join_one];simp
   | cons y T ih =>
    intro x
    have:=ih y
    rw [join_two]
    simp at this ⊢;omega
  have:=hs (o.table :: Names.txt o.key :: T) (kindWord o.kind)
  simp at this ⊢;omega
 have hw:(kindWord o.kind).length<=if o.kind=3 then 6 else 4:=by
  have:o.kind=1\/o.kind=2\/o.kind=3\/o.kind=4\/o.kind=5:=by omega
  rcases this with h | h | h | h | h <;> simp [h,kindWord]
 have ho:(oldW o).length<=3*o.old.length+2:=by
  unfold oldW
  split
  ·simp;omega
  ·simp
 unfold tailForm at e
 unfold tailWords at e2
 by_cases h2:o.kind=2
 ·rw [if_pos h2] at e e2
  rw [if_neg (by omega)] at hw
  simp at e2;omega
 ·rw [if_neg h2] at e e2
  by_cases h4:o.kind=4
  ·rw [if_pos h4] at e e2
   rw [if_neg (by omega)] at hw
   simp at e e2;omega
  ·rw [if_neg h4] at e e2
   by_cases h5:o.kind=5
   ·rw [if_pos h5] at e e2
    rw [if_neg (by omega)] at hw
    have hm:=h.most h5
    have hd:=(dec_in (n:=o.most.toNat) (by omega)).1
    simp at e e2;omega
   ·rw [if_neg h5] at e e2
    simp at e e2
    split at hw <;> omega
theorem sum_three:∀{l:List POp},(∀o ∈ l,May o)->((l.map opTxt).map fun x=>x.length+2).sum<=3*(l.flatMap opForm).length
 | [],_=>by simp
 | o :: l,h=>by
  have h1:=opTxt_three (h o (by simp))
  have h2:=sum_three (l:=l) (fun x hx=>h x (by simp [hx]))
  simp only [List.map_cons,List.sum_cons,List.flatMap_cons,List.length_append]
  omega
theorem callTxt_three {l:List POp}(h:chk l=0):(callTxt l).length<=12288:=by
 obtain ⟨_,_,ha⟩:=may_all (chk_may h)
 have h1:=join_sum [59,32] (l.map opTxt) _ (sum_three ha)
 have h2:(callForm l).length<=4096:=by
  unfold chk at h
  split at h
  ·split at h
   ·assumption
   ·omega
  ·omega
 have h3:(l.flatMap opForm).length<=(callForm l).length:=by unfold callForm;simp
 show (Lib.join (l.map opTxt) [59,32]).length<=12288
 omega
end Go.Proofs.YtgjcpjckaopeeaaGreatDoor.Calls
