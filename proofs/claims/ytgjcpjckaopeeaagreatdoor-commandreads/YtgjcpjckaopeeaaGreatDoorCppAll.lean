import Derived.Test.YtgjcpjckaopeeaaGreatDoorCallsUn
set_option maxHeartbeats 16000000
set_option maxRecDepth 100000
namespace Go.Proofs.YtgjcpjckaopeeaaGreatDoor.Calls
def gh (l:List POp)(j:Nat):Bs:=aw (l.drop j)
theorem lP {l:List POp}{j:Nat}(hj:j+1=l.length):gh l j=av (l[j]'(by omega)):=by
 unfold gh aw
 rw [List.drop_eq_getElem_cons (by omega),List.drop_of_length_le (by omega)]
 simp only [List.map_cons,List.map_nil]
 exact bD _ _
theorem lQ {l:List POp}{j:Nat}(hj:j+1<l.length):gh l j=av (l[j]'(by omega)) ++ ([59,32] ++ gh l (j+1)):=by
 unfold gh aw
 rw [List.drop_eq_getElem_cons (by omega),List.drop_eq_getElem_cons hj]
 simp only [List.map_cons]
 exact be _ _ _ _
def PAt (s:Bs)(l xs:List POp)(i a:Nat):Prop:=(i<=s.length/\(a<=i\/(a=i+1/\s[i]? = some 32))/\xs.length<l.length/\xs=l.take xs.length/\s.drop a=gh l xs.length/\(59:UInt8) ∉ (s.take i).drop a)\/(i=s.length+1/\xs=l)
theorem nS {s:Bs}{l:List POp}(h0:l≠[])(hs:s=aw l):PAt s l [] 0 0:=.inl ⟨by omega,.inl (by omega),List.length_pos_iff.2 h0,by simp,by rw [List.drop_zero,hs];rfl,by simp⟩
theorem pM {s:Bs}{l xs:List POp}{i a:Nat}(h:PAt s l xs i a)(hi:i<s.length)(hc:s[i]≠59):PAt s l xs (i+1) a:=by
 rcases h with ⟨h1,h2,h3,h4,h5,h6⟩ | ⟨h1,_⟩
 ·refine .inl ⟨by omega,.inl (by omega),h3,h4,h5,?_⟩
  rw [List.take_succ_eq_append_getElem hi]
  intro e
  rcases h2 with h2 | ⟨h2,_⟩
  ·rw [List.drop_append_of_le_length (by rw [List.length_take];omega)] at e
   rcases List.mem_append.1 e with e | e
   ·exact h6 e
   ·simp at e
    exact hc e.symm
  ·rw [List.drop_of_length_le (by simp;omega)] at e
   simp at e
 ·omega
theorem se {s:Bs}{l xs:List POp}{i a:Nat}(hm:∀o ∈ l,May o)(h:PAt s l xs i a)(hi:i=s.length\/∃h:i<s.length,s[i]=59):∃h:xs.length<l.length,(s.take i).drop a=av l[xs.length]/\PAt s l (xs ++ [l[xs.length]]) (i+1) (min (i+2) s.length)/\a<=i:=by
 rcases h with ⟨h1,h2,h3,h4,h5,h6⟩ | ⟨h1,h2⟩
 ·have h2:a<=i:=by
   rcases h2 with h2 | ⟨_,h7⟩
   ·exact h2
   ·exfalso
    obtain ⟨h8,h9⟩:=List.getElem?_eq_some_iff.1 h7
    rcases hi with h | ⟨_,hc⟩
    ·omega
    ·rw [h9] at hc;exact absurd hc (by decide)
  refine ⟨h3,?_⟩
  obtain ⟨o,ho⟩:∃o,l[xs.length]=o:=⟨_,rfl⟩
  have hmo:May o:=by rw [<-ho];exact hm _ (List.getElem_mem h3)
  have hno:=im hmo
  have htk:xs ++ [o]=l.take (xs.length+1):=by rw [List.take_succ_eq_append_getElem h3,ho,<-h4]
  have hat:∀(hh:i<s.length),s[i]=59->∀y r:Bs,s.drop a=y ++ r->i-a<y.length->(59:UInt8) ∈ y:=by
   intro hh hc y r e hlt
   have e1:(s.drop a)[i-a]? = some 59:=by
    rw [List.getElem?_drop,show a+(i-a)=i by omega,List.getElem?_eq_getElem hh,hc]
   rw [e,List.getElem?_append_left hlt] at e1
   exact List.mem_of_getElem? e1
  rw [ho]
  by_cases hlast:xs.length+1=l.length
  ·have e:=lP hlast
   rw [ho] at e
   rw [e] at h5
   have hlen:s.length-a=(av o).length:=by have:=congrArg List.length h5;simpa using this
   have hi2:i=s.length:=by
    rcases hi with h | ⟨hh,hc⟩
    ·exact h
    ·exact absurd (hat hh hc (av o) [] (by simpa using h5) (by omega)) hno
   refine ⟨?_,.inr ⟨by omega,?_⟩,h2⟩
   ·rw [List.take_of_length_le (by omega),h5]
   ·rw [htk,hlast,List.take_length]
  ·have hj:xs.length+1<l.length:=by omega
   have e:=lQ hj
   rw [ho] at e
   rw [e] at h5
   have hlen:s.length-a=(av o).length+((gh l (xs.length+1)).length+2):=by have:=congrArg List.length h5;simpa [Nat.add_assoc] using this
   have htake:(s.take i).drop a=(av o ++ ([59,32] ++ gh l (xs.length+1))).take (i-a):=by rw [List.drop_take,h5]
   have hi2:i=a+(av o).length:=by
    rcases Nat.lt_trichotomy (i-a) (av o).length with hlt | heq | hgt
    ·exfalso
     rcases hi with h | ⟨hh,hc⟩
     ·omega
     ·exact hno (hat hh hc (av o) _ h5 hlt)
    ·omega
    ·exfalso
     apply h6
     obtain ⟨m,hm2⟩:∃m,i-a=(av o).length+(m+1):=⟨i-a-(av o).length-1,by omega⟩
     rw [htake,hm2,List.take_append]
     simp
   have hil:i+2<=s.length:=by omega
   have hdrop:s.drop (i+2)=gh l (xs.length+1):=by
    rw [hi2,show a+(av o).length+2=a+((av o).length+2) by omega,<-List.drop_drop,h5,<-List.append_assoc,show (av o).length+2=(av o ++ [59,32]).length by simp,List.drop_left]
   refine ⟨?_,.inl ⟨by omega,.inr ⟨by omega,?_⟩,by simp;omega,?_,?_,?_⟩,h2⟩
   ·rw [htake,show i-a=(av o).length by omega,List.take_left]
   ·have e1:(s.drop a)[(av o).length+1]? = some 32:=by rw [h5,List.getElem?_append_right (by omega)];simp
    rw [List.getElem?_drop] at e1
    rw [hi2,Nat.add_assoc]
    exact e1
   ·rw [List.length_append];simpa using htk
   ·rw [Nat.min_eq_left hil,hdrop,List.length_append];rfl
   ·rw [List.drop_of_length_le (by simp;omega)];simp
 ·exfalso
  rcases hi with h | ⟨hh,_⟩ <;> omega
end Go.Proofs.YtgjcpjckaopeeaaGreatDoor.Calls
namespace Go.Proofs.YtgjcpjckaopeeaaGreatDoor.Calls
open Go.RowKit Disk
open Names (Str)
theorem pO (ts:Array TypeId)(t:TypeId)(m k:Nat)(w:World):(Builtin.min_ ts t #[.int .i64 (m:Int),.int .i64 (k:Int)]).run Tryz.prog w=.ok (.int .i64 ((min m k:Nat):Int)) w:=by
 by_cases h:m<=k
 ·rw [Nat.min_eq_left h]
  simp [Builtin.min_,Builtin.min2]
  try omega
 ·rw [Nat.min_eq_right (by omega)]
  simp [Builtin.min_,Builtin.min2]
  try omega
attribute [local go_sem ↓] pO
theorem sf (s:Bs)(w:World)(hz:s.length<=20000)(hE:EnvF w):Calls Tryz.prog 58 #[.string ⟨s.toArray⟩] w (fa w (aN s)):=by
 have HE:Hid (EnvF w):=hE
 obtain ⟨n,hn⟩:∃n,s.length=n:=⟨_,rfl⟩
 obtain ⟨X,hX⟩:∃X:ByteArray,X=⟨s.toArray⟩:=⟨_,rfl⟩
 have hsz:X.size=n:=by rw [hX];simp [ByteArray.size,hn]
 have HN:Hid (s.length=n):=hn
 have HX:Hid (X=⟨s.toArray⟩):=hX
 rw [hn] at hz
 rw [<-hX]
 clear hn hX hE
 by_cases hb:n<=12288
 case neg =>
  have HC:Hid (aN s=([],3)):=by unfold Hid aN;rw [HN.out,if_neg hb]
  have i1:(12288:Int)<(n:Int):=by omega
  rw [HC.out]
  have hbk:=heap_alloc_new w (.cells #[.slice none 0 0] 25)
  have cc:(w.alloc (.cells #[.slice none 0 0] 25)).cell? ⟨w.heap.size,0,none⟩=some (.slice none 0 0):=Blk.cell hbk 0
  clear hbk
  go_enter Tryz.func58,Tryz.ntmps58
  go_wp2_with fail
  refine bodyPost_ret (v:=.tuple #[.agg #[.slice none 0 0],.int .i64 3]) (by simp [results,Tryz.results58,go_sem,cc]) rfl ?_
  exact ⟨_,rfl,⟨aD _ _,by simp⟩,World.grownBy_alloc _ _ none⟩
 have i1:((12288:Int)<(n:Int))=False:=eq_false (by omega)
 go_enter Tryz.func58,Tryz.ntmps58
 go_upto_region 4 with fail
 have S0:Hid (am ((w.alloc (.cells #[.slice none 0 0] 25)).alloc (.cells #[.slice none 0 0] 25)) w.heap.size (.slice none 0 0) []/\Blk ((w.alloc (.cells #[.slice none 0 0] 25)).alloc (.cells #[.slice none 0 0] 25)) w.heap.size 25 #[.slice none 0 0]/\Blk ((w.alloc (.cells #[.slice none 0 0] 25)).alloc (.cells #[.slice none 0 0] 25)) (w.heap.size+1) 25 #[.slice none 0 0]/\w.grownBy ((w.alloc (.cells #[.slice none 0 0] 25)).alloc (.cells #[.slice none 0 0] 25)) none):=by
  have b0:=heap_alloc_new w (.cells #[.slice none 0 0] 25)
  have b1:=heap_alloc_new (w.alloc (.cells #[.slice none 0 0] 25)) (.cells #[.slice none 0 0] 25)
  have g0:=World.grownBy_alloc w (.cells #[.slice none 0 0] 25) none
  have g1:=World.grownBy_alloc (w.alloc (.cells #[.slice none 0 0] 25)) (.cells #[.slice none 0 0] 25) none
  refine ⟨⟨aD _ _,by simp⟩,Blk.grown b0 g1 (by simp),?_,aa g0 g1⟩
  simpa [Blk] using b1
 generalize ((w.alloc (.cells #[.slice none 0 0] 25)).alloc (.cells #[.slice none 0 0] 25))=W0 at S0 ⊢
 have HB0:Hid (∀l,chk l=0->s=aw l->PAt s l [] 0 0):=fun l hl e=>nS (dY (db hl)).1 e
 go_wp2_with fail
 go_loopw [5,6] (fun at_ i wr=>∃(k a:Nat) (xs:List POp) (v:Value),k<=n+1/\a<=n/\i=.int .i64 k/\at_=.int .i64 a/\Hid (xs.length<=k)/\Hid (∀l,chk l=0->s=aw l->PAt s l xs k a)/\Hid (am wr w.heap.size (v) xs/\Blk wr w.heap.size 25 #[.slice none 0 0]/\Blk wr (w.heap.size+1) 25 #[v]/\w.grownBy wr none)) (fun _ i _=>n+1-(intOf i).toNat)
 case atStart=>exact ⟨0,0,[],_,by omega,by omega,rfl,rfl,by unfold Hid;simp,HB0,S0⟩
 case round =>
  obtain ⟨k,a,xs,v,hk,ha,rfl,rfl,HXL,HT,HO⟩:=hrel
  clear S0 HB0
  obtain ⟨xa,na,ya,rfl,hna⟩:=HO.out.1.slice
  have cc:=HO.out.2.2.1.cell 0
  by_cases hgo:k<=n/\na<=16
  ·have i2:(k:Int)<=(n:Int):=by omega
   have i3:(na:Int)<=16:=by omega
   have HNA:Hid (xs.length=na):=hna.symm
   have hna16:na<=16:=hgo.2
   have hkn:k<=n:=hgo.1
   clear hna hgo
   by_cases hc:k=n\/∃h:k<s.length,s[k]=59
   ·obtain ⟨y,hy⟩:∃y,(s.take k).drop (min a k)=y:=⟨_,rfl⟩
    have hcut:∀wk,(Instr.slice 9 (.string X) (some (.int .i64 ((min a k:Nat):Int))) (some (.int .i64 k)) none).run Tryz.prog wk=.ok (.string ⟨y.toArray⟩) wk:=fun wk=>by rw [HX.out,<-hy];exact kB s (min a k) k (Nat.min_le_right _ _) (by rw [HN.out];omega) wk
    have HY:Hid (y.length<=20000):=by rw [<-hy];unfold Hid;simp;omega
    have HP:Hid (∀l,chk l=0->s=aw l->∃h:xs.length<l.length,y=av l[xs.length]/\PAt s l (xs ++ [l[xs.length]]) (k+1) (min (k+2) n)):=by
     intro l hl e
     obtain ⟨h1,h2,h3,h4⟩:=se (dY (db hl)).2.2 (HT.out l hl e) (hc.imp (fun h=>by rw [HN.out];exact h) id)
     refine ⟨h1,?_,by rw [<-HN.out];exact h3⟩
     rw [<-hy,Nat.min_eq_left h4,h2]
    clear hy
    have hbr:(k=n)\/(k<n/\∀wk,(Instr.index 9 (.string X) (.int .i64 k)).run Tryz.prog wk=.ok (.int .u8 59) wk):=by
     rcases hc with h | ⟨hk2,h5⟩
     ·exact .inl h
     ·refine .inr ⟨by rw [<-HN.out];exact hk2,fun wk=>?_⟩
      have:=Names.bf s k hk2 wk
      rw [h5] at this
      rw [HX.out]
      exact this
    clear hc HT
    have HKN:Hid (k<=n):=hkn
    clear hkn
    obtain ⟨kk,hkk⟩:∃q,k=q:=⟨_,rfl⟩
    rcases hbr with hbr | ⟨hbr,hidx⟩
    case inl =>
     have j1:((k:Int)=(n:Int))=True:=eq_true (by omega)
     have j2:((k:Int)==(n:Int))=true:=by rw [beq_iff_eq];omega
     have HKQ:Hid (k=n):=hbr
     clear hbr hkk
     go_upto_region 9 with fail
     go_wp2_with fail
     clear cc
     refine aj 12 (fun x=>x.cell? ⟨(w.heap.size+1),0,none⟩=some (.slice xa na ya)) (by kernel_rfl) ?_
     have G0:Hid (am wr.drew w.heap.size (.slice xa na ya) xs/\Blk wr.drew w.heap.size 25 #[.slice none 0 0]/\Blk wr.drew (w.heap.size+1) 25 #[.slice xa na ya]/\w.grownBy wr.drew none):=by
      have hg:=ac wr none
      exact ⟨HO.out.1.grown hg,HO.out.2.1.grown hg (by simp),HO.out.2.2.1.grown hg (by simp),aa HO.out.2.2.2 hg⟩
     generalize wr.drew=w0 at G0 ⊢
     clear HO
     have J:Idx [0,1,2,3,4,5,6,7]:=trivial
     iterate 8 (refine tK J (G0.out.2.2.1.cell 0) rfl rfl (fun wk hk=>by skip;go_simp;try rfl) ?_;replace J:=J.tl;try simp only [pN])
     refine wO 8 rfl fun K hK=>?_
     go_wp2_with (go_at_call 92;refine (kA y _ HY.out (HE.out.grown G0.out.2.2.2)).mono ?_)
     rintro e w1 ⟨kk2,x,ol,t,o,rfl,ho,hg,hS⟩
     obtain ⟨xb,nb,yb,rfl⟩:=aG ho.key
     obtain ⟨xc,nc,yc,rfl⟩:=aG ho.value
     obtain ⟨xd,nd,yd,rfl⟩:=aG ho.old
     obtain ⟨xe,ne,ye,rfl⟩:=aG ho.tos
     have H1:Hid ((am w1 w.heap.size (.slice xa na ya) xs/\Blk w1 w.heap.size 25 #[.slice none 0 0]/\Blk w1 (w.heap.size+1) 25 #[.slice xa na ya]/\w.grownBy w1 none)/\OpOwn w1 w.heap.size (.slice xb nb yb) (.slice xc nc yc) (.slice xd nd yd) (.slice xe ne ye) o):=⟨⟨G0.out.1.grown hg,G0.out.2.1.grown hg (by simp),G0.out.2.2.1.grown hg (by simp),aa G0.out.2.2.2 hg⟩,ho.mono G0.out.2.2.2.size⟩
     have HT2:Hid (∀l,chk l=0->s=aw l->PAt s l (xs ++ [o]) (k+1) (min (k+2) n)):=by
      intro l hl e
      obtain ⟨h1,h2,h3⟩:=HP.out l hl e
      rw [hS l[xs.length] ((dY (db hl)).2.2 _ (List.getElem_mem h1)) h2]
      exact h3
     clear hS ho hg G0 HP
     unfold opV Str
     go_wp2_with fail
     refine hK.out _ _ (fun _=>H1.out.1.2.2.1.cell 0) ?_
     clear hK K
     try simp only [pN]
     refine wO 9 rfl fun K hK=>?_
     go_wp2_with fail
     have H2:Hid ((am (w1.alloc (.cells #[.int .i64 o.kind,.string ⟨o.table.toArray⟩,.slice xb nb yb,.slice xc nc yc,.bool o.has,.slice xd nd yd,.slice xe ne ye,.int .i64 o.most] 53)) w.heap.size (.slice xa na ya) xs/\Blk (w1.alloc (.cells #[.int .i64 o.kind,.string ⟨o.table.toArray⟩,.slice xb nb yb,.slice xc nc yc,.bool o.has,.slice xd nd yd,.slice xe ne ye,.int .i64 o.most] 53)) w.heap.size 25 #[.slice none 0 0]/\Blk (w1.alloc (.cells #[.int .i64 o.kind,.string ⟨o.table.toArray⟩,.slice xb nb yb,.slice xc nc yc,.bool o.has,.slice xd nd yd,.slice xe ne ye,.int .i64 o.most] 53)) (w.heap.size+1) 25 #[.slice xa na ya]/\w.grownBy (w1.alloc (.cells #[.int .i64 o.kind,.string ⟨o.table.toArray⟩,.slice xb nb yb,.slice xc nc yc,.bool o.has,.slice xd nd yd,.slice xe ne ye,.int .i64 o.most] 53)) none)/\OpOwn (w1.alloc (.cells #[.int .i64 o.kind,.string ⟨o.table.toArray⟩,.slice xb nb yb,.slice xc nc yc,.bool o.has,.slice xd nd yd,.slice xe ne ye,.int .i64 o.most] 53)) w.heap.size (.slice xb nb yb) (.slice xc nc yc) (.slice xd nd yd) (.slice xe ne ye) o/\Blk (w1.alloc (.cells #[.int .i64 o.kind,.string ⟨o.table.toArray⟩,.slice xb nb yb,.slice xc nc yc,.bool o.has,.slice xd nd yd,.slice xe ne ye,.int .i64 o.most] 53)) w1.heap.size 53 #[.int .i64 o.kind,.string ⟨o.table.toArray⟩,.slice xb nb yb,.slice xc nc yc,.bool o.has,.slice xd nd yd,.slice xe ne ye,.int .i64 o.most]):=by
      have hg:=World.grownBy_alloc w1 (.cells #[.int .i64 o.kind,.string ⟨o.table.toArray⟩,.slice xb nb yb,.slice xc nc yc,.bool o.has,.slice xd nd yd,.slice xe ne ye,.int .i64 o.most] 53) none
      exact ⟨⟨H1.out.1.1.grown hg,H1.out.1.2.1.grown hg (by simp),H1.out.1.2.2.1.grown hg (by simp),aa H1.out.1.2.2.2 hg⟩,H1.out.2.grown hg,heap_alloc_new _ _⟩
     clear H1
     refine hK.out _ _ (fun _=>H2.out.1.2.2.1.cell 0) ?_
     clear hK K
     try simp only [pN]
     refine wO 10 rfl fun K hK=>?_
     refine e_ _ (.tmp 34) (.tmp 42) rfl w.heap.size (.slice xa na ya) xs o _ _ _ _ _ rfl rfl H2.out.1.1 H2.out.2.2 H2.out.2.1 (by have:=HNA.out;omega) H2.out.1.2.2.2.size ?_
     intro g' cap' w3 o3 g3 l3
     have H3:Hid (am w3 w.heap.size ((.slice (some ⟨g',0,none⟩) (xs.length+1) cap')) (xs ++ [o])/\Blk w3 w.heap.size 25 #[.slice none 0 0]/\Blk w3 (w.heap.size+1) 25 #[.slice xa na ya]/\w.grownBy w3 none):=by
      obtain ⟨vs,hvs,_⟩:=H2.out.1.1.1
      have ne1:∀{b t c},Blk (w1.alloc (.cells #[.int .i64 o.kind,.string ⟨o.table.toArray⟩,.slice xb nb yb,.slice xc nc yc,.bool o.has,.slice xd nd yd,.slice xe ne ye,.int .i64 o.most] 53)) b t c->t≠53->Value.ownBlock (.slice xa na ya)≠some b:=fun hb ht e=>by
       obtain ⟨cur,hc⟩:=dS hvs e
       exact ht (bt hb hc)
      exact ⟨o3,H2.out.1.2.1.grown g3 (ne1 H2.out.1.2.1 (by decide)),H2.out.1.2.2.1.grown g3 (ne1 H2.out.1.2.2.1 (by decide)),ag H2.out.1.2.2.2 g3 (fun y hy=>(H2.out.1.1.1.lt y hy).1)⟩
     clear o3 g3 l3 H2
     rw [HNA.out]
     refine hK.out _ _ (fun _=>H3.out.2.2.1.cell 0) ?_
     clear hK K
     try simp only [pN]
     refine tS 11 (H3.out.2.2.1.cell 0) rfl rfl (fun wk hk=>by skip;go_simp;try rfl) ?_
     try simp only [pN]
     refine wO 12 rfl fun K hK=>?_
     have cc:=H3.out.2.2.1.cell 0
     have zz:=H3.out.2.2.1.free 0
     go_wp2_with fail
     refine hK.out _ _ (fun h=>absurd rfl h) ?_
     clear hK K cc zz
     try simp only [pN]
     refine wD ?_
     refine (‹∀(a:Act) (w:World),Code.wp Tryz.prog _ _ a w->_› _ _ ?_)
     have H4:Hid (am (w3.setCell ⟨(w.heap.size+1),0,none⟩ (.slice (some ⟨g',0,none⟩) (na+1) cap')) w.heap.size ((.slice (some ⟨g',0,none⟩) (na+1) cap')) (xs ++ [o])/\Blk (w3.setCell ⟨(w.heap.size+1),0,none⟩ (.slice (some ⟨g',0,none⟩) (na+1) cap')) w.heap.size 25 #[.slice none 0 0]/\Blk (w3.setCell ⟨(w.heap.size+1),0,none⟩ (.slice (some ⟨g',0,none⟩) (na+1) cap')) (w.heap.size+1) 25 #[(.slice (some ⟨g',0,none⟩) (na+1) cap')]/\w.grownBy (w3.setCell ⟨(w.heap.size+1),0,none⟩ (.slice (some ⟨g',0,none⟩) (na+1) cap')) none):=by
      have hg:=ab w3 (w.heap.size+1) 0 (.slice (some ⟨g',0,none⟩) (na+1) cap')
      have h1:=H3.out.1
      rw [HNA.out] at h1
      exact ⟨h1.set H3.out.2.2.1 (by decide) (by decide) hg,H3.out.2.1.grown hg (by simp),H3.out.2.2.1.store 0 _,ag H3.out.2.2.2 hg (fun y hy=>by simp at hy;omega)⟩
     clear H3
     have wk2:IntKind.i64.wrap ((k:Int)+2)=((k+2:Nat):Int):=by rw [IntKind.wrap_i64];have:=HKN.out;omega
     have HXL2:Hid (xs.length<=k):=HXL
     have mn:min (k+2) n<=n:=Nat.min_le_right _ _
     go_wp2_with fail
     go_roundw
     case rel=>exact ⟨k+1,min (k+2) n,xs ++ [o],_,by have:=HKN.out;omega,mn,by go_num,by first | rfl | (congr 1;omega) | go_num,by have:=HXL2.out;unfold Hid;rw [List.length_append];simp;omega,HT2,H4⟩
     case measure=>have:=HKN.out;simp [intOf];omega
    case inr =>
     have j1:((k:Int)=(n:Int))=False:=eq_false (by omega)
     have j2:((k:Int)==(n:Int))=false:=by rw [beq_eq_false_iff_ne];omega
     have j3:(k=n)=False:=eq_false (by omega)
     clear hbr hkk
     go_upto_region 9 with fail
     go_wp2_with fail
     clear cc
     refine aj 12 (fun x=>x.cell? ⟨(w.heap.size+1),0,none⟩=some (.slice xa na ya)) (by kernel_rfl) ?_
     have G0:Hid (am wr.drew w.heap.size (.slice xa na ya) xs/\Blk wr.drew w.heap.size 25 #[.slice none 0 0]/\Blk wr.drew (w.heap.size+1) 25 #[.slice xa na ya]/\w.grownBy wr.drew none):=by
      have hg:=ac wr none
      exact ⟨HO.out.1.grown hg,HO.out.2.1.grown hg (by simp),HO.out.2.2.1.grown hg (by simp),aa HO.out.2.2.2 hg⟩
     generalize wr.drew=w0 at G0 ⊢
     clear HO
     have J:Idx [0,1,2,3,4,5,6,7]:=trivial
     iterate 8 (refine tK J (G0.out.2.2.1.cell 0) rfl rfl (fun wk hk=>by skip;go_simp;try rfl) ?_;replace J:=J.tl;try simp only [pN])
     refine wO 8 rfl fun K hK=>?_
     go_wp2_with (go_at_call 92;refine (kA y _ HY.out (HE.out.grown G0.out.2.2.2)).mono ?_)
     rintro e w1 ⟨kk2,x,ol,t,o,rfl,ho,hg,hS⟩
     obtain ⟨xb,nb,yb,rfl⟩:=aG ho.key
     obtain ⟨xc,nc,yc,rfl⟩:=aG ho.value
     obtain ⟨xd,nd,yd,rfl⟩:=aG ho.old
     obtain ⟨xe,ne,ye,rfl⟩:=aG ho.tos
     have H1:Hid ((am w1 w.heap.size (.slice xa na ya) xs/\Blk w1 w.heap.size 25 #[.slice none 0 0]/\Blk w1 (w.heap.size+1) 25 #[.slice xa na ya]/\w.grownBy w1 none)/\OpOwn w1 w.heap.size (.slice xb nb yb) (.slice xc nc yc) (.slice xd nd yd) (.slice xe ne ye) o):=⟨⟨G0.out.1.grown hg,G0.out.2.1.grown hg (by simp),G0.out.2.2.1.grown hg (by simp),aa G0.out.2.2.2 hg⟩,ho.mono G0.out.2.2.2.size⟩
     have HT2:Hid (∀l,chk l=0->s=aw l->PAt s l (xs ++ [o]) (k+1) (min (k+2) n)):=by
      intro l hl e
      obtain ⟨h1,h2,h3⟩:=HP.out l hl e
      rw [hS l[xs.length] ((dY (db hl)).2.2 _ (List.getElem_mem h1)) h2]
      exact h3
     clear hS ho hg G0 HP
     unfold opV Str
     go_wp2_with fail
     refine hK.out _ _ (fun _=>H1.out.1.2.2.1.cell 0) ?_
     clear hK K
     try simp only [pN]
     refine wO 9 rfl fun K hK=>?_
     go_wp2_with fail
     have H2:Hid ((am (w1.alloc (.cells #[.int .i64 o.kind,.string ⟨o.table.toArray⟩,.slice xb nb yb,.slice xc nc yc,.bool o.has,.slice xd nd yd,.slice xe ne ye,.int .i64 o.most] 53)) w.heap.size (.slice xa na ya) xs/\Blk (w1.alloc (.cells #[.int .i64 o.kind,.string ⟨o.table.toArray⟩,.slice xb nb yb,.slice xc nc yc,.bool o.has,.slice xd nd yd,.slice xe ne ye,.int .i64 o.most] 53)) w.heap.size 25 #[.slice none 0 0]/\Blk (w1.alloc (.cells #[.int .i64 o.kind,.string ⟨o.table.toArray⟩,.slice xb nb yb,.slice xc nc yc,.bool o.has,.slice xd nd yd,.slice xe ne ye,.int .i64 o.most] 53)) (w.heap.size+1) 25 #[.slice xa na ya]/\w.grownBy (w1.alloc (.cells #[.int .i64 o.kind,.string ⟨o.table.toArray⟩,.slice xb nb yb,.slice xc nc yc,.bool o.has,.slice xd nd yd,.slice xe ne ye,.int .i64 o.most] 53)) none)/\OpOwn (w1.alloc (.cells #[.int .i64 o.kind,.string ⟨o.table.toArray⟩,.slice xb nb yb,.slice xc nc yc,.bool o.has,.slice xd nd yd,.slice xe ne ye,.int .i64 o.most] 53)) w.heap.size (.slice xb nb yb) (.slice xc nc yc) (.slice xd nd yd) (.slice xe ne ye) o/\Blk (w1.alloc (.cells #[.int .i64 o.kind,.string ⟨o.table.toArray⟩,.slice xb nb yb,.slice xc nc yc,.bool o.has,.slice xd nd yd,.slice xe ne ye,.int .i64 o.most] 53)) w1.heap.size 53 #[.int .i64 o.kind,.string ⟨o.table.toArray⟩,.slice xb nb yb,.slice xc nc yc,.bool o.has,.slice xd nd yd,.slice xe ne ye,.int .i64 o.most]):=by
      have hg:=World.grownBy_alloc w1 (.cells #[.int .i64 o.kind,.string ⟨o.table.toArray⟩,.slice xb nb yb,.slice xc nc yc,.bool o.has,.slice xd nd yd,.slice xe ne ye,.int .i64 o.most] 53) none
      exact ⟨⟨H1.out.1.1.grown hg,H1.out.1.2.1.grown hg (by simp),H1.out.1.2.2.1.grown hg (by simp),aa H1.out.1.2.2.2 hg⟩,H1.out.2.grown hg,heap_alloc_new _ _⟩
     clear H1
     refine hK.out _ _ (fun _=>H2.out.1.2.2.1.cell 0) ?_
     clear hK K
     try simp only [pN]
     refine wO 10 rfl fun K hK=>?_
     refine e_ _ (.tmp 34) (.tmp 42) rfl w.heap.size (.slice xa na ya) xs o _ _ _ _ _ rfl rfl H2.out.1.1 H2.out.2.2 H2.out.2.1 (by have:=HNA.out;omega) H2.out.1.2.2.2.size ?_
     intro g' cap' w3 o3 g3 l3
     have H3:Hid (am w3 w.heap.size ((.slice (some ⟨g',0,none⟩) (xs.length+1) cap')) (xs ++ [o])/\Blk w3 w.heap.size 25 #[.slice none 0 0]/\Blk w3 (w.heap.size+1) 25 #[.slice xa na ya]/\w.grownBy w3 none):=by
      obtain ⟨vs,hvs,_⟩:=H2.out.1.1.1
      have ne1:∀{b t c},Blk (w1.alloc (.cells #[.int .i64 o.kind,.string ⟨o.table.toArray⟩,.slice xb nb yb,.slice xc nc yc,.bool o.has,.slice xd nd yd,.slice xe ne ye,.int .i64 o.most] 53)) b t c->t≠53->Value.ownBlock (.slice xa na ya)≠some b:=fun hb ht e=>by
       obtain ⟨cur,hc⟩:=dS hvs e
       exact ht (bt hb hc)
      exact ⟨o3,H2.out.1.2.1.grown g3 (ne1 H2.out.1.2.1 (by decide)),H2.out.1.2.2.1.grown g3 (ne1 H2.out.1.2.2.1 (by decide)),ag H2.out.1.2.2.2 g3 (fun y hy=>(H2.out.1.1.1.lt y hy).1)⟩
     clear o3 g3 l3 H2
     rw [HNA.out]
     refine hK.out _ _ (fun _=>H3.out.2.2.1.cell 0) ?_
     clear hK K
     try simp only [pN]
     refine tS 11 (H3.out.2.2.1.cell 0) rfl rfl (fun wk hk=>by skip;go_simp;try rfl) ?_
     try simp only [pN]
     refine wO 12 rfl fun K hK=>?_
     have cc:=H3.out.2.2.1.cell 0
     have zz:=H3.out.2.2.1.free 0
     go_wp2_with fail
     refine hK.out _ _ (fun h=>absurd rfl h) ?_
     clear hK K cc zz
     try simp only [pN]
     refine wD ?_
     refine (‹∀(a:Act) (w:World),Code.wp Tryz.prog _ _ a w->_› _ _ ?_)
     have H4:Hid (am (w3.setCell ⟨(w.heap.size+1),0,none⟩ (.slice (some ⟨g',0,none⟩) (na+1) cap')) w.heap.size ((.slice (some ⟨g',0,none⟩) (na+1) cap')) (xs ++ [o])/\Blk (w3.setCell ⟨(w.heap.size+1),0,none⟩ (.slice (some ⟨g',0,none⟩) (na+1) cap')) w.heap.size 25 #[.slice none 0 0]/\Blk (w3.setCell ⟨(w.heap.size+1),0,none⟩ (.slice (some ⟨g',0,none⟩) (na+1) cap')) (w.heap.size+1) 25 #[(.slice (some ⟨g',0,none⟩) (na+1) cap')]/\w.grownBy (w3.setCell ⟨(w.heap.size+1),0,none⟩ (.slice (some ⟨g',0,none⟩) (na+1) cap')) none):=by
      have hg:=ab w3 (w.heap.size+1) 0 (.slice (some ⟨g',0,none⟩) (na+1) cap')
      have h1:=H3.out.1
      rw [HNA.out] at h1
      exact ⟨h1.set H3.out.2.2.1 (by decide) (by decide) hg,H3.out.2.1.grown hg (by simp),H3.out.2.2.1.store 0 _,ag H3.out.2.2.2 hg (fun y hy=>by simp at hy;omega)⟩
     clear H3
     have wk2:IntKind.i64.wrap ((k:Int)+2)=((k+2:Nat):Int):=by rw [IntKind.wrap_i64];have:=HKN.out;omega
     have HXL2:Hid (xs.length<=k):=HXL
     have mn:min (k+2) n<=n:=Nat.min_le_right _ _
     go_wp2_with fail
     go_roundw
     case rel=>exact ⟨k+1,min (k+2) n,xs ++ [o],_,by have:=HKN.out;omega,mn,by go_num,by first | rfl | (congr 1;omega) | go_num,by have:=HXL2.out;unfold Hid;rw [List.length_append];simp;omega,HT2,H4⟩
     case measure=>have:=HKN.out;simp [intOf];omega
   ·have hks:k<n:=by
     rcases Nat.lt_or_ge k n with h | h
     ·exact h
     ·exact absurd (.inl (by omega)) hc
    have hk2:k<s.length:=by rw [HN.out];exact hks
    have h5:s[k]≠59:=fun e=>hc (.inr ⟨hk2,e⟩)
    have HT2:Hid (∀l,chk l=0->s=aw l->PAt s l xs (k+1) a):=fun l hl e=>pM (HT.out l hl e) hk2 h5
    obtain ⟨ch,hcc⟩:∃c,s[k]=c:=⟨_,rfl⟩
    have hidx:∀wk,(Instr.index 9 (.string X) (.int .i64 k)).run Tryz.prog wk=.ok (.int .u8 (ch.toNat:Int)) wk:=fun wk=>by
     have:=Names.bf s k hk2 wk
     rw [hcc] at this
     rw [HX.out]
     exact this
    have hc59:ch.toNat≠59:=fun e=>h5 (by rw [hcc];exact UInt8.toNat_inj.1 (by simpa using e))
    have j1:((k:Int)=(n:Int))=False:=eq_false (by omega)
    have j2:((k:Int)==(n:Int))=false:=by rw [beq_eq_false_iff_ne];omega
    have j3:(k=n)=False:=eq_false (by omega)
    have j4:((ch.toNat:Int)=59)=False:=eq_false (by omega)
    have j5:((ch.toNat:Int)==59)=false:=by rw [beq_eq_false_iff_ne];omega
    have HXL2:Hid (xs.length<=k):=HXL
    clear hc h5 hcc hc59 hk2 HT
    go_wp2_with fail
    go_roundw
    case rel=>exact ⟨k+1,a,xs,_,by omega,by omega,by go_num,rfl,by have:=HXL2.out;unfold Hid;omega,HT2,HO⟩
    case measure=>simp [intOf];omega
  ·have HEX:Hid (∀l,chk l=0->s=aw l->xs=l):=by
    intro l hl e
    rcases HT.out l hl e with ⟨h1,_,h3,_⟩ | ⟨_,h2⟩
    ·exfalso
     have h16:=(dY (db hl)).2.1
     apply hgo
     refine ⟨by rw [<-HN.out];exact h1,?_⟩
     omega
    ·exact h2
   have HO2:Hid (am wr w.heap.size (.slice xa na ya) xs/\Blk wr w.heap.size 25 #[.slice none 0 0]/\Blk wr (w.heap.size+1) 25 #[.slice xa na ya]/\w.grownBy wr none):=HO.out
   have h3:n<k\/(k<=n/\16<na):=by omega
   clear HT HO hgo hna
   rcases h3 with h3 | ⟨h3,h4⟩
   case inl =>
    have i2:((k:Int)<=(n:Int))=False:=eq_false (by omega)
    go_upto_region 11 with fail
    clear cc
    have c1:=HO2.out.2.2.1.cell 0
    go_wp2_with (go_at_call 27;refine (ia _ xs _ HO2.out.1.ops).mono ?_)
    rintro e w5 ⟨rfl,hg⟩
    have E0:Hid (am w5 w.heap.size (.slice xa na ya) xs/\Blk w5 w.heap.size 25 #[.slice none 0 0]/\Blk w5 (w.heap.size+1) 25 #[.slice xa na ya]/\w.grownBy w5 none):=⟨HO2.out.1.grown hg,HO2.out.2.1.grown hg (by simp),HO2.out.2.2.1.grown hg (by simp),aa HO2.out.2.2.2 hg⟩
    clear hg c1 HO2
    have c1:=E0.out.2.2.1.cell 0
    have HNO:Hid (¬(chk xs=0/\aw xs=s)->aN s=([],4)):=by
     intro h
     unfold aN
     rw [HN.out,if_pos hb]
     cases hp:cF s with
     | none=>rfl
     | some l =>
      exfalso
      obtain ⟨q1,q2⟩:=dQ.1 hp
      have q3:=HEX.out l q1 q2
      exact h ⟨by rw [q3];exact q1,by rw [q3];exact q2.symm⟩
    by_cases h0:chk xs=0
    case neg =>
     have HR:Hid (aN s=([],4)):=HNO.out (fun h=>h0 h.1)
     obtain ⟨cx,hcx⟩:∃c,chk xs=c:=⟨_,rfl⟩
     rw [hcx] at h0 ⊢
     have q0:(cx=0)=False:=eq_false h0
     have q1:(cx != 0)=true:=by rw [bne_iff_ne];exact h0
     clear h0 hcx
     have cc:=E0.out.2.1.cell 0
     have zz:=E0.out.2.1.free 0
     have cs:=(E0.out.2.1.store 0 (.slice none 0 0)).cell 0
     go_wp2_with fail
     refine bodyPost_ret (v:=.tuple #[.agg #[.slice none 0 0],.int .i64 4]) (by simp [results,Tryz.results58,go_sem,cs]) rfl ?_
     rw [HR.out]
     exact ⟨_,rfl,⟨aD _ _,by simp⟩,ag E0.out.2.2.2 (ab _ _ _ _) (fun y hy=>by simp at hy;omega)⟩
    have H0:Hid (chk xs=0):=h0
    rw [h0]
    clear h0
    go_wp2_with (go_at_call 46;refine (mh _ xs _ E0.out.1.ops (db H0.out)).mono ?_)
    rintro e w6 ⟨rfl,hg⟩
    have E1:Hid (am w6 w.heap.size (.slice xa na ya) xs/\Blk w6 w.heap.size 25 #[.slice none 0 0]/\Blk w6 (w.heap.size+1) 25 #[.slice xa na ya]/\w.grownBy w6 none):=⟨E0.out.1.grown hg,E0.out.2.1.grown hg (by simp),E0.out.2.2.1.grown hg (by simp),aa E0.out.2.2.2 hg⟩
    clear hg c1 E0
    unfold Str
    have cc:=E1.out.2.1.cell 0
    have zz:=E1.out.2.1.free 0
    by_cases ht:aw xs=s
    case neg =>
     have HR:Hid (aN s=([],4)):=HNO.out (fun h=>ht h.2)
     have q0:(aw xs==X.toList)=false:=by rw [HX.out];rw [beq_eq_false_iff_ne];intro e;exact ht (by simpa using e)
     have q1:(aw xs != X.toList)=true:=by unfold bne;rw [q0];rfl
     clear ht
     have cs:=(E1.out.2.1.store 0 (.slice none 0 0)).cell 0
     go_wp2_with fail
     refine bodyPost_ret (v:=.tuple #[.agg #[.slice none 0 0],.int .i64 4]) (by simp [results,Tryz.results58,go_sem,cs]) rfl ?_
     rw [HR.out]
     exact ⟨_,rfl,⟨aD _ _,by simp⟩,ag E1.out.2.2.2 (ab _ _ _ _) (fun y hy=>by simp at hy;omega)⟩
    have HR:Hid (aN s=(xs,0)):=by unfold Hid aN;rw [HN.out,if_pos hb,dQ.2 ⟨H0.out,ht.symm⟩]
    have q0:(aw xs==X.toList)=true:=by rw [HX.out,ht];simp
    have q1:(aw xs != X.toList)=false:=by unfold bne;rw [q0];rfl
    clear ht
    have c1:=E1.out.2.2.1.cell 0
    have cs:=(E1.out.2.1.store 0 (.slice xa na ya)).cell 0
    go_wp2_with fail
    refine bodyPost_ret (v:=.tuple #[.agg #[.slice xa na ya],.int .i64 0]) (by simp [results,Tryz.results58,go_sem,cs]) rfl ?_
    rw [HR.out]
    exact ⟨_,rfl,E1.out.1.set E1.out.2.1 (by decide) (by decide) (ab _ _ _ _),ag E1.out.2.2.2 (ab _ _ _ _) (fun y hy=>by simp at hy;omega)⟩
   case inr =>
    have i2:(k:Int)<=(n:Int):=by omega
    have i3:((na:Int)<=16)=False:=eq_false (by omega)
    go_upto_region 11 with fail
    clear cc
    have c1:=HO2.out.2.2.1.cell 0
    go_wp2_with (go_at_call 27;refine (ia _ xs _ HO2.out.1.ops).mono ?_)
    rintro e w5 ⟨rfl,hg⟩
    have E0:Hid (am w5 w.heap.size (.slice xa na ya) xs/\Blk w5 w.heap.size 25 #[.slice none 0 0]/\Blk w5 (w.heap.size+1) 25 #[.slice xa na ya]/\w.grownBy w5 none):=⟨HO2.out.1.grown hg,HO2.out.2.1.grown hg (by simp),HO2.out.2.2.1.grown hg (by simp),aa HO2.out.2.2.2 hg⟩
    clear hg c1 HO2
    have c1:=E0.out.2.2.1.cell 0
    have HNO:Hid (¬(chk xs=0/\aw xs=s)->aN s=([],4)):=by
     intro h
     unfold aN
     rw [HN.out,if_pos hb]
     cases hp:cF s with
     | none=>rfl
     | some l =>
      exfalso
      obtain ⟨q1,q2⟩:=dQ.1 hp
      have q3:=HEX.out l q1 q2
      exact h ⟨by rw [q3];exact q1,by rw [q3];exact q2.symm⟩
    by_cases h0:chk xs=0
    case neg =>
     have HR:Hid (aN s=([],4)):=HNO.out (fun h=>h0 h.1)
     obtain ⟨cx,hcx⟩:∃c,chk xs=c:=⟨_,rfl⟩
     rw [hcx] at h0 ⊢
     have q0:(cx=0)=False:=eq_false h0
     have q1:(cx != 0)=true:=by rw [bne_iff_ne];exact h0
     clear h0 hcx
     have cc:=E0.out.2.1.cell 0
     have zz:=E0.out.2.1.free 0
     have cs:=(E0.out.2.1.store 0 (.slice none 0 0)).cell 0
     go_wp2_with fail
     refine bodyPost_ret (v:=.tuple #[.agg #[.slice none 0 0],.int .i64 4]) (by simp [results,Tryz.results58,go_sem,cs]) rfl ?_
     rw [HR.out]
     exact ⟨_,rfl,⟨aD _ _,by simp⟩,ag E0.out.2.2.2 (ab _ _ _ _) (fun y hy=>by simp at hy;omega)⟩
    have H0:Hid (chk xs=0):=h0
    rw [h0]
    clear h0
    go_wp2_with (go_at_call 46;refine (mh _ xs _ E0.out.1.ops (db H0.out)).mono ?_)
    rintro e w6 ⟨rfl,hg⟩
    have E1:Hid (am w6 w.heap.size (.slice xa na ya) xs/\Blk w6 w.heap.size 25 #[.slice none 0 0]/\Blk w6 (w.heap.size+1) 25 #[.slice xa na ya]/\w.grownBy w6 none):=⟨E0.out.1.grown hg,E0.out.2.1.grown hg (by simp),E0.out.2.2.1.grown hg (by simp),aa E0.out.2.2.2 hg⟩
    clear hg c1 E0
    unfold Str
    have cc:=E1.out.2.1.cell 0
    have zz:=E1.out.2.1.free 0
    by_cases ht:aw xs=s
    case neg =>
     have HR:Hid (aN s=([],4)):=HNO.out (fun h=>ht h.2)
     have q0:(aw xs==X.toList)=false:=by rw [HX.out];rw [beq_eq_false_iff_ne];intro e;exact ht (by simpa using e)
     have q1:(aw xs != X.toList)=true:=by unfold bne;rw [q0];rfl
     clear ht
     have cs:=(E1.out.2.1.store 0 (.slice none 0 0)).cell 0
     go_wp2_with fail
     refine bodyPost_ret (v:=.tuple #[.agg #[.slice none 0 0],.int .i64 4]) (by simp [results,Tryz.results58,go_sem,cs]) rfl ?_
     rw [HR.out]
     exact ⟨_,rfl,⟨aD _ _,by simp⟩,ag E1.out.2.2.2 (ab _ _ _ _) (fun y hy=>by simp at hy;omega)⟩
    have HR:Hid (aN s=(xs,0)):=by unfold Hid aN;rw [HN.out,if_pos hb,dQ.2 ⟨H0.out,ht.symm⟩]
    have q0:(aw xs==X.toList)=true:=by rw [HX.out,ht];simp
    have q1:(aw xs != X.toList)=false:=by unfold bne;rw [q0];rfl
    clear ht
    have c1:=E1.out.2.2.1.cell 0
    have cs:=(E1.out.2.1.store 0 (.slice xa na ya)).cell 0
    go_wp2_with fail
    refine bodyPost_ret (v:=.tuple #[.agg #[.slice xa na ya],.int .i64 0]) (by simp [results,Tryz.results58,go_sem,cs]) rfl ?_
    rw [HR.out]
    exact ⟨_,rfl,E1.out.1.set E1.out.2.1 (by decide) (by decide) (ab _ _ _ _),ag E1.out.2.2.2 (ab _ _ _ _) (fun y hy=>by simp at hy;omega)⟩
end Go.Proofs.YtgjcpjckaopeeaaGreatDoor.Calls
