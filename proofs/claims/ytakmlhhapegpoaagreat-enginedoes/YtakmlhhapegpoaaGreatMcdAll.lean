import Derived.Test.YtakmlhhapegpoaaGreatMabAll
set_option maxHeartbeats 4000000
set_option maxRecDepth 100000
namespace Go.Proofs.YtakmlhhapegpoaaGreat
open Go.RowKit Disk Table
open Names (Str cmpL keyB valueB tabB)
abbrev DB:=List (Bs × List PRow)
def rowsOf (D:DB)(n:Bs):List PRow:=((D.find? (fun x=>decide (x.1=n))).map (·.2)).getD []
def setD:DB->Bs->List PRow->DB
 | [],n,r=>[(n,r)]
 | x :: D,n,r=>if x.1=n then (n,r) :: D else if cmpL n x.1<0 then (n,r) :: x :: D else x :: setD D n r
def delD (D:DB)(n:Bs):DB:=D.filter (fun x=>decide (x.1≠n))
def standD (D:DB)(n:Bs)(r:List PRow):DB:=if r.length=0 then delD D n else setD D n r
def namesD (D:DB):List Bs:=D.map (·.1)
def lenD (D:DB):Nat:=(D.map (fun x=>x.2.length)).sum
def sizeD (D:DB):Nat:=(D.map (fun x=>sizeL x.2)).sum
theorem rows_mem {D:DB}(h:(namesD D).Nodup){x:Bs × List PRow}(hx:x ∈ D):rowsOf D x.1=x.2:=by
 induction D with
 | nil=>simp at hx
 | cons y D ih =>
  simp only [namesD,List.map_cons,List.nodup_cons] at h
  by_cases hy:y.1=x.1
  ·rcases List.mem_cons.1 hx with rfl | hx
   ·simp [rowsOf]
   ·exact absurd (by rw [hy];exact List.mem_map.2 ⟨x,hx,rfl⟩) h.1
  ·rcases List.mem_cons.1 hx with rfl | hx
   ·exact absurd rfl hy
   ·have:=ih h.2 hx
    simpa [rowsOf,List.find?_cons,hy] using this
theorem rows_none {D:DB}{n:Bs}(h:n ∉ namesD D):rowsOf D n=[]:=by
 have:D.find? (fun x=>decide (x.1=n))=none:=by
  rw [List.find?_eq_none]
  intro x hx
  have:x.1≠n:=fun e=>h (by rw [<-e];exact List.mem_map.2 ⟨x,hx,rfl⟩)
  simp [this]
 simp [rowsOf,this]
theorem rows_cons (x:Bs × List PRow)(D:DB)(n:Bs):rowsOf (x :: D) n=if x.1=n then x.2 else rowsOf D n:=by
 by_cases h:x.1=n <;> simp [rowsOf,h]
theorem rows_set (D:DB)(n:Bs)(r:List PRow)(k:Bs)(h:(namesD D).Nodup):rowsOf (setD D n r) k=if k=n then r else rowsOf D k:=by
 induction D with
 | nil =>
  simp only [setD,rows_cons]
  by_cases hk:k=n
  ·simp [hk]
  ·have:¬n=k:=fun e=>hk e.symm
   simp [hk,this]
 | cons x D ih =>
  simp only [namesD,List.map_cons,List.nodup_cons] at h
  unfold setD
  by_cases hk:k=n
  ·subst hk
   by_cases h1:x.1=k
   ·simp [h1,rows_cons]
   ·by_cases h2:cmpL k x.1<0
    ·simp [h1,h2,rows_cons]
    ·simp [h1,h2,rows_cons,ih h.2]
  ·have hk':¬n=k:=fun e=>hk e.symm
   by_cases h1:x.1=n
   ·have:¬x.1=k:=fun e=>hk' (h1.symm.trans e)
    simp [h1,rows_cons,hk,hk']
   ·by_cases h2:cmpL n x.1<0
    ·simp [h1,h2,rows_cons,hk,hk']
    ·simp [h1,h2,rows_cons,ih h.2,hk]
theorem names_set_mem (D:DB)(n:Bs)(r:List PRow)(k:Bs):k ∈ namesD (setD D n r)<->k=n\/k ∈ namesD D:=by
 induction D with
 | nil=>simp [setD,namesD]
 | cons x D ih =>
  unfold setD
  by_cases h1:x.1=n
  ·simp [h1,namesD]
  ·by_cases h2:cmpL n x.1<0
   ·simp [h1,h2,namesD]
   ·simp only [h1,h2,if_false]
    simp only [namesD,List.map_cons,List.mem_cons] at ih ⊢
    rw [ih]
    constructor
    ·rintro (h | h | h)
     ·exact .inr (.inl h)
     ·exact .inl h
     ·exact .inr (.inr h)
    ·rintro (h | h | h)
     ·exact .inr (.inl h)
     ·exact .inl h
     ·exact .inr (.inr h)
def RiseD (D:DB):Prop:=D.Pairwise (fun a b=>cmpL a.1 b.1<0)
theorem RiseD.nodup {D:DB}(h:RiseD D):(namesD D).Nodup:=by
 unfold namesD List.Nodup
 rw [List.pairwise_map]
 refine h.imp fun {a b} hab e=>?_
 rw [e,Names.cmp_self] at hab
 omega
theorem rise_setD {D:DB}(h:RiseD D)(n:Bs)(r:List PRow):RiseD (setD D n r):=by
 induction D with
 | nil=>simp [setD,RiseD]
 | cons x D ih =>
  have h':=List.pairwise_cons.1 h
  unfold setD
  by_cases h1:x.1=n
  ·simp only [h1,if_true]
   refine List.pairwise_cons.2 ⟨fun y hy=>?_,h'.2⟩
   have:=h'.1 y hy
   rwa [h1] at this
  ·by_cases h2:cmpL n x.1<0
   ·simp only [h1,h2,if_true,if_false]
    refine List.pairwise_cons.2 ⟨fun y hy=>?_,h⟩
    rcases List.mem_cons.1 hy with rfl | hy
    ·exact h2
    ·exact Names.cmp_lt_trans (A:=n) (B:=x.1) (by omega) (h'.1 y hy)
   ·simp only [h1,h2,if_false]
    refine List.pairwise_cons.2 ⟨fun y hy=>?_,ih h'.2⟩
    have hm:y.1 ∈ namesD (setD D n r):=List.mem_map.2 ⟨y,hy,rfl⟩
    rcases (names_set_mem D n r y.1).1 hm with e | hm
    ·rw [e]
     exact cmp_pos h2 (fun e=>h1 e.symm)
    ·obtain ⟨z,hz,e⟩:=List.mem_map.1 hm
     rw [<-e]
     exact h'.1 z hz
theorem rise_delD {D:DB}(h:RiseD D)(n:Bs):RiseD (delD D n):=h.sublist List.filter_sublist
theorem rise_standD {D:DB}(h:RiseD D)(n:Bs)(r:List PRow):RiseD (standD D n r):=by
 unfold standD
 split
 ·exact rise_delD h n
 ·exact rise_setD h n r
theorem names_del_mem (D:DB)(n k:Bs):k ∈ namesD (delD D n)<->k≠n/\k ∈ namesD D:=by
 simp only [namesD,delD,List.mem_map,List.mem_filter,decide_eq_true_eq]
 constructor
 ·rintro ⟨x,⟨h1,h2⟩,rfl⟩
  exact ⟨h2,x,h1,rfl⟩
 ·rintro ⟨h1,x,h2,rfl⟩
  exact ⟨x,⟨h2,h1⟩,rfl⟩
theorem rows_del (D:DB)(n k:Bs):rowsOf (delD D n) k=if k=n then [] else rowsOf D k:=by
 induction D with
 | nil=>simp [delD,rowsOf]
 | cons x D ih =>
  have hd:delD (x :: D) n=if x.1=n then delD D n else x :: delD D n:=by
   by_cases h:x.1=n <;> simp [delD,h]
  rw [hd]
  by_cases h:x.1=n
  ·simp only [h,if_true,ih,rows_cons]
   by_cases hk:k=n
   ·simp [hk]
   ·have:¬n=k:=fun e=>hk e.symm
    simp [hk,this]
  ·simp only [h,if_false,rows_cons,ih]
   by_cases hk:k=n
   ·have:¬x.1=k:=fun e=>h (e.trans hk)
    simp [hk,h]
   ·simp [hk]
theorem rows_stand {D:DB}(h:RiseD D)(n:Bs)(r:List PRow)(k:Bs):rowsOf (standD D n r) k=if k=n then r else rowsOf D k:=by
 unfold standD
 split
 ·rename_i hr
  rw [rows_del,List.eq_nil_of_length_eq_zero hr]
 ·exact rows_set D n r k h.nodup
theorem perm_of_mem {α:Type}[BEq α][LawfulBEq α]:∀(a b:List α),a.Nodup->b.Nodup->(∀x,x ∈ a<->x ∈ b)->a.Perm b
 | [],b,_,_,h=>by
  have:b=[]:=by
   cases b with
   | nil=>rfl
   | cons y b=>exact absurd ((h y).2 (by simp)) (by simp)
  rw [this]
 | x :: a,b,ha,hb,h=>by
  have hx:x ∈ b:=(h x).1 (by simp)
  have ha':=List.nodup_cons.1 ha
  have hp:=List.perm_cons_erase hx
  refine List.Perm.trans (List.Perm.cons x (perm_of_mem a (b.erase x) ha'.2 (hb.erase x) fun y=>?_)) hp.symm
  rw [hb.mem_erase_iff]
  constructor
  ·intro hy
   exact ⟨fun e=>ha'.1 (by rw [<-e];exact hy),(h y).1 (by simp [hy])⟩
  ·rintro ⟨h1,h2⟩
   have:=(h y).2 h2
   simp only [List.mem_cons] at this
   rcases this with e | e
   ·exact absurd e h1
   ·exact e
theorem sum_names {E:List Ent}{D:DB}(hE:(E.map (·.1)).Nodup)(hD:RiseD D)(h:∀n,n ∈ E.map (·.1)<->n ∈ namesD D)(f:List PRow->Nat):(E.map (fun x=>f (rowsOf D x.1))).sum=(D.map (fun x=>f x.2)).sum:=by
 have hp:(E.map (·.1)).Perm (namesD D):=perm_of_mem _ _ hE hD.nodup h
 have h1:(E.map (fun x=>f (rowsOf D x.1)))=(E.map (·.1)).map (fun n=>f (rowsOf D n)):=by simp
 have h2:(D.map (fun x=>f x.2))=(namesD D).map (fun n=>f (rowsOf D n)):=by
  unfold namesD
  rw [List.map_map]
  refine List.map_congr_left fun x hx=>?_
  simp only [Function.comp_apply]
  rw [rows_mem hD.nodup hx]
 rw [h1,h2]
 exact (hp.map _).sum_nat
def EM (X:Nat->Prop)(w:World)(m:Nat)(D:DB):Prop:=∃E,MapAt w m E/\(∀n,n ∈ E.map (·.1)<->n ∈ namesD D)/\∀x ∈ E,Tbz X w x.2 (rowsOf D x.1)
theorem Table.Tbz.kept {X:Nat->Prop}{w w':World}{b:Nat}{l:List PRow}(h:Tbz X w b l)(ht:Tn 0 w w'):Tbz X w' b l:=by
 obtain ⟨v,h1,ps,h2,h3⟩:=h
 refine ⟨v,ht.blk h1,ps,⟨h2.1,fun j a b=>?_⟩,h3.cells fun _ _ _ _ hx=>ht.cell hx⟩
 obtain ⟨k,x,g1,g2,g3,g4⟩:=h2.2 j a b
 exact ⟨k,x,ht.blk g1,⟨ht.own g2.1,g2.2⟩,⟨ht.own g3.1,g3.2⟩,g4⟩
theorem tn_map {w w':World}{m:Nat}{es:Array MapEntry}{c:Nat}(hm:w.heap[m]? = some (.map es c))(hg:w.grownBy w' (some m)):Tn 0 w w' :=
 ⟨hg.os,hg.tape,hg.output,hg.size,fun i hi hc=>hg.block i hi (fun e=>by
  simp at e
  subst e
  rcases hc with hc | ⟨_,_,_,hc⟩
  ·omega
  ·rw [hm] at hc;cases hc)⟩
theorem tn_at {w w':World}{m:Nat}{E:List Ent}(hm:MapAt w m E)(hg:w.grownBy w' (some m)):Tn 0 w w':=by
 obtain ⟨es,c,h,_⟩:=hm
 exact tn_map h hg
theorem EM.lt {X:Nat->Prop}{w:World}{m:Nat}{D:DB}(h:EM X w m D):m<w.heap.size:=by
 obtain ⟨E,h,_⟩:=h
 exact h.lt
theorem EM.grown {X:Nat->Prop}{w w':World}{m:Nat}{D:DB}(h:EM X w m D)(hg:w.grownBy w' none):EM X w' m D:=by
 obtain ⟨E,h1,h2,h3⟩:=h
 exact ⟨E,h1.grown hg (by simp),h2,fun x hx=>(h3 x hx).grown hg⟩
theorem EM.off {X:Nat->Prop}{w w':World}{m g:Nat}{D:DB}{E:List Ent}(h:EM X w m D)(hg:w.grownBy w' (some g))(hE:MapAt w g E)(hm:m≠g):EM X w' m D:=by
 obtain ⟨F,h1,h2,h3⟩:=h
 exact ⟨F,h1.grown hg (by simpa using fun e=>hm e.symm),h2,fun x hx=>(h3 x hx).kept (tn_at hE hg)⟩
theorem em_look {E:List Ent}{D:DB}(h:∀n,n ∈ E.map (·.1)<->n ∈ namesD D)(n:Bs):(∃p,findP E n=some p/\(n,p) ∈ E)\/(findP E n=none/\n ∉ namesD D/\rowsOf D n=[]):=by
 cases hi:E.findIdx? (fun x=>decide (x.1=n)) with
 | none =>
  obtain ⟨h1,h2⟩:=find_none hi
  have hn:n ∉ namesD D:=fun hm=>by
   obtain ⟨x,hx,e⟩:=List.mem_map.1 ((h n).2 hm)
   exact h2 x hx e
  exact .inr ⟨h1,hn,rows_none hn⟩
 | some i =>
  obtain ⟨hi',e1,e2⟩:=find_some hi
  refine .inl ⟨_,e2,?_⟩
  have:E[i] ∈ E:=List.getElem_mem _
  rw [<-e1]
  exact this
theorem em_set {X:Nat->Prop}{w w':World}{m p:Nat}{D:DB}{E:List Ent}(hD:RiseD D)(hm:MapAt w m E)(h2:∀n,n ∈ E.map (·.1)<->n ∈ namesD D)(h3:∀x ∈ E,Tbz X w x.2 (rowsOf D x.1))(n:Bs)(r:List PRow)(hr:r.length≠0)(ht:Tbz X w p r)(hm':MapAt w' m (setE E n p))(hg:w.grownBy w' (some m)):EM X w' m (standD D n r):=by
 have hs:standD D n r=setD D n r:=by unfold standD;rw [if_neg hr]
 have tn:=tn_at hm hg
 refine ⟨_,hm',fun k=>?_,fun x hx=>?_⟩
 ·rw [hs,names_set_mem,<-h2 k]
  unfold setE
  rcases em_look h2 n with ⟨q,e,hq⟩ | ⟨e,_,_⟩
  ·rw [e]
   simp only [Option.isSome_some,if_true]
   rw [keys_set]
   refine ⟨.inr,fun h=>?_⟩
   rcases h with rfl | h
   ·exact List.mem_map.2 ⟨_,hq,rfl⟩
   ·exact h
  ·rw [e]
   simp only [Option.isSome_none,Bool.false_eq_true,if_false,List.map_append,List.map_cons,List.map_nil,List.mem_append,List.mem_singleton]
   exact Or.comm
 ·rw [rows_stand hD]
  unfold setE at hx
  rcases em_look h2 n with ⟨q,e,hq⟩ | ⟨e,hn,_⟩
  ·rw [e] at hx
   simp only [Option.isSome_some,if_true,List.mem_map] at hx
   obtain ⟨y,hy,e⟩:=hx
   by_cases hyn:y.1=n
   ·simp only [hyn,if_true] at e
    rw [<-e]
    simp only [if_true]
    exact ht.kept tn
   ·simp only [hyn,if_false] at e
    rw [<-e]
    simp only [hyn,if_false]
    exact (h3 y hy).kept tn
  ·rw [e] at hx
   simp only [Option.isSome_none,Bool.false_eq_true,if_false,List.mem_append,List.mem_singleton] at hx
   rcases hx with hx | rfl
   ·have hne:x.1≠n:=fun e=>hn ((h2 n).1 (by rw [<-e];exact List.mem_map.2 ⟨x,hx,rfl⟩))
    simp only [hne,if_false]
    exact (h3 x hx).kept tn
   ·simp only [if_true]
    exact ht.kept tn
theorem em_del {X:Nat->Prop}{w w':World}{m:Nat}{D:DB}{E:List Ent}(hD:RiseD D)(hm:MapAt w m E)(h2:∀n,n ∈ E.map (·.1)<->n ∈ namesD D)(h3:∀x ∈ E,Tbz X w x.2 (rowsOf D x.1))(n:Bs)(hm':MapAt w' m (delE E n))(hg:w.grownBy w' (some m)):EM X w' m (standD D n []):=by
 have hs:standD D n []=delD D n:=by unfold standD;rfl
 have tn:=tn_at hm hg
 refine ⟨_,hm',fun k=>?_,fun x hx=>?_⟩
 ·rw [hs,names_del_mem,<-h2 k]
  simp only [delE,List.mem_map,List.mem_filter,decide_eq_true_eq]
  constructor
  ·rintro ⟨x,⟨g1,g2⟩,rfl⟩
   exact ⟨g2,x,g1,rfl⟩
  ·rintro ⟨g1,x,g2,rfl⟩
   exact ⟨x,⟨g2,g1⟩,rfl⟩
 ·rw [rows_stand hD]
  simp only [delE,List.mem_filter,decide_eq_true_eq] at hx
  rw [if_neg hx.2]
  exact (h3 x hx.1).kept tn
theorem em_made (X:Nat->Prop)(w:World):EM X (w.alloc (.map #[] 0)) w.heap.size []:=⟨[],map_made w,by simp [namesD],by simp⟩
def EngB (w:World)(b:Nat)(q:Int × Int)(m:Nat):Prop:=Blk w b 64 #[.int .i64 q.1,.int .i64 q.2,.map (some m)]
def Eng (X:Nat->Prop)(w:World)(b:Nat)(q:Int × Int)(D:DB):Prop:=∃m,EngB w b q m/\EM X w m D
theorem Eng.grown {X:Nat->Prop}{w w':World}{b:Nat}{q:Int × Int}{D:DB}(h:Eng X w b q D)(hg:w.grownBy w' none):Eng X w' b q D:=by
 obtain ⟨m,h1,h2⟩:=h
 exact ⟨m,Blk.grown h1 hg (by simp),h2.grown hg⟩
def NoEng (w:World)(v:Value):Prop:=v=.pointer none\/∃b,v=ptr b/\Blk w b 64 #[.int .i64 0,.int .i64 0,.map none]
theorem NoEng.grown {w w':World}{v:Value}(h:NoEng w v)(hg:w.grownBy w' none):NoEng w' v:=by
 rcases h with h | ⟨b,h1,h2⟩
 ·exact .inl h
 ·exact .inr ⟨b,h1,h2.grown hg (by simp)⟩
def quoV (q:Int × Int):Value:=.agg #[.int .i64 q.1,.int .i64 q.2]
structure GoodD (D:DB):Prop where
 rise:RiseD D
 some:∀x ∈ D,x.2≠[]
 good:∀x ∈ D,Table.Good x.2
 few:lenD D<=1000000
theorem run_neq62 (w:World)(p:Option Nat):(binOp .neq 62 (.map p) (.map none)).run Tryz.prog w=.ok (.bool p.isSome) w:=by
 have key:∀d,(Op.equalIn (d+1) 62 (.map p) (.map none)).run Tryz.prog w=.ok p.isNone w:=fun d=>by
  cases p <;> simp [Op.equalIn,run_underlying ut62]
 simp only [binOp]
 rw [show Op.equal 62 (.map p) (.map none)=Op.equalIn (9999+1) 62 (.map p) (.map none) from rfl]
 simp only [Sem.run_bind,key 9999,Result.andThen]
 cases p <;> rfl
theorem byName42 (b m:Nat)(q:Int × Int)(w:World)(h:EngB w b q m):Calls Tryz.prog 42 #[.pointer (some ⟨b,0,none⟩)] w fun e w'=>e=.returned (.map (some m))/\w'=w:=by
 unfold EngB at h
 have c2:=h.cell 2
 go_enter Tryz.func42,Tryz.ntmps42
 go_wp2
 go_ret
 exact ⟨rfl,rfl⟩
theorem there31 (b m:Nat)(q:Int × Int)(w:World)(h:EngB w b q m):Calls Tryz.prog 31 #[.pointer (some ⟨b,0,none⟩)] w fun e w'=>e=.returned (.bool true)/\w'=w:=by
 have HB:Hid (EngB w b q m):=h
 have hq:=fun w=>run_neq62 w (some m)
 clear h
 go_enter Tryz.func31,Tryz.ntmps31
 go_wp2_with (go_at_call 42;refine (byName42 b m q w HB.out).mono ?_;rintro e w1 ⟨rfl,hw⟩;rw [hw];clear hw)
 go_ret
 exact ⟨rfl,rfl⟩
theorem grown_set2 {w w1:World}{B i j:Nat}{u v:Value}(h:w.grownBy w1 none)(hB:w.heap.size<=B):w.grownBy ((w1.setCell ⟨B,i,none⟩ u).setCell ⟨B,j,none⟩ v) none :=
 grown_new (grown_new h (grown_setCell _ _ _ _) (fun x hx=>by simp at hx;omega)) (grown_setCell _ _ _ _) (fun x hx=>by simp at hx;omega)
theorem quota38 (b m:Nat)(q:Int × Int)(w:World)(h:EngB w b q m):Calls Tryz.prog 38 #[.pointer (some ⟨b,0,none⟩)] w fun e w'=>e=.returned (quoV q)/\w.grownBy w' none:=by
 have HB:Hid (EngB w b q m):=h
 clear h
 go_enter Tryz.func38,Tryz.ntmps38
 go_wp2_with fail
 obtain ⟨w1,hw1,H1⟩:=al w #[.int .i64 0,.int .i64 0] 23
 rw [hw1]
 clear hw1
 have hE:EngB w1 b q m:=Blk.grown HB.out H1.out.2.1 (by simp)
 have HE:Hid (EngB w1 b q m):=hE
 unfold EngB at hE
 have c0:=hE.cell 0
 have c1:=hE.cell 1
 have f0:=H1.out.1.free 0
 have f1:=H1.out.1.free 1
 have k0:=H1.out.1.cell 0
 have k1:=H1.out.1.cell 1
 clear hE
 go_wp2_with (go_at_call 31;refine (there31 b m q w1 HE.out).mono ?_;rintro e w2 ⟨rfl,hw⟩;rw [hw];clear hw)
 refine bodyPost_ret (v:=_) (results_cell_row rfl _ _ w.heap.size 23 _ (0,0) _ rfl ((H1.out.1.store 0 (.int .i64 q.1)).store 1 (.int .i64 q.2)) Tryz.underlying23 rfl (by kernel_rfl)) rfl ?_
 exact ⟨rfl,grown_set2 H1.out.2.1 (Nat.le_refl _)⟩
def mayQ (q:Int × Int):Bool:=decide (1<=q.1/\q.1<=4096/\1<=q.2/\q.2<=1048576)
theorem quotaMayBe44 (q:Int × Int)(w:World):Calls Tryz.prog 44 #[quoV q] w fun e w'=>e=.returned (.bool (mayQ q))/\w.grownBy w' none:=by
 obtain ⟨a,b⟩:=q
 obtain ⟨R,hR⟩:∃R,mayQ (a,b)=R:=⟨_,rfl⟩
 have HR:Hid (mayQ (a,b)=R):=hR
 rw [hR]
 clear hR
 have hr:decide (1<=a/\a<=4096/\1<=b/\b<=1048576)=R:=HR.out
 unfold quoV
 by_cases c1:1<=a
 ·by_cases c2:a<=4096
  ·by_cases c3:1<=b
   ·by_cases c4:b<=1048576
    ·rw [decide_eq_true (by omega)] at hr
     subst hr
     go_enter Tryz.func44,Tryz.ntmps44
     go_wp2_with fail
     go_ret
     exact ⟨rfl,World.grownBy_alloc _ _ _⟩
    ·rw [decide_eq_false (by omega)] at hr
     subst hr
     go_enter Tryz.func44,Tryz.ntmps44
     go_wp2_with fail
     go_ret
     exact ⟨rfl,World.grownBy_alloc _ _ _⟩
   ·rw [decide_eq_false (by omega)] at hr
    subst hr
    go_enter Tryz.func44,Tryz.ntmps44
    go_wp2_with fail
    go_ret
    exact ⟨rfl,World.grownBy_alloc _ _ _⟩
  ·rw [decide_eq_false (by omega)] at hr
   subst hr
   go_enter Tryz.func44,Tryz.ntmps44
   go_wp2_with fail
   go_ret
   exact ⟨rfl,World.grownBy_alloc _ _ _⟩
 ·rw [decide_eq_false (by omega)] at hr
  subst hr
  go_enter Tryz.func44,Tryz.ntmps44
  go_wp2_with fail
  go_ret
  exact ⟨rfl,World.grownBy_alloc _ _ _⟩
def leftN (w:World)(it m:Nat):Nat:=match w.heap[it]?,w.heap[m]? with
 | some (.mapIter _ _ seen _),some (.map es _)=>(leftOf es seen).size
 | _,_=>0
theorem IterAt.left {w:World}{it m:Nat}{E left:List Ent}(h:IterAt w it m E left):leftN w it m=left.length:=by
 obtain ⟨es,c,seen,c0,h1,h2,_,_,_,_,h7⟩:=h
 unfold leftN
 rw [h1,h2]
 have:=congrArg List.length h7
 simpa using this
theorem sum_perm {α:Type}{l:List α}{x:α}{m:List α}(h:l.Perm (x :: m))(f:α->Nat):(l.map f).sum=f x+(m.map f).sum:=by
 have:=(h.map f).sum_nat
 simpa using this
theorem good_rows {D:DB}(h:GoodD D){n:Bs}(hn:n ∈ namesD D):Table.Good (rowsOf D n):=by
 obtain ⟨x,hx,rfl⟩:=List.mem_map.1 hn
 rw [rows_mem h.rise.nodup hx]
 exact h.good x hx
theorem size_few {D:DB}(h:GoodD D):sizeD D<=320000000:=by
 have key:∀(D:DB),(∀x ∈ D,Table.Good x.2)->sizeD D<=lenD D*320:=by
  intro D
  induction D with
  | nil=>intro _;simp [sizeD,lenD]
  | cons x D ih =>
   intro hg
   have h1:=ih (fun y hy=>hg y (by simp [hy]))
   have h2:=size_le (hg x (by simp)).2.1
   simp only [sizeD,lenD,List.map_cons,List.sum_cons] at h1 ⊢
   omega
 have:=key D h.good
 have:=h.few
 omega
theorem len19 {X:Nat->Prop}(b:Nat)(q:Int × Int)(D:DB)(hD:GoodD D)(w:World)(h:Eng X w b q D):Calls Tryz.prog 19 #[.pointer (some ⟨b,0,none⟩)] w fun e w'=>e=.returned (.int .i64 (lenD D:Nat))/\w.grownBy w' none:=by
 obtain ⟨m,hb,E,h1,h2,h3⟩:=h
 have hsum:(E.map (fun x=>List.length (rowsOf D x.1))).sum=lenD D:=sum_names h1.nodup hD.rise h2 List.length
 obtain ⟨N,hN⟩:∃N,lenD D=N:=⟨_,rfl⟩
 have hN6:N<=1000000:=by rw [<-hN];exact hD.few
 rw [hN] at hsum
 rw [hN]
 have HB:Hid (EngB w b q m):=hb
 have HG:Hid (∀x ∈ E,Table.Good (rowsOf D x.1)):=fun x hx=>good_rows hD ((h2 x.1).1 (List.mem_map.2 ⟨x,hx,rfl⟩))
 have H:Hid (MapAt w m E/\(∀x ∈ E,Tbz X w x.2 (rowsOf D x.1))/\(E.map (fun x=>List.length (rowsOf D x.1))).sum=N):=⟨h1,h3,hsum⟩
 clear hb h1 h2 h3 hsum hN hD
 obtain ⟨w0,hr0,hi0,hg0,_⟩:=run_range62 H.out.1
 have HI:Hid (IterAt w0 w.heap.size m E E/\w.grownBy w0 none):=⟨hi0,hg0⟩
 clear hi0 hg0
 go_enter Tryz.func19,Tryz.ntmps19
 go_wp2_with (go_at_call 42;refine (byName42 b m q w HB.out).mono ?_;rintro e w1 ⟨rfl,hw⟩;rw [hw];clear hw)
 go_loopw [3] (fun v wr=>∃(left:List Ent) (s:Nat),v=.int .i64 (s:Int)/\Hid (IterAt wr w.heap.size m E left/\s+(left.map (fun x=>List.length (rowsOf D x.1))).sum=N/\w.grownBy wr none/\∀x ∈ left,x ∈ E)) (fun _ wr=>leftN wr w.heap.size m)
 case atStart=>exact ⟨E,0,rfl,HI.out.1,by rw [H.out.2.2];omega,HI.out.2,fun x hx=>hx⟩
 case round =>
  obtain ⟨left,s,rfl,HR⟩:=hrel
  by_cases hl:left=[]
  ·subst hl
   have hn:=fun ty=>run_next_no HR.out.1 ty
   go_wp2_with fail
   go_ret
   have:=HR.out.2.1
   simp at this
   exact ⟨by rw [this];rfl,HR.out.2.2.1⟩
  ·obtain ⟨x,left',w1,hp,hn,he,hi,hg,hsz⟩:=run_next_some HR.out.1 hl 0
   have hxl:x ∈ left:=hp.mem_iff.2 (by simp)
   have hxE:x ∈ E:=HR.out.2.2.2 x hxl
   have hg1:w.grownBy w1 none:=grown_new HR.out.2.2.1 hg (fun y hy=>by simp at hy;omega)
   have hs:=sum_perm hp (fun x=>List.length (rowsOf D x.1))
   have hsl:s+(List.length (rowsOf D x.1)+(left'.map (fun x=>List.length (rowsOf D x.1))).sum)=N:=by rw [<-hs];exact HR.out.2.1
   obtain ⟨y,hy⟩:∃y,List.length (rowsOf D x.1)=y:=⟨_,rfl⟩
   have HX:Hid (IterAt w1 w.heap.size m E left'/\s+(y+(left'.map (fun x=>List.length (rowsOf D x.1))).sum)=N/\w.grownBy w1 none/\(∀x ∈ left',x ∈ E)/\left.length=left'.length+1):=⟨hi,by rw [<-hy];exact hsl,hg1,fun z hz=>HR.out.2.2.2 z (hp.mem_iff.2 (by simp [hz])),by have:=hp.length_eq;simpa using this⟩
   have HT:Hid (Tl w1 (ptr x.2) true (rowsOf D x.1)):=((H.out.2.1 x hxE).grown hg1).old.tl
   have HC:Hid (Calls Tryz.prog 50 #[ptr x.2] w1 fun e w'=>e=.returned (.int .i64 (y:Int))/\∃k,w'=w1.drewN k):=by
    rw [<-hy]
    exact (len23g _ true _ w1 HT.out).mono fun e w2 h=>⟨h.1,0,h.2.trans rfl⟩
   have j0:s<=N:=by omega
   have j1:y<=N:=by omega
   have j2:s+y<=N:=by omega
   clear hp hi hg hsz hxl hxE hs hsl hy hg1 hl
   go_wp2_with fail
   refine HC.out.mono ?_
   rintro e w2 ⟨rfl,k,hw⟩
   rw [hw]
   clear hw
   go_wp2_with fail
   go_roundw
   case rel=>exact ⟨left',s+y,by rw [Int.natCast_add],HX.out.1.grown (grown_drewN w1 k none) (by simp) (by simp),by rw [Nat.add_assoc];exact HX.out.2.1,grown_trans HX.out.2.2.1 (grown_drewN w1 k none),HX.out.2.2.2.1⟩
   case measure =>
    have e1:=HR.out.1.left
    have e2:=(HX.out.1.grown (grown_drewN w1 k none) (by simp) (by simp)).left
    have:=HX.out.2.2.2.2
    rw [e1,e2]
    omega
theorem size20 {X:Nat->Prop}(b:Nat)(q:Int × Int)(D:DB)(hD:GoodD D)(w:World)(h:Eng X w b q D):Calls Tryz.prog 20 #[.pointer (some ⟨b,0,none⟩)] w fun e w'=>e=.returned (.int .i64 (sizeD D:Nat))/\w.grownBy w' none:=by
 obtain ⟨m,hb,E,h1,h2,h3⟩:=h
 have hsum:(E.map (fun x=>sizeL (rowsOf D x.1))).sum=sizeD D:=sum_names h1.nodup hD.rise h2 sizeL
 obtain ⟨N,hN⟩:∃N,sizeD D=N:=⟨_,rfl⟩
 have hN6:N<=320000000:=by rw [<-hN];exact size_few hD
 rw [hN] at hsum
 rw [hN]
 have HB:Hid (EngB w b q m):=hb
 have HG:Hid (∀x ∈ E,Table.Good (rowsOf D x.1)):=fun x hx=>good_rows hD ((h2 x.1).1 (List.mem_map.2 ⟨x,hx,rfl⟩))
 have H:Hid (MapAt w m E/\(∀x ∈ E,Tbz X w x.2 (rowsOf D x.1))/\(E.map (fun x=>sizeL (rowsOf D x.1))).sum=N):=⟨h1,h3,hsum⟩
 clear hb h1 h2 h3 hsum hN hD
 obtain ⟨w0,hr0,hi0,hg0,_⟩:=run_range62 H.out.1
 have HI:Hid (IterAt w0 w.heap.size m E E/\w.grownBy w0 none):=⟨hi0,hg0⟩
 clear hi0 hg0
 go_enter Tryz.func20,Tryz.ntmps20
 go_wp2_with (go_at_call 42;refine (byName42 b m q w HB.out).mono ?_;rintro e w1 ⟨rfl,hw⟩;rw [hw];clear hw)
 go_loopw [3] (fun v wr=>∃(left:List Ent) (s:Nat),v=.int .i64 (s:Int)/\Hid (IterAt wr w.heap.size m E left/\s+(left.map (fun x=>sizeL (rowsOf D x.1))).sum=N/\w.grownBy wr none/\∀x ∈ left,x ∈ E)) (fun _ wr=>leftN wr w.heap.size m)
 case atStart=>exact ⟨E,0,rfl,HI.out.1,by rw [H.out.2.2];omega,HI.out.2,fun x hx=>hx⟩
 case round =>
  obtain ⟨left,s,rfl,HR⟩:=hrel
  by_cases hl:left=[]
  ·subst hl
   have hn:=fun ty=>run_next_no HR.out.1 ty
   go_wp2_with fail
   go_ret
   have:=HR.out.2.1
   simp at this
   exact ⟨by rw [this];rfl,HR.out.2.2.1⟩
  ·obtain ⟨x,left',w1,hp,hn,he,hi,hg,hsz⟩:=run_next_some HR.out.1 hl 0
   have hxl:x ∈ left:=hp.mem_iff.2 (by simp)
   have hxE:x ∈ E:=HR.out.2.2.2 x hxl
   have hg1:w.grownBy w1 none:=grown_new HR.out.2.2.1 hg (fun y hy=>by simp at hy;omega)
   have hs:=sum_perm hp (fun x=>sizeL (rowsOf D x.1))
   have hsl:s+(sizeL (rowsOf D x.1)+(left'.map (fun x=>sizeL (rowsOf D x.1))).sum)=N:=by rw [<-hs];exact HR.out.2.1
   obtain ⟨y,hy⟩:∃y,sizeL (rowsOf D x.1)=y:=⟨_,rfl⟩
   have HX:Hid (IterAt w1 w.heap.size m E left'/\s+(y+(left'.map (fun x=>sizeL (rowsOf D x.1))).sum)=N/\w.grownBy w1 none/\(∀x ∈ left',x ∈ E)/\left.length=left'.length+1):=⟨hi,by rw [<-hy];exact hsl,hg1,fun z hz=>HR.out.2.2.2 z (hp.mem_iff.2 (by simp [hz])),by have:=hp.length_eq;simpa using this⟩
   have HT:Hid (Tl w1 (ptr x.2) true (rowsOf D x.1)):=((H.out.2.1 x hxE).grown hg1).old.tl
   have HC:Hid (Calls Tryz.prog 51 #[ptr x.2] w1 fun e w'=>e=.returned (.int .i64 (y:Int))/\∃k,w'=w1.drewN k):=by
    rw [<-hy]
    exact size30 _ true _ (HG.out x hxE) w1 HT.out
   have j0:s<=N:=by omega
   have j1:y<=N:=by omega
   have j2:s+y<=N:=by omega
   clear hp hi hg hsz hxl hxE hs hsl hy hg1 hl
   go_wp2_with fail
   refine HC.out.mono ?_
   rintro e w2 ⟨rfl,k,hw⟩
   rw [hw]
   clear hw
   go_wp2_with fail
   go_roundw
   case rel=>exact ⟨left',s+y,by rw [Int.natCast_add],HX.out.1.grown (grown_drewN w1 k none) (by simp) (by simp),by rw [Nat.add_assoc];exact HX.out.2.1,grown_trans HX.out.2.2.1 (grown_drewN w1 k none),HX.out.2.2.2.1⟩
   case measure =>
    have e1:=HR.out.1.left
    have e2:=(HX.out.1.grown (grown_drewN w1 k none) (by simp) (by simp)).left
    have:=HX.out.2.2.2.2
    rw [e1,e2]
    omega
end Go.Proofs.YtakmlhhapegpoaaGreat
