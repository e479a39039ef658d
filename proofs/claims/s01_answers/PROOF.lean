import PyProof.Rows.All
import Wide.All
import OpenK.AllK
import Wide.FinOn
import PyProof.EqAt
import PyProof.EqKinds
import PyProof.TupleCall
import KE.BitLaws
import Open.SpecLaws
import KE.OsHead
import KE.OsGo
import KE.IntBitsLaws
import PyProof.P3In
import KE.KEqDeep
import KE.KSortKeyAny
import KE.KSortTupG
import PySem.Challenge.RW_pairsevent_s01_answers
set_option Elab.async false
set_option linter.all false
set_option maxRecDepth 100000
set_option maxHeartbeats 2000000
noncomputable section
set_option maxHeartbeats 0
section
local macro_rules | `(command| lay_the_boot)=>do
 let b:=`Hd.b
 let ns:=`PySem.Challenge.pw_pairsevent_s01_answers::`Hd.a.view_1::`Hd.a.heap_1::["view_1","heap_5","heap_869"].map b.str++[6,76,113,136,159,182,205,263,264,343,393,435,520,606,692,748,810,868].map (fun i=>b.str s!"tree_{i}")++[8,77,114,137,160,183,206,264,266,346,394,436,521,607,693,749,811].map (fun i=>b.str s!"sts_{i}")++(List.range 869).map (fun i=>b.str s!"o_{i}")
 return Lean.mkNullNode (← ns.toArray.mapM fun n => do return (← `(theorem $(Lean.mkIdent ((`PySem.W.Fast).str s!"tw{n.hash}")) : True := trivial)).raw)
lay_the_boot
end
section
open PySem PySem.W PyProof.Rows
section
local macro_rules | `(tactic| refine $_)=>`(tactic| exact False.elim (by assumption))
theorem Hd.a(h:False):PySem.Challenge.rw_pairsevent_s01_answers.Holds:=by w_on;k_headS
end
theorem Hd.k1:PySem.Challenge.rw_pairsevent_s01_answers.wellSaid=true:=by decide +kernel
theorem Hd.k2:(chainsOk Hd.a.view_1&&opensWell PySem.Challenge.rw_pairsevent_s01_answers.prog)=true:=by decide +kernel
theorem Hd.k3:PySem.Challenge.rw_pairsevent_s01_answers.prog.bare:=⟨rfl,rfl,rfl,rfl,rfl,by decide +kernel⟩
noncomputable def Hd.as:List Addr:=[2,3,15,16,17,18,19,21,22,24,25,26,28,29,31,32,33,35,36,38,39,40,42,43,45,46,47,49,50,52,53,54,56,57,59,60,61,63,64,66,67,68,70,71,73,74,75,77,78,80,81,82,84,85,87,88,89,91,92,94,95,103,105,106,108,109,110,111,112,113,114,124,126,127,129,130,131,132,133,134,135,145,147,148,150,151,152,153,154,155,156,166,168,169,171,172,173,174,175,176,177,187,189,190,192,193,194,195,196,197,198,208,210,211,213,214,215,216,217,218,219,222,224,225,227,228,229,231,232,234,235,236,238,239,241,242,243,245,246,248,249,250,252,253,255,256,257,258,259,260,261,262,263,264,265,266,267,268,269,270,271,272,273,274,275,276,277,278,279,280,281,282,283,284,285,286,287,288,289,290,291,292,293,294,295,296,297,298,299,300,301,302,303,304,305,306,307,308,309,310,311,312,313,314,315,316,317,318,319,320,321,322,324,325,326,327,328,329,330,331,332,333,334,335,336,337,345,347,348,350,351,352,353,354,355,356,359,361,362,364,365,366,368,369,371,372,373,375,376,378,379,380,383,384,385,387,388,390,391,392,394,395,397,398,399,401,402,404,405,406,408,409,411,412,413,415,416,418,419,420,422,423,425,426,427,429,430,432,433,434,436,437,439,440,441,444,445,446,448,449,451,452,453,456,457,458,460,461,463,464,465,467,468,470,471,472,474,475,477,478,479,481,482,484,485,486,489,490,491,494,495,496,498,499,501,502,503,505,506,508,509,510,512,513,515,516,517,519,520,522,523,524,526,527,529,530,531,533,534,536,537,538,540,541,543,544,545,547,548,550,551,552,554,555,557,558,559,561,562,564,565,566,568,569,571,572,573,575,576,578,579,580,582,583,585,586,587,589,590,592,593,594,596,597,599,600,601,603,604,606,607,608,610,611,613,614,615,617,618,620,621,622,624,625,627,628,629,631,632,634,635,636,638,639,641,642,643,645,646,648,649,650,652,653,655,656,657,659,660,662,663,664,666,667,669,670,671,673,674,676,677,678,680,681,683,684,685,687,688,690,691,692,694,695,697,698,699,702,703,711,713,714,716,717,718,719,720,721,722,725,727,728,730,731,732,734,735,737,738,739,741,742,744,745,746,749,750,751,754,755,756,758,759,761,762,763,765,766,768,769,770,772,773,775,776,777,779,780,782,783,784,792,794,795,797,798,799,800,801,802,803,806,808,809,811,812,813,815,816,818,819,820,822,823,825,826,827,829,830,832,833,834,836,837,839,840]
theorem Hd.ase(P:Params):Hd.as=(Hd.a.heap_1 P).map (·.1):=by kernel_rfl
noncomputable abbrev Hd.rF:OpenSpec:=OpenSpec.mk PySem.Challenge.pw_pairsevent_s01_answers PySem.Challenge.nm_pairsevent_s01_answers PySem.Challenge.fa_pairsevent_s01_answers (.int 1 0) PyVbbraj.answers_asked fun _=>(0:Int)
theorem Hd.no(h:Hd.rF.Holds):False:=Bool.noConfusion ((Bool.and_eq_true_iff.mp h.1).2:(Codec.int 1 0).ok=true)
theorem Hd.mp{p q:Prop}(f:p→q)(x:p):q:=f x
section
local macro_rules | `(tactic| refine $_)=>`(tactic| refine' Hd.mp (by assumption) ?hl)
theorem Hd.b(c:LeftO PySem.Challenge.pw_pairsevent_s01_answers Hd.a.view_1 ["RANGES"] (fun s=>xlAt Hd.a.view_1 [] s&&recOk [] s) (Hook.obs (kHook Hd.a.heap_1 Hd.as Hd.ase)) (Hook.val (kHook Hd.a.heap_1 Hd.as Hd.ase)) 11638→Hd.rF.Holds):Hd.rF.Holds:=by
 w_on;o_headS Hook.none
end
theorem Hd.left:LeftO PySem.Challenge.pw_pairsevent_s01_answers Hd.a.view_1 ["RANGES"] (fun s=>xlAt Hd.a.view_1 [] s&&recOk [] s) (Hook.obs (kHook Hd.a.heap_1 Hd.as Hd.ase)) (Hook.val (kHook Hd.a.heap_1 Hd.as Hd.ase)) 11638:=
 Classical.byContradiction fun n=>Hd.no (Hd.b fun l=>(n l).elim)
end
section
namespace Mth
open Vbbrah (Fr Entry Result)
noncomputable def val(f:Fr):Rat:=mkRat f.1 f.2
noncomputable def canon(q:Rat):Fr:=(q.num,q.den)
theorem val_canon(q:Rat):val (canon q)=q:=Rat.mkRat_self q
theorem canon_inj{a b:Rat}(h:canon a=canon b):a=b:=by rw[←val_canon a,←val_canon b,h]
theorem canon_pos(q:Rat):(canon q).2≠0:=q.den_nz
theorem lowest_eq{f:Fr}(h:f.2≠0):Vbbrah.lowest f=canon (val f):=by
 unfold Vbbrah.lowest val canon
 have hg:Nat.gcd f.1.natAbs f.2≠0:=fun e=>h (Nat.gcd_eq_zero_iff.mp e).2
 rw[if_neg hg]
 rw[←Rat.normalize_eq_mkRat h,Rat.normalize_eq]
theorem lowest_canon(q:Rat):Vbbrah.lowest (canon q)=canon q:=by rw[lowest_eq (canon_pos q),val_canon]
theorem plus_eq{f g:Fr}(hf:f.2≠0)(hg:g.2≠0):Vbbrah.plus f g=canon (val f+val g):=by
 unfold Vbbrah.plus
 rw[lowest_eq (Nat.mul_ne_zero hf hg)]
 unfold val
 rw[Rat.mkRat_add_mkRat _ _ hf hg]
theorem times_eq{f g:Fr}(hf:f.2≠0)(hg:g.2≠0):Vbbrah.times f g=canon (val f*val g):=by
 unfold Vbbrah.times
 rw[lowest_eq (Nat.mul_ne_zero hf hg)]
 unfold val
 rw[Rat.mkRat_mul_mkRat]
theorem neg_val(f:Fr):val (Vbbrah.neg f)=-val f:=by
 unfold Vbbrah.neg val
 rw[Rat.neg_mkRat]
theorem neg_canon(q:Rat):Vbbrah.neg (canon q)=canon (-q):=rfl
theorem plus_canon(a b:Rat):Vbbrah.plus (canon a) (canon b)=canon (a+b):=by rw[plus_eq (canon_pos a) (canon_pos b),val_canon,val_canon]
theorem times_canon(a b:Rat):Vbbrah.times (canon a) (canon b)=canon (a*b):=by rw[times_eq (canon_pos a) (canon_pos b),val_canon,val_canon]
theorem canon_int(n:Int):canon (n:Rat)=(n,1):=rfl
theorem canon_zero:canon 0=(0,1):=rfl
noncomputable def sumR(l:List Rat):Rat:=l.foldr (fun a b=>a+b) 0
theorem sumR_append(a b:List Rat):sumR (a++b)=sumR a+sumR b:=by
 unfold sumR
 induction a with
 |nil=>simp[Rat.zero_add]
 |cons x a ih=>simp only[List.cons_append,List.foldr_cons,ih];grind
theorem sumFr_eq(l:List Rat):Vbbrah.sumFr (l.map canon)=canon (sumR l):=by
 unfold Vbbrah.sumFr sumR
 induction l with
 |nil=>rfl
 |cons x l ih=>simp only[List.map_cons,List.foldr_cons,ih,plus_canon]
noncomputable def overR(r q:Result):Rat:=mkRat ((r.flatMap fun p=>q.map fun t=>((p.1*t.1:Nat):Int)*Vbbrah.versus p.2 t.2).foldr (fun a b=>a+b) 0) (Vbbrah.weight r*Vbbrah.weight q)
theorem over_eq{r q:Result}(hr:Vbbrah.weight r≠0)(hq:Vbbrah.weight q≠0):Vbbrah.over Vbbrah.versus r q=canon (overR r q):=by
 unfold Vbbrah.over overR
 exact lowest_eq (Nat.mul_ne_zero hr hq)
noncomputable def Wt(s:Vbbrah.State):Prop:=∀e∈s,Vbbrah.isReal e=true→Vbbrah.weight e.result≠0
noncomputable def others(s:Vbbrah.State)(e:Entry):List Entry:=(Vbbrah.groupOf s e.group).filter fun f=>f.table != e.table
noncomputable def grownR(s:Vbbrah.State)(e:Entry):Rat:=
 (sumR ((others s e).map fun f=>overR e.result f.result)+1)*mkRat s.length ((others s e).length+1)+-1
noncomputable def mpR(s:Vbbrah.State)(e:Entry):Rat×Rat:=
 if Vbbrah.isReal e=true then(grownR s e,(Vbbrah.top s:Rat)+-grownR s e)else(mkRat (e.ns*Vbbrah.top s:Nat) 100,mkRat (e.ew*Vbbrah.top s:Nat) 100)
theorem map_congr'{α β:Type}{f g:α→β}:∀{l:List α},(∀a∈l,f a=g a)→l.map f=l.map g:=fun h=>List.map_congr_left h
theorem points_eq{s:Vbbrah.State}{e:Entry}(hw:Wt s)(he:e∈s):Vbbrah.points s e=(canon (mpR s e).1,canon (mpR s e).2):=by
 unfold Vbbrah.points mpR
 by_cases hr:Vbbrah.isReal e=true
 ·rw[if_pos hr,if_pos hr]
  have hwe:=hw e he hr
  have h1:Vbbrah.within_ s e e.result=canon (sumR ((others s e).map fun f=>overR e.result f.result)):=by
   unfold Vbbrah.within_
   rw[←sumFr_eq,List.map_map]
   refine congrArg Vbbrah.sumFr (map_congr' fun f hf=>?_)
   have hf1:=(List.mem_filter.mp (List.mem_filter.mp hf).1)
   have hf2:Vbbrah.isReal f=true:=(Bool.and_eq_true_iff.mp hf1.2).1
   exact over_eq hwe (hw f hf1.1 hf2)
  have h2:Vbbrah.grown s e e.result=canon (grownR s e):=by
   unfold Vbbrah.grown grownR
   rw[h1]
   show Vbbrah.plus (Vbbrah.times (Vbbrah.plus (canon _) (1,1)) (Int.ofNat s.length,(others s e).length+1)) (-1,1)=_
   have e1:((1,1):Fr)=canon 1:=rfl
   have e2:((-1,1):Fr)=canon (-1):=rfl
   rw[e1,e2,plus_canon,times_eq (canon_pos _) (Nat.succ_ne_zero _),val_canon,plus_canon]
   rfl
  show(Vbbrah.grown s e e.result,Vbbrah.plus (Int.ofNat (Vbbrah.top s),1) (Vbbrah.neg (Vbbrah.grown s e e.result)))=_
  rw[h2,neg_canon]
  have e3:((Int.ofNat (Vbbrah.top s),1):Fr)=canon (Vbbrah.top s:Rat):=rfl
  rw[e3,plus_canon]
 ·rw[if_neg hr,if_neg hr]
  show(Vbbrah.lowest _,Vbbrah.lowest _)=_
  rw[lowest_eq (show(100:Nat)≠0 by decide),lowest_eq (show(100:Nat)≠0 by decide)]
  rfl
noncomputable def broR(s:Vbbraj.State)(b:Nat)(l:Vbbrah.State):List (Nat×Rat):=l.flatMap fun e=>[(e.table,(mpR l e).1),(Vbbraj.against s b e.table,(mpR l e).2)]
noncomputable def cn(x:Nat×Rat):Nat×Fr:=(x.1,canon x.2)
theorem brought_eq{s:Vbbraj.State}{b:Nat}{l:Vbbrah.State}(hw:Wt l):Vbbraj.brought s b l=(broR s b l).map cn:=by
 unfold Vbbraj.brought broR
 have gen:∀(m:Vbbrah.State),(∀e∈m,e∈l)→(m.flatMap fun e=>[(e.table,(Vbbrah.points l e).1),(Vbbraj.against s b e.table,(Vbbrah.points l e).2)])=(m.flatMap fun e=>[(e.table,(mpR l e).1),(Vbbraj.against s b e.table,(mpR l e).2)]).map cn:=by
  intro m
  induction m with
  |nil=>intro _;rfl
  |cons e m ih=>
   intro h
   rw[List.flatMap_cons,List.flatMap_cons,List.map_append,ih fun x hx=>h x (List.mem_cons_of_mem _ hx),points_eq hw (h e List.mem_cons_self)]
   rfl
 exact gen l fun _ h=>h
noncomputable def brings(p:Nat)(L:List (Nat×Rat)):Rat:=sumR ((L.filter fun x=>x.1==p).map (·.2))
theorem brings_nil(p:Nat):brings p []=0:=rfl
theorem brings_cons(p:Nat)(x:Nat×Rat)(L:List (Nat×Rat)):brings p (x::L)=(if x.1=p then x.2 else 0)+brings p L:=by
 unfold brings
 rw[List.filter_cons]
 by_cases h:x.1=p
 ·rw[if_pos (by simpa using h),if_pos h];rfl
 ·rw[if_neg (by simpa using h),if_neg h,Rat.zero_add]
noncomputable def addAllR(L:List (Nat×Rat))(qs:List Rat):List Rat:=L.foldl (fun a x=>a.modify (x.1-1) (· + x.2)) qs
theorem modify_map{α β:Type}{c:α→β}{f:α→α}{g:β→β}(h:∀a,g (c a)=c (f a)):∀(l:List α) (k:Nat),(l.map c).modify k g=(l.modify k f).map c
 |[],k=>by simp
 |a::l,0=>by simp[List.modify_zero_cons,h]
 |a::l,k+1=>by simp[List.modify_succ_cons,modify_map h l k]
theorem addAll_eq(L:List (Nat×Rat))(qs:List Rat):(L.map cn).foldl (fun a x=>Vbbraj.addAt a (x.1-1) x.2) (qs.map canon)=(addAllR L qs).map canon:=by
 unfold addAllR
 induction L generalizing qs with
 |nil=>rfl
 |cons x L ih=>
  rw[List.map_cons,List.foldl_cons,List.foldl_cons]
  have e:Vbbraj.addAt (qs.map canon) ((cn x).1-1) (cn x).2=(qs.modify (x.1-1) (· + x.2)).map canon:=by
   unfold Vbbraj.addAt
   exact modify_map (fun a=>plus_canon a x.2) qs _
  rw[e,ih]
theorem addAll_len(L:List (Nat×Rat))(qs:List Rat):(addAllR L qs).length=qs.length:=by
 unfold addAllR
 induction L generalizing qs with
 |nil=>rfl
 |cons x L ih=>rw[List.foldl_cons,ih,List.length_modify]
theorem addAll_get(L:List (Nat×Rat))(h1:∀x∈L,1≤x.1)(qs:List Rat)(k:Nat):(addAllR L qs)[k]?=qs[k]?.map (· + brings (k+1) L):=by
 unfold addAllR
 induction L generalizing qs with
 |nil=>
  rw[brings_nil]
  show qs[k]?=_
  cases qs[k]? with
  |none=>rfl
  |some q=>simp[Rat.add_zero]
 |cons x L ih=>
  rw[List.foldl_cons,ih (fun y hy=>h1 y (List.mem_cons_of_mem _ hy)),brings_cons,List.getElem?_modify]
  have hx:=h1 x List.mem_cons_self
  by_cases h:x.1=k+1
  ·rw[if_pos h]
   have e:x.1-1=k:=by omega
   rw[e]
   cases qs[k]? with
   |none=>simp
   |some q=>simp[Rat.add_assoc]
  ·rw[if_neg h]
   have e:¬x.1-1=k:=by omega
   cases qs[k]? with
   |none=>simp
   |some q=>simp[Rat.zero_add,e]
noncomputable def totR(s:Vbbraj.State)(p:Nat):Rat:=sumR ((List.range s.boards).map fun b=>brings p (broR s (b+1) (Vbbraj.sheet s (b+1))))
noncomputable def brTop(s:Vbbraj.State)(p b:Nat)(l:Vbbrah.State):Nat:=((broR s b l).filter fun x=>x.1==p).length*Vbbrah.top l
noncomputable def totT(s:Vbbraj.State)(p:Nat):Nat:=((List.range s.boards).map fun b=>brTop s p (b+1) (Vbbraj.sheet s (b+1))).sum
structure TInv(s:Vbbraj.State):Prop where
 pts:s.points=((List.range s.pairs).map fun k=>totR s (k+1)).map canon
 tps:s.tops=(List.range s.pairs).map fun k=>totT s (k+1)
theorem sumR_upd{f g:Nat→Rat}{b:Nat}(h:∀c,c≠b→g c=f c):∀n,sumR ((List.range n).map g)=sumR ((List.range n).map f)+(if b<n then g b-f b else 0)
 |0=>by simp[sumR,Rat.zero_add]
 |n+1=>by
  rw[List.range_succ,List.map_append,List.map_append,sumR_append,sumR_append,sumR_upd h n]
  simp only[List.map_cons,List.map_nil,sumR,List.foldr_cons,List.foldr_nil,Rat.add_zero]
  by_cases e:b=n
  ·subst e
   rw[if_neg (Nat.lt_irrefl _),if_pos (Nat.lt_succ_self _)]
   grind
  ·rw[h n (Ne.symm e)]
   by_cases q:b<n
   ·rw[if_pos q,if_pos (by omega)];grind
   ·rw[if_neg q,if_neg (by omega)];grind
theorem sumN_upd{f g:Nat→Nat}{b:Nat}(h:∀c,c≠b→g c=f c):∀n,b<n→((List.range n).map g).sum+f b=((List.range n).map f).sum+g b
 |0=>fun hb=>by omega
 |n+1=>fun hb=>by
  rw[List.range_succ,List.map_append,List.map_append,List.sum_append,List.sum_append]
  simp only[List.map_cons,List.map_nil,List.sum_cons,List.sum_nil]
  by_cases e:b=n
  ·subst e
   have:((List.range b).map g)=((List.range b).map f):=List.map_congr_left fun c hc=>h c (by have:=List.mem_range.mp hc;omega)
   rw[this];omega
  ·have:=sumN_upd h n (by omega)
   rw[h n (Ne.symm e)];omega
structure OkS(s:Vbbraj.State)(b:Nat)(l:Vbbrah.State):Prop where
 wt:Wt l
 pos:∀e∈l,1≤e.table∧1≤Vbbraj.against s b e.table
theorem OkS.one{s:Vbbraj.State}{b:Nat}{l:Vbbrah.State}(h:OkS s b l):∀x∈broR s b l,1≤x.1:=fun x hx=>by
 unfold broR at hx
 obtain⟨e,he,hx⟩:=List.mem_flatMap.mp hx
 have:=h.pos e he
 rcases List.mem_cons.mp hx with rfl|hx
 ·exact this.1
 ·rcases List.mem_cons.mp hx with rfl|hx
  ·exact this.2
  ·cases hx
noncomputable def ng(x:Nat×Rat):Nat×Rat:=(x.1,-x.2)
theorem brings_ng(p:Nat)(L:List (Nat×Rat)):brings p (L.map ng)=-brings p L:=by
 induction L with
 |nil=>rfl
 |cons x L ih=>
  rw[List.map_cons,brings_cons,brings_cons,ih]
  show(if x.1=p then -x.2 else 0)+_=_
  split<;>grind
theorem sub_all(L:List (Nat×Rat))(qs:List Rat):(L.map cn).foldl (fun a x=>Vbbraj.addAt a (x.1-1) (Vbbrah.neg x.2)) (qs.map canon)=(addAllR (L.map ng) qs).map canon:=by
 rw[←addAll_eq,List.foldl_map,List.foldl_map,List.foldl_map]
 rfl
noncomputable def cnt(p:Nat)(L:List (Nat×Rat)):Nat:=(L.filter fun x=>x.1==p).length
theorem cnt_cons(p:Nat)(x:Nat×Rat)(L:List (Nat×Rat)):cnt p (x::L)=(if x.1=p then 1 else 0)+cnt p L:=by
 unfold cnt
 rw[List.filter_cons]
 by_cases h:x.1=p
 ·rw[if_pos (by simpa using h),if_pos h,List.length_cons];omega
 ·rw[if_neg (by simpa using h),if_neg h];omega
theorem addTop_get(n:Nat)(L:List (Nat×Rat))(h1:∀x∈L,1≤x.1)(ts:List Nat)(k:Nat):((L.map cn).foldl (fun a x=>Vbbraj.addTop a (x.1-1) n) ts)[k]?=ts[k]?.map (· + cnt (k+1) L*n):=by
 induction L generalizing ts with
 |nil=>simp[cnt]
 |cons x L ih=>
  rw[List.map_cons,List.foldl_cons,ih (fun y hy=>h1 y (List.mem_cons_of_mem _ hy)),cnt_cons]
  unfold Vbbraj.addTop
  rw[List.getElem?_modify]
  have hx:=h1 x List.mem_cons_self
  show Option.map _ ((fun a=>if x.1-1=k then a+n else a) <$> ts[k]?)=_
  by_cases h:x.1=k+1
  ·have e:x.1-1=k:=by omega
   cases ts[k]? with
   |none=>simp
   |some q=>simp[e,h,Nat.add_mul];omega
  ·have e:¬x.1-1=k:=by omega
   cases ts[k]? with
   |none=>simp
   |some q=>simp[e,h]
theorem subTop_get(n:Nat)(L:List (Nat×Rat))(h1:∀x∈L,1≤x.1)(ts:List Nat)(k:Nat):((L.map cn).foldl (fun a x=>Vbbraj.subTop a (x.1-1) n) ts)[k]?=ts[k]?.map (· - cnt (k+1) L*n):=by
 induction L generalizing ts with
 |nil=>simp[cnt]
 |cons x L ih=>
  rw[List.map_cons,List.foldl_cons,ih (fun y hy=>h1 y (List.mem_cons_of_mem _ hy)),cnt_cons]
  unfold Vbbraj.subTop
  rw[List.getElem?_modify]
  have hx:=h1 x List.mem_cons_self
  show Option.map _ ((fun a=>if x.1-1=k then a-n else a) <$> ts[k]?)=_
  by_cases h:x.1=k+1
  ·have e:x.1-1=k:=by omega
   cases ts[k]? with
   |none=>simp
   |some q=>simp[e,h,Nat.add_mul];omega
  ·have e:¬x.1-1=k:=by omega
   cases ts[k]? with
   |none=>simp
   |some q=>simp[e,h]
theorem sheet_put{s:Vbbraj.State}{b:Nat}{l:Vbbrah.State}(hb:1≤b)(hb2:b≤s.boards)(hl:s.sheets.length=s.boards)(c:Nat):Vbbraj.sheet (Vbbraj.putSheet s b l) c=if c=b then l else Vbbraj.sheet s c:=by
 unfold Vbbraj.sheet Vbbraj.putSheet
 by_cases h0:c=0
 ·rw[if_pos h0,if_pos h0,if_neg (by omega)]
 ·rw[if_neg h0,if_neg h0]
  show(s.sheets.set (b-1) l).getD (c-1) []=_
  rw[List.getD_eq_getElem?_getD,List.getElem?_set]
  by_cases h:c=b
  ·subst h
   rw[if_pos rfl,if_pos rfl,if_pos (by omega)];rfl
  ·rw[if_neg (by omega),if_neg h,List.getD_eq_getElem?_getD]
theorem against_put(s:Vbbraj.State)(b:Nat)(l:Vbbrah.State)(c ns:Nat):Vbbraj.against (Vbbraj.putSheet s b l) c ns=Vbbraj.against s c ns:=rfl
theorem broR_put(s:Vbbraj.State)(b:Nat)(l:Vbbrah.State)(c:Nat)(m:Vbbrah.State):broR (Vbbraj.putSheet s b l) c m=broR s c m:=rfl
theorem totR_put{s:Vbbraj.State}{b:Nat}{l:Vbbrah.State}(hb:1≤b)(hb2:b≤s.boards)(hl:s.sheets.length=s.boards)(p:Nat):
  totR (Vbbraj.putSheet s b l) p=totR s p+(brings p (broR s b l)-brings p (broR s b (Vbbraj.sheet s b))):=by
 unfold totR
 have h:=sumR_upd (f:=fun c=>brings p (broR s (c+1) (Vbbraj.sheet s (c+1)))) (g:=fun c=>brings p (broR (Vbbraj.putSheet s b l) (c+1) (Vbbraj.sheet (Vbbraj.putSheet s b l) (c+1)))) (b:=b-1)
  (fun c hc=>by simp only[broR_put,sheet_put hb hb2 hl];rw[if_neg (by omega)]) s.boards
 have e:b-1+1=b:=by omega
 rw[if_pos (by omega)]at h
 simp only[broR_put,sheet_put hb hb2 hl,e,if_true]at h
 simp only[broR_put,sheet_put hb hb2 hl]
 exact h
theorem totT_put{s:Vbbraj.State}{b:Nat}{l:Vbbrah.State}(hb:1≤b)(hb2:b≤s.boards)(hl:s.sheets.length=s.boards)(p:Nat):
  totT (Vbbraj.putSheet s b l) p+brTop s p b (Vbbraj.sheet s b)=totT s p+brTop s p b l:=by
 unfold totT
 have h:=sumN_upd (f:=fun c=>brTop s p (c+1) (Vbbraj.sheet s (c+1))) (g:=fun c=>brTop (Vbbraj.putSheet s b l) p (c+1) (Vbbraj.sheet (Vbbraj.putSheet s b l) (c+1))) (b:=b-1)
  (fun c hc=>by simp only[brTop,broR_put,sheet_put hb hb2 hl];rw[if_neg (by omega)]) s.boards (by omega)
 have e:b-1+1=b:=by omega
 simp only[brTop,broR_put,sheet_put hb hb2 hl,e,if_true]at h ⊢
 exact h
theorem totT_ge{s:Vbbraj.State}{b:Nat}(hb:1≤b)(hb2:b≤s.boards)(p:Nat):brTop s p b (Vbbraj.sheet s b)≤totT s p:=by
 unfold totT
 have gen:∀(f:Nat→Nat) (n k:Nat),k<n→f k≤((List.range n).map f).sum:=by
  intro f n
  induction n with
  |zero=>intro k hk;omega
  |succ n ih=>
   intro k hk
   rw[List.range_succ,List.map_append,List.sum_append]
   simp only[List.map_cons,List.map_nil,List.sum_cons,List.sum_nil]
   by_cases e:k=n
   ·subst e;omega
   ·have:=ih k (by omega);omega
 have:=gen (fun c=>brTop s p (c+1) (Vbbraj.sheet s (c+1))) s.boards (b-1) (by omega)
 have e:b-1+1=b:=by omega
 rw[e]at this
 exact this
theorem putSheet_T{s:Vbbraj.State}{b:Nat}{l:Vbbrah.State}(T:TInv s)(hb:1≤b)(hb2:b≤s.boards)(hl:s.sheets.length=s.boards)(ho:OkS s b (Vbbraj.sheet s b))(hn:OkS s b l):TInv (Vbbraj.putSheet s b l):=by
 constructor
 ·show(Vbbraj.brought s b l).foldl (fun a x=>Vbbraj.addAt a (x.1-1) x.2) ((Vbbraj.brought s b (Vbbraj.sheet s b)).foldl (fun a x=>Vbbraj.addAt a (x.1-1) (Vbbrah.neg x.2)) s.points)=_
  rw[brought_eq hn.wt,brought_eq ho.wt,T.pts,sub_all,addAll_eq]
  refine congrArg (List.map canon) (List.ext_getElem? fun k=>?_)
  rw[addAll_get _ hn.one,addAll_get _ (fun x hx=>by obtain⟨y,hy,rfl⟩:=List.mem_map.mp hx;exact ho.one y hy),brings_ng]
  show Option.map _ (Option.map _ ((List.range s.pairs).map _)[k]?)=((List.range s.pairs).map _)[k]?
  rw[List.getElem?_map,List.getElem?_map]
  cases hj:(List.range s.pairs)[k]? with
  |none=>rfl
  |some j=>
   obtain⟨h1,h2⟩:=List.getElem?_eq_some_iff.mp hj
   rw[List.getElem_range]at h2
   subst h2
   simp only[Option.map_some,Option.some.injEq]
   rw[totR_put hb hb2 hl]
   grind
 ·show(Vbbraj.brought s b l).foldl (fun a x=>Vbbraj.addTop a (x.1-1) (Vbbrah.top l)) ((Vbbraj.brought s b (Vbbraj.sheet s b)).foldl (fun a x=>Vbbraj.subTop a (x.1-1) (Vbbrah.top (Vbbraj.sheet s b))) s.tops)=_
  rw[brought_eq hn.wt,brought_eq ho.wt,T.tps]
  refine List.ext_getElem? fun k=>?_
  rw[addTop_get _ _ hn.one,subTop_get _ _ ho.one]
  show Option.map _ (Option.map _ ((List.range s.pairs).map _)[k]?)=((List.range s.pairs).map _)[k]?
  rw[List.getElem?_map,List.getElem?_map]
  cases hj:(List.range s.pairs)[k]? with
  |none=>rfl
  |some j=>
   obtain⟨h1,h2⟩:=List.getElem?_eq_some_iff.mp hj
   rw[List.getElem_range]at h2
   subst h2
   simp only[Option.map_some,Option.some.injEq]
   have e1:=totT_put (l:=l) hb hb2 hl (k+1)
   have e2:=totT_ge hb hb2 (k+1) (s:=s)
   unfold brTop at e1 e2
   unfold cnt
   omega
end Mth
end
section
namespace Mth
open Vbbrah (Fr Entry Result)
noncomputable def adjR(s:Vbbraj.State)(p:Nat):Rat:=mkRat (s.adjusted.getD (p-1) 0) 100
noncomputable def ptsR(s:Vbbraj.State)(p:Nat):Rat:=totR s p+adjR s p
theorem total_eq{s:Vbbraj.State}(T:TInv s){p:Nat}(h1:1≤p)(h2:p≤s.pairs):Vbbraj.total s p=canon (ptsR s p):=by
 unfold Vbbraj.total
 have e:s.points.getD (p-1) (0,1)=canon (totR s p):=by
  rw[T.pts,List.getD_eq_getElem?_getD,List.getElem?_map,List.getElem?_map,List.getElem?_range (by omega)]
  simp only[Option.map_some,Option.getD_some]
  rw[show p-1+1=p by omega]
 rw[e,lowest_eq (show(100:Nat)≠0 by decide),plus_canon]
 rfl
theorem topOf_eq{s:Vbbraj.State}(T:TInv s){p:Nat}(h1:1≤p)(h2:p≤s.pairs):Vbbraj.topOf s p=totT s p:=by
 unfold Vbbraj.topOf
 rw[T.tps,List.getD_eq_getElem?_getD,List.getElem?_map,List.getElem?_range (by omega)]
 simp only[Option.map_some,Option.getD_some]
 rw[show p-1+1=p by omega]
theorem frac_canon(q:Rat):Vbbrah.frac (canon q)=[q.num,(q.den:Int)]:=by
 unfold Vbbrah.frac
 rw[lowest_canon]
 rfl
noncomputable def shr(s:Vbbraj.State)(p:Nat):Rat:=ptsR s p / (totT s p:Rat)
theorem cast_pos{n:Nat}(h:0<n):(0:Rat)<(n:Rat):=by
 have:=Rat.natCast_lt_natCast.mpr h
 simpa using this
theorem num_eq(a:Rat):(a.num:Rat)=a*(a.den:Rat):=by
 have h:(a.den:Rat)≠0:=by
  have:=cast_pos a.den_pos
  intro e
  rw[e]at this
  exact Rat.lt_irrefl this
 have e:a=(a.num:Rat) / (a.den:Rat):=by
  conv=>lhs;rw[←Rat.mkRat_self a]
  rw[Rat.mkRat_eq_div]
 grind
theorem cross(a b:Rat){A B:Nat}(hA:0<A)(hB:0<B):b.num*(a.den:Int)*(A:Int)<a.num*(b.den:Int)*(B:Int)↔b / (B:Rat)<a / (A:Rat):=by
 have hA':=cast_pos hA
 have hB':=cast_pos hB
 have ha:=cast_pos a.den_pos
 have hb:=cast_pos b.den_pos
 rw[←Rat.intCast_lt_intCast]
 simp only[Rat.intCast_mul,Rat.intCast_natCast,num_eq]
 rw[Rat.div_lt_iff hB',show a / (A:Rat)*(B:Rat)=(a*(B:Rat)) / (A:Rat) by grind,Rat.lt_div_iff hA']
 have hp:(0:Rat)<(a.den:Rat)*(b.den:Rat):=Rat.mul_pos ha hb
 have e1:b*(b.den:Rat)*(a.den:Rat)*(A:Rat)=(b*(A:Rat))*((a.den:Rat)*(b.den:Rat)):=by grind
 have e2:a*(a.den:Rat)*(b.den:Rat)*(B:Rat)=(a*(B:Rat))*((a.den:Rat)*(b.den:Rat)):=by grind
 rw[e1,e2]
 exact Rat.mul_lt_mul_right hp
theorem ahead_eq{s:Vbbraj.State}(T:TInv s){p q:Nat}(p1:1≤p)(p2:p≤s.pairs)(q1:1≤q)(q2:q≤s.pairs)(hp:0<totT s p)(hq:0<totT s q):
  Vbbraj.ahead s p q=decide (shr s q<shr s p):=by
 unfold Vbbraj.ahead shr
 rw[total_eq T p1 p2,total_eq T q1 q2,topOf_eq T p1 p2,topOf_eq T q1 q2]
 exact decide_eq_decide.mpr (cross (ptsR s p) (ptsR s q) hp hq)
theorem percent_eq{s:Vbbraj.State}(T:TInv s){p:Nat}(p1:1≤p)(p2:p≤s.pairs)(hp:0<totT s p):Vbbraj.percent s p=(shr s p*10000+mkRat 1 2).floor:=by
 unfold Vbbraj.percent
 rw[total_eq T p1 p2,topOf_eq T p1 p2]
 show(2*(ptsR s p).num*10000+((ptsR s p).den:Int)*(totT s p:Int)) / (2*(((ptsR s p).den:Int)*(totT s p:Int)))=_
 unfold shr
 generalize ptsR s p=a
 generalize totT s p=A at hp
 have hA':=cast_pos hp
 have ha:=cast_pos a.den_pos
 have hd:(0:Int)<2*((a.den:Int)*(A:Int)):=by
  have:(0:Int)<(a.den:Int)*(A:Int):=Int.mul_pos (by have:=a.den_pos;omega) (by omega)
  omega
 have key:∀k:Int,k≤(2*a.num*10000+(a.den:Int)*(A:Int)) / (2*((a.den:Int)*(A:Int)))↔k≤(a / (A:Rat)*10000+mkRat 1 2).floor:=fun k=>by
  rw[Int.le_ediv_iff_mul_le hd,Rat.le_floor_iff,←Rat.intCast_le_intCast]
  simp only[Rat.intCast_mul,Rat.intCast_add,Rat.intCast_natCast,num_eq]
  have h2:mkRat 1 2=(1:Rat) / 2:=by rw[Rat.mkRat_eq_div];rfl
  rw[h2]
  have hp:(0:Rat)<(a.den:Rat)*(A:Rat):=Rat.mul_pos ha hA'
  have e0:((2:Int):Rat)=2:=rfl
  have e0':((10000:Int):Rat)=10000:=rfl
  rw[e0,e0']
  have e1:(k:Rat)*(2*((a.den:Rat)*(A:Rat)))=(2*(k:Rat))*((a.den:Rat)*(A:Rat)):=by grind
  have hA0:(A:Rat)≠0:=by grind
  have e2:2*(a*(a.den:Rat))*10000+(a.den:Rat)*(A:Rat)=(2*(a / (A:Rat))*10000+1)*((a.den:Rat)*(A:Rat)):=by grind
  rw[e1,e2,←Rat.not_lt,Rat.mul_lt_mul_right hp,Rat.not_lt]
  constructor<;>intro h<;>grind
 have h1:=(key _).mp (Int.le_refl _)
 have h2:=(key _).mpr (Int.le_refl _)
 omega
noncomputable def bef(s:Vbbraj.State)(p q:Nat):Prop:=shr s q<shr s p∨(shr s p=shr s q∧p<q)
noncomputable def inS(s:Vbbraj.State)(p:Nat):Prop:=1≤p∧p≤s.pairs∧0<totT s p
theorem lt_asymm'{a b:Rat}(h:a<b):¬b<a:=fun h'=>by grind
theorem bef_trans{s:Vbbraj.State}{p q r:Nat}(h:bef s p q)(h':bef s q r):bef s p r:=by
 unfold bef at *
 rcases h with h|⟨h,k⟩<;>rcases h' with h'|⟨h',k'⟩
 ·left;grind
 ·left;rw[←h'];exact h
 ·left;rw[h];exact h'
 ·right;exact⟨h.trans h',by omega⟩
theorem bef_irrefl{s:Vbbraj.State}{p:Nat}:¬bef s p p:=by
 unfold bef
 rintro(h|⟨_,h⟩)
 ·exact Rat.lt_irrefl h
 ·omega
theorem bef_total{s:Vbbraj.State}{p q:Nat}(h:p≠q):bef s p q∨bef s q p:=by
 unfold bef
 by_cases h1:shr s q<shr s p
 ·exact .inl (.inl h1)
 ·by_cases h2:shr s p<shr s q
  ·exact .inr (.inl h2)
  ·have e:shr s p=shr s q:=by grind
   rcases Nat.lt_or_gt_of_ne h with k|k
   ·exact .inl (.inr ⟨e,k⟩)
   ·exact .inr (.inr ⟨e.symm,k⟩)
theorem ins_cond{s:Vbbraj.State}(T:TInv s){p q:Nat}(hp:inS s p)(hq:inS s q):(Vbbraj.ahead s p q=true∨(Vbbraj.level s p q=true∧p<q))↔bef s p q:=by
 unfold Vbbraj.level bef
 rw[ahead_eq T hp.1 hp.2.1 hq.1 hq.2.1 hp.2.2 hq.2.2,ahead_eq T hq.1 hq.2.1 hp.1 hp.2.1 hq.2.2 hp.2.2]
 simp only[decide_eq_true_eq,Bool.and_eq_true,Bool.not_eq_true',decide_eq_false_iff_not]
 constructor
 ·rintro(h|⟨⟨h1,h2⟩,h3⟩)
  ·exact .inl h
  ·exact .inr ⟨by grind,h3⟩
 ·rintro(h|⟨h1,h2⟩)
  ·exact .inl h
  ·refine .inr ⟨⟨?_,?_⟩,h2⟩
   ·rw[h1];exact Rat.lt_irrefl
   ·rw[h1];exact Rat.lt_irrefl
theorem insert_perm(s:Vbbraj.State)(p:Nat):∀l:List Nat,(Vbbraj.insertP s p l).Perm (p::l)
 |[]=>List.Perm.refl _
 |q::r=>by
  unfold Vbbraj.insertP
  split
  ·exact List.Perm.refl _
  ·exact((insert_perm s p r).cons q).trans (List.Perm.swap p q r)
theorem insert_sorted{s:Vbbraj.State}(T:TInv s){p:Nat}(hp:inS s p):∀l:List Nat,(∀q∈l,inS s q∧q≠p)→l.Pairwise (bef s)→(Vbbraj.insertP s p l).Pairwise (bef s)
 |[],_,_=>List.pairwise_singleton _ _
 |q::r,hl,hs=>by
  have hq:=hl q List.mem_cons_self
  obtain⟨h1,h2⟩:=List.pairwise_cons.mp hs
  unfold Vbbraj.insertP
  split
  ·rename_i hc
   have hb:=(ins_cond T hp hq.1).mp hc
   refine List.pairwise_cons.mpr ⟨fun x hx=>?_,hs⟩
   rcases List.mem_cons.mp hx with rfl|hx
   ·exact hb
   ·exact bef_trans hb (h1 x hx)
  ·rename_i hc
   have hb:bef s q p:=by
    rcases bef_total (s:=s) hq.2 with h|h
    ·exact h
    ·exact absurd ((ins_cond T hp hq.1).mpr h) hc
   refine List.pairwise_cons.mpr ⟨fun x hx=>?_,insert_sorted T hp r (fun x hx=>hl x (List.mem_cons_of_mem _ hx)) h2⟩
   rcases List.mem_cons.mp ((insert_perm s p r).mem_iff.mp hx)with rfl|hx
   ·exact hb
   ·exact h1 x hx
noncomputable def inPairs(s:Vbbraj.State):List Nat:=((List.range s.pairs).map fun k=>k+1).filter fun p=>decide (0<Vbbraj.topOf s p)
theorem inPairs_in{s:Vbbraj.State}(T:TInv s):∀p∈inPairs s,inS s p:=fun p hp=>by
 obtain⟨h1,h2⟩:=List.mem_filter.mp hp
 obtain⟨k,hk,rfl⟩:=List.mem_map.mp h1
 have:=List.mem_range.mp hk
 refine⟨by omega,by omega,?_⟩
 rw[←topOf_eq T (by omega) (by omega)]
 exact of_decide_eq_true h2
theorem inPairs_nodup(s:Vbbraj.State):(inPairs s).Nodup:=by
 refine List.Pairwise.filter _ ?_
 exact List.pairwise_map.mpr (List.nodup_range.imp fun h=>by omega)
theorem foldr_ins{s:Vbbraj.State}(T:TInv s):∀l:List Nat,(∀p∈l,inS s p)→l.Nodup→(l.foldr (Vbbraj.insertP s) []).Perm l∧(l.foldr (Vbbraj.insertP s) []).Pairwise (bef s)
 |[],_,_=>⟨List.Perm.refl _,List.Pairwise.nil⟩
 |p::l,hl,hn=>by
  obtain⟨n1,n2⟩:=List.nodup_cons.mp hn
  obtain⟨h1,h2⟩:=foldr_ins T l (fun q hq=>hl q (List.mem_cons_of_mem _ hq)) n2
  rw[List.foldr_cons]
  refine⟨(insert_perm s p _).trans (h1.cons p),insert_sorted T (hl p List.mem_cons_self) _ (fun q hq=>?_) h2⟩
  have hq':=h1.mem_iff.mp hq
  exact⟨hl q (List.mem_cons_of_mem _ hq'),fun e=>n1 (e▸hq')⟩
theorem ranked_ok{s:Vbbraj.State}(T:TInv s):(Vbbraj.ranked s).Perm (inPairs s)∧(Vbbraj.ranked s).Pairwise (bef s):=foldr_ins T _ (inPairs_in T) (inPairs_nodup s)
theorem sorted_unique{s:Vbbraj.State}:∀{l m:List Nat},l.Perm m→l.Pairwise (bef s)→m.Pairwise (bef s)→l=m:=fun{l m} hp hl hm=>
 List.Perm.eq_of_pairwise (fun a b _ _ h1 h2=>absurd (bef_trans h1 h2) bef_irrefl) hl hm hp
theorem ranked_eq{s:Vbbraj.State}(T:TInv s){l:List Nat}(hp:l.Perm (inPairs s))(hl:l.Pairwise (bef s)):Vbbraj.ranked s=l:=
 sorted_unique ((ranked_ok T).1.trans hp.symm) (ranked_ok T).2 hl
end Mth
end
section
namespace Sti
open Vbbrah (Fr Entry Result)
open Vbbraj (Sitting State)
open Mth
noncomputable def Srt(l:Vbbrah.State):Prop:=l.Pairwise fun a b=>a.table<b.table
theorem mem_put{e x:Entry}:∀{l:Vbbrah.State},x∈Vbbrah.put e l→x=e∨x∈l
 |[],h=>by
  rcases List.mem_cons.mp h with rfl|h
  ·exact .inl rfl
  ·cases h
 |f::l,h=>by
  unfold Vbbrah.put at h
  split at h
  ·rcases List.mem_cons.mp h with rfl|h
   ·exact .inl rfl
   ·exact .inr h
  ·split at h
   ·rcases List.mem_cons.mp h with rfl|h
    ·exact .inl rfl
    ·exact .inr (List.mem_cons_of_mem _ h)
   ·rcases List.mem_cons.mp h with rfl|h
    ·exact .inr List.mem_cons_self
    ·rcases mem_put h with h|h
     ·exact .inl h
     ·exact .inr (List.mem_cons_of_mem _ h)
theorem put_srt{e:Entry}:∀{l:Vbbrah.State},Srt l→Srt (Vbbrah.put e l)
 |[],_=>List.pairwise_singleton _ _
 |f::l,h=>by
  obtain⟨h1,h2⟩:=List.pairwise_cons.mp h
  unfold Vbbrah.put
  split
  ·rename_i hc
   refine List.pairwise_cons.mpr ⟨fun x hx=>?_,h⟩
   rcases List.mem_cons.mp hx with rfl|hx
   ·exact hc
   ·have:=h1 x hx;omega
  ·split
   ·rename_i hc
    exact List.pairwise_cons.mpr ⟨fun x hx=>by have:=h1 x hx;omega,h2⟩
   ·refine List.pairwise_cons.mpr ⟨fun x hx=>?_,put_srt h2⟩
    rcases mem_put hx with rfl|hx
    ·omega
    ·exact h1 x hx
theorem entryOf_put{e:Entry}{t:Nat}:∀{l:Vbbrah.State},Srt l→Vbbrah.entryOf (Vbbrah.put e l) t=if t=e.table then some e else Vbbrah.entryOf l t
 |[],_=>by
  unfold Vbbrah.entryOf Vbbrah.put
  rw[List.find?_cons]
  by_cases h:t=e.table
  ·subst h;simp
  ·rw[if_neg h]
   have:(e.table==t)=false:=by simpa using fun q=>h q.symm
   rw[this]
 |f::l,hs=>by
  obtain⟨h1,h2⟩:=List.pairwise_cons.mp hs
  have ih:=entryOf_put (e:=e) (t:=t) h2
  unfold Vbbrah.put
  split
  ·unfold Vbbrah.entryOf
   rw[List.find?_cons]
   by_cases h:t=e.table
   ·subst h;simp
   ·rw[if_neg h]
    have:(e.table==t)=false:=by simpa using fun q=>h q.symm
    rw[this]
  ·split
   ·rename_i hc
    unfold Vbbrah.entryOf
    rw[List.find?_cons,List.find?_cons]
    by_cases h:t=e.table
    ·subst h;simp
    ·rw[if_neg h]
     have e1:(e.table==t)=false:=by simpa using fun q=>h q.symm
     have e2:(f.table==t)=false:=by rw[←hc];exact e1
     rw[e1,e2]
   ·rename_i hc1 hc2
    unfold Vbbrah.entryOf at ih ⊢
    rw[List.find?_cons,List.find?_cons,ih]
    by_cases h:f.table=t
    ·have e1:(f.table==t)=true:=by simpa using h
     simp only[e1]
     rw[if_neg (show ¬t=e.table by omega)]
    ·have e1:(f.table==t)=false:=by simpa using h
     rw[e1]
theorem entryOf_drop{n t:Nat}:∀(l:Vbbrah.State),Vbbrah.entryOf (l.filter fun e=>e.table != n) t=if t=n then none else Vbbrah.entryOf l t
 |[]=>by simp[Vbbrah.entryOf]
 |f::l=>by
  have ih:=entryOf_drop (n:=n) (t:=t) l
  rw[List.filter_cons]
  by_cases h:f.table=n
  ·rw[if_neg (by simpa using h),ih]
   by_cases q:t=n
   ·rw[if_pos q,if_pos q]
   ·rw[if_neg q,if_neg q]
    unfold Vbbrah.entryOf
    rw[List.find?_cons]
    have:(f.table==t)=false:=by simp;omega
    rw[this]
  ·rw[if_pos (by simpa using h)]
   unfold Vbbrah.entryOf at ih ⊢
   rw[List.find?_cons,List.find?_cons,ih]
   by_cases q:f.table=t
   ·have:(f.table==t)=true:=by simpa using q
    simp only[this]
    rw[if_neg (show ¬t=n by omega)]
   ·have:(f.table==t)=false:=by simpa using q
    rw[this]
theorem entryOf_some{l:Vbbrah.State}{t:Nat}{e:Entry}(h:Vbbrah.entryOf l t=some e):e∈l∧e.table=t:=
 ⟨List.mem_of_find?_eq_some h,by have:=List.find?_some h;simpa using this⟩
structure SitOk(s:State)(x:Sitting):Prop where
 r1:1≤x.round
 r2:x.round≤40
 t1:1≤x.table
 t2:x.table≤20
 n1:1≤x.ns
 n2:x.ns≤s.pairs
 e1:1≤x.ew
 e2:x.ew≤s.pairs
 ne:x.ns≠x.ew
 f1:1≤x.first
 c1:1≤x.count
 fc:x.first+x.count≤s.boards+1
structure Apart(x y:Sitting):Prop where
 rt:¬(x.round=y.round∧x.table=y.table)
 rp:x.round=y.round→¬(x.ns=y.ns∨x.ns=y.ew∨x.ew=y.ns∨x.ew=y.ew)
 bp:(x.ns=y.ns∨x.ns=y.ew∨x.ew=y.ns∨x.ew=y.ew)→∀b,¬(Vbbraj.hasBoard x b=true∧Vbbraj.hasBoard y b=true)
 mt:¬((x.ns=y.ns∧x.ew=y.ew)∨(x.ns=y.ew∧x.ew=y.ns))
theorem Apart.symm{x y:Sitting}(h:Apart x y):Apart y x:=
 ⟨fun q=>h.rt ⟨q.1.symm,q.2.symm⟩,fun q z=>h.rp q.symm (by omega),fun q b z=>h.bp (by omega) b ⟨z.2,z.1⟩,fun q=>h.mt (by omega)⟩
structure SInv(s:State):Prop where
 p1:2≤s.pairs
 p2:s.pairs≤40
 b1:1≤s.boards
 b2:s.boards≤40
 sl:s.sheets.length=s.boards
 al:s.adjusted.length=s.pairs
 so:∀x∈s.sittings,SitOk s x
 sa:s.sittings.Pairwise Apart
 sr:∀b,Srt (Vbbraj.sheet s b)
 si:∀b,∀e∈Vbbraj.sheet s b,∃x∈s.sittings,x.ns=e.table∧Vbbraj.hasBoard x b=true
 wt:∀b,Wt (Vbbraj.sheet s b)
 ti:TInv s
 an:s.appeals.Nodup
 ae:∀r t b,(r,t,b)∈s.appeals→∃x∈s.sittings,x.round=r∧x.table=t∧Vbbraj.hasBoard x b=true∧(Vbbrah.entryOf (Vbbraj.sheet s b) x.ns).isSome=true
 po:s.posted.length≤50
theorem apart_mem{s:State}(h:SInv s){x y:Sitting}(hx:x∈s.sittings)(hy:y∈s.sittings):x=y∨Apart x y:=by
 have gen:∀(l:List Sitting),l.Pairwise Apart→x∈l→y∈l→x=y∨Apart x y:=by
  intro l
  induction l with
  |nil=>intro _ hx;cases hx
  |cons z l ih=>
   intro hl hx hy
   obtain⟨h1,h2⟩:=List.pairwise_cons.mp hl
   rcases List.mem_cons.mp hx with rfl|hx'<;>rcases List.mem_cons.mp hy with rfl|hy'
   ·exact .inl rfl
   ·exact .inr (h1 y hy')
   ·exact .inr (h1 x hx').symm
   ·exact ih h2 hx' hy'
 exact gen _ h.sa hx hy
theorem one_rt{s:State}(h:SInv s){x y:Sitting}(hx:x∈s.sittings)(hy:y∈s.sittings)(r:x.round=y.round)(t:x.table=y.table):x=y:=by
 rcases apart_mem h hx hy with e|e
 ·exact e
 ·exact absurd ⟨r,t⟩ e.rt
theorem one_nb{s:State}(h:SInv s){x y:Sitting}{b:Nat}(hx:x∈s.sittings)(hy:y∈s.sittings)(n:x.ns=y.ns)(bx:Vbbraj.hasBoard x b=true)(bY:Vbbraj.hasBoard y b=true):x=y:=by
 rcases apart_mem h hx hy with e|e
 ·exact e
 ·exact absurd ⟨bx,bY⟩ (e.bp (.inl n) b)
theorem against_eq{s:State}(h:SInv s){x:Sitting}{b:Nat}(hx:x∈s.sittings)(bx:Vbbraj.hasBoard x b=true):Vbbraj.against s b x.ns=x.ew:=by
 unfold Vbbraj.against
 cases e:s.sittings.find? fun y=>y.ns==x.ns&&Vbbraj.hasBoard y b with
 |none=>
  have:=List.find?_eq_none.mp e x hx
  simp[bx]at this
 |some y=>
  have h1:=List.mem_of_find?_eq_some e
  have h2:=List.find?_some e
  simp only[Bool.and_eq_true,beq_iff_eq]at h2
  have:=one_nb h h1 hx h2.1 h2.2 bx
  subst this
  rfl
theorem sittingOf_eq{s:State}(h:SInv s){x:Sitting}(hx:x∈s.sittings):Vbbraj.sittingOf s x.round x.table=some x:=by
 unfold Vbbraj.sittingOf
 cases e:s.sittings.find? fun y=>y.round==x.round&&y.table==x.table with
 |none=>
  have:=List.find?_eq_none.mp e x hx
  simp at this
 |some y=>
  have h1:=List.mem_of_find?_eq_some e
  have h2:=List.find?_some e
  simp only[Bool.and_eq_true,beq_iff_eq]at h2
  rw[one_rt h h1 hx h2.1 h2.2]
theorem sittingOf_some{s:State}{r t:Nat}{x:Sitting}(h:Vbbraj.sittingOf s r t=some x):x∈s.sittings∧x.round=r∧x.table=t:=by
 have h1:=List.mem_of_find?_eq_some h
 have h2:=List.find?_some h
 simp only[Bool.and_eq_true,beq_iff_eq]at h2
 exact⟨h1,h2.1,h2.2⟩
theorem placeOf_some{s:State}{r t b:Nat}{x:Sitting}(h:Vbbraj.placeOf s r t b=some x):x∈s.sittings∧x.round=r∧x.table=t∧Vbbraj.hasBoard x b=true:=by
 unfold Vbbraj.placeOf at h
 cases e:Vbbraj.sittingOf s r t with
 |none=>rw[e]at h;cases h
 |some y=>
  rw[e]at h
  simp only[Option.bind_some]at h
  split at h
  ·rename_i hb
   cases h
   obtain⟨a,b',c⟩:=sittingOf_some e
   exact⟨a,b',c,hb⟩
  ·cases h
theorem hasBoard_iff{x:Sitting}{b:Nat}:Vbbraj.hasBoard x b=true↔x.first≤b∧b<x.first+x.count:=by
 unfold Vbbraj.hasBoard
 simp
theorem board_in{s:State}{x:Sitting}{b:Nat}(o:SitOk s x)(h:Vbbraj.hasBoard x b=true):1≤b∧b≤s.boards:=by
 have:=hasBoard_iff.mp h
 have:=o.f1
 have:=o.fc
 omega
theorem sheet_any{s:State}(h:¬(s.sheets.any fun l=>!l.isEmpty)=true)(b:Nat):Vbbraj.sheet s b=[]:=by
 unfold Vbbraj.sheet
 split
 ·rfl
 ·rw[List.getD_eq_getElem?_getD]
  cases e:s.sheets[b-1]? with
  |none=>rfl
  |some l=>
   have hm:=List.mem_of_getElem? e
   cases l with
   |nil=>rfl
   |cons a r=>exact absurd (List.any_eq_true.mpr ⟨_,hm,rfl⟩) h
theorem totR_empty{s:State}(h:∀b,Vbbraj.sheet s b=[])(p:Nat):totR s p=0:=by
 unfold totR
 have:((List.range s.boards).map fun b=>brings p (broR s (b+1) (Vbbraj.sheet s (b+1))))=(List.range s.boards).map fun _=>(0:Rat):=List.map_congr_left fun b _=>by rw[h];rfl
 rw[this]
 generalize List.range s.boards=l
 induction l with
 |nil=>rfl
 |cons a l ih=>simp only[List.map_cons,sumR,List.foldr_cons]at ih ⊢;rw[ih,Rat.zero_add]
theorem totT_empty{s:State}(h:∀b,Vbbraj.sheet s b=[])(p:Nat):totT s p=0:=by
 unfold totT
 have:((List.range s.boards).map fun b=>brTop s p (b+1) (Vbbraj.sheet s (b+1)))=(List.range s.boards).map fun _=>0:=List.map_congr_left fun b _=>by rw[h];rfl
 rw[this]
 generalize List.range s.boards=l
 induction l with
 |nil=>rfl
 |cons a l ih=>simp only[List.map_cons,List.sum_cons,ih]
theorem sheet_begun(n b c:Nat):Vbbraj.sheet (Vbbraj.begun n b) c=[]:=by
 unfold Vbbraj.sheet
 split
 ·rfl
 ·show(List.replicate b []).getD (c-1) []=[]
  rw[List.getD_eq_getElem?_getD,List.getElem?_replicate]
  split<;>rfl
theorem begun_inv{n b:Nat}(h1:2≤n)(h2:n≤40)(h3:1≤b)(h4:b≤40):SInv (Vbbraj.begun n b):=by
 have hs:=sheet_begun n b
 refine⟨h1,h2,h3,h4,List.length_replicate,List.length_replicate,fun x hx=>(by cases hx),List.Pairwise.nil,fun c=>(by rw[hs];exact List.Pairwise.nil),fun c e he=>(by rw[hs]at he;cases he),fun c e he=>(by rw[hs]at he;cases he),
  ⟨?_,?_⟩,List.nodup_nil,fun r t c hc=>(by cases hc),Nat.zero_le _⟩
 ·show List.replicate n ((0,1):Fr)=_
  have:((List.range n).map fun k=>totR (Vbbraj.begun n b) (k+1))=(List.range n).map fun _=>(0:Rat):=List.map_congr_left fun k _=>totR_empty hs _
  show _=((List.range n).map fun k=>totR (Vbbraj.begun n b) (k+1)).map canon
  rw[this,List.map_map]
  refine(List.eq_replicate_iff.mpr ⟨by simp,fun q hq=>?_⟩).symm
  obtain⟨_,_,rfl⟩:=List.mem_map.mp hq
  rfl
 ·show List.replicate n 0=(List.range n).map fun k=>totT (Vbbraj.begun n b) (k+1)
  refine(List.eq_replicate_iff.mpr ⟨by simp,fun q hq=>?_⟩).symm
  obtain⟨_,_,rfl⟩:=List.mem_map.mp hq
  exact totT_empty hs _
theorem resit{s:State}{l:List Sitting}(h:SInv s)(he:∀b,Vbbraj.sheet s b=[])(ho:∀x∈l,SitOk s x)(ha:l.Pairwise Apart):SInv { s with sittings:=l }:=by
 have he':∀b,Vbbraj.sheet { s with sittings:=l } b=[]:=he
 refine⟨h.p1,h.p2,h.b1,h.b2,h.sl,h.al,fun x hx=>?_,ha,fun b=>(by rw[he'];exact List.Pairwise.nil),fun b e hb=>(by rw[he']at hb;cases hb),fun b e hb=>(by rw[he']at hb;cases hb),⟨?_,?_⟩,h.an,fun r t b hb=>?_,h.po⟩
 ·obtain⟨a,b,c,d,e,f,g,i,j,k,m,n⟩:=ho x hx
  exact⟨a,b,c,d,e,f,g,i,j,k,m,n⟩
 ·have q:=h.ti.pts
  simp only[totR_empty he]at q
  simp only[totR_empty he']
  exact q
 ·have q:=h.ti.tps
  simp only[totT_empty he]at q
  simp only[totT_empty he']
  exact q
 ·obtain⟨x,_,_,_,_,q⟩:=h.ae r t b hb
  rw[he]at q
  cases q
theorem put_inv{s:State}{b:Nat}{l:Vbbrah.State}(h:SInv s)(hb:1≤b)(hb2:b≤s.boards)(hs:Srt l)(hi:∀e∈l,∃x∈s.sittings,x.ns=e.table∧Vbbraj.hasBoard x b=true)(hw:Wt l)
  (hk:∀r t c,(r,t,c)∈s.appeals→c=b→∀x∈s.sittings,x.round=r→x.table=t→Vbbraj.hasBoard x c=true→(Vbbrah.entryOf l x.ns).isSome=true):SInv (Vbbraj.putSheet s b l):=by
 have hsh:=sheet_put (s:=s) (l:=l) hb hb2 h.sl
 have ok:∀m:Vbbrah.State,(∀e∈m,∃x∈s.sittings,x.ns=e.table∧Vbbraj.hasBoard x b=true)→∀e∈m,1≤e.table∧1≤Vbbraj.against s b e.table:=fun m hm e he=>by
  obtain⟨x,hx,hn,hB⟩:=hm e he
  have o:=h.so x hx
  rw[←hn,against_eq h hx hB]
  exact⟨o.n1,o.e1⟩
 refine⟨h.p1,h.p2,h.b1,h.b2,(List.length_set).trans h.sl,h.al,fun x hx=>(let o:=h.so x hx;⟨o.r1,o.r2,o.t1,o.t2,o.n1,o.n2,o.e1,o.e2,o.ne,o.f1,o.c1,o.fc⟩),h.sa,fun c=>?_,fun c e he=>?_,fun c=>?_,putSheet_T h.ti hb hb2 h.sl ⟨h.wt b,ok _ (h.si b)⟩ ⟨hw,ok _ hi⟩,h.an,fun r t c hc=>?_,h.po⟩
 ·rw[hsh]
  split
  ·exact hs
  ·exact h.sr c
 ·rw[hsh]at he
  split at he
  ·rename_i q
   subst q
   exact hi e he
  ·exact h.si c e he
 ·rw[hsh]
  split
  ·exact hw
  ·exact h.wt c
 ·obtain⟨x,hx,h1,h2,h3,h4⟩:=h.ae r t c hc
  refine⟨x,hx,h1,h2,h3,?_⟩
  rw[hsh]
  split
  ·rename_i q
   exact hk r t c hc q x hx h1 h2 h3
  ·exact h4
end Sti
end
section
namespace Sti
open Vbbrah (Fr Entry Result)
open Vbbraj (Sitting State)
open Mth
theorem inside_iff{lo hi z:Int}:Vbbraj.inside lo hi z=true↔lo≤z∧z≤hi:=by
 unfold Vbbraj.inside
 simp
theorem weight_pos:∀{r:Result},r≠[]→(∀p∈r,1≤p.1)→Vbbrah.weight r≠0
 |[],h,_=>absurd rfl h
 |p::r,_,h=>by
  unfold Vbbrah.weight Vbbrah.sum
  rw[List.map_cons,List.foldr_cons]
  have:=h p List.mem_cons_self
  omega
theorem resultOf_ok{l:List Int}(h:Vbbrah.isResult l=true):Vbbrah.resultOf l≠[]∧∀p∈Vbbrah.resultOf l,1≤p.1:=by
 unfold Vbbrah.isResult at h
 simp only[Bool.and_eq_true,decide_eq_true_eq]at h
 obtain⟨h1,h2,h3,h4⟩:=h
 constructor
 ·match l,h1 with
  |a::b::r,_=>exact fun e=>by simp[Vbbrah.resultOf,Vbbrah.pairsOf]at e
 ·intro p hp
  unfold Vbbrah.resultOf at hp
  obtain⟨q,hq,rfl⟩:=List.mem_map.mp hp
  have:=List.all_eq_true.mp h4 q hq
  simp only[Vbbrah.within,Bool.and_eq_true,decide_eq_true_eq]at this
  show 1≤q.1.toNat
  omega
theorem entered_inv{s:State}(h:SInv s){r t b:Nat}{x:Sitting}(hp:Vbbraj.placeOf s r t b=some x){res:Result}(hw:res≠[]→∀p∈res,1≤p.1)(n e:Nat):SInv (Vbbraj.entered s b x res n e):=by
 obtain⟨hx,_,_,hB⟩:=placeOf_some hp
 have hb:=board_in (h.so x hx) hB
 unfold Vbbraj.entered
 refine put_inv h hb.1 hb.2 (put_srt (h.sr b)) (fun y hy=>?_) (fun y hy hr=>?_) fun r' t' c hc q y hy h1 h2 h3=>?_
 ·rcases mem_put hy with rfl|hy
  ·exact⟨x,hx,rfl,hB⟩
  ·exact h.si b y hy
 ·rcases mem_put hy with rfl|hy
  ·have ne:res≠[]:=fun z=>by
    subst z
    simp[Vbbrah.isReal]at hr
   exact weight_pos ne (hw ne)
  ·exact h.wt b y hy hr
 ·subst q
  rw[entryOf_put (h.sr c)]
  by_cases q:y.ns=x.ns
  ·rw[if_pos q];rfl
  ·rw[if_neg q]
   obtain⟨z,hz,g1,g2,g3,g4⟩:=h.ae r' t' c hc
   have:=one_rt h hz hy (g1.trans h1.symm) (g2.trans h2.symm)
   subst this
   exact g4
theorem one_w{z:Int}:([(1,z)]:Result)≠[]→∀p∈([(1,z)]:Result),1≤p.1:=fun _ p hp=>by
 have:=List.mem_singleton.mp hp
 subst this
 exact Nat.le_refl _
theorem appeals_inv{s:State}(h:SInv s){l:List (Nat×Nat×Nat)}(hn:l.Nodup)(ha:∀r t b,(r,t,b)∈l→∃x∈s.sittings,x.round=r∧x.table=t∧Vbbraj.hasBoard x b=true∧(Vbbrah.entryOf (Vbbraj.sheet s b) x.ns).isSome=true):SInv { s with appeals:=l }:=
 ⟨h.p1,h.p2,h.b1,h.b2,h.sl,h.al,fun x hx=>(let o:=h.so x hx;⟨o.r1,o.r2,o.t1,o.t2,o.n1,o.n2,o.e1,o.e2,o.ne,o.f1,o.c1,o.fc⟩),h.sa,h.sr,h.si,h.wt,⟨h.ti.pts,h.ti.tps⟩,hn,ha,h.po⟩
theorem sit_zero{s:State}{x:Sitting}(h:Vbbraj.sitWrong s x=0):
  ¬(s.sheets.any fun l=>!l.isEmpty)=true∧¬(x.ns=x.ew∨s.pairs<x.ns∨s.pairs<x.ew)∧¬s.boards+1<x.first+x.count∧
  ¬(s.sittings.any fun y=>y.round==x.round&&(y.table==x.table||(Vbbraj.sits y x.ns||Vbbraj.sits y x.ew)))=true∧
  ¬(s.sittings.any fun y=>(Vbbraj.sits y x.ns||Vbbraj.sits y x.ew)&&Vbbraj.shares y x)=true∧¬(Vbbraj.met s x.ns x.ew).isSome=true∧¬Vbbraj.SITTINGS≤s.sittings.length:=by
 unfold Vbbraj.sitWrong at h
 split at h
 ·omega
 ·split at h
  ·omega
  ·split at h
   ·omega
   ·split at h
    ·omega
    ·split at h
     ·omega
     ·split at h
      ·omega
      ·split at h
       ·omega
       ·exact⟨by assumption,by assumption,by assumption,by assumption,by assumption,by assumption,by assumption⟩
theorem sits_iff{y:Sitting}{p:Nat}:Vbbraj.sits y p=true↔y.ns=p∨y.ew=p:=by
 unfold Vbbraj.sits
 simp
theorem sit_apart{s:State}{x:Sitting}(h:Vbbraj.sitWrong s x=0):∀y∈s.sittings,Apart y x:=fun y hy=>by
 obtain⟨_,_,_,h4,h5,h6,_⟩:=sit_zero h
 have a4:¬(y.round=x.round∧(y.table=x.table∨(y.ns=x.ns∨y.ew=x.ns)∨(y.ns=x.ew∨y.ew=x.ew))):=fun q=>h4 (List.any_eq_true.mpr ⟨y,hy,by
  simp only[Bool.and_eq_true,Bool.or_eq_true,beq_iff_eq,sits_iff]
  exact q⟩)
 have a5:¬(((y.ns=x.ns∨y.ew=x.ns)∨(y.ns=x.ew∨y.ew=x.ew))∧(y.first<x.first+x.count∧x.first<y.first+y.count)):=fun q=>h5 (List.any_eq_true.mpr ⟨y,hy,by
  simp only[Bool.and_eq_true,Bool.or_eq_true,sits_iff,Vbbraj.shares,decide_eq_true_eq]
  exact q⟩)
 have a6:¬((y.ns=x.ns∧y.ew=x.ew)∨(y.ns=x.ew∧y.ew=x.ns)):=fun q=>h6 (by
  unfold Vbbraj.met
  rw[List.find?_isSome]
  refine⟨y,hy,?_⟩
  simp only[Bool.and_eq_true,Bool.or_eq_true,beq_iff_eq]
  exact q)
 refine⟨fun q=>a4 ⟨q.1,.inl q.2⟩,fun q z=>a4 ⟨q,.inr (by omega)⟩,fun q b z=>a5 ⟨by omega,?_⟩,a6⟩
 have:=hasBoard_iff.mp z.1
 have:=hasBoard_iff.mp z.2
 omega
theorem posted_inv{s:State}(h:SInv s){l:List (List (Nat×Nat×Int))}(hl:l.length≤50):SInv { s with posted:=l }:=
 ⟨h.p1,h.p2,h.b1,h.b2,h.sl,h.al,fun x hx=>(let o:=h.so x hx;⟨o.r1,o.r2,o.t1,o.t2,o.n1,o.n2,o.e1,o.e2,o.ne,o.f1,o.c1,o.fc⟩),h.sa,h.sr,h.si,h.wt,⟨h.ti.pts,h.ti.tps⟩,h.an,h.ae,hl⟩
theorem adjust_inv{s:State}(h:SInv s){l:List Int}(n:Nat)(hl:l.length=s.pairs):SInv { s with adjusted:=l,changes:=n }:=
 ⟨h.p1,h.p2,h.b1,h.b2,h.sl,hl,fun x hx=>(let o:=h.so x hx;⟨o.r1,o.r2,o.t1,o.t2,o.n1,o.n2,o.e1,o.e2,o.ne,o.f1,o.c1,o.fc⟩),h.sa,h.sr,h.si,h.wt,⟨h.ti.pts,h.ti.tps⟩,h.an,h.ae,h.po⟩
theorem place_rt{s:State}{r t b:Nat}{x:Sitting}(hp:Vbbraj.placeOf s r t b=some x):x.round=r∧x.table=t:=let q:=placeOf_some hp;⟨q.2.1,q.2.2.1⟩
theorem act_inv{s:State}(h:SInv s)(c:Vbbraj.Call)(hr:Vbbraj.ranged c=true):SInv (Vbbraj.act s c).1:=by
 have onP:∀(r t b:Int) (f:Sitting→State×List Int),(∀x,Vbbraj.placeOf s r.toNat t.toNat b.toNat=some x→Vbbraj.appealed s r.toNat t.toNat b.toNat=false→SInv (f x).1)→SInv (Vbbraj.onPlace s r t b f).1:=fun r t b f hf=>by
  unfold Vbbraj.onPlace
  split
  ·exact h
  ·rename_i x hx
   split
   ·exact h
   ·rename_i ha
    exact hf x hx (by simpa using ha)
 have pIn:∀(p:Int) (f:Nat→State×List Int),(p.toNat≤s.pairs→SInv (f p.toNat).1)→SInv (Vbbraj.pairIn s p f).1:=fun p f hf=>by
  unfold Vbbraj.pairIn
  split
  ·exact h
  ·exact hf (by omega)
 have drop1:∀(b n:Nat) (r t:Nat) (x:Sitting),Vbbraj.placeOf s r t b=some x→Vbbraj.appealed s r t b=false→SInv (Vbbraj.putSheet s b ((Vbbraj.sheet s b).filter fun e=>e.table != x.ns)):=fun b n r t x hx ha=>by
  obtain⟨mx,g1,g2,hB⟩:=placeOf_some hx
  have hb:=board_in (h.so x mx) hB
  refine put_inv h hb.1 hb.2 ((h.sr b).filter _) (fun y hy=>h.si b y (List.mem_filter.mp hy).1) (fun y hy hr=>h.wt b y (List.mem_filter.mp hy).1 hr) fun r' t' c hc q y hy h1 h2 h3=>?_
  subst q
  rw[entryOf_drop]
  split
  ·rename_i e
   have:=one_nb h hy mx e h3 hB
   subst this
   unfold Vbbraj.appealed at ha
   rw[←g1,←g2,h1,h2]at ha
   have:=List.contains_iff_mem.mpr hc
   rw[this]at ha
   cases ha
  ·obtain⟨z,hz,q1,q2,q3,q4⟩:=h.ae r' t' c hc
   have:=one_rt h hz hy (q1.trans h1.symm) (q2.trans h2.symm)
   subst this
   exact q4
 cases c with
 |new n b=>exact h
 |sit r t n e f c=>
  simp only[Vbbraj.act]
  split
  ·exact h
  ·rename_i hz
   have hz:=Decidable.not_not.mp hz
   obtain⟨h1,h2,h3,_⟩:=sit_zero hz
   simp only[Vbbraj.ranged,Vbbraj.isRound,Vbbraj.isTable,Vbbraj.isPair,Vbbraj.isBoard,Bool.and_eq_true,inside_iff]at hr
   refine resit h (sheet_any h1) (fun x hx=>?_) ?_
   ·rcases List.mem_append.mp hx with hx|hx
    ·exact h.so x hx
    ·have e:=List.mem_singleton.mp hx
     subst e
     dsimp only at h2 h3
     refine⟨?_,?_,?_,?_,?_,?_,?_,?_,?_,?_,?_,?_⟩<;>dsimp only<;>omega
   ·refine List.pairwise_append.mpr ⟨h.sa,List.pairwise_singleton _ _,fun x hx y hy=>?_⟩
    have e:=List.mem_singleton.mp hy
    subst e
    exact sit_apart hz x hx
 |unsit r t=>
  simp only[Vbbraj.act]
  split
  ·exact h
  ·rename_i h1
   split
   ·exact h
   ·exact resit h (sheet_any h1) (fun x hx=>h.so x (List.mem_filter.mp hx).1) (h.sa.filter _)
 |result r t b l=>
  simp only[Vbbraj.ranged,Bool.and_eq_true]at hr
  exact onP r t b _ fun x hx _=>entered_inv h hx (fun _=>(resultOf_ok hr.2).2) 0 0
 |played r t b l st d p k=>exact onP r t b _ fun x hx _=>entered_inv h hx one_w 0 0
 |passed r t b=>exact onP r t b _ fun x hx _=>entered_inv h hx one_w 0 0
 |average r t b n e=>exact onP r t b _ fun x hx _=>entered_inv h hx (fun q=>absurd rfl q) _ _
 |foul r t b g=>
  refine onP r t b _ fun x hx _=>?_
  split
  ·exact h
  ·rename_i e he
   obtain⟨mx,g1,g2,hB⟩:=placeOf_some hx
   have hb:=board_in (h.so x mx) hB
   obtain⟨me,te⟩:=entryOf_some he
   refine put_inv h hb.1 hb.2 (put_srt (h.sr _)) (fun y hy=>?_) (fun y hy hr=>?_) fun r' t' c hc q y hy h1 h2 h3=>?_
   ·rcases mem_put hy with rfl|hy
    ·exact h.si _ e me
    ·exact h.si _ y hy
   ·rcases mem_put hy with rfl|hy
    ·exact h.wt _ e me hr
    ·exact h.wt _ y hy hr
   ·subst q
    rw[entryOf_put (h.sr _)]
    split
    ·rfl
    ·obtain⟨z,hz,q1,q2,q3,q4⟩:=h.ae r' t' _ hc
     have:=one_rt h hz hy (q1.trans h1.symm) (q2.trans h2.symm)
     subst this
     exact q4
 |remove r t b=>
  refine onP r t b _ fun x hx ha=>?_
  split
  ·exact h
  ·exact drop1 _ 0 _ _ x hx ha
 |adjust p z=>exact pIn p _ fun _=>adjust_inv h _ (List.length_set.trans h.al)
 |appeal r t b=>
  refine onP r t b _ fun x hx ha=>?_
  split
  ·exact h
  ·rename_i e he
   obtain⟨mx,g1,g2,hB⟩:=placeOf_some hx
   refine appeals_inv h ?_ fun r' t' b' hm=>?_
   ·refine List.nodup_append.mpr ⟨h.an,by simp,fun q hq w hw=>?_⟩
    have e2:=List.mem_singleton.mp hw
    subst e2
    rintro rfl
    have:=List.contains_iff_mem.mpr hq
    unfold Vbbraj.appealed at ha
    rw[this]at ha
    cases ha
   ·rcases List.mem_append.mp hm with hm|hm
    ·exact h.ae r' t' b' hm
    ·have e2:=List.mem_singleton.mp hm
     injection e2 with e3 e4
     injection e4 with e4 e5
     subst e3 e4 e5
     exact⟨x,mx,g1,g2,hB,by rw[he];rfl⟩
 |ruling r t b l=>
  simp only[Vbbraj.ranged,Bool.and_eq_true]at hr
  simp only[Vbbraj.act]
  split
  ·exact h
  ·rename_i x hx
   split
   ·exact h
   ·have h':SInv { s with appeals:=s.appeals.filter fun y=>y != (r.toNat,t.toNat,b.toNat) }:=appeals_inv h (h.an.filter _) fun r' t' b' hm=>h.ae r' t' b' (List.mem_filter.mp hm).1
    exact entered_inv (s:={ s with appeals:=s.appeals.filter fun y=>y != (r.toNat,t.toNat,b.toNat) }) h' hx (fun _=>(resultOf_ok hr.2).2) 0 0
 |post=>
  simp only[Vbbraj.act]
  split
  ·exact h
  ·rename_i hp
   have:Vbbraj.POSTS=50:=rfl
   exact posted_inv h (by rw[List.length_append,List.length_singleton];omega)
 |total p=>exact pIn p _ fun _=>h
 |score b p=>
  simp only[Vbbraj.act]
  split
  ·exact h
  ·exact pIn p _ fun _=>h
 |sittings p=>exact pIn p _ fun _=>h
 |standings=>exact h
 |posted k=>exact h
 |sheet b=>exact h
 |met p q=>exact h
 |missing=>exact h
 |changes=>exact h
 |appeals=>exact h
noncomputable def Ok(s:State):Prop:=s=Vbbraj.none_∨SInv s
theorem step_ok{s:State}(h:Ok s)(c:Vbbraj.Call):Ok (Vbbraj.step s c).1:=by
 unfold Vbbraj.step
 split
 ·exact h
 ·rename_i hr
  have hr:Vbbraj.ranged c=true:=by simpa using hr
  split
  ·rename_i n b
   simp only[Vbbraj.ranged,Vbbraj.isBoard,Bool.and_eq_true,inside_iff]at hr
   exact .inr (begun_inv (by omega) (by omega) (by omega) (by omega))
  ·split
   ·exact h
   ·rename_i hp
    rcases h with rfl|h
    ·exact absurd rfl hp
    ·exact .inr (act_inv h c hr)
end Sti
end
section
namespace Pts
open Vbbrah (Fr Entry Result)
open Mth
noncomputable def plusU(f g:Fr):Fr:=(f.1*(g.2:Int)+g.1*(f.2:Int),f.2*g.2)
noncomputable def totU(r q:Result):Int:=(r.flatMap fun p=>q.map fun t=>((p.1*t.1:Nat):Int)*Vbbrah.versus p.2 t.2).foldr (fun a b=>a+b) 0
noncomputable def meanU(r q:Result):Fr:=(totU r q,Vbbrah.weight r*Vbbrah.weight q)
noncomputable def compU(r:Result)(os:List Result):Fr:=os.foldl (fun a q=>plusU a (meanU r q)) (0,1)
noncomputable def realU(N:Nat)(r:Result)(os:List Result):Fr:=plusU ((plusU (compU r os) (1,1)).1*(N:Int),(plusU (compU r os) (1,1)).2*(os.length+1)) (-1,1)
theorem val_plusU{f g:Fr}(hf:f.2≠0)(hg:g.2≠0):val (plusU f g)=val f+val g:=by
 refine canon_inj ?_
 rw[←plus_eq hf hg,←lowest_eq (show(plusU f g).2≠0 from Nat.mul_ne_zero hf hg)]
 rfl
theorem compU_snoc(r:Result)(os:List Result)(q:Result):compU r (os++[q])=plusU (compU r os) (meanU r q):=by
 unfold compU
 rw[List.foldl_append]
 rfl
theorem compU_nz{r:Result}(hr:Vbbrah.weight r≠0):∀(os:List Result),(∀q∈os,Vbbrah.weight q≠0)→∀a:Fr,a.2≠0→(os.foldl (fun a q=>plusU a (meanU r q)) a).2≠0∧val (os.foldl (fun a q=>plusU a (meanU r q)) a)=val a+sumR (os.map (overR r))
 |[],_,a,ha=>⟨ha,by show _=val a+0;grind⟩
 |q::os,h,a,ha=>by
  have hq:=h q (by simp)
  have hm:(meanU r q).2≠0:=Nat.mul_ne_zero hr hq
  obtain⟨h1,h2⟩:=compU_nz hr os (fun z hz=>h z (by simp[hz])) (plusU a (meanU r q)) (Nat.mul_ne_zero ha hm)
  refine⟨h1,?_⟩
  show val (os.foldl _ (plusU a (meanU r q)))=val a+(overR r q+sumR (os.map (overR r)))
  rw[h2,val_plusU ha hm]
  have:val (meanU r q)=overR r q:=rfl
  rw[this]
  grind
theorem compU_val{r:Result}{os:List Result}(hr:Vbbrah.weight r≠0)(ho:∀q∈os,Vbbrah.weight q≠0):(compU r os).2≠0∧val (compU r os)=sumR (os.map (overR r)):=by
 obtain⟨h1,h2⟩:=compU_nz hr os ho (0,1) (by decide)
 refine⟨h1,?_⟩
 unfold compU
 rw[h2]
 have:val (0,1)=0:=rfl
 rw[this]
 grind
theorem realU_val{N:Nat}{r:Result}{os:List Result}(hr:Vbbrah.weight r≠0)(ho:∀q∈os,Vbbrah.weight q≠0):
  (realU N r os).2≠0∧val (realU N r os)=(sumR (os.map (overR r))+1)*mkRat N (os.length+1)+-1:=by
 obtain⟨h1,h2⟩:=compU_val hr ho
 have h3:(plusU (compU r os) (1,1)).2≠0:=Nat.mul_ne_zero h1 (by decide)
 have h4:(plusU (compU r os) (1,1)).2*(os.length+1)≠0:=Nat.mul_ne_zero h3 (Nat.succ_ne_zero _)
 refine⟨Nat.mul_ne_zero h4 (by decide),?_⟩
 unfold realU
 rw[val_plusU h4 (by decide)]
 have e1:val ((plusU (compU r os) (1,1)).1*(N:Int),(plusU (compU r os) (1,1)).2*(os.length+1))=val (plusU (compU r os) (1,1))*val ((N:Int),os.length+1):=by
  refine canon_inj ?_
  rw[←times_eq h3 (Nat.succ_ne_zero _),←lowest_eq h4]
  rfl
 rw[e1,val_plusU h1 (by decide),h2]
 rfl
theorem real_low{l:Vbbrah.State}{e:Entry}(hw:Wt l)(he:e∈l)(hr:Vbbrah.isReal e=true):Vbbrah.lowest (realU l.length e.result ((others l e).map (·.result)))=(Vbbrah.points l e).1∧(realU l.length e.result ((others l e).map (·.result))).2≠0:=by
 have hwe:=hw e he hr
 have ho:∀q∈(others l e).map (·.result),Vbbrah.weight q≠0:=fun q hq=>by
  obtain⟨f,hf,rfl⟩:=List.mem_map.mp hq
  have hf1:=(List.mem_filter.mp (List.mem_filter.mp hf).1)
  exact hw f hf1.1 (Bool.and_eq_true_iff.mp hf1.2).1
 obtain⟨h1,h2⟩:=realU_val (N:=l.length) hwe ho
 refine⟨?_,h1⟩
 rw[lowest_eq h1,h2,points_eq hw he]
 unfold mpR
 rw[if_pos hr]
 show canon _=canon (grownR l e)
 unfold grownR
 rw[List.map_map,List.length_map]
 rfl
theorem real_other{l:Vbbrah.State}{e:Entry}(hw:Wt l)(he:e∈l)(hr:Vbbrah.isReal e=true):(Vbbrah.points l e).2=((Vbbrah.top l:Int)*((Vbbrah.points l e).1.2:Int)-(Vbbrah.points l e).1.1,(Vbbrah.points l e).1.2):=by
 rw[points_eq hw he]
 unfold mpR
 rw[if_pos hr]
 generalize grownR l e=q
 show canon ((Vbbrah.top l:Rat)+-q)=((Vbbrah.top l:Int)*(q.den:Int)-q.num,q.den)
 have hv:((Vbbrah.top l:Rat)+-q)=val ((Vbbrah.top l:Int)*(q.den:Int)-q.num,q.den):=by
  have h1:=val_plusU (f:=((Vbbrah.top l:Int),1)) (g:=(-q.num,q.den)) (Nat.succ_ne_zero 0) q.den_nz
  have h2:val (-q.num,q.den)=-q:=by
   have:=neg_val (q.num,q.den)
   show val (Vbbrah.neg (canon q))=-q
   rw[neg_val,val_canon]
  rw[h2]at h1
  have h3:val ((Vbbrah.top l:Int),1)=(Vbbrah.top l:Rat):=by
   have e:(((Vbbrah.top l:Int),1):Fr)=canon (Vbbrah.top l:Rat):=rfl
   rw[e,val_canon]
  rw[h3]at h1
  rw[←h1]
  have e:plusU ((Vbbrah.top l:Int),1) (-q.num,q.den)=((Vbbrah.top l:Int)*(q.den:Int)-q.num,q.den):=by
   unfold plusU
   simp only[Nat.one_mul]
   congr 1
   show(Vbbrah.top l:Int)*(q.den:Int)+-q.num*((1:Nat):Int)=_
   simp
   omega
  rw[e]
 rw[hv,←lowest_eq q.den_nz]
 have hg:Nat.gcd ((Vbbrah.top l:Int)*(q.den:Int)-q.num).natAbs q.den=1:=by
  have h1:Nat.gcd q.num.natAbs q.den=1:=q.reduced
  have d1:(Nat.gcd ((Vbbrah.top l:Int)*(q.den:Int)-q.num).natAbs q.den:Int)∣(q.den:Int):=Int.natCast_dvd_natCast.mpr (Nat.gcd_dvd_right _ _)
  have d2:(Nat.gcd ((Vbbrah.top l:Int)*(q.den:Int)-q.num).natAbs q.den:Int)∣(Vbbrah.top l:Int)*(q.den:Int)-q.num:=Int.ofNat_dvd_left.mpr (Nat.gcd_dvd_left _ _)
  have d3:(Nat.gcd ((Vbbrah.top l:Int)*(q.den:Int)-q.num).natAbs q.den:Int)∣q.num:=by
   have d4:=Int.dvd_sub (Int.dvd_trans d1 (Int.dvd_mul_left (Vbbrah.top l:Int) (q.den:Int))) d2
   rw[show(Vbbrah.top l:Int)*(q.den:Int)-((Vbbrah.top l:Int)*(q.den:Int)-q.num)=q.num by omega]at d4
   exact d4
  have d5:=Nat.dvd_gcd (Int.ofNat_dvd_left.mp d3) (Nat.gcd_dvd_right ((Vbbrah.top l:Int)*(q.den:Int)-q.num).natAbs q.den)
  rw[h1]at d5
  exact Nat.eq_one_of_dvd_one d5
 show(if Nat.gcd ((Vbbrah.top l:Int)*(q.den:Int)-q.num).natAbs q.den=0 then((0:Int),1)else _)=_
 rw[hg,if_neg (by decide)]
 simp
noncomputable def Bt(m:Nat)(f:Fr):Prop:=f.1.natAbs<2 ^ m∧f.2<2 ^ m
theorem pow_le{m n:Nat}(h:m≤n):2 ^ m≤2 ^ n:=Nat.pow_le_pow_right (by decide) h
theorem Bt.mono{m n:Nat}{f:Fr}(h:Bt m f)(hm:m≤n):Bt n f:=⟨Nat.lt_of_lt_of_le h.1 (pow_le hm),Nat.lt_of_lt_of_le h.2 (pow_le hm)⟩
theorem Bt.plus{m n:Nat}{f g:Fr}(hf:Bt m f)(hg:Bt n g):Bt (m+n+1) (plusU f g):=by
 obtain⟨a1,a2⟩:=hf
 obtain⟨b1,b2⟩:=hg
 have e:2 ^ (m+n+1)=2 ^ m*2 ^ n+2 ^ m*2 ^ n:=by rw[Nat.pow_succ,Nat.pow_add];omega
 have c1:(f.1*(g.2:Int)).natAbs<2 ^ m*2 ^ n:=by
  rw[Int.natAbs_mul]
  exact Nat.mul_lt_mul_of_lt_of_lt a1 (by simpa using b2)
 have c2:(g.1*(f.2:Int)).natAbs<2 ^ m*2 ^ n:=by
  rw[Int.natAbs_mul,Nat.mul_comm]
  exact Nat.mul_lt_mul_of_lt_of_lt (by simpa using a2) b1
 have c3:f.2*g.2<2 ^ m*2 ^ n:=Nat.mul_lt_mul_of_lt_of_lt a2 b2
 refine⟨?_,?_⟩
 ·show(f.1*(g.2:Int)+g.1*(f.2:Int)).natAbs<_
  rw[e]
  have:=Int.natAbs_add_le (f.1*(g.2:Int)) (g.1*(f.2:Int))
  omega
 ·show f.2*g.2<_
  rw[e]
  omega
theorem Bt.times{m n:Nat}{f:Fr}{a b:Nat}(hf:Bt m f)(ha:a<2 ^ n)(hb:b<2 ^ n):Bt (m+n) (f.1*(a:Int),f.2*b):=by
 obtain⟨a1,a2⟩:=hf
 refine⟨?_,?_⟩
 ·show(f.1*(a:Int)).natAbs<_
  rw[Int.natAbs_mul,Nat.pow_add]
  exact Nat.mul_lt_mul_of_lt_of_lt a1 (by simpa using ha)
 ·show f.2*b<_
  rw[Nat.pow_add]
  exact Nat.mul_lt_mul_of_lt_of_lt a2 hb
theorem lowest_le(f:Fr):(Vbbrah.lowest f).1.natAbs≤f.1.natAbs∧(Vbbrah.lowest f).2≤max f.2 1:=by
 unfold Vbbrah.lowest
 dsimp only
 split
 ·exact⟨Nat.zero_le _,Nat.le_max_right _ _⟩
 ·refine⟨Int.natAbs_ediv_le_natAbs _ _,Nat.le_trans (Nat.div_le_self _ _) (Nat.le_max_left _ _)⟩
theorem Bt.low{m:Nat}{f:Fr}(h:Bt m f)(h0:f.2≠0):Bt m (Vbbrah.lowest f):=by
 have:=lowest_le f
 refine⟨Nat.lt_of_le_of_lt this.1 h.1,Nat.lt_of_le_of_lt this.2 ?_⟩
 have:=h.2
 omega
noncomputable def Sml(r:Result):Prop:=r.length≤4∧∀p∈r,p.1≤1000
theorem weight_le:∀{r:Result},(∀p∈r,p.1≤1000)→Vbbrah.weight r≤1000*r.length
 |[],_=>Nat.le_refl _
 |p::r,h=>by
  have h1:=h p (by simp)
  have h2:=weight_le (r:=r) fun q hq=>h q (by simp[hq])
  show p.1+Vbbrah.weight r≤1000*(r.length+1)
  omega
theorem vs_le(a b:Int):(Vbbrah.versus a b).natAbs≤2:=by
 unfold Vbbrah.versus
 split
 ·decide
 ·split<;>decide
theorem row_le{p:Nat×Int}(hp:p.1≤1000):∀{q:Result},(∀t∈q,t.1≤1000)→∀z:Int,((q.map fun t=>((p.1*t.1:Nat):Int)*Vbbrah.versus p.2 t.2).foldr (fun a b=>a+b) z).natAbs≤2000000*q.length+z.natAbs
 |[],_,z=>by simp
 |t::q,h,z=>by
  have h1:=h t (by simp)
  have ih:=row_le hp (q:=q) (fun u hu=>h u (by simp[hu])) z
  show(((p.1*t.1:Nat):Int)*Vbbrah.versus p.2 t.2+(q.map fun t=>((p.1*t.1:Nat):Int)*Vbbrah.versus p.2 t.2).foldr (fun a b=>a+b) z).natAbs≤2000000*(q.length+1)+z.natAbs
  have h2:=vs_le p.2 t.2
  have h3:(((p.1*t.1:Nat):Int)*Vbbrah.versus p.2 t.2).natAbs≤2000000:=by
   rw[Int.natAbs_mul,Int.natAbs_natCast]
   calc p.1*t.1*(Vbbrah.versus p.2 t.2).natAbs≤1000*1000*2:=Nat.mul_le_mul (Nat.mul_le_mul hp h1) h2
    _=2000000:=by decide
  have:=Int.natAbs_add_le (((p.1*t.1:Nat):Int)*Vbbrah.versus p.2 t.2) ((q.map fun t=>((p.1*t.1:Nat):Int)*Vbbrah.versus p.2 t.2).foldr (fun a b=>a+b) z)
  omega
theorem totU_le:∀{r q:Result},(∀p∈r,p.1≤1000)→(∀p∈q,p.1≤1000)→(totU r q).natAbs≤2000000*q.length*r.length
 |[],q,_,_=>by simp[totU]
 |p::r,q,h,hq=>by
  have ih:=totU_le (r:=r) (q:=q) (fun u hu=>h u (by simp[hu])) hq
  have e:totU (p::r) q=(q.map fun t=>((p.1*t.1:Nat):Int)*Vbbrah.versus p.2 t.2).foldr (fun a b=>a+b) (totU r q):=by
   unfold totU
   rw[List.flatMap_cons,List.foldr_append]
  rw[e]
  have:=row_le (p:=p) (h p (by simp)) hq (totU r q)
  rw[List.length_cons,Nat.mul_add,Nat.mul_one]
  omega
theorem mean_bt{r q:Result}(hr:Sml r)(hq:Sml q):Bt 25 (meanU r q):=by
 have h1:=totU_le hr.2 hq.2
 have h2:=weight_le hr.2
 have h3:=weight_le hq.2
 refine⟨?_,?_⟩
 ·show(totU r q).natAbs<2 ^ 25
  have:2000000*q.length*r.length≤2000000*4*4:=Nat.mul_le_mul (Nat.mul_le_mul (Nat.le_refl _) hq.1) hr.1
  omega
 ·show Vbbrah.weight r*Vbbrah.weight q<2 ^ 25
  have a:=hr.1
  have b:=hq.1
  have:Vbbrah.weight r*Vbbrah.weight q≤4000*4000:=Nat.mul_le_mul (by omega) (by omega)
  omega
theorem comp_bt{r:Result}(hr:Sml r):∀(os:List Result),(∀q∈os,Sml q)→∀(a:Fr) (m:Nat),Bt m a→Bt (m+26*os.length) (os.foldl (fun a q=>plusU a (meanU r q)) a)
 |[],_,_,_,h=>h
 |q::os,h,a,m,ha=>by
  have h1:=ha.plus (mean_bt hr (h q (by simp)))
  have:=comp_bt hr os (fun z hz=>h z (by simp[hz])) _ _ h1
  rw[List.length_cons]
  exact this.mono (by omega)
theorem compU_bt{r:Result}{os:List Result}(hr:Sml r)(ho:∀q∈os,Sml q):Bt (1+26*os.length) (compU r os):=comp_bt hr os ho (0,1) 1 ⟨by decide,by decide⟩
theorem realU_bt{N:Nat}{r:Result}{os:List Result}(hr:Sml r)(ho:∀q∈os,Sml q)(hN:N<512)(hl:os.length+1<512):Bt (26*os.length+16) (realU N r os):=by
 have h1:=(compU_bt hr ho).plus (show Bt 1 (1,1)from⟨by decide,by decide⟩)
 have h2:=h1.times (n:=9) (a:=N) (b:=os.length+1) hN hl
 exact(h2.plus (show Bt 1 (-1,1)from⟨by decide,by decide⟩)).mono (by omega)
end Pts
end
section
namespace L2
open PySem PySem.Spec PyProof.Rows
noncomputable abbrev Key:=Sum Int Str
noncomputable def keyIs:Key→Value→Bool
 | .inl k,v=>Value.isInt k v
 | .inr x,v=>Value.isStrOf x v
noncomputable def keyH(w:World):Key→Int
 | .inl k=>hashInt k
 | .inr x=>hashStr w x
theorem keyIs_shape:∀{k:Key} {v:Value},keyIs k v=true→(∃i t,k=Sum.inl i∧v=Value.int i t)∨(∃x t,k=Sum.inr x∧v=Value.str x t)
 | .inl i,v,h=>by
  obtain⟨t,e⟩:=Value.isInt_shape (k:=i) (v:=v) h
  exact .inl ⟨i,t,rfl,e⟩
 | .inr x,v,h=>by
  obtain⟨t,e⟩:=Value.isStrOf_shape (x:=x) (v:=v) h
  exact .inr ⟨x,t,rfl,e⟩
theorem keyIs_int(i:Int)(t:Tok):keyIs (.inl i) (.int i t)=true:=by simp[keyIs,Value.isInt]
theorem keyIs_str(x:Str)(t:Tok):keyIs (.inr x) (.str x t)=true:=by simp[keyIs,Value.isStrOf]
theorem key_ll(a b:Int):decide ((Sum.inl a:Key)=Sum.inl b)=(a==b):=by
 by_cases e:a=b
 ·subst e;simp
 ·have h:¬(Sum.inl a:Key)=Sum.inl b:=fun q=>e (Sum.inl.inj q)
  rw[decide_eq_false h]
  exact(beq_eq_false_iff_ne.mpr e).symm
theorem key_rr(a b:Str):decide ((Sum.inr a:Key)=Sum.inr b)=decide (a=b):=by
 by_cases e:a=b
 ·subst e;simp
 ·have h:¬(Sum.inr a:Key)=Sum.inr b:=fun q=>e (Sum.inr.inj q)
  rw[decide_eq_false h,decide_eq_false e]
theorem key_lr(a:Int)(b:Str):decide ((Sum.inl a:Key)=Sum.inr b)=false:=decide_eq_false (fun q=>nomatch q)
theorem key_rl(a:Str)(b:Int):decide ((Sum.inr a:Key)=Sum.inl b)=false:=decide_eq_false (fun q=>nomatch q)
noncomputable def mixKind(prog:Program)(w:World):PySem.KeyKind prog w Key where
 is:=keyIs
 hash:=keyH w
 inj:=fun v a b ha hb=>by
  rcases keyIs_shape ha with⟨i,t,rfl,rfl⟩|⟨x,t,rfl,rfl⟩
  ·rcases keyIs_shape hb with⟨j,u,rfl,e⟩|⟨y,u,rfl,e⟩
   ·injection e with e1 _;rw[e1]
   ·exact nomatch e
  ·rcases keyIs_shape hb with⟨j,u,rfl,e⟩|⟨y,u,rfl,e⟩
   ·exact nomatch e
   ·injection e with e1 _;rw[e1]
 byValue:=fun k v h=>by
  rcases keyIs_shape h with⟨i,t,rfl,rfl⟩|⟨x,t,rfl,rfl⟩<;>rfl
 pyHash:=fun hv h=>by
  rcases keyIs_shape hv with⟨i,t,rfl,rfl⟩|⟨x,t,rfl,rfl⟩
  ·exact wpAny_pyHash_int h
  ·exact wpAny_pyHash_str h
 eqBool:=fun hu hv h=>by
  rcases keyIs_shape hu with⟨i,t,rfl,rfl⟩|⟨x,t,rfl,rfl⟩
  ·rcases keyIs_shape hv with⟨j,u,rfl,rfl⟩|⟨y,u,rfl,rfl⟩
   ·rw[key_ll]at h;exact wpAny_eqBool_int h
   ·rw[key_lr]at h;exact SeqAt.EqAt.int_str i t y u _ _ _ _ h
  ·rcases keyIs_shape hv with⟨j,u,rfl,rfl⟩|⟨y,u,rfl,rfl⟩
   ·rw[key_rl]at h;exact SeqAt.EqAt.str_int x t j u _ _ _ _ h
   ·rw[key_rr]at h;exact wpAny_eqBool_str h
 «strs»:=fun k x t v h=>by
  rcases keyIs_shape h with⟨i,u,rfl,e⟩|⟨y,u,rfl,e⟩
  ·exact nomatch e
  ·injection e with e1 _
   subst e1
   cases v<;>rfl
theorem mixKind_int(prog:Program)(w:World)(i:Int)(t:Tok):(mixKind prog w).is (.inl i) (.int i t)=true:=keyIs_int i t
theorem mixKind_str(prog:Program)(w:World)(x:Str)(t:Tok):(mixKind prog w).is (.inr x) (.str x t)=true:=keyIs_str x t
end L2
namespace L2
open PySem PySem.Spec PyProof.Rows
inductive V where
 |non|bl (b:Bool)|int (i:Int)|str (x:Str)|byt (b:Array UInt8)|flt (b:UInt64)|ref (a:Addr)|ty (n:String)
 deriving DecidableEq
noncomputable def RelV:V→Value→Prop
 | .non,u=>u=Value.none
 | .bl b,u=>u=Value.bool b
 | .int i,u=>∃t,u=Value.int i t
 | .str x,u=>∃t,u=Value.str x t
 | .byt b,u=>∃t,u=Value.bytes b t
 | .flt b,u=>∃t,u=Value.float b t
 | .ref a,u=>u=Value.ref a
 | .ty n,u=>u=Value.type n
noncomputable abbrev Vals:List V→List Value→Prop:=Paired RelV
theorem Vals.length{xs:List V}{us:List Value}(r:Vals xs us):xs.length=us.length:=Paired.length r
theorem Vals.get:∀{xs:List V} {us:List Value} {i:Nat} {x:V},Vals xs us→xs[i]?=some x→∃u,us[i]?=some u∧RelV x u
 |_,_,_,_,.nil,e=>by simp at e
 |_,_,0,_,.cons r _,e=>by simp at e;subst e;exact⟨_,rfl,r⟩
 |_,_,i+1,x,.cons _ t,e=>by
  obtain⟨u,h1,h2⟩:=Vals.get (i:=i) (x:=x) t (by simpa using e)
  exact⟨u,by simpa using h1,h2⟩
theorem Vals.set{x:V}{u:Value}(r:RelV x u):∀{xs:List V} {us:List Value} (i:Nat),Vals xs us→Vals (xs.set i x) (us.set i u)
 |_,_,_,.nil=>.nil
 |_,_,0,.cons _ t=>.cons r t
 |_,_,i+1,.cons q t=>.cons q (Vals.set r i t)
theorem Vals.append:∀{xs ys:List V} {us ws:List Value},Vals xs us→Vals ys ws→Vals (xs++ys) (us++ws)
 |_,_,_,_,.nil,s=>s
 |_,_,_,_,.cons r t,s=>.cons r (Vals.append t s)
theorem Vals.take:∀{xs:List V} {us:List Value} (n:Nat),Vals xs us→Vals (xs.take n) (us.take n)
 |_,_,0,_=>.nil
 |_,_,_+1,.nil=>.nil
 |_,_,n+1,.cons r t=>.cons r (Vals.take n t)
theorem Vals.drop:∀{xs:List V} {us:List Value} (n:Nat),Vals xs us→Vals (xs.drop n) (us.drop n)
 |_,_,0,r=>r
 |_,_,_+1,.nil=>.nil
 |_,_,n+1,.cons _ t=>Vals.drop n t
noncomputable def RelO:Option V→Option Value→Prop
 |some v,some u=>RelV v u
 |none,none=>True
 |_,_=>False
noncomputable def KV{κ:Type}:List (κ×V)→List (κ×Value)→Prop:=Paired fun(p:κ×V) (q:κ×Value)=>p.1=q.1∧RelV p.2 q.2
noncomputable def kV:Key→V
 | .inl i=>.int i
 | .inr x=>.str x
inductive HO where
 |lst (xs:List V)
 |tup (xs:List V)
 |dK (kvs:List (Key×V))|dT (kvs:List (List Key×V))
 |set (S:Int→Bool) (n:Nat)
 |ins (C dx:Addr) (fs:List (Str×V))
 |own (x:Addr)
 |xd (fs:List (Str×V))
 |met (f x:Addr)
 |rng (lo hi:Int)
 |frz (o:Obj) (u:HO)
 |tbl (ps:Array Value)
 |ext (φ:Heap→Prop)
noncomputable abbrev Hp:=Addr→Option HO
noncomputable def upd(H:Hp)(a:Addr)(o:HO):Hp:=fun b=>if b=a then some o else H b
theorem upd_same{H:Hp}{a:Addr}{o:HO}:upd H a o a=some o:=by unfold upd;rw[if_pos rfl]
theorem upd_ne{H:Hp}{a b:Addr}{o:HO}(h:b≠a):upd H a o b=H b:=by unfold upd;rw[if_neg h]
theorem upd_upd{H:Hp}{a:Addr}{o u:HO}:upd (upd H a o) a u=upd H a u:=by
 funext b;unfold upd;split<;>rfl
theorem ne_of{H:Hp}{a b:Addr}{o u:HO}(h:H a=some o)(h':H b=some u)(d:o≠u):a≠b:=by
 intro e;subst e;rw[h]at h';exact d (Option.some.inj h')
theorem ne_of_none{H:Hp}{a b:Addr}{o:HO}(h:H a=some o)(h':H b=none):a≠b:=by
 intro e;subst e;rw[h]at h';cases h'
section
variable (P:Program)(w:World)
noncomputable def ObjOk(H:Hp)(h:Heap)(a:Addr):HO→Prop
 | .lst xs=>xs.length≤sizeLine∧∃(its:List Value) (n:Nat),Vals xs its∧h.get? a=some { cls:=.type "list",data:=.seq its.toArray n }
 | .tup xs=>xs.length≤sizeLine∧∃its:List Value,Vals xs its∧IsTup h a its.toArray
 | .dK kvs=>kvs.length≤sizeLine∧(a==sysModules)=false∧∃vs,KV kvs vs∧h.DictOf (mixKind P w) a vs
 | .dT kvs=>kvs.length≤sizeLine∧(a==sysModules)=false∧∃xs:List (List Key×Addr×Value),
   Paired (fun(p:List Key×V) (q:List Key×Addr×Value)=>p.1=q.1∧H q.2.1=some (.tup (p.1.map kV))∧RelV p.2 q.2.2) kvs xs∧
   ∃o es ep,h.get? a=some o∧o.ExactDict∧o.data=.dict es ep∧es.toList=xs.map (entryOfKey (tupleKind (mixKind P w)))∧(xs.map (·.1)).Nodup
 | .set S n=>h.SetOf (intKind P w) a S n
 | .ins C dx fs=>H dx=some (.own a)∧fs.length≤1000∧dx≠a∧h.get? a=some (PySem.W.instObj C dx)∧
   ∃mA,h.Ns1 dx mA∧(∀f,RelO (fs.lookup f) (mA f))∧PySem.Within mA (fs.map (·.1))
 | .own _=>∃o,h.get? a=some o
 | .xd fs=>∃mA,h.Ns1 a mA∧∀f,RelO (fs.lookup f) (mA f)
 | .rng lo hi=>∃t u v,h.get? a=some { cls:=.type "range",data:=.fields #[.int lo t,.int hi u,.int 1 v] }
 | .frz o u=>h.get? a=some o∧ObjOk H h a u
 | .tbl ps=>h.get? a=some { cls:=.none,data:=.fields ps }
 | .met f x=>h.get? a=some (PySem.W.methodObj (.ref f) (.ref x))
 | .ext φ=>φ h∧(∃o,h.get? a=some o)∧∀h1 h2:Heap,φ h1→(∀o,h1.get? a=some o→h2.get? a=some o)→φ h2
noncomputable def HOk(H:Hp)(h:Heap):Prop:=∀a o,H a=some o→ObjOk P w H h a o
end
section
variable {P:Program}{w:World}{H H':Hp}{h h':Heap}{a:Addr}{o:HO}
theorem ObjOk.lt(x:ObjOk P w H h a o):a<h.objs.size:=by
 cases o with
 |lst xs=>obtain⟨_,_,_,_,e⟩:=x;exact Heap.lt_size e
 |tup xs=>obtain⟨_,_,_,p⟩:=x;exact p.lt
 |dK kvs=>obtain⟨_,_,_,_,o,_,_,e,_⟩:=x;exact Heap.lt_size e
 |dT kvs=>obtain⟨_,_,_,_,o,_,_,e,_⟩:=x;exact Heap.lt_size e
 |set S n=>obtain⟨o,_,_,_,e,_⟩:=x;exact Heap.lt_size e
 |ins C dx fs=>obtain⟨_,_,_,e,_⟩:=x;exact Heap.lt_size e
 |own y=>obtain⟨_,e⟩:=x;exact Heap.lt_size e
 |xd fs=>obtain⟨_,⟨_,_,_,e,_⟩,_⟩:=x;exact Heap.lt_size e
 |rng lo hi=>obtain⟨_,_,_,e⟩:=x;exact Heap.lt_size e
 |frz ob u=>obtain⟨e,_⟩:=x;exact Heap.lt_size e
 |tbl ps=>exact Heap.lt_size (show h.get? a=some _ from x)
 |met f y=>exact Heap.lt_size (show h.get? a=some _ from x)
 |ext φ=>obtain⟨_,⟨_,e⟩,_⟩:=x;exact Heap.lt_size e
theorem Paired.mapP{α β:Type}{F G:α→β→Prop}:∀{l₁:List α} {l₂:List β},Paired F l₁ l₂→(∀a b,F a b→G a b)→Paired G l₁ l₂
 |_,_,.nil,_=>.nil
 |_,_,.cons r t,f=>.cons (f _ _ r) (Paired.mapP t f)
theorem ObjOk.stay(x:ObjOk P w H h a o)(k:∀b u,(b=a∨H b=some (.own a))→h.get? b=some u→h'.get? b=some u)
  (ho:∀b,H b=some (.own a)→H' b=some (.own a)) (ht:∀b xs,H b=some (.tup xs)→H' b=some (.tup xs)):ObjOk P w H' h' a o:=by
 induction o with
 |lst xs=>obtain⟨z,its,n,r,e⟩:=x;exact⟨z,its,n,r,k _ _ (.inl rfl) e⟩
 |tup xs=>obtain⟨z,its,r,ob,e,c⟩:=x;exact⟨z,its,r,ob,k _ _ (.inl rfl) e,c⟩
 |dK kvs=>obtain⟨z,y,vs,r,ob,es,ep,e,c⟩:=x;exact⟨z,y,vs,r,ob,es,ep,k _ _ (.inl rfl) e,c⟩
 |dT kvs=>
  obtain⟨z,y,xs,r,ob,es,ep,e,c⟩:=x
  exact⟨z,y,xs,Paired.mapP r fun p q z=>⟨z.1,ht _ _ z.2.1,z.2.2⟩,ob,es,ep,k _ _ (.inl rfl) e,c⟩
 |set S n=>obtain⟨ob,es,ep,t,e,c⟩:=x;exact⟨ob,es,ep,t,k _ _ (.inl rfl) e,c⟩
 |ins C dx fs=>
  obtain⟨d,z,ne,e,mA,⟨od,es,ep,e2,c⟩,r⟩:=x
  exact⟨ho _ d,z,ne,k _ _ (.inl rfl) e,mA,⟨od,es,ep,k _ _ (.inr d) e2,c⟩,r⟩
 |own y=>obtain⟨ob,e⟩:=x;exact⟨ob,k _ _ (.inl rfl) e⟩
 |xd fs=>obtain⟨mA,⟨od,es,ep,e,c⟩,r⟩:=x;exact⟨mA,⟨od,es,ep,k _ _ (.inl rfl) e,c⟩,r⟩
 |rng lo hi=>obtain⟨t,u,v,e⟩:=x;exact⟨t,u,v,k _ _ (.inl rfl) e⟩
 |frz ob u ih=>obtain⟨e,q⟩:=x;exact⟨k _ _ (.inl rfl) e,ih q⟩
 |tbl ps=>
  have e:h.get? a=some { cls:=.none,data:=.fields ps }:=x
  show h'.get? a=some { cls:=.none,data:=.fields ps }
  exact k a _ (.inl rfl) e
 |met f y=>
  have e:h.get? a=some (PySem.W.methodObj (.ref f) (.ref y)):=x
  show h'.get? a=some (PySem.W.methodObj (.ref f) (.ref y))
  exact k a _ (.inl rfl) e
 |ext φ=>obtain⟨p,⟨o,e⟩,st⟩:=x;exact⟨st _ _ p fun o q=>k _ _ (.inl rfl) q,⟨o,k _ _ (.inl rfl) e⟩,st⟩
theorem HOk.lt(x:HOk P w H h)(e:H a=some o):a<h.objs.size:=(x a o e).lt
theorem HOk.fresh(x:HOk P w H h)(e:h.objs.size≤a):H a=none:=by
 cases q:H a with
 |none=>rfl
 |some u=>exact absurd (Nat.lt_of_lt_of_le (x.lt q) e) (Nat.lt_irrefl _)
theorem HOk.kept(x:HOk P w H h)(k:∀b u,h.get? b=some u→h'.get? b=some u):HOk P w H h':=fun a o e=>
 (x a o e).stay (fun b u _ q=>k b u q) (fun _ q=>q) fun _ _ q=>q
theorem HOk.laid(x:HOk P w H h)(k:∀b u,h.get? b=some u→h'.get? b=some u)(hp:h.objs.size≤a)(new:ObjOk P w (upd H a o) h' a o):HOk P w (upd H a o) h':=fun b u e=>by
 have hn:=x.fresh hp
 by_cases hb:b=a
 ·subst hb;rw[upd_same]at e;cases e;exact new
 ·rw[upd_ne hb]at e
  exact(x b u e).stay (fun c v _ q=>k c v q) (fun c q=>by rw[upd_ne (ne_of_none q hn)];exact q) fun c xs q=>by rw[upd_ne (ne_of_none q hn)];exact q
end
noncomputable def Rd(H:Hp)(a:Addr)(u:HO):Prop:=H a=some u∨∃o,H a=some (.frz o u)
theorem Rd.ok{P:Program}{w:World}{H:Hp}{h:Heap}{a:Addr}{u:HO}(r:Rd H a u)(x:HOk P w H h):ObjOk P w H h a u:=by
 rcases r with r|⟨o,r⟩
 ·exact x a u r
 ·obtain⟨_,q⟩:=x a _ r
  exact q
noncomputable def Mut:Option HO→Prop
 |some (.lst _)=>True
 |some (.dK _)=>True
 |some (.dT _)=>True
 |some (.set _ _)=>True
 |some (.ins _ _ _)=>True
 |some (.ext _)=>True
 |_=>False
section
variable {P:Program}{w:World}{H:Hp}{h h':Heap}{x e:Addr}{o':HO}
theorem HOk.write(ok:HOk P w H h)(mu:Mut (H x))(he:e=x∨H e=some (.own x))(k:∀b u,b≠e→h.get? b=some u→h'.get? b=some u)(heo:∃u,h'.get? e=some u)
  (new:ObjOk P w (upd H x o') h' x o'):HOk P w (upd H x o') h':=fun b u q=>by
 have nown:∀c y,H c=some (.own y)→c≠x:=fun c y r z=>by subst z;rw[r]at mu;exact mu
 have ntup:∀c xs,H c=some (.tup xs)→c≠x:=fun c xs r z=>by subst z;rw[r]at mu;exact mu
 by_cases hb:b=x
 ·subst hb;rw[upd_same]at q;cases q;exact new
 ·rw[upd_ne hb]at q
  by_cases hbe:b=e
  ·have q':H b=some (.own x):=by
    rcases he with z|z
    ·exact absurd (hbe.trans z) hb
    ·rw[hbe];exact z
   rw[q]at q';cases q'
   obtain⟨v,hv⟩:=heo
   exact⟨v,by rw[hbe];exact hv⟩
  ·refine(ok b u q).stay (fun c v hc r=>k c v ?_ r) (fun c r=>by rw[upd_ne (nown c b r)];exact r) fun c xs r=>by rw[upd_ne (ntup c xs r)];exact r
   rcases hc with rfl|hc
   ·exact hbe
   ·rintro rfl
    rcases he with z|z
    ·exact nown c b hc z
    ·rw[hc]at z;cases z;exact hb rfl
end
structure Un(fs ex:List Addr)(H H':Hp)(h h':Heap):Prop where
 keep:∀b o,h.get? b=some o→H b=none→b∉fs→b∉ex→h'.get? b=some o
 slot:∀b o,h.get? b=some o→H b=none→b∈fs→b∉ex→∃sl,h'.get? b=some { o with slots:=sl }
 free:∀b o,h.get? b=some o→H b=none→b∉ex→H' b=none
 there:∀b o,h.get? b=some o→b∉ex→∃o',h'.get? b=some o'
 tups:∀b xs,H b=some (.tup xs)→H' b=some (.tup xs)
 frzs:∀b o u,H b=some (.frz o u)→H' b=some (.frz o u)
 tbls:∀b ps,H b=some (.tbl ps)→∃more,H' b=some (.tbl (ps++more))
section
variable {fs fs' ex ex':List Addr}{H H1 H2:Hp}{h h1 h2 h':Heap}{a x e:Addr}{o:HO}
theorem Un.any(u:Un fs ex H H1 h h1){b:Addr}{ob:Obj}(q:h.get? b=some ob)(n:H b=none)(hx:b∉ex):∃sl,h1.get? b=some { ob with slots:=sl }:=by
 by_cases hb:b∈fs
 ·exact u.slot b ob q n hb hx
 ·exact⟨ob.slots,u.keep b ob q n hb hx⟩
theorem Un.kept(k:∀b u,h.get? b=some u→h'.get? b=some u):Un fs ex H H h h':=
 ⟨fun b ob q _ _ _=>k b ob q,fun b ob q _ _ _=>⟨ob.slots,k b ob q⟩,fun _ _ _ n _=>n,fun b ob q _=>⟨ob,k b ob q⟩,fun _ _ q=>q,fun _ _ _ q=>q,fun _ ps q=>⟨#[],by rw[q];simp⟩⟩
theorem Un.refl:Un fs ex H H h h:=Un.kept fun _ _ q=>q
theorem Un.laid(k:∀b u,h.get? b=some u→h'.get? b=some u)(hp:h.objs.size≤a)(hn:H a=none):Un fs ex H (upd H a o) h h' where
 keep:=fun b u q _ _ _=>k b u q
 slot:=fun b u q _ _ _=>⟨u.slots,k b u q⟩
 free:=fun b u q n _=>by rw[upd_ne (Nat.ne_of_lt (Nat.lt_of_lt_of_le (Heap.lt_size q) hp))];exact n
 there:=fun b u q _=>⟨u,k b u q⟩
 tups:=fun b xs q=>by rw[upd_ne (ne_of_none q hn)];exact q
 frzs:=fun b u xs q=>by rw[upd_ne (ne_of_none q hn)];exact q
 tbls:=fun b ps q=>⟨#[],by rw[upd_ne (ne_of_none q hn),q];simp⟩
theorem Un.write(mu:Mut (H x))(he:e=x∨H e=some (.own x))(k:∀b u,b≠e→h.get? b=some u→h'.get? b=some u)(heo:∃u,h'.get? e=some u):Un fs ex H (upd H x o) h h':=by
 have hx:∀b,H b=none→b≠x:=fun b n z=>by subst z;rw[n]at mu;exact mu
 have hb:∀b,H b=none→b≠e:=fun b n z=>by
  subst z
  rcases he with r|r
  ·exact hx b n r
  ·rw[n]at r;cases r
 have hm:∀b u,H b=some u→¬Mut (some u)→b≠x:=fun b u q nm z=>by subst z;rw[q]at mu;exact nm mu
 refine⟨fun b u q n _ _=>k b u (hb b n) q,fun b u q n _ _=>⟨u.slots,k b u (hb b n) q⟩,fun b u q n _=>by rw[upd_ne (hx b n)];exact n,fun b u q _=>?_,
  fun b xs q=>by rw[upd_ne (hm b _ q fun z=>z)];exact q,fun b u xs q=>by rw[upd_ne (hm b _ q fun z=>z)];exact q,fun b ps q=>⟨#[],by rw[upd_ne (hm b _ q fun z=>z),q];simp⟩⟩
 by_cases hbe:b=e
 ·subst hbe;exact heo
 ·exact⟨u,k b u hbe q⟩
end
noncomputable def trk(h:Heap)(H:Hp):List Addr:=(List.range h.objs.size).filter fun a=>(H a).isSome
noncomputable def hidT(h:Heap)(H:Hp):Heap:=PySem.W.hideAll h (trk h H)
theorem hidT_size(h:Heap)(H:Hp):(hidT h H).objs.size=h.objs.size:=PySem.W.hideAll_size _ _
theorem hidT_get{h:Heap}{H:Hp}{b:Addr}{o:Obj}(e:h.get? b=some o)(n:H b=none):(hidT h H).get? b=some o:=
 PySem.W.hideAll_get _ e fun hm=>by
  have q:(H b).isSome=true:=(List.mem_filter.mp hm).2
  rw[n]at q;simp at q
theorem of_hidT{h:Heap}{H:Hp}{b:Addr}{o:Obj}(e:(hidT h H).get? b=some o):h.get? b=some o∧H b=none:=by
 have e':h.get? b=some o:=PySem.W.of_hideAll (trk h H) e
 refine⟨e',?_⟩
 cases q:H b with
 |none=>rfl
 |some x=>
  have hm:b∈trk h H:=List.mem_filter.mpr ⟨List.mem_range.mpr (Heap.lt_size e'),by simp[q]⟩
  have z:(hidT h H).get? b=none:=PySem.W.hideAll_none (trk h H) hm
  rw[z]at e;cases e
noncomputable def allNews(g h:Heap)(L:Addr):List (Addr×Obj):=(List.range h.objs.size).filterMap fun a=>if a=L∨(g.get? a).isSome=true then none else(h.get? a).map fun o=>(a,o)
theorem mem_allNews{g h:Heap}{L a:Addr}{o:Obj}(h1:a≠L)(h2:g.get? a=none)(h3:h.get? a=some o):(a,o)∈allNews g h L:=
 List.mem_filterMap.mpr ⟨a,List.mem_range.mpr (Heap.lt_size h3),by simp[h1,h2,h3]⟩
theorem of_mem_allNews{g h:Heap}{L:Addr}{p:Addr×Obj}(hp:p∈allNews g h L):p.1≠L∧g.get? p.1=none∧h.get? p.1=some p.2:=by
 obtain⟨b,_,e⟩:=List.mem_filterMap.mp hp
 split at e
 ·cases e
 ·rename_i hn
  cases q:h.get? b with
  |none=>rw[q]at e;simp at e
  |some u=>
   rw[q]at e
   simp only[Option.map_some,Option.some.injEq]at e
   subst e
   refine⟨fun z=>hn (.inl z),?_,q⟩
   show g.get? b=none
   cases r:g.get? b with
   |none=>rfl
   |some v=>exact(hn (.inr (by simp[r]))).elim
noncomputable def rest(g h:Heap)(L d:Addr):List (Addr×Obj):=(allNews g h L).filter fun p=>decide (p.1≠d)
theorem news_all{g h:Heap}{L:Addr}:News g L h (allNews g h L):=fun p hp=>let⟨a,b,c⟩:=of_mem_allNews hp;⟨c,a,b⟩
end L2
namespace L2
open PySem PySem.Spec PyProof.Rows
structure Mod(K:PySem.W.Frag)(mg:Str→Option Value)(base:Heap):Prop where
 kin:K.In base
 glob:base.Ns mainGlobals mg
 blt:∃mb,base.Ns builtinsNs mb∧∀x:Str,x≠"__name__"→mb x=bootBuiltins x
 nolimit:base.NoLimit
structure Cx where
 prog:Program
 w:World
 K:PySem.W.Frag
 mg:Str→Option Value
 base:Heap
 A:Around
 N:List Str
 s_0:Shared
 H_0:Hp
 env:Env
 outer:List Env
 stack:List Env
 ex:List Addr
 fn:Str→Bool
 calm:Bool
 pn:List (Addr×Obj)
 xe:Value→Shared→Prop
noncomputable def frs(l:List Env):List Addr:=l.filterMap (·.frame)
noncomputable abbrev Cx.fs(X:Cx):List Addr:=frs X.outer
noncomputable def Vis(sc:Scope)(x:Str):Prop:=sc.names.lookup x=some .local∨sc.names.lookup x=some .cell∨sc.names.lookup x=some .free
noncomputable def Loc(sc:Scope)(x:Str):Prop:=sc.names.lookup x=some .local∨sc.names.lookup x=some .cell
noncomputable def Look(env:Env)(h:Heap)(m:Str→Option Value)(x:Str)(u:Value):Prop:=
 (env.kindOf x=some .local∧m x=some u)∨((env.kindOf x=some .cell∨env.kindOf x=some .free)∧∃c,env.cells.lookup x=some c∧h.IsCell c (some u))
structure Cx.Ok(X:Cx):Prop where
 mod:Mod X.K X.mg X.base
 kind:X.env.scope.kind=.function
 glob:X.env.globals=mainGlobals
 blt:X.env.builtins=builtinsNs
 above:X.s_0.heap.objs.size≤X.env.locals
 inj:∀x y c,X.env.cells.lookup x=some c→X.env.cells.lookup y=some c→x=y
 has:∀x,(X.env.kindOf x=some .cell∨X.env.kindOf x=some .free)→∃c,X.env.cells.lookup x=some c
 cab:∀x c,X.fn x=true→X.env.cells.lookup x=some c→X.s_0.heap.objs.size≤c
 hd:X.calm=true→X.A.handled=none
 frames:X.A.frames=some X.stack
 stk:X.stack=X.outer∨(X.stack=X.env::X.outer∧X.env.frame=some X.env.locals)
 exf:∀b∈X.ex,b≠X.env.locals∧∀x c,X.env.cells.lookup x=some c→c≠b
 bs:∀b o,X.base.get? b=some o→X.s_0.heap.get? b=some o∧X.H_0 b=none
 bsz:X.base.objs.size≤X.s_0.heap.objs.size
 noex:∀b o,X.base.get? b=some o→b∉X.ex
 exfs:∀b∈X.ex,b∉X.fs
 funs:X.s_0.heap.FunFrames X.base X.outer
 frf:∀b∈X.fs,X.H_0 b=none
structure Inv(X:Cx)(pins:List (Addr×Obj))(σ:List (Option V))(H:Hp)(s:Shared):Prop where
 ok:X.Ok
 os:s.os=X.s_0.os
 bare:AllBare s.gens
 base:Un X.fs X.ex X.H_0 H X.s_0.heap s.heap
 loc:∃m,s.heap.Ns X.env.locals m∧∀(i:Nat) (x:Str) (v:V),X.N[i]?=some x→σ[i]?=some (some v)→Vis X.env.scope x→∃u,RelV v u∧Look X.env s.heap m x u
 cell:∀x c,X.env.cells.lookup x=some c→∃v,s.heap.IsCell c v
 free:H X.env.locals=none
 freeC:∀x c,X.env.cells.lookup x=some c→H c=none
 pin:∀p∈X.pn++pins,s.heap.get? p.1=some p.2∧H p.1=none∧p.1≠X.env.locals∧p.1∉X.fs∧∀v,p.2.data≠.cell v
 hok:HOk X.prog X.w H s.heap
 len:σ.length=X.N.length
section
variable {X:Cx}{pins:List (Addr×Obj)}{σ:List (Option V)}{H H':Hp}{s:Shared}{h':Heap}
theorem Cx.Ok.nofr(ok:X.Ok){b:Addr}{o:Obj}(e:X.base.get? b=some o):b∉X.fs:=fun hb=>by
 have:=(ok.funs.mem hb).1
 rw[e]at this;cases this
theorem Inv.bs(I:Inv X pins σ H s):∀b o,X.base.get? b=some o→s.heap.get? b=some o∧H b=none:=fun b o e=>
 ⟨I.base.keep b o (I.ok.bs b o e).1 (I.ok.bs b o e).2 (I.ok.nofr e) (I.ok.noex b o e),I.base.free b o (I.ok.bs b o e).1 (I.ok.bs b o e).2 (I.ok.noex b o e)⟩
theorem Inv.bk(I:Inv X pins σ H s):∀b o,X.base.get? b=some o→s.heap.get? b=some o:=fun b o e=>(I.bs b o e).1
theorem Inv.mod(I:Inv X pins σ H s):Mod X.K X.mg X.base:=I.ok.mod
theorem Inv.kIn(I:Inv X pins σ H s):X.K.In s.heap:=I.ok.mod.kin.keeps I.bk
theorem Inv.fr(I:Inv X pins σ H s):∃m,Fr X.base X.env.locals s.heap m:=
 let⟨m,hn,_⟩:=I.loc
 ⟨m,hn,I.bk,Nat.le_trans I.ok.bsz I.ok.above⟩
theorem Inv.lt(I:Inv X pins σ H s):X.env.locals<s.heap.objs.size:=let⟨_,hn,_⟩:=I.loc;hn.lt
theorem Inv.sz(I:Inv X pins σ H s):X.s_0.heap.objs.size≤s.heap.objs.size:=Nat.le_trans I.ok.above (Nat.le_of_lt I.lt)
theorem Inv.nofs(I:Inv X pins σ H s){a:Addr}(h:s.heap.objs.size≤a):a∉X.fs:=fun hb=>by
 obtain⟨_,o,ho,_⟩:=I.ok.funs.mem hb
 exact absurd (Nat.lt_of_lt_of_le (Heap.lt_size ho) (Nat.le_trans I.sz h)) (Nat.lt_irrefl _)
theorem Inv.cne(I:Inv X pins σ H s):∀x c,X.env.cells.lookup x=some c→c≠X.env.locals:=fun x c e z=>by
 obtain⟨v,o,ho,hd⟩:=I.cell x c e
 obtain⟨m,⟨o',es,ep,ho',hd',_⟩,_⟩:=I.loc
 rw[z,ho']at ho;cases ho;rw[hd']at hd;cases hd
theorem Inv.funs(I:Inv X pins σ H s):s.heap.FunFrames X.base X.outer:=by
 have all:∀(l:List Env),(∀b∈frs l,b∈X.fs)→X.s_0.heap.FunFrames X.base l→s.heap.FunFrames X.base l:=by
  intro l
  induction l with
  |nil=>intro _ _;trivial
  |cons env r ih=>
   intro hs hl
   obtain⟨hk,⟨L,o,hf,hn,ho,hd⟩,hr⟩:=hl
   have hL:L∈X.fs:=hs L (by unfold frs;rw[List.filterMap_cons,hf];exact List.mem_cons_self)
   obtain⟨sl,e⟩:=I.base.slot L o ho (I.ok.frf L hL) hL fun z=>I.ok.exfs L z hL
   exact⟨hk,⟨L,_,hf,hn,e,hd⟩,ih (fun b hb=>hs b (by unfold frs;rw[List.filterMap_cons,hf];exact List.mem_cons_of_mem _ hb)) hr⟩
 exact all X.outer (fun _ hb=>hb) I.ok.funs
theorem Inv.stack(I:Inv X pins σ H s):s.heap.FunFrames X.base X.stack:=by
 rcases I.ok.stk with e|⟨e,hf⟩
 ·rw[e];exact I.funs
 ·rw[e]
  obtain⟨m,hn,_⟩:=I.loc
  refine .cons (by rw[I.ok.kind];decide) hf hn ?_ I.funs
  exact Heap.get?_none_of_le (Nat.le_trans I.ok.bsz I.ok.above)
theorem Inv.stkSub(I:Inv X pins σ H s):∀b∈frs X.stack,b∈X.env.locals::X.fs:=fun b hb=>by
 rcases I.ok.stk with e|⟨e,hf⟩
 ·rw[e]at hb;exact List.mem_cons_of_mem _ hb
 ·rw[e]at hb
  unfold frs at hb
  rw[List.filterMap_cons,hf]at hb
  exact hb
theorem Inv.stkFree(I:Inv X pins σ H s):∀b∈frs X.stack,H b=none:=fun b hb=>by
 rcases List.mem_cons.mp (I.stkSub b hb)with e|hb
 ·rw[e];exact I.free
 ·obtain⟨_,o,ho,_⟩:=I.ok.funs.mem hb
  exact I.base.free b o ho (I.ok.frf b hb) fun z=>I.ok.exfs b z hb
theorem Inv.step{g':Array GenState}{t':Nat}{d':Drawn}{ch:List Addr}(I:Inv X pins σ H s)
  (hch:∀b∈ch,(b∈X.ex∨X.s_0.heap.objs.size≤b)∧b≠X.env.locals∧(∀x c,X.env.cells.lookup x=some c→c≠b)∧∀p∈X.pn++pins,p.1≠b)
  (keep:∀b o,b≠X.env.locals→b∉X.fs→b∉ch→s.heap.get? b=some o→H b=none→h'.get? b=some o)
  (slot:∀b o,b≠X.env.locals→b∈X.fs→b∉ch→s.heap.get? b=some o→H b=none→∃sl,h'.get? b=some { o with slots:=sl }) (free:∀b o,b∉ch→s.heap.get? b=some o→H b=none→H' b=none)
  (there:∀b o,b∉ch→s.heap.get? b=some o→∃o',h'.get? b=some o')
  (tups:∀b xs,H b=some (.tup xs)→H' b=some (.tup xs)) (frzs:∀b o u,H b=some (.frz o u)→H' b=some (.frz o u)) (tbls:∀b ps,H b=some (.tbl ps)→∃more,H' b=some (.tbl (ps++more)))
  (ns:∀m,s.heap.Ns X.env.locals m→h'.Ns X.env.locals m) (hok:HOk X.prog X.w H' h') (hg:AllBare g'):
  Inv X pins σ H' { s with heap:=h',gens:=g',drawn:=d',toks:=t' }:=by
 have neL:∀b o,X.s_0.heap.get? b=some o→b≠X.env.locals:=fun b o e=>Nat.ne_of_lt (Nat.lt_of_lt_of_le (Heap.lt_size e) I.ok.above)
 have neC:∀b o,X.s_0.heap.get? b=some o→b∉X.ex→b∉ch:=fun b o e hx hb=>by
  rcases(hch b hb).1 with z|z
  ·exact hx z
  ·exact absurd (Nat.lt_of_lt_of_le (Heap.lt_size e) z) (Nat.lt_irrefl _)
 have cellK:∀x c,X.env.cells.lookup x=some c→∀v,s.heap.IsCell c v→h'.IsCell c v:=fun x c e v ⟨o,ho,hd⟩=>by
  have nch:c∉ch:=fun z=>(hch c z).2.2.1 x c e rfl
  by_cases hc:c∈X.fs
  ·obtain⟨sl,q⟩:=slot c o (I.cne x c e) hc nch ho (I.freeC x c e)
   exact⟨_,q,hd⟩
  ·exact⟨o,keep c o (I.cne x c e) hc nch ho (I.freeC x c e),hd⟩
 refine⟨I.ok,I.os,hg,⟨fun b o e n hb hx=>?_,fun b o e n hb hx=>?_,fun b o e n hx=>?_,fun b o e hx=>?_,fun b xs e=>tups b xs (I.base.tups b xs e),fun b o xs e=>frzs b o xs (I.base.frzs b o xs e),fun b ps e=>?_⟩,?_,fun x c e=>?_,?_,fun x c e=>?_,fun p hp=>?_,hok,I.len⟩
 ·exact keep b o (neL b o e) hb (neC b o e hx) (I.base.keep b o e n hb hx) (I.base.free b o e n hx)
 ·obtain⟨sl,e1⟩:=I.base.slot b o e n hb hx
  obtain⟨sl',e2⟩:=slot b _ (neL b o e) hb (neC b o e hx) e1 (I.base.free b o e n hx)
  exact⟨sl',e2⟩
 ·obtain⟨o',e1⟩:=I.base.there b o e hx
  exact free b o' (neC b o e hx) e1 (I.base.free b o e n hx)
 ·obtain⟨o',e1⟩:=I.base.there b o e hx
  exact there b o' (neC b o e hx) e1
 ·obtain⟨m1,e1⟩:=I.base.tbls b ps e
  obtain⟨m2,e2⟩:=tbls b _ e1
  exact⟨m1++m2,by rw[e2,Array.append_assoc]⟩
 ·obtain⟨m,hn,hl⟩:=I.loc
  refine⟨m,ns m hn,fun i x v e1 e2 e3=>?_⟩
  obtain⟨u,r,l⟩:=hl i x v e1 e2 e3
  refine⟨u,r,?_⟩
  rcases l with l|⟨k,c,e,z⟩
  ·exact .inl l
  ·exact .inr ⟨k,c,e,cellK x c e _ z⟩
 ·obtain⟨v,z⟩:=I.cell x c e
  exact⟨v,cellK x c e v z⟩
 ·obtain⟨m,⟨o,_,_,ho,_⟩,_⟩:=I.loc
  exact free _ o (fun z=>(hch _ z).2.1 rfl) ho I.free
 ·obtain⟨v,o,ho,hd⟩:=I.cell x c e
  exact free c o (fun z=>(hch c z).2.2.1 x c e rfl) ho (I.freeC x c e)
 ·obtain⟨e,n,ne,nf,d⟩:=I.pin p hp
  have nch:p.1∉ch:=fun z=>(hch p.1 z).2.2.2 p hp rfl
  exact⟨keep p.1 p.2 ne nf nch e n,free p.1 p.2 nch e n,ne,nf,d⟩
theorem Inv.un{t':Nat}(I:Inv X pins σ H s)(u:Un X.fs [] H H' s.heap h')(hok:HOk X.prog X.w H' h'):Inv X pins σ H' { s with heap:=h',toks:=t' }:=by
 obtain⟨m,⟨o,es,ep,ho,r⟩,_⟩:=id I.loc
 obtain⟨sl,hL⟩:=u.any ho I.free (by simp)
 exact I.step (g':=s.gens) (d':=s.drawn) (ch:=[]) (fun _ z=>nomatch z) (fun b o _ hb _ e n=>u.keep b o e n hb (by simp)) (fun b o _ hb _ e n=>u.slot b o e n hb (by simp)) (fun b o _ e n=>u.free b o e n (by simp)) (fun b o _ e=>u.there b o e (by simp)) u.tups u.frzs u.tbls (fun m' hm=>by
  obtain⟨o',es',ep',ho',r'⟩:=hm
  rw[ho]at ho';cases ho'
  exact⟨_,es',ep',hL,r'⟩) hok I.bare
theorem Inv.call{g':Array GenState}{t':Nat}{d':Drawn}{ch:List Addr}(I:Inv X pins σ H s)(u:Un (frs X.stack) ch H H' s.heap h')(hok:HOk X.prog X.w H' h')(hg:AllBare g')
  (hch:∀b∈ch,(b∈X.ex∨X.s_0.heap.objs.size≤b)∧b≠X.env.locals∧(∀x c,X.env.cells.lookup x=some c→c≠b)∧∀p∈X.pn++pins,p.1≠b):
  Inv X pins σ H' { s with heap:=h',gens:=g',drawn:=d',toks:=t' }:=by
 obtain⟨m,⟨o,es,ep,ho,r⟩,_⟩:=id I.loc
 obtain⟨sl,hL⟩:=u.any ho I.free fun z=>(hch _ z).2.1 rfl
 exact I.step (ch:=ch) hch (fun b o hL hb hc e n=>u.keep b o e n (fun z=>(List.mem_cons.mp (I.stkSub b z)).elim hL hb) hc) (fun b o _ _ hc e n=>u.any e n hc) (fun b o hc e n=>u.free b o e n hc) (fun b o hc e=>u.there b o e hc) u.tups u.frzs u.tbls (fun m' hm=>by
  obtain⟨o',es',ep',ho',r'⟩:=hm
  rw[ho]at ho';cases ho'
  exact⟨_,es',ep',hL,r'⟩) hok hg
theorem Inv.turned{t':Nat}{it:Addr}(I:Inv X pins σ H s)(k:∀b o,b≠it→s.heap.get? b=some o→h'.get? b=some o)(hn:H it=none)(hL:it≠X.env.locals)
  (h1:it∈X.ex∨X.s_0.heap.objs.size≤it) (h2:∀x c,X.env.cells.lookup x=some c→c≠it) (h3:∀p∈X.pn++pins,p.1≠it):Inv X pins σ H { s with heap:=h',toks:=t' }:=by
 have nit:∀b u,H b=some u→b≠it:=fun b u e z=>by rw[z,hn]at e;cases e
 refine I.step (g':=s.gens) (d':=s.drawn) (ch:=[it]) (fun b hb=>?_) (fun b o _ _ hc e _=>k b o (fun z=>hc (by simp[z])) e) (fun b o _ _ hc e _=>⟨o.slots,k b o (fun z=>hc (by simp[z])) e⟩) (fun _ _ _ _ n=>n)
  (fun b o hc e=>⟨o,k b o (fun z=>hc (by simp[z])) e⟩) (fun _ _ e=>e) (fun _ _ _ e=>e) (fun b ps e=>⟨#[],by rw[e];simp⟩) (fun m hm=>?_) (fun b u e=>?_) I.bare
 ·have e:b=it:=by simpa using hb
  subst e
  exact⟨h1,hL,h2,h3⟩
 ·obtain⟨o,es,ep,ho,r⟩:=hm
  exact⟨o,es,ep,k _ o (Ne.symm hL) ho,r⟩
 ·refine(I.hok b u e).stay (fun c v hc q=>k c v ?_ q) (fun _ q=>q) fun _ _ q=>q
  rcases hc with z|z
  ·rw[z];exact nit b u e
  ·exact nit c _ z
theorem Inv.tok(I:Inv X pins σ H s)(t:Nat):Inv X pins σ H { s with toks:=t }:=I.un (h':=s.heap) (t':=t) Un.refl I.hok
theorem Inv.kept{t':Nat}(I:Inv X pins σ H s)(k:∀b u,s.heap.get? b=some u→h'.get? b=some u):Inv X pins σ H { s with heap:=h',toks:=t' }:=I.un (Un.kept k) (I.hok.kept k)
theorem Inv.laid{a:Addr}{o:HO}{t':Nat}(I:Inv X pins σ H s)(k:∀b u,s.heap.get? b=some u→h'.get? b=some u)(hp:s.heap.objs.size≤a)(new:ObjOk X.prog X.w (upd H a o) h' a o):
  Inv X pins σ (upd H a o) { s with heap:=h',toks:=t' }:=I.un (Un.laid k hp (I.hok.fresh hp)) (I.hok.laid k hp new)
theorem Inv.write{x e:Addr}{o:HO}{t':Nat}(I:Inv X pins σ H s)(mu:Mut (H x))(he:e=x∨H e=some (.own x))(k:∀b u,b≠e→s.heap.get? b=some u→h'.get? b=some u)(heo:∃u,h'.get? e=some u)
  (new:ObjOk X.prog X.w (upd H x o) h' x o):Inv X pins σ (upd H x o) { s with heap:=h',toks:=t' }:=I.un (Un.write mu he k heo) (I.hok.write mu he k heo new)
theorem Inv.weak{σ':List (Option V)}(I:Inv X pins σ H s)(hl:σ'.length=σ.length)(w:∀(i:Nat) v,σ'[i]?=some (some v)→σ[i]?=some (some v)):Inv X pins σ' H s:=
 ⟨I.ok,I.os,I.bare,I.base,let⟨m,hn,hl'⟩:=I.loc;⟨m,hn,fun i x v e1 e2 e3=>hl' i x v e1 (w i v e2) e3⟩,I.cell,I.free,I.freeC,I.pin,I.hok,hl.trans I.len⟩
theorem Inv.pins_of{pins':List (Addr×Obj)}(I:Inv X pins σ H s)(h:∀p∈pins',s.heap.get? p.1=some p.2∧H p.1=none∧p.1≠X.env.locals∧p.1∉X.fs∧∀v,p.2.data≠.cell v):Inv X pins' σ H s:=
 ⟨I.ok,I.os,I.bare,I.base,I.loc,I.cell,I.free,I.freeC,fun p hp=>(List.mem_append.mp hp).elim (fun z=>I.pin p (List.mem_append_left _ z)) (h p),I.hok,I.len⟩
theorem nodup_ix{N:List Str}(hN:N.Nodup){i j:Nat}{x:Str}(a:N[i]?=some x)(b:N[j]?=some x):i=j:=by
 obtain⟨h1,e1⟩:=List.getElem?_eq_some_iff.mp a
 obtain⟨h2,e2⟩:=List.getElem?_eq_some_iff.mp b
 exact(List.getElem_inj hN).mp (e1.trans e2.symm)
theorem store_ok2{M:Model}{A:Around}{E:Value→Shared→Prop}{i:Nat}{x:Str}{v:V}{u:Value}{Q:Unit→Shared→Prop}(I:Inv X pins σ H s)(hN:X.N.Nodup)(hi:X.N[i]?=some x)(hx:Loc X.env.scope x)(r:RelV v u)
  (h:∀s',Inv X pins (σ.set i (some v)) H s'→(∃a,Heap.SameBut a s.heap s'.heap∧(a=X.env.locals∨X.env.cells.lookup x=some a))→Q () s') (hf:X.fn x=true∨X.env.scope.names.lookup x=some .local:=by first|exact .inl rfl|exact .inr rfl|assumption):wpAny M A (storeName X.env x u) Q E s:=by
 obtain⟨m,hn,hl⟩:=id I.loc
 have hcls:(X.env.scope.kind==.class||(X.env.scope.kind==.module&&X.env.locals != X.env.globals))=false:=by rw[I.ok.kind];rfl
 have hiσ:i<σ.length:=by rw[I.len];exact(List.getElem?_eq_some_iff.mp hi).1
 have cne:=I.cne
 have tracked:∀{a:Addr} {h':Heap},(∃o,s.heap.get? a=some o∧H a=none)→Heap.SameBut a s.heap h'→HOk X.prog X.w H h':=fun{a h'} ha hs b ob e=>by
  obtain⟨_,_,hfree⟩:=ha
  refine(I.hok b ob e).stay (fun c w' hc q=>(hs.2 c ?_).trans q) (fun _ q=>q) fun _ _ q=>q
  rintro rfl
  rcases hc with rfl|hc
  ·rw[hfree]at e;cases e
  ·rw[hfree]at hc;cases hc
 rcases hx with hk|hk
 ·refine wpAny_storeName_local hk hn (fun h' hn' hs=>?_) hcls
  obtain⟨oL,_,_,hoL,_⟩:=id hn
  refine h _ ⟨I.ok,I.os,I.bare,⟨fun b o e n hb hx=>?_,fun b o e n hb hx=>?_,I.base.free,fun b o e hx=>?_,I.base.tups,I.base.frzs,I.base.tbls⟩,⟨_,hn',fun j y v' e1 e2 e3=>?_⟩,fun y c e=>?_,I.free,I.freeC,fun p hp=>?_,tracked ⟨oL,hoL,I.free⟩ hs,by simpa using I.len⟩ ⟨_,hs,.inl rfl⟩
  ·exact(hs.2 b (Nat.ne_of_lt (Nat.lt_of_lt_of_le (Heap.lt_size e) I.ok.above))).trans (I.base.keep b o e n hb hx)
  ·obtain⟨sl,e1⟩:=I.base.slot b o e n hb hx
   exact⟨sl,(hs.2 b (Nat.ne_of_lt (Nat.lt_of_lt_of_le (Heap.lt_size e) I.ok.above))).trans e1⟩
  ·obtain⟨o',e1⟩:=I.base.there b o e hx
   exact⟨o',(hs.2 b (Nat.ne_of_lt (Nat.lt_of_lt_of_le (Heap.lt_size e) I.ok.above))).trans e1⟩
  ·by_cases hj:j=i
   ·subst hj
    rw[hi]at e1;cases e1
    rw[List.getElem?_set_self hiσ]at e2
    cases e2
    exact⟨u,r,.inl ⟨hk,by simp⟩⟩
   ·rw[List.getElem?_set_ne (Ne.symm hj)]at e2
    obtain⟨u',r',q⟩:=hl j y v' e1 e2 e3
    refine⟨u',r',?_⟩
    rcases q with⟨k,e⟩|⟨k,c,e,z⟩
    ·refine .inl ⟨k,?_⟩
     have:y≠x:=fun e=>hj (nodup_ix hN e1 (e▸hi))
     simp[this,e]
    ·exact .inr ⟨k,c,e,z.sameBut hs (cne y c e)⟩
  ·obtain⟨w',z⟩:=I.cell y c e
   exact⟨w',z.sameBut hs (cne y c e)⟩
  ·obtain⟨e,n,ne,nf,d⟩:=I.pin p hp
   exact⟨(hs.2 p.1 ne).trans e,n,ne,nf,d⟩
 ·have hfn:X.fn x=true:=by
   rcases hf with z|z
   ·exact z
   ·rw[z]at hk;cases hk
  obtain⟨c,hc⟩:=I.ok.has x (.inl hk)
  obtain⟨w',z⟩:=I.cell x c hc
  refine wpAny_storeName_cell I.ok.kind hk hc z (fun h' hc' hs=>?_)
  obtain⟨oc,hoc,hocd⟩:=id z
  refine h { s with heap:=h' } ⟨I.ok,I.os,I.bare,⟨fun b o e n hb hx=>?_,fun b o e n hb hx=>?_,I.base.free,fun b o e hx=>?_,I.base.tups,I.base.frzs,I.base.tbls⟩,⟨m,hn.sameBut hs (Ne.symm (cne x c hc)),fun j y v' e1 e2 e3=>?_⟩,fun y c' e=>?_,I.free,I.freeC,fun p hp=>?_,tracked ⟨oc,hoc,I.freeC x c hc⟩ hs,by simpa using I.len⟩ ⟨c,hs,.inr hc⟩
  ·exact(hs.2 b (Nat.ne_of_lt (Nat.lt_of_lt_of_le (Heap.lt_size e) (I.ok.cab x c hfn hc)))).trans (I.base.keep b o e n hb hx)
  ·obtain⟨sl,e1⟩:=I.base.slot b o e n hb hx
   exact⟨sl,(hs.2 b (Nat.ne_of_lt (Nat.lt_of_lt_of_le (Heap.lt_size e) (I.ok.cab x c hfn hc)))).trans e1⟩
  ·obtain⟨o',e1⟩:=I.base.there b o e hx
   exact⟨o',(hs.2 b (Nat.ne_of_lt (Nat.lt_of_lt_of_le (Heap.lt_size e) (I.ok.cab x c hfn hc)))).trans e1⟩
  ·by_cases hj:j=i
   ·subst hj
    rw[hi]at e1;cases e1
    rw[List.getElem?_set_self hiσ]at e2
    cases e2
    exact⟨u,r,.inr ⟨.inl hk,c,hc,hc'⟩⟩
   ·rw[List.getElem?_set_ne (Ne.symm hj)]at e2
    obtain⟨u',r',q⟩:=hl j y v' e1 e2 e3
    refine⟨u',r',?_⟩
    rcases q with q|⟨k,c',e,z'⟩
    ·exact .inl q
    ·refine .inr ⟨k,c',e,z'.sameBut hs ?_⟩
     rintro rfl
     exact hj (nodup_ix hN e1 (I.ok.inj _ _ _ e hc▸hi))
  ·by_cases hcc:c'=c
   ·subst hcc;exact⟨_,hc'⟩
   ·obtain⟨w2,z2⟩:=I.cell y c' e
    exact⟨w2,z2.sameBut hs hcc⟩
  ·obtain⟨e,n,ne,nf,d⟩:=I.pin p hp
   refine⟨(hs.2 p.1 ?_).trans e,n,ne,nf,d⟩
   intro q
   rw[q,hoc]at e
   have q':oc=p.2:=Option.some.inj e
   exact d w' (by rw[←q'];exact hocd)
theorem store_ok{M:Model}{A:Around}{E:Value→Shared→Prop}{i:Nat}{x:Str}{v:V}{u:Value}{Q:Unit→Shared→Prop}(I:Inv X pins σ H s)(hN:X.N.Nodup)(hi:X.N[i]?=some x)(hx:Loc X.env.scope x)(r:RelV v u)
  (h:∀s',Inv X pins (σ.set i (some v)) H s'→Q () s') (hf:X.fn x=true∨X.env.scope.names.lookup x=some .local:=by first|exact .inl rfl|exact .inr rfl|assumption):wpAny M A (storeName X.env x u) Q E s:=
 store_ok2 I hN hi hx r (fun s' I' _=>h s' I') hf
theorem Inv.call'{s':Shared}{ch:List Addr}(I:Inv X pins σ H s)(ho:s'.os=s.os)(u:Un (frs X.stack) ch H H' s.heap s'.heap)(hok:HOk X.prog X.w H' s'.heap)(hg:AllBare s'.gens)
  (hch:∀b∈ch,(b∈X.ex∨X.s_0.heap.objs.size≤b)∧b≠X.env.locals∧(∀x c,X.env.cells.lookup x=some c→c≠b)∧∀p∈X.pn++pins,p.1≠b):Inv X pins σ H' s':=by
 obtain⟨h',g',d',t',o'⟩:=s'
 have e:o'=s.os:=ho
 subst e
 exact I.call (g':=g') (t':=t') (d':=d') u hok hg hch
end
noncomputable abbrev XK:=Value→Option Addr→Hp→Prop
noncomputable abbrev St:=List (Option V)
noncomputable abbrev VK:=V→Hp→Prop
noncomputable abbrev TE:=St→Hp→VK→Prop
noncomputable abbrev TT:=St→Hp→(Bool→Hp→Prop)→Prop
noncomputable abbrev TA:=St→Hp→(List V→Hp→Prop)→Prop
structure Ends where
 nx:St→Hp→Prop
 rt:VK
 bk:St→Hp→Prop:=fun _ _=>False
 ct:St→Hp→Prop:=fun _ _=>False
noncomputable abbrev TS:=Ends→St→Hp→Prop
noncomputable def EP(X:Cx)(pins:List (Addr×Obj))(σ:St)(Q:VK)(u:Value)(s':Shared):Prop:=∃v H',Inv X pins σ H' s'∧RelV v u∧Q v H'
noncomputable def TP(X:Cx)(pins:List (Addr×Obj))(σ:St)(Q:Bool→Hp→Prop)(b:Bool)(s':Shared):Prop:=∃H',Inv X pins σ H' s'∧Q b H'
noncomputable def AP(X:Cx)(pins:List (Addr×Obj))(σ:St)(Q:List V→Hp→Prop)(us:List Value)(s':Shared):Prop:=∃vs H',Inv X pins σ H' s'∧Vals vs us∧Q vs H'
noncomputable def SP(X:Cx)(pins:List (Addr×Obj))(D:Ends)(f:Flow)(s':Shared):Prop:=
 match f with
 | .next=>∃σ' H',Inv X pins σ' H' s'∧D.nx σ' H'
 | .brk=>∃σ' H',Inv X pins σ' H' s'∧D.bk σ' H'
 | .cont=>∃σ' H',Inv X pins σ' H' s'∧D.ct σ' H'
 | .ret u=>∃v σ' H',Inv X pins σ' H' s'∧RelV v u∧D.rt v H'
noncomputable def PE(X:Cx)(e:Expr)(t:TE):Prop:=
 ∀(pins:List (Addr×Obj)) (s:Shared) (σ:St) (H:Hp) (Q:VK),Inv X pins σ H s→t σ H Q→wpAny (model X.prog X.w) X.A (eval e X.env) (EP X pins σ Q) X.xe s
noncomputable def PT(X:Cx)(e:Expr)(t:TT):Prop:=
 ∀(pins:List (Addr×Obj)) (s:Shared) (σ:St) (H:Hp) (Q:Bool→Hp→Prop),Inv X pins σ H s→t σ H Q→wpAny (model X.prog X.w) X.A (isTrue e X.env (eval e X.env)) (TP X pins σ Q) X.xe s
noncomputable def PW(X:Cx)(e:Expr)(t:TT):Prop:=
 ∀(whole:Sem Value) (pins:List (Addr×Obj)) (s:Shared) (σ:St) (H:Hp) (Q:Bool→Hp→Prop),Inv X pins σ H s→t σ H Q→wpAny (model X.prog X.w) X.A (isTrue e X.env whole) (TP X pins σ Q) X.xe s
theorem PW.pt{X:Cx}{e:Expr}{t:TT}(h:PW X e t):PT X e t:=h _
noncomputable def PA(X:Cx)(es:List Expr)(t:TA):Prop:=
 ∀(pos:Pos) (pins:List (Addr×Obj)) (s:Shared) (σ:St) (H:Hp) (Q:List V→Hp→Prop),Inv X pins σ H s→t σ H Q→wpAny (model X.prog X.w) X.A (spliced (backTo pos (starEach es X.env))) (AP X pins σ Q) X.xe s
noncomputable def PS(X:Cx)(st:Stmt)(t:TS):Prop:=
 ∀(pins:List (Addr×Obj)) (s:Shared) (σ:St) (H:Hp) (D:Ends),Inv X pins σ H s→t D σ H→wpAny (model X.prog X.w) X.A (exec st X.env) (SP X pins D) X.xe s
noncomputable def PSs(X:Cx)(st:List Stmt)(t:TS):Prop:=
 ∀(pins:List (Addr×Obj)) (s:Shared) (σ:St) (H:Hp) (D:Ends),Inv X pins σ H s→t D σ H→wpAny (model X.prog X.w) X.A (execs st X.env) (SP X pins D) X.xe s
theorem thn{α:Type}{t:Sem α}{Q Q':α→Shared→Prop}{M:Model}{A:Around}{E:Value→Shared→Prop}{s:Shared}(h:wpAny M A t Q E s)(hQ:∀a s,Q a s→Q' a s):wpAny M A t Q' E s:=wpAny_mono h hQ fun _ _ x=>x
end L2
namespace L2
open PySem PySem.Spec PyProof.Rows
section
variable {X:Cx}
theorem bin{a b:Expr}{ta tb:TE}(ha:PE X a ta)(hb:PE X b tb){pins:List (Addr×Obj)}{s:Shared}{σ:St}{H:Hp}{R:V→V→Hp→Prop}(I:Inv X pins σ H s)(h:ta σ H fun x H1=>tb σ H1 fun y H2=>R x y H2)
  {α:Type} {Q:α→Shared→Prop} {f:Value→Value→Sem α}
  (hf:∀v u s2 x y H2,Inv X pins σ H2 s2→RelV x v→RelV y u→R x y H2→wpAny (model X.prog X.w) X.A (f v u) Q X.xe s2):
  wpAny (model X.prog X.w) X.A (eval a X.env) (fun v s₁=>wpAny (model X.prog X.w) X.A (eval b X.env) (fun u s₂=>wpAny (model X.prog X.w) X.A (f v u) Q X.xe s₂) X.xe s₁) X.xe s:=by
 refine thn (ha pins s σ H _ I h) fun v s1 ⟨x,H1,I1,r1,q1⟩=>?_
 refine thn (hb pins s1 σ H1 _ I1 q1) fun u s2 ⟨y,H2,I2,r2,q2⟩=>?_
 exact hf v u s2 x y H2 I2 r1 r2 q2
noncomputable def tVar(i:Nat):TE:=fun σ H Q=>∃v,σ[i]?=some (some v)∧Q v H
noncomputable def tC(v:V):TE:=fun _ H Q=>Q v H
theorem pe_var{i:Nat}{x:Str}{pos:Pos}(hN:X.N[i]?=some x)(hv:Vis X.env.scope x)(hd:(x==("__debug__" : Str))=false:=by decide)(hcd:(x==("__classdict__" : Str))=false:=by decide):PE X (.Name x pos) (tVar i):=by
 intro pins s σ H Q I h
 obtain⟨v,e,h⟩:=h
 obtain⟨m,hn,hl⟩:=I.loc
 obtain⟨u,r,l⟩:=hl i x v hN e hv
 have fin:EP X pins σ Q u s:=⟨v,H,I,r,h⟩
 rcases l with⟨hk,hm⟩|⟨hk,c,hc,hcell⟩
 ·exact wpAny_Name (wpAny_loadName_local I.ok.kind hk hn hm fin) hd
 ·rcases hk with hk|hk
  ·exact wpAny_Name (wpAny_loadName_cell I.ok.kind hk hc hcell fin) hd
  ·exact wpAny_Name (wpAny_loadName_free I.ok.kind hk hc hcell fin hcd) hd
theorem pe_int{i j pos}:PE X (.Constant (.int i) j pos) (tC (.int i)):=fun _ _ _ H _ I h=>wpAny_Constant_int ⟨.int i,H,I.tok _,⟨_,rfl⟩,h⟩
theorem pe_bl{b j pos}:PE X (.Constant (.bool b) j pos) (tC (.bl b)):=fun _ _ _ H _ I h=>Constant_bool ⟨.bl b,H,I,rfl,h⟩
theorem pe_non{j pos}:PE X (.Constant .none j pos) (tC .non):=fun _ _ _ H _ I h=>Constant_none ⟨.non,H,I,rfl,h⟩
noncomputable def Gl(X:Cx)(x:Str):Prop:=X.env.kindOf x=some .globalImplicit
theorem ld_glob{E:Value→Shared→Prop}{pins:List (Addr×Obj)}{s:Shared}{σ:St}{H:Hp}{x:Str}{u:Value}{pos:Pos}{Q:Value→Shared→Prop}(I:Inv X pins σ H s)(hg:Gl X x)(hm:X.mg x=some u)(h:Q u s)
  (hd:(x==("__debug__" : Str))=false:=by decide):wpAny (model X.prog X.w) X.A (eval (.Name x pos) X.env) Q E s:=
 Calls.Name_function_global I.ok.kind hg (Calls.loadGlobal_global (by rw[I.ok.glob];exact I.mod.glob.keeps I.bk) hm h) hd
theorem ld_blt{E:Value→Shared→Prop}{pins:List (Addr×Obj)}{s:Shared}{σ:St}{H:Hp}{x:Str}{u:Value}{pos:Pos}{Q:Value→Shared→Prop}(I:Inv X pins σ H s)(hg:Gl X x)(hm:X.mg x=none)(hv:bootBuiltins x=some u)(h:Q u s)
  (hn:x≠"__name__":=by decide) (hd:(x==("__debug__" : Str))=false:=by decide):wpAny (model X.prog X.w) X.A (eval (.Name x pos) X.env) Q E s:=by
 obtain⟨mb,h1,h2⟩:=I.mod.blt
 exact Calls.Name_function_global I.ok.kind hg (Calls.loadGlobal_builtin (by rw[I.ok.glob];exact I.mod.glob.keeps I.bk) hm (by rw[I.ok.blt];exact h1.keeps I.bk) ((h2 x hn).trans hv) h) hd
theorem pe_glob{x:Str}{v:V}{u:Value}{pos:Pos}(hg:Gl X x)(hm:X.mg x=some u)(r:RelV v u)(hd:(x==("__debug__" : Str))=false:=by decide):PE X (.Name x pos) (tC v):=
 fun _ _ _ H _ I h=>ld_glob I hg hm ⟨v,H,I,r,h⟩ hd
variable {a b:Expr}{ta tb:TE}{pos:Pos}
noncomputable def PC(X:Cx)(op:CmpOp)(a b:Expr)(t:TE):Prop:=
 ∀(pins:List (Addr×Obj)) (s:Shared) (σ:St) (H:Hp) (Q:VK),Inv X pins σ H s→t σ H Q→
  wpAny (model X.prog X.w) X.A (eval a X.env) (fun v s₁=>wpAny (model X.prog X.w) X.A (eval b X.env) (fun u s₂=>wpAny (model X.prog X.w) X.A (compareOp op v u) (EP X pins σ Q) X.xe s₂) X.xe s₁) X.xe s
theorem nobehind(b:Expr){op:CmpOp}(h:op≠.In)(h2:op≠.NotIn):behindInMarks op b=false:=by
 have e1:(op==CmpOp.In)=false:=by cases op<;>first|rfl|exact absurd rfl h
 have e2:(op==CmpOp.NotIn)=false:=by cases op<;>first|rfl|exact absurd rfl h2
 cases b<;>simp[behindInMarks,e1,e2]
noncomputable def tIsN(ta:TE):TE:=fun σ H Q=>ta σ H fun x H1=>Q (.bl (decide (x=.non))) H1
theorem RelV.none_iff{x:V}{v:Value}(r:RelV x v):(v==Value.none)=decide (x=.non):=by
 cases x with
 |non=>cases r;rfl
 |bl _=>cases r;rfl
 |int _=>obtain⟨t,rfl⟩:=r;rfl
 |str _=>obtain⟨t,rfl⟩:=r;rfl
 |byt _=>obtain⟨t,rfl⟩:=r;rfl
 |flt _=>obtain⟨t,rfl⟩:=r;rfl
 |ref _=>cases r;rfl
 |ty _=>cases r;rfl
theorem pc_isN{j pos'}(ha:PE X a ta):PC X .Is a (.Constant .none j pos') (tIsN ta):=by
 intro pins s σ H Q I h
 refine thn (ha pins s σ H _ I h) fun v s1 ⟨x,H1,I1,r1,q1⟩=>?_
 exact Constant_none (is_none_gen ⟨.bl _,H1,I1,by rw[r1.none_iff];rfl,q1⟩)
noncomputable def tB(t:TE):TT:=fun σ H Q=>t σ H fun x H1=>∃c,x=.bl c∧Q c H1
theorem pt_cmp{op:CmpOp}{t:TE}(h:PC X op a b t)(h1:behindInMarks op b=false:=by first|exact nobehind _ (by decide) (by decide)|rfl):PT X (.Compare a [op] [b] pos) (tB t):=by
 intro pins s σ H Q I hw
 refine wpAny_isTrue_Compare1 (thn (h pins s σ H _ I hw) fun v s1 h1=>thn h1 fun u s2 h2=>thn h2 fun c s3 ⟨x,H1,I1,r1,q1⟩=>?_) h1
 obtain⟨d,rfl,q⟩:=q1
 cases r1
 exact wpAny_truthy_bool ⟨H1,I1,q⟩
theorem pt_val{e:Expr}{t:TE}(h:PE X e t)(he:∀whole,isTrue e X.env whole=(do let v ←whole;standAt e.pos;holding [v] (truthy v)):=by intro _;rfl):PT X e (tB t):=by
 intro pins s σ H Q I hw
 refine isTrue_plain (thn (h pins s σ H _ I hw) fun v s1 ⟨x,H1,I1,r1,q1⟩=>?_) (he _)
 obtain⟨d,rfl,q⟩:=q1
 cases r1
 exact wpAny_truthy_bool ⟨H1,I1,q⟩
variable {tA tB':TT}{rest:List Expr}
noncomputable def tAnd(t u:TT):TT:=fun σ H Q=>t σ H fun c H1=>if c=true then u σ H1 Q else Q false H1
noncomputable def tOr(t u:TT):TT:=fun σ H Q=>t σ H fun c H1=>if c=true then Q true H1 else u σ H1 Q
noncomputable def tNot(t:TT):TT:=fun σ H Q=>t σ H fun c H1=>Q (!c) H1
theorem pw_and1(ha:PT X a tA):PW X (.BoolOp .And [a] pos) tA:=by
 intro wh pins s σ H Q I h
 refine isTrue_and (thn (ha pins s σ H Q I h) fun c s1 e=>?_)
 cases c with
 |true=>exact isTrue_and_nil e
 |false=>exact e
theorem pw_or1(ha:PT X a tA):PW X (.BoolOp .Or [a] pos) tA:=by
 intro wh pins s σ H Q I h
 refine isTrue_or (thn (ha pins s σ H Q I h) fun c s1 e=>?_)
 cases c with
 |false=>exact isTrue_or_nil e
 |true=>exact e
theorem pw_and(ha:PT X a tA)(hb:PW X (.BoolOp .And (b::rest) pos) tB'):PW X (.BoolOp .And (a::b::rest) pos) (tAnd tA tB'):=by
 intro wh pins s σ H Q I h
 refine isTrue_and (thn (ha pins s σ H _ I h) fun c s1 ⟨H1,I1,q1⟩=>?_)
 cases c with
 |true=>exact hb wh pins s1 σ H1 Q I1 q1
 |false=>exact⟨H1,I1,q1⟩
theorem pw_or(ha:PT X a tA)(hb:PW X (.BoolOp .Or (b::rest) pos) tB'):PW X (.BoolOp .Or (a::b::rest) pos) (tOr tA tB'):=by
 intro wh pins s σ H Q I h
 refine isTrue_or (thn (ha pins s σ H _ I h) fun c s1 ⟨H1,I1,q1⟩=>?_)
 cases c with
 |true=>exact⟨H1,I1,q1⟩
 |false=>exact hb wh pins s1 σ H1 Q I1 q1
theorem pt_not(ha:PT X a tA):PT X (.UnaryOp .Not a pos) (tNot tA):=by
 intro pins s σ H Q I h
 exact isTrue_not (ha pins s σ H (fun c H1=>Q (!c) H1) I h)
noncomputable def tAndV(ta tb:TE):TE:=fun σ H Q=>ta σ H fun x H1=>∃c,x=.bl c∧if c=true then tb σ H1 Q else Q (.bl false) H1
noncomputable def tOrV(ta tb:TE):TE:=fun σ H Q=>ta σ H fun x H1=>∃c,x=.bl c∧if c=true then Q (.bl true) H1 else tb σ H1 Q
noncomputable def tNotV(ta:TE):TE:=fun σ H Q=>ta σ H fun x H1=>∃c,x=.bl c∧Q (.bl (!c)) H1
theorem pe_one{op}{t:TE}(h:PE X a t):PE X (.BoolOp op [a] pos) t:=fun pins s σ H Q I hw=>BoolOp_one (h pins s σ H Q I hw)
theorem pe_and(ha:PE X a ta)(hb:PE X (.BoolOp .And (b::rest) pos) tb):PE X (.BoolOp .And (a::b::rest) pos) (tAndV ta tb):=by
 intro pins s σ H Q I h
 refine BoolOp_and (thn (ha pins s σ H _ I h) fun v s1 ⟨x,H1,I1,r1,q1⟩=>?_)
 obtain⟨c,rfl,q1⟩:=q1
 cases r1
 refine wpAny_truthy_bool ?_
 cases c with
 |true=>exact hb pins s1 σ H1 Q I1 q1
 |false=>exact⟨.bl false,H1,I1,rfl,q1⟩
theorem pe_or(ha:PE X a ta)(hb:PE X (.BoolOp .Or (b::rest) pos) tb):PE X (.BoolOp .Or (a::b::rest) pos) (tOrV ta tb):=by
 intro pins s σ H Q I h
 refine BoolOp_or (thn (ha pins s σ H _ I h) fun v s1 ⟨x,H1,I1,r1,q1⟩=>?_)
 obtain⟨c,rfl,q1⟩:=q1
 cases r1
 refine wpAny_truthy_bool ?_
 cases c with
 |false=>exact hb pins s1 σ H1 Q I1 q1
 |true=>exact⟨.bl true,H1,I1,rfl,q1⟩
noncomputable def tIf(t:TT)(ta tb:TE):TE:=fun σ H Q=>t σ H fun c H1=>if c=true then ta σ H1 Q else tb σ H1 Q
theorem pe_ifExp{c:Expr}(hc:PT X c tA)(ha:PE X a ta)(hb:PE X b tb):PE X (.IfExp c a b pos) (tIf tA ta tb):=by
 intro pins s σ H Q I h
 refine wpAny_IfExp (thn (hc pins s σ H _ I h) fun d s1 ⟨H1,I1,q1⟩=>?_)
 cases d with
 |true=>exact ha pins s1 σ H1 Q I1 q1
 |false=>exact hb pins s1 σ H1 Q I1 q1
end
end L2
namespace L2
open PySem PySem.Spec PyProof.Rows
noncomputable def SqL(K:PySem.W.Frag)(H:Hp)(a:Addr)(xs:List V):Prop:=
 Rd H a (.lst xs)∨
  ∃(o:Obj) (its:Array Value) (n:Nat),K.lookup a=some o∧o.cls=.type "list"∧o.dict=none∧o.data=.seq its n∧its.size≤sizeLine∧Vals xs its.toList
noncomputable def SqT(K:PySem.W.Frag)(H:Hp)(a:Addr)(xs:List V):Prop:=
 Rd H a (.tup xs)∨
  ∃(o:Obj) (its:Array Value) (n:Nat),K.lookup a=some o∧o.cls=.type "tuple"∧o.data=.seq its n∧its.size≤sizeLine∧Vals xs its.toList
noncomputable def absV:Value→Option V
 | .none=>some .non
 | .bool b=>some (.bl b)
 | .int i _=>some (.int i)
 | .str x _=>some (.str x)
 | .bytes b _=>some (.byt b)
 | .float b _=>some (.flt b)
 | .ref a=>some (.ref a)
 | .type n=>some (.ty n)
 |_=>none
theorem RelV.abs{x:V}{u:Value}(r:RelV x u):absV u=some x:=by
 cases x with
 |non=>cases r;rfl
 |bl _=>cases r;rfl
 |int _=>obtain⟨t,rfl⟩:=r;rfl
 |str _=>obtain⟨t,rfl⟩:=r;rfl
 |byt _=>obtain⟨t,rfl⟩:=r;rfl
 |flt _=>obtain⟨t,rfl⟩:=r;rfl
 |ref _=>cases r;rfl
 |ty _=>cases r;rfl
theorem RelV.inj{x y:V}{u:Value}(r:RelV x u)(q:RelV y u):x=y:=Option.some.inj (r.abs.symm.trans q.abs)
theorem Vals.inj:∀{xs ys:List V} {us:List Value},Vals xs us→Vals ys us→xs=ys
 |_,_,_,.nil,.nil=>rfl
 |_,_,_,.cons r t,.cons r' t'=>by rw[r.inj r',Vals.inj t t']
section
variable {X:Cx}{pins:List (Addr×Obj)}{σ:St}{H:Hp}{s:Shared}{a:Addr}{xs ys:List V}
theorem SqL.of{K:PySem.W.Frag}(h:H a=some (.lst xs)):SqL K H a xs:=.inl (.inl h)
theorem SqT.of{K:PySem.W.Frag}(h:H a=some (.tup xs)):SqT K H a xs:=.inl (.inl h)
theorem Inv.list(I:Inv X pins σ H s)(h:SqL X.K H a xs):∃its:List Value,Vals xs its∧PlainL s.heap a its.toArray∧xs.length≤sizeLine:=by
 rcases h with h|⟨o,its,n,hk,hc,hd,hs,hz,r⟩
 ·obtain⟨z,its,n,r,e⟩:=h.ok I.hok
  exact⟨its,r,⟨_,n,e,rfl,rfl,rfl⟩,z⟩
 ·refine⟨its.toList,r,⟨o,n,I.kIn a o hk,hc,hd,by simpa using hs⟩,?_⟩
  have e:=r.length
  simp only[Array.length_toList]at e
  omega
theorem Inv.tuple(I:Inv X pins σ H s)(h:SqT X.K H a xs):∃its:List Value,Vals xs its∧IsTup s.heap a its.toArray∧xs.length≤sizeLine:=by
 rcases h with h|⟨o,its,n,hk,hc,hs,hz,r⟩
 ·obtain⟨z,its,r,p⟩:=h.ok I.hok
  exact⟨its,r,p,z⟩
 ·refine⟨its.toList,r,⟨o,I.kIn a o hk,hc,n,by simpa using hs⟩,?_⟩
  have e:=r.length
  simp only[Array.length_toList]at e
  omega
theorem Inv.list_inj(I:Inv X pins σ H s)(h:SqL X.K H a xs)(h':SqL X.K H a ys):xs=ys:=by
 obtain⟨its,r,⟨o,n,e,_,_,d⟩,_⟩:=I.list h
 obtain⟨its',r',⟨o',n',e',_,_,d'⟩,_⟩:=I.list h'
 rw[e]at e';cases e'
 rw[d]at d'
 injection d' with d1 _
 have:its=its':=by simpa using congrArg Array.toList d1
 subst this
 exact r.inj r'
end
noncomputable abbrev Cx.wish(X:Cx)(E:Value→Shared→Prop):Cx:={ X with xe:=E }
noncomputable abbrev Cx.nox(X:Cx):Cx:=X.wish fun _ _=>False
theorem Cx.Ok.wish{X:Cx}(ok:X.Ok)(E:Value→Shared→Prop):(X.wish E).Ok:=
 ⟨ok.mod,ok.kind,ok.glob,ok.blt,ok.above,ok.inj,ok.has,ok.cab,ok.hd,ok.frames,ok.stk,ok.exf,ok.bs,ok.bsz,ok.noex,ok.exfs,ok.funs,ok.frf⟩
theorem Cx.Ok.unwish{X:Cx}{E:Value→Shared→Prop}(ok:(X.wish E).Ok):X.Ok:=
 ⟨ok.mod,ok.kind,ok.glob,ok.blt,ok.above,ok.inj,ok.has,ok.cab,ok.hd,ok.frames,ok.stk,ok.exf,ok.bs,ok.bsz,ok.noex,ok.exfs,ok.funs,ok.frf⟩
section
variable {X:Cx}{pins:List (Addr×Obj)}{σ:St}{H:Hp}{s:Shared}{E:Value→Shared→Prop}
theorem Inv.wish(I:Inv X pins σ H s)(E:Value→Shared→Prop):Inv (X.wish E) pins σ H s:=⟨I.ok.wish E,I.os,I.bare,I.base,I.loc,I.cell,I.free,I.freeC,I.pin,I.hok,I.len⟩
theorem Inv.unwish(I:Inv (X.wish E) pins σ H s):Inv X pins σ H s:=⟨I.ok.unwish,I.os,I.bare,I.base,I.loc,I.cell,I.free,I.freeC,I.pin,I.hok,I.len⟩
theorem SP.unwish{D:Ends}{f:Flow}{s':Shared}(h:SP (X.wish E) pins D f s'):SP X pins D f s':=by
 cases f with
 |next=>obtain⟨σ',H',I,q⟩:=h;exact⟨σ',H',I.unwish,q⟩
 |brk=>obtain⟨σ',H',I,q⟩:=h;exact⟨σ',H',I.unwish,q⟩
 |cont=>obtain⟨σ',H',I,q⟩:=h;exact⟨σ',H',I.unwish,q⟩
 |ret u=>obtain⟨v,σ',H',I,r,q⟩:=h;exact⟨v,σ',H',I.unwish,r,q⟩
theorem PSs.nox{st:List Stmt}{t:TS}(h:PSs X.nox st t):PSs X st t:=fun pins s σ H D I hw=>
 wpAny_mono (h pins s σ H D (I.wish _) hw) (fun _ _ q=>q.unwish) fun _ _ z=>False.elim z
end
section
variable {X:Cx}{st:Stmt}{rest:List Stmt}{t u:TS}{e:Expr}{te:TE}{pos:Pos}
noncomputable def tNext:TS:=fun D σ H=>D.nx σ H
noncomputable def tSeq(t u:TS):TS:=fun D σ H=>t { D with nx:=u D } σ H
theorem pss_nil:PSs X [] tNext:=fun _ _ σ H _ I h=>wpAny_execs_nil ⟨σ,H,I,h⟩
theorem pss_cons(h1:PS X st t)(h2:PSs X rest u):PSs X (st::rest) (tSeq t u):=by
 intro pins s σ H D I h
 refine wpAny_execs_cons (thn (h1 pins s σ H { D with nx:=u D } I h) fun f s1 q=>?_)
 cases f with
 |next=>
  obtain⟨σ',H',I',q⟩:=q
  exact h2 pins s1 σ' H' D I' q
 |ret v=>exact q
 |brk=>exact q
 |cont=>exact q
theorem pss_one(h1:PS X st t):PSs X [st] t:=by
 intro pins s σ H D I h
 refine wpAny_execs_cons (thn (h1 pins s σ H D I h) fun f s1 q=>?_)
 cases f with
 |next=>exact wpAny_execs_nil q
 |ret v=>exact q
 |brk=>exact q
 |cont=>exact q
theorem Inv.quiet{pins:List (Addr×Obj)}{σ:St}{H:Hp}{s:Shared}(I:Inv X pins σ H s):interactive X.env=false:=by simp[interactive,I.ok.kind]
noncomputable def tDrop(te:TE):TS:=fun D σ H=>te σ H fun _ H1=>D.nx σ H1
theorem ps_expr(he:PE X e te)(hs:swapsWith e none pos.line X.env=pure false:=by rfl):PS X (.Expr e pos) (tDrop te):=by
 intro pins s σ H D I h
 exact wpAny_Expr_any (thn (he pins s σ H _ I h) fun v s1 ⟨x,H1,I1,r1,q1⟩=>⟨σ,H1,I1,q1⟩) I.quiet hs
noncomputable def tRet(te:TE):TS:=fun D σ H=>te σ H D.rt
theorem ps_ret(he:PE X e te):PS X (.Return (some e) pos) (tRet te):=by
 intro pins s σ H D I h
 exact wpAny_Return_some (thn (he pins s σ H _ I h) fun v s1 ⟨x,H1,I1,r1,q1⟩=>⟨x,σ,H1,I1,r1,q1⟩)
noncomputable def tRetN:TS:=fun D _ H=>D.rt .non H
noncomputable def tIfS(c:TT)(t u:TS):TS:=fun D σ H=>c σ H fun b H1=>if b=true then t D σ H1 else u D σ H1
theorem ps_if{c:Expr}{a b:List Stmt}{tc:TT}(hc:PT X c tc)(ha:PSs X a t)(hb:PSs X b u):PS X (.If c a b pos) (tIfS tc t u):=by
 intro pins s σ H D I h
 refine wpAny_If (thn (hc pins s σ H _ I h) fun d s1 ⟨H1,I1,q1⟩=>?_)
 cases d with
 |true=>exact ha pins s1 σ H1 D I1 q1
 |false=>exact hb pins s1 σ H1 D I1 q1
end
noncomputable abbrev TG:=V→St→Hp→(St→Hp→Prop)→Prop
noncomputable abbrev TGs:=List V→St→Hp→(St→Hp→Prop)→Prop
noncomputable def PG(X:Cx)(target:Expr)(t:TG):Prop:=
 ∀(pins:List (Addr×Obj)) (s:Shared) (σ:St) (H:Hp) (v:V) (u:Value) (Q:St→Hp→Prop),Inv X pins σ H s→RelV v u→t v σ H Q→
  wpAny (model X.prog X.w) X.A (assign target X.env u) (fun _ s'=>∃σ' H',Inv X pins σ' H' s'∧Q σ' H') X.xe s
noncomputable def PGs(X:Cx)(ts:List Expr)(t:TGs):Prop:=
 ∀(pins:List (Addr×Obj)) (s:Shared) (σ:St) (H:Hp) (vs:List V) (us:List Value) (Q:St→Hp→Prop),Inv X pins σ H s→Vals vs us→t vs σ H Q→
  wpAny (model X.prog X.w) X.A (assignInOrder ((assignEach ts X.env).map (·.2)) us) (fun _ s'=>∃σ' H',Inv X pins σ' H' s'∧Q σ' H') X.xe s
section
variable {X:Cx}{pos:Pos}
noncomputable def gName(i:Nat):TG:=fun v σ H Q=>Q (σ.set i (some v)) H
theorem pg_name{i:Nat}{x:Str}(hN:X.N.Nodup)(hi:X.N[i]?=some x)(hx:Loc X.env.scope x)(hf:X.fn x=true∨X.env.scope.names.lookup x=some .local:=by first|exact .inl rfl|exact .inr rfl|assumption):PG X (.Name x pos) (gName i):=by
 intro pins s σ H v u Q I r h
 exact wpAny_assign_Name (store_ok I hN hi hx r (fun s' I'=>⟨_,H,I',h⟩) hf)
noncomputable def gNil:TGs:=fun vs σ H Q=>vs=[]∧Q σ H
noncomputable def gCons(t:TG)(u:TGs):TGs:=fun vs σ H Q=>∃v r,vs=v::r∧t v σ H fun σ' H'=>u r σ' H' Q
theorem pgs_nil:PGs X [] gNil:=by
 intro pins s σ H vs us Q I r h
 obtain⟨e,h⟩:=h
 subst e
 cases r
 exact assignInOrder_nil ⟨σ,H,I,h⟩
theorem pgs_cons{e:Expr}{es:List Expr}{t:TG}{u:TGs}(h1:PG X e t)(h2:PGs X es u)
  (hs:(assignEach (e::es) X.env).map (·.2)=assign e X.env::(assignEach es X.env).map (·.2):=by rfl):PGs X (e::es) (gCons t u):=by
 intro pins s σ H vs us Q I r h
 obtain⟨v,vr,e1,h⟩:=h
 subst e1
 cases r with
 |cons r rr=>
  rw[hs]
  refine assignInOrder_cons (thn (h1 pins s σ H _ _ _ I r h) fun _ s1 ⟨σ1,H1,I1,q1⟩=>?_)
  exact h2 pins s1 σ1 H1 _ _ Q I1 rr q1
noncomputable def gTup(K:PySem.W.Frag)(n:Nat)(t:TGs):TG:=fun v σ H Q=>∃a xs,v=.ref a∧SqT K H a xs∧xs.length=n∧t xs σ H Q
theorem pg_tup{es:List Expr}{k:Nat}{t:TGs}{n:Nat}(hc:X.calm=true)(h:PGs X es t)
  (hn:(assignEach es X.env).length=n:=by rfl) (hst:(assignEach es X.env).findIdx? (·.1)=none:=by rfl):PG X (.Tuple es k pos) (gTup X.K n t):=by
 intro pins s σ H v u Q I r hw
 obtain⟨a,xs,e1,hq,hl,hw⟩:=hw
 subst e1
 cases r
 obtain⟨its,rv,ht,hz⟩:=I.tuple hq
 refine assign_Tuple_tuple (I.ok.hd hc) ht (by simp[hn,←hl,rv.length]) hst fun h' hx=>?_
 have I1:Inv X pins σ H { s with heap:=h' }:=I.kept (t':=s.toks) fun b o e=>hx b o (Nat.ne_of_lt (Heap.lt_size e)) e
 exact h pins _ σ H xs _ Q I1 (by simpa using rv) hw
noncomputable def tAsg(te:TE)(g:TG):TS:=fun D σ H=>te σ H fun x H1=>g x σ H1 D.nx
theorem ps_set{i:Nat}{x:Str}{e:Expr}{te:TE}{pos':Pos}(hN:X.N.Nodup)(hi:X.N[i]?=some x)(hx:Loc X.env.scope x)(he:PE X e te)(hs:swapsWith e (some (.Name x pos')) pos.line X.env=pure false:=by rfl)(hf:X.fn x=true∨X.env.scope.names.lookup x=some .local:=by first|exact .inl rfl|exact .inr rfl|assumption):
  PS X (.Assign [.Name x pos'] e pos) (tAsg te (gName i)):=by
 intro pins s σ H D I h
 refine wpAny_Assign_Name (thn (he pins s σ H _ I h) fun v s1 ⟨y,H1,I1,r1,q1⟩=>?_) hs
 exact store_ok I1 hN hi hx r1 (fun s2 I2=>⟨_,H1,I2,q1⟩) hf
end
section
variable {X:Cx}{pos:Pos}
noncomputable def tWhile(c:TT)(tb:TS):TS:=fun D σ H=>∃W:Nat→St→Hp→Prop,(∃m,W m σ H)∧∀m σ H,W m σ H→
 c σ H fun b H1=>if b=true then ∃N:St→Hp→Prop,(∀σ' H',N σ' H'→∃m',m'<m∧W m' σ' H')∧tb { D with nx:=N,ct:=N,bk:=D.nx } σ H1 else D.nx σ H1
theorem ps_while{c:Expr}{body:List Stmt}{tc:TT}{tb:TS}(hp:PassesOwn (model X.prog X.w) X.A X.env X.xe)(hc:PT X c tc)(hb:PSs X body tb):PS X (.While c body [] pos) (tWhile tc tb):=by
 intro pins s σ H D I h
 obtain⟨W,⟨m0,w0⟩,turn⟩:=h
 refine wpAny_While (codeAny_whileLoop (fun n s'=>∃σ' H',Inv X pins σ' H' s'∧W n σ' H') ?_ m0 ⟨σ,H,I,w0⟩)
 rintro n s1 ⟨σ1,H1,I1,w1⟩
 refine wpAny_passesOwn hp (thn (hc pins s1 σ1 H1 _ I1 (turn n σ1 H1 w1)) fun b s2 ⟨H2,I2,q2⟩=>?_)
 cases b with
 |true=>
  obtain⟨N,hN,q2⟩:=q2
  rw[if_pos rfl]
  refine wpAny_passesOwn hp (thn (hb pins s2 σ1 H2 _ I2 q2) fun f s3 q3=>?_)
  cases f with
  |next=>
   obtain⟨σ3,H3,I3,n3⟩:=q3
   obtain⟨m',hm,w3⟩:=hN σ3 H3 n3
   exact⟨m',hm,σ3,H3,I3,w3⟩
  |cont=>
   obtain⟨σ3,H3,I3,n3⟩:=q3
   obtain⟨m',hm,w3⟩:=hN σ3 H3 n3
   exact⟨m',hm,σ3,H3,I3,w3⟩
  |brk=>exact q3
  |ret v=>exact q3
 |false=>
  rw[if_neg Bool.false_ne_true]
  exact wpAny_execs_nil ⟨σ1,H2,I2,q2⟩
end
structure It where
 go:Nat→Hp→Prop
 yld:Nat→Hp→V→Hp→Prop
 stop:Nat→Hp→Prop
noncomputable def FpOk(X:Cx)(pins:List (Addr×Obj))(H:Hp)(b:Addr):Prop:=
 H b=none∧b≠X.env.locals∧b∉X.fs∧(b∈X.ex∨X.s_0.heap.objs.size≤b)∧(∀x c,X.env.cells.lookup x=some c→c≠b)∧∀p∈X.pn++pins,p.1≠b
theorem Inv.fpOk{X:Cx}{pins:List (Addr×Obj)}{σ:St}{H H':Hp}{s:Shared}{b:Addr}(I:Inv X pins σ H s)(hb:s.heap.objs.size≤b)(hn:H' b=none):FpOk X pins H' b:=by
 refine⟨hn,Nat.ne_of_gt (Nat.lt_of_lt_of_le I.lt hb),I.nofs hb,.inr (Nat.le_trans I.sz hb),fun x c e z=>?_,fun p hp z=>?_⟩
 ·obtain⟨v,q⟩:=I.cell x c e
  exact absurd (Nat.lt_of_lt_of_le q.lt (by rw[z];exact hb)) (Nat.lt_irrefl _)
 ·exact absurd (Nat.lt_of_lt_of_le (Heap.lt_size (I.pin p hp).1) (by rw[z];exact hb)) (Nat.lt_irrefl _)
structure Turn(P:Program)(w:World)(K:PySem.W.Frag)(tg:Expr)(J:It)(fp:List Addr)(it:Addr)(tn:Nat→Heap→Prop):Prop where
 mem:it∈fp
 obj:∀i h,tn i h→∀b∈fp,∃o,h.get? b=some o∧∀v,o.data≠.cell v
 keep:∀i h h',tn i h→(∀b∈fp,∀o,h.get? b=some o→h'.get? b=some o)→tn i h'
 item:∀(X:Cx),X.prog=P→X.w=w→X.K=K→X.calm=true→∀(i:Nat) (pins:List (Addr×Obj)) (s:Shared) (σ:St) (H:Hp) (E:Value→Shared→Prop),Inv X pins σ H s→(∀b∈fp,FpOk X pins H b)→tn i s.heap→J.go i H→
  wpAny (model P w) X.A (pyNext (.ref it)) (fun r s1=>∃u,r=some u∧
   wpAny (model P w) X.A (letOwnedTupleGo tg (.ref it) u) (fun _ s2=>∃x H',Inv X pins σ H' s2∧RelV x u∧J.yld i H x H'∧tn (i+1) s2.heap∧∀b∈fp,H' b=none) E s1) E s
 done:∀(X:Cx),X.prog=P→X.w=w→X.K=K→X.calm=true→∀(i:Nat) (pins:List (Addr×Obj)) (s:Shared) (σ:St) (H:Hp) (E:Value→Shared→Prop),Inv X pins σ H s→(∀b∈fp,FpOk X pins H b)→tn i s.heap→J.stop i H→
  wpAny (model P w) X.A (pyNext (.ref it)) (fun r s1=>r=none∧Inv X pins σ H s1) E s
 self:∀(A:Around) (i:Nat) (s:Shared) (Q:Value→Shared→Prop) (E:Value→Shared→Prop),tn i s.heap→Q (.ref it) s→wpAny (model P w) A (pyIter (.ref it)) Q E s
noncomputable abbrev TI:=St→Hp→(It→Hp→Prop)→Prop
noncomputable def PIE(X:Cx)(pins:List (Addr×Obj))(σ:St)(tg:Expr)(R:It→Hp→Prop)(itv:Value)(s2:Shared):Prop:=
 ∃(it:Addr) (fp:List Addr) (tn:Nat→Heap→Prop) (J:It) (H':Hp),itv=.ref it∧Inv X pins σ H' s2∧Turn X.prog X.w X.K tg J fp it tn∧tn 0 s2.heap∧(∀b∈fp,FpOk X pins H' b)∧R J H'
noncomputable def PI(X:Cx)(tg iter:Expr)(wi:TI):Prop:=
 ∀(pins:List (Addr×Obj)) (s:Shared) (σ:St) (H:Hp) (R:It→Hp→Prop),Inv X pins σ H s→wi σ H R→
  wpAny (model X.prog X.w) X.A (eval iter X.env) (fun v s1=>wpAny (model X.prog X.w) X.A (pyIter v) (PIE X pins σ tg R) X.xe s1) X.xe s
theorem go_of{M:Model}{A:Around}{E:Value→Shared→Prop}{s:Shared}{tg:Expr}{it:Addr}{u:Value}{o:Obj}{n:String}{vs:Array Value}{Q:Unit→Shared→Prop}(ho:s.heap.get? it=some o)(hc:o.cls=.type n)(hd:o.data=.fields vs)
  (hn:["enumerate","zip","dict_itemiterator","dict_reverseitemiterator","odict_iterator","itertools.zip_longest","itertools.pairwise"].contains n=false) (hQ:Q () s):wpAny M A (letOwnedTupleGo tg (.ref it) u) Q E s:=by
 unfold letOwnedTupleGo
 cases tg<;>first
  |exact wpAny_pure hQ
  |(cases u<;>first
    |exact wpAny_pure hQ
    |(refine wpAny_bind (wpAny_load ho ?_)
      rw[hc,hd]
      show wpAny M A (if(["enumerate","zip","dict_itemiterator","dict_reverseitemiterator","odict_iterator","itertools.zip_longest","itertools.pairwise"].contains n&&vs[0]?==some (rawInt _))=true then _ else _) Q E s
      rw[if_neg (by intro h;rw[hn,Bool.false_and]at h;cases h)]
      exact wpAny_pure hQ))
noncomputable def Itl(K:PySem.W.Frag)(a:Addr):It:=
 ⟨fun i H=>∃xs x,SqL K H a xs∧xs[i]?=some x,fun i H x H'=>H'=H∧∀xs,SqL K H a xs→xs[i]?=some x,fun i H=>∃xs,SqL K H a xs∧xs.length≤i⟩
noncomputable def Itr(lo:Int)(n:Nat):It:=⟨fun i _=>i<n,fun i H x H'=>H'=H∧x=.int (lo+i),fun i _=>n≤i⟩
theorem turn_list{P:Program}{w:World}{K:PySem.W.Frag}{tg:Expr}(a it:Addr):Turn P w K tg (Itl K a) [it] it (fun i h=>h.IsListIter it a i) where
 mem:=by simp
 obj:=fun i h st b hb=>by
  have e:b=it:=by simpa using hb
  subst e
  obtain⟨o,e,c,d⟩:=st
  exact⟨o,e,fun v z=>by rw[d]at z;cases z⟩
 keep:=fun i h h' st k=>st.at fun o e=>k it (by simp) o e
 item:=by
  intro X hP hw hK hc i pins s σ H E I hf st hg
  subst hP hw hK
  obtain⟨xs,x,hq,hx⟩:=hg
  obtain⟨its,rv,p,hz⟩:=I.list hq
  obtain⟨u,hu,ru⟩:=rv.get hx
  obtain⟨f0,f1,f2,f3,f4,f5⟩:=hf it (by simp)
  refine wpAny_pyNext_list_item st p.isList (x:=u) (by simpa using hu) fun h' st' sb=>?_
  have I1:Inv X pins σ H { s with heap:=h' }:=I.turned (t':=s.toks) (fun b o hb e=>(sb.2 b hb).trans e) f0 f1 f3 f4 f5
  obtain⟨o,e,c,d⟩:=id st'
  exact⟨u,rfl,go_of (s:={ s with heap:=h' }) e c d (by decide) ⟨x,H,I1,ru,⟨rfl,fun ys hy=>by rw[I.list_inj hy hq];exact hx⟩,st',fun b hb=>(hf b hb).1⟩⟩
 done:=by
  intro X hP hw hK hc i pins s σ H E I hf st hg
  subst hP hw hK
  obtain⟨xs,hq,hx⟩:=hg
  obtain⟨its,rv,p,hz⟩:=I.list hq
  obtain⟨f0,f1,f2,f3,f4,f5⟩:=hf it (by simp)
  have hl:=rv.length
  exact wpAny_pyNext_list_end (I.ok.hd hc) st p.isList (by simp;omega) fun h' eb=>⟨rfl,I.turned (t':=s.toks) (fun b o hb e=>eb b o hb e) f0 f1 f3 f4 f5⟩
 self:=fun _ _ _ _ _ st h=>wpAny_pyIter_listiter st h
theorem turn_range{P:Program}{w:World}{K:PySem.W.Frag}{tg:Expr}(it:Addr)(lo:Int)(n:Nat):Turn P w K tg (Itr lo n) [it] it (fun i h=>IsRangeIter h it (lo+(i:Nat)*1) ((n:Int)-(i:Nat)) 1) where
 mem:=by simp
 obj:=fun i h st b hb=>by
  have e:b=it:=by simpa using hb
  subst e
  exact⟨_,st,fun v z=>by
   have z':Data.fields _=Data.cell v:=z
   cases z'⟩
 keep:=fun i h h' st k=>k it (by simp) _ st
 item:=by
  intro X hP hw hK hc i pins s σ H E I hf st hg
  subst hP hw hK
  obtain⟨f0,f1,f2,f3,f4,f5⟩:=hf it (by simp)
  have W:=Walks.range (prog:=X.prog) (w:=X.w) (I.ok.hd hc) it lo 1 n
  refine W.item i s _ _ hg st fun v h' tk hv st' kk=>?_
  obtain⟨t,rfl⟩:=hv
  have I1:Inv X pins σ H { s with heap:=h',toks:=tk }:=I.turned (fun b o hb e=>kk b o (by simpa using hb) e) f0 f1 f3 f4 f5
  refine⟨_,rfl,go_of (s:={ s with heap:=h',toks:=tk }) (n:="range_iterator") st' rfl rfl (by decide) ⟨.int (lo+i),H,I1,⟨t,?_⟩,⟨rfl,rfl⟩,st',fun b hb=>(hf b hb).1⟩⟩
  rw[Int.mul_one]
 done:=by
  intro X hP hw hK hc i pins s σ H E I hf st hg
  subst hP hw hK
  obtain⟨f0,f1,f2,f3,f4,f5⟩:=hf it (by simp)
  exact wpAny_pyNext_range_end (I.ok.hd hc) st (by have:n≤i:=hg;omega) fun h' eb=>⟨rfl,I.turned (t':=s.toks) (fun b o hb e=>eb b o hb e) f0 f1 f3 f4 f5⟩
 self:=fun _ _ _ _ _ st h=>wpAny_pyIter_rangeiter st h
end L2
namespace L2
open PySem PySem.Spec PyProof.Rows
section
variable {X:Cx}{tg:Expr}
noncomputable def iList(K:PySem.W.Frag)(tl:TE):TI:=fun σ H R=>tl σ H fun x H1=>∃a,x=.ref a∧(∃xs,SqL K H1 a xs)∧R (Itl K a) H1
theorem pi_list{l:Expr}{tl:TE}(hl:PE X l tl):PI X tg l (iList X.K tl):=by
 intro pins s σ H R I h
 refine thn (hl pins s σ H _ I h) fun v s1 ⟨x,H1,I1,r1,q1⟩=>?_
 obtain⟨a,e,⟨xs,hq⟩,q⟩:=q1
 subst e
 cases r1
 obtain⟨its,rv,p,hz⟩:=I1.list hq
 refine wpAny_pyIter_list p.isList ?_
 refine⟨s1.heap.objs.size,[s1.heap.objs.size],_,_,H1,rfl,I1.kept (t':=s1.toks) fun b o e=>Heap.get?_push_of_some _ e,turn_list a _,⟨_,Heap.get?_push_size _ rfl,rfl,rfl⟩,fun b hb=>?_,q⟩
 have e:b=s1.heap.objs.size:=by simpa using hb
 subst e
 exact I1.fpOk (Nat.le_refl _) (I1.hok.fresh (Nat.le_refl _))
theorem range_it{pins:List (Addr×Obj)}{σ:St}{H:Hp}{s:Shared}{R:It→Hp→Prop}{E:Value→Shared→Prop}{lo hi:Int}{t u v:Tok}{tk:Nat}(I:Inv X pins σ H s)(h1:-(2 ^ 62)≤lo)(h2:lo<2 ^ 62)(h3:-(2 ^ 62)≤hi)(h4:hi<2 ^ 62)
  (q:R (Itr lo (hi-lo).toNat) H):wpAny (model X.prog X.w) X.A (pyIter (.ref s.heap.objs.size)) (PIE X pins σ tg R) E { s with heap:=s.heap.push { cls:=.type "range",data:=.fields #[.int lo t,.int hi u,.int 1 v] },toks:=tk }:=by
 refine wpAny_pyIter_range (IsRange.new ..) (small_one h1 h2 h3 h4) ?_
 have I1:Inv X pins σ H { s with heap:=s.heap.push { cls:=.type "range",data:=.fields #[.int lo t,.int hi u,.int 1 v] },toks:=tk }:=I.kept fun b o e=>Heap.get?_push_of_some _ e
 refine⟨(s.heap.push { cls:=.type "range",data:=.fields #[.int lo t,.int hi u,.int 1 v] }).objs.size,[(s.heap.push { cls:=.type "range",data:=.fields #[.int lo t,.int hi u,.int 1 v] }).objs.size],_,_,H,rfl,
  I1.kept (t':=tk) fun b o e=>Heap.get?_push_of_some _ e,turn_range _ lo (hi-lo).toNat,?_,fun b hb=>?_,q⟩
 ·have e1:lo+((0:Nat):Int)*1=lo:=by simp
  have e2:(((hi-lo).toNat:Nat):Int)-((0:Nat):Int)=Builtin.Range.rangeSize lo hi 1:=by rw[rangeSize_one];split<;>omega
  show IsRangeIter _ _ (lo+((0:Nat):Int)*1) ((((hi-lo).toNat:Nat):Int)-((0:Nat):Int)) 1
  rw[e1,e2]
  exact Heap.get?_push_size _ rfl
 ·have e:b=(s.heap.push { cls:=.type "range",data:=.fields #[.int lo t,.int hi u,.int 1 v] }).objs.size:=by simpa using hb
  subst e
  exact I1.fpOk (Nat.le_refl _) (I1.hok.fresh (Nat.le_refl _))
noncomputable def iRng2(ta:TA):TI:=fun σ H R=>ta σ H fun vs H1=>∃i j:Int,vs=[.int i,.int j]∧(-(2 ^ 62)≤i∧i<2 ^ 62∧-(2 ^ 62)≤j∧j<2 ^ 62)∧R (Itr i (j-i).toNat) H1
theorem pi_range2{a b:Expr}{ta:TA}{p pos:Pos}(hg:Gl X "range")(hm:X.mg "range" = none)(ha:PA X [a,b] ta)(hs:starEach [a,b] X.env=[(false,eval a X.env),(false,eval b X.env)]:=by rfl)(hs2:starEach [b] X.env=[(false,eval b X.env)]:=by rfl):
  PI X tg (.Call (.Name "range" p) [a,b] [] pos) (iRng2 ta):=by
 intro pins s σ H R I h
 refine Call_ (ld_blt I hg hm boot_range (PyProof.Rows.callWith_type1 (thn (ha pos pins s σ H _ I h) fun us s1 ⟨vs,H1,I1,r1,q1⟩=>?_) (by rw[hs,hs2]) (by rw[hs2];rfl)))
 obtain⟨i,j,e,⟨q1,q2,q3,q4⟩,q⟩:=q1
 subst e
 cases r1 with
 |cons r rr=>
  cases rr with
  |cons r' rr=>
   cases rr
   obtain⟨t,rfl⟩:=r
   obtain⟨t',rfl⟩:=r'
   exact call_range_2 (range_it I1 q1 q2 q3 q4 q)
noncomputable def tFor(wi:TI)(g:TG)(tb:TS):TS:=fun D σ H=>wi σ H fun J H1=>∃W:Nat→Nat→St→Hp→Prop,(∃m,W 0 m σ H1)∧∀i m σ H,W i m σ H→
 (J.stop i H∧D.nx σ H)∨(J.go i H∧∃N:St→Hp→Prop,(∀σ' H',N σ' H'→∃m',m'<m∧W (i+1) m' σ' H')∧∀x H',J.yld i H x H'→g x σ H' fun σ2 H2=>tb { D with nx:=N,ct:=N,bk:=D.nx } σ2 H2)
noncomputable def pinsAt(fp:List Addr)(h:Heap):List (Addr×Obj):=fp.filterMap fun b=>(h.get? b).map fun o=>(b,o)
theorem mem_pinsAt{fp:List Addr}{h:Heap}{b:Addr}{o:Obj}(hb:b∈fp)(e:h.get? b=some o):(b,o)∈pinsAt fp h:=List.mem_filterMap.mpr ⟨b,hb,by rw[e];rfl⟩
theorem of_pinsAt{fp:List Addr}{h:Heap}{p:Addr×Obj}(hp:p∈pinsAt fp h):p.1∈fp∧h.get? p.1=some p.2:=by
 obtain⟨b,hb,e⟩:=List.mem_filterMap.mp hp
 cases q:h.get? b with
 |none=>rw[q]at e;cases e
 |some o=>
  rw[q]at e
  have e':(b,o)=p:=Option.some.inj e
  subst e'
  exact⟨hb,q⟩
theorem Inv.pinned{pins:List (Addr×Obj)}{σ:St}{H:Hp}{s:Shared}{fp:List Addr}(I:Inv X pins σ H s)(hf:∀b∈fp,FpOk X pins H b)(ho:∀b∈fp,∃o,s.heap.get? b=some o∧∀v,o.data≠.cell v):Inv X (pins++pinsAt fp s.heap) σ H s:=
 I.pins_of fun p hp=>(List.mem_append.mp hp).elim (fun z=>I.pin p (List.mem_append_right _ z)) fun z=>by
  obtain⟨hb,e⟩:=of_pinsAt z
  obtain⟨f0,f1,f2,_⟩:=hf p.1 hb
  obtain⟨o,e',d⟩:=ho p.1 hb
  rw[e]at e';cases e'
  exact⟨e,f0,f1,f2,d⟩
theorem Inv.unpinned{pins pl:List (Addr×Obj)}{σ:St}{H:Hp}{s:Shared}(I:Inv X (pins++pl) σ H s):Inv X pins σ H s:=I.pins_of fun p hp=>I.pin p (List.mem_append_right _ (List.mem_append_left _ hp))
theorem ps_for{iter:Expr}{body:List Stmt}{wi:TI}{g:TG}{tb:TS}{pos:Pos}(hp:PassesOwn (model X.prog X.w) X.A X.env X.xe)(hc:X.calm=true)(hi:PI X tg iter wi)(hg:PG X tg g)(hb:PSs X body tb)
  (hs:∀x,foldedSetIterable iter X.env x=pure x:=by intro _;rfl):PS X (.For tg iter body [] pos) (tFor wi g tb):=by
 intro pins s σ H D I h
 refine wpAny_For (thn (hi pins s σ H _ I h) fun v s1 h1=>thn h1 fun itv s2 h2=>?_) hs
 obtain⟨it,fp,tn,J,H2,e,I2,T,st2,f2,W,⟨m0,w0⟩,turn⟩:=h2
 subst e
 have stat:∀{H':Hp},(∀b∈fp,H' b=none)→∀b∈fp,FpOk X pins H' b:=fun hn b hb=>⟨hn b hb,(f2 b hb).2⟩
 refine codeAny_forLoop_any (fun n s'=>∃i σ' H',Inv X pins σ' H' s'∧tn i s'.heap∧(∀b∈fp,H' b=none)∧W i n σ' H') ?_ m0 ⟨0,σ,H2,I2,st2,fun b hb=>(f2 b hb).1,w0⟩
 rintro n s3 ⟨i,σ3,H3,I3,st3,fr3,w3⟩
 rcases turn i n σ3 H3 w3 with⟨stop,qn⟩|⟨go,N,hN,step⟩
 ·refine wpAny_passesOwn hp (thn (T.done X rfl rfl rfl hc i pins s3 σ3 H3 X.xe I3 (stat fr3) st3 stop) fun r s4 ⟨hr,I4⟩=>?_)
  subst hr
  exact wpAny_execs_nil ⟨σ3,H3,I4,qn⟩
 ·refine wpAny_passesOwn hp (thn (T.item X rfl rfl rfl hc i pins s3 σ3 H3 X.xe I3 (stat fr3) st3 go) fun r s4 ⟨u,hr,h4⟩=>?_)
  subst hr
  refine wpAny_passesOwn hp (thn h4 fun _ s5 ⟨x,H5,I5,r5,y5,st5,fr5⟩=>?_)
  have I5':=I5.pinned (stat fr5) (T.obj _ _ st5)
  refine wpAny_passesOwn hp (thn (hg _ s5 σ3 H5 x u _ I5' r5 (step x H5 y5)) fun _ s6 ⟨σ6,H6,I6,q6⟩=>?_)
  refine wpAny_passesOwn hp (thn (hb _ s6 σ6 H6 _ I6 q6) fun f s7 q7=>?_)
  have again:∀{σ7:St} {H7:Hp},Inv X (pins++pinsAt fp s5.heap) σ7 H7 s7→N σ7 H7→∃m,m<n∧∃i σ' H',Inv X pins σ' H' s7∧tn i s7.heap∧(∀b∈fp,H' b=none)∧W i m σ' H':=fun{σ7 H7} I7 n7=>by
   obtain⟨m',hm,w7⟩:=hN σ7 H7 n7
   refine⟨m',hm,i+1,σ7,H7,I7.unpinned,T.keep _ _ _ st5 fun b hb o e=>(I7.pin (b,o) (List.mem_append_right _ (List.mem_append_right _ (mem_pinsAt hb e)))).1,fun b hb=>?_,w7⟩
   obtain⟨o,e,d⟩:=T.obj _ _ st5 b hb
   exact(I7.pin (b,o) (List.mem_append_right _ (List.mem_append_right _ (mem_pinsAt hb e)))).2.1
  cases f with
  |next=>obtain⟨σ7,H7,I7,n7⟩:=q7;exact again I7 n7
  |cont=>obtain⟨σ7,H7,I7,n7⟩:=q7;exact again I7 n7
  |brk=>obtain⟨σ7,H7,I7,q7⟩:=q7;exact⟨σ7,H7,I7.unpinned,q7⟩
  |ret v=>obtain⟨x7,σ7,H7,I7,r7,q7⟩:=q7;exact⟨x7,σ7,H7,I7.unpinned,r7,q7⟩
end
theorem for_list{K:PySem.W.Frag}{a:Addr}{xs:List V}{g:TG}{tb:TS}{D:Ends}{σ:St}{H:Hp}(Pv:Nat→St→Hp→Prop)(h0:Pv 0 σ H)(hl:∀i σ H,i≤xs.length→Pv i σ H→SqL K H a xs)
  (hs:∀i x σ H,xs[i]?=some x→Pv i σ H→g x σ H fun σ2 H2=>tb { D with nx:=Pv (i+1),ct:=Pv (i+1),bk:=D.nx } σ2 H2) (hd:∀σ H,Pv xs.length σ H→D.nx σ H):
  ∃W:Nat→Nat→St→Hp→Prop,(∃m,W 0 m σ H)∧∀i m σ H,W i m σ H→
   ((Itl K a).stop i H∧D.nx σ H)∨((Itl K a).go i H∧∃N:St→Hp→Prop,(∀σ' H',N σ' H'→∃m',m'<m∧W (i+1) m' σ' H')∧∀x H',(Itl K a).yld i H x H'→g x σ H' fun σ2 H2=>tb { D with nx:=N,ct:=N,bk:=D.nx } σ2 H2):=by
 refine⟨fun i m σ H=>m=xs.length-i∧i≤xs.length∧Pv i σ H,⟨xs.length,by simp,Nat.zero_le _,h0⟩,?_⟩
 rintro i m σ H ⟨rfl,hi,p⟩
 have q:=hl i σ H hi p
 by_cases hlt:i<xs.length
 ·refine .inr ⟨⟨xs,xs[i],q,by simp[hlt]⟩,Pv (i+1),fun σ' H' p'=>⟨xs.length-(i+1),by omega,rfl,hlt,p'⟩,fun x H' y=>?_⟩
  obtain⟨e,y⟩:=y
  subst e
  exact hs i x σ _ (y xs q) p
 ·have e:i=xs.length:=by omega
  subst e
  exact .inl ⟨⟨xs,q,Nat.le_refl _⟩,hd σ H p⟩
theorem for_range{lo:Int}{n:Nat}{g:TG}{tb:TS}{D:Ends}{σ:St}{H:Hp}(Pv:Nat→St→Hp→Prop)(h0:Pv 0 σ H)
  (hs:∀i σ H,i<n→Pv i σ H→g (.int (lo+i)) σ H fun σ2 H2=>tb { D with nx:=Pv (i+1),ct:=Pv (i+1),bk:=D.nx } σ2 H2) (hd:∀σ H,Pv n σ H→D.nx σ H):
  ∃W:Nat→Nat→St→Hp→Prop,(∃m,W 0 m σ H)∧∀i m σ H,W i m σ H→
   ((Itr lo n).stop i H∧D.nx σ H)∨((Itr lo n).go i H∧∃N:St→Hp→Prop,(∀σ' H',N σ' H'→∃m',m'<m∧W (i+1) m' σ' H')∧∀x H',(Itr lo n).yld i H x H'→g x σ H' fun σ2 H2=>tb { D with nx:=N,ct:=N,bk:=D.nx } σ2 H2):=by
 refine⟨fun i m σ H=>m=n-i∧i≤n∧Pv i σ H,⟨n,by simp,Nat.zero_le _,h0⟩,?_⟩
 rintro i m σ H ⟨rfl,hi,p⟩
 by_cases hlt:i<n
 ·refine .inr ⟨hlt,Pv (i+1),fun σ' H' p'=>⟨n-(i+1),by omega,rfl,hlt,p'⟩,fun x H' y=>?_⟩
  obtain⟨e,y⟩:=y
  subst e y
  exact hs i σ _ hlt p
 ·have e:i=n:=by omega
  subst e
  exact .inl ⟨Nat.le_refl _,hd σ H p⟩
theorem while_by{c:TT}{tb:TS}{D:Ends}{σ:St}{H:Hp}(Pv:St→Hp→Prop)(μ:St→Hp→Nat)(h0:Pv σ H)
  (hs:∀σ H,Pv σ H→c σ H fun b H1=>if b=true then tb { D with nx:=fun σ' H'=>Pv σ' H'∧μ σ' H'<μ σ H,ct:=fun σ' H'=>Pv σ' H'∧μ σ' H'<μ σ H,bk:=D.nx } σ H1 else D.nx σ H1)
  (mono:∀σ H Q Q',(∀b H1,Q b H1→Q' b H1)→c σ H Q→c σ H Q'):tWhile c tb D σ H:=by
 refine⟨fun m σ H=>m=μ σ H∧Pv σ H,⟨_,rfl,h0⟩,?_⟩
 rintro m σ H ⟨rfl,p⟩
 refine mono σ H _ _ (fun b H1 q=>?_) (hs σ H p)
 cases b with
 |true=>exact⟨_,fun σ' H' ⟨p',l⟩=>⟨_,l,rfl,p'⟩,q⟩
 |false=>exact q
end L2
namespace L2
open PySem PySem.Spec PyProof.Rows
noncomputable abbrev R2:=V→V→Hp→VK→Prop
noncomputable def OpR(X:Cx)(f:Value→Value→Sem Value)(r:R2):Prop:=
 ∀(pins:List (Addr×Obj)) (s:Shared) (σ:St) (H:Hp) (x y:V) (v u:Value) (Q:VK),Inv X pins σ H s→RelV x v→RelV y u→r x y H Q→
  wpAny (model X.prog X.w) X.A (f v u) (EP X pins σ Q) X.xe s
noncomputable def UnR(X:Cx)(f:Value→Sem Value)(r:V→Hp→VK→Prop):Prop:=
 ∀(pins:List (Addr×Obj)) (s:Shared) (σ:St) (H:Hp) (x:V) (v:Value) (Q:VK),Inv X pins σ H s→RelV x v→r x H Q→
  wpAny (model X.prog X.w) X.A (f v) (EP X pins σ Q) X.xe s
noncomputable def CallR(X:Cx)(f:Value)(r:List V→Hp→VK→Prop):Prop:=
 ∀(pins:List (Addr×Obj)) (s:Shared) (σ:St) (H:Hp) (xs:List V) (us:List Value) (Q:VK),Inv X pins σ H s→Vals xs us→r xs H Q→
  wpAny (model X.prog X.w) X.A (call f us) (EP X pins σ Q) X.xe s
noncomputable def tOp(r:R2)(ta tb:TE):TE:=fun σ H Q=>ta σ H fun x H1=>tb σ H1 fun y H2=>r x y H2 Q
noncomputable def tUn(r:V→Hp→VK→Prop)(ta:TE):TE:=fun σ H Q=>ta σ H fun x H1=>r x H1 Q
noncomputable def rI(C:Int→Int→Prop)(g:Int→Int→V):R2:=fun x y H Q=>∃i j,x=.int i∧y=.int j∧C i j∧Q (g i j) H
noncomputable def rI0(g:Int→Int→V):R2:=fun x y H Q=>∃i j,x=.int i∧y=.int j∧Q (g i j) H
noncomputable def rU(g:Int→V):V→Hp→VK→Prop:=fun x H Q=>∃i,x=.int i∧Q (g i) H
section
variable {X:Cx}{a b c:Expr}{ta tb tc:TE}{pos:Pos}
theorem binT(ha:PE X a ta)(hb:PE X b tb){pins:List (Addr×Obj)}{s:Shared}{σ:St}{H:Hp}{R:V→V→Hp→Prop}(I:Inv X pins σ H s)
  (h:ta σ H fun x H1=>tb σ H1 fun y H2=>R x y H2) {Q:Value→Shared→Prop} {f:Value→Value→Sem Value}
  (hf:∀v u s2 x y H2,Inv X pins σ H2 s2→RelV x v→RelV y u→R x y H2→wpAny (model X.prog X.w) X.A (f v u) Q X.xe s2):
  wpAny (model X.prog X.w) X.A (eval a X.env) (fun v s₁=>wpAny (model X.prog X.w) X.A (eval b X.env) (fun u s₂=>wpAny (model X.prog X.w) X.A (f v u) Q X.xe s₂) X.xe s₁) X.xe s:=by
 refine thn (ha pins s σ H _ I h) fun v s1 ⟨x,H1,I1,r1,q1⟩=>?_
 refine thn (hb pins s1 σ H1 _ I1 q1) fun u s2 ⟨y,H2,I2,r2,q2⟩=>?_
 exact hf v u s2 x y H2 I2 r1 r2 q2
theorem pe_op{op:Operator}{r:R2}(ho:OpR X (binaryOp op) r)(ha:PE X a ta)(hb:PE X b tb):PE X (.BinOp a op b pos) (tOp r ta tb):=by
 intro pins s σ H Q I h
 exact wpAny_BinOp (binT ha hb I h fun v u s2 x y H2 I2 rx ry q=>ho pins s2 σ H2 x y v u Q I2 rx ry q)
theorem pe_un{op:UnaryOp}{r:V→Hp→VK→Prop}(ho:UnR X (unaryOp op) r)(ha:PE X a ta):PE X (.UnaryOp op a pos) (tUn r ta):=by
 intro pins s σ H Q I h
 exact UnaryOp_ (thn (ha pins s σ H _ I h) fun v s1 ⟨x,H1,I1,r1,q1⟩=>ho pins s1 σ H1 x v Q I1 r1 q1)
theorem opI{f:Value→Value→Sem Value}{C:Int→Int→Prop}{g:Int→Int→Int}
  (rule:∀(i j:Int) (t u:Tok) (s:Shared) (Q:Value→Shared→Prop) (E:Value→Shared→Prop),C i j→Q (.int (g i j) s.toks) { s with toks:=s.toks+1 }→wpAny (model X.prog X.w) X.A (f (.int i t) (.int j u)) Q E s):
  OpR X f (rI C fun i j=>.int (g i j)):=by
 intro pins s σ H x y v u Q I rx ry h
 obtain⟨i,j,rfl,rfl,hc,q⟩:=h
 obtain⟨t,rfl⟩:=rx
 obtain⟨t',rfl⟩:=ry
 exact rule i j t t' s _ _ hc ⟨.int (g i j),H,I.tok _,⟨_,rfl⟩,q⟩
theorem opI0{f:Value→Value→Sem Value}{g:Int→Int→Int}
  (rule:∀(i j:Int) (t u:Tok) (s:Shared) (Q:Value→Shared→Prop) (E:Value→Shared→Prop),Q (.int (g i j) s.toks) { s with toks:=s.toks+1 }→wpAny (model X.prog X.w) X.A (f (.int i t) (.int j u)) Q E s):
  OpR X f (rI0 fun i j=>.int (g i j)):=by
 intro pins s σ H x y v u Q I rx ry h
 obtain⟨i,j,rfl,rfl,q⟩:=h
 obtain⟨t,rfl⟩:=rx
 obtain⟨t',rfl⟩:=ry
 exact rule i j t t' s _ _ ⟨.int (g i j),H,I.tok _,⟨_,rfl⟩,q⟩
theorem opB0{f:Value→Value→Sem Value}{g:Int→Int→Bool}
  (rule:∀(i j:Int) (t u:Tok) (s:Shared) (Q:Value→Shared→Prop) (E:Value→Shared→Prop),Q (.bool (g i j)) s→wpAny (model X.prog X.w) X.A (f (.int i t) (.int j u)) Q E s):
  OpR X f (rI0 fun i j=>.bl (g i j)):=by
 intro pins s σ H x y v u Q I rx ry h
 obtain⟨i,j,rfl,rfl,q⟩:=h
 obtain⟨t,rfl⟩:=rx
 obtain⟨t',rfl⟩:=ry
 exact rule i j t t' s _ _ ⟨.bl (g i j),H,I,rfl,q⟩
noncomputable def CDiv(i j:Int):Prop:=0<j∧j<1073741824
noncomputable def CMul(i j:Int):Prop:=(-(2 ^ 64)<i∧i<2 ^ 64)∨(-(2 ^ 64)<j∧j<2 ^ 64)
theorem CMul.ok{i j:Int}(h:CMul i j):IntMulOk i j:=by
 rcases h with⟨h1,h2⟩|⟨h1,h2⟩
 ·exact .of_left (intBits_le_64 h1 h2)
 ·exact .of_right (intBits_le_64 h1 h2)
theorem op_add:OpR X (binaryOp .Add) (rI0 fun i j=>.int (i+j)):=opI0 fun _ _ _ _ _ _ _ q=>add_int q
theorem op_sub:OpR X (binaryOp .Sub) (rI0 fun i j=>.int (i-j)):=opI0 fun _ _ _ _ _ _ _ q=>sub_int q
theorem op_mul:OpR X (binaryOp .Mult) (rI CMul fun i j=>.int (i*j)):=opI fun _ _ _ _ _ _ _ hc q=>mul_int q hc.ok
theorem op_fdiv:OpR X (binaryOp .FloorDiv) (rI CDiv fun i j=>.int (i / j)):=opI fun i j _ _ _ _ _ hc q=>by
 have h1:(0:Int)<j:=hc.1
 have h2:j<1073741824:=hc.2
 exact floordiv_int (by omega) (by rw[Int.fdiv_eq_ediv_of_nonneg i (by omega)];exact q) (.inl (PyProof.noPylong_small (by omega)))
theorem op_mod:OpR X (binaryOp .Mod) (rI (fun _ j=>0<j) fun i j=>.int (i % j)):=opI fun i j _ _ _ _ _ hc q=>by
 have h1:(0:Int)<j:=hc
 exact mod_int' (by omega) (by rw[Int.fmod_eq_emod_of_nonneg i (by omega)];exact q)
theorem unI{f:Value→Sem Value}{g:Int→Int}
  (rule:∀(i:Int) (t:Tok) (s:Shared) (Q:Value→Shared→Prop) (E:Value→Shared→Prop),Q (.int (g i) s.toks) { s with toks:=s.toks+1 }→wpAny (model X.prog X.w) X.A (f (.int i t)) Q E s):
  UnR X f (rU fun i=>.int (g i)):=by
 intro pins s σ H x v Q I rx h
 obtain⟨i,rfl,q⟩:=h
 obtain⟨t,rfl⟩:=rx
 exact rule i t s _ _ ⟨.int (g i),H,I.tok _,⟨_,rfl⟩,q⟩
theorem un_neg:UnR X (unaryOp .USub) (rU fun i=>.int (-i)):=unI fun _ _ _ _ _ q=>neg_int q
end
noncomputable def scal:V→V→Bool
 | .non,.non=>true | .non,.int _=>true | .int _,.non=>true | .non,.bl _=>true | .bl _,.non=>true | .non,.str _=>true | .str _,.non=>true
 | .int _,.int _=>true | .bl _,.bl _=>true | .str _,.str _=>true | .byt _,.byt _=>true
 | .int _,.str _=>true | .str _,.int _=>true | .bl _,.str _=>true | .str _,.bl _=>true
 |_,_=>false
noncomputable def rEq:R2:=fun x y H Q=>scal x y=true∧Q (.bl (decide (x=y))) H
noncomputable def rNe:R2:=fun x y H Q=>scal x y=true∧Q (.bl (!decide (x=y))) H
theorem dec_int{i j:Int}:decide (V.int i=V.int j)=(i==j):=by
 rw[Bool.eq_iff_iff]
 simp
theorem dec_bl{i j:Bool}:decide (V.bl i=V.bl j)=(i==j):=by
 rw[Bool.eq_iff_iff]
 simp
theorem dec_str{i j:Str}:decide (V.str i=V.str j)=(i==j):=by
 rw[Bool.eq_iff_iff]
 simp
theorem dec_byt{i j:Array UInt8}:decide (V.byt i=V.byt j)=(i.toList==j.toList):=by
 rw[Bool.eq_iff_iff]
 cases i
 cases j
 simp
section
variable {X:Cx}{a b c:Expr}{ta tb tc:TE}{pos:Pos}
theorem fin_bl{pins:List (Addr×Obj)}{σ:St}{H:Hp}{s:Shared}{Q:VK}{k k':Bool}(I:Inv X pins σ H s)(q:Q (.bl k) H)(e:k=k'):EP X pins σ Q (.bool k') s:=by
 subst e
 exact⟨.bl k,H,I,rfl,q⟩
theorem op_eq:OpR X (compareOp .Eq) rEq:=by
 intro pins s σ H x y v u Q I rx ry h
 obtain⟨hs,q⟩:=h
 cases x with
 |non=>
  cases rx
  cases y with
  |non=>cases ry;exact PySem.EqNone.eq_none_none (fin_bl I q (by simp))
  |bl j=>cases ry;exact PySem.EqNone.eq_none_bool (fin_bl I q (by simp))
  |int j=>obtain⟨t',rfl⟩:=ry;exact PySem.EqNone.eq_none_int (fin_bl I q (by simp))
  |str j=>obtain⟨t',rfl⟩:=ry;exact PySem.EqNone.eq_none_str (fin_bl I q (by simp))
  |_=>exact absurd (show false=true from hs) Bool.false_ne_true
 |bl i=>
  cases rx
  cases y with
  |non=>cases ry;exact PySem.EqNone.eq_bool_none (fin_bl I q (by simp))
  |bl j=>cases ry;exact eq_bool (fin_bl I q dec_bl)
  |str j=>obtain⟨t',rfl⟩:=ry;exact PySem.EqMixed.eq_bool_str (fin_bl I q (by simp))
  |_=>exact absurd (show false=true from hs) Bool.false_ne_true
 |int i=>
  obtain⟨t,rfl⟩:=rx
  cases y with
  |non=>cases ry;exact PySem.EqNone.eq_int_none (fin_bl I q (by simp))
  |int j=>obtain⟨t',rfl⟩:=ry;exact eq_int (fin_bl I q dec_int)
  |str j=>obtain⟨t',rfl⟩:=ry;exact PySem.EqMixed.eq_int_str (fin_bl I q (by simp))
  |_=>exact absurd (show false=true from hs) Bool.false_ne_true
 |str i=>
  obtain⟨t,rfl⟩:=rx
  cases y with
  |non=>cases ry;exact PySem.EqNone.eq_str_none (fin_bl I q (by simp))
  |bl j=>cases ry;exact PySem.EqMixed.eq_str_bool (fin_bl I q (by simp))
  |int j=>obtain⟨t',rfl⟩:=ry;exact PySem.EqMixed.eq_str_int (fin_bl I q (by simp))
  |str j=>obtain⟨t',rfl⟩:=ry;exact eq_str (fin_bl I q dec_str)
  |_=>exact absurd (show false=true from hs) Bool.false_ne_true
 |byt i=>
  obtain⟨t,rfl⟩:=rx
  cases y with
  |byt j=>obtain⟨t',rfl⟩:=ry;exact PySem.W.eq_bytes (fin_bl I q dec_byt)
  |_=>exact absurd (show false=true from hs) Bool.false_ne_true
 |_=>cases y<;>exact absurd (show false=true from hs) Bool.false_ne_true
theorem op_ne:OpR X (compareOp .NotEq) rNe:=by
 intro pins s σ H x y v u Q I rx ry h
 obtain⟨hs,q⟩:=h
 cases x with
 |non=>
  cases rx
  cases y with
  |non=>cases ry;exact PySem.EqNone.ne_none_none (fin_bl I q (by simp))
  |bl j=>cases ry;exact PySem.EqNone.ne_none_bool (fin_bl I q (by simp))
  |int j=>obtain⟨t',rfl⟩:=ry;exact PySem.EqNone.ne_none_int (fin_bl I q (by simp))
  |str j=>obtain⟨t',rfl⟩:=ry;exact PySem.EqNone.ne_none_str (fin_bl I q (by simp))
  |_=>exact absurd (show false=true from hs) Bool.false_ne_true
 |bl i=>
  cases rx
  cases y with
  |non=>cases ry;exact PySem.EqNone.ne_bool_none (fin_bl I q (by simp))
  |bl j=>cases ry;exact ne_bool (fin_bl I q (congrArg not dec_bl))
  |str j=>obtain⟨t',rfl⟩:=ry;exact PySem.EqMixed.ne_bool_str (fin_bl I q (by simp))
  |_=>exact absurd (show false=true from hs) Bool.false_ne_true
 |int i=>
  obtain⟨t,rfl⟩:=rx
  cases y with
  |non=>cases ry;exact PySem.EqNone.ne_int_none (fin_bl I q (by simp))
  |int j=>obtain⟨t',rfl⟩:=ry;exact ne_int (fin_bl I q (congrArg not dec_int))
  |str j=>obtain⟨t',rfl⟩:=ry;exact PySem.EqMixed.ne_int_str (fin_bl I q (by simp))
  |_=>exact absurd (show false=true from hs) Bool.false_ne_true
 |str i=>
  obtain⟨t,rfl⟩:=rx
  cases y with
  |non=>cases ry;exact PySem.EqNone.ne_str_none (fin_bl I q (by simp))
  |bl j=>cases ry;exact PySem.EqMixed.ne_str_bool (fin_bl I q (by simp))
  |int j=>obtain⟨t',rfl⟩:=ry;exact PySem.EqMixed.ne_str_int (fin_bl I q (by simp))
  |str j=>obtain⟨t',rfl⟩:=ry;exact ne_str (fin_bl I q (congrArg not dec_str))
  |_=>exact absurd (show false=true from hs) Bool.false_ne_true
 |byt i=>
  obtain⟨t,rfl⟩:=rx
  cases y with
  |byt j=>obtain⟨t',rfl⟩:=ry;exact PySem.W.ne_bytes (fin_bl I q (congrArg not dec_byt))
  |_=>exact absurd (show false=true from hs) Bool.false_ne_true
 |_=>cases y<;>exact absurd (show false=true from hs) Bool.false_ne_true
theorem op_lt:OpR X (compareOp .Lt) (rI0 fun i j=>.bl (decide (i<j))):=opB0 fun _ _ _ _ _ _ _ q=>lt_int q
theorem op_le:OpR X (compareOp .LtE) (rI0 fun i j=>.bl (decide (i≤j))):=opB0 fun _ _ _ _ _ _ _ q=>le_int q
theorem op_gt:OpR X (compareOp .Gt) (rI0 fun i j=>.bl (decide (j<i))):=opB0 fun _ _ _ _ _ _ _ q=>gt_int q
theorem op_ge:OpR X (compareOp .GtE) (rI0 fun i j=>.bl (decide (j≤i))):=opB0 fun _ _ _ _ _ _ _ q=>ge_int q
theorem nomark(b:Expr){op:CmpOp}(h:op≠.In:=by decide)(h2:op≠.NotIn:=by decide):behindInMarks op b=false:=by
 have e1:(op==CmpOp.In)=false:=by cases op<;>first|rfl|exact absurd rfl h
 have e2:(op==CmpOp.NotIn)=false:=by cases op<;>first|rfl|exact absurd rfl h2
 cases b<;>simp[behindInMarks,e1,e2]
theorem pe_cmpR{op:CmpOp}{r:R2}(ho:OpR X (compareOp op) r)(ha:PE X a ta)(hb:PE X b tb)(hm:behindInMarks op b=false):PE X (.Compare a [op] [b] pos) (tOp r ta tb):=by
 intro pins s σ H Q I h
 exact wpAny_Compare1 (binT ha hb I h fun v u s2 x y H2 I2 rx ry q=>ho pins s2 σ H2 x y v u Q I2 rx ry q) hm
noncomputable def tTest(t:TE):TT:=fun σ H Q=>t σ H fun x H'=>∃k,x=.bl k∧Q k H'
theorem pt_cmpR{op:CmpOp}{r:R2}(ho:OpR X (compareOp op) r)(ha:PE X a ta)(hb:PE X b tb)(hm:behindInMarks op b=false):PT X (.Compare a [op] [b] pos) (tTest (tOp r ta tb)):=by
 intro pins s σ H Q I h
 refine wpAny_isTrue_Compare1 (thn (ha pins s σ H _ I h) fun v s1 ⟨x,H1,I1,r1,q1⟩=>thn (hb pins s1 σ H1 _ I1 q1) fun u s2 ⟨y,H2,I2,r2,q2⟩=>
  thn (ho pins s2 σ H2 x y v u _ I2 r1 r2 q2) fun c s3 ⟨z,H3,I3,r3,k,e,q3⟩=>?_) hm
 subst e
 cases r3
 exact wpAny_truthy_bool ⟨H3,I3,q3⟩
theorem line63:(sizeLine:Nat)<2 ^ 63:=by rw[sizeLine_eq];decide
theorem vals1{x:V}{us:List Value}(r:Vals [x] us):∃u,us=[u]∧RelV x u:=by
 cases r with
 |cons r1 r2=>cases r2;exact⟨_,rfl,r1⟩
theorem vals2{x y:V}{us:List Value}(r:Vals [x,y] us):∃u w',us=[u,w']∧RelV x u∧RelV y w':=by
 cases r with
 |cons r1 r2=>
  cases r2 with
  |cons r3 r4=>cases r4;exact⟨_,_,rfl,r1,r3⟩
theorem call_abs:CallR X (.builtin "abs") (fun xs H Q=>∃i,xs=[.int i]∧Q (.int (if i<0 then -i else i)) H):=by
 intro pins s σ H xs us Q I r h
 obtain⟨i,rfl,q⟩:=h
 obtain⟨u,rfl,t,rfl⟩:=vals1 r
 exact call_abs_int fun u tk=>⟨.int (if i<0 then -i else i),H,I.tok _,⟨_,rfl⟩,q⟩
theorem call_max2(hc:X.calm=true):CallR X (.builtin "max") (fun xs H Q=>∃i j,xs=[.int i,.int j]∧Q (.int (if j>i then j else i)) H):=by
 intro pins s σ H xs us Q I r h
 obtain⟨i,j,rfl,q⟩:=h
 obtain⟨u,w',rfl,⟨t,rfl⟩,⟨t',rfl⟩⟩:=vals2 r
 refine max_two_ints (I.ok.hd hc) fun h' tk k=>⟨_,H,I.kept k,?_,q⟩
 by_cases hj:j>i
 ·rw[if_pos hj,if_pos hj];exact⟨_,rfl⟩
 ·rw[if_neg hj,if_neg hj];exact⟨_,rfl⟩
theorem call_min2(hc:X.calm=true):CallR X (.builtin "min") (fun xs H Q=>∃i j,xs=[.int i,.int j]∧Q (.int (if j<i then j else i)) H):=by
 intro pins s σ H xs us Q I r h
 obtain⟨i,j,rfl,q⟩:=h
 obtain⟨u,w',rfl,⟨t,rfl⟩,⟨t',rfl⟩⟩:=vals2 r
 refine min_two_ints (I.ok.hd hc) fun h' tk k=>⟨_,H,I.kept k,?_,q⟩
 by_cases hj:j<i
 ·rw[if_pos hj,if_pos hj];exact⟨_,rfl⟩
 ·rw[if_neg hj,if_neg hj];exact⟨_,rfl⟩
end
end L2
namespace L2
open PySem PySem.Spec PyProof.Rows
structure ObjM(h:Heap)(x dx C:Addr)(mA:Str→Option Value):Prop where
 obj:h.get? x=some (PySem.W.instObj C dx)
 ns:h.Ns1 dx mA
 ne:dx≠x
theorem lookIn_ns{h:Heap}{dx:Addr}{mA:Str→Option Value}(n:h.Ns1 dx mA):∃od,h.get? dx=some od∧∀name,PySem.W.lookIn name od=some (mA name):=by
 obtain⟨o,es,ep,ho,hd,hk,_,hm⟩:=n
 refine⟨o,ho,fun name=>?_⟩
 have e:=hm name
 unfold nsFind findBy at e
 rw[←Array.find?_toList]at e
 unfold PySem.W.lookIn
 rw[hd]
 dsimp only
 split
 ·rename_i y q
  rw[q]at e
  exact congrArg some e
 ·rename_i q
  rw[q]at e
  have a:es.toList.any (·.refKey)=false:=by
   rw[List.any_eq_false]
   intro y hy
   obtain⟨z,t,hkey⟩:=hk y (Array.mem_toList_iff.mp hy)
   simp[DictEntry.refKey,hkey]
  have a':¬es.toList.any (·.refKey)=true:=by rw[a];exact Bool.false_ne_true
  rw[if_neg a']
  exact congrArg some e
theorem ObjM.look{h:Heap}{x dx C:Addr}{mA:Str→Option Value}(I:ObjM h x dx C mA):∃od,PySem.W.InstAt h x (PySem.W.instObj C dx) C (some od)∧∀name,PySem.W.lookIn name od=some (mA name):=
 let⟨od,ho,hl⟩:=lookIn_ns I.ns
 ⟨od,⟨I.obj,rfl,rfl,ho⟩,hl⟩
section
variable {prog:Program}{w:World}{A:Around}{E:Value→Shared→Prop}{s:Shared}{K:PySem.W.Frag}{x dx C f:Addr}{mA:Str→Option Value}{name:Str}{v:Value}
theorem get_map{expr:Bool}{Q:Value→Shared→Prop}(X:K.In s.heap)(I:ObjM s.heap x dx C mA)(hg:PySem.W.plainGet K C name=true)(hh:PySem.W.hasDictIn K C=true)
  (ha:PySem.W.findIn K (.ref C) name=some none) (hv:mA name=some v) (hv':PySem.W.handedIn v=true) (h:Q v { s with toks:=s.toks+1 }):
  wpAny (model prog w) A (getAttr (.ref x) name expr) Q E s:=by
 obtain⟨od,J,hl⟩:=I.look
 exact PySem.W.get_value X J (PySem.W.plainGet_of hg).1 (PySem.W.findObj_own hh ha rfl (by rw[hl,hv])) hv' h
theorem set_map{ns:List Str}{Q:Unit→Shared→Prop}(X:K.In s.heap)(I:ObjM s.heap x dx C mA)
  (hs:PySem.W.findIn K (.ref C) "__setattr__" = some (some (.builtin "object.__setattr__"))) (hp:PySem.W.plainOver K C=true) (ht:PySem.W.takerIn K C name=some none) (hh:PySem.W.hasDictIn K C=true)
  (hw:PySem.Within mA ns) (hsz:ns.length≤sizeLine)
  (h:∀h',ObjM h' x dx C (fun y=>if y=name then some v else mA y)→Heap.SameBut dx s.heap h'→Q () { s with heap:=h',toks:=s.toks+2 }):
  wpAny (model prog w) A (setAttr (.ref x) name v) Q E s:=by
 obtain⟨od,J,hl⟩:=I.look
 refine PySem.W.set_plain X J hs (PySem.W.osa_open (s:={ s with toks:=s.toks+1 }) (r:=none) X J hp ht fun b=>?_)
 obtain⟨cd,hc,hd'⟩:=PySem.W.any_some hh
 have hx:s.heap.get? x=some ⟨.ref C,some dx,.plain,#[]⟩:=I.obj
 refine wpAny_bind (wpAny_pure (wpAny_bind (wpAny_bind (wpAny_loadPart hx (wpAny_bind (PySem.W.Looks.here (s:={ s with toks:=s.toks+1 }) (PySem.W.looks_clsIn X hc) ?_))))))
 rw[hd']
 refine wpAny_pure (a:=some dx) (wpAny_bind (wpAny_pure (wpAny_bind ?_)))
 refine wpAny_nsSet1 (s:={ s with toks:=s.toks+1 }) I.ns fun h' hn2 hs2=>?_
 obtain⟨oD,esD,epD,hoD,hdD,hcD⟩:=hn2.count (PySem.Within.cons name v hw)
 refine wpAny_bind (wpAny_lookBehind hoD (by rw[hdD];exact pastItsLine_dict (Nat.le_trans hcD (by rw[List.length_cons];omega))) ?_)
 exact wpAny_pure (h _ ⟨(hs2.2 _ (Ne.symm I.ne)).trans I.obj,hn2,I.ne⟩ hs2)
theorem make_map{R:Result→Shared→Prop}{vs:List Value}{kw:List (Str×Value)}(X:K.In s.heap)(hm:PySem.W.makesIn K C=true)
  (hi:PySem.W.findIn K (.ref C) "__init__" = some (some (.ref f))) (hf:PySem.W.typeIn K (.ref f)=some (.type "function"))
  (h:codeAny (model prog w) (A.under (.builtin "type.__call__" ⟨.ref C::vs,kw⟩)) (.call (.ref f) ⟨.ref (s.heap.objs.size+1)::vs,kw⟩) (PySem.W.InitBack (s.heap.objs.size+1) R)
   { s with heap:=(s.heap.push PySem.W.emptyDict).push (PySem.W.instObj C s.heap.objs.size) }):
  codeAny (model prog w) A (.call (.ref C) ⟨vs,kw⟩) R s:=by
 obtain⟨hh,g,d,t,os⟩:=s
 exact PySem.W.make_core (PySem.W.makes_of X hm) (PySem.W.looks_findIn X hi) (fun self=>PySem.W.bind_fn X self hf) (.inl rfl) h
end
noncomputable def putF(f:Str)(v:V):List (Str×V)→List (Str×V)
 |[]=>[(f,v)]
 |(g,x)::r=>if g=f then(g,v)::r else(g,x)::putF f v r
theorem lookup_putF(f g:Str)(v:V):∀fs:List (Str×V),(putF f v fs).lookup g=if g=f then some v else fs.lookup g
 |[]=>by
  show List.lookup g [(f,v)]=_
  by_cases h:g=f
  ·have hb:(g==f)=true:=beq_iff_eq.mpr h
   simp only[List.lookup,hb,if_pos h]
  ·have hb:(g==f)=false:=beq_eq_false_iff_ne.mpr h
   simp only[List.lookup,hb,if_neg h]
 |(k,x)::r=>by
  have ih:=lookup_putF f g v r
  rw[show putF f v ((k,x)::r)=(if k=f then(k,v)::r else(k,x)::putF f v r)from rfl]
  by_cases hk:k=f
  ·rw[if_pos hk]
   by_cases h:g=k
   ·have hb:(g==k)=true:=beq_iff_eq.mpr h
    simp only[List.lookup,hb,if_pos (h.trans hk)]
   ·have hb:(g==k)=false:=beq_eq_false_iff_ne.mpr h
    simp only[List.lookup,hb,if_neg (fun e:g=f=>h (e.trans hk.symm))]
  ·rw[if_neg hk]
   by_cases h:g=k
   ·have hb:(g==k)=true:=beq_iff_eq.mpr h
    simp only[List.lookup,hb,if_neg (fun e:g=f=>hk (h.symm.trans e))]
   ·have hb:(g==k)=false:=beq_eq_false_iff_ne.mpr h
    simp only[List.lookup,hb]
    exact ih
theorem keys_putF(f:Str)(v:V):∀fs:List (Str×V),f∈(putF f v fs).map (·.1)∧∀g,g∈fs.map (·.1)→g∈(putF f v fs).map (·.1)
 |[]=>⟨by simp[putF],fun g h=>by simp at h⟩
 |(k,x)::r=>by
  obtain⟨i1,i2⟩:=keys_putF f v r
  rw[show putF f v ((k,x)::r)=(if k=f then(k,v)::r else(k,x)::putF f v r)from rfl]
  by_cases hk:k=f
  ·rw[if_pos hk]
   subst hk
   exact⟨by simp,fun g h=>by simpa using h⟩
  ·rw[if_neg hk]
   refine⟨?_,fun g h=>?_⟩
   ·rw[List.map_cons]
    exact List.mem_cons_of_mem _ i1
   ·rw[List.map_cons]at h ⊢
    rcases List.mem_cons.mp h with e|e
    ·exact List.mem_cons.mpr (.inl e)
    ·exact List.mem_cons_of_mem _ (i2 g e)
theorem length_putF(f:Str)(v:V):∀fs:List (Str×V),(putF f v fs).length≤fs.length+1
 |[]=>by simp[putF]
 |(k,x)::r=>by
  have ih:=length_putF f v r
  rw[show putF f v ((k,x)::r)=(if k=f then(k,v)::r else(k,x)::putF f v r)from rfl]
  by_cases hk:k=f
  ·rw[if_pos hk,List.length_cons,List.length_cons];omega
  ·rw[if_neg hk,List.length_cons,List.length_cons];omega
theorem RelO.some_of{v:V}{o:Option Value}(r:RelO (some v) o):∃u,o=some u∧RelV v u:=by
 cases o with
 |none=>exact(show False from r).elim
 |some u=>exact⟨u,rfl,r⟩
theorem handed_of{v:V}{u:Value}(r:RelV v u):PySem.W.handedIn u=true:=by
 cases v with
 |non=>cases (show u=Value.none from r);rfl
 |bl b=>cases (show u=Value.bool b from r);rfl
 |int i=>obtain⟨t,e⟩:=(show ∃t,u=Value.int i t from r);cases e;rfl
 |str x=>obtain⟨t,e⟩:=(show ∃t,u=Value.str x t from r);cases e;rfl
 |byt b=>obtain⟨t,e⟩:=(show ∃t,u=Value.bytes b t from r);cases e;rfl
 |flt b=>obtain⟨t,e⟩:=(show ∃t,u=Value.float b t from r);cases e;rfl
 |ref a=>cases (show u=Value.ref a from r);rfl
 |ty n=>cases (show u=Value.type n from r);rfl
section
variable {P:Program}{w:World}{H H':Hp}{h h':Heap}{a C dx:Addr}{fs fs':List (Str×V)}
theorem ins_get(hok:HOk P w H h)(e:H a=some (.ins C dx fs)):∃mA,ObjM h a dx C mA∧(∀f,RelO (fs.lookup f) (mA f))∧PySem.Within mA (fs.map (·.1))∧fs.length≤1000∧H dx=some (.own a):=by
 obtain⟨d,z,ne,ob,mA,n,r,q⟩:=(show ObjOk P w H h a (.ins C dx fs)from hok a _ e)
 exact⟨mA,⟨ob,n,ne⟩,r,q,z,d⟩
end
structure Cls(K:PySem.W.Frag)(C:Addr):Prop where
 pg:PySem.W.plainGet K C Str.empty=true
 hd:PySem.W.hasDictIn K C=true
 po:PySem.W.plainOver K C=true
 sa:PySem.W.findIn K (.ref C) "__setattr__" = some (some (.builtin "object.__setattr__"))
theorem Cls.get{K:PySem.W.Frag}{C:Addr}(c:Cls K C)(f:Str):PySem.W.plainGet K C f=true:=c.pg
noncomputable def NoAttr(K:PySem.W.Frag)(C:Addr)(f:Str):Prop:=PySem.W.findIn K (.ref C) f=some none
theorem NoAttr.taker{K:PySem.W.Frag}{C:Addr}{f:Str}(n:NoAttr K C f):PySem.W.takerIn K C f=some none:=by
 unfold PySem.W.takerIn
 rw[show PySem.W.findIn K (.ref C) f=some none from n]
 rfl
section
variable {X:Cx}{pins:List (Addr×Obj)}{σ:St}{H:Hp}{s:Shared}{a C dx:Addr}{fs:List (Str×V)}{f:Str}{v:V}{A:Around}{E:Value→Shared→Prop}
theorem getattr_ok{b:Bool}{Q:Value→Shared→Prop}(I:Inv X pins σ H s)(e:H a=some (.ins C dx fs))(c:Cls X.K C)(n:NoAttr X.K C f)(l:fs.lookup f=some v)
  (h:∀u s',Inv X pins σ H s'→RelV v u→Q u s'):wpAny (model X.prog X.w) A (getAttr (.ref a) f b) Q E s:=by
 obtain⟨mA,O,r,_,_,_⟩:=ins_get I.hok e
 obtain⟨u,hu,ru⟩:=RelO.some_of (v:=v) (o:=mA f) (by rw[←l];exact r f)
 exact get_map I.kIn O (c.get f) c.hd n hu (handed_of ru) (h u _ (I.tok _) ru)
theorem setattr_ok{y:V}{u:Value}{Q:Unit→Shared→Prop}(I:Inv X pins σ H s)(e:H a=some (.ins C dx fs))(c:Cls X.K C)(n:NoAttr X.K C f)(hl:fs.length<1000)(ry:RelV y u)
  (h:∀s',Inv X pins σ (upd H a (.ins C dx (putF f y fs))) s'→Q () s'):wpAny (model X.prog X.w) A (setAttr (.ref a) f u) Q E s:=by
 obtain⟨mA,O,r,wi,_,ho⟩:=ins_get I.hok e
 have hz:(fs.map (·.1)).length≤sizeLine:=by rw[List.length_map,sizeLine_eq];omega
 refine set_map I.kIn O c.sa c.po n.taker c.hd wi hz fun h' O' sb=>h _ ?_
 have hd:∃o,h'.get? dx=some o:=let⟨o,_,_,e',_⟩:=O'.ns;⟨o,e'⟩
 refine I.write (x:=a) (e:=dx) (by rw[e];exact True.intro) (.inr ho) (fun b q hb z=>(sb.2 b hb).trans z) hd ?_
 refine⟨by rw[upd_ne O.ne];exact ho,?_,O.ne,O'.obj,_,O'.ns,fun g=>?_,fun g hg=>?_⟩
 ·have:=length_putF f y fs;omega
 ·show RelO ((putF f y fs).lookup g) (if g=f then some u else mA g)
  rw[lookup_putF]
  by_cases q:g=f
  ·rw[if_pos q,if_pos q];exact ry
  ·rw[if_neg q,if_neg q];exact r g
 ·by_cases q:g=f
  ·rw[q];exact(keys_putF f y fs).1
  ·refine(keys_putF f y fs).2 g (wi g fun z=>hg ?_)
   show(if g=f then some u else mA g)=none
   rw[if_neg q];exact z
theorem Inv.made(I:Inv X pins σ H s):Inv X pins σ (upd (upd H s.heap.objs.size (.own (s.heap.objs.size+1))) (s.heap.objs.size+1) (.ins C s.heap.objs.size []))
  { s with heap:=(s.heap.push PySem.W.emptyDict).push (PySem.W.instObj C s.heap.objs.size) }:=by
 have e1:(s.heap.push PySem.W.emptyDict).get? s.heap.objs.size=some PySem.W.emptyDict:=Heap.get?_push_size s.heap rfl
 have e2:((s.heap.push PySem.W.emptyDict).push (PySem.W.instObj C s.heap.objs.size)).get? (s.heap.objs.size+1)=some (PySem.W.instObj C s.heap.objs.size):=by
  have:=Heap.get?_push_size (s.heap.push PySem.W.emptyDict) (o:=PySem.W.instObj C s.heap.objs.size) rfl
  rwa[Heap.size_push]at this
 have e3:(s.heap.push PySem.W.emptyDict).Ns s.heap.objs.size (fun _=>none):=⟨PySem.W.emptyDict,#[],_,e1,rfl,(fun e he=>absurd he (by simp)),fun _=>rfl⟩
 have I1:=I.laid (a:=s.heap.objs.size) (o:=.own (s.heap.objs.size+1)) (h':=s.heap.push PySem.W.emptyDict) (t':=s.toks) (fun b u q=>Heap.get?_push_of_some _ q) (Nat.le_refl _) ⟨_,e1⟩
 refine I1.laid (a:=s.heap.objs.size+1) (o:=.ins C s.heap.objs.size []) (t':=s.toks) (fun b u q=>Heap.get?_push_of_some _ q) (Nat.le_of_eq (Heap.size_push _ _)) ?_
 have ne:s.heap.objs.size≠s.heap.objs.size+1:=Nat.ne_of_lt (Nat.lt_succ_self _)
 refine⟨by rw[upd_ne ne,upd_same],Nat.zero_le _,ne,e2,fun _=>none,(Heap.Ns1.of_empty e3).at fun o q=>Heap.get?_push_of_some _ q,fun _=>True.intro,fun y hy=>absurd rfl hy⟩
theorem attr_of{prog:Program}{w:World}{env:Env}{e:Expr}{f:Str}{pos:Pos}{s:Shared}{Q:Value→Shared→Prop}(hb:attributeBase e f env (eval e env)=eval e env)
  (h:wpAny (model prog w) A (eval e env) (fun o s₁=>wpAny (model prog w) A (getAttr o f true) Q E s₁) E s):wpAny (model prog w) A (eval (.Attribute e f pos) env) Q E s:=
 Attribute_any_ h (by rw[arm_eval_Attribute,hb])
end
noncomputable def tFld(K:PySem.W.Frag)(ta:TE)(f:Str):TE:=fun σ H Q=>ta σ H fun x H1=>∃a C dx fs v,x=.ref a∧H1 a=some (.ins C dx fs)∧Cls K C∧NoAttr K C f∧fs.lookup f=some v∧Q v H1
noncomputable def sFld(K:PySem.W.Frag)(ta tv:TE)(f:Str):TS:=fun D σ H=>tv σ H fun y H1=>ta σ H1 fun x H2=>∃a C dx fs,x=.ref a∧H2 a=some (.ins C dx fs)∧Cls K C∧NoAttr K C f∧fs.length<1000∧
 D.nx σ (upd H2 a (.ins C dx (putF f y fs)))
section
variable {X:Cx}{o e value:Expr}{f:Str}{pos pos' tpos:Pos}{ta tv:TE}
theorem pe_fld(he:PE X e ta)(hb:attributeBase e f X.env (eval e X.env)=eval e X.env):PE X (.Attribute e f pos) (tFld X.K ta f):=by
 intro pins s σ H Q I h
 refine attr_of hb (thn (he pins s σ H _ I h) fun u s1 ⟨x,H1,I1,rx,a,C,dx,fs,v,ex,ea,c,n,l,q⟩=>?_)
 subst ex
 obtain rfl:u=Value.ref a:=rx
 exact getattr_ok I1 ea c n l fun u' s2 I2 ru=>⟨v,H1,I2,ru,q⟩
theorem ps_fld(ha:PE X o ta)(hv:PE X value tv)(hs:swapsWith value (some (.Attribute o f pos')) pos.line X.env=pure false):PS X (.Assign [.Attribute o f pos'] value pos) (sFld X.K ta tv f):=by
 intro pins s σ H D I h
 refine plainObj_wpAny_Assign_Attribute (thn (hv pins s σ H _ I h) fun u s1 ⟨y,H1,I1,ry,q⟩=>thn (ha pins s1 σ H1 _ I1 q) fun ov s2 ⟨x,H2,I2,rx,a,C,dx,fs,ex,ea,c,n,l,q2⟩=>?_) hs
 subst ex
 obtain rfl:ov=Value.ref a:=rx
 exact setattr_ok I2 ea c n l ry fun s3 I3=>⟨σ,_,I3,q2⟩
end
section
variable {X:Cx}{pins:List (Addr×Obj)}{σ:St}{H:Hp}{s:Shared}{A:Around}{E:Value→Shared→Prop}{Q:Value→Shared→Prop}{c:Value}{b:Bool}
inductive TyOf(K:PySem.W.Frag)(H:Hp):V→Value→Prop where
 |non:TyOf K H .non (.type "NoneType")
 |bl (x:Bool):TyOf K H (.bl x) (.type "bool")
 |int (i:Int):TyOf K H (.int i) (.type "int")
 |str (x:Str):TyOf K H (.str x) (.type "str")
 |flt (x:UInt64):TyOf K H (.flt x) (.type "float")
 |lst {a:Addr} {xs:List V} (e:H a=some (.lst xs)):TyOf K H (.ref a) (.type "list")
 |frz {a:Addr} {o:Obj} {xs:List V} (e:H a=some (.frz o (.lst xs))):TyOf K H (.ref a) (.type "list")
 |tup {a:Addr} {xs:List V} (e:H a=some (.tup xs)):TyOf K H (.ref a) (.type "tuple")
 |dK {a:Addr} {kvs:List (Key×V)} (e:H a=some (.dK kvs)):TyOf K H (.ref a) (.type "dict")
 |dT {a:Addr} {kvs:List (List Key×V)} (e:H a=some (.dT kvs)):TyOf K H (.ref a) (.type "dict")
 |ins {a C dx:Addr} {fs:List (Str×V)} (e:H a=some (.ins C dx fs)) (cl:Cls K C) (ha:PySem.W.findIn K (.ref C) "__class__" = some (some (.builtin "object.__class__")))
   (hn:PySem.W.specialIn K (.builtin "object.__class__") "__get__" = some (some (.builtin "getset_descriptor.__get__"))) (htk:PySem.W.takesIn K (.builtin "object.__class__")=some true)
   (hm:PySem.W.mroIn K C (.type "object")=some true):TyOf K H (.ref a) (.ref C)
theorem isinst_ok{x:V}{u t:Value}(I:Inv X pins σ H s)(rx:RelV x u)(ty:TyOf X.K H x t)(e:PySem.W.kitOne X.K t c=some b)(h:∀tk,Q (.bool b) { s with toks:=tk }):
  wpAny (model X.prog X.w) A (call (.builtin "isinstance") [u,c]) Q E s:=by
 cases ty with
 |non=>cases (show u=Value.none from rx);exact PySem.W.kia_one PySem.W.kitx_none I.kIn True.intro e (fun z=>nomatch z) h
 |bl y=>cases (show u=Value.bool y from rx);exact PySem.W.kia_one PySem.W.kitx_bool I.kIn True.intro e (fun z=>nomatch z) h
 |int i=>obtain⟨t,q⟩:=(show ∃t,u=Value.int i t from rx);cases q;exact PySem.W.kia_one PySem.W.kitx_int I.kIn True.intro e (fun z=>nomatch z) h
 |str y=>obtain⟨t,q⟩:=(show ∃t,u=Value.str y t from rx);cases q;exact PySem.W.kia_one PySem.W.kitx_str I.kIn True.intro e (fun z=>nomatch z) h
 |flt y=>obtain⟨t,q⟩:=(show ∃t,u=Value.float y t from rx);cases q;exact PySem.W.kia_one PySem.W.kitx_float I.kIn True.intro e (fun z=>nomatch z) h
 |@lst a xs ea=>
  cases (show u=Value.ref a from rx)
  obtain⟨_,_,n,_,h1⟩:=(show ObjOk X.prog X.w H s.heap a (.lst xs)from I.hok a _ ea)
  exact PySem.W.kia_one PySem.W.kitx_list I.kIn ⟨_,h1,rfl⟩ e (fun z=>nomatch z) h
 |@frz a ob xs ea=>
  cases (show u=Value.ref a from rx)
  obtain⟨_,_,_,n,_,h1⟩:=(show ObjOk X.prog X.w H s.heap a (.frz ob (.lst xs))from I.hok a _ ea)
  exact PySem.W.kia_one PySem.W.kitx_list I.kIn ⟨_,h1,rfl⟩ e (fun z=>nomatch z) h
 |@tup a xs ea=>
  cases (show u=Value.ref a from rx)
  obtain⟨_,_,_,p⟩:=(show ObjOk X.prog X.w H s.heap a (.tup xs)from I.hok a _ ea)
  obtain⟨o,h1,h2,_⟩:=p
  exact PySem.W.kia_one PySem.W.kitx_tuple I.kIn ⟨o,h1,h2⟩ e (fun z=>nomatch z) h
 |@dK a kvs ea=>
  cases (show u=Value.ref a from rx)
  obtain⟨_,_,vs,_,p⟩:=(show ObjOk X.prog X.w H s.heap a (.dK kvs)from I.hok a _ ea)
  obtain⟨o,es,ep,h1,h2,_⟩:=p
  exact PySem.W.kia_one PySem.W.kitx_dict I.kIn ⟨o,h1,h2.1⟩ e (fun z=>nomatch z) h
 |@dT a kvs ea=>
  cases (show u=Value.ref a from rx)
  obtain⟨_,_,xs,_,o,es,ep,h1,h2,_⟩:=(show ObjOk X.prog X.w H s.heap a (.dT kvs)from I.hok a _ ea)
  exact PySem.W.kia_one PySem.W.kitx_dict I.kIn ⟨o,h1,h2.1⟩ e (fun z=>nomatch z) h
 |@ins a C dx fs ea cl ha hn htk hm=>
  cases (show u=Value.ref a from rx)
  obtain⟨mA,O,_⟩:=ins_get I.hok ea
  obtain⟨od,J,_⟩:=O.look
  exact PySem.W.kia_one (PySem.W.kitx_own (cl.get _) cl.hd ha hn htk hm) I.kIn J e (fun z=>nomatch z) h
end
end L2
namespace L2
open PySem PySem.Spec PyProof.Rows
structure Room(k:Nat)(A:Around):Prop where
 hd:A.handled=none
 dp:A.depth+3*k+5<recursionLimit
 un:A.units+16*k+200<cLine
theorem Room.mono{j k:Nat}{A:Around}(r:Room k A)(h:j≤k):Room j A:=⟨r.hd,by have:=r.dp;omega,by have:=r.un;omega⟩
theorem Room.deeper{k:Nat}{A:Around}(r:Room (k+1) A)(env:Env):Room k (A.deeper env):=
 ⟨r.hd,by have:=r.dp;show A.depth+1+3*k+5<_;omega,by have:=r.un;show A.units+3+16*k+200<_;omega⟩
theorem make_depth{A:Around}{C:Addr}{us:List Value}{kw:List (Str×Value)}:(A.under (.builtin "type.__call__" ⟨.ref C::us,kw⟩)).depth=A.depth+1:=by
 first|rfl|simp[Around.under,Code.weight,Code.isCreation,Code.isGuard,Code.isCaller,Code.frames,Code.isFrame,guardIds]
theorem make_units{A:Around}{C:Addr}{us:List Value}{kw:List (Str×Value)}:(A.under (.builtin "type.__call__" ⟨.ref C::us,kw⟩)).units=A.units+1:=by
 first|rfl|simp[Around.under,Code.cUnits,Code.frames,Code.isFrame]
theorem Room.make{k:Nat}{A:Around}(r:Room (k+1) A)(C:Addr)(us:List Value)(kw:List (Str×Value)):Room k (A.under (.builtin "type.__call__" ⟨.ref C::us,kw⟩)):=
 ⟨r.hd,by have:=r.dp;rw[make_depth];omega,by have:=r.un;rw[make_units];omega⟩
theorem Room.depth{k:Nat}{A:Around}(r:Room k A):A.depth<recursionLimit:=by have:=r.dp;omega
theorem Room.units{k:Nat}{A:Around}(r:Room k A):A.units+64<cLine:=by have:=r.un;omega
noncomputable def tNil:TA:=fun _ H Q=>Q [] H
noncomputable def tCons(ta:TE)(tr:TA):TA:=fun σ H Q=>ta σ H fun x H1=>tr σ H1 fun xs H2=>Q (x::xs) H2
section
variable {X:Cx}{e:Expr}{es:List Expr}{te:TE}{t:TA}{pos:Pos}
theorem pa_nil:PA X [] tNil:=fun _ _ _ _ H Q I h=>Calls.spliced_nil ⟨[],H,I,.nil,h⟩
theorem pa_cons(ha:PE X e te)(hr:PA X es t)(hs:starEach (e::es) X.env=(false,eval e X.env)::starEach es X.env:=by rfl):PA X (e::es) (tCons te t):=by
 intro pos pins s σ H Q I h
 rw[hs]
 show wpAny _ _ (spliced ((false,eval e X.env)::backTo pos (starEach es X.env))) _ _ s
 refine Calls.spliced_cons (thn (ha pins s σ H _ I h) fun u s1 ⟨x,H1,I1,r1,q1⟩=>?_)
 exact thn (hr pos pins s1 σ H1 _ I1 q1) fun us s2 ⟨xs,H2,I2,r2,q2⟩=>⟨x::xs,H2,I2,.cons r1 r2,q2⟩
noncomputable def tTup(t:TA):TE:=fun σ H Q=>t σ H fun xs H1=>xs.length≤sizeLine∧∀p,H1 p=none→Q (.ref p) (upd H1 p (.tup xs))
noncomputable def tLst(t:TA):TE:=fun σ H Q=>t σ H fun xs H1=>xs.length≤sizeLine∧∀p,H1 p=none→Q (.ref p) (upd H1 p (.lst xs))
theorem pe_tup{x1}(h:PA X es t):PE X (.Tuple es x1 pos) (tTup t):=by
 intro pins s σ H Q I hq
 refine wpAny_Tuple_spliced (thn (h pos pins s σ H _ I hq) fun us s1 ⟨xs,H1,I1,r,z,q⟩=>⟨by rw[←r.length];exact z,?_⟩)
 have hf:H1 s1.heap.objs.size=none:=I1.hok.fresh (Nat.le_refl _)
 refine⟨.ref s1.heap.objs.size,upd H1 s1.heap.objs.size (.tup xs),I1.laid (t':=s1.toks) (fun b u e=>Heap.get?_push_of_some _ e) (Nat.le_refl _) ?_,rfl,q _ hf⟩
 exact⟨z,us,r,⟨_,Heap.get?_push_size _ rfl,rfl,_,rfl⟩⟩
theorem pe_lst(h:PA X es t):PE X (.List es pos) (tLst t):=by
 intro pins s σ H Q I hq
 refine wpAny_List_spliced (thn (h pos pins s σ H _ I hq) fun us s1 ⟨xs,H1,I1,r,z,q⟩=>⟨by rw[←r.length];exact z,?_⟩)
 have hf:H1 s1.heap.objs.size=none:=I1.hok.fresh (Nat.le_refl _)
 refine⟨.ref s1.heap.objs.size,upd H1 s1.heap.objs.size (.lst xs),I1.laid (t':=s1.toks) (fun b u e=>Heap.get?_push_of_some _ e) (Nat.le_refl _) ?_,rfl,q _ hf⟩
 exact⟨z,us,0,r,Heap.get?_push_size _ rfl⟩
end
noncomputable abbrev Sp:=List V→Hp→VK→XK→Prop
noncomputable abbrev CXT:=List Env→Hp→Shared→XK→Value→Shared→Prop
structure Env0(P:Program)(w:World)(K:PySem.W.Frag)(mg:Str→Option Value)(base:Heap)(A:Around)(outer:List Env)(s:Shared)(H:Hp):Prop where
 frames:A.frames=some outer
 mod:Mod K mg base
 bs:∀b o,base.get? b=some o→s.heap.get? b=some o∧H b=none
 bsz:base.objs.size≤s.heap.objs.size
 funs:s.heap.FunFrames base outer
 frf:∀b∈frs outer,H b=none
 hok:HOk P w H s.heap
 bare:AllBare s.gens
noncomputable def CE(outer:List Env)(P:Program)(w:World)(H:Hp)(s:Shared)(Q:VK)(u:Value)(s':Shared):Prop:=
 ∃v H',s'.os=s.os∧AllBare s'.gens∧Un (frs outer) [] H H' s.heap s'.heap∧HOk P w H' s'.heap∧RelV v u∧Q v H'
noncomputable def CR(CX:CXT)(outer:List Env)(P:Program)(w:World)(H:Hp)(s:Shared)(Q:VK)(E:XK)(r:Result)(s':Shared):Prop:=
 match r with
 | .ok (.ret u)=>CE outer P w H s Q u s'
 | .ok _=>False
 | .error e=>CX outer H s E e s'
structure FnOk(P:Program)(w:World)(K:PySem.W.Frag)(mg:Str→Option Value)(base:Heap)(CX:CXT)(k:Nat)(f:Addr)(fd:FuncData)(ps:List Str)(sp:Sp):Prop where
 len:∀vs H Q E,sp vs H Q E→vs.length=ps.length
 run:∀(A:Around) (outer:List Env) (s:Shared) (H:Hp) (args:Args) (us:List Value) (vs:List V) (Q:VK) (E:XK),Room k A→Env0 P w K mg base A outer s H→BindsTo s fd args (ps.zip us)→Vals vs us→sp vs H Q E→
  codeAny (model P w) A (.call (.ref f) args) (CR CX outer P w H s Q E) s
theorem FnOk.mono{P:Program}{w:World}{K:PySem.W.Frag}{mg:Str→Option Value}{base:Heap}{CX:CXT}{j k:Nat}{f:Addr}{fd:FuncData}{ps:List Str}{sp:Sp}(F:FnOk P w K mg base CX j f fd ps sp)(h:j≤k):
  FnOk P w K mg base CX k f fd ps sp:=⟨F.len,fun A outer s H args us vs Q E hr=>F.run A outer s H args us vs Q E (hr.mono h)⟩
theorem Env0.make{P:Program}{w:World}{K:PySem.W.Frag}{mg:Str→Option Value}{base:Heap}{A:Around}{outer:List Env}{s:Shared}{H:Hp}(e:Env0 P w K mg base A outer s H)(C:Addr)(us:List Value)(kw:List (Str×Value)):
  Env0 P w K mg base (A.under (.builtin "type.__call__" ⟨.ref C::us,kw⟩)) outer s H:=⟨by first|exact e.frames|(simpa[Around.under,Code.envs,Code.isFrame,pushEnvs]using e.frames),e.mod,e.bs,e.bsz,e.funs,e.frf,e.hok,e.bare⟩
section
variable {X:Cx}{pins:List (Addr×Obj)}{σ:St}{H:Hp}{s s':Shared}
theorem Inv.env0(I:Inv X pins σ H s):Env0 X.prog X.w X.K X.mg X.base X.A X.stack s H:=
 ⟨I.ok.frames,I.ok.mod,I.bs,Nat.le_trans I.ok.bsz I.sz,I.stack,I.stkFree,I.hok,I.bare⟩
theorem Inv.after{Q:VK}{u:Value}(I:Inv X pins σ H s)(h:CE X.stack X.prog X.w H s Q u s'):EP X pins σ Q u s':=by
 obtain⟨v,H',os,bare,un,hok,r,q⟩:=h
 obtain⟨hh,g,d,t,os'⟩:=s'
 obtain rfl:os'=s.os:=os
 exact⟨v,H',I.call (h':=hh) (g':=g) (d':=d) (t':=t) (ch:=[]) un hok bare (fun b z=>absurd z (by simp)),r,q⟩
end
noncomputable def tCall(sp:Sp)(dvs:List V)(E:XK)(t:TA):TE:=fun σ H Q=>t σ H fun vs H1=>sp (vs++dvs) H1 Q E
noncomputable def tMake(C:Addr)(sp:Sp)(dvs:List V)(E:XK)(t:TA):TE:=fun σ H Q=>t σ H fun vs H1=>∀x dx,H1 x=none→H1 dx=none→dx≠x→
 sp (.ref x::(vs++dvs)) (upd (upd H1 dx (.own x)) x (.ins C dx [])) (fun v H2=>v=.non∧Q (.ref x) H2) E
noncomputable def Binds(K:PySem.W.Frag)(fd:FuncData)(ps:List Str)(ds:List Value):Prop:=
 ∀(s:Shared) (us:List Value),K.In s.heap→(us++ds).length=ps.length→BindsTo s fd ⟨us,[]⟩ (ps.zip (us++ds))
theorem Binds.all{K:PySem.W.Frag}{fd:FuncData}{ps:List Str}(h:∀us:List Value,us.length=ps.length→bindArgs fd ⟨us,[]⟩=pure (ps.zip us)):Binds K fd ps []:=fun s us _ hl=>by
 rw[List.append_nil]at hl ⊢
 exact .of_eq (h us hl)
noncomputable def Passes(CX:CXT)(X:Cx)(E:XK):Prop:=∀(pins:List (Addr×Obj)) (σ:St) (H:Hp) (s:Shared) (e:Value) (s':Shared),Inv X pins σ H s→CX X.stack H s E e s'→X.xe e s'
section
variable {X:Cx}{CX:CXT}{k:Nat}{f C:Addr}{fd:FuncData}{ps:List Str}{sp:Sp}{dvs:List V}{ds:List Value}{E:XK}{x m:Str}{p pos apos:Pos}{e o:Expr}{es:List Expr}{ta:TE}{t:TA}
theorem run_fn{pins:List (Addr×Obj)}{σ:St}{H:Hp}{s:Shared}{Q:VK}{us:List Value}{vs:List V}(F:FnOk X.prog X.w X.K X.mg X.base CX k f fd ps sp)(hr:Room k X.A)(hb:Binds X.K fd ps ds)(hd:Vals dvs ds)(hx:Passes CX X E)
  (I:Inv X pins σ H s) (r:Vals vs us) (h:sp (vs++dvs) H Q E):wpAny (model X.prog X.w) X.A (call (.ref f) us) (EP X pins σ Q) X.xe s:=by
 have r2:Vals (vs++dvs) (us++ds):=r.append hd
 have hl:(us++ds).length=ps.length:=by rw[←r2.length];exact F.len _ _ _ _ h
 refine wpAny_call (codeAny_mono (F.run X.A X.stack s H ⟨us,[]⟩ (us++ds) (vs++dvs) Q E hr I.env0 (hb s us I.kIn hl) r2 h) fun r s' hq=>?_)
 cases r with
 |error e=>exact hx pins σ H s e s' I hq
 |ok fl=>
  cases fl with
  |ret u=>exact I.after hq
  |next=>exact False.elim hq
  |brk=>exact False.elim hq
  |cont=>exact False.elim hq
theorem pe_call(F:FnOk X.prog X.w X.K X.mg X.base CX k f fd ps sp)(hr:Room k X.A)(hg:Gl X x)(hm:X.mg x=some (.ref f))(hk:PySem.W.keepIn X.K (.ref f)=true)(hb:Binds X.K fd ps ds)(hd:Vals dvs ds)(hx:Passes CX X E)
  (ha:PA X (e::es) t) (hdb:(x==("__debug__" : Str))=false:=by decide) (he:starEach (e::es) X.env=(false,eval e X.env)::starEach es X.env:=by rfl) (hpl:(backTo pos (starEach es X.env)).any (·.1)=false:=by rfl):
  PE X (.Call (.Name x p) (e::es) [] pos) (tCall sp dvs E t):=by
 intro pins s σ H Q I h
 refine wpAny_Call_Name_kw (ld_glob I hg hm ?_ hdb)
 refine PySem.W.callWith_K (h₀:=X.base) I.ok.mod.kin hk (thn (ha pos pins s σ H _ I h) fun us s1 ⟨vs,H1,I1,r,q⟩=>⟨I1.kIn,?_⟩) he hpl
 exact run_fn F hr hb hd hx I1 r q
structure Mk(K:PySem.W.Frag)(C f:Addr):Prop where
 makes:PySem.W.makesIn K C=true
 init:PySem.W.findIn K (.ref C) "__init__" = some (some (.ref f))
 fn:PySem.W.isFn K (.ref f)=true
 kp:PySem.W.keepIn K (.ref C)=true
theorem run_make{pins:List (Addr×Obj)}{σ:St}{H:Hp}{s:Shared}{Q:VK}{us:List Value}{vs:List V}(M:Mk X.K C f)(F:FnOk X.prog X.w X.K X.mg X.base CX k f fd ps sp)(hr:Room (k+1) X.A)(hb:Binds X.K fd ps ds)(hd:Vals dvs ds)
  (hx:Passes CX X E) (I:Inv X pins σ H s) (r:Vals vs us)
  (h:∀x dx,H x=none→H dx=none→dx≠x→sp (.ref x::(vs++dvs)) (upd (upd H dx (.own x)) x (.ins C dx [])) (fun v H2=>v=.non∧Q (.ref x) H2) E):
  wpAny (model X.prog X.w) X.A (call (.ref C) us) (EP X pins σ Q) X.xe s:=by
 have hq:=h (s.heap.objs.size+1) s.heap.objs.size (I.hok.fresh (Nat.le_succ _)) (I.hok.fresh (Nat.le_refl _)) (Nat.ne_of_lt (Nat.lt_succ_self _))
 have I2:=Inv.made (C:=C) I
 have r2:Vals (V.ref (s.heap.objs.size+1)::(vs++dvs)) (Value.ref (s.heap.objs.size+1)::(us++ds)):=.cons rfl (r.append hd)
 have hl:(Value.ref (s.heap.objs.size+1)::us++ds).length=ps.length:=by
  have e:=r2.length
  rw[F.len _ _ _ _ hq]at e
  exact e.symm
 refine wpAny_call (make_map (f:=f) I.kIn M.makes M.init (beq_iff_eq.mp M.fn) (codeAny_mono (F.run _ X.stack _ _ ⟨Value.ref (s.heap.objs.size+1)::us,[]⟩ (Value.ref (s.heap.objs.size+1)::(us++ds)) _ _ E (hr.make C us [])
  (I2.env0.make C us []) (hb _ (Value.ref (s.heap.objs.size+1)::us) I2.kIn hl) r2 hq) fun r s' hq'=>?_))
 cases r with
 |error e=>exact hx pins σ _ _ e s' I2 hq'
 |ok fl=>
  cases fl with
  |ret u=>
   obtain⟨v,H',I3,rv,ev,q3⟩:=I2.after hq'
   subst ev
   exact⟨rv,⟨V.ref (s.heap.objs.size+1),H',I3,rfl,q3⟩⟩
  |next=>exact False.elim hq'
  |brk=>exact False.elim hq'
  |cont=>exact False.elim hq'
theorem pe_make(M:Mk X.K C f)(F:FnOk X.prog X.w X.K X.mg X.base CX k f fd ps sp)(hr:Room (k+1) X.A)(hg:Gl X x)(hm:X.mg x=some (.ref C))(hb:Binds X.K fd ps ds)(hd:Vals dvs ds)(hx:Passes CX X E)
  (ha:PA X (e::es) t) (hdb:(x==("__debug__" : Str))=false:=by decide) (he:starEach (e::es) X.env=(false,eval e X.env)::starEach es X.env:=by rfl) (hpl:(backTo pos (starEach es X.env)).any (·.1)=false:=by rfl):
  PE X (.Call (.Name x p) (e::es) [] pos) (tMake C sp dvs E t):=by
 intro pins s σ H Q I h
 refine wpAny_Call_Name_kw (ld_glob I hg hm ?_ hdb)
 refine PySem.W.callWith_K (h₀:=X.base) I.ok.mod.kin M.kp (thn (ha pos pins s σ H _ I h) fun us s1 ⟨vs,H1,I1,r,q⟩=>⟨I1.kIn,?_⟩) he hpl
 exact run_make M F hr hb hd hx I1 r q
theorem pe_make0(M:Mk X.K C f)(F:FnOk X.prog X.w X.K X.mg X.base CX k f fd ps sp)(hr:Room (k+1) X.A)(hg:Gl X x)(hm:X.mg x=some (.ref C))(hb:Binds X.K fd ps ds)(hd:Vals dvs ds)(hx:Passes CX X E)
  (hdb:(x==("__debug__" : Str))=false:=by decide):PE X (.Call (.Name x p) [] [] pos) (tMake C sp dvs E tNil):=by
 intro pins s σ H Q I h
 refine wpAny_Call_Name_kw (ld_glob I hg hm ?_ hdb)
 exact PySem.W.callWith_K0 I.kIn M.kp (run_make (us:=[]) M F hr hb hd hx I .nil h)
end
section
variable {X:Cx}{CX:CXT}{k:Nat}{f C:Addr}{fd:FuncData}{ps ks:List Str}{sp:Sp}{E:XK}{x m:Str}{p pos apos kpos:Pos}{e o:Expr}{es:List Expr}{kws:List Keyword}{te ta:TE}{t tk:TA}{nm:Option Str}
variable {g:List Value→List Value→List Value}{gV:List V→List V→List V}
end
structure FnScope(N P:List Str)(sc:Scope):Prop where
 kind:sc.kind=.function
 co:sc.isCoroutine=false
 gen:sc.isGenerator=false
 nd:N.Nodup
 pre:N.take P.length=P
 par:∀x∈P,sc.names.lookup x=some .local∨sc.names.lookup x=some .cell
 nofree:∀y∈sc.names,y.2≠.free
theorem bindL_out{kindOf:Str→Option NameKind}{x:Str}:∀{binds:List (Str×Value)} {m:Str→Option Value},(∀v,(x,v)∉binds)→bindL kindOf binds m x=m x
 |[],_,_=>rfl
 |(n,v)::r,m,h=>by
  unfold bindL
  rw[bindL_out fun w hw=>h w (List.mem_cons_of_mem _ hw)]
  split
  ·have:x≠n:=by rintro rfl;exact h v List.mem_cons_self
   simp[this]
  ·rfl
theorem bindC_out{kindOf:Str→Option NameKind}{x:Str}:∀{binds:List (Str×Value)} {m:Str→Option Value},(∀v,(x,v)∉binds)→bindC kindOf binds m x=m x
 |[],_,_=>rfl
 |(n,v)::r,m,h=>by
  unfold bindC
  rw[bindC_out fun w hw=>h w (List.mem_cons_of_mem _ hw)]
  split
  ·rfl
  ·have:x≠n:=by rintro rfl;exact h v List.mem_cons_self
   simp[this]
theorem bindL_get{kindOf:Str→Option NameKind}{x:Str}{v:Value}:∀{P:List Str} {vs:List Value} {i:Nat} {m:Str→Option Value},P.Nodup→P[i]?=some x→vs[i]?=some v→kindOf x=some .local→
  bindL kindOf (P.zip vs) m x=some v
 |[],_,_,_,_,h,_,_=>by simp at h
 |_::_,[],_,_,_,_,h,_=>by simp at h
 |p::P,w::vs,0,m,nd,h1,h2,hk=>by
  simp at h1 h2;subst h1;subst h2
  show bindL kindOf ((p,w)::P.zip vs) m p=_
  unfold bindL
  rw[bindL_out fun v hv=>(List.nodup_cons.mp nd).1 (List.of_mem_zip hv).1,if_pos hk]
  simp
 |p::P,w::vs,i+1,m,nd,h1,h2,hk=>by
  show bindL kindOf ((p,w)::P.zip vs) m x=_
  unfold bindL
  exact bindL_get (i:=i) (List.nodup_cons.mp nd).2 (by simpa using h1) (by simpa using h2) hk
theorem bindC_get{kindOf:Str→Option NameKind}{x:Str}{v:Value}:∀{P:List Str} {vs:List Value} {i:Nat} {m:Str→Option Value},P.Nodup→P[i]?=some x→vs[i]?=some v→kindOf x≠some .local→
  bindC kindOf (P.zip vs) m x=some v
 |[],_,_,_,_,h,_,_=>by simp at h
 |_::_,[],_,_,_,_,h,_=>by simp at h
 |p::P,w::vs,0,m,nd,h1,h2,hk=>by
  simp at h1 h2;subst h1;subst h2
  show bindC kindOf ((p,w)::P.zip vs) m p=_
  unfold bindC
  rw[bindC_out fun v hv=>(List.nodup_cons.mp nd).1 (List.of_mem_zip hv).1,if_neg hk]
  simp
 |p::P,w::vs,i+1,m,nd,h1,h2,hk=>by
  show bindC kindOf ((p,w)::P.zip vs) m x=_
  unfold bindC
  exact bindC_get (i:=i) (List.nodup_cons.mp nd).2 (by simpa using h1) (by simpa using h2) hk
noncomputable def start(N:List Str)(vs:List V):St:=vs.map some++List.replicate (N.length-vs.length) none
noncomputable def cxOf(CX:CXT)(P:Program)(w:World)(K:PySem.W.Frag)(mg:Str→Option Value)(base:Heap)(N:List Str)(qual:Str)(scope:Scope)(f:Addr)(cd:Value)(A:Around)(outer:List Env)(s:Shared)(H:Hp)(E:XK):Cx where
 prog:=P
 w:=w
 K:=K
 mg:=mg
 base:=base
 A:=A.deeper (envOfC qual scope s.heap.objs.size f cd)
 N:=N
 s_0:=s
 H_0:=H
 env:=envOfC qual scope s.heap.objs.size f cd
 outer:=outer
 stack:=envOfC qual scope s.heap.objs.size f cd::outer
 ex:=[]
 calm:=true
 fn:=fun _=>true
 pn:=[]
 xe:=fun e s'=>wpAny (model P w) (A.deeper (envOfC qual scope s.heap.objs.size f cd)) («leaving» (envOfC qual scope s.heap.objs.size f cd) e) (fun _ s''=>CX outer H s E e s'') (fun e' s''=>CX outer H s E e' s'') s'
theorem cell_has{sc:Scope}{n:Nat}{x:Str}(h:sc.names.lookup x=some .cell):∃c,(cellsFrom n sc.names []).lookup x=some c:=by
 have q:=PySem.W.cellsFrom_some sc.names n [] (.inl h)
 exact Option.isSome_iff_exists.mp q
theorem inv_start{CX:CXT}{P:Program}{w:World}{K:PySem.W.Frag}{mg:Str→Option Value}{base:Heap}{N ps:List Str}{qual:Str}{scope:Scope}{f:Addr}{cd:Value}{A:Around}{outer:List Env}{s s1:Shared}{H:Hp}{E:XK}{us:List Value}{vs:List V}
  (S:FnScope N ps scope) (hd:A.handled=none) (e0:Env0 P w K mg base A outer s H) (hl:vs.length=ps.length) (r:Vals vs us)
  (x:InCallC s s.heap.objs.size (bindL (envOfC qual scope s.heap.objs.size f cd).kindOf (ps.zip us) fun _=>none) (cellsFrom (s.heap.objs.size+1) scope.names []) (bindC (envOfC qual scope s.heap.objs.size f cd).kindOf (ps.zip us) fun _=>none) s1):
  Inv (cxOf CX P w K mg base N qual scope f cd A outer s H E) [] (start N vs) H s1:=by
 have hpl:ps.length≤N.length:=by have:=congrArg List.length S.pre;rw[List.length_take]at this;omega
 obtain⟨h1,tk,rfl,hk⟩:=x.done
 have noA:∀b:Addr,b∉(cxOf CX P w K mg base N qual scope f cd A outer s H E).ex:=fun b z=>absurd (show b∈([]:List Addr)from z) (by simp)
 refine⟨⟨e0.mod,S.kind,rfl,rfl,Nat.le_refl _,fun y z c h1 h2=>?_,fun y hy=>?_,fun y c _ h=>?_,fun _=>hd,Around.frames_deeper e0.frames,.inr ⟨rfl,rfl⟩,fun b z=>absurd z (noA b),e0.bs,e0.bsz,fun b _ _=>noA b,fun b z=>absurd z (noA b),e0.funs,e0.frf⟩,
  rfl,e0.bare,Un.kept hk,⟨_,x.toInCall.ns,fun i y v h1 h2 h3=>?_⟩,fun y c h=>⟨_,x.cell y c h⟩,e0.hok.fresh (Nat.le_refl _),fun y c h=>?_,fun p hp=>absurd (show p∈([]:List (Addr×Obj))from hp) (by simp),e0.hok.kept hk,?_⟩
 ·exact name_of_addr x.apart (PySem.mem_of_lookup h1) (PySem.mem_of_lookup h2)
 ·have hy:scope.names.lookup y=some .cell∨scope.names.lookup y=some .free:=hy
  rcases hy with hy|hy
  ·exact cell_has hy
  ·exact absurd rfl (S.nofree _ (PySem.mem_of_lookup hy))
 ·exact Nat.le_of_lt (x.above y c (PySem.mem_of_lookup h))
 ·have hi:i<vs.length:=by
   unfold start at h2
   by_cases hi:i<vs.length
   ·exact hi
   ·rw[List.getElem?_append_right (by simpa using hi)]at h2
    rw[List.getElem?_replicate]at h2
    split at h2<;>cases h2
  have ha:vs[i]?=some v:=by
   unfold start at h2
   rw[List.getElem?_append_left (by simpa using hi),List.getElem?_map]at h2
   cases e:vs[i]? with
   |none=>rw[e]at h2;cases h2
   |some a=>rw[e]at h2;cases h2;rfl
  obtain⟨u,hu,rv⟩:=r.get ha
  have hp:ps[i]?=some y:=by
   rw[←S.pre,List.getElem?_take_of_lt (by omega)];exact h1
  have ndP:ps.Nodup:=by rw[←S.pre];exact S.nd.sublist (List.take_sublist _ _)
  refine⟨u,rv,?_⟩
  rcases S.par y (List.mem_of_getElem? hp)with k|k
  ·exact .inl ⟨k,bindL_get ndP hp hu k⟩
  ·obtain⟨c,e⟩:=cell_has (n:=s.heap.objs.size+1) k
   refine .inr ⟨.inl k,c,e,?_⟩
   have q:=x.cell y c e
   rw[bindC_get ndP hp hu (by show scope.names.lookup y≠_;rw[k];decide)]at q
   exact q
 ·exact e0.hok.fresh (Nat.le_of_lt (x.above y c (PySem.mem_of_lookup h)))
 ·unfold start
  show _=N.length
  rw[List.length_append,List.length_map,List.length_replicate]
  omega
theorem fn_of{CX:CXT}{P:Program}{w:World}{K:PySem.W.Frag}{mg:Str→Option Value}{base:Heap}{k:Nat}{f:Addr}{name qual:Str}{params:Arguments}{body:List Stmt}{scope:Scope}{dV kV doc pm cdv ct oc:Value}{an od:Option Addr}
  {osl:Array (Option Value)} {N ps:List Str} {sp:Sp} (lk:K.lookup f=some ⟨oc,od,.func (PySem.W.fnOf name qual params body scope dV kV doc pm an cdv ct),osl⟩) (hcd:PySem.W.codeIn K cdv qual=true) (S:FnScope N ps scope)
  (len:∀vs H Q E,sp vs H Q E→vs.length=ps.length)
  (hbody:∀(A:Around) (outer:List Env) (s:Shared) (H:Hp) (vs:List V) (Q:VK) (E:XK),Room k (A.deeper (envOfC qual scope s.heap.objs.size f cdv))→sp vs H Q E→
   ∃t,PSs (cxOf CX P w K mg base N qual scope f cdv A outer s H E) body t∧t { nx:=fun _ H'=>Q .non H',rt:=Q } (start N vs) H):
  FnOk P w K mg base CX (k+1) f (PySem.W.fnOf name qual params body scope dV kV doc pm an cdv ct) ps sp:=by
 refine⟨len,fun A outer s H args us vs Q E hr e0 hb r hsp=>?_⟩
 have hl:=len _ _ _ _ hsp
 have KX:K.In s.heap:=e0.mod.kin.keeps fun b o e=>(e0.bs b o e).1
 have lim:s.heap.NoLimit:=e0.mod.nolimit.keeps fun b o e=>(e0.bs b o e).1
 have hkind:∀y∈ps.zip us,scope.names.lookup y.1=some .local∨(scope.names.lookup y.1=some .cell∧((cellsFrom (s.heap.objs.size+1) scope.names []).lookup y.1).isSome=true):=fun⟨n,v⟩ hy=>by
  rcases S.par n (List.of_mem_zip hy).1 with q|q
  ·exact .inl q
  ·exact .inr ⟨q,PySem.W.cellsFrom_some _ _ _ (.inl q)⟩
 refine codeAny_call_function hr.depth (KX _ _ lk) rfl S.co S.gen rfl (PySem.W.codeRec_of KX hcd) (hb _ _ _ _ ?_)
 refine wpAny_newFunctionEnv_cells S.kind hkind fun env he s1 x=>?_
 subst he
 refine⟨lim.keeps x.toInCall.keep,codeAny_func ?_⟩
 obtain⟨t,ht,hq⟩:=hbody A outer s H vs Q E (hr.deeper _) hsp
 have I:Inv (cxOf CX P w K mg base N qual scope f cdv A outer s H E) [] (start N vs) H s1:=inv_start S hr.hd e0 hl r x
 refine wpAny_mono (ht [] s1 (start N vs) H _ I hq) (fun fl s' hs=>?_) fun e s' hs=>hs
 have fin:∀{σ':St} {H':Hp} {v:V} {u:Value},Inv (cxOf CX P w K mg base N qual scope f cdv A outer s H E) [] σ' H' s'→RelV v u→Q v H'→CE outer P w H s Q u s':=
  fun{σ' H' v u} J rv q=>⟨v,H',J.os,J.bare,J.base,J.hok,rv,q⟩
 cases fl with
 |ret u=>
  obtain⟨v,σ',H',J,rv,q⟩:=hs
  exact fin J rv q
 |next=>
  obtain⟨σ',H',J,q⟩:=hs
  exact fin (v:=V.non) (u:=Value.none) J rfl q
 |brk=>
  obtain⟨_,_,_,q⟩:=hs
  exact False.elim q
 |cont=>
  obtain⟨_,_,_,q⟩:=hs
  exact False.elim q
end L2
namespace L2
open PySem PySem.Spec PyProof.Rows
section
variable {X:Cx}{x:Str}{p pos:Pos}{e:Expr}{es:List Expr}{t:TA}{id T:String}{r:List V→Hp→VK→Prop}
noncomputable def tCB(r:List V→Hp→VK→Prop)(t:TA):TE:=fun σ H Q=>t σ H fun vs H1=>r vs H1 Q
theorem pe_callB(hc:CallR X (.builtin id) r)(hg:Gl X x)(hm:X.mg x=none)(hv:bootBuiltins x=some (.builtin id))(ha:PA X (e::es) t)(hn:x≠"__name__":=by decide)(hdb:(x==("__debug__" : Str))=false:=by decide)
  (he:starEach (e::es) X.env=(false,eval e X.env)::starEach es X.env:=by rfl) (hpl:(backTo pos (starEach es X.env)).any (·.1)=false:=by rfl):PE X (.Call (.Name x p) (e::es) [] pos) (tCB r t):=by
 intro pins s σ H Q I h
 refine wpAny_Call_Name_kw (ld_blt I hg hm hv ?_ hn hdb)
 exact PyProof.Rows.callWith_builtin1 (thn (ha pos pins s σ H _ I h) fun us s1 ⟨vs,H1,I1,r1,q1⟩=>hc pins s1 σ H1 vs us Q I1 r1 q1) he hpl
end
end L2
namespace HT
open PySem PyProof.Rows
section
open PySem.SeqAt
open PySem.AutoSeq1 (wpAny_loadPart')
open PySem.MeetsSeq PySem.MeetsSeq2 PySem.MeetsSeq3
end
section
variable {prog:Program}{w:World}{A:Around}{E:Value→Shared→Prop}{s:Shared}
noncomputable def sIx(n d:Nat):Option Int→Nat
 |none=>d
 |some v=>if v<0 then(v+(n:Int)).toNat else min v.toNat n
theorem sIx_nat(n d k:Nat):sIx n d (some (k:Int))=min k n:=by
 show(if(k:Int)<0 then((k:Int)+(n:Int)).toNat else min (k:Int).toNat n)=min k n
 rw[if_neg (by omega),Int.toNat_natCast]
end
end HT
namespace L2
open PySem PySem.Spec PyProof.Rows
noncomputable abbrev TO:=St→Hp→(Option Int→Hp→Prop)→Prop
noncomputable def PO(X:Cx)(e:Option Expr)(t:TO):Prop:=
 ∀(pins:List (Addr×Obj)) (s:Shared) (σ:St) (H:Hp) (Q:Option Int→Hp→Prop),Inv X pins σ H s→t σ H Q→
  wpAny (model X.prog X.w) X.A (evalPart e X.env) (fun u s'=>∃o H',Inv X pins σ H' s'∧IsPart u o∧Q o H') X.xe s
noncomputable def tPart(t:TE):TO:=fun σ H Q=>t σ H fun x H1=>∃i,x=.int i∧Q (some i) H1
section
variable {X:Cx}{e:Expr}{te:TE}{lo hi:Option Expr}{tl th:TO}{pos p2:Pos}
theorem po_some(h:PE X e te):PO X (some e) (tPart te):=by
 intro pins s σ H Q I hw
 rw[evalPart_some]
 refine thn (h pins s σ H _ I hw) fun u s1 ⟨x,H1,I1,r1,q1⟩=>?_
 obtain⟨i,rfl,q⟩:=q1
 obtain⟨t,rfl⟩:=r1
 exact⟨some i,H1,I1,.int i t,q⟩
noncomputable def SlR(X:Cx)(r:V→Option Int→Option Int→Hp→VK→Prop):Prop:=
 ∀(pins:List (Addr×Obj)) (s:Shared) (σ:St) (H:Hp) (x:V) (v vl vu:Value) (lo hi:Option Int) (sl:Addr) (Q:VK),Inv X pins σ H s→RelV x v→s.heap.IsSliceOf sl vl vu .none→IsPart vl lo→IsPart vu hi→r x lo hi H Q→
  ∃T id,typeLookup (.type T) "__getitem__" = pure (some (.builtin id))∧s.TypeIs v T∧wpAny (model X.prog X.w) X.A (getItem v (.ref sl)) (EP X pins σ Q) X.xe s
noncomputable def tSl(r:V→Option Int→Option Int→Hp→VK→Prop)(te:TE)(tl th:TO):TE:=fun σ H Q=>te σ H fun x H1=>tl σ H1 fun l H2=>th σ H2 fun u H3=>r x l u H3 Q
theorem pe_slice{r:V→Option Int→Option Int→Hp→VK→Prop}(hr:SlR X r)(he:PE X e te)(hl:PO X lo tl)(hu:PO X hi th):PE X (.Subscript e (.Slice lo hi none p2) pos) (tSl r te tl th):=by
 intro pins s σ H Q I h
 refine Subscript_ (thn (he pins s σ H _ I h) fun v s1 ⟨x,H1,I1,r1,q1⟩=>?_)
 refine wpAny_Slice (thn (hl pins s1 σ H1 _ I1 q1) fun vl s2 ⟨l,H2,I2,pl,q2⟩=>thn (hu pins s2 σ H2 _ I2 q2) fun vu s3 ⟨u,H3,I3,pu,q3⟩=>?_)
 rw[evalPart_none]
 refine wpAny_pure ?_
 have I4:Inv X pins σ H3 { s3 with heap:=s3.heap.push { cls:=.type "slice",data:=.fields #[vl,vu,.none] } }:=I3.kept (t':=s3.toks) fun b ob q=>Heap.get?_push_of_some _ q
 obtain⟨T,id,hT,ht,hg⟩:=hr pins { s3 with heap:=s3.heap.push { cls:=.type "slice",data:=.fields #[vl,vu,.none] } } σ H3 x v vl vu l u s3.heap.objs.size Q I4 r1 (Heap.IsSliceOf.new ..) pl pu q3
 show wpAny (model X.prog X.w) X.A (subscriptTail e (.Slice lo hi none p2) v (.ref s3.heap.objs.size)) (EP X pins σ Q) X.xe { s3 with heap:=s3.heap.push { cls:=.type "slice",data:=.fields #[vl,vu,.none] } }
 exact tail_any (ops:=[.ref s3.heap.objs.size,v]) ht hT hg (by with_unfolding_all rfl)
noncomputable def cutV(xs:List V)(lo hi:Option Int):List V:=(xs.drop (HT.sIx xs.length 0 lo)).take (HT.sIx xs.length xs.length hi-HT.sIx xs.length 0 lo)
theorem cutV_length(xs:List V)(lo hi:Option Int):(cutV xs lo hi).length≤xs.length:=by
 unfold cutV
 rw[List.length_take,List.length_drop]
 omega
end
end L2
namespace L2
open PySem PySem.Spec PyProof.Rows
noncomputable def ixN(n:Nat)(i:Int):Option Nat:=if 0≤i then(if i<n then some i.toNat else none)else if -(n:Int)≤i then some (i+n).toNat else none
noncomputable def atI{α:Type}(xs:List α)(i:Int):Option α:=(ixN xs.length i).bind fun j=>xs[j]?
theorem ixN_seq{n:Nat}{i:Int}{j:Nat}(h:ixN n i=some j):seqIndex? i n=some j∧j<n∧-(n:Int)≤i∧i<n:=by
 unfold ixN at h
 by_cases h0:0≤i
 ·rw[if_pos h0]at h
  by_cases h1:i<n
  ·rw[if_pos h1]at h
   have e:i.toNat=j:=Option.some.inj h
   exact⟨by rw[seqIndex_of h0 h1,e],by omega,by omega,h1⟩
  ·rw[if_neg h1]at h;cases h
 ·rw[if_neg h0]at h
  by_cases h1:-(n:Int)≤i
  ·rw[if_pos h1]at h
   have e:(i+n).toNat=j:=Option.some.inj h
   exact⟨by rw[seqIndex_neg (by omega) h1,e],by omega,h1,by omega⟩
  ·rw[if_neg h1]at h;cases h
theorem atI_get{α:Type}{xs:List α}{i:Int}{v:α}(h:atI xs i=some v):∃j,seqIndex? i xs.length=some j∧xs[j]?=some v∧j<xs.length∧-(xs.length:Int)≤i∧i<xs.length:=by
 unfold atI at h
 cases e:ixN xs.length i with
 |none=>rw[e]at h;cases h
 |some j=>
  rw[e]at h
  obtain⟨h1,h2,h3,h4⟩:=ixN_seq e
  exact⟨j,h1,h,h2,h3,h4⟩
theorem atI_nat{α:Type}{xs:List α}{j:Nat}{v:α}(h:xs[j]?=some v):atI xs (j:Int)=some v:=by
 have hj:j<xs.length:=(List.getElem?_eq_some_iff.mp h).1
 have e:ixN xs.length (j:Int)=some j:=by
  unfold ixN
  rw[if_pos (by omega),if_pos (by omega)];simp
 unfold atI;rw[e];exact h
noncomputable def PlainIx(b:Expr):Prop:=∀o i,subscripted b false o i=operate [o,i] (getItem o i)
noncomputable def IxR(X:Cx)(r:R2):Prop:=
 ∀(value slice:Expr) (pins:List (Addr×Obj)) (s:Shared) (σ:St) (H:Hp) (x y:V) (v u:Value) (Q:VK),Inv X pins σ H s→RelV x v→RelV y u→r x y H Q→
  subscripted slice false v u=operate [v,u] (getItem v u)→wpAny (model X.prog X.w) X.A (subscriptTail value slice v u) (EP X pins σ Q) X.xe s
noncomputable def MtR(X:Cx)(id:String)(r:V→List V→Hp→VK→Prop):Prop:=
 ∀(pins:List (Addr×Obj)) (s:Shared) (σ:St) (H:Hp) (x:V) (xs:List V) (v:Value) (us:List Value) (Q:VK),Inv X pins σ H s→RelV x v→Vals xs us→r x xs H Q→
  wpAny (model X.prog X.w) X.A (call (.builtin id) (v::us)) (EP X pins σ Q) X.xe s
section
variable {X:Cx}{a b:Expr}{ta tb:TE}{pos:Pos}
theorem pe_ix{r:R2}(hr:IxR X r)(ha:PE X a ta)(hb:PE X b tb)(hs:PlainIx b):PE X (.Subscript a b pos) (tOp r ta tb):=by
 intro pins s σ H Q I h
 exact Subscript_ (binT ha hb I h fun v u s2 x y H2 I2 rx ry q=>hr a b pins s2 σ H2 x y v u Q I2 rx ry q (hs _ _))
noncomputable def rIxL(K:PySem.W.Frag):R2:=fun x y H Q=>∃p xs i v,x=.ref p∧y=.int i∧SqL K H p xs∧atI xs i=some v∧Q v H
noncomputable def rIxT(K:PySem.W.Frag):R2:=fun x y H Q=>∃p xs i v,x=.ref p∧y=.int i∧SqT K H p xs∧atI xs i=some v∧Q v H
theorem ix_list:IxR X (rIxL X.K):=by
 intro value slice pins s σ H x y v u Q I rx ry h hs
 obtain⟨p,xs,i,z,rfl,rfl,hq,he,q⟩:=h
 cases rx
 obtain⟨t,rfl⟩:=ry
 obtain⟨its,r,pl,hz⟩:=I.list hq
 obtain⟨j,h1,h2,h3,h4,h5⟩:=atI_get he
 obtain⟨w,ew,rw'⟩:=r.get h2
 have hl:=r.length
 have hn:=line63
 have fin:EP X pins σ Q w s:=⟨z,H,I,rw',q⟩
 by_cases h0:0≤i
 ·have hj:i.toNat=j:=by
   rw[seqIndex_of h0 h5]at h1
   exact Option.some.inj h1
  exact item_listR pl.isList h0 (by omega) (by rw[hj];simpa using ew) fin hs
 ·have hj:(i+(its.toArray.size:Int)).toNat=j:=by
   rw[seqIndex_neg (by omega) h4]at h1
   rw[List.size_toArray,←hl]
   exact Option.some.inj h1
  exact subscriptTail_builtinR (x:=w) pl.isList.typeIs slot_list_getitem.lookup
   (wpAny_getItem_list_neg (Q:=fun r s'=>r=w∧EP X pins σ Q r s') pl.isList (by omega) (by rw[List.size_toArray]<;>omega) (by omega) (by rw[hj];simpa using ew) ⟨rfl,fin⟩) hs
theorem ix_tup:IxR X (rIxT X.K):=by
 intro value slice pins s σ H x y v u Q I rx ry h hs
 obtain⟨p,xs,i,z,rfl,rfl,hq,he,q⟩:=h
 cases rx
 obtain⟨t,rfl⟩:=ry
 obtain⟨its,r,pl,hz⟩:=I.tuple hq
 obtain⟨j,h1,h2,h3,h4,h5⟩:=atI_get he
 obtain⟨w,ew,rw'⟩:=r.get h2
 have hl:=r.length
 have hn:=line63
 have fin:EP X pins σ Q w s:=⟨z,H,I,rw',q⟩
 exact subscriptTail_builtinR (x:=w) pl.typeIs slot_tuple_getitem.lookup
  (getItem_tuple (j:=j) (Q:=fun r s'=>r=w∧EP X pins σ Q r s') pl (by omega) (by omega) (by rw[List.size_toArray,←hl];exact h1) (by simpa using ew) ⟨rfl,fin⟩) hs
theorem slice_bounds(lo hi:Option Int)(n:Nat):(sliceBounds lo hi none n).1=((HT.sIx n 0 lo:Nat):Int)∧(sliceBounds lo hi none n).2.1=((HT.sIx n n hi:Nat):Int)∧(sliceBounds lo hi none n).2.2=1:=by
 refine⟨?_,?_,rfl⟩
 ·cases lo with
  |none=>simp[sliceBounds,HT.sIx]
  |some i=>
   simp only[sliceBounds,HT.sIx,Option.getD_none,show(1:Int)>0 by decide,if_true]
   by_cases h:i<0
   ·simp only[h,if_true]<;>omega
   ·simp only[h,if_false]<;>omega
 ·cases hi with
  |none=>simp[sliceBounds,HT.sIx]
  |some i=>
   simp only[sliceBounds,HT.sIx,Option.getD_none,show(1:Int)>0 by decide,if_true]
   by_cases h:i<0
   ·simp only[h,if_true]<;>omega
   ·simp only[h,if_false]<;>omega
theorem slicePick_cut(its:List Value)(lo hi:Option Int):slicePick its.toArray lo hi none=((its.drop (HT.sIx its.length 0 lo)).take (HT.sIx its.length its.length hi-HT.sIx its.length 0 lo)).toArray:=by
 obtain⟨h1,h2,h3⟩:=slice_bounds lo hi its.toArray.size
 unfold slicePick
 rw[h1,h2,h3]
 simp only[sliceRange_one,pick_run,List.size_toArray]<;>rfl
noncomputable def rSlL(K:PySem.W.Frag):V→Option Int→Option Int→Hp→VK→Prop:=fun x lo hi H Q=>∃a xs,x=.ref a∧SqL K H a xs∧∀p,H p=none→Q (.ref p) (upd H p (.lst (cutV xs lo hi)))
theorem sl_list:SlR X (rSlL X.K):=by
 intro pins s σ H x v vl vu lo hi sl Q I rx hs pl pu h
 obtain⟨a,xs,rfl,hx,q⟩:=h
 cases rx
 obtain⟨its,r,ht,hz⟩:=I.list hx
 have hlen:=r.length
 refine⟨"list",_,slot_list_getitem.lookup,ht.isList.typeIs,?_⟩
 refine wpAny_getItem_list_slice ht.isList hs pl pu .none (by simp) ?_ (by rw[List.size_toArray]<;>omega)
 rw[slicePick_cut,←hlen]
 refine⟨.ref s.heap.objs.size,_,I.laid (t':=s.toks) (o:=.lst (cutV xs lo hi)) (fun b ob q=>Heap.get?_push_of_some _ q) (Nat.le_refl _) ?_,rfl,q _ (I.hok.fresh (Nat.le_refl _))⟩
 exact⟨Nat.le_trans (cutV_length xs lo hi) hz,_,0,(r.drop (HT.sIx xs.length 0 lo)).take (HT.sIx xs.length xs.length hi-HT.sIx xs.length 0 lo),Heap.get?_push_size _ rfl⟩
noncomputable def flatV:V→Bool
 | .non=>true
 | .bl _=>true
 | .int _=>true
 | .str _=>true
 |_=>false
noncomputable def eqV:V→V→Bool
 | .non,.non=>true
 | .bl a,.bl b=>a==b
 | .bl a,.int b=>(if a then 1 else 0)==b
 | .int a,.bl b=>a==(if b then 1 else 0)
 | .int a,.int b=>a==b
 | .str a,.str b=>a==b
 |_,_=>false
theorem eqAt_V{A:Around}{s:Shared}{y x:V}{u v:Value}(ry:RelV y u)(rx:RelV x v)(fy:flatV y=true)(fx:flatV x=true):SeqAt.EqAt A s u v (eqV y x):=by
 cases y with
 |non=>
  cases ry
  cases x with
  |non=>cases rx;exact SeqAt.EqAt.same _
  |bl b=>cases rx;exact SeqAt.EqAt.none_bool b
  |int b=>obtain⟨t,rfl⟩:=rx;exact SeqAt.EqAt.none_int b t
  |str b=>obtain⟨t,rfl⟩:=rx;exact SeqAt.EqAt.none_str b t
  |_=>exact absurd (show false=true from fx) Bool.false_ne_true
 |bl a=>
  cases ry
  cases x with
  |non=>cases rx;exact SeqAt.EqAt.bool_none a
  |bl b=>cases rx;exact SeqAt.EqAt.bool_bool a b
  |int b=>obtain⟨t,rfl⟩:=rx;exact SeqAt.EqAt.bool_int a b t
  |str b=>obtain⟨t,rfl⟩:=rx;exact SeqAt.EqAt.bool_str a b t
  |_=>exact absurd (show false=true from fx) Bool.false_ne_true
 |int a=>
  obtain⟨t',rfl⟩:=ry
  cases x with
  |non=>cases rx;exact SeqAt.EqAt.int_none a t'
  |bl b=>cases rx;exact SeqAt.EqAt.int_bool a t' b
  |int b=>obtain⟨t,rfl⟩:=rx;exact SeqAt.EqAt.int_int a t' b t
  |str b=>obtain⟨t,rfl⟩:=rx;exact SeqAt.EqAt.int_str a t' b t
  |_=>exact absurd (show false=true from fx) Bool.false_ne_true
 |str a=>
  obtain⟨t',rfl⟩:=ry
  cases x with
  |non=>cases rx;exact SeqAt.EqAt.str_none a t'
  |bl b=>cases rx;exact SeqAt.EqAt.str_bool a t' b
  |int b=>obtain⟨t,rfl⟩:=rx;exact SeqAt.EqAt.str_int a t' b t
  |str b=>obtain⟨t,rfl⟩:=rx;exact SeqAt.EqAt.str_str a t' b t
  |_=>exact absurd (show false=true from fx) Bool.false_ne_true
 |_=>exact absurd (show false=true from fy) Bool.false_ne_true
noncomputable def eqU(x:V)(u:Value):Bool:=match u with
 | .none=>eqV .non x
 | .bool b=>eqV (.bl b) x
 | .int i _=>eqV (.int i) x
 | .str z _=>eqV (.str z) x
 |_=>false
theorem eqU_of{x y:V}{u:Value}(r:RelV y u)(f:flatV y=true):eqU x u=eqV y x:=by
 cases y with
 |non=>cases r;rfl
 |bl b=>cases r;rfl
 |int i=>obtain⟨t,rfl⟩:=r;rfl
 |str z=>obtain⟨t,rfl⟩:=r;rfl
 |_=>exact absurd (show false=true from f) Bool.false_ne_true
theorem any_eqU{x:V}:∀{xs:List V} {us:List Value},Vals xs us→xs.all flatV=true→us.any (eqU x)=xs.any fun y=>eqV y x
 |_,_,.nil,_=>rfl
 |y::xs,u::us,.cons r t,f=>by
  rw[List.all_cons,Bool.and_eq_true]at f
  rw[List.any_cons,List.any_cons,eqU_of r f.1,any_eqU t f.2]
theorem mem_eqAt{A:Around}{s:Shared}{x:V}{v:Value}(rx:RelV x v)(fx:flatV x=true):∀{xs:List V} {us:List Value},Vals xs us→xs.all flatV=true→∀u∈us,SeqAt.EqAt A s u v (eqU x u)
 |_,_,.nil,_=>fun u hu=>by cases hu
 |y::xs,u::us,.cons r t,f=>fun u' hu=>by
  rw[List.all_cons,Bool.and_eq_true]at f
  rcases List.mem_cons.mp hu with rfl|hu
  ·rw[eqU_of r f.1];exact eqAt_V r rx f.1 fx
  ·exact mem_eqAt rx fx t f.2 u' hu
noncomputable def inV(x:V)(xs:List V):Bool:=xs.any fun y=>eqV y x
noncomputable def rIn(K:PySem.W.Frag)(neg:Bool):R2:=fun x y H Q=>∃p xs,y=.ref p∧(SqL K H p xs∨SqT K H p xs)∧flatV x=true∧xs.all flatV=true∧Q (.bl (if neg then !inV x xs else inV x xs)) H
theorem op_in_seq:OpR X (compareOp .In) (rIn X.K false):=by
 intro pins s σ H x y v u Q I rx ry h
 obtain⟨p,xs,rfl,hq,fx,fs,q⟩:=h
 cases ry
 rcases hq with hq|hq
 ·obtain⟨its,r,pl,hz⟩:=I.list hq
  refine SeqAt.in_listAt (eqU x) pl.isList (fun w hw=>mem_eqAt rx fx r fs w (by simpa using hw)) ⟨.bl _,H,I,rfl,?_⟩
  rw[show its.toArray.any (eqU x)=its.any (eqU x) by simp,any_eqU r fs]
  exact q
 ·obtain⟨its,r,pl,hz⟩:=I.tuple hq
  refine SeqAt.in_tupleAt (eqU x) pl (fun w hw=>mem_eqAt rx fx r fs w (by simpa using hw)) ⟨.bl _,H,I,rfl,?_⟩
  rw[show its.toArray.any (eqU x)=its.any (eqU x) by simp,any_eqU r fs]
  exact q
theorem op_notIn_seq:OpR X (compareOp .NotIn) (rIn X.K true):=by
 intro pins s σ H x y v u Q I rx ry h
 obtain⟨p,xs,rfl,hq,fx,fs,q⟩:=h
 cases ry
 rcases hq with hq|hq
 ·obtain⟨its,r,pl,hz⟩:=I.list hq
  refine SeqAt.notIn_listAt (eqU x) pl.isList (fun w hw=>mem_eqAt rx fx r fs w (by simpa using hw)) ⟨.bl _,H,I,rfl,?_⟩
  rw[show its.toArray.any (eqU x)=its.any (eqU x) by simp,any_eqU r fs]
  exact q
 ·obtain⟨its,r,pl,hz⟩:=I.tuple hq
  refine SeqAt.notIn_tupleAt (eqU x) pl (fun w hw=>mem_eqAt rx fx r fs w (by simpa using hw)) ⟨.bl _,H,I,rfl,?_⟩
  rw[show its.toArray.any (eqU x)=its.any (eqU x) by simp,any_eqU r fs]
  exact q
theorem call_len_seq:CallR X (.builtin "len") (fun xs H Q=>∃p ys,xs=[.ref p]∧(SqL X.K H p ys∨SqT X.K H p ys)∧Q (.int ys.length) H):=by
 intro pins s σ H xs us Q I r h
 obtain⟨p,ys,rfl,hq,q⟩:=h
 obtain⟨u,rfl,rx⟩:=vals1 r
 cases rx
 have hn:=line63
 rcases hq with hq|hq
 ·obtain⟨its,r',pl,hz⟩:=I.list hq
  have hlen:=r'.length
  exact Calls.call_len_list pl.isList (by simp only[List.size_toArray]<;>omega) ⟨.int ys.length,H,I.tok _,⟨s.toks+1,by rw[List.size_toArray,hlen]⟩,q⟩
 ·obtain⟨its,r',pl,hz⟩:=I.tuple hq
  have hlen:=r'.length
  exact len_tuple pl (by simp only[List.size_toArray]<;>omega) ⟨.int ys.length,H,I.tok _,⟨s.toks+1,by rw[List.size_toArray,hlen]⟩,q⟩
noncomputable def tyV(K:PySem.W.Frag)(T:String)(x:V)(H:Hp):Prop:=match x with
 | .str _=>T="str"
 | .int _=>T="int"
 | .ref p=>(T="list"∧∃xs,SqL K H p xs)∨(T="tuple"∧∃o,K.lookup p=some o∧o.cls=.type "tuple"∧o.dict=none)∨
   (T="dict"∧((∃kvs,H p=some (.dK kvs))∨∃kvs,H p=some (.dT kvs)))∨(T="set"∧∃S n,H p=some (.set S n))
 |_=>False
theorem tyV_is{pins:List (Addr×Obj)}{σ:St}{H:Hp}{s:Shared}{T:String}{x:V}{v:Value}(I:Inv X pins σ H s)(r:RelV x v)(ty:tyV X.K T x H):
  s.TypeIs v T∧∀a,v=.ref a→∃ob,s.heap.get? a=some ob∧ob.dict=none:=by
 cases x with
 |str z=>
  obtain⟨t,rfl⟩:=r
  cases (show T="str" from ty)
  exact⟨typeIs_str s z t,fun _ e=>nomatch e⟩
 |int i=>
  obtain⟨t,rfl⟩:=r
  cases (show T="int" from ty)
  exact⟨typeIs_int s i t,fun _ e=>nomatch e⟩
 |ref p=>
  cases r
  rcases ty with⟨rfl,xs,hq⟩|⟨rfl,o,hk,hc,hd⟩|⟨rfl,hk⟩|⟨rfl,S,n,hk⟩
  ·obtain⟨its,_,pl,_⟩:=I.list hq
   refine⟨pl.isList.typeIs,fun a e=>?_⟩
   cases e
   obtain⟨o,n,e,c,hd,_⟩:=pl
   exact⟨o,e,hd⟩
  ·refine⟨⟨o,I.kIn p o hk,hc⟩,fun a e=>?_⟩
   cases e
   exact⟨o,I.kIn _ o hk,hd⟩
  ·have z:∃o,s.heap.get? p=some o∧o.ExactDict:=by
    rcases hk with⟨kvs,hk⟩|⟨kvs,hk⟩
    ·obtain⟨_,_,_,_,o,_,_,e,ex,_⟩:=I.hok p _ hk
     exact⟨o,e,ex⟩
    ·obtain⟨_,_,_,_,o,_,_,e,ex,_⟩:=I.hok p _ hk
     exact⟨o,e,ex⟩
   obtain⟨o,e,ex⟩:=z
   refine⟨⟨o,e,ex.1⟩,fun a e2=>?_⟩
   cases e2
   exact⟨o,e,ex.2.1⟩
  ·obtain⟨o,_,_,_,e,ex,_⟩:=I.hok p _ hk
   refine⟨⟨o,e,ex.1⟩,fun a e2=>?_⟩
   cases e2
   exact⟨o,e,ex.2.1⟩
 |_=>exact False.elim ty
noncomputable def tBM(K:PySem.W.Frag)(T:String)(r:V→List V→Hp→VK→Prop)(to:TE)(t:TA):TE:=fun σ H Q=>to σ H fun x H1=>tyV K T x H1∧t σ H1 fun xs H2=>r x xs H2 Q
variable {o e:Expr}{es:List Expr}{to:TE}{t:TA}{name:Str}{apos cpos:Pos}{T id:String}{r:V→List V→Hp→VK→Prop}
theorem pe_bm(pa:PlainAttrs T)(slot:Slot T name id)(hty:typeOf (.builtin id)=pure (.type "method_descriptor"))(hm:MtR X id r)(ho:PE X o to)(ha:PA X (e::es) t)
  (hbase:attributeBase o name X.env (eval o X.env)=eval o X.env:=by rfl)
  (hfew:((backTo cpos (starEach (e::es) X.env)).all (fun x=>!x.1)&&(backToKw cpos (keywordEach [] X.env)).all (fun x=>x.1.isSome)
   &&decide ((e::es).length+([]:List Keyword).length+(if([]:List Keyword).isEmpty then 0 else 1)<30))=true:=by rfl)
  (hline:(apos.endLine==cpos.line)=true:=by rfl) (hs:starEach (e::es) X.env=(false,eval e X.env)::starEach es X.env:=by rfl) (hplain:(backTo cpos (starEach es X.env)).any (·.1)=false:=by rfl):
  PE X (.Call (.Attribute o name apos) (e::es) [] cpos) (tBM X.K T r to t):=by
 intro pins s σ H Q I h
 refine wpAny_Call_method_late hbase hfew hline rfl (thn (ho pins s σ H _ I h) fun v s1 ⟨x,H1,I1,r1,ty,q1⟩=>?_)
 obtain⟨h1,h2⟩:=tyV_is I1 r1 ty
 refine⟨T,id,pa,slot,hty,h1,h2,?_⟩
 have hA:=ha cpos pins s1 σ H1 _ I1 q1
 rw[hs]at hA ⊢
 refine Calls.callWith_builtin (by show(false||(backTo cpos (starEach es X.env)).any (·.1))=false;rw[hplain]<;>rfl) (Calls.evalArgs_plain ?_)
 exact thn hA fun us s2 ⟨vs,H2,I2,r2,q2⟩=>hm pins s2 σ H2 x vs v us Q I2 r1 r2 q2
end
end L2
namespace L2
open PySem PySem.Spec PyProof.Rows
noncomputable def MtM(X:Cx)(id:String)(r:V→List V→Hp→VK→Prop):Prop:=
 ∀(pins:List (Addr×Obj)) (s:Shared) (σ:St) (H:Hp) (x:V) (xs:List V) (v:Value) (us:List Value) (Q:VK),Inv X pins σ H s→RelV x v→Vals xs us→r x xs H Q→
  wpAny (model X.prog X.w) X.A (call (.builtin id) (v::us)) (EP X pins σ Q) X.xe s
theorem Vals.one:∀{x:V} {us:List Value},Vals [x] us→∃u,us=[u]∧RelV x u
 |_,_,.cons r .nil=>⟨_,rfl,r⟩
theorem Vals.eraseIdx:∀{xs:List V} {us:List Value} (i:Nat),Vals xs us→Vals (xs.eraseIdx i) (us.eraseIdx i)
 |_,_,_,.nil=>.nil
 |_,_,0,.cons _ t=>t
 |_,_,i+1,.cons r t=>.cons r (Vals.eraseIdx i t)
theorem len_erase{α:Type}:∀(l:List α) (i:Nat),(l.eraseIdx i).length≤l.length
 |[],_=>Nat.le_refl _
 |_::_,0=>Nat.le_succ _
 |_::r,i+1=>Nat.succ_le_succ (len_erase r i)
section
variable {X:Cx}{pins:List (Addr×Obj)}{σ:St}{H:Hp}{s:Shared}{l b:Addr}{xs ys zs:List V}
theorem Inv.lset{its its':List Value}{n:Nat}{f:Array Value→Array Value}{t':Nat}(I:Inv X pins σ H s)(hH:H l=some (.lst xs))
  (e:s.heap.get? l=some { cls:=.type "list",data:=.seq its.toArray n }) (hf:f its.toArray=its'.toArray) (hv:Vals ys its') (hz:ys.length≤sizeLine):
  Inv X pins σ (upd H l (.lst ys)) { s with heap:=s.heap.update l (Obj.mapSeq f),toks:=t' }:=by
 have q:=PySem.IsL.update e f
 rw[hf]at q
 refine I.write (x:=l) (e:=l) (by rw[hH];exact trivial) (.inl rfl) (fun b' u hb hu=>(Heap.get?_update_other s.heap (Obj.mapSeq f) (Ne.symm hb)).trans hu) ⟨_,q⟩ ?_
 exact⟨hz,its',_,hv,q⟩
theorem Inv.lnew{its:List Value}{t':Nat}(I:Inv X pins σ H s)(hv:Vals ys its)(hz:ys.length≤sizeLine):
  Inv X pins σ (upd H s.heap.objs.size (.lst ys)) { s with heap:=s.heap.push { cls:=.type "list",data:=.seq its.toArray },toks:=t' }:=
 I.laid (fun _ _ q=>Heap.get?_push_of_some _ q) (Nat.le_refl _) ⟨hz,its,0,hv,Heap.get?_push_size _ rfl⟩
theorem Inv.fresh(I:Inv X pins σ H s):H s.heap.objs.size=none:=I.hok.fresh (Nat.le_refl _)
theorem Inv.lstM(I:Inv X pins σ H s)(hH:H l=some (.lst xs)):xs.length≤sizeLine∧∃(its:List Value) (n:Nat),Vals xs its∧xs.length=its.length∧s.heap.get? l=some { cls:=.type "list",data:=.seq its.toArray n }:=by
 obtain⟨z,its,n,r,e⟩:=I.hok l _ hH
 exact⟨z,its,n,r,r.length,e⟩
theorem notLongL{n:Nat}(h:n≤sizeLine):Builtin.List.listTooLong n=false:=by
 unfold Builtin.List.listTooLong
 exact decide_eq_false (by omega)
end
section
variable {X:Cx}
noncomputable def rAppend:V→List V→Hp→VK→Prop:=fun x vs H Q=>∃l xs y,x=.ref l∧vs=[y]∧H l=some (.lst xs)∧xs.length<sizeLine∧Q .non (upd H l (.lst (xs++[y])))
theorem mt_append:MtM X "list.append" rAppend:=by
 intro pins s σ H x vs v us Q I rx rv h
 obtain⟨l,xs,y,rfl,rfl,hH,hz,q⟩:=h
 cases rx
 obtain⟨u,rfl,ru⟩:=rv.one
 obtain⟨z,its,n,r,hl,e⟩:=I.lstM hH
 refine call_meets F.slot_list_append ⟨_,e,rfl⟩ F.entry_list_append (F.args_list_append_2 _ _) (PySem.list_append l its.toArray n u (by rw[List.size_toArray];omega)) ⟨e,?_⟩
 refine⟨.non,_,I.lset (its':=its++[u]) hH e (by simp) (r.append (.cons ru .nil)) ?_,rfl,q⟩
 rw[List.length_append,List.length_singleton]
 omega
noncomputable def rExtend:V→List V→Hp→VK→Prop:=fun x vs H Q=>∃l b xs zs,x=.ref l∧vs=[.ref b]∧H l=some (.lst xs)∧H b=some (.lst zs)∧xs.length+zs.length≤sizeLine∧Q .non (upd H l (.lst (xs++zs)))
theorem mt_extend:MtM X "list.extend" rExtend:=by
 intro pins s σ H x vs v us Q I rx rv h
 obtain⟨l,b,xs,zs,rfl,rfl,hH,hB,hz,q⟩:=h
 cases rx
 obtain⟨u,rfl,ru⟩:=rv.one
 cases ru
 obtain⟨z,its,n,r,hl,e⟩:=I.lstM hH
 obtain⟨z2,its2,n2,r2,hl2,e2⟩:=I.lstM hB
 have hsz:its.toArray.size+its2.toArray.size≤sizeLine:=by rw[List.size_toArray,List.size_toArray];omega
 have hlong:¬(!its.toArray.isEmpty&&Builtin.List.listTooLong (its.toArray.size+its2.toArray.size))=true:=by
  rw[notLongL hsz,Bool.and_false]
  exact Bool.false_ne_true
 refine call_meets F.slot_list_extend ⟨_,e,rfl⟩ F.entry_list_extend (F.args_list_extend_2 _ _)
  (AutoSeq1.list_extend_list_list_0 l its.toArray n b its2.toArray n2 hlong (by rw[List.size_toArray];omega) (by omega)) ⟨e,e2,?_⟩
 refine⟨.non,_,I.lset (its':=its++its2) hH e (by simp) (r.append r2) ?_,rfl,q⟩
 rw[List.length_append]
 omega
noncomputable def rCat:R2:=fun x y H Q=>∃l b xs zs,x=.ref l∧y=.ref b∧H l=some (.lst xs)∧H b=some (.lst zs)∧xs.length+zs.length≤sizeLine∧∀p,H p=none→Q (.ref p) (upd H p (.lst (xs++zs)))
theorem op_cat:OpR X (binaryOp .Add) rCat:=by
 intro pins s σ H x y v u Q I rx ry h
 obtain⟨l,b,xs,zs,rfl,rfl,hH,hB,hz,q⟩:=h
 cases rx
 cases ry
 obtain⟨z,its,n,r,hl,e⟩:=I.lstM hH
 obtain⟨z2,its2,n2,r2,hl2,e2⟩:=I.lstM hB
 refine PySem.P.add_list e e2 ?_ (by rw[List.size_toArray,List.size_toArray];omega)
 have ea:its.toArray++its2.toArray=(its++its2).toArray:=by simp
 rw[ea]
 exact⟨.ref _,_,I.lnew (t':=s.toks) (r.append r2) (by rw[List.length_append];omega),rfl,q _ I.fresh⟩
end
section
variable {prog:Program}{w:World}{A:Around}{E:Value→Shared→Prop}{s:Shared}
end
section
variable {X:Cx}
end
end L2
namespace L2
open PySem PySem.Spec PyProof.Rows
theorem Vals.ints:∀{ns:List Int} {us:List Value},Vals (ns.map V.int) us→IntsAre us ns
 |[],us,h=>by
  rw[List.map_nil]at h
  cases h
  exact IntsAre.nil
 |n::ns,us,h=>by
  rw[List.map_cons]at h
  cases h with
  |cons r t=>
   obtain⟨k,rfl⟩:=r
   exact IntsAre.cons n k (Vals.ints t)
theorem Vals.ref1{a:Addr}{us:List Value}(r:Vals [V.ref a] us):us=[Value.ref a]:=by
 cases r with
 |cons r t=>
  cases t
  cases r
  rfl
section
variable {prog:Program}{w:World}{A:Around}{E:Value→Shared→Prop}{s:Shared}{l:Addr}{its:List Value}{ns:List Int}{Q:Value→Shared→Prop}
theorem sum_raw(hh:A.handled=none)(hl:s.heap.IsList l its.toArray)(hi:IntsAre its ns)
  (h:∀h' tk t',(∀b o,s.heap.get? b=some o→h'.get? b=some o)→Q (.int ns.sum t') { s with heap:=h',toks:=tk }):wpAny (model prog w) A (call (.builtin "sum") [.ref l]) Q E s:=by
 obtain⟨xs,e⟩:=hi.allInts.items
 have hn:numsOf (intItems xs).toList=ns:=by rw[←e];exact hi.numsOf
 rw[nums_intItems]at hn
 rw[e]at hl
 refine PySem.sum_intListG hh hl fun h' tk t' hk=>?_
 have:=h h' tk t' hk
 rw[preSum_eq,List.take_of_length_le (by simp),hn];exact this
end
section
variable {X:Cx}
noncomputable def rSum(K:PySem.W.Frag):List V→Hp→VK→Prop:=fun vs H Q=>∃(a:Addr) (ns:List Int),vs=[V.ref a]∧SqL K H a (ns.map V.int)∧Q (.int ns.sum) H
theorem cr_sum(hc:X.calm=true):CallR X (.builtin "sum") (rSum X.K):=by
 intro pins s σ H vs us Q I r h
 obtain⟨a,ns,rfl,hs,q⟩:=h
 obtain⟨its,rv,hl,_⟩:=I.list hs
 rw[Vals.ref1 r]
 exact sum_raw (I.ok.hd hc) hl.isList rv.ints fun h' tk t' hk=>⟨.int _,H,I.kept hk,⟨_,rfl⟩,q⟩
end
section
variable {X:Cx}
end
section
variable {X:Cx}
end
section
variable {X:Cx}
end
mutual
inductive Dp(K:PySem.W.Frag)(H:Hp):V→PyData→Prop
 |non:Dp K H .non .none
 |bl (b:Bool):Dp K H (.bl b) (.bool b)
 |int (i:Int):Dp K H (.int i) (.int i)
 |str (x:Str):Dp K H (.str x) (.str x)
 |lst {a:Addr} {xs:List V} {ds:List PyData}:SqL K H a xs→DpAll K H xs ds→Dp K H (.ref a) (.list ds)
 |tup {a:Addr} {xs:List V} {ds:List PyData}:SqT K H a xs→DpAll K H xs ds→Dp K H (.ref a) (.tuple ds)
inductive DpAll(K:PySem.W.Frag)(H:Hp):List V→List PyData→Prop
 |nil:DpAll K H [] []
 |cons {v:V} {vs:List V} {d:PyData} {ds:List PyData}:Dp K H v d→DpAll K H vs ds→DpAll K H (v::vs) (d::ds)
end
section
variable {X:Cx}{pins:List (Addr×Obj)}{σ:St}{H:Hp}{s:Shared}
mutual
theorem Dp.reads(I:Inv X pins σ H s):∀(d:PyData) (v:V) (u:Value),Dp X.K H v d→RelV v u→∃as,Reads s.heap u d as
 | .none,_,_,h,r=>by
  cases h
  cases r
  exact⟨_,Reads.none⟩
 | .bool b,_,_,h,r=>by
  cases h
  cases r
  exact⟨_,Reads.bool b⟩
 | .int i,_,_,h,r=>by
  cases h
  obtain⟨t,rfl⟩:=r
  exact⟨_,Reads.int i t⟩
 | .str x,_,_,h,r=>by
  cases h
  obtain⟨t,rfl⟩:=r
  exact⟨_,Reads.str x t⟩
 | .list ds,_,_,h,r=>by
  cases h with
  |lst hs ha=>
   cases r
   obtain⟨its,rv,⟨o,n,ho,hc,_,hd⟩,_⟩:=I.list hs
   obtain⟨as,hr⟩:=Dp.readsAll I ds _ its ha rv
   exact⟨_,Reads.list ho hc hd hr⟩
 | .tuple ds,_,_,h,r=>by
  cases h with
  |tup hs ha=>
   cases r
   obtain⟨its,rv,⟨o,ho,hc,n,hd⟩,_⟩:=I.tuple hs
   obtain⟨as,hr⟩:=Dp.readsAll I ds _ its ha rv
   exact⟨_,Reads.tuple ho hc hd hr⟩
 | .dict _,_,_,h,_=>by cases h
theorem Dp.readsAll(I:Inv X pins σ H s):∀(ds:List PyData) (vs:List V) (us:List Value),DpAll X.K H vs ds→Vals vs us→∃as,ReadsAll s.heap us ds as
 |[],_,_,h,r=>by
  cases h
  cases r
  exact⟨_,ReadsAll.nil⟩
 |d::ds,_,_,h,r=>by
  cases h with
  |cons h1 h2=>
   cases r with
   |cons r1 r2=>
    obtain⟨as,q1⟩:=Dp.reads I d _ _ h1 r1
    obtain⟨bs,q2⟩:=Dp.readsAll I ds _ _ h2 r2
    exact⟨_,ReadsAll.cons q1 q2⟩
end
end
section
variable {X:Cx}
end
end L2
namespace L2
open PySem PySem.Spec PyProof.Rows
noncomputable abbrev CellAt(h:Heap)(c:Addr)(v:Option Value):Prop:=h.IsCell c v
noncomputable def relS(scope sc:Scope):Scope:=
 { scope with names:=scope.names.map fun(n,k)=>if(k==.free&&sc.kind==.function&&sc.names.lookup n==some .cell)then(n,.cell)else(n,k) }
noncomputable def cloFrom(cells:List (Str×Addr)):List (Str×NameKind)→List (Str×Addr)→List (Str×Addr)
 |[],acc=>acc
 |(n,k)::r,acc=>if k==.free then cloFrom cells r ((n,(cells.lookup n).getD 0)::acc)else cloFrom cells r acc
theorem closure_loop(env:Env)(f:Str×NameKind→List (Str×Addr)→Sem (ForInStep (List (Str×Addr))))
  (hf:∀n k c,f (n,k) c=if k==.free then(do let a ←cellOf env n;pure (.yield ((n,a)::c)))else pure (.yield c)):
  ∀(names:List (Str×NameKind)) (acc:List (Str×Addr)),(∀y∈names,y.2=.free→∃c,env.cells.lookup y.1=some c)→forIn names acc f=pure (cloFrom env.cells names acc)
 |[],acc,_=>by rw[List.forIn_nil];rfl
 |(n,k)::r,acc,h=>by
  rw[List.forIn_cons,hf]
  have ih:=fun acc=>closure_loop env f hf r acc fun y hy=>h y (List.mem_cons_of_mem _ hy)
  unfold cloFrom
  by_cases hk:(k==NameKind.free)=true
  ·rw[if_pos hk,if_pos hk]
   obtain⟨c,hc⟩:=h (n,k) List.mem_cons_self (by simpa using hk)
   have e:cellOf env n=pure c:=by unfold cellOf;rw[hc]
   rw[e]
   have e2:(env.cells.lookup n).getD 0=c:=by rw[hc];rfl
   rw[e2]
   exact ih _
  ·rw[if_neg hk,if_neg hk]
   exact ih _
theorem closure_ok{scope:Scope}{env:Env}(h:∀y∈scope.names,y.2=.free→∃c,env.cells.lookup y.1=some c):closureFor scope env=pure (cloFrom env.cells scope.names []):=by
 simp only[closureFor]
 rw[closure_loop env _ (fun n k c=>rfl) scope.names [] h]
 rfl
theorem mem_lookup{α:Type}:∀{l:List (Str×α)} {n:Str} {c:α},(n,c)∈l→∃c',l.lookup n=some c'
 |(k,v)::r,n,c,h=>by
  rw[List.lookup_cons]
  cases hb:n==k with
  |true=>exact⟨_,rfl⟩
  |false=>
   rcases List.mem_cons.mp h with e|h
   ·cases e;simp at hb
   ·exact mem_lookup h
theorem cloFrom_mem{cells:List (Str×Addr)}:∀{names:List (Str×NameKind)} {acc:List (Str×Addr)} {n:Str} {c:Addr},(n,c)∈cloFrom cells names acc→(n,c)∈acc∨((n,.free)∈names∧c=(cells.lookup n).getD 0)
 |[],_,_,_,h=>.inl h
 |(m,k)::r,acc,n,c,h=>by
  unfold cloFrom at h
  split at h
  ·rename_i hk
   have hk:k=.free:=by simpa using hk
   rcases cloFrom_mem h with h|⟨h1,h2⟩
   ·rcases List.mem_cons.mp h with e|h
    ·cases e;exact .inr ⟨hk▸List.mem_cons_self,rfl⟩
    ·exact .inl h
   ·exact .inr ⟨List.mem_cons_of_mem _ h1,h2⟩
  ·rcases cloFrom_mem h with h|⟨h1,h2⟩
   ·exact .inl h
   ·exact .inr ⟨List.mem_cons_of_mem _ h1,h2⟩
theorem cloFrom_acc{cells:List (Str×Addr)}:∀{names:List (Str×NameKind)} {acc:List (Str×Addr)} {p:Str×Addr},p∈acc→p∈cloFrom cells names acc
 |[],_,_,h=>h
 |(m,k)::r,acc,p,h=>by
  unfold cloFrom
  split
  ·exact cloFrom_acc (List.mem_cons_of_mem _ h)
  ·exact cloFrom_acc h
theorem cloFrom_has{cells:List (Str×Addr)}:∀{names:List (Str×NameKind)} {acc:List (Str×Addr)} {n:Str},(n,.free)∈names→(n,(cells.lookup n).getD 0)∈cloFrom cells names acc
 |(m,k)::r,acc,n,h=>by
  unfold cloFrom
  rcases List.mem_cons.mp h with e|h
  ·cases e
   exact cloFrom_acc List.mem_cons_self
  ·split
   ·exact cloFrom_has h
   ·exact cloFrom_has h
theorem cells_mem:∀{names:List (Str×NameKind)} {h:Heap} {acc:List (Str×Addr)} {x:Str} {c:Addr},(x,c)∈cellsFrom h.objs.size names acc→
  (x,c)∈acc∨((x,.cell)∈names∧h.objs.size≤c∧CellAt (pushCells h names) c none)
 |[],_,_,_,_,h=>.inl h
 |(n,k)::r,h,acc,x,c,hm=>by
  unfold cellsFrom at hm
  unfold pushCells
  split at hm
  ·rename_i hk
   rw[if_pos hk]
   have hk:k=.cell:=by simpa using hk
   rw[←Heap.size_push h { cls:=.type "cell",data:=.cell none }]at hm
   rcases cells_mem hm with hm|⟨h1,h2,h3⟩
   ·rcases List.mem_cons.mp hm with e|hm
    ·cases e
     exact .inr ⟨hk▸List.mem_cons_self,Nat.le_refl _,_,pushCells_keeps r _ _ _ (Heap.get?_push_size _ rfl),rfl⟩
    ·exact .inl hm
   ·rw[Heap.size_push]at h2
    exact .inr ⟨List.mem_cons_of_mem _ h1,Nat.le_of_succ_le h2,h3⟩
  ·rename_i hk
   rw[if_neg hk]
   rcases cells_mem hm with hm|⟨h1,h2,h3⟩
   ·exact .inl hm
   ·exact .inr ⟨List.mem_cons_of_mem _ h1,h2,h3⟩
theorem cells_acc:∀{names:List (Str×NameKind)} {n:Nat} {acc:List (Str×Addr)} {p:Str×Addr},p∈acc→p∈cellsFrom n names acc
 |[],_,_,_,h=>h
 |(m,k)::r,n,acc,p,h=>by
  unfold cellsFrom
  split
  ·exact cells_acc (List.mem_cons_of_mem _ h)
  ·exact cells_acc h
theorem cells_has:∀{names:List (Str×NameKind)} {n:Nat} {acc:List (Str×Addr)} {x:Str},(x,.cell)∈names→∃c,(x,c)∈cellsFrom n names acc
 |(m,k)::r,n,acc,x,h=>by
  unfold cellsFrom
  rcases List.mem_cons.mp h with e|h
  ·cases e
   exact⟨n,cells_acc List.mem_cons_self⟩
  ·split
   ·exact cells_has h
   ·exact cells_has h
theorem cells_inj:∀{names:List (Str×NameKind)} {h:Heap} {acc:List (Str×Addr)} {x y:Str} {c:Addr},(∀p∈acc,p.2<h.objs.size)→(∀x y c,(x,c)∈acc→(y,c)∈acc→x=y)→
  (x,c)∈cellsFrom h.objs.size names acc→(y,c)∈cellsFrom h.objs.size names acc→x=y
 |[],_,_,_,_,_,_,hi,h1,h2=>hi _ _ _ h1 h2
 |(n,k)::r,h,acc,x,y,c,hl,hi,h1,h2=>by
  unfold cellsFrom at h1 h2
  split at h1
  ·rename_i hk
   rw[if_pos hk]at h2
   rw[←Heap.size_push h { cls:=.type "cell",data:=.cell none }]at h1 h2
   refine cells_inj (h:=h.push _) (fun p hp=>?_) (fun x y c a b=>?_) h1 h2
   ·rw[Heap.size_push]
    rcases List.mem_cons.mp hp with rfl|hp
    ·exact Nat.lt_succ_self _
    ·exact Nat.lt_succ_of_lt (hl p hp)
   ·rcases List.mem_cons.mp a with e|a<;>rcases List.mem_cons.mp b with e'|b
    ·cases e;cases e';rfl
    ·cases e;exact absurd (hl _ b) (Nat.lt_irrefl _)
    ·cases e';exact absurd (hl _ a) (Nat.lt_irrefl _)
    ·exact hi _ _ _ a b
  ·rename_i hk
   rw[if_neg hk]at h2
   exact cells_inj hl hi h1 h2
theorem newEnv_comp{M:Model}{A:Around}{E:Value→Shared→Prop}{s:Shared}{scope:Scope}{globals:Addr}{closure:List (Str×Addr)}{qual:Str}{func:Option Addr}{code:Value}{around:Env}{builtins:Addr}{Q:Env→Shared→Prop}
  (h:Q (newEnv scope s.heap.objs.size globals (cellsFrom (s.heap.objs.size+1) scope.names closure) qual func code (some around) builtins)
   { s with heap:=pushCells (s.heap.push { cls:=.type "dict",data:=.dict #[] }) scope.names }):
  wpAny M A (newFunctionEnv scope globals closure [] qual func code (some around) builtins) Q E s:=by
 simp only[newFunctionEnv,Option.isSome_some,if_true]
 refine wpAny_bind (wpAny_alloc ?_)
 refine wpAny_bind (wpAny_layCells _ (fun n k c=>rfl) scope.names closure _ _ ?_)
 rw[show({ s with heap:=s.heap.push { cls:=.type "dict",data:=.dict #[] } }:Shared).heap.objs.size=s.heap.objs.size+1 from Heap.size_push ..]
 rw[List.forIn_nil]
 exact wpAny_bind (wpAny_pure (wpAny_pure h))
theorem lookup_relS{sc:Scope}:∀{names:List (Str×NameKind)} {x:Str} {k:NameKind},
  (names.map fun(n,k)=>if(k==NameKind.free&&sc.kind==.function&&sc.names.lookup n==some .cell)then(n,NameKind.cell)else(n,k)).lookup x=some k→
  ∃k',names.lookup x=some k'∧(k=k'∨(k'=.free∧k=.cell))
 |[],_,_,h=>by simp at h
 |(n,k₀)::r,x,k,h=>by
  have ih:=@lookup_relS sc r x k
  have h':List.lookup x ((if(k₀==NameKind.free&&sc.kind==.function&&sc.names.lookup n==some .cell)=true then(n,NameKind.cell)else(n,k₀))::(r.map _))=some k:=h
  cases hx:x==n with
  |true=>
   simp only[List.lookup_cons,hx]
   by_cases hc:(k₀==NameKind.free&&sc.kind==.function&&sc.names.lookup n==some .cell)=true
   ·rw[if_pos hc]at h'
    simp only[List.lookup_cons,hx]at h'
    cases h'
    simp only[Bool.and_eq_true,beq_iff_eq]at hc
    exact⟨k₀,rfl,.inr ⟨hc.1.1,rfl⟩⟩
   ·rw[if_neg hc]at h'
    simp only[List.lookup_cons,hx]at h'
    cases h'
    exact⟨_,rfl,.inl rfl⟩
  |false=>
   simp only[List.lookup_cons,hx]
   by_cases hc:(k₀==NameKind.free&&sc.kind==.function&&sc.names.lookup n==some .cell)=true
   ·rw[if_pos hc]at h'
    simp only[List.lookup_cons,hx]at h'
    exact ih h'
   ·rw[if_neg hc]at h'
    simp only[List.lookup_cons,hx]at h'
    exact ih h'
structure BlkOk(N:List Str)(sc scope:Scope)(own:List (Str×Nat)):Prop where
 kind:scope.kind=.function
 uniq:∀y∈scope.names,scope.names.lookup y.1=some y.2
 ix:∀p∈own,N[p.2]?=some p.1
 free:∀y∈scope.names,y.2=.free→sc.names.lookup y.1=some .cell∨sc.names.lookup y.1=some .free
 own:∀y∈scope.names,y.2=.local∨y.2=.cell→y.1∈own.map (·.1)∨y.1∉N
noncomputable def wipe(σ:St):List Nat→St
 |[]=>σ
 |v::vs=>(wipe σ vs).set v none
theorem wipe_length(σ:St):∀vs:List Nat,(wipe σ vs).length=σ.length
 |[]=>rfl
 |v::vs=>by unfold wipe;rw[List.length_set,wipe_length σ vs]
theorem wipe_some{σ:St}{i:Nat}{x:V}:∀{vs:List Nat},(wipe σ vs)[i]?=some (some x)→σ[i]?=some (some x)∧i∉vs
 |[],h=>⟨h,by simp⟩
 |v::vs,h=>by
  unfold wipe at h
  by_cases hi:v=i
  ·subst hi
   by_cases hv:v<(wipe σ vs).length
   ·rw[List.getElem?_set_self hv]at h;cases h
   ·rw[List.getElem?_eq_none (by simpa using hv)]at h;cases h
  ·rw[List.getElem?_set_ne hi]at h
   obtain⟨h1,h2⟩:=wipe_some h
   exact⟨h1,by simp only[List.mem_cons,not_or];exact⟨fun e=>hi e.symm,h2⟩⟩
noncomputable abbrev Cx.blk(X:Cx)(s:Shared)(H:Hp)(scope:Scope)(cenv:Env)(fp:List Addr):Cx:={ X with s_0:=s,H_0:=H,env:=cenv,outer:=X.stack,ex:=fp,fn:=fun x=>scope.names.lookup x==some .cell,pn:=[],xe:=fun _ _=>False }
section
variable {X:Cx}{pins:List (Addr×Obj)}{σ:St}{H:Hp}{s:Shared}
theorem block_start{scope:Scope}{own:List (Str×Nat)}{fp:List Addr}(I:Inv X pins σ H s)(ok:BlkOk X.N X.env.scope scope own)(hN:X.N.Nodup)(hfp:∀b∈fp,FpOk X pins H b∧b<s.heap.objs.size):
  Inv (X.blk s H scope (compEnvC scope (cellsFrom (s.heap.objs.size+1) scope.names (cloFrom X.env.cells scope.names [])) s.heap.objs.size X.env) fp) [] (wipe σ (own.map (·.2))) H { s with heap:=pushCells (s.heap.push { cls:=.type "dict",data:=.dict #[] }) scope.names }:=by
 have hfree:∀y∈scope.names,y.2=.free→∃c,X.env.cells.lookup y.1=some c:=fun y hy e=>by
  rcases ok.free y hy e with k|k
  ·exact I.ok.has _ (.inl k)
  ·exact I.ok.has _ (.inr k)
 generalize hcenv:compEnvC scope (cellsFrom (s.heap.objs.size+1) scope.names (cloFrom X.env.cells scope.names [])) s.heap.objs.size X.env=cenv
 have kp:∀b o,s.heap.get? b=some o→(pushCells (s.heap.push { cls:=.type "dict",data:=.dict #[] }) scope.names).get? b=some o:=fun b o e=>pushCells_keeps _ _ _ _ (Heap.get?_push_of_some _ e)
 have hL:cenv.locals=s.heap.objs.size:=by rw[←hcenv];rfl
 have hcl:cenv.cells=cellsFrom (s.heap.objs.size+1) scope.names (cloFrom X.env.cells scope.names []):=by rw[←hcenv];rfl
 have hsc:cenv.scope=relS scope X.env.scope:=by rw[←hcenv];rfl
 rw[←Heap.size_push s.heap { cls:=.type "dict",data:=.dict #[] }]at hcl
 have cm:∀{y c},(y,c)∈cloFrom X.env.cells scope.names []→X.env.cells.lookup y=some c∧c<s.heap.objs.size:=fun{y c} hm=>by
  rcases cloFrom_mem hm with hm|⟨h1,rfl⟩
  ·cases hm
  ·obtain⟨c,hc⟩:=hfree _ h1 rfl
   rw[hc]
   obtain⟨w,z⟩:=I.cell _ _ hc
   exact⟨rfl,z.lt⟩
 have mem:∀{y c},cenv.cells.lookup y=some c→(X.env.cells.lookup y=some c∧c<s.heap.objs.size)∨(s.heap.objs.size+1≤c∧CellAt (pushCells (s.heap.push { cls:=.type "dict",data:=.dict #[] }) scope.names) c none):=fun{y c} e=>by
  rw[hcl]at e
  rcases cells_mem (PySem.mem_of_lookup e)with hm|⟨_,h2,h3⟩
  ·exact .inl (cm hm)
  ·rw[Heap.size_push]at h2;exact .inr ⟨h2,h3⟩
 have look:∀{y},scope.names.lookup y=some .free→∃c,cenv.cells.lookup y=some c∧X.env.cells.lookup y=some c:=fun{y} hl=>by
  have hy:(y,NameKind.free)∈scope.names:=PySem.mem_of_lookup hl
  obtain⟨c',e'⟩:=mem_lookup (cells_acc (names:=scope.names) (n:=(s.heap.push { cls:=.type "dict",data:=.dict #[] }).objs.size) (cloFrom_has (cells:=X.env.cells) (acc:=[]) hy))
  rw[←hcl]at e'
  refine⟨c',e',?_⟩
  rw[hcl]at e'
  rcases cells_mem (PySem.mem_of_lookup e')with hm|⟨h1,_,_⟩
  ·exact(cm hm).1
  ·have:=ok.uniq _ h1
   rw[hl]at this;cases this
 have okB:(X.blk s H scope cenv fp).Ok:=by
  refine⟨I.ok.mod,by show cenv.scope.kind=_;rw[hsc];exact ok.kind,by show cenv.globals=_;rw[←hcenv];exact I.ok.glob,by show cenv.builtins=_;rw[←hcenv];exact I.ok.blt,by show s.heap.objs.size≤cenv.locals;rw[hL];exact Nat.le_refl _,
   fun y z c e1 e2=>?_,fun y hy=>?_,fun y c z e=>?_,I.ok.hd,I.ok.frames,.inl rfl,fun b hb=>⟨?_,fun y c e z=>?_⟩,I.bs,Nat.le_trans I.ok.bsz I.sz,fun b o e hb=>?_,fun b hb z=>?_,I.stack,I.stkFree⟩
  ·have e1:cenv.cells.lookup y=some c:=e1
   have e2:cenv.cells.lookup z=some c:=e2
   rw[hcl]at e1 e2
   refine cells_inj (fun p hp=>?_) (fun y z c a b=>I.ok.inj y z c (cm a).1 (cm b).1) (PySem.mem_of_lookup e1) (PySem.mem_of_lookup e2)
   rw[Heap.size_push]
   exact Nat.lt_succ_of_lt (cm (y:=p.1) (c:=p.2) hp).2
  ·show ∃c,cenv.cells.lookup y=some c
   have key:∀k,cenv.kindOf y=some k→(k=.cell∨k=.free)→∃c,cenv.cells.lookup y=some c:=fun k hk hk'=>by
    unfold Env.kindOf at hk
    rw[hsc]at hk
    obtain⟨k',e,r⟩:=lookup_relS hk
    have:k'=.cell∨k'=.free:=by
     rcases r with rfl|⟨rfl,_⟩
     ·exact hk'
     ·exact .inr rfl
    rcases this with rfl|rfl
    ·obtain⟨c,hm⟩:=cells_has (n:=(s.heap.push { cls:=.type "dict",data:=.dict #[] }).objs.size) (acc:=cloFrom X.env.cells scope.names []) (PySem.mem_of_lookup e)
     obtain⟨c',e'⟩:=mem_lookup hm
     exact⟨c',by rw[hcl];exact e'⟩
    ·obtain⟨c,h1,_⟩:=look e
     exact⟨c,h1⟩
   rcases hy with hy|hy
   ·exact key _ hy (.inl rfl)
   ·exact key _ hy (.inr rfl)
  ·have z:(scope.names.lookup y==some NameKind.cell)=true:=z
   have z:scope.names.lookup y=some .cell:=by simpa using z
   have e:cenv.cells.lookup y=some c:=e
   rw[hcl]at e
   rcases cells_mem (PySem.mem_of_lookup e)with hm|⟨_,h2,_⟩
   ·rcases cloFrom_mem hm with hm|⟨h1,_⟩
    ·cases hm
    ·have q:=ok.uniq _ h1
     rw[z]at q;cases q
   ·rw[Heap.size_push]at h2
    exact Nat.le_of_succ_le h2
  ·show b≠cenv.locals
   rw[hL];exact Nat.ne_of_lt (hfp b hb).2
  ·have e:cenv.cells.lookup y=some c:=e
   rcases mem e with⟨h1,_⟩|⟨h1,_⟩
   ·exact(hfp b hb).1.2.2.2.2.1 y c h1 z
   ·have h2:s.heap.objs.size+1≤b:=by rw[←z];exact h1
    exact absurd (Nat.lt_of_lt_of_le (hfp b hb).2 (Nat.le_of_succ_le h2)) (Nat.lt_irrefl _)
  ·rcases(hfp b hb).1.2.2.2.1 with z|z
   ·exact I.ok.noex b o e z
   ·exact absurd (Nat.lt_of_lt_of_le (Heap.lt_size e) (Nat.le_trans I.ok.bsz z)) (Nat.lt_irrefl _)
  ·rcases List.mem_cons.mp (I.stkSub b z)with z|z
   ·exact(hfp b hb).1.2.1 z
   ·exact(hfp b hb).1.2.2.1 z
 refine⟨okB,rfl,I.bare,Un.kept kp,⟨fun _=>none,?_,fun i y av e1 e2 e3=>?_⟩,fun y c e=>?_,?_,fun y c e=>?_,fun p hp=>?_,I.hok.kept kp,by rw[wipe_length];exact I.len⟩
 ·show Heap.Ns _ cenv.locals _
  rw[hL]
  exact Heap.Ns.keeps (Heap.Ns.new ..) fun b o e=>pushCells_keeps _ _ _ _ e
 ·obtain⟨e2,hne⟩:=wipe_some e2
  have hfr:scope.names.lookup y=some .free∧(cenv.kindOf y=some .cell∨cenv.kindOf y=some .free):=by
   have key:∀k,cenv.scope.names.lookup y=some k→k=.local∨k=.cell∨k=.free→scope.names.lookup y=some .free∧(cenv.kindOf y=some .cell∨cenv.kindOf y=some .free):=fun k hk hk'=>by
    have hk0:=hk
    rw[hsc]at hk
    obtain⟨k',e,r⟩:=lookup_relS hk
    have no:¬(k'=.local∨k'=.cell):=fun hh=>by
     rcases ok.own _ (PySem.mem_of_lookup e) hh with e'|e'
     ·obtain⟨p,hp,hpy⟩:=List.mem_map.mp e'
      have e3:=ok.ix p hp
      have:p.1=y:=hpy
      rw[this]at e3
      exact hne (List.mem_map.mpr ⟨p,hp,nodup_ix hN e3 e1⟩)
     ·exact e' (List.mem_of_getElem? e1)
    rcases r with rfl|⟨rfl,rfl⟩
    ·rcases hk' with rfl|rfl|rfl
     ·exact absurd (.inl rfl) no
     ·exact absurd (.inr rfl) no
     ·exact⟨e,.inr hk0⟩
    ·exact⟨e,.inl hk0⟩
   have e3:Vis cenv.scope y:=e3
   rcases e3 with e3|e3|e3
   ·exact key _ e3 (.inl rfl)
   ·exact key _ e3 (.inr (.inl rfl))
   ·exact key _ e3 (.inr (.inr rfl))
  obtain⟨m,hn,hl⟩:=I.loc
  have hvis:Vis X.env.scope y:=(ok.free _ (PySem.mem_of_lookup hfr.1) rfl).elim (fun k=>.inr (.inl k)) (fun k=>.inr (.inr k))
  obtain⟨w,r,q⟩:=hl i y av e1 e2 hvis
  refine⟨w,r,.inr ⟨hfr.2,?_⟩⟩
  obtain⟨c,h1,h2⟩:=look hfr.1
  rcases q with⟨k,_⟩|⟨_,c',e',z⟩
  ·have k:X.env.scope.names.lookup y=some .local:=k
   rcases ok.free _ (PySem.mem_of_lookup hfr.1) rfl with k'|k'<;>rw[show X.env.scope.names.lookup y=_ from k']at k<;>cases k
  ·rw[h2]at e';cases e'
   exact⟨c,h1,z.keeps kp⟩
 ·have e:cenv.cells.lookup y=some c:=e
  rcases mem e with⟨h1,_⟩|⟨_,z⟩
  ·obtain⟨w,z⟩:=I.cell y c h1
   exact⟨w,z.keeps kp⟩
  ·exact⟨_,z⟩
 ·show H cenv.locals=none
  rw[hL];exact I.hok.fresh (Nat.le_refl _)
 ·have e:cenv.cells.lookup y=some c:=e
  rcases mem e with⟨h1,_⟩|⟨h1,_⟩
  ·exact I.freeC y c h1
  ·exact I.hok.fresh (Nat.le_of_succ_le h1)
 ·exact absurd (show p∈([]:List (Addr×Obj))++[]from hp) (by simp)
theorem app_ok{E:Value→Shared→Prop}{D:Addr}{xs:List V}{y:V}{v:Value}{Q:Value→Shared→Prop}(I:Inv X pins σ H s)(hD:H D=some (.lst xs))(hz:xs.length<sizeLine)(r:RelV y v)
  (h:∀s',Inv X pins σ (upd H D (.lst (xs++[y]))) s'→Q .none s'):wpAny (model X.prog X.w) X.A (call (.builtin "list.append") [.ref D,v]) Q E s:=by
 obtain⟨hz',its,n,ri,e⟩:=I.hok D _ hD
 have hl:=ri.length
 refine append_at (hsz:=by rw[List.size_toArray];omega) e fun h' sb ho'=>?_
 refine h { s with heap:=h' } (I.write (t':=s.toks) (by rw[hD];trivial) (.inl rfl) (fun b u hb q=>(sb.2 b hb).trans q) ⟨_,ho'⟩ ⟨by rw[List.length_append];exact hz,its++[v],n+1,ri.append (.cons r .nil),?_⟩)
 rw[ho']
 simp
noncomputable def PTs(X:Cx)(ifs:List Expr)(t:TT):Prop:=
 ∀(pins:List (Addr×Obj)) (s:Shared) (σ:St) (H:Hp) (Q:Bool→Hp→Prop),Inv X pins σ H s→t σ H Q→
  wpAny (model X.prog X.w) X.A (forIn ifs true fun c r=>if r=true then do let ok ←isTrue c X.env (eval c X.env);pure (ForInStep.yield ok)else pure (ForInStep.yield r)) (TP X pins σ Q) X.xe s
noncomputable def tYes:TT:=fun _ H Q=>Q true H
theorem pts_nil:PTs X [] tYes:=fun _ _ _ H _ I h=>wpAny_tests_nil ⟨H,I,h⟩
theorem pts_one{c:Expr}{t:TT}(h:PT X c t):PTs X [c] t:=fun pins s σ H Q I hw=>wpAny_tests_one (h pins s σ H Q I hw)
end
theorem thnF{α:Type}{t:Sem α}{Q Q':α→Shared→Prop}{M:Model}{A:Around}{E:Value→Shared→Prop}{s:Shared}(h:wpAny M A t Q (fun _ _=>False) s)(hQ:∀a s,Q a s→Q' a s):wpAny M A t Q' E s:=wpAny_mono h hQ fun _ _ z=>False.elim z
theorem compLoop_any{prog:Program}{w:World}{A:Around}{R:Result→Shared→Prop}{s:Shared}{elt target iter:Expr}{ifs:List Expr}{scope:Scope}{pos:Pos}{it acc:Value}{env:Env}(I:Nat→Shared→Prop)
  (turn:∀n s,I n s→wpAny (model prog w) A (pyNext it) (fun r s₁=>match r with
   |none=>R (.ok .next) s₁
   |some v=>wpAny (model prog w) A (letOwnedTupleGo target it v) (fun _ s₁'=>wpAny (model prog w) A (assign target env v) (fun _ s₂=>
     wpAny (model prog w) A (forIn ifs true fun c r=>if r=true then do let ok ←isTrue c env (eval c env);pure (ForInStep.yield ok)else pure (ForInStep.yield r)) (fun ok s₃=>
      if ok=true then wpAny (model prog w) A (eval elt env) (fun x s₄=>
       wpAny (model prog w) A (call (.builtin "list.append") [acc,x]) (fun _ s₅=>∃m,m<n∧I m s₅) (notedBy (model prog w) A env fun e s'=>R (.error e) s') s₄) (notedBy (model prog w) A env fun e s'=>R (.error e) s') s₃
      else ∃m,m<n∧I m s₃) (notedBy (model prog w) A env fun e s'=>R (.error e) s') s₂) (notedBy (model prog w) A env fun e s'=>R (.error e) s') s₁') (notedBy (model prog w) A env fun e s'=>R (.error e) s') s₁) (notedBy (model prog w) A env fun e s'=>R (.error e) s') s)
  (n:Nat) (h:I n s):
  codeAny (model prog w) A (.compLoop (.ListComp elt [⟨target,iter,ifs,0⟩] scope pos) 0 it acc env) R s:=by
 refine codeAny_loop rfl I (fun n s hI=>?_) n h
 show wpAny _ A ((compTurn (.ListComp elt [⟨target,iter,ifs,0⟩] scope pos) 0 it acc env).onRaise (fun x=>do noteFrame x env;theTreesLotGoes x)) _ _ s
 refine wpAny_noted ?_
 rw[compTurn_list]
 refine wpAny_bind (wpAny_standAt (wpAny_bind (wpAny_mono (turn n s hI) (fun r s₁ h₁=>?_) fun _ _ h'=>h')))
 cases r with
 |none=>exact wpAny_pure h₁
 |some v=>
  refine wpAny_bind (wpAny_mono h₁ (fun _ s₁' h₁'=>?_) fun _ _ h'=>h')
  refine wpAny_bind (wpAny_mono h₁' (fun _ s₂ h₂=>wpAny_bind (wpAny_mono h₂ (fun ok s₃ h₃=>?_) fun _ _ h'=>h')) fun _ _ h'=>h')
  cases ok with
  |false=>exact wpAny_pure ⟨rfl,h₃⟩
  |true=>
   exact wpAny_bind (wpAny_bind (wpAny_mono h₃ (fun x s₄ h₄=>wpAny_bind (wpAny_mono h₄ (fun _ s₅ h₅=>wpAny_pure (wpAny_pure ⟨rfl,h₅⟩)) fun _ _ h'=>h')) fun _ _ h'=>h'))
section
variable {X:Cx}
noncomputable def tLc(wi:TI)(g:TG)(tt:TT)(te:TE)(vs:List Nat):TE:=fun σ H Q=>wi σ H fun J H1=>∀D,H1 D=none→∃W:Nat→Nat→Hp→Prop,(∃m,W 0 m (upd H1 D (.lst [])))∧∀i m H,W i m H→
 (J.stop i H∧Q (.ref D) H)∨(J.go i H∧∃Nx:Hp→Prop,(∀H',Nx H'→∃m',m'<m∧W (i+1) m' H')∧∀x H',J.yld i H x H'→g x (wipe σ vs) H' fun σ2 H2=>wipe σ2 vs=wipe σ vs∧tt σ2 H2 fun b H3=>
  if b=true then te σ2 H3 fun y H4=>∃acc,H4 D=some (.lst acc)∧acc.length<sizeLine∧Nx (upd H4 D (.lst (acc++[y])))else Nx H3)
theorem lc_core{pins:List (Addr×Obj)}{s:Shared}{σ:St}{H:Hp}{Q:VK}{elt tg iter:Expr}{ifs:List Expr}{scope:Scope}{own:List (Str×Nat)}{pos pos':Pos}{wi:TI}{g:TG}{tt:TT}{te:TE}{use:Option (Value→Sem Unit)}{Qf:Value→Shared→Prop}
  (hc:X.calm=true) (hN:X.N.Nodup) (I:Inv X pins σ H s) (hi:PI X tg iter wi) (ok:BlkOk X.N X.env.scope scope own)
  (hg:∀(s:Shared) (H:Hp) (C:Addr) (cl:List (Str×Addr)) (fp:List Addr),PG (X.blk s H scope (compEnvC scope cl C X.env) fp) tg g) (ht:∀(s:Shared) (H:Hp) (C:Addr) (cl:List (Str×Addr)) (fp:List Addr),PTs (X.blk s H scope (compEnvC scope cl C X.env) fp) ifs tt)
  (he:∀(s:Shared) (H:Hp) (C:Addr) (cl:List (Str×Addr)) (fp:List Addr),PE (X.blk s H scope (compEnvC scope cl C X.env) fp) elt te) (hs:∀x,foldedSetIterable iter X.env x=pure x)
  (h:tLc wi g tt te (own.map (·.2)) σ H Q)
  (hRR:∀D C s' m H',Inv X pins σ H' s'→Q (.ref D) H'→s'.heap.Ns C m→FpOk X pins H' C→compPost (model X.prog X.w) X.A X.xe use Qf (.ref D) C (.ok .next) s'):
  wpAny (model X.prog X.w) X.A (comprehension (.ListComp elt [⟨tg,iter,ifs,0⟩] scope pos) scope X.env pos' (newList []) false (eval iter X.env) use) Qf X.xe s:=by
 have hfree:∀y∈scope.names,y.2=.free→∃c,X.env.cells.lookup y.1=some c:=fun y hy e=>by
  rcases ok.free y hy e with k|k
  ·exact I.ok.has _ (.inl k)
  ·exact I.ok.has _ (.inr k)
 refine wpAny_comprehension_free (use:=use) rfl hs (closure_ok hfree) ok.kind (fun y hy e=>by rw[ok.uniq y hy,e])
  (thn (hi pins s σ H _ I h) fun xv s1 hx=>thn hx fun itv s2 h2=>?_)
 obtain⟨it,fp,tn,J,H2,e,I2,T,st2,f2,q⟩:=h2
 subst e
 refine wpAny_newObj_type (newEnv_comp ?_) (by show 0≤sizeLine;decide)
 generalize hD:s2.heap.objs.size=D
 have hDn:H2 D=none:=I2.hok.fresh (Nat.le_of_eq hD)
 obtain⟨W,⟨m0,w0⟩,turn⟩:=q D hDn
 generalize hs3:({ s2 with heap:=s2.heap.push { cls:=.type "list",data:=.seq ([]:List Value).toArray } }:Shared)=s3
 have I3:Inv X pins σ (upd H2 D (.lst [])) s3:=by
  rw[←hs3]
  refine I2.laid (t':=s2.toks) (fun b o e=>Heap.get?_push_of_some _ e) (Nat.le_of_eq hD) ⟨Nat.zero_le _,[],0,.nil,?_⟩
  rw[←hD]
  exact Heap.get?_push_size _ rfl
 have h3:s3.heap=s2.heap.push { cls:=.type "list",data:=.seq ([]:List Value).toArray }:=by rw[←hs3]
 have sz:∀b∈fp,b<s2.heap.objs.size:=fun b hb=>by
  obtain⟨o,e,_⟩:=T.obj _ _ st2 b hb
  exact Heap.lt_size e
 have f3:∀b∈fp,FpOk X pins (upd H2 D (.lst [])) b∧b<s3.heap.objs.size:=fun b hb=>by
  have hlt:=sz b hb
  refine⟨⟨?_,(f2 b hb).2⟩,by rw[h3,Heap.size_push];exact Nat.lt_succ_of_lt hlt⟩
  rw[upd_ne (by rw[←hD];exact Nat.ne_of_lt hlt)]
  exact(f2 b hb).1
 have st3:tn 0 s3.heap:=T.keep _ _ _ st2 fun b _ o e=>by rw[h3];exact Heap.get?_push_of_some _ e
 have I4:=block_start I3 ok hN f3
 have pg:=hg s3 (upd H2 D (.lst [])) s3.heap.objs.size (cellsFrom (s3.heap.objs.size+1) scope.names (cloFrom X.env.cells scope.names [])) fp
 have pt:=ht s3 (upd H2 D (.lst [])) s3.heap.objs.size (cellsFrom (s3.heap.objs.size+1) scope.names (cloFrom X.env.cells scope.names [])) fp
 have pe:=he s3 (upd H2 D (.lst [])) s3.heap.objs.size (cellsFrom (s3.heap.objs.size+1) scope.names (cloFrom X.env.cells scope.names [])) fp
 show codeAny _ _ (.compStart (.ListComp elt [⟨tg,iter,ifs,0⟩] scope pos) 0 (.ref it) (.ref D) (compEnvC scope (cellsFrom (s3.heap.objs.size+1) scope.names (cloFrom X.env.cells scope.names [])) s3.heap.objs.size X.env)) (compPost (model X.prog X.w) X.A X.xe use Qf (.ref D) s3.heap.objs.size) { s3 with heap:=pushCells (s3.heap.push { cls:=.type "dict",data:=.dict #[] }) scope.names }
 have nfp:∀b∈fp,(upd H2 D (.lst [])) b=none:=fun b hb=>(f3 b hb).1.1
 generalize hce:compEnvC scope (cellsFrom (s3.heap.objs.size+1) scope.names (cloFrom X.env.cells scope.names [])) s3.heap.objs.size X.env=ce at I4 pg pt pe ⊢
 have cL:ce.locals=s3.heap.objs.size:=by subst hce;rfl
 generalize hH3:upd H2 D (.lst [])=H3 at I3 I4 pg pt pe w0 nfp f3
 generalize hs4:({ s3 with heap:=pushCells (s3.heap.push { cls:=.type "dict",data:=.dict #[] }) scope.names }:Shared)=s4 at I4 ⊢
 have st4:tn 0 s4.heap:=T.keep _ _ _ st3 fun b _ o e=>by rw[←hs4];exact pushCells_keeps _ _ _ _ (Heap.get?_push_of_some _ e)
 have stat:∀{σ':St} {H':Hp} {s':Shared},Inv (X.blk s3 H3 scope ce fp) [] σ' H' s'→(∀b∈fp,H' b=none)→∀b∈fp,FpOk (X.blk s3 H3 scope ce fp) [] H' b:=fun{σ' H' s'} I' hn b hb=>
  ⟨hn b hb,(I'.ok.exf b hb).1,I'.ok.exfs b hb,.inl hb,fun x c e=>(I'.ok.exf b hb).2 x c e,fun p hp=>absurd (show p∈([]:List (Addr×Obj))++[]from hp) (by simp)⟩
 have loop:codeAny (model X.prog X.w) X.A (.compLoop (.ListComp elt [⟨tg,iter,ifs,0⟩] scope pos) 0 (.ref it) (.ref D) ce) (compPost (model X.prog X.w) X.A X.xe use Qf (.ref D) s3.heap.objs.size) s4:=by
  refine compLoop_any (fun n s'=>∃i H',Inv (X.blk s3 H3 scope ce fp) [] (wipe σ (own.map (·.2))) H' s'∧tn i s'.heap∧(∀b∈fp,H' b=none)∧W i n H') ?_ m0 ⟨0,H3,I4,st4,nfp,w0⟩
  rintro n s5 ⟨i,H5,I5,st5,n5,w5⟩
  rcases turn i n H5 w5 with⟨stop,qq⟩|⟨go,Nx,hNx,step⟩
  ·have td:=T.done (X.blk s3 H3 scope ce fp) rfl rfl rfl hc i [] s5 _ H5 (fun _ _=>False) I5 (stat I5 n5) st5 stop
   refine thnF td fun r s6 ⟨hr,I6⟩=>?_
   subst hr
   have I7:Inv X pins σ H5 s6:=I3.call' (ch:=fp) I6.os I6.base I6.hok I6.bare fun b hb=>⟨(f3 b hb).1.2.2.2.1,(f3 b hb).1.2.1,(f3 b hb).1.2.2.2.2.1,(f3 b hb).1.2.2.2.2.2⟩
   have nC:H5 s3.heap.objs.size=none:=by
    have z:H5 ce.locals=none:=I6.free
    rw[cL]at z
    exact z
   obtain⟨m,hn,_⟩:=I6.loc
   have hn:s6.heap.Ns ce.locals m:=hn
   rw[cL]at hn
   exact hRR D s3.heap.objs.size s6 m H5 I7 qq hn (I3.fpOk (Nat.le_refl _) nC)
  ·have ti:=T.item (X.blk s3 H3 scope ce fp) rfl rfl rfl hc i [] s5 _ H5 (fun _ _=>False) I5 (stat I5 n5) st5 go
   refine thnF ti fun r s6 ⟨u,hr,h6⟩=>?_
   subst hr
   refine thnF h6 fun _ s7 ⟨x,H7,I7,r7,y7,st7,n7⟩=>?_
   have I7':=I7.pinned (stat I7 n7) (T.obj _ _ st7)
   refine thnF (pg _ s7 _ H7 x u _ I7' r7 (step x H7 y7)) fun _ s8 ⟨σ8,H8,I8,hw8,q8⟩=>?_
   refine thnF (pt _ s8 σ8 H8 _ I8 q8) fun b s9 ⟨H9,I9,q9⟩=>?_
   have fin:∀{s':Shared} {H':Hp},Inv (X.blk s3 H3 scope ce fp) ([]++pinsAt fp s7.heap) σ8 H' s'→Nx H'→∃m,m<n∧∃i H',Inv (X.blk s3 H3 scope ce fp) [] (wipe σ (own.map (·.2))) H' s'∧tn i s'.heap∧(∀b∈fp,H' b=none)∧W i m H':=fun{s' H'} I' nx=>by
    obtain⟨m',hm,w'⟩:=hNx H' nx
    have pin':∀b∈fp,∀o,s7.heap.get? b=some o→s'.heap.get? b=some o∧H' b=none:=fun b hb o e=>
     let z:=I'.pin (b,o) (List.mem_append_right _ (List.mem_append_right _ (mem_pinsAt hb e)))
     ⟨z.1,z.2.1⟩
    have hl:(wipe σ (own.map (·.2))).length=σ8.length:=by rw[←hw8,wipe_length]
    refine⟨m',hm,i+1,H',(I'.unpinned (pins:=[])).weak hl (fun j v e=>?_),T.keep _ _ _ st7 fun b hb o e=>(pin' b hb o e).1,fun b hb=>?_,w'⟩
    ·rw[←hw8]at e
     exact(wipe_some e).1
    ·obtain⟨o,e,_⟩:=T.obj _ _ st7 b hb
     exact(pin' b hb o e).2
   cases b with
   |false=>
    simp only[Bool.false_eq_true,if_false]at q9 ⊢
    exact fin I9 q9
   |true=>
    simp only[if_true]at q9 ⊢
    refine thnF (pe _ s9 σ8 H9 _ I9 q9) fun z s10 ⟨yv,H10,I10,r10,acc,hD10,hz10,nx⟩=>?_
    exact app_ok (X:=X.blk s3 H3 scope ce fp) I10 hD10 hz10 r10 fun s11 I11=>fin I11 nx
 exact codeAny_compStart_list loop (T.self X.A 0 _ _ _ st4 loop)
theorem pe_lc{elt tg iter:Expr}{ifs:List Expr}{scope:Scope}{own:List (Str×Nat)}{pos:Pos}{wi:TI}{g:TG}{tt:TT}{te:TE}(hc:X.calm=true)(hN:X.N.Nodup)(hi:PI X tg iter wi)(ok:BlkOk X.N X.env.scope scope own)
  (hg:∀(s:Shared) (H:Hp) (C:Addr) (cl:List (Str×Addr)) (fp:List Addr),PG (X.blk s H scope (compEnvC scope cl C X.env) fp) tg g) (ht:∀(s:Shared) (H:Hp) (C:Addr) (cl:List (Str×Addr)) (fp:List Addr),PTs (X.blk s H scope (compEnvC scope cl C X.env) fp) ifs tt)
  (he:∀(s:Shared) (H:Hp) (C:Addr) (cl:List (Str×Addr)) (fp:List Addr),PE (X.blk s H scope (compEnvC scope cl C X.env) fp) elt te) (hs:∀x,foldedSetIterable iter X.env x=pure x:=by intro _;rfl):
  PE X (.ListComp elt [⟨tg,iter,ifs,0⟩] scope pos) (tLc wi g tt te (own.map (·.2))):=by
 intro pins s σ H Q I h
 rw[eval_ListComp]
 refine lc_core hc hN I hi ok hg ht he hs h fun D C s' m H' I' q hn f=>⟨m,hn,fun h'' sb=>?_⟩
 obtain⟨f0,f1,f2,f3,f4,f5⟩:=f
 exact⟨.ref D,H',I'.turned (t':=s'.toks) (fun b o hb e=>(sb.2 b hb).trans e) f0 f1 f3 f4 f5,rfl,q⟩
theorem ps_setLc{i:Nat}{y:Str}{py:Pos}{elt tg iter:Expr}{ifs:List Expr}{scope:Scope}{own:List (Str×Nat)}{pos spos:Pos}{wi:TI}{g:TG}{tt:TT}{te:TE}(hc:X.calm=true)(hN:X.N.Nodup)(hy:X.N[i]?=some y)(hyl:X.env.scope.names.lookup y=some .local)
  (hsw:swapsWith (.ListComp elt [⟨tg,iter,ifs,0⟩] scope pos) (some (.Name y py)) spos.line X.env=pure true) (hi:PI X tg iter wi) (ok:BlkOk X.N X.env.scope scope own)
  (hg:∀(s:Shared) (H:Hp) (C:Addr) (cl:List (Str×Addr)) (fp:List Addr),PG (X.blk s H scope (compEnvC scope cl C X.env) fp) tg g) (ht:∀(s:Shared) (H:Hp) (C:Addr) (cl:List (Str×Addr)) (fp:List Addr),PTs (X.blk s H scope (compEnvC scope cl C X.env) fp) ifs tt)
  (he:∀(s:Shared) (H:Hp) (C:Addr) (cl:List (Str×Addr)) (fp:List Addr),PE (X.blk s H scope (compEnvC scope cl C X.env) fp) elt te) (hs:∀x,foldedSetIterable iter X.env x=pure x:=by intro _;rfl):
  PS X (.Assign [.Name y py] (.ListComp elt [⟨tg,iter,ifs,0⟩] scope pos) spos) (tAsg (tLc wi g tt te (own.map (·.2))) (gName i)):=by
 intro pins s σ H D I h
 rw[exec_Assign_Name_used _ _ _ _ hsw]
 refine wpAny_bind (wpAny_standAt (wpAny_bind ?_))
 show wpAny _ X.A (do let _ ←comprehension (.ListComp elt [⟨tg,iter,ifs,0⟩] scope pos) scope X.env (firstIterPos [⟨tg,iter,ifs,0⟩] pos) (newList []) false (eval iter X.env) (some (assign (.Name y py) X.env))) _ _ s
 have h:tLc wi g tt te (own.map (·.2)) σ H (fun x H1=>gName i x σ H1 D.nx):=h
 refine wpAny_bind (thn (lc_core (Qf:=fun _ s'=>SP X pins D .next s') hc hN I hi ok hg ht he hs h fun L C s' m H' I' q hn f=>?_) fun _ s' hq=>wpAny_pure (wpAny_pure hq))
 show wpAny _ _ (assign (.Name y py) X.env (.ref L)) _ _ _
 refine wpAny_assign_Name (store_ok2 (v:=V.ref L) I' hN hy (.inl hyl) rfl (fun s2 I2 ⟨a,sb,ha⟩=>?_) (.inr hyl))
 obtain⟨f0,f1,f2,f3,f4,f5⟩:=f
 have haC:C≠a:=by
  rcases ha with z|z
  ·rw[z];exact f1
  ·exact fun e=>f4 y a z e.symm
 refine⟨m,hn.sameBut sb haC,fun h3 sb3=>?_⟩
 exact⟨_,H',I2.turned (t':=s2.toks) (fun b o hb e=>(sb3.2 b hb).trans e) f0 f1 f3 f4 f5,q⟩
theorem sw_true{elt:Expr}{gs:List Comprehension}{scope:Scope}{pos py:Pos}{y:Str}{l:Nat}{env:Env}(hk:env.scope.kind=.function)(hy:env.scope.names.lookup y=some .local)(hl:(py.line==pos.line)=true)
  (ha:(scope.names.any fun(n,k)=>n==y&&(k==.local||k==.cell))=false):swapsWith (.ListComp elt gs scope pos) (some (.Name y py)) l env=pure true:=by
 have ky:env.kindOf y=some .local:=hy
 have hb:env.blockKind=.function:=by unfold Env.blockKind;rw[hk];rfl
 unfold swapsWith
 simp only[hb,ky,ha,Expr.pos,hl]
 rfl
end
theorem lc_range{lo:Int}{n:Nat}{g:TG}{tt:TT}{te:TE}{vs:List Nat}{σ:St}{H1:Hp}{D:Addr}{Qd:Hp→Prop}(Pv:Nat→Hp→Prop)(h0:Pv 0 (upd H1 D (.lst [])))
  (hs:∀i H,i<n→Pv i H→g (.int (lo+i)) (wipe σ vs) H fun σ2 H2=>wipe σ2 vs=wipe σ vs∧tt σ2 H2 fun b H3=>
   if b=true then te σ2 H3 fun y H4=>∃acc,H4 D=some (.lst acc)∧acc.length<sizeLine∧Pv (i+1) (upd H4 D (.lst (acc++[y])))else Pv (i+1) H3) (hd:∀H,Pv n H→Qd H):
  ∃W:Nat→Nat→Hp→Prop,(∃m,W 0 m (upd H1 D (.lst [])))∧∀i m H,W i m H→
   ((Itr lo n).stop i H∧Qd H)∨((Itr lo n).go i H∧∃Nx:Hp→Prop,(∀H',Nx H'→∃m',m'<m∧W (i+1) m' H')∧∀x H',(Itr lo n).yld i H x H'→g x (wipe σ vs) H' fun σ2 H2=>wipe σ2 vs=wipe σ vs∧tt σ2 H2 fun b H3=>
    if b=true then te σ2 H3 fun y H4=>∃acc,H4 D=some (.lst acc)∧acc.length<sizeLine∧Nx (upd H4 D (.lst (acc++[y])))else Nx H3):=by
 refine⟨fun i m H=>m=n-i∧i≤n∧Pv i H,⟨n,by simp,Nat.zero_le _,h0⟩,?_⟩
 rintro i m H ⟨rfl,hi,p⟩
 by_cases hlt:i<n
 ·refine .inr ⟨hlt,Pv (i+1),fun H' p'=>⟨n-(i+1),by omega,rfl,hlt,p'⟩,fun x H' y=>?_⟩
  obtain⟨e,y⟩:=y
  subst e y
  exact hs i _ hlt p
 ·have e:i=n:=by omega
  subst e
  exact .inl ⟨Nat.le_refl _,hd H p⟩
theorem lc_list{K:PySem.W.Frag}{a:Addr}{xs:List V}{g:TG}{tt:TT}{te:TE}{vs:List Nat}{σ:St}{H1:Hp}{D:Addr}{Qd:Hp→Prop}(Pv:Nat→Hp→Prop)(h0:Pv 0 (upd H1 D (.lst [])))(hl:∀i H,i≤xs.length→Pv i H→SqL K H a xs)
  (hs:∀i x H,xs[i]?=some x→Pv i H→g x (wipe σ vs) H fun σ2 H2=>wipe σ2 vs=wipe σ vs∧tt σ2 H2 fun b H3=>
   if b=true then te σ2 H3 fun y H4=>∃acc,H4 D=some (.lst acc)∧acc.length<sizeLine∧Pv (i+1) (upd H4 D (.lst (acc++[y])))else Pv (i+1) H3) (hd:∀H,Pv xs.length H→Qd H):
  ∃W:Nat→Nat→Hp→Prop,(∃m,W 0 m (upd H1 D (.lst [])))∧∀i m H,W i m H→
   ((Itl K a).stop i H∧Qd H)∨((Itl K a).go i H∧∃Nx:Hp→Prop,(∀H',Nx H'→∃m',m'<m∧W (i+1) m' H')∧∀x H',(Itl K a).yld i H x H'→g x (wipe σ vs) H' fun σ2 H2=>wipe σ2 vs=wipe σ vs∧tt σ2 H2 fun b H3=>
    if b=true then te σ2 H3 fun y H4=>∃acc,H4 D=some (.lst acc)∧acc.length<sizeLine∧Nx (upd H4 D (.lst (acc++[y])))else Nx H3):=by
 refine⟨fun i m H=>m=xs.length-i∧i≤xs.length∧Pv i H,⟨xs.length,by simp,Nat.zero_le _,h0⟩,?_⟩
 rintro i m H ⟨rfl,hi,p⟩
 have q:=hl i H hi p
 by_cases hlt:i<xs.length
 ·refine .inr ⟨⟨xs,xs[i],q,by simp[hlt]⟩,Pv (i+1),fun H' p'=>⟨xs.length-(i+1),by omega,rfl,hlt,p'⟩,fun x H' y=>?_⟩
  obtain⟨e,y⟩:=y
  subst e
  exact hs i x _ (y xs q) p
 ·have e:i=xs.length:=by omega
  subst e
  exact .inl ⟨⟨xs,q,Nat.le_refl _⟩,hd H p⟩
noncomputable def blkC(N:List Str)(sc scope:Scope)(own:List (Str×Nat)):Bool:=
 (match scope.kind with | .function=>true|_=>false)&&(scope.names.all fun y=>decide (scope.names.lookup y.1=some y.2))&&(own.all fun p=>decide (N[p.2]?=some p.1))&&
  (scope.names.all fun y=>match y.2 with
   | .free=>(match sc.names.lookup y.1 with|some .cell=>true|some .free=>true|_=>false)
   | .local=>decide (y.1∈own.map (·.1))||decide (y.1∉N)
   | .cell=>decide (y.1∈own.map (·.1))||decide (y.1∉N)
   |_=>true)
theorem blkOk_by{N:List Str}{sc scope:Scope}{own:List (Str×Nat)}(h:blkC N sc scope own=true):BlkOk N sc scope own:=by
 unfold blkC at h
 simp only[Bool.and_eq_true,List.all_eq_true,decide_eq_true_eq]at h
 obtain⟨⟨⟨h1,h2⟩,h3⟩,h4⟩:=h
 refine⟨?_,h2,h3,fun y hy e=>?_,fun y hy e=>?_⟩
 ·split at h1
  ·assumption
  ·cases h1
 ·have q:=h4 y hy
  simp only[e]at q
  split at q<;>first|exact .inl (by assumption)|exact .inr (by assumption)|cases q
 ·have q:=h4 y hy
  rcases e with e|e<;>(simp only[e,Bool.or_eq_true,decide_eq_true_eq]at q;exact q)
end L2
namespace L2
open PySem PySem.Spec PyProof.Rows
theorem compTurn2_out(elt t0 i0 t1 i1:Expr)(ifs0 ifs1:List Expr)(scope:Scope)(pos:Pos)(it acc:Value)(env:Env):
  compTurn (.ListComp elt [⟨t0,i0,ifs0,0⟩,⟨t1,i1,ifs1,0⟩] scope pos) 0 it acc env=(do
   standAt i0.pos
   match ←pyNext it with
   |none=>pure (.done .next)
   |some v=>
    letOwnedTupleGo t0 it v
    assign t0 env v
    let mut ok:=true
    for c in ifs0 do
     if ok then ok ←isTrue c env (eval c env)
    if ok then
     let x ←eval i1 env
     standAt i1.pos
     let x ←foldedSetIterable i1 env x
     let _ ←runOwn (.compStart (.ListComp elt [⟨t0,i0,ifs0,0⟩,⟨t1,i1,ifs1,0⟩] scope pos) 1 (←holding [x] (pyIter x)) acc env) env
    again (.compLoop (.ListComp elt [⟨t0,i0,ifs0,0⟩,⟨t1,i1,ifs1,0⟩] scope pos) 0 it acc env)):=by rfl
section
variable {prog:Program}{w:World}{A:Around}{R:Result→Shared→Prop}{s:Shared}{elt t0 i0 t1 i1:Expr}{ifs0 ifs1:List Expr}{scope:Scope}{pos:Pos}{it acc:Value}{env:Env}
theorem compLoop2_out(hs:∀x,foldedSetIterable i1 env x=pure x)(I:Nat→Shared→Prop)
  (turn:∀n s,I n s→wpAny (model prog w) A (pyNext it) (fun r s₁=>match r with
   |none=>R (.ok .next) s₁
   |some v=>wpAny (model prog w) A (letOwnedTupleGo t0 it v) (fun _ s₁'=>wpAny (model prog w) A (assign t0 env v) (fun _ s₂=>
     wpAny (model prog w) A (forIn ifs0 true fun c r=>if r=true then do let ok ←isTrue c env (eval c env);pure (ForInStep.yield ok)else pure (ForInStep.yield r)) (fun ok s₃=>
      if ok=true then wpAny (model prog w) A (eval i1 env) (fun x s₄=>wpAny (model prog w) A (pyIter x) (fun it1 s₅=>
       codeAny (model prog w) A (.compStart (.ListComp elt [⟨t0,i0,ifs0,0⟩,⟨t1,i1,ifs1,0⟩] scope pos) 1 it1 acc env) (fun r s'=>match r with
        | .ok _=>∃m,m<n∧I m s'
        | .error _=>False) s₅) (notedBy (model prog w) A env fun e s'=>R (.error e) s') s₄) (notedBy (model prog w) A env fun e s'=>R (.error e) s') s₃
      else ∃m,m<n∧I m s₃) (notedBy (model prog w) A env fun e s'=>R (.error e) s') s₂) (notedBy (model prog w) A env fun e s'=>R (.error e) s') s₁') (notedBy (model prog w) A env fun e s'=>R (.error e) s') s₁) (notedBy (model prog w) A env fun e s'=>R (.error e) s') s)
  (n:Nat) (h:I n s):
  codeAny (model prog w) A (.compLoop (.ListComp elt [⟨t0,i0,ifs0,0⟩,⟨t1,i1,ifs1,0⟩] scope pos) 0 it acc env) R s:=by
 refine codeAny_loop rfl I (fun n s hI=>?_) n h
 show wpAny _ A ((compTurn (.ListComp elt [⟨t0,i0,ifs0,0⟩,⟨t1,i1,ifs1,0⟩] scope pos) 0 it acc env).onRaise (fun x=>do noteFrame x env;theTreesLotGoes x)) _ _ s
 refine wpAny_noted ?_
 rw[compTurn2_out]
 refine wpAny_bind (wpAny_standAt (wpAny_bind (wpAny_mono (turn n s hI) (fun r s₁ h₁=>?_) fun _ _ h'=>h')))
 cases r with
 |none=>exact wpAny_pure h₁
 |some v=>
  refine wpAny_bind (wpAny_mono h₁ (fun _ s₁' h₁'=>?_) fun _ _ h'=>h')
  refine wpAny_bind (wpAny_mono h₁' (fun _ s₂ h₂=>wpAny_bind (wpAny_mono h₂ (fun ok s₃ h₃=>?_) fun _ _ h'=>h')) fun _ _ h'=>h')
  cases ok with
  |false=>exact wpAny_pure ⟨rfl,h₃⟩
  |true=>
   refine wpAny_bind (wpAny_mono h₃ (fun x s₄ h₄=>?_) fun _ _ h'=>h')
   refine wpAny_bind (wpAny_standAt (wpAny_bind (wpAny_of_eq (hs x) (wpAny_bind (wpAny_holding (wpAny_mono h₄ (fun it1 s₅ h₅=>?_) fun _ _ h'=>h'))))))
   refine wpAny_bind (wpAny_runOwn ?_)
   rw[Around.mark_none]
   refine codeAny_mono h₅ fun r s' hr=>?_
   cases r with
   |ok f=>
    first
     |exact wpAny_pure ⟨rfl,hr⟩
     |exact wpAny_bind (wpAny_pure (wpAny_pure ⟨rfl,hr⟩))
   |error e=>exact hr.elim
end
section
variable {X:Cx}
end
end L2
namespace L2
open PySem PySem.Spec PyProof.Rows
section
variable {κ:Type}[DecidableEq κ]
noncomputable def valV(kvs:List (κ×V))(k:κ):Option V:=(kvs.find? fun kv=>decide (kv.1=k)).map (·.2)
noncomputable def putK(kvs:List (κ×V))(k:κ)(v:V):List (κ×V):=
 if(kvs.any fun kv=>decide (kv.1=k))=true then kvs.map (fun kv=>if kv.1=k then(kv.1,v)else kv)else kvs++[(k,v)]
theorem valV_nil{k:κ}:valV ([]:List (κ×V)) k=none:=rfl
theorem valV_pos{p:κ×V}{r:List (κ×V)}{k:κ}(e:p.1=k):valV (p::r) k=some p.2:=by simp[valV,List.find?_cons,e]
theorem valV_neg{p:κ×V}{r:List (κ×V)}{k:κ}(e:¬p.1=k):valV (p::r) k=valV r k:=by simp[valV,List.find?_cons,e]
theorem valV_any(k:κ):∀kvs:List (κ×V),(kvs.any fun kv=>decide (kv.1=k))=(valV kvs k).isSome
 |[]=>rfl
 |p::r=>by
  rw[List.any_cons]
  by_cases e:p.1=k
  ·simp only[valV_pos e,decide_eq_true e,Bool.true_or,Option.isSome_some]
  ·rw[valV_neg e,decide_eq_false e,Bool.false_or];exact valV_any k r
theorem valV_map(k j:κ)(y:V):∀kvs:List (κ×V),valV (kvs.map fun kv=>if kv.1=k then(kv.1,y)else kv) j=(valV kvs j).map fun x=>if j=k then y else x
 |[]=>rfl
 |p::r=>by
  have ih:=valV_map k j y r
  rw[List.map_cons]
  by_cases h:p.1=k
  ·rw[if_pos h]
   by_cases e:p.1=j
   ·rw[valV_pos (p:=(p.1,y)) e,valV_pos e,Option.map_some,if_pos (e.symm.trans h)]
   ·rw[valV_neg (p:=(p.1,y)) e,valV_neg e,ih]
  ·rw[if_neg h]
   by_cases e:p.1=j
   ·rw[valV_pos (p:=p) e,valV_pos e,Option.map_some,if_neg (fun z=>h (e.trans z))]
   ·rw[valV_neg (p:=p) e,valV_neg e,ih]
theorem valV_snoc(k j:κ)(y:V):∀kvs:List (κ×V),valV kvs k=none→valV (kvs++[(k,y)]) j=if j=k then some y else valV kvs j
 |[],_=>by
  by_cases e:k=j
  ·rw[if_pos e.symm];exact valV_pos (p:=(k,y)) e
  ·rw[if_neg (fun z=>e z.symm)];exact valV_neg (p:=(k,y)) e
 |p::r,hn=>by
  rw[List.cons_append]
  have hk:¬p.1=k:=fun z=>by rw[valV_pos z]at hn;cases hn
  rw[valV_neg hk]at hn
  have ih:=valV_snoc k j y r hn
  by_cases e:p.1=j
  ·rw[valV_pos e,valV_pos e,if_neg (fun z=>hk (e.trans z))]
  ·rw[valV_neg e,valV_neg e,ih]
theorem valV_put(kvs:List (κ×V))(k j:κ)(y:V):valV (putK kvs k y) j=if j=k then some y else valV kvs j:=by
 unfold putK
 by_cases a:(kvs.any fun kv=>decide (kv.1=k))=true
 ·rw[if_pos a,valV_map]
  rw[valV_any]at a
  by_cases e:j=k
  ·obtain⟨x,hx⟩:=Option.isSome_iff_exists.mp a
   rw[if_pos e,e,hx,Option.map_some,if_pos rfl]
  ·rw[if_neg e]
   cases valV kvs j with
   |none=>rfl
   |some x=>rw[Option.map_some,if_neg e]
 ·rw[if_neg a]
  refine valV_snoc k j y kvs ?_
  rw[valV_any]at a
  cases q:valV kvs k with
  |none=>rfl
  |some x=>rw[q]at a;exact(a rfl).elim
theorem length_putK(kvs:List (κ×V))(k:κ)(v:V):(putK kvs k v).length≤kvs.length+1:=by
 unfold putK
 split
 ·rw[List.length_map];omega
 ·rw[List.length_append,List.length_cons,List.length_nil];omega
theorem RelO.isSome_eq{o:Option V}{u:Option Value}(r:RelO o u):o.isSome=u.isSome:=by
 cases o with
 |none=>cases u with
  |none=>rfl
  |some _=>exact(show False from r).elim
 |some _=>cases u with
  |none=>exact(show False from r).elim
  |some _=>rfl
theorem RelO.getD{o:Option V}{u:Option Value}{d:V}{d':Value}(r:RelO o u)(rd:RelV d d'):RelV (o.getD d) (u.getD d'):=by
 cases o with
 |none=>cases u with
  |none=>exact rd
  |some _=>exact(show False from r).elim
 |some _=>cases u with
  |none=>exact(show False from r).elim
  |some _=>exact r
theorem KV.val{kvs:List (κ×V)}{vs:List (κ×Value)}(r:KV kvs vs)(k:κ):RelO (valV kvs k) (valueAt vs k):=by
 unfold KV at r
 induction r with
 |nil=>exact True.intro
 |@cons p q ps qs h t ih=>
  obtain⟨h1,h2⟩:=h
  by_cases e:p.1=k
  ·have e':q.1=k:=h1.symm.trans e
   have b:valueAt (q::qs) k=some q.2:=by simp[valueAt,List.find?_cons,e']
   rw[valV_pos e,b];exact h2
  ·have e':¬q.1=k:=fun z=>e (h1.trans z)
   have b:valueAt (q::qs) k=valueAt qs k:=by simp[valueAt,List.find?_cons,e']
   rw[valV_neg e,b];exact ih
theorem KV.any{kvs:List (κ×V)}{vs:List (κ×Value)}(r:KV kvs vs)(k:κ):(kvs.any fun kv=>decide (kv.1=k))=vs.any fun kv=>decide (kv.1=k):=by
 unfold KV at r
 induction r with
 |nil=>rfl
 |cons h t ih=>rw[List.any_cons,List.any_cons,ih,h.1]
theorem KV.repl{kvs:List (κ×V)}{vs:List (κ×Value)}(r:KV kvs vs)(k:κ){y:V}{u:Value}(ry:RelV y u):
  KV (kvs.map fun kv=>if kv.1=k then(kv.1,y)else kv) (vs.map fun kv=>if kv.1=k then(kv.1,u)else kv):=by
 unfold KV at r ⊢
 induction r with
 |nil=>exact .nil
 |@cons p q ps qs h t ih=>
  rw[List.map_cons,List.map_cons]
  refine .cons ?_ ih
  obtain⟨h1,h2⟩:=h
  by_cases e:p.1=k
  ·rw[if_pos e,if_pos (h1.symm.trans e)];exact⟨h1,ry⟩
  ·rw[if_neg e,if_neg (fun z=>e (h1.trans z))];exact⟨h1,h2⟩
theorem KV.put{kvs:List (κ×V)}{vs:List (κ×Value)}(r:KV kvs vs)(k:κ){y:V}{u:Value}(ry:RelV y u):KV (putK kvs k y) (stored vs k u):=by
 unfold putK stored
 rw[r.any k]
 by_cases e:(vs.any fun kv=>decide (kv.1=k))=true
 ·rw[if_pos e,if_pos e];exact r.repl k ry
 ·rw[if_neg e,if_neg e];exact Paired.snoc r ⟨rfl,ry⟩
theorem KV.length{kvs:List (κ×V)}{vs:List (κ×Value)}(r:KV kvs vs):kvs.length=vs.length:=Paired.length r
end
theorem kV_is{P:Program}{w:World}{k:Key}{u:Value}(r:RelV (kV k) u):(mixKind P w).is k u=true:=by
 cases k with
 |inl i=>obtain⟨t,e⟩:=(show ∃t,u=Value.int i t from r);subst e;exact mixKind_int P w i t
 |inr x=>obtain⟨t,e⟩:=(show ∃t,u=Value.str x t from r);subst e;exact mixKind_str P w x t
theorem items_are{P:Program}{w:World}:∀{ks:List Key} {us:List Value},Vals (ks.map kV) us→ItemsAre (mixKind P w) ks us
 |[],_,r=>by rw[List.map_nil]at r;cases r;exact .nil
 |k::ks,_,r=>by
  rw[List.map_cons]at r
  cases r with
  |cons h t=>exact .cons (kV_is h) (items_are t)
noncomputable abbrev KT(H:Hp):List (List Key×V)→List (List Key×Addr×Value)→Prop:=Paired fun p q=>p.1=q.1∧H q.2.1=some (.tup (p.1.map kV))∧RelV p.2 q.2.2
theorem KT.val{H:Hp}{kvs:List (List Key×V)}{xs:List (List Key×Addr×Value)}(r:KT H kvs xs)(k:List Key):RelO (valV kvs k) ((atKey xs k).map (·.2)):=by
 induction r with
 |nil=>exact True.intro
 |@cons p q ps qs h t ih=>
  obtain⟨h1,_,h2⟩:=h
  by_cases e:p.1=k
  ·have e':q.1=k:=h1.symm.trans e
   have b:atKey (q::qs) k=some q.2:=by simp[atKey,List.find?_cons,e']
   rw[valV_pos e,b];exact h2
  ·have e':¬q.1=k:=fun z=>e (h1.trans z)
   have b:atKey (q::qs) k=atKey qs k:=by simp[atKey,List.find?_cons,e']
   rw[valV_neg e,b];exact ih
theorem KT.repl{H:Hp}{kvs:List (List Key×V)}{xs:List (List Key×Addr×Value)}(r:KT H kvs xs)(k:List Key){y:V}{u:Value}(ry:RelV y u):
  KT H (kvs.map fun kv=>if kv.1=k then(kv.1,y)else kv) (xs.map (putAt k u)):=by
 induction r with
 |nil=>exact .nil
 |@cons p q ps qs h t ih=>
  rw[List.map_cons,List.map_cons]
  refine .cons ?_ ih
  obtain⟨h1,h2,h3⟩:=h
  unfold putAt
  by_cases e:p.1=k
  ·rw[if_pos e,if_pos (h1.symm.trans e)];exact⟨h1,h2,ry⟩
  ·rw[if_neg e,if_neg (fun z=>e (h1.trans z))];exact⟨h1,h2,h3⟩
theorem KT.put{H:Hp}{kvs:List (List Key×V)}{xs:List (List Key×Addr×Value)}(r:KT H kvs xs)(k:List Key){b:Addr}{y:V}{u:Value}(hb:H b=some (.tup (k.map kV)))(ry:RelV y u):
  KT H (putK kvs k y) (storedH xs k b u):=by
 have e:(kvs.any fun kv=>decide (kv.1=k))=(atKey xs k).isSome:=by
  rw[valV_any,(r.val k).isSome_eq,Option.isSome_map]
 unfold putK storedH
 rw[e]
 by_cases q:(atKey xs k).isSome=true
 ·rw[if_pos q,if_pos q];exact r.repl k ry
 ·rw[if_neg q,if_neg q];exact Paired.snoc r ⟨rfl,hb,ry⟩
theorem KT.keeps{H H':Hp}{kvs:List (List Key×V)}{xs:List (List Key×Addr×Value)}(r:KT H kvs xs)(ht:∀b ys,H b=some (.tup ys)→H' b=some (.tup ys)):KT H' kvs xs:=
 Paired.mapP r fun _ _ z=>⟨z.1,ht _ _ z.2.1,z.2.2⟩
section
variable {P:Program}{w:World}{H:Hp}{h:Heap}{a:Addr}
theorem rd_of{u:HO}(ok:HOk P w H h)(e:Rd H a u):ObjOk P w H h a u:=e.ok ok
theorem dk_rd{kvs:List (Key×V)}(ok:HOk P w H h)(e:Rd H a (.dK kvs)):kvs.length≤sizeLine∧(a==sysModules)=false∧∃vs,KV kvs vs∧h.DictOf (mixKind P w) a vs:=
 show ObjOk P w H h a (.dK kvs)from rd_of ok e
theorem dk_of{kvs:List (Key×V)}(ok:HOk P w H h)(e:H a=some (.dK kvs)):kvs.length≤sizeLine∧(a==sysModules)=false∧∃vs,KV kvs vs∧h.DictOf (mixKind P w) a vs:=dk_rd ok (.inl e)
theorem key_of{ks:List Key}(ok:HOk P w H h)(e:H a=some (.tup (ks.map kV))):(tupleKind (mixKind P w)).is h ks a:=by
 obtain⟨_,its,r,o,h1,h2,n,h3⟩:=(show ObjOk P w H h a (.tup (ks.map kV))from ok a _ e)
 exact⟨o,its.toArray,n,h1,h2,h3,by simpa using items_are r⟩
theorem dt_rd{kvs:List (List Key×V)}(ok:HOk P w H h)(e:Rd H a (.dT kvs)):kvs.length≤sizeLine∧(a==sysModules)=false∧
  ∃xs,KT H kvs xs∧h.DictOfH (tupleKind (mixKind P w)) a xs:=by
 obtain⟨z,y,xs,r,o,es,ep,h1,h2,h3,h4,h5⟩:=(show ObjOk P w H h a (.dT kvs)from rd_of ok e)
 refine⟨z,y,xs,r,o,es,ep,h1,h2,h3,h4,fun x hx=>?_,h5⟩
 have all:∀{l:List (List Key×V)} {m:List (List Key×Addr×Value)},KT H l m→∀x∈m,(tupleKind (mixKind P w)).is h x.1 x.2.1:=by
  intro l m q
  induction q with
  |nil=>intro x hx;exact nomatch hx
  |@cons p q ps qs hq t ih=>
   intro x hx
   rcases List.mem_cons.mp hx with e|hx
   ·subst e
    exact key_of ok (by rw[←hq.1];exact hq.2.1)
   ·exact ih x hx
 exact all r x hx
theorem dt_of{kvs:List (List Key×V)}(ok:HOk P w H h)(e:H a=some (.dT kvs)):kvs.length≤sizeLine∧(a==sysModules)=false∧
  ∃xs,KT H kvs xs∧h.DictOfH (tupleKind (mixKind P w)) a xs:=dt_rd ok (.inl e)
end
noncomputable def DGet(H:Hp)(a:Addr)(y:V)(r:Option V):Prop:=
 (∃kvs k,Rd H a (.dK kvs)∧y=kV k∧r=valV kvs k)∨∃kvs k b,Rd H a (.dT kvs)∧y=.ref b∧H b=some (.tup (k.map kV))∧r=valV kvs k
noncomputable def DPut(H:Hp)(a:Addr)(y v:V)(H':Hp):Prop:=
 (∃kvs k,H a=some (.dK kvs)∧y=kV k∧kvs.length<sizeLine∧H'=upd H a (.dK (putK kvs k v)))∨
 ∃kvs k b,H a=some (.dT kvs)∧y=.ref b∧H b=some (.tup (k.map kV))∧kvs.length<sizeLine∧H'=upd H a (.dT (putK kvs k v))
theorem DGet.k{H:Hp}{a:Addr}{kvs:List (Key×V)}{k:Key}(e:H a=some (.dK kvs)):DGet H a (kV k) (valV kvs k):=.inl ⟨kvs,k,.inl e,rfl,rfl⟩
theorem DGet.t{H:Hp}{a b:Addr}{kvs:List (List Key×V)}{k:List Key}(e:H a=some (.dT kvs))(eb:H b=some (.tup (k.map kV))):DGet H a (.ref b) (valV kvs k):=.inr ⟨kvs,k,b,.inl e,rfl,eb,rfl⟩
theorem DPut.k{H:Hp}{a:Addr}{kvs:List (Key×V)}{k:Key}{v:V}(e:H a=some (.dK kvs))(hl:kvs.length<sizeLine):DPut H a (kV k) v (upd H a (.dK (putK kvs k v))):=.inl ⟨kvs,k,e,rfl,hl,rfl⟩
theorem DPut.t{H:Hp}{a b:Addr}{kvs:List (List Key×V)}{k:List Key}{v:V}(e:H a=some (.dT kvs))(eb:H b=some (.tup (k.map kV)))(hl:kvs.length<sizeLine):
  DPut H a (.ref b) v (upd H a (.dT (putK kvs k v))):=.inr ⟨kvs,k,b,e,rfl,eb,hl,rfl⟩
section
variable {X:Cx}{pins:List (Addr×Obj)}{σ:St}{H:Hp}{s:Shared}{a:Addr}{y v:V}{u r:Value}{o:Option V}{A:Around}{E:Value→Shared→Prop}
theorem Inv.big(I:Inv X pins σ H s):sysModules<s.heap.objs.size:=by
 have h:mainGlobals<s.heap.objs.size:=(I.mod.glob.keeps I.bk).lt
 exact Nat.lt_trans (by decide) h
theorem d_getItem{Q:Value→Shared→Prop}(hu:A.units+1<cLine)(I:Inv X pins σ H s)(g:DGet H a y (some v))(ry:RelV y u)(h:∀w' s',Inv X pins σ H s'→RelV v w'→Q w' s'):
  wpAny (model X.prog X.w) A (getItem (.ref a) u) Q E s:=by
 rcases g with⟨kvs,k,e,ey,l⟩|⟨kvs,k,b,e,ey,eb,l⟩
 ·subst ey
  obtain⟨z,hd,vs,rel,dd⟩:=dk_rd I.hok e
  obtain⟨w',hw,rw'⟩:=RelO.some_of (v:=v) (o:=valueAt vs k) (by rw[l];exact rel.val k)
  exact wpAny_getItem_of (kV_is ry) dd.mapOf hw (h w' _ (I.tok _) rw')
 ·subst ey
  cases (show u=Value.ref b from ry)
  obtain⟨z,hd,xs,rel,dd⟩:=dt_rd I.hok e
  obtain⟨w',hw,rw'⟩:=RelO.some_of (v:=v) (o:=(atKey xs k).map (·.2)) (by rw[l];exact rel.val k)
  obtain⟨p,hp,hp2⟩:=Option.map_eq_some_iff.mp hw
  refine wpAny_getItem_heap (tupleKind_room_in1 hu) (key_of I.hok eb) dd hp ?_
  rw[hp2]
  exact h w' _ (I.tok _) rw'
theorem d_in{Q:Value→Shared→Prop}(hu:A.units+1<cLine)(I:Inv X pins σ H s)(g:DGet H a y o)(ry:RelV y u)(h:∀s',Inv X pins σ H s'→Q (.bool o.isSome) s'):
  wpAny (model X.prog X.w) A (compareOp .In u (.ref a)) Q E s:=by
 rcases g with⟨kvs,k,e,ey,l⟩|⟨kvs,k,b,e,ey,eb,l⟩
 ·subst ey
  obtain⟨z,hd,vs,rel,dd⟩:=dk_rd I.hok e
  refine wpAny_in_of (kV_is ry) hd dd.mapOf ?_
  rw[←(rel.val k).isSome_eq,←l]
  exact h _ (I.tok _)
 ·subst ey
  cases (show u=Value.ref b from ry)
  obtain⟨z,hd,xs,rel,dd⟩:=dt_rd I.hok e
  refine wpAny_in_heap (tupleKind_room_in1 hu) (key_of I.hok eb) hd dd ?_
  have q:=(rel.val k).isSome_eq
  rw[Option.isSome_map]at q
  rw[←q,←l]
  exact h _ (I.tok _)
theorem d_notIn{Q:Value→Shared→Prop}(hu:A.units+1<cLine)(I:Inv X pins σ H s)(g:DGet H a y o)(ry:RelV y u)(h:∀s',Inv X pins σ H s'→Q (.bool (!o.isSome)) s'):
  wpAny (model X.prog X.w) A (compareOp .NotIn u (.ref a)) Q E s:=by
 rcases g with⟨kvs,k,e,ey,l⟩|⟨kvs,k,b,e,ey,eb,l⟩
 ·subst ey
  obtain⟨z,hd,vs,rel,dd⟩:=dk_rd I.hok e
  refine wpAny_notIn_of (kV_is ry) hd dd.mapOf ?_
  rw[←(rel.val k).isSome_eq,←l]
  exact h _ (I.tok _)
 ·subst ey
  cases (show u=Value.ref b from ry)
  obtain⟨z,hd,xs,rel,dd⟩:=dt_rd I.hok e
  refine wpAny_notIn_heap (tupleKind_room_in1 hu) (key_of I.hok eb) hd dd ?_
  have q:=(rel.val k).isSome_eq
  rw[Option.isSome_map]at q
  rw[←q,←l]
  exact h _ (I.tok _)
theorem d_write{h':Heap}{t':Nat}{ob:HO}(I:Inv X pins σ H s)(mu:Mut (H a))(hs:Heap.SameBut a s.heap h')(he:∃q,h'.get? a=some q)(new:ObjOk X.prog X.w (upd H a ob) h' a ob):
  Inv X pins σ (upd H a ob) { s with heap:=h',toks:=t' }:=
 I.write (x:=a) (e:=a) mu (.inl rfl) (fun b q hb z=>(hs.2 b hb).trans z) he new
theorem dk_new{P:Program}{w:World}{H':Hp}{h':Heap}{kvs:List (Key×V)}{vs:List (Key×Value)}(z:kvs.length≤sizeLine)(hd:(a==sysModules)=false)(rel:KV kvs vs)(dd:h'.DictOf (mixKind P w) a vs):
  ObjOk P w H' h' a (.dK kvs):=⟨z,hd,vs,rel,dd⟩
theorem d_setItem{H':Hp}{Q:Unit→Shared→Prop}(hu:A.units+1<cLine)(I:Inv X pins σ H s)(g:DPut H a y v H')(ry:RelV y u)(rv:RelV v r)(h:∀s',Inv X pins σ H' s'→Q () s'):
  wpAny (model X.prog X.w) A (setItem (.ref a) u r) Q E s:=by
 rcases g with⟨kvs,k,e,ey,l,eH⟩|⟨kvs,k,b,e,ey,eb,l,eH⟩
 ·subst ey eH
  obtain⟨z,hd,vs,rel,dd⟩:=dk_of I.hok e
  have hz:vs.length≤sizeLine:=by rw[←rel.length];exact z
  have hl:(putK kvs k v).length≤sizeLine:=by have:=length_putK kvs k v;omega
  refine wpAny_setItem_pairs (hsz:=hz) (kV_is ry) dd fun h' dd' hs=>h _ ?_
  have he:∃q,h'.get? a=some q:=let⟨q,_,_,hq,_⟩:=dd';⟨q,hq⟩
  exact d_write I (by rw[e];exact True.intro) hs he (dk_new hl hd (rel.put k rv) dd')
 ·subst ey eH
  cases (show u=Value.ref b from ry)
  obtain⟨z,hd,xs,rel,dd⟩:=dt_of I.hok e
  have hz:xs.length≤sizeLine:=by rw[←Paired.length rel];exact z
  have hl:(putK kvs k v).length≤sizeLine:=by have:=length_putK kvs k v;omega
  refine wpAny_setItem_heap (hsz:=hz) (tupleKind_room_in1 hu) (key_of I.hok eb) dd fun h' dd' hs=>h _ ?_
  obtain⟨q,es,ep,hq,h2,h3,h4,_,h5⟩:=dd'
  refine d_write I (by rw[e];exact True.intro) hs ⟨q,hq⟩ ⟨hl,hd,_,(rel.put k eb rv).keeps fun c ys ec=>?_,q,es,ep,hq,h2,h3,h4,h5⟩
  rw[upd_ne (ne_of ec e (fun z=>nomatch z))]
  exact ec
end
section
variable {X:Cx}{pins:List (Addr×Obj)}{σ:St}{H:Hp}{s:Shared}{a:Addr}{kvs:List (Key×V)}{k:Key}{u:Value}{A:Around}{E:Value→Shared→Prop}
end
noncomputable def NoSl(i:Expr):Prop:=∀ov iv,subscripted i false ov iv=operate [ov,iv] (getItem ov iv)
theorem subD_of{prog:Program}{w:World}{A:Around}{E:Value→Shared→Prop}{s:Shared}{env:Env}{value slice:Expr}{pos:Pos}{T id:String}{Q:Value→Shared→Prop}
  (hl:typeLookup (.type T) "__getitem__" = pure (some (.builtin id))) (hs:NoSl slice)
  (h:wpAny (model prog w) A (eval value env) (fun o s₁=>wpAny (model prog w) A (eval slice env) (fun i s₂=>s₂.TypeIs o T∧wpAny (model prog w) A (getItem o i) Q E s₂) E s₁) E s):
  wpAny (model prog w) A (eval (.Subscript value slice pos) env) Q E s:=by
 refine Subscript_ (wpAny_mono h (fun o s₁ h₁=>wpAny_mono h₁ (fun i s₂ h₂=>?_) fun _ _ x=>x) fun _ _ x=>x)
 obtain⟨hT,h₂⟩:=h₂
 unfold subscriptTail
 refine wpAny_bind ?_
 rw[getitemInPython_of_ne hT.not_modules]
 refine wpAny_bind (wpAny_specialOf hT hl ?_)
 have fin:wpAny (model prog w) A (subscripted slice false o i) (fun r s₃=>wpAny (model prog w) A (letTemporaryGo value o r >>= fun _=>pure r) Q E s₃) E s₂:=by
  rw[hs o i]
  exact wpAny_operating (wpAny_mono h₂ (fun r s₃ h₃=>wpAny_bind (wpAny_letTemporaryGo (wpAny_pure h₃))) fun _ _ x=>x)
 first
  |exact wpAny_pure (wpAny_bind fin)
  |exact wpAny_bind (wpAny_pure (wpAny_bind fin))
  |exact wpAny_bind fin
theorem dict_typeIs{X:Cx}{pins:List (Addr×Obj)}{σ:St}{H:Hp}{s:Shared}{a:Addr}{y:V}{o:Option V}(I:Inv X pins σ H s)(g:DGet H a y o):s.TypeIs (.ref a) "dict":=by
 rcases g with⟨kvs,k,e,_,_⟩|⟨kvs,k,b,e,_,_,_⟩
 ·obtain⟨_,_,vs,_,dd⟩:=dk_rd I.hok e
  exact dd.typeIs
 ·obtain⟨_,_,xs,_,dd⟩:=dt_rd I.hok e
  exact dd.typeIs
noncomputable def tDGet(td ty:TE):TE:=fun σ H Q=>td σ H fun x H1=>ty σ H1 fun y H2=>∃a v,x=.ref a∧DGet H2 a y (some v)∧Q v H2
noncomputable def tDIn(ty td:TE):TE:=fun σ H Q=>ty σ H fun y H1=>td σ H1 fun x H2=>∃a o,x=.ref a∧DGet H2 a y o∧Q (.bl o.isSome) H2
noncomputable def tDNotIn(ty td:TE):TE:=fun σ H Q=>ty σ H fun y H1=>td σ H1 fun x H2=>∃a o,x=.ref a∧DGet H2 a y o∧Q (.bl (!o.isSome)) H2
noncomputable def sDPut(td ty tv:TE):TS:=fun D σ H=>tv σ H fun v H1=>td σ H1 fun x H2=>ty σ H2 fun y H3=>∃a H4,x=.ref a∧DPut H3 a y v H4∧D.nx σ H4
section
variable {X:Cx}{o i e value:Expr}{pos pos' tpos:Pos}{td ty tv:TE}
theorem pe_dget(hu:X.A.units+1<cLine)(ho:PE X o td)(hi:PE X i ty)(hs:NoSl i):PE X (.Subscript o i pos) (tDGet td ty):=by
 intro pins s σ H Q I h
 refine subD_of PySem.F.slot_dict_getitem.lookup hs (thn (ho pins s σ H _ I h) fun u s1 ⟨x,H1,I1,rx,q1⟩=>thn (hi pins s1 σ H1 _ I1 q1) fun iv s2 ⟨y,H2,I2,ry,a,v,ex,g,q2⟩=>?_)
 subst ex
 obtain rfl:u=Value.ref a:=rx
 exact⟨dict_typeIs I2 g,d_getItem hu I2 g ry fun w' s3 I3 rw'=>⟨v,H2,I3,rw',q2⟩⟩
theorem pc_din(hu:X.A.units+1<cLine)(hi:PE X i ty)(ho:PE X o td):PC X .In i o (tDIn ty td):=by
 intro pins s σ H Q I h
 refine thn (hi pins s σ H _ I h) fun iv s1 ⟨y,H1,I1,ry,q1⟩=>thn (ho pins s1 σ H1 _ I1 q1) fun u s2 ⟨x,H2,I2,rx,a,ov,ex,g,q2⟩=>?_
 subst ex
 obtain rfl:u=Value.ref a:=rx
 exact d_in hu I2 g ry fun s3 I3=>⟨.bl ov.isSome,H2,I3,rfl,q2⟩
theorem pc_dnotin(hu:X.A.units+1<cLine)(hi:PE X i ty)(ho:PE X o td):PC X .NotIn i o (tDNotIn ty td):=by
 intro pins s σ H Q I h
 refine thn (hi pins s σ H _ I h) fun iv s1 ⟨y,H1,I1,ry,q1⟩=>thn (ho pins s1 σ H1 _ I1 q1) fun u s2 ⟨x,H2,I2,rx,a,ov,ex,g,q2⟩=>?_
 subst ex
 obtain rfl:u=Value.ref a:=rx
 exact d_notIn hu I2 g ry fun s3 I3=>⟨.bl (!ov.isSome),H2,I3,rfl,q2⟩
theorem ps_dput(hu:X.A.units+1<cLine)(ho:PE X o td)(hi:PE X i ty)(hv:PE X value tv)(hs:swapsWith value (some (.Subscript o i pos')) pos.line X.env=pure false):
  PS X (.Assign [.Subscript o i pos'] value pos) (sDPut td ty tv):=by
 intro pins s σ H D I h
 refine wpAny_Assign_Subscript (thn (hv pins s σ H _ I h) fun r s1 ⟨v,H1,I1,rv,q1⟩=>thn (ho pins s1 σ H1 _ I1 q1) fun u s2 ⟨x,H2,I2,rx,q2⟩=>thn (hi pins s2 σ H2 _ I2 q2) fun iv s3 ⟨y,H3,I3,ry,a,H4,ex,g,q3⟩=>?_) hs
 subst ex
 obtain rfl:u=Value.ref a:=rx
 exact d_setItem hu I3 g ry rv fun s4 I4=>⟨σ,H4,I4,q3⟩
end
theorem dk_empty{P:Program}{w:World}{H:Hp}(h:Heap)(hb:sysModules<h.objs.size):ObjOk P w H (h.push { cls:=.type "dict",data:=.dict #[] }) h.objs.size (.dK []):=
 ⟨Nat.zero_le _,beq_eq_false_iff_ne.mpr (Ne.symm (Nat.ne_of_lt hb)),[],.nil,Heap.DictOf.new h⟩
theorem dt_empty{P:Program}{w:World}{H:Hp}(h:Heap)(hb:sysModules<h.objs.size):ObjOk P w H (h.push { cls:=.type "dict",data:=.dict #[] }) h.objs.size (.dT []):=
 ⟨Nat.zero_le _,beq_eq_false_iff_ne.mpr (Ne.symm (Nat.ne_of_lt hb)),[],.nil,_,#[],0,Heap.get?_push_size _ rfl,⟨rfl,rfl,rfl⟩,rfl,rfl,List.nodup_nil⟩
noncomputable def tDNewK:TE:=fun _ H Q=>∀p,H p=none→Q (.ref p) (upd H p (.dK []))
noncomputable def tDNewT:TE:=fun _ H Q=>∀p,H p=none→Q (.ref p) (upd H p (.dT []))
section
variable {X:Cx}{pos:Pos}
theorem pe_dnewK:PE X (.Dict [] [] pos) tDNewK:=fun pins s σ H Q I h=>
 wpAny_Dict_empty ⟨.ref s.heap.objs.size,_,I.laid (a:=s.heap.objs.size) (o:=.dK []) (t':=s.toks) (fun _ _ q=>Heap.get?_push_of_some _ q) (Nat.le_refl _) (dk_empty s.heap I.big),rfl,h _ (I.hok.fresh (Nat.le_refl _))⟩
theorem pe_dnewT:PE X (.Dict [] [] pos) tDNewT:=fun pins s σ H Q I h=>
 wpAny_Dict_empty ⟨.ref s.heap.objs.size,_,I.laid (a:=s.heap.objs.size) (o:=.dT []) (t':=s.toks) (fun _ _ q=>Heap.get?_push_of_some _ q) (Nat.le_refl _) (dt_empty s.heap I.big),rfl,h _ (I.hok.fresh (Nat.le_refl _))⟩
end
structure M1(X:Cx)(o:Expr)(m:Str)(apos:Pos)(e:Expr)(cpos:Pos):Prop where
 base:attributeBase o m X.env (eval o X.env)=eval o X.env
 few:((backTo cpos (starEach [e] X.env)).all (fun x=>!x.1)&&(backToKw cpos (keywordEach [] X.env)).all (fun x=>x.1.isSome)
  &&decide (([e]:List Expr).length+([]:List Keyword).length+(if([]:List Keyword).isEmpty then 0 else 1)<30))=true
 line:(apos.endLine==cpos.line)=true
 trees:backTo cpos (starEach [e] X.env)=[(false,eval e X.env)]
structure M2(X:Cx)(o:Expr)(m:Str)(apos:Pos)(e f:Expr)(cpos:Pos):Prop where
 base:attributeBase o m X.env (eval o X.env)=eval o X.env
 few:((backTo cpos (starEach [e,f] X.env)).all (fun x=>!x.1)&&(backToKw cpos (keywordEach [] X.env)).all (fun x=>x.1.isSome)
  &&decide (([e,f]:List Expr).length+([]:List Keyword).length+(if([]:List Keyword).isEmpty then 0 else 1)<30))=true
 line:(apos.endLine==cpos.line)=true
 trees:backTo cpos (starEach [e,f] X.env)=[(false,eval e X.env),(false,eval f X.env)]
noncomputable def IsD(H:Hp)(a:Addr):Prop:=(∃kvs,Rd H a (.dK kvs))∨∃kvs,Rd H a (.dT kvs)
theorem isD_at{X:Cx}{pins:List (Addr×Obj)}{σ:St}{H:Hp}{s:Shared}{a:Addr}(I:Inv X pins σ H s)(d:IsD H a):
  s.TypeIs (.ref a) "dict"∧(∀b,Value.ref a=.ref b→∃ob,s.heap.get? b=some ob∧ob.dict=none)∧(a==sysModules)=false:=by
 rcases d with⟨kvs,e⟩|⟨kvs,e⟩
 ·obtain⟨_,hd,vs,_,dd⟩:=dk_rd I.hok e
  refine⟨dd.typeIs,fun b q=>?_,hd⟩
  cases q
  obtain⟨ob,_,_,h1,h2,_⟩:=dd
  exact⟨ob,h1,h2.2.1⟩
 ·obtain⟨_,hd,xs,_,dd⟩:=dt_rd I.hok e
  refine⟨dd.typeIs,fun b q=>?_,hd⟩
  cases q
  obtain⟨ob,_,_,h1,h2,_⟩:=dd
  exact⟨ob,h1,h2.2.1⟩
section
variable {X:Cx}{pins:List (Addr×Obj)}{σ:St}{H:Hp}{s:Shared}{a:Addr}{y d:V}{u r:Value}{o:Option V}{A:Around}{E:Value→Shared→Prop}
theorem d_get2{Q:Value→Shared→Prop}(hu:A.units+1<cLine)(I:Inv X pins σ H s)(g:DGet H a y o)(ry:RelV y u)(rd:RelV d r)(h:∀w' s',Inv X pins σ H s'→RelV (o.getD d) w'→Q w' s'):
  wpAny (model X.prog X.w) A (call (.builtin "dict.get") [.ref a,u,r]) Q E s:=by
 rcases g with⟨kvs,k,e,ey,l⟩|⟨kvs,k,b,e,ey,eb,l⟩
 ·subst ey
  obtain⟨z,hd,vs,rel,dd⟩:=dk_rd I.hok e
  refine call_meetsIn PySem.F.slot_dict_get dd.typeIs PySem.F.entry_dict_get (PySem.F.args_dict_get_3 _ _ _) (meets_dict_get_default (mixKind X.prog X.w) a (kV_is ry) hd r) ⟨_,dd.mapOf,h _ _ (I.tok _) ?_⟩
  rw[l]
  exact(rel.val k).getD rd
 ·subst ey
  cases (show u=Value.ref b from ry)
  obtain⟨z,hd,xs,rel,dd⟩:=dt_rd I.hok e
  refine call_meetsIn PySem.F.slot_dict_get dd.typeIs PySem.F.entry_dict_get (PySem.F.args_dict_get_3 _ _ _) (meetsH_dict_get_default (tupleKind (mixKind X.prog X.w)) a b hd r) ⟨tupleKind_room_in1 hu,k,xs,key_of I.hok eb,dd,h _ _ (I.tok _) ?_⟩
  rw[l]
  exact(rel.val k).getD rd
end
noncomputable def tDGet2(td ty tx:TE):TE:=fun σ H Q=>td σ H fun x H1=>∃a,x=.ref a∧IsD H1 a∧ty σ H1 fun y H2=>tx σ H2 fun z H3=>∃o,DGet H3 a y o∧Q (o.getD z) H3
section
variable {X:Cx}{o e f:Expr}{apos cpos:Pos}{td ty tx:TE}
theorem pe_dget2(hu:X.A.units+1<cLine)(ho:PE X o td)(he:PE X e ty)(hf:PE X f tx)(m:M2 X o "get" apos e f cpos):PE X (.Call (.Attribute o "get" apos) [e,f] [] cpos) (tDGet2 td ty tx):=by
 intro pins s σ H Q I h
 refine wpAny_Call_method m.base m.few m.line PySem.F.plainAttrs_dict PySem.F.slot_dict_get PySem.F.type_dict_get (thn (ho pins s σ H _ I h) fun u s1 ⟨x,H1,I1,rx,a,ex,d,q1⟩=>?_)
 subst ex
 obtain rfl:u=Value.ref a:=rx
 obtain⟨t1,t2,_⟩:=isD_at I1 d
 refine⟨t1,t2,?_⟩
 rw[m.trees]
 refine Calls.callWith_builtin rfl (Calls.evalArgs_plain (Calls.spliced_cons (thn (he pins s1 σ H1 _ I1 q1) fun iv s2 ⟨y,H2,I2,ry,q2⟩=>
  Calls.spliced_cons (thn (hf pins s2 σ H2 _ I2 q2) fun fv s3 ⟨z,H3,I3,rz,ov,g,q3⟩=>Calls.spliced_nil ?_))))
 exact d_get2 hu I3 g ry rz fun w' s4 I4 rw'=>⟨_,H3,I4,rw',q3⟩
end
section
variable {X:Cx}{pins:List (Addr×Obj)}{σ:St}{H:Hp}{s:Shared}{a:Addr}{kvs:List (Key×V)}{A:Around}{E:Value→Shared→Prop}
end
section
variable {X:Cx}{pins:List (Addr×Obj)}{σ:St}{H:Hp}{s:Shared}{a:Addr}{y:V}{u:Value}{A:Around}{E:Value→Shared→Prop}
end
end L2
namespace L2
open PySem PySem.Spec PyProof.Rows
section
variable {prog:Program}{w:World}{A:Around}{E:Value→Shared→Prop}
end
section
variable {X:Cx}
theorem refs_at:∀{ps:List Addr} {us:List Value},Vals (ps.map V.ref) us→us=ps.map Value.ref
 |[],us,r=>by
  rw[List.map_nil]at r
  cases r
  rfl
 |p::ps,us,r=>by
  rw[List.map_cons]at r
  cases r with
  |cons h t=>
   cases h
   rw[List.map_cons,←refs_at t]
end
end L2
namespace L2
open PySem PySem.Spec PyProof.Rows
section
variable {X:Cx}{pins:List (Addr×Obj)}{σ:St}{H:Hp}{s:Shared}{h':Heap}
theorem Inv.turnedL{t':Nat}{ch:List Addr}(I:Inv X pins σ H s)(k:∀b o,b∉ch→s.heap.get? b=some o→h'.get? b=some o)(hf:∀b∈ch,FpOk X pins H b):Inv X pins σ H { s with heap:=h',toks:=t' }:=by
 have nit:∀b u,H b=some u→b∉ch:=fun b u e z=>by
  have q:=(hf b z).1
  rw[q]at e;cases e
 refine I.step (g':=s.gens) (d':=s.drawn) (ch:=ch) (fun b hb=>⟨(hf b hb).2.2.2.1,(hf b hb).2.1,(hf b hb).2.2.2.2.1,(hf b hb).2.2.2.2.2⟩) (fun b o _ _ hc e _=>k b o hc e) (fun b o _ _ hc e _=>⟨o.slots,k b o hc e⟩)
  (fun _ _ _ _ n=>n) (fun b o hc e=>⟨o,k b o hc e⟩) (fun _ _ e=>e) (fun _ _ _ e=>e) (fun b ps e=>⟨#[],by rw[e];simp⟩) (fun m hm=>?_) (fun b u e=>?_) I.bare
 ·obtain⟨o,es,ep,ho,r⟩:=hm
  exact⟨o,es,ep,k _ o (fun z=>(hf _ z).2.1 rfl) ho,r⟩
 ·refine(I.hok b u e).stay (fun c v hc q=>k c v ?_ q) (fun _ q=>q) fun _ _ q=>q
  rcases hc with z|z
  ·rw[z];exact nit b u e
  ·exact nit c _ z
theorem Inv.turnedNew{t':Nat}{ch:List Addr}{T:Addr}{ob:HO}(I:Inv X pins σ H s)(k:∀b o,b∉ch→s.heap.get? b=some o→h'.get? b=some o)(hf:∀b∈ch,FpOk X pins H b)(hT:s.heap.objs.size≤T)
  (new:ObjOk X.prog X.w (upd H T ob) h' T ob):Inv X pins σ (upd H T ob) { s with heap:=h',toks:=t' }:=by
 have hn:H T=none:=I.hok.fresh hT
 have nit:∀b u,H b=some u→b∉ch:=fun b u e z=>by
  have q:=(hf b z).1
  rw[q]at e;cases e
 refine I.step (g':=s.gens) (d':=s.drawn) (ch:=ch) (fun b hb=>⟨(hf b hb).2.2.2.1,(hf b hb).2.1,(hf b hb).2.2.2.2.1,(hf b hb).2.2.2.2.2⟩) (fun b o _ _ hc e _=>k b o hc e) (fun b o _ _ hc e _=>⟨o.slots,k b o hc e⟩)
  (fun b o _ e n=>?_) (fun b o hc e=>⟨o,k b o hc e⟩) (fun b xs e=>?_) (fun b o u e=>?_) (fun b ps e=>⟨#[],?_⟩) (fun m hm=>?_) (fun b u e=>?_) I.bare
 ·rw[upd_ne (Nat.ne_of_lt (Nat.lt_of_lt_of_le (Heap.lt_size e) hT))];exact n
 ·rw[upd_ne (ne_of_none e hn)];exact e
 ·rw[upd_ne (ne_of_none e hn)];exact e
 ·rw[upd_ne (ne_of_none e hn),e];simp
 ·obtain⟨o,es,ep,ho,r⟩:=hm
  exact⟨o,es,ep,k _ o (fun z=>(hf _ z).2.1 rfl) ho,r⟩
 ·by_cases hb:b=T
  ·subst hb
   rw[upd_same]at e
   cases e
   exact new
  ·rw[upd_ne hb]at e
   refine(I.hok b u e).stay (fun c v hc q=>k c v ?_ q) (fun c q=>by rw[upd_ne (ne_of_none q hn)];exact q) fun c xs q=>by rw[upd_ne (ne_of_none q hn)];exact q
   rcases hc with z|z
   ·rw[z];exact nit b u e
   ·exact nit c _ z
theorem Inv.lock{d:Addr}{u:HO}(I:Inv X pins σ H s)(h:H d=some u)(mu:Mut (some u)):∃od,Inv X pins σ (upd H d (.frz od u)) s:=by
 have x:=I.hok d u h
 have ex:∃od,s.heap.get? d=some od:=by
  cases u with
  |lst xs=>obtain⟨_,_,_,_,e⟩:=x;exact⟨_,e⟩
  |dK kvs=>obtain⟨_,_,_,_,o,_,_,e,_⟩:=x;exact⟨o,e⟩
  |dT kvs=>obtain⟨_,_,_,_,o,_,_,e,_⟩:=x;exact⟨o,e⟩
  |set S n=>obtain⟨o,_,_,_,e,_⟩:=x;exact⟨o,e⟩
  |ins C dx fs=>obtain⟨_,_,_,e,_⟩:=x;exact⟨_,e⟩
  |ext φ=>obtain⟨_,⟨_,e⟩,_⟩:=x;exact⟨_,e⟩
  |_=>exact False.elim mu
 obtain⟨od,e⟩:=ex
 have new:ObjOk X.prog X.w (upd H d (.frz od u)) s.heap d (.frz od u):=by
  refine⟨e,x.stay (fun b v _ q=>q) (fun b q=>?_) fun b xs q=>?_⟩
  ·rw[upd_ne (fun z=>by rw[z,h]at q;cases q;exact mu)];exact q
  ·rw[upd_ne (fun z=>by rw[z,h]at q;cases q;exact mu)];exact q
 exact⟨od,I.write (x:=d) (e:=d) (t':=s.toks) (h':=s.heap) (by rw[h];exact mu) (.inl rfl) (fun b v _ q=>q) ⟨od,e⟩ new⟩
theorem Inv.nofrz{d:Addr}{u:HO}(I:Inv X pins σ H s)(h:H d=some u)(mu:Mut (some u)):∀o' u',X.H_0 d≠some (.frz o' u'):=fun o' u' e=>by
 have q:=I.base.frzs d o' u' e
 rw[h]at q
 cases q
 exact mu
theorem Inv.unlock{d:Addr}{od:Obj}{u:HO}(I:Inv X pins σ H s)(h:H d=some (.frz od u))(hn:∀o' u',X.H_0 d≠some (.frz o' u')):Inv X pins σ (upd H d u) s:=by
 have neH:∀b o,H b=some o→(∀o' u',o≠.frz o' u')→b≠d:=fun b o e hne z=>by
  rw[z,h]at e
  cases e
  exact hne _ _ rfl
 have neN:∀b,H b=none→b≠d:=fun b e z=>by rw[z,h]at e;cases e
 refine⟨I.ok,I.os,I.bare,⟨I.base.keep,I.base.slot,fun b o e n hx=>?_,I.base.there,fun b xs e=>?_,fun b o x e=>?_,fun b ps e=>?_⟩,I.loc,I.cell,?_,fun x c e=>?_,fun p hp=>?_,fun b o e=>?_,I.len⟩
 ·rw[upd_ne (neN b (I.base.free b o e n hx))];exact I.base.free b o e n hx
 ·have q:=I.base.tups b xs e
  rw[upd_ne (neH b _ q (fun _ _ z=>nomatch z))];exact q
 ·have q:=I.base.frzs b o x e
  rw[upd_ne (fun z=>by rw[z]at e;exact hn _ _ e)];exact q
 ·obtain⟨m,q⟩:=I.base.tbls b ps e
  exact⟨m,by rw[upd_ne (neH b _ q (fun _ _ z=>nomatch z))];exact q⟩
 ·rw[upd_ne (neN _ I.free)];exact I.free
 ·rw[upd_ne (neN c (I.freeC x c e))];exact I.freeC x c e
 ·obtain⟨e,n,r⟩:=I.pin p hp
  exact⟨e,by rw[upd_ne (neN _ n)];exact n,r⟩
 ·by_cases hb:b=d
  ·rw[hb,upd_same]at e
   cases e
   rw[hb]
   obtain⟨_,x⟩:=I.hok d _ h
   exact x.stay (fun c v _ q=>q) (fun c q=>by rw[upd_ne (neH c _ q (fun _ _ z=>nomatch z))];exact q) fun c xs q=>by rw[upd_ne (neH c _ q (fun _ _ z=>nomatch z))];exact q
  ·rw[upd_ne hb]at e
   exact(I.hok b o e).stay (fun c v _ q=>q) (fun c q=>by rw[upd_ne (neH c _ q (fun _ _ z=>nomatch z))];exact q) fun c xs q=>by rw[upd_ne (neH c _ q (fun _ _ z=>nomatch z))];exact q
end
noncomputable def tLock(t:TS):TS:=fun D σ H=>∃d u,H d=some u∧Mut (some u)∧∀od,t ⟨fun σ' H'=>H' d=some (.frz od u)∧D.nx σ' (upd H' d u),fun v H'=>H' d=some (.frz od u)∧D.rt v (upd H' d u),fun σ' H'=>H' d=some (.frz od u)∧D.bk σ' (upd H' d u),fun σ' H'=>H' d=some (.frz od u)∧D.ct σ' (upd H' d u)⟩ σ (upd H d (.frz od u))
section
variable {X:Cx}
theorem ps_lock{st:Stmt}{t:TS}(h:PS X st t):PS X st (tLock t):=by
 intro pins s σ H D I hw
 obtain⟨d,u,hd,mu,hw⟩:=hw
 obtain⟨od,I1⟩:=I.lock hd mu
 refine thn (h pins s σ _ _ I1 (hw od)) fun f s1 q=>?_
 cases f with
 |next=>obtain⟨σ',H',I2,e,q⟩:=q;exact⟨σ',_,I2.unlock e (I.nofrz hd mu),q⟩
 |brk=>obtain⟨σ',H',I2,e,q⟩:=q;exact⟨σ',_,I2.unlock e (I.nofrz hd mu),q⟩
 |cont=>obtain⟨σ',H',I2,e,q⟩:=q;exact⟨σ',_,I2.unlock e (I.nofrz hd mu),q⟩
 |ret v=>obtain⟨x,σ',H',I2,r,e,q⟩:=q;exact⟨x,σ',_,I2.unlock e (I.nofrz hd mu),r,q⟩
theorem pi_one{tg:Expr}{pins:List (Addr×Obj)}{σ:St}{H:Hp}{s:Shared}{R:It→Hp→Prop}{J:It}{tn:Nat→Heap→Prop}{tk:Nat}(I:Inv X pins σ H s)(o:Obj)
  (T:Turn X.prog X.w X.K tg J [s.heap.objs.size] s.heap.objs.size tn) (st:tn 0 (s.heap.push o)) (q:R J H):PIE X pins σ tg R (.ref s.heap.objs.size) { s with heap:=s.heap.push o,toks:=tk }:=by
 refine⟨s.heap.objs.size,[s.heap.objs.size],tn,J,H,rfl,I.kept fun b ob e=>Heap.get?_push_of_some _ e,T,st,fun b hb=>?_,q⟩
 have e:b=s.heap.objs.size:=by simpa using hb
 subst e
 exact I.fpOk (Nat.le_refl _) (I.hok.fresh (Nat.le_refl _))
end
noncomputable def Itc(lo c:Int)(n:Nat):It:=⟨fun i _=>i<n,fun i H x H'=>H'=H∧x=.int (lo+(i:Nat)*c),fun i _=>n≤i⟩
theorem turn_rangeC{P:Program}{w:World}{K:PySem.W.Frag}{tg:Expr}(it:Addr)(lo c:Int)(n:Nat):Turn P w K tg (Itc lo c n) [it] it (fun i h=>IsRangeIter h it (lo+(i:Nat)*c) ((n:Int)-(i:Nat)) c) where
 mem:=by simp
 obj:=fun i h st b hb=>by
  have e:b=it:=by simpa using hb
  subst e
  exact⟨_,st,fun v z=>nomatch z⟩
 keep:=fun i h h' st k=>k it (by simp) _ st
 item:=by
  intro X hP hw hK hc i pins s σ H E I hf st hg
  subst hP hw hK
  obtain⟨f0,f1,f2,f3,f4,f5⟩:=hf it (by simp)
  have W:=Walks.range (prog:=X.prog) (w:=X.w) (I.ok.hd hc) it lo c n
  refine W.item i s _ _ hg st fun v h' tk hv st' kk=>?_
  obtain⟨t,rfl⟩:=hv
  have I1:Inv X pins σ H { s with heap:=h',toks:=tk }:=I.turned (fun b o hb e=>kk b o (by simpa using hb) e) f0 f1 f3 f4 f5
  exact⟨_,rfl,go_of (s:={ s with heap:=h',toks:=tk }) (n:="range_iterator") st' rfl rfl (by decide) ⟨.int (lo+(i:Nat)*c),H,I1,⟨t,rfl⟩,⟨rfl,rfl⟩,st',fun b hb=>(hf b hb).1⟩⟩
 done:=by
  intro X hP hw hK hc i pins s σ H E I hf st hg
  subst hP hw hK
  obtain⟨f0,f1,f2,f3,f4,f5⟩:=hf it (by simp)
  exact wpAny_pyNext_range_end (I.ok.hd hc) st (by have:n≤i:=hg;omega) fun h' eb=>⟨rfl,I.turned (t':=s.toks) (fun b o hb e=>eb b o hb e) f0 f1 f3 f4 f5⟩
 self:=fun A i s Q E st h=>wpAny_pyIter_rangeiter st h
noncomputable def RgC(i j c:Int)(n:Nat):Prop:=c≠0∧c.natAbs<1073741824∧Builtin.Range.small i j c=true∧Builtin.Range.rangeSize i j c=n
noncomputable def iRng3(ta:TA):TI:=fun σ H R=>ta σ H fun vs H1=>∃(i j c:Int) (n:Nat),vs=[.int i,.int j,.int c]∧RgC i j c n∧R (Itc i c n) H1
section
variable {X:Cx}{tg:Expr}
theorem pi_range3{a b c:Expr}{ta:TA}{p pos:Pos}(hg:Gl X "range")(hm:X.mg "range" = none)(ha:PA X [a,b,c] ta)
  (hs:starEach [a,b,c] X.env=(false,eval a X.env)::starEach [b,c] X.env:=by rfl) (hpl:(backTo pos (starEach [b,c] X.env)).any (·.1)=false:=by rfl):
  PI X tg (.Call (.Name "range" p) [a,b,c] [] pos) (iRng3 ta):=by
 intro pins s σ H R I h
 refine Call_ (ld_blt I hg hm boot_range (PyProof.Rows.callWith_type1 (thn (ha pos pins s σ H _ I h) fun us s1 ⟨vs,H1,I1,r1,q1⟩=>?_) hs hpl))
 obtain⟨i,j,k,n,e,⟨c0,c1,c2,c3⟩,q⟩:=q1
 subst e
 cases r1 with
 |cons r rr=>
  cases rr with
  |cons r' rr=>
   cases rr with
   |cons r'' rr=>
    cases rr
    obtain⟨t,rfl⟩:=r
    obtain⟨t',rfl⟩:=r'
    obtain⟨t'',rfl⟩:=r''
    refine call_range_3 c0 ?_ (.inl (PyProof.noPylong_small c1))
    refine wpAny_pyIter_range (IsRange.new ..) c2 ?_
    have I2:Inv X pins σ H1 { s1 with heap:=s1.heap.push { cls:=.type "range",data:=.fields #[.int i t,.int j t',.int k t''] } }:=I1.kept (t':=s1.toks) fun b o e=>Heap.get?_push_of_some _ e
    refine pi_one (tk:=s1.toks) I2 _ (turn_rangeC _ i k n) ?_ q
    have e1:i+((0:Nat):Int)*k=i:=by simp
    have e2:(n:Int)-((0:Nat):Int)=Builtin.Range.rangeSize i j k:=by rw[c3];simp
    show IsRangeIter _ _ (i+((0:Nat):Int)*k) ((n:Int)-((0:Nat):Int)) k
    rw[e1,e2]
    exact Heap.get?_push_size _ rfl
end
section
variable {X:Cx}{tg:Expr}
end
section
variable {prog:Program}{w:World}{A:Around}{E:Value→Shared→Prop}{s:Shared}
end
theorem kv_get{κ:Type}{kvs:List (κ×V)}{vs:List (κ×Value)}(h:KV kvs vs):∀{i:Nat} {k:κ} {v:V},kvs[i]?=some (k,v)→∃u,vs[i]?=some (k,u)∧RelV v u:=by
 unfold KV at h
 induction h with
 |nil=>intro i k v e;simp at e
 |@cons a b l₁ l₂ r t ih=>
  intro i k v e
  cases i with
  |zero=>
   simp only[List.getElem?_cons_zero,Option.some.injEq]at e
   subst e
   refine⟨b.2,?_,r.2⟩
   simp only[List.getElem?_cons_zero]
   exact congrArg some (Prod.ext r.1.symm rfl)
  |succ j=>
   simp only[List.getElem?_cons_succ]at e ⊢
   exact ih e
theorem paired_get{α β:Type}{G:α→β→Prop}{l₁:List α}{l₂:List β}(h:Paired G l₁ l₂):∀{i:Nat} {a:α},l₁[i]?=some a→∃b,l₂[i]?=some b∧G a b:=by
 induction h with
 |nil=>intro i a e;simp at e
 |@cons a b l₁ l₂ r t ih=>
  intro i a' e
  cases i with
  |zero=>
   simp only[List.getElem?_cons_zero,Option.some.injEq]at e
   subst e
   exact⟨b,rfl,r⟩
  |succ j=>
   simp only[List.getElem?_cons_succ]at e ⊢
   exact ih e
section
variable {X:Cx}{pins:List (Addr×Obj)}{σ:St}{H:Hp}{s:Shared}{d:Addr}{o:Obj}
theorem Inv.frzK{kvs:List (Key×V)}(I:Inv X pins σ H s)(h:H d=some (.frz o (.dK kvs))):
  (d==sysModules)=false∧s.heap.get? d=some o∧o.ExactDict∧∃(es:Array DictEntry) (ep:Nat) (vs:List (Key×Value)),o.data=.dict es ep∧es.size=kvs.length∧KV kvs vs∧s.heap.DictAt (mixKind X.prog X.w) d vs ep:=by
 obtain⟨hd,z,hs,vs,kv,o',es,ep,ho,hx,hdt,r⟩:=I.hok d _ h
 rw[hd]at ho
 cases ho
 refine⟨hs,hd,hx,es,ep,vs,hdt,?_,kv,o,es,hd,hx,hdt,r⟩
 have l1:=r.2.1.length
 have l2:kvs.length=vs.length:=Paired.length kv
 rw[Array.length_toList]at l1
 omega
end
noncomputable def Itd(d:Addr)(o:Obj)(kvs:List (Key×V)):It:=
 ⟨fun i H=>H d=some (.frz o (.dK kvs))∧i<kvs.length,fun i H x H'=>H'=H∧∃k,kvs[i]?=some (k,x),fun i H=>H d=some (.frz o (.dK kvs))∧kvs.length≤i⟩
theorem dict_ep{o:Obj}{es es':Array DictEntry}{ep ep':Nat}(h:o.data=.dict es ep)(h':o.data=.dict es' ep'):es'=es∧ep'=ep:=by
 rw[h]at h'
 cases h'
 exact⟨rfl,rfl⟩
section
variable {P:Program}{w:World}{K:PySem.W.Frag}{tg:Expr}{d:Addr}{o:Obj}{es:Array DictEntry}{ep:Nat}
theorem turn_vals{kvs:List (Key×V)}(it:Addr)(hod:o.data=.dict es ep):Turn P w K tg (Itd d o kvs) [it] it (fun i h=>h.IsValIter it d i kvs.length ep) where
 mem:=by simp
 obj:=fun i h st b hb=>by
  have e:b=it:=by simpa using hb
  subst e
  obtain⟨oi,e,c,dd⟩:=st
  exact⟨oi,e,fun v z=>by rw[dd]at z;cases z⟩
 keep:=fun i h h' st k=>st.at fun oi e=>k it (by simp) oi e
 item:=by
  intro X hP hw hK hc i pins s σ H E I hf st hg
  subst hP hw hK
  obtain⟨hd,hi⟩:=hg
  obtain⟨f0,f1,f2,f3,f4,f5⟩:=hf it (by simp)
  obtain⟨hs,hgd,hx,es',ep',vs,hdt,hsz,kv,hm⟩:=I.frzK hd
  obtain⟨rfl,rfl⟩:=dict_ep hod hdt
  obtain⟨⟨k,v⟩,hkv⟩:∃p,kvs[i]?=some p:=⟨kvs[i],List.getElem?_eq_getElem hi⟩
  obtain⟨u,hu,ru⟩:=kv_get kv hkv
  have hl:kvs.length=vs.length:=Paired.length kv
  rw[hl]at st
  refine wpAny_pyNext_values_item st hm hu fun h' st' sb=>?_
  have I1:Inv X pins σ H { s with heap:=h' }:=I.turned (t':=s.toks) (fun b ob hb e=>(sb.2 b hb).trans e) f0 f1 f3 f4 f5
  obtain⟨oi,e,c,dd⟩:=id st'
  refine⟨u,rfl,go_of (s:={ s with heap:=h' }) e c dd (by decide) ⟨v,H,I1,ru,⟨rfl,k,hkv⟩,?_,fun b hb=>(hf b hb).1⟩⟩
  show h'.IsValIter it d (i+1) kvs.length _
  rw[hl]
  exact st'
 done:=by
  intro X hP hw hK hc i pins s σ H E I hf st hg
  subst hP hw hK
  obtain⟨hd,hi⟩:=hg
  obtain⟨f0,f1,f2,f3,f4,f5⟩:=hf it (by simp)
  obtain⟨hs,hgd,hx,es',ep',vs,hdt,hsz,kv,hm⟩:=I.frzK hd
  obtain⟨rfl,rfl⟩:=dict_ep hod hdt
  have hl:kvs.length=vs.length:=Paired.length kv
  rw[hl]at st
  exact wpAny_pyNext_values_end (I.ok.hd hc) st hm (List.getElem?_eq_none (by omega)) fun h' eb=>⟨rfl,I.turned (t':=s.toks) (fun b ob hb e=>eb b ob hb e) f0 f1 f3 f4 f5⟩
 self:=fun A i s Q E st h=>wpAny_pyIter_valiter st h
end
noncomputable def iVals(td:TE):TI:=fun σ H R=>td σ H fun x H1=>∃d o kvs,x=.ref d∧H1 d=some (.frz o (.dK kvs))∧R (Itd d o kvs) H1
section
variable {X:Cx}{tg e:Expr}{td:TE}{apos cpos:Pos}
theorem pi_values(he:PE X e td)(hbase:attributeBase e "values" X.env (eval e X.env)=eval e X.env:=by rfl)(hline:(apos.endLine==cpos.line)=true:=by rfl):PI X tg (.Call (.Attribute e "values" apos) [] [] cpos) (iVals td):=by
 intro pins s σ H R I h
 refine wpAny_Call_method (T:="dict") (id:="dict.values") hbase rfl hline F.plainAttrs_dict F.slot_dict_values F.type_dict_values (thn (he pins s σ H _ I h) fun u s1 ⟨x,H1,I1,rx,d,o,kvs,ex,hd,q⟩=>?_)
 subst ex
 obtain rfl:u=Value.ref d:=rx
 obtain⟨hs,hgd,hx,es,ep,vs,hdt,hsz,kv,hm⟩:=I1.frzK hd
 have hl:kvs.length=vs.length:=Paired.length kv
 refine⟨hm.dictOf.typeIs,hm.dictOf.mapOf.noDict,?_⟩
 have I2:Inv X pins σ H1 { s1 with heap:=s1.heap.push { cls:=.type "dict_values",data:=.fields #[.ref d] } }:=I1.kept (t':=s1.toks) fun b ob q=>Heap.get?_push_of_some _ q
 have fin:wpAny (model X.prog X.w) X.A (pyIter (.ref s1.heap.objs.size)) (PIE X pins σ tg R) X.xe { s1 with heap:=s1.heap.push { cls:=.type "dict_values",data:=.fields #[.ref d] } }:=by
  refine wpAny_pyIter_values (d:=d) (knd:=mixKind X.prog X.w) ⟨_,Heap.get?_push_size _ rfl,rfl,rfl⟩ (hm.push _) (pi_one (tk:=s1.toks) I2 _ (turn_vals _ hdt) ⟨_,Heap.get?_push_size _ rfl,rfl,?_⟩ q)
  rw[hl]<;>rfl
 show wpAny _ _ (callWith cpos (.builtin "dict.values") [.ref d] [] []) _ X.xe s1
 exact method_meetsIn F.slot_dict_values F.entry_dict_values rfl (PySem.evalArgs_none ⟨rfl,hm.dictOf.typeIs,F.args_dict_values_1 _,_,meets_dict_values (mixKind X.prog X.w) d hs,⟨vs,hm.dictOf⟩,fin⟩)
end
noncomputable def Ite(K:PySem.W.Frag)(a:Addr):It:=
 ⟨fun i H=>∃(xs:List V) (x:V),SqL K H a xs∧xs[i]?=some x,fun i H v H'=>∃T x,v=.ref T∧H T=none∧H'=upd H T (.tup [.int (i:Nat),x])∧∀xs,SqL K H a xs→xs[i]?=some x,fun i H=>∃xs:List V,SqL K H a xs∧xs.length≤i⟩
theorem turn_enum{P:Program}{w:World}{K:PySem.W.Frag}{elts:List Expr}{kk:Nat}{tpos:Pos}(a e it:Addr):
  Turn P w K (.Tuple elts kk tpos) (Ite K a) [e,it] e (fun i h=>(∃old,IsEnum h e it ((i:Nat):Int) old)∧h.IsListIter it a i∧e≠it) where
 mem:=by simp
 obj:=fun i h st b hb=>by
  obtain⟨⟨old,he⟩,⟨o,ho,hc,hd⟩,_⟩:=st
  have e':b=e∨b=it:=by simpa using hb
  rcases e' with z|z
  ·rw[z];exact⟨_,he,fun v q=>nomatch q⟩
  ·rw[z];exact⟨o,ho,fun v q=>by rw[hd]at q;cases q⟩
 keep:=fun i h h' st k=>let⟨⟨old,he⟩,hi,hne⟩:=st;⟨⟨old,k e (by simp) _ he⟩,hi.at fun o q=>k it (by simp) o q,hne⟩
 item:=by
  intro X hP hw hK hc i pins s σ H E I hf st hg
  subst hP hw hK
  obtain⟨⟨old,he⟩,hit,hne⟩:=st
  obtain⟨xs,x,hq,hx⟩:=hg
  obtain⟨its,rv,p,hz⟩:=I.list hq
  obtain⟨u,hu,ru⟩:=rv.get hx
  have hel:e<s.heap.objs.size:=Heap.lt_size he
  have hil:it<s.heap.objs.size:=by obtain⟨_,q,_⟩:=hit;exact Heap.lt_size q
  refine wpAny_pyNext_enum_item he hit p.isList (x:=u) (by simpa using hu) hne fun h' ho hit' hT hsz hk=>?_
  refine⟨_,rfl,wpAny_letOwnedTupleGo_enum (s:={ s with heap:=h',toks:=s.toks+1 }) ho fun h'' he' sb=>?_⟩
  have hT2:h''.get? s.heap.objs.size=some { cls:=.type "tuple",data:=.seq #[.int i s.toks,u] }:=(sb.2 _ (Nat.ne_of_gt hel)).trans hT
  have new:ObjOk X.prog X.w (upd H s.heap.objs.size (.tup [.int (i:Nat),x])) h'' s.heap.objs.size (.tup [.int (i:Nat),x]):=
   ⟨by show 2≤sizeLine;decide,[.int i s.toks,u],.cons ⟨_,rfl⟩ (.cons ru .nil),⟨_,hT2,rfl,_,rfl⟩⟩
  have I1:Inv X pins σ (upd H s.heap.objs.size (.tup [.int (i:Nat),x])) { s with heap:=h'',toks:=s.toks+1 }:=
   I.turnedNew (ch:=[e,it]) (fun b ob hb q=>(sb.2 b (fun z=>hb (by simp[z]))).trans (hk b ob (fun z=>hb (by simp[z])) (fun z=>hb (by simp[z])) q)) hf (Nat.le_refl _) new
  refine⟨.ref s.heap.objs.size,_,I1,rfl,⟨_,x,rfl,I.hok.fresh (Nat.le_refl _),rfl,fun ys hy=>by rw[I.list_inj hy hq];exact hx⟩,⟨⟨u,?_⟩,hit'.at fun o q=>(sb.2 it (Ne.symm hne)).trans q,hne⟩,fun b hb=>?_⟩
  ·have e1:((i+1:Nat):Int)=(i:Int)+1:=by omega
   rw[e1];exact he'
  ·have hb':b<s.heap.objs.size:=by
    have e':b=e∨b=it:=by simpa using hb
    rcases e' with z|z
    ·rw[z];exact hel
    ·rw[z];exact hil
   rw[upd_ne (Nat.ne_of_lt hb')]
   exact(hf b hb).1
 done:=by
  intro X hP hw hK hc i pins s σ H E I hf st hg
  subst hP hw hK
  obtain⟨⟨old,he⟩,hit,hne⟩:=st
  obtain⟨xs,hq,hx⟩:=hg
  obtain⟨its,rv,p,hz⟩:=I.list hq
  obtain⟨f0,f1,f2,f3,f4,f5⟩:=hf it (by simp)
  have hl:=rv.length
  exact wpAny_pyNext_enum_end (I.ok.hd hc) he hit p.isList (by simp;omega) fun h' eb=>⟨rfl,I.turned (t':=s.toks) (fun b o hb q=>eb b o hb q) f0 f1 f3 f4 f5⟩
 self:=fun A i s Q E st h=>let⟨⟨_,he⟩,_⟩:=st;wpAny_pyIter_enum he h
noncomputable def iEnum(K:PySem.W.Frag)(ta:TA):TI:=fun σ H R=>ta σ H fun vs H1=>∃a xs,vs=[.ref a]∧SqL K H1 a xs∧R (Ite K a) H1
theorem pi_enum{X:Cx}{e:Expr}{ta:TA}{p pos tpos:Pos}{elts:List Expr}{kk:Nat}(hg:Gl X "enumerate")(hm:X.mg "enumerate" = none)(ha:PA X [e] ta)(hs:starEach [e] X.env=[(false,eval e X.env)]:=by rfl):
  PI X (.Tuple elts kk tpos) (.Call (.Name "enumerate" p) [e] [] pos) (iEnum X.K ta):=by
 intro pins s σ H R I h
 refine Call_ (ld_blt I hg hm boot_enumerate (PyProof.Rows.callWith_type1 (thn (ha pos pins s σ H _ I h) fun us s1 ⟨vs,H1,I1,r1,q1⟩=>?_) hs rfl))
 obtain⟨a,xs,ex,hq,q⟩:=q1
 subst ex
 cases r1 with
 |cons r rr=>
  cases rr
  cases r
  obtain⟨its,rv,p',hz⟩:=I1.list hq
  refine call_enumerate_list p'.isList fun h' he hit hsz hk=>wpAny_pyIter_enum he ?_
  have I2:Inv X pins σ H1 { s1 with heap:=h' }:=I1.kept (t':=s1.toks) hk
  refine⟨s1.heap.objs.size+1,[s1.heap.objs.size+1,s1.heap.objs.size],_,_,H1,rfl,I2,turn_enum a (s1.heap.objs.size+1) s1.heap.objs.size,⟨⟨.none,he⟩,hit,Nat.succ_ne_self _⟩,fun b hb=>?_,q⟩
  have e':b=s1.heap.objs.size+1∨b=s1.heap.objs.size:=by simpa using hb
  have hle:s1.heap.objs.size≤b:=by
   rcases e' with z|z
   ·rw[z];exact Nat.le_add_right _ _
   ·rw[z];exact Nat.le_refl _
  exact I1.fpOk hle (I1.hok.fresh hle)
theorem boot_zip5:bootBuiltins "zip" = some (.type "zip"):=by decide +kernel
noncomputable def Itz(K:PySem.W.Frag)(a b:Addr):It:=
 ⟨fun i H=>∃(xs ys:List V) (x y:V),SqL K H a xs∧SqL K H b ys∧xs[i]?=some x∧ys[i]?=some y,
  fun i H v H'=>∃T x y,v=.ref T∧H T=none∧H'=upd H T (.tup [x,y])∧(∀xs,SqL K H a xs→xs[i]?=some x)∧∀ys,SqL K H b ys→ys[i]?=some y,
  fun i H=>∃xs ys:List V,SqL K H a xs∧SqL K H b ys∧(xs.length≤i∨ys.length≤i)⟩
theorem turn_zip{P:Program}{w:World}{K:PySem.W.Frag}{elts:List Expr}{kk:Nat}{tpos:Pos}{a b z TI TO i1 i2:Addr}(D:ZipApart z TI TO i1 i2 a b):
  Turn P w K (.Tuple elts kk tpos) (Itz K a b) [z,TI,TO,i1,i2] z (fun i h=>IsZip h z TI TO .none∧IsPair h TI (.ref i1) (.ref i2)∧(∃x y,IsPair h TO x y)∧h.IsListIter i1 a i∧h.IsListIter i2 b i) where
 mem:=by simp
 obj:=fun i h st c hc=>by
  obtain⟨hz,hTI,⟨x,y,hTO⟩,⟨o1,e1,_,d1⟩,⟨o2,e2,_,d2⟩⟩:=st
  have e':c=z∨c=TI∨c=TO∨c=i1∨c=i2:=by simpa using hc
  rcases e' with q|q|q|q|q
  ·rw[q];exact⟨_,hz,fun v q=>nomatch q⟩
  ·rw[q];exact⟨_,hTI,fun v q=>nomatch q⟩
  ·rw[q];exact⟨_,hTO,fun v q=>nomatch q⟩
  ·rw[q];exact⟨o1,e1,fun v q=>by rw[d1]at q;cases q⟩
  ·rw[q];exact⟨o2,e2,fun v q=>by rw[d2]at q;cases q⟩
 keep:=fun i h h' st k=>by
  obtain⟨hz,hTI,⟨x,y,hTO⟩,h1,h2⟩:=st
  exact⟨k z (by simp) _ hz,k TI (by simp) _ hTI,⟨x,y,k TO (by simp) _ hTO⟩,h1.at fun o q=>k i1 (by simp) o q,h2.at fun o q=>k i2 (by simp) o q⟩
 item:=by
  intro X hP hw hK hc i pins s σ H E I hf st hg
  subst hP hw hK
  obtain⟨hz,hTI,⟨x0,y0,hTO⟩,h1,h2⟩:=st
  obtain⟨xs,ys,x,y,hqx,hqy,hx,hy⟩:=hg
  obtain⟨its,rv,p,_⟩:=I.list hqx
  obtain⟨its2,rv2,p2,_⟩:=I.list hqy
  obtain⟨u,hu,ru⟩:=rv.get hx
  obtain⟨u2,hu2,ru2⟩:=rv2.get hy
  have hzl:z<s.heap.objs.size:=Heap.lt_size hz
  refine wpAny_pyNext_zip_item D hz hTI hTO h1 h2 p.isList p2.isList (x:=u) (y:=u2) (by simpa using hu) (by simpa using hu2) fun h' z' TO' h1' h2' hT hsz hk=>?_
  refine⟨_,rfl,wpAny_letOwnedTupleGo_zip (s:={ s with heap:=h' }) z' fun h'' z'' sb=>?_⟩
  have hT2:h''.get? s.heap.objs.size=some { cls:=.type "tuple",data:=.seq #[u,u2] }:=(sb.2 _ (Nat.ne_of_gt hzl)).trans hT
  have new:ObjOk X.prog X.w (upd H s.heap.objs.size (.tup [x,y])) h'' s.heap.objs.size (.tup [x,y]):=
   ⟨by show 2≤sizeLine;decide,[u,u2],.cons ru (.cons ru2 .nil),⟨_,hT2,rfl,_,rfl⟩⟩
  have I1:Inv X pins σ (upd H s.heap.objs.size (.tup [x,y])) { s with heap:=h'' }:=
   I.turnedNew (t':=s.toks) (ch:=[z,TI,TO,i1,i2]) (fun c o hb q=>(sb.2 c (fun q'=>hb (by simp[q']))).trans (hk c o (fun q'=>hb (by simp[q'])) (fun q'=>hb (by simp[q'])) (fun q'=>hb (by simp[q'])) (fun q'=>hb (by simp[q'])) q)) hf (Nat.le_refl _) new
  refine⟨.ref s.heap.objs.size,_,I1,rfl,⟨_,x,y,rfl,I.hok.fresh (Nat.le_refl _),rfl,fun l hl=>by rw[I.list_inj hl hqx];exact hx,fun l hl=>by rw[I.list_inj hl hqy];exact hy⟩,⟨z'',?_,⟨u,u2,?_⟩,?_,?_⟩,fun c hcm=>?_⟩
  ·exact(sb.2 _ D.TIz).trans (hk _ _ D.TIz D.TITO D.TIi1 D.TIi2 hTI)
  ·exact(sb.2 _ D.TOz).trans TO'
  ·exact h1'.at fun o q=>(sb.2 _ D.i1z).trans q
  ·exact h2'.at fun o q=>(sb.2 _ D.i2z).trans q
  ·have hlt:c<s.heap.objs.size:=by
    have e':c=z∨c=TI∨c=TO∨c=i1∨c=i2:=by simpa using hcm
    rcases e' with q|q|q|q|q
    ·rw[q];exact hzl
    ·rw[q];exact Heap.lt_size hTI
    ·rw[q];exact Heap.lt_size hTO
    ·rw[q];obtain⟨_,e1,_⟩:=h1;exact Heap.lt_size e1
    ·rw[q];obtain⟨_,e2,_⟩:=h2;exact Heap.lt_size e2
   rw[upd_ne (Nat.ne_of_lt hlt)]
   exact(hf c hcm).1
 done:=by
  intro X hP hw hK hc i pins s σ H E I hf st hg
  subst hP hw hK
  obtain⟨hz,hTI,⟨x0,y0,hTO⟩,h1,h2⟩:=st
  obtain⟨xs,ys,hqx,hqy,hend⟩:=hg
  obtain⟨its,rv,p,_⟩:=I.list hqx
  obtain⟨its2,rv2,p2,_⟩:=I.list hqy
  have l1:=rv.length
  have l2:=rv2.length
  have he:its.toArray[i]?=none∨its2.toArray[i]?=none:=by
   rcases hend with q|q
   ·exact .inl (by simp;omega)
   ·exact .inr (by simp;omega)
  exact wpAny_pyNext_zip_end (I.ok.hd hc) D hz hTI hTO h1 h2 p.isList p2.isList he fun h' hk=>⟨rfl,I.turnedL (t':=s.toks) (ch:=[z,TI,TO,i1,i2]) (fun c o hb q=>
   hk c o (fun q'=>hb (by simp[q'])) (fun q'=>hb (by simp[q'])) (fun q'=>hb (by simp[q'])) (fun q'=>hb (by simp[q'])) q) hf⟩
 self:=fun A i s Q E st h=>wpAny_pyIter_zip st.1 h
noncomputable def iZip(K:PySem.W.Frag)(ta:TA):TI:=fun σ H R=>ta σ H fun vs H1=>∃a b xs ys,vs=[.ref a,.ref b]∧SqL K H1 a xs∧SqL K H1 b ys∧R (Itz K a b) H1
theorem pi_zip{X:Cx}{e e2:Expr}{ta:TA}{p pos tpos:Pos}{elts:List Expr}{kk:Nat}(hg:Gl X "zip")(hm:X.mg "zip" = none)(ha:PA X [e,e2] ta)
  (hs:starEach [e,e2] X.env=(false,eval e X.env)::starEach [e2] X.env:=by rfl) (hpl:(backTo pos (starEach [e2] X.env)).any (·.1)=false:=by rfl):
  PI X (.Tuple elts kk tpos) (.Call (.Name "zip" p) [e,e2] [] pos) (iZip X.K ta):=by
 intro pins s σ H R I h
 refine Call_ (ld_blt I hg hm boot_zip5 (PyProof.Rows.callWith_type1 (thn (ha pos pins s σ H _ I h) fun us s1 ⟨vs,H1,I1,r1,q1⟩=>?_) hs hpl))
 obtain⟨a,b,xs,ys,ex,hqx,hqy,q⟩:=q1
 subst ex
 cases r1 with
 |cons r rr=>
  cases rr with
  |cons r' rr=>
   cases rr
   cases r
   cases r'
   obtain⟨its,rv,p1,_⟩:=I1.list hqx
   obtain⟨its2,rv2,p2,_⟩:=I1.list hqy
   have la:a<s1.heap.objs.size:=p1.lt
   have lb:b<s1.heap.objs.size:=p2.lt
   refine call_zip_2 p1.isList p2.isList fun h' hz hTI hTO h1 h2 hsz hk=>wpAny_pyIter_zip hz ?_
   have I2:Inv X pins σ H1 { s1 with heap:=h' }:=I1.kept (t':=s1.toks) hk
   refine⟨s1.heap.objs.size+4,[s1.heap.objs.size+4,s1.heap.objs.size+2,s1.heap.objs.size+3,s1.heap.objs.size,s1.heap.objs.size+1],_,_,H1,rfl,I2,turn_zip (PySem.W.ktu_apart s1.heap.objs.size a b la lb),⟨hz,hTI,⟨_,_,hTO⟩,h1,h2⟩,fun c hcm=>?_,q⟩
   have e':c=s1.heap.objs.size+4∨c=s1.heap.objs.size+2∨c=s1.heap.objs.size+3∨c=s1.heap.objs.size∨c=s1.heap.objs.size+1:=by simpa using hcm
   have hle:s1.heap.objs.size≤c:=by
    rcases e' with z|z|z|z|z
    ·rw[z];exact Nat.le_add_right _ _
    ·rw[z];exact Nat.le_add_right _ _
    ·rw[z];exact Nat.le_add_right _ _
    ·rw[z];exact Nat.le_refl _
    ·rw[z];exact Nat.le_add_right _ _
   exact I1.fpOk hle (I1.hok.fresh hle)
end L2
section
namespace Bits
open PySem PyProof.Rows
end Bits
end
section
namespace TL
open PySem PySem.Builtin PySem.Builtin.Str PySem.StrLaws
end TL
end
namespace L2
open PySem PySem.Spec PyProof.Rows
section
variable {X:Cx}{pins:List (Addr×Obj)}{σ:St}{H:Hp}{s:Shared}{Q:VK}
end
section
variable {X:Cx}
end
section
variable {X:Cx}{o e:Expr}{to te:TE}
end
end L2
namespace L2
open PySem PySem.Spec PyProof.Rows
section
variable {X:Cx}
end
end L2
namespace Att
open PySem PySem.W PySem.Calls PyProof.Rows
section
variable {prog:Program}{w:World}{A:Around}{E:Value→Shared→Prop}{s:Shared}{K:Frag}
theorem call_fn{R:Result→Shared→Prop}{name qual:Str}{params:Arguments}{body:List Stmt}{scope:Scope}{dV kV doc pm cdv ct oc:Value}{an od:Option Addr}{osl:Array (Option Value)}{f:Addr}{args:Args}{binds:List (Str×Value)}
  (X:K.In s.heap) (hlim:s.heap.NoLimit) (ho:K.lookup f=some ⟨oc,od,.func (fnOf name qual params body scope dV kV doc pm an cdv ct),osl⟩) (hcd:codeIn K cdv qual=true) (hroom:A.depth<recursionLimit)
  (hbind:BindsTo s (fnOf name qual params body scope dV kV doc pm an cdv ct) args binds)
  (hkind:(binds.all fun y=>scope.names.lookup y.1==some .local||scope.names.lookup y.1==some .cell)=true)
  (h:∀s₁,InCallC s s.heap.objs.size (bindL (envOfC qual scope s.heap.objs.size f cdv).kindOf binds fun _=>none) (cellsFrom (s.heap.objs.size+1) scope.names [])
    (bindC (envOfC qual scope s.heap.objs.size f cdv).kindOf binds fun _=>none) s₁→
   wpAny (model prog w) (A.deeper (envOfC qual scope s.heap.objs.size f cdv)) (execs body (envOfC qual scope s.heap.objs.size f cdv))
    (fun fl s'=>R (.ok (.ret (match fl with | .ret v=>v|_=>.none))) s')
    (fun e s'=>wpAny (model prog w) (A.deeper (envOfC qual scope s.heap.objs.size f cdv)) («leaving» (envOfC qual scope s.heap.objs.size f cdv) e) (fun _ s''=>R (.error e) s'') (fun e' s''=>R (.error e') s'') s') s₁)
  (hco:scope.isCoroutine=false) (hgen:scope.isGenerator=false) (hk:scope.kind=.function):codeAny (model prog w) A (.call (.ref f) args) R s:=by
 refine codeAny_call_function hroom (X _ _ ho) rfl hco hgen rfl (codeRec_of X hcd) (hbind _ _ _ _ ?_)
 refine wpAny_newFunctionEnv_cells hk (kindsX hkind _) fun env he s₁ x=>?_
 subst he
 exact⟨hlim.keeps x.toInCall.keep,codeAny_func (h s₁ x)⟩
end
end Att
namespace L2
open PySem PySem.Spec PyProof.Rows
end L2
namespace L2
open PySem PySem.Spec PyProof.Rows
end L2
namespace L2
open PySem PySem.Spec PyProof.Rows
noncomputable def inClass(s:Stmt)(j:Nat):Stmt:=match s with
 | .ClassDef _ _ _ body _ _ _ _ _ _ _=>body.getD j (.Pass ⟨0,0,0,0⟩)
 |_=>.Pass ⟨0,0,0,0⟩
noncomputable def defArgs(s:Stmt):Arguments:=match s with
 | .FunctionDef _ a _ _ _ _ _ _ _ _=>a
 |_=>{ posonlyargs:=[],args:=[],vararg:=none,kwonlyargs:=[],kw_defaults:=[],kwarg:=none,defaults:=[] }
noncomputable def defBody(s:Stmt):List Stmt:=match s with
 | .FunctionDef _ _ b _ _ _ _ _ _ _=>b
 |_=>[]
noncomputable def defScope(s:Stmt):Scope:=match s with
 | .FunctionDef _ _ _ _ _ _ sc _ _ _=>sc
 |_=>{ kind:=.function,names:=[],isGenerator:=false,isCoroutine:=false }
noncomputable abbrev CX0:CXT:=fun _ _ _ _ _ _=>False
noncomputable abbrev E0:XK:=fun _ _ _=>False
theorem pass0{X:Cx}:Passes CX0 X E0:=fun _ _ _ _ _ _ _ h=>h.elim
structure Fun(K:PySem.W.Frag)(x qual:Str)(st:Stmt)(f:Addr)(fd:FuncData):Prop where
 ex:∃(oc:Value) (od:Option Addr) (kV doc pm:Value) (an:Option Addr) (cdv ct:Value) (osl:Array (Option Value)),
  fd=PySem.W.fnOf x qual (defArgs st) (defBody st) (defScope st) .none kV doc pm an cdv ct∧K.lookup f=some ⟨oc,od,.func fd,osl⟩∧PySem.W.codeIn K cdv qual=true
 kp:PySem.W.keepIn K (.ref f)=true
section
variable {P:Program}{w:World}{K:PySem.W.Frag}{mg:Str→Option Value}{base:Heap}
theorem Fun.ok{x qual:Str}{st:Stmt}{f:Addr}{fd:FuncData}{N ps:List Str}{k:Nat}{sp:Sp}(F:Fun K x qual st f fd)(S:FnScope N ps (defScope st))(len:∀vs H Q E,sp vs H Q E→vs.length=ps.length)
  (hbody:∀(cdv:Value) (A:Around) (outer:List Env) (s:Shared) (H:Hp) (vs:List V) (Q:VK) (E:XK),Room k (A.deeper (envOfC qual (defScope st) s.heap.objs.size f cdv))→sp vs H Q E→
   ∃t,PSs (cxOf CX0 P w K mg base N qual (defScope st) f cdv A outer s H E).nox (defBody st) t∧t { nx:=fun _ H'=>Q .non H',rt:=Q } (start N vs) H):FnOk P w K mg base CX0 (k+1) f fd ps sp:=by
 obtain⟨oc,od,kV,doc,pm,an,cdv,ct,osl,rfl,lk,hcd⟩:=F.ex
 refine fn_of lk hcd S len fun A outer s H vs Q E hr hsp=>?_
 obtain⟨t,h,q⟩:=hbody cdv A outer s H vs Q E hr hsp
 exact⟨t,h.nox,q⟩
theorem Fun.binds{x qual:Str}{st:Stmt}{f:Addr}{fd:FuncData}{ps:List Str}(F:Fun K x qual st f fd)
  (h:∀(kV doc pm:Value) (an:Option Addr) (cdv ct:Value) (us:List Value),us.length=ps.length→bindArgs (PySem.W.fnOf x qual (defArgs st) (defBody st) (defScope st) .none kV doc pm an cdv ct) ⟨us,[]⟩=pure (ps.zip us)):Binds K fd ps []:=by
 obtain⟨oc,od,kV,doc,pm,an,cdv,ct,osl,rfl,lk,hcd⟩:=F.ex
 exact .all (h kV doc pm an cdv ct)
theorem fun_mk{x qual:Str}{st:Stmt}{f:Addr}{oc:Value}{od an:Option Addr}{osl:Array (Option Value)}{kV doc pm cdv ct:Value}(l:K.lookup f=some ⟨oc,od,.func (PySem.W.fnOf x qual (defArgs st) (defBody st) (defScope st) .none kV doc pm an cdv ct),osl⟩)
  (c:PySem.W.codeIn K cdv qual=true) (k:PySem.W.keepIn K (.ref f)=true):Fun K x qual st f (PySem.W.fnOf x qual (defArgs st) (defBody st) (defScope st) .none kV doc pm an cdv ct):=⟨⟨oc,od,kV,doc,pm,an,cdv,ct,osl,rfl,l,c⟩,k⟩
end
theorem hu_of{A:Around}{k:Nat}(hr:Room k A):A.units+1<cLine:=Nat.lt_of_le_of_lt (Nat.add_le_add_left (by decide:1≤64) _) hr.units
theorem small1000{n:Nat}(h:n≤1000):n<sizeLine:=Nat.lt_of_le_of_lt h (by decide)
section
variable {X:Cx}
theorem pv(i:Nat){x:Str}{pos:Pos}(hN:X.N[i]?=some x:=by rfl)(hv:Vis X.env.scope x:=by first|exact Or.inl rfl|exact Or.inr (Or.inl rfl)|exact Or.inr (Or.inr rfl))(hd:(x==("__debug__" : Str))=false:=by decide)
  (hcd:(x==("__classdict__" : Str))=false:=by decide):PE X (.Name x pos) (tVar i):=pe_var hN hv hd hcd
end
theorem iteF{A B:Prop}(h:B):if false=true then A else B:=by
 rw[if_neg Bool.false_ne_true]
 exact h
theorem iteT{A B:Prop}(h:A):if true=true then A else B:=by
 rw[if_pos rfl]
 exact h
theorem ite2{c A B:Prop}[Decidable c](h1:c→A)(h2:¬c→B):if c then A else B:=by
 by_cases h:c
 ·rw[if_pos h]
  exact h1 h
 ·rw[if_neg h]
  exact h2 h
noncomputable def Same(H H':Hp):Prop:=∀b o,H b=some o→H' b=some o
theorem Same.refl(H:Hp):Same H H:=fun _ _ h=>h
theorem Same.trans{H H1 H2:Hp}(a:Same H H1)(b:Same H1 H2):Same H H2:=fun c o h=>b c o (a c o h)
theorem Same.free{H H':Hp}(e:Same H H'){l:Addr}(h:H' l=Option.none):H l=Option.none:=by
 cases q:H l with
 |none=>rfl
 |some o=>
  rw[e l o q]at h
  cases h
theorem Same.seq{K:PySem.W.Frag}{H H':Hp}{a:Addr}{xs:List V}(e:Same H H')(h:SqL K H a xs):SqL K H' a xs:=by
 rcases h with(h|⟨o,h⟩)|h
 ·exact .inl (.inl (e _ _ h))
 ·exact .inl (.inr ⟨o,e _ _ h⟩)
 ·exact .inr h
section
variable {κ:Type}[DecidableEq κ]
theorem valV_in{kvs:List (κ×V)}{k:κ}{v:V}(h:valV kvs k=some v):k∈kvs.map (·.1):=by
 have q:(kvs.any fun kv=>decide (kv.1=k))=true:=by
  rw[valV_any,h]
  all_goals rfl
 obtain⟨p,hp,e⟩:=List.any_eq_true.mp q
 exact List.mem_map.mpr ⟨p,hp,of_decide_eq_true e⟩
end
theorem at_of{xs:List V}{z:Int}{j:Nat}{v:V}(e:z=(j:Int))(h:xs[j]?=some v):atI xs z=some v:=by
 rw[e]
 exact atI_nat h
theorem nd_ix{α:Type}{l:List α}(hN:l.Nodup){i j:Nat}{x:α}(a:l[i]?=some x)(b:l[j]?=some x):i=j:=by
 obtain⟨h1,e1⟩:=List.getElem?_eq_some_iff.mp a
 obtain⟨h2,e2⟩:=List.getElem?_eq_some_iff.mp b
 exact(List.getElem_inj hN).mp (e1.trans e2.symm)
end L2
end
section
namespace L2
open PySem PySem.Spec PyProof.Rows
open PySem.W (WData Codec OpenSpec Well WellAll ReadsW ReadsAllW)
mutual
inductive Dw(K:PySem.W.Frag)(H:Hp):V→WData→Prop
 |non:Dw K H .non .none
 |bl (b:Bool):Dw K H (.bl b) (.bool b)
 |int (i:Int):Dw K H (.int i) (.int i)
 |str (x:Str):Dw K H (.str x) (.str x)
 |byt (b:Array UInt8):Dw K H (.byt b) (.bytes b.toList)
 |lst {a:Addr} {xs:List V} {ds:List WData}:SqL K H a xs→DwAll K H xs ds→Dw K H (.ref a) (.list ds)
 |tup {a:Addr} {xs:List V} {ds:List WData}:SqT K H a xs→DwAll K H xs ds→Dw K H (.ref a) (.tuple ds)
inductive DwAll(K:PySem.W.Frag)(H:Hp):List V→List WData→Prop
 |nil:DwAll K H [] []
 |cons {v:V} {vs:List V} {d:WData} {ds:List WData}:Dw K H v d→DwAll K H vs ds→DwAll K H (v::vs) (d::ds)
end
theorem dw_ints{K:PySem.W.Frag}{H:Hp}:∀ns:List Int,DwAll K H (ns.map V.int) (ns.map WData.int)
 |[]=>.nil
 |n::r=>.cons (.int n) (dw_ints r)
theorem ints_dw{K:PySem.W.Frag}{H:Hp}:∀(ns:List Int) (xs:List V),DwAll K H xs (ns.map WData.int)→xs=ns.map V.int
 |[],xs,h=>by
  cases h
  rfl
 |n::r,xs,h=>by
  cases h with
  |cons h1 h2=>
   cases h1
   rw[ints_dw r _ h2]<;>rfl
section
variable {P:Program}{w:World}{K:PySem.W.Frag}{H:Hp}{h:Heap}{R:PySem.W.WRecords}{cl:Str→Option Addr}
theorem sqL_at{a:Addr}{xs:List V}(hok:HOk P w H h)(KX:K.In h)(q:SqL K H a xs):∃(its:List Value) (o:Obj) (n:Nat),Vals xs its∧h.get? a=some o∧o.cls=.type "list"∧o.data=.seq its.toArray n:=by
 rcases q with q|⟨o,its,n,e,hc,_,hd,_,hv⟩
 ·obtain⟨_,its,n,hv,e⟩:=(show ObjOk P w H h a (.lst xs)from q.ok hok)
  exact⟨its,_,n,hv,e,rfl,rfl⟩
 ·exact⟨its.toList,o,n,hv,KX _ _ e,hc,by simp[hd]⟩
theorem sqT_at{a:Addr}{xs:List V}(hok:HOk P w H h)(KX:K.In h)(q:SqT K H a xs):∃(its:List Value) (o:Obj) (n:Nat),Vals xs its∧h.get? a=some o∧o.cls=.type "tuple"∧o.data=.seq its.toArray n:=by
 rcases q with q|⟨o,its,n,e,hc,hd,_,hv⟩
 ·obtain⟨_,its,hv,o,e,hc,n,hd⟩:=(show ObjOk P w H h a (.tup xs)from q.ok hok)
  exact⟨its,o,n,hv,e,hc,hd⟩
 ·exact⟨its.toList,o,n,hv,KX _ _ e,hc,by simp[hd]⟩
mutual
theorem Dw.reads(hok:HOk P w H h)(KX:K.In h):∀(d:WData) (v:V) (u:Value),Dw K H v d→RelV v u→∃as,ReadsW R cl h u d as
 | .none,_,_,x,r=>by
  cases x
  cases r
  exact⟨_,ReadsW.none⟩
 | .bool b,_,_,x,r=>by
  cases x
  cases r
  exact⟨_,ReadsW.bool b⟩
 | .int i,_,_,x,r=>by
  cases x
  obtain⟨t,rfl⟩:=r
  exact⟨_,ReadsW.int i t⟩
 | .str s,_,_,x,r=>by
  cases x
  obtain⟨t,rfl⟩:=r
  exact⟨_,ReadsW.str s t⟩
 | .bytes b,_,_,x,r=>by
  cases x
  obtain⟨t,rfl⟩:=r
  exact⟨_,ReadsW.bytes _ t⟩
 | .list ds,_,_,x,r=>by
  cases x with
  |lst hs ha=>
   cases r
   obtain⟨its,o,n,rv,ho,hc,hd⟩:=sqL_at hok KX hs
   obtain⟨as,hr⟩:=Dw.readsAll hok KX ds _ its ha rv
   exact⟨_,ReadsW.list ho hc hd hr⟩
 | .tuple ds,_,_,x,r=>by
  cases x with
  |tup hs ha=>
   cases r
   obtain⟨its,o,n,rv,ho,hc,hd⟩:=sqT_at hok KX hs
   obtain⟨as,hr⟩:=Dw.readsAll hok KX ds _ its ha rv
   exact⟨_,ReadsW.tuple ho hc hd hr⟩
 | .float _,_,_,x,_=>by cases x
 | .dict _,_,_,x,_=>by cases x
 | .bytearray _,_,_,x,_=>by cases x
 | .set _,_,_,x,_=>by cases x
 | .frozenset _,_,_,x,_=>by cases x
 | .obj _ _,_,_,x,_=>by cases x
theorem Dw.readsAll(hok:HOk P w H h)(KX:K.In h):∀(ds:List WData) (vs:List V) (us:List Value),DwAll K H vs ds→Vals vs us→∃as,ReadsAllW R cl h us ds as
 |[],_,_,x,r=>by
  cases x
  cases r
  exact⟨_,ReadsAllW.nil⟩
 |d::ds,_,_,x,r=>by
  cases x with
  |cons h1 h2=>
   cases r with
   |cons r1 r2=>
    obtain⟨as,q1⟩:=Dw.reads hok KX d _ _ h1 r1
    obtain⟨bs,q2⟩:=Dw.readsAll hok KX ds _ _ h2 r2
    exact⟨_,ReadsAllW.cons q1 q2⟩
end
end
mutual
noncomputable def plW:WData→Bool
 | .none=>true
 | .bool _=>true
 | .int _=>true
 | .str _=>true
 | .bytes _=>true
 | .list xs=>plWs xs
 | .tuple xs=>plWs xs
 |_=>false
noncomputable def plWs:List WData→Bool
 |[]=>true
 |x::r=>plW x&&plWs r
end
theorem plWs_map{α:Type}{f:α→WData}(h:∀a,plW (f a)=true):∀l:List α,plWs (l.map f)=true
 |[]=>rfl
 |x::r=>by
  show(plW (f x)&&plWs (r.map f))=true
  rw[h x,plWs_map h r]<;>rfl
theorem pl_enc:∀(c:Codec) (a:c.denote),plW (c.enc a)=true
 | .unit,_=>rfl
 | .bool,_=>rfl
 | .int _ _,_=>rfl
 | .nat _ _,_=>rfl
 | .u8,_=>rfl
 | .bytes _ _,_=>rfl
 | .text _ _ _ _,_=>rfl
 | .list _ _ c,a=>plWs_map (fun x=>pl_enc c x) a
 | .pair c d,a=>by
  show(plW (c.enc a.1)&&(plW (d.enc a.2)&&true))=true
  rw[pl_enc c a.1,pl_enc d a.2]<;>rfl
 | .triple c d e,a=>by
  show(plW (c.enc a.1)&&(plW (d.enc a.2.1)&&(plW (e.enc a.2.2)&&true)))=true
  rw[pl_enc c a.1,pl_enc d a.2.1,pl_enc e a.2.2]<;>rfl
 | .option c,none=>rfl
 | .option c,some x=>pl_enc c x
theorem pl_encAll:∀(cs:List Codec) (a:Codec.denoteAll cs),plWs (Codec.encAll cs a)=true
 |[],_=>rfl
 |c::cs,a=>by
  show(plW (c.enc a.1)&&plWs (Codec.encAll cs a.2))=true
  rw[pl_enc c a.1,pl_encAll cs a.2]<;>rfl
theorem weight_mem:∀{xs:List WData} {d:WData},d∈xs→d.weight≤WData.weightAll xs
 |[],d,h=>absurd h (by simp)
 |x::r,d,h=>by
  show d.weight≤x.weight+1+WData.weightAll r
  rcases List.mem_cons.mp h with e|m
  ·rw[e]
   omega
  ·have z:=weight_mem m
   omega
noncomputable def toV:Value→V
 | .none=>.non
 | .bool b=>.bl b
 | .int i _=>.int i
 | .str x _=>.str x
 | .bytes b _=>.byt b
 | .ref a=>.ref a
 |_=>.non
noncomputable def OkU(A:List Addr):Value→Prop
 | .none=>True
 | .bool _=>True
 | .int _ _=>True
 | .str _ _=>True
 | .bytes _ _=>True
 | .ref a=>a∈A
 |_=>False
theorem OkU.mono{A B:List Addr}(h:∀a∈A,a∈B):∀{u:Value},OkU A u→OkU B u:=fun{u} x=>by
 cases u with
 |ref a=>exact h a x
 |none=>trivial
 |bool b=>trivial
 |int i t=>trivial
 |str s t=>trivial
 |bytes b t=>trivial
 |_=>exact False.elim x
theorem relV_toV{A:List Addr}{u:Value}(x:OkU A u):RelV (toV u) u:=by
 cases u with
 |ref a=>rfl
 |none=>rfl
 |bool b=>rfl
 |int i t=>exact⟨t,rfl⟩
 |str s t=>exact⟨t,rfl⟩
 |bytes b t=>exact⟨t,rfl⟩
 |_=>exact False.elim x
theorem vals_toV{A:List Addr}:∀{vs:List Value},(∀u∈vs,OkU A u)→Vals (vs.map toV) vs
 |[],_=>.nil
 |u::r,h=>.cons (relV_toV (h u (List.mem_cons_self ..))) (vals_toV fun x hx=>h x (List.mem_cons_of_mem _ hx))
noncomputable def ArgOb(h:Heap)(A:List Addr)(a:Addr):Prop:=∃vs:List Value,vs.length≤sizeLine∧(∀u∈vs,OkU A u)∧
 (h.get? a=some { cls:=.type "list",data:=.seq vs.toArray }∨h.get? a=some { cls:=.type "tuple",data:=.seq vs.toArray })
theorem ArgOb.mono{h:Heap}{A B:List Addr}{a:Addr}(k:∀a∈A,a∈B)(x:ArgOb h A a):ArgOb h B a:=by
 obtain⟨vs,h1,h2,h3⟩:=x
 exact⟨vs,h1,fun u hu=>(h2 u hu).mono k,h3⟩
theorem wellAll_len{P:Params}{h:Heap}:∀{vs:List Value} {ds:List WData},WellAll P h vs ds→vs.length=ds.length
 |_,_,.nil=>rfl
 |_,_,.cons _ b=>by
  show _+1=_+1
  rw[wellAll_len b]
theorem well_list{P:Params}{h:Heap}{v:Value}{ds:List WData}(x:Well P h v (.list ds)):∃(a:Addr) (vs:List Value),v=.ref a∧h.get? a=some { cls:=.type "list",data:=.seq vs.toArray }∧WellAll P h vs ds:=by
 cases x with
 |list ho hall=>exact⟨_,_,rfl,ho,hall⟩
theorem well_tuple{P:Params}{h:Heap}{v:Value}{ds:List WData}(x:Well P h v (.tuple ds)):∃(a:Addr) (vs:List Value),v=.ref a∧h.get? a=some { cls:=.type "tuple",data:=.seq vs.toArray }∧WellAll P h vs ds:=by
 cases x with
 |tuple ho hall=>exact⟨_,_,rfl,ho,hall⟩
theorem well_cons{P:Params}{h:Heap}{us:List Value}{d:WData}{ds:List WData}(x:WellAll P h us (d::ds)):∃(v:Value) (vs:List Value),us=v::vs∧Well P h v d∧WellAll P h vs ds:=by
 cases x with
 |cons a b=>exact⟨_,_,rfl,a,b⟩
theorem line_of{n:Nat}(h:n≤1048576):n≤sizeLine:=Nat.le_trans h (by decide)
section
variable {P:Params}{h:Heap}
mutual
theorem area_one:∀(d:WData) (v:Value),Well P h v d→plW d=true→d.weight≤1048576→∃A:List Addr,OkU A v∧∀a∈A,ArgOb h A a
 | .none,_,x,_,_=>by
  cases x
  exact⟨[],trivial,fun a m=>absurd m (by simp)⟩
 | .bool b,_,x,_,_=>by
  cases x
  exact⟨[],trivial,fun a m=>absurd m (by simp)⟩
 | .int i,_,x,_,_=>by
  cases x
  exact⟨[],trivial,fun a m=>absurd m (by simp)⟩
 | .str s,_,x,_,_=>by
  cases x
  exact⟨[],trivial,fun a m=>absurd m (by simp)⟩
 | .bytes b,_,x,_,_=>by
  cases x
  exact⟨[],trivial,fun a m=>absurd m (by simp)⟩
 | .list ds,_,x,p,z=>by
  obtain⟨a,vs,rfl,ho,hall⟩:=well_list x
  have z2:WData.weightAll ds≤1048576:=z
  obtain⟨A,h1,h2⟩:=area_all ds _ hall p fun d hd=>Nat.le_trans (weight_mem hd) z2
  have k:∀b∈A,b∈a::A:=fun b hb=>List.mem_cons_of_mem _ hb
  refine⟨a::A,List.mem_cons_self ..,fun b hb=>?_⟩
  rcases List.mem_cons.mp hb with e|m
  ·rw[e]
   exact⟨vs,line_of (by rw[wellAll_len hall];exact Nat.le_trans (PySem.W.length_le_weightAllW ds) z2),fun u hu=>(h1 u hu).mono k,.inl ho⟩
  ·exact(h2 b m).mono k
 | .tuple ds,_,x,p,z=>by
  obtain⟨a,vs,rfl,ho,hall⟩:=well_tuple x
  have z2:WData.weightAll ds≤1048576:=z
  obtain⟨A,h1,h2⟩:=area_all ds _ hall p fun d hd=>Nat.le_trans (weight_mem hd) z2
  have k:∀b∈A,b∈a::A:=fun b hb=>List.mem_cons_of_mem _ hb
  refine⟨a::A,List.mem_cons_self ..,fun b hb=>?_⟩
  rcases List.mem_cons.mp hb with e|m
  ·rw[e]
   exact⟨vs,line_of (by rw[wellAll_len hall];exact Nat.le_trans (PySem.W.length_le_weightAllW ds) z2),fun u hu=>(h1 u hu).mono k,.inr ho⟩
  ·exact(h2 b m).mono k
 | .float _,_,_,p,_=>Bool.noConfusion (show false=true from p)
 | .dict _,_,_,p,_=>Bool.noConfusion (show false=true from p)
 | .bytearray _,_,_,p,_=>Bool.noConfusion (show false=true from p)
 | .set _,_,_,p,_=>Bool.noConfusion (show false=true from p)
 | .frozenset _,_,_,p,_=>Bool.noConfusion (show false=true from p)
 | .obj _ _,_,_,p,_=>Bool.noConfusion (show false=true from p)
theorem area_all:∀(ds:List WData) (vs:List Value),WellAll P h vs ds→plWs ds=true→(∀d∈ds,d.weight≤1048576)→∃A:List Addr,(∀u∈vs,OkU A u)∧∀a∈A,ArgOb h A a
 |[],_,x,_,_=>by
  cases x
  exact⟨[],fun u m=>absurd m (by simp),fun a m=>absurd m (by simp)⟩
 |d::ds,_,x,p,z=>by
  obtain⟨v,vs,rfl,x1,x2⟩:=well_cons x
  have q:plW d=true∧plWs ds=true:=Bool.and_eq_true_iff.mp p
  obtain⟨A,a1,a2⟩:=area_one d v x1 q.1 (z d (List.mem_cons_self ..))
  obtain⟨B,b1,b2⟩:=area_all ds vs x2 q.2 fun e he=>z e (List.mem_cons_of_mem _ he)
  have kA:∀b∈A,b∈A++B:=fun b hb=>List.mem_append.mpr (.inl hb)
  have kB:∀b∈B,b∈A++B:=fun b hb=>List.mem_append.mpr (.inr hb)
  refine⟨A++B,fun u hu=>?_,fun b hb=>?_⟩
  ·rcases List.mem_cons.mp hu with e|m
   ·rw[e]
    exact a1.mono kA
   ·exact(b1 u m).mono kB
  ·rcases List.mem_append.mp hb with m|m
   ·exact(a2 b m).mono kA
   ·exact(b2 b m).mono kB
end
end
noncomputable def hoOf(o:Obj):Option HO:=match o.data with
 | .seq vs _=>if(o.cls==Value.type "list")=true then some (.frz o (.lst (vs.toList.map toV)))else some (.frz o (.tup (vs.toList.map toV)))
 |_=>none
noncomputable def argH(K:PySem.W.Frag)(h:Heap)(A:List Addr):Hp:=fun b=>if b∈A then(if(K.lookup b).isNone=true then(h.get? b).bind hoOf else none)else none
noncomputable def OnlyF(H:Hp):Prop:=∀b,H b=none∨∃o u,H b=some (.frz o u)
theorem hoOf_lst(vs:List Value):hoOf { cls:=.type "list",data:=.seq vs.toArray }=some (.frz { cls:=.type "list",data:=.seq vs.toArray } (.lst (vs.map toV))):=by
 show(if(Value.type "list"==Value.type "list")=true then some (HO.frz { cls:=.type "list",data:=.seq vs.toArray } (.lst (vs.toArray.toList.map toV)))else some (HO.frz { cls:=.type "list",data:=.seq vs.toArray } (.tup (vs.toArray.toList.map toV))))=_
 rw[if_pos (beq_self_eq_true _)]
theorem hoOf_tup(vs:List Value):hoOf { cls:=.type "tuple",data:=.seq vs.toArray }=some (.frz { cls:=.type "tuple",data:=.seq vs.toArray } (.tup (vs.map toV))):=by
 show(if(Value.type "tuple"==Value.type "list")=true then some (HO.frz { cls:=.type "tuple",data:=.seq vs.toArray } (.lst (vs.toArray.toList.map toV)))else some (HO.frz { cls:=.type "tuple",data:=.seq vs.toArray } (.tup (vs.toArray.toList.map toV))))=_
 rw[if_neg (by decide)]
section
variable {P:Program}{w:World}{K:PySem.W.Frag}{h:Heap}{A:List Addr}
theorem argH_at{b:Addr}{o:Obj}(hb:b∈A)(hk:K.lookup b=none)(e:h.get? b=some o):argH K h A b=hoOf o:=by
 unfold argH
 rw[if_pos hb,hk,if_pos (show(none:Option Obj).isNone=true from rfl),e]<;>rfl
theorem of_argH{b:Addr}{u:HO}(q:argH K h A b=some u):b∈A∧K.lookup b=none:=by
 unfold argH at q
 by_cases hb:b∈A
 ·rw[if_pos hb]at q
  cases hk:K.lookup b with
  |none=>exact⟨hb,rfl⟩
  |some o=>
   rw[hk,if_neg (by simp)]at q
   cases q
 ·rw[if_neg hb]at q
  cases q
theorem argH_is(ar:∀a∈A,ArgOb h A a){b:Addr}{u:HO}(q:argH K h A b=some u):K.lookup b=none∧∃vs:List Value,vs.length≤sizeLine∧(∀u∈vs,OkU A u)∧
  ((h.get? b=some { cls:=.type "list",data:=.seq vs.toArray }∧u=.frz { cls:=.type "list",data:=.seq vs.toArray } (.lst (vs.map toV)))∨
   (h.get? b=some { cls:=.type "tuple",data:=.seq vs.toArray }∧u=.frz { cls:=.type "tuple",data:=.seq vs.toArray } (.tup (vs.map toV)))):=by
 obtain⟨hb,hk⟩:=of_argH q
 obtain⟨vs,h1,h2,h3⟩:=ar b hb
 refine⟨hk,vs,h1,h2,?_⟩
 rcases h3 with e|e
 ·rw[argH_at hb hk e,hoOf_lst]at q
  exact .inl ⟨e,(Option.some.inj q).symm⟩
 ·rw[argH_at hb hk e,hoOf_tup]at q
  exact .inr ⟨e,(Option.some.inj q).symm⟩
theorem argH_only(ar:∀a∈A,ArgOb h A a):OnlyF (argH K h A):=fun b=>by
 cases q:argH K h A b with
 |none=>exact .inl rfl
 |some u=>
  obtain⟨_,vs,_,_,⟨_,e⟩|⟨_,e⟩⟩:=argH_is ar q
  ·exact .inr ⟨_,_,by rw[e]⟩
  ·exact .inr ⟨_,_,by rw[e]⟩
theorem argH_ok(ar:∀a∈A,ArgOb h A a):HOk P w (argH K h A) h:=fun b u q=>by
 obtain⟨_,vs,h1,h2,⟨e,rfl⟩|⟨e,rfl⟩⟩:=argH_is ar q
 ·exact⟨e,by rw[List.length_map];exact h1,vs,_,vals_toV h2,e⟩
 ·exact⟨e,by rw[List.length_map];exact h1,vs,vals_toV h2,_,e,rfl,_,rfl⟩
theorem seq_inj{c c':Value}{vs us:List Value}(e:(some { cls:=c,data:=.seq vs.toArray }:Option Obj)=some { cls:=c',data:=.seq us.toArray }):c=c'∧vs=us:=by
 have e1:=Option.some.inj e
 have e2:c=c':=congrArg Obj.cls e1
 have e3:Data.seq vs.toArray=Data.seq us.toArray:=congrArg Obj.data e1
 injection e3 with e4
 refine⟨e2,?_⟩
 have e5:=congrArg Array.toList e4
 simpa using e5
theorem argL(KX:K.In h)(ar:∀a∈A,ArgOb h A a){a:Addr}{vs:List Value}(ha:a∈A)(e:h.get? a=some { cls:=.type "list",data:=.seq vs.toArray }):(∀u∈vs,OkU A u)∧SqL K (argH K h A) a (vs.map toV):=by
 obtain⟨us,h1,h2,h3⟩:=ar a ha
 have hu:us=vs:=by
  rcases h3 with q|q
  ·rw[e]at q
   exact(seq_inj q).2.symm
  ·rw[e]at q
   exact absurd (Value.type.inj (seq_inj q).1) (by decide)
 subst hu
 refine⟨h2,?_⟩
 cases hk:K.lookup a with
 |none=>exact .inl (.inr ⟨_,by rw[argH_at ha hk e,hoOf_lst]⟩)
 |some o=>
  have e2:=KX a o hk
  rw[e]at e2
  obtain rfl:=Option.some.inj e2
  exact .inr ⟨_,us.toArray,_,hk,rfl,rfl,rfl,by rw[List.size_toArray];exact h1,by simpa using vals_toV h2⟩
theorem argT(KX:K.In h)(ar:∀a∈A,ArgOb h A a){a:Addr}{vs:List Value}(ha:a∈A)(e:h.get? a=some { cls:=.type "tuple",data:=.seq vs.toArray }):(∀u∈vs,OkU A u)∧SqT K (argH K h A) a (vs.map toV):=by
 obtain⟨us,h1,h2,h3⟩:=ar a ha
 have hu:us=vs:=by
  rcases h3 with q|q
  ·rw[e]at q
   exact absurd (Value.type.inj (seq_inj q).1) (by decide)
  ·rw[e]at q
   exact(seq_inj q).2.symm
 subst hu
 refine⟨h2,?_⟩
 cases hk:K.lookup a with
 |none=>exact .inl (.inr ⟨_,by rw[argH_at ha hk e,hoOf_tup]⟩)
 |some o=>
  have e2:=KX a o hk
  rw[e]at e2
  obtain rfl:=Option.some.inj e2
  exact .inr ⟨_,us.toArray,_,hk,rfl,rfl,by rw[List.size_toArray];exact h1,by simpa using vals_toV h2⟩
mutual
theorem dw_one{Pm:Params}(KX:K.In h)(ar:∀a∈A,ArgOb h A a):∀(d:WData) (v:Value),Well Pm h v d→plW d=true→OkU A v→Dw K (argH K h A) (toV v) d
 | .none,_,x,_,_=>by
  cases x
  exact .non
 | .bool b,_,x,_,_=>by
  cases x
  exact .bl b
 | .int i,_,x,_,_=>by
  cases x
  exact .int i
 | .str s,_,x,_,_=>by
  cases x
  exact .str s
 | .bytes b,_,x,_,_=>by
  cases x
  have z:=Dw.byt (K:=K) (H:=argH K h A) b.toArray
  exact z
 | .list ds,_,x,p,hu=>by
  obtain⟨a,vs,rfl,ho,hall⟩:=well_list x
  obtain⟨h2,hs⟩:=argL KX ar hu ho
  exact .lst hs (dw_all KX ar ds _ hall p h2)
 | .tuple ds,_,x,p,hu=>by
  obtain⟨a,vs,rfl,ho,hall⟩:=well_tuple x
  obtain⟨h2,hs⟩:=argT KX ar hu ho
  exact .tup hs (dw_all KX ar ds _ hall p h2)
 | .float _,_,_,p,_=>Bool.noConfusion (show false=true from p)
 | .dict _,_,_,p,_=>Bool.noConfusion (show false=true from p)
 | .bytearray _,_,_,p,_=>Bool.noConfusion (show false=true from p)
 | .set _,_,_,p,_=>Bool.noConfusion (show false=true from p)
 | .frozenset _,_,_,p,_=>Bool.noConfusion (show false=true from p)
 | .obj _ _,_,_,p,_=>Bool.noConfusion (show false=true from p)
theorem dw_all{Pm:Params}(KX:K.In h)(ar:∀a∈A,ArgOb h A a):∀(ds:List WData) (vs:List Value),WellAll Pm h vs ds→plWs ds=true→(∀u∈vs,OkU A u)→DwAll K (argH K h A) (vs.map toV) ds
 |[],_,x,_,_=>by
  cases x
  exact .nil
 |d::ds,_,x,p,hu=>by
  obtain⟨v,vs,rfl,x1,x2⟩:=well_cons x
  have q:plW d=true∧plWs ds=true:=Bool.and_eq_true_iff.mp p
  exact .cons (dw_one KX ar d v x1 q.1 (hu _ (List.mem_cons_self ..))) (dw_all KX ar ds vs x2 q.2 fun u m=>hu u (List.mem_cons_of_mem _ m))
end
end
theorem spec_call{P:Program}{w:World}{K:PySem.W.Frag}{mg mb:Str→Option Value}{CX:CXT}{k:Nat}{fa:Addr}{fd:FuncData}{ps:List Str}{sp:Sp}{s₁:Shared}{vals:List Value}{ds:List WData}{R:PySem.W.WRecords}{cl:Str→Option Addr}{d0:WData}
  (KX:K.In s₁.heap) (hns:s₁.heap.Ns mainGlobals mg) (hb:s₁.heap.Ns builtinsNs mb) (hbb:∀x:Str,x≠"__name__"→mb x=bootBuiltins x) (hlim:s₁.heap.NoLimit) (hg:s₁.gens = #[])
  (hwl:WellAll w.params s₁.heap vals ds) (hpl:plWs ds=true) (hwt:∀d∈ds,d.weight≤1048576) (hr:Room k callerA)
  (F:∀base:Heap,K.In base→base.Ns mainGlobals mg→FnOk P w K mg base CX k fa fd ps sp) (hbind:∀(s:Shared) (us:List Value),us.length=ps.length→BindsTo s fd ⟨us,[]⟩ (ps.zip us)) (hlen:ds.length=ps.length)
  (hsp:∀(H:Hp) (xs:List V),OnlyF H→DwAll K H xs ds→sp xs H (fun v H'=>Dw K H' v d0) fun _ _ _=>False)
  (hCX:∀H e s',CX [] H s₁ (fun _ _ _=>False) e s'→False):
  codeAny (model P w) callerA (.call (.ref fa) ⟨vals,[]⟩) (fun r s'=>∃u as,r=.ok (.ret u)∧ReadsW R cl s'.heap u d0 as∧OldK s₁.heap s'.heap∧s'.os=s₁.os∧AllBare s'.gens) s₁:=by
 obtain⟨A,ho,ar⟩:=area_all ds vals hwl hpl hwt
 have hO:OnlyF (argH K s₁.heap A):=argH_only ar
 have hok:HOk P w (argH K s₁.heap A) s₁.heap:=argH_ok ar
 have hS:=dw_all KX ar ds vals hwl hpl ho
 have hV:=vals_toV ho
 have hK:∀b u,argH K s₁.heap A b=some u→K.lookup b=none:=fun b u q=>(argH_is ar q).1
 have noA:∀{b:Addr} {o:Obj} {es:Array DictEntry} {ep:Nat},s₁.heap.get? b=some o→o.data=.dict es ep→argH K s₁.heap A b=none:=fun{b o es ep} e d=>by
  cases q:argH K s₁.heap A b with
  |none=>rfl
  |some u=>
   obtain⟨_,vs,_,_,⟨e2,_⟩|⟨e2,_⟩⟩:=argH_is ar q
   ·rw[e2]at e
    cases e
    have d':Data.seq vs.toArray _=Data.dict es ep:=d
    cases d'
   ·rw[e2]at e
    cases e
    have d':Data.seq vs.toArray _=Data.dict es ep:=d
    cases d'
 generalize argH K s₁.heap A=H at hO hok hS hK noA
 have base_of:∀{b:Addr} {o:Obj},s₁.heap.get? b=some o→H b=none→(hidT s₁.heap H).get? b=some o:=fun e n=>hidT_get e n
 have nsK:∀{b:Addr} {m:Str→Option Value},s₁.heap.Ns b m→(hidT s₁.heap H).Ns b m:=fun{b m} ⟨o,es,ep,e,d,r⟩=>⟨o,es,ep,base_of e (noA e d),d,r⟩
 have nK:∀b o,K.lookup b=some o→H b=none:=fun b o e=>by
  cases q:H b with
  |none=>rfl
  |some u=>
   rw[hK b u q]at e
   cases e
 have hKb:K.In (hidT s₁.heap H):=fun b o e=>base_of (KX b o e) (nK b o e)
 have hM:Mod K mg (hidT s₁.heap H):=⟨hKb,nsK hns,⟨mb,nsK hb,hbb⟩,let⟨mc,h1,h2⟩:=hlim;⟨mc,nsK h1,h2⟩⟩
 have e0:Env0 P w K mg (hidT s₁.heap H) callerA [] s₁ H:=⟨rfl,hM,fun b o e=>of_hidT e,Nat.le_of_eq (hidT_size _ _),trivial,fun b hb=>absurd (show b∈([]:List Addr)from hb) (by simp),hok,.of_eq hg⟩
 have hl:vals.length=ps.length:=by rw[wellAll_len hwl];exact hlen
 refine codeAny_mono ((F _ hKb (nsK hns)).run callerA [] s₁ H ⟨vals,[]⟩ vals (vals.map toV) _ _ hr e0 (hbind s₁ vals hl) hV (hsp H _ hO hS)) fun r s' x=>?_
 cases r with
 |error e=>exact(hCX H e s' x).elim
 |ok fl=>
  cases fl with
  |next=>exact False.elim x
  |brk=>exact False.elim x
  |cont=>exact False.elim x
  |ret u=>
   obtain⟨v,H',os,bare,un,hok',r',q⟩:=x
   have kept:∀b o,s₁.heap.get? b=some o→s'.heap.get? b=some o:=fun b o e=>by
    cases q2:H b with
    |none=>exact un.keep b o e q2 (by intro z;exact absurd (show b∈([]:List Addr)from z) (by simp)) (by simp)
    |some u2=>
     rcases hO b with z|⟨ob,u3,z⟩
     ·rw[q2]at z
      cases z
     ·have z2:=un.frzs b ob _ z
      obtain⟨e1,_⟩:=hok b _ z
      obtain⟨e2,_⟩:=hok' b _ z2
      rw[e]at e1
      cases e1
      exact e2
   have KX':K.In s'.heap:=fun b o e=>kept b o (KX b o e)
   obtain⟨as,hrd⟩:=Dw.reads (R:=R) (cl:=cl) hok' KX' d0 v u q r'
   exact⟨u,as,rfl,hrd,OldK.of_keep kept,os,bare⟩
theorem layable_weight{ds:List WData}(h:WData.layableAll ds=true):∀d∈ds,d.weight≤1048576:=fun d hd=>
 (PySem.W.layableW_iff.mp (List.all_eq_true.mp h d hd)).2.2
theorem encAll_len:∀(cs:List Codec) (a:Codec.denoteAll cs),(Codec.encAll cs a).length=cs.length
 |[],_=>rfl
 |c::cs,a=>by
  show(Codec.encAll cs a.2).length+1=cs.length+1
  rw[encAll_len cs a.2]
theorem walk_spec{r:OpenSpec}{k:Nat}{q:Program}{loose:List Str}{XP:(Str→Option Value)→Heap→Prop}{YP:World→Heap→Prop}{d:DefRec}{K:Params→PySem.W.Frag}{CX:World→CXT}{ps:List Str}{sp:World→Sp}
  (hwell:r.wellSaid=true) (hdf:d.params.defaults=[]) (hlen:r.args.length=ps.length) (hr:Room k callerA)
  (hY:∀(w:World) (h:Heap),YP w h→(K w.params).In h)
  (F:∀(w:World) (mg:Str→Option Value) (fa:Addr) (h:Heap),YP w h→(K w.params).In h→h.Ns mainGlobals mg→mg d.name=some (.ref fa)→
   ∃fd:FuncData,(∀(s:Shared) (us:List Value),us.length=ps.length→BindsTo s fd ⟨us,[]⟩ (ps.zip us))∧
    ∀base:Heap,(K w.params).In base→base.Ns mainGlobals mg→FnOk r.prog w (K w.params) mg base (CX w) k fa fd ps (sp w))
  (hsp:∀(w:World) (H:Hp) (xs:List V) (a:Codec.denoteAll r.args),OnlyF H→Codec.withinAll r.args a=true→Codec.app r.args r.asked a=true→DwAll (K w.params) H xs (Codec.encAll r.args a)→
   sp w xs H (fun v H'=>Dw (K w.params) H' v (r.ret.enc (Codec.app r.args r.f a))) fun _ _ _=>False)
  (hCX:∀(w:World) (H:Hp) (s:Shared) (e:Value) (s':Shared),CX w [] H s (fun _ _ _=>False) e s'→False):
  PySem.W.WalkOS q loose XP YP r d [] (fun f vs=>PySem.call f vs):=by
 intro w s_0 s₁ mg mb G Y fa o pm cd doc dV kV ho hd hcd hD hmg hg args vals as hpre hlay hrd hwl hlo
 obtain⟨a,e1,e2⟩:=PySem.W.os_pre_some hpre
 obtain⟨e3,hwi⟩:=Codec.encAll_of_decAll r.args args a e1
 subst e3
 have KX:=hY w _ Y
 obtain⟨fd,hb,hF⟩:=F w mg fa _ Y KX G.T.g hmg
 refine PySem.W.enter_call (codeAny_mono (spec_call (R:=[]) (cl:=classAt s_0.heap) (d0:=r.ret.enc (Codec.app r.args r.f a)) KX G.T.g G.T.b G.T.builtins G.T.nolimit hg hwl (pl_encAll _ _) (layable_weight hlay) hr hF hb (by rw[encAll_len];exact hlen)
  (fun H xs hO hS=>hsp w H xs a hO hwi e2 hS) fun H e s'=>hCX w H s₁ e s') fun r' s' hq=>?_)
 obtain⟨u,as',rfl,h1,h2,h3,h4⟩:=hq
 exact⟨.inl ⟨u,_,as',rfl,fun _=>rfl,h1,(OpenSpec.post_iff hwell hwi _ _).mpr rfl,fun z=>Bool.noConfusion (show false=true from z)⟩,h2,h3,h4⟩
theorem walk_specK{r:OpenSpec}{k:Nat}{q:Program}{loose:List Str}{XP:(Str→Option Value)→Heap→Prop}{YP:World→Heap→Prop}{d:DefRec}{K:Params→PySem.W.Frag}{CX:CXT}{ps:List Str}{sp:PySem.W.Frag→Sp}
  (hwell:r.wellSaid=true) (hdf:d.params.defaults=[]) (hlen:r.args.length=ps.length) (hr:Room k callerA)
  (hY:∀(w:World) (h:Heap),YP w h→(K w.params).In h)
  (F:∀(w:World) (mg:Str→Option Value) (fa:Addr) (h:Heap),YP w h→(K w.params).In h→h.Ns mainGlobals mg→mg d.name=some (.ref fa)→
   ∃fd:FuncData,(∀(s:Shared) (us:List Value),us.length=ps.length→BindsTo s fd ⟨us,[]⟩ (ps.zip us))∧
    ∀base:Heap,(K w.params).In base→base.Ns mainGlobals mg→FnOk r.prog w (K w.params) mg base CX k fa fd ps (sp (K w.params)))
  (hsp:∀(K:PySem.W.Frag) (H:Hp) (xs:List V) (a:Codec.denoteAll r.args),OnlyF H→Codec.withinAll r.args a=true→Codec.app r.args r.asked a=true→DwAll K H xs (Codec.encAll r.args a)→
   sp K xs H (fun v H'=>Dw K H' v (r.ret.enc (Codec.app r.args r.f a))) fun _ _ _=>False)
  (hCX:∀(H:Hp) (s:Shared) (e:Value) (s':Shared),CX [] H s (fun _ _ _=>False) e s'→False):
  PySem.W.WalkOS q loose XP YP r d [] (fun f vs=>PySem.call f vs):=
 walk_spec (K:=K) (CX:=fun _=>CX) (sp:=fun w=>sp (K w.params)) hwell hdf hlen hr hY F (fun w H xs a h1 h2 h3 h4=>hsp (K w.params) H xs a h1 h2 h3 h4) fun _ H s e s'=>hCX H s e s'
end L2
end
namespace Ev
open PySem PySem.Spec PyProof.Rows L2
noncomputable def tp(i:Nat):Stmt:=PySem.Challenge.pw_pairsevent_s01_answers.main.body.getD i (.Pass ⟨0,0,0,0⟩)
structure FnB(K:PySem.W.Frag)(mg:Str→Option Value)(x:Str)(st:Stmt)(ps:List Str) where
 f:Addr
 fd:FuncData
 F:Fun K x x st f fd
 b:Binds K fd ps []
 m:mg x=some (.ref f)
noncomputable def GV(K:PySem.W.Frag)(mg:Str→Option Value)(x:Str)(v:V):Prop:=∃u,mg x=some u∧RelV v u
noncomputable def GI(K:PySem.W.Frag)(mg:Str→Option Value)(x:Str)(i:Int):Prop:=GV K mg x (.int i)
noncomputable def GT(K:PySem.W.Frag)(mg:Str→Option Value)(x:Str)(is:List Int):Prop:=∃a,mg x=some (.ref a)∧∀H,SqT K H a (is.map V.int)
section
variable {X:Cx}{x:Str}{pos p:Pos}
theorem pe_g{v:V}(hg:Gl X x)(h:GV X.K X.mg x v)(hd:(x==("__debug__" : Str))=false:=by decide):PE X (.Name x pos) (tC v):=by
 obtain⟨u,hm,r⟩:=h
 exact pe_glob hg hm r hd
noncomputable def tGIx(is:List Int)(ti:TE):TE:=fun σ H Q=>ti σ H fun y H1=>∃j v,y=.int j∧atI is j=some v∧Q (.int v) H1
theorem atI_map{is:List Int}{j v:Int}(h:atI is j=some v):atI (is.map V.int) j=some (.int v):=by
 unfold atI at h ⊢
 rw[List.length_map]
 cases e:ixN is.length j with
 |none=>rw[e]at h;cases h
 |some k=>
  rw[e]at h
  show(is.map V.int)[k]?=_
  have h':is[k]?=some v:=h
  rw[List.getElem?_map,h'];rfl
theorem pe_gix{is:List Int}{i:Expr}{ti:TE}(hg:Gl X x)(h:GT X.K X.mg x is)(hi:PE X i ti)(hs:PlainIx i)(hd:(x==("__debug__" : Str))=false:=by decide):
  PE X (.Subscript (.Name x p) i pos) (tGIx is ti):=by
 obtain⟨a,hm,hT⟩:=h
 intro pins s σ H Q I hq
 have e:tGIx is ti=fun σ H Q=>ti σ H fun y H1=>∃j v,y=.int j∧atI is j=some v∧Q (.int v) H1:=rfl
 refine Subscript_ (thn (ld_glob I hg hm (Q:=fun v s'=>v=.ref a∧Inv X pins σ H s') ⟨rfl,I⟩ hd) fun v s1 ⟨ev,I1⟩=>?_)
 subst ev
 refine thn (hi pins s1 σ H _ I1 hq) fun u s2 ⟨y,H2,I2,r2,j,z,ey,ha,q⟩=>?_
 exact ix_tup (.Name x p) i pins s2 σ H2 (.ref a) y (.ref a) u Q I2 rfl r2 ⟨a,_,j,_,rfl,ey,hT H2,atI_map ha,q⟩ (hs _ _)
end
theorem cI{Q:VK}{H:Hp}{a b:Int}(k:Q (V.int a) H)(e:a=b):Q (V.int b) H:=e▸k
theorem cB{Q:VK}{H:Hp}{a b:Bool}(k:Q (V.bl a) H)(e:a=b):Q (V.bl b) H:=e▸k
theorem x1{a:Type}{p q:a→Prop}{x:a}(h:p x)(k:q x):∃x,p x∧q x:=⟨x,h,k⟩
theorem x2{a b:Type}{p q r:a→b→Prop}{x:a}{y:b}(h:p x y)(k:q x y)(l:r x y):∃x y,p x y∧q x y∧r x y:=⟨x,y,h,k,l⟩
theorem x4{a b c d:Type}{p:a→Prop}{q:c→Prop}{r:a→b→Prop}{t:b→c→d→Prop}{u:d→Prop}{x:a}{y:b}{z:c}{v:d}(h1:p x)(h2:q z)(h3:r x y)(h4:t y z v)(h5:u v):∃x y z v,p x∧q z∧r x y∧t y z v∧u v:=⟨x,y,z,v,h1,h2,h3,h4,h5⟩
theorem x5{K:PySem.W.Frag}{H:Hp}{x:V}{a C dx:Addr}{fs:List (Str×V)}{v:V}{f:Str}{R:V→Prop}(hx:x=.ref a)(h:H a=some (.ins C dx fs))(c:Cls K C)(n:NoAttr K C f)(l:fs.lookup f=some v)(r:R v):∃a C dx fs v,x=.ref a∧H a=some (.ins C dx fs)∧Cls K C∧NoAttr K C f∧fs.lookup f=some v∧R v:=⟨a,C,dx,fs,v,hx,h,c,n,l,r⟩
theorem okL{P:Program}{w:World}{K:PySem.W.Frag}{mg:Str→Option Value}{base:Heap}{x qual:Str}{st:Stmt}{f:Addr}{fd:FuncData}{N ps:List Str}{k:Nat}{sp:Sp}(F:Fun K x qual st f fd)(S:FnScope N ps (defScope st))(len:∀vs H Q E,sp vs H Q E→vs.length=ps.length)
  (hb:∀(cdv:Value) (A:Around) (outer:List Env) (s:Shared) (H:Hp) (vs:List V) (Q:VK) (E:XK),Room k (A.deeper (envOfC qual (defScope st) s.heap.objs.size f cdv))→sp vs H Q E→
   let X:=(cxOf CX0 P w K mg base N qual (defScope st) f cdv A outer s H E).nox
   ∃t,PSs X (defBody st) t∧t { nx:=fun _ H'=>Q .non H',rt:=Q } (start N vs) H):FnOk P w K mg base CX0 (k+1) f fd ps sp:=F.ok S len hb
structure KlB(K:PySem.W.Frag)(mg:Str→Option Value)(x qual:Str)(st:Stmt)(ps fs:List Str) where
 C:Addr
 fI:Addr
 fd:FuncData
 mkk:Mk K C fI
 F:Fun K "__init__" qual st fI fd
 b:Binds K fd ps []
 m:mg x=some (.ref C)
 cl:Cls K C
 na:∀f,fs.contains f=true→NoAttr K C f
local macro_rules | `(tactic| walk_at "rd")=>`(tactic| simp only[L2.start,List.map_cons,List.map_nil,List.length_cons,List.length_nil,List.replicate,List.cons_append,List.nil_append,List.getElem?_cons_zero,List.getElem?_cons_succ,List.set_cons_zero,List.set_cons_succ,Nat.sub_self,Nat.reduceAdd,Nat.reduceSub,List.append_nil,tRet,tRetN,tNext,tSeq,tIfS,tOp,tUn,tVar,tC,tTest,tB,tAnd,tOr,tNot,tAndV,tOrV,tNotV,tIf,tAsg,gName,tDrop,rI,rI0,rU,rEq,rNe,scal,CDiv,tCall,tCons,tNil,tCB,tGIx,exists_eq_left,exists_eq_left',Option.some.injEq,V.int.injEq,V.bl.injEq,V.ref.injEq,true_and,and_true,and_assoc,exists_and_left,exists_eq,List.cons.injEq,forall_eq,reduceCtorEq,decide_eq_true_eq])
local macro_rules | `(tactic| walk_at "sd")=>`(tactic| first|decide|omega|(show CMul _ _;unfold CMul;omega))
local macro_rules | `(tactic| walk_at "go")=>`(tactic| repeat' (first|refine And.intro (by walk_at "sd") ?_|refine iteT ?_|refine iteF ?_|refine ite2 (fun _=>?_) (fun _=>?_)))
local macro_rules | `(tactic| walk_at "fld")=>`(tactic| refine x5 rfl (by assumption) (KlB.cl _) (KlB.na _ _ rfl) rfl ?_)
local macro_rules | `(tactic| walk_at "v")=>`(tactic| repeat (first|refine x1 rfl ?_|walk_at "fld"|refine x2 rfl rfl ?_|refine⟨rfl,?_⟩|refine x4 rfl rfl (by assumption) rfl ?_))
local macro_rules | `(tactic| walk_at "w")=>`(tactic| repeat' (first|refine x1 rfl ?_|walk_at "fld"|refine x2 rfl rfl ?_|refine⟨rfl,?_⟩|refine x4 rfl rfl (by assumption) rfl ?_|refine iteT ?_|refine iteF ?_|refine ite2 (fun _=>?_) (fun _=>?_)))
local macro_rules | `(tactic| walk_at "sc")=>`(tactic| exact⟨rfl,rfl,rfl,by decide +kernel,rfl,by decide +kernel,by decide +kernel⟩)
local macro_rules | `(tactic| walk_at "or")=>`(tactic| first|exact Or.inl rfl|exact Or.inr rfl)
theorem nle0{m n:Nat}(h:Nat.ble m n=true):m≤n:=Nat.le_of_ble_eq_true h
section
noncomputable abbrev s_vulnerability:Stmt:=tp 8
noncomputable abbrev s_side_of:Stmt:=tp 9
noncomputable abbrev s_is_vulnerable:Stmt:=tp 10
noncomputable abbrev s_doubled_loss:Stmt:=tp 11
noncomputable abbrev s_loss:Stmt:=tp 12
noncomputable abbrev s_contract_points:Stmt:=tp 13
noncomputable abbrev s_game_bonus:Stmt:=tp 14
noncomputable abbrev s_slam_bonus:Stmt:=tp 15
noncomputable abbrev s_trick_above:Stmt:=tp 16
noncomputable abbrev s_contract_score:Stmt:=tp 17
noncomputable abbrev s_north_south_score:Stmt:=tp 18
theorem sc_vulnerability:FnScope ["board"] ["board"] (defScope s_vulnerability):=by walk_at "sc"
theorem sc_side_of:FnScope ["declarer"] ["declarer"] (defScope s_side_of):=by walk_at "sc"
theorem sc_is_vulnerable:FnScope ["board","side","told"] ["board","side"] (defScope s_is_vulnerable):=by walk_at "sc"
theorem sc_doubled_loss:FnScope ["vulnerable","missing"] ["vulnerable","missing"] (defScope s_doubled_loss):=by walk_at "sc"
theorem sc_loss:FnScope ["doubled","vulnerable","missing"] ["doubled","vulnerable","missing"] (defScope s_loss):=by walk_at "sc"
theorem sc_contract_points:FnScope ["level","strain","doubled","points"] ["level","strain","doubled"] (defScope s_contract_points):=by walk_at "sc"
theorem sc_game_bonus:FnScope ["points","vulnerable"] ["points","vulnerable"] (defScope s_game_bonus):=by walk_at "sc"
theorem sc_slam_bonus:FnScope ["level","vulnerable"] ["level","vulnerable"] (defScope s_slam_bonus):=by walk_at "sc"
theorem sc_trick_above:FnScope ["strain","doubled","vulnerable"] ["strain","doubled","vulnerable"] (defScope s_trick_above):=by walk_at "sc"
theorem sc_contract_score:FnScope ["level","strain","doubled","vulnerable","tricks","above","points","bonus"] ["level","strain","doubled","vulnerable","tricks"] (defScope s_contract_score):=by walk_at "sc"
theorem sc_north_south_score:FnScope ["board","level","strain","doubled","declarer","tricks","side","score"] ["board","level","strain","doubled","declarer","tricks"] (defScope s_north_south_score):=by walk_at "sc"
structure TC(K:PySem.W.Frag)(mg:Str→Option Value) where
 f_vulnerability:FnB K mg "vulnerability" s_vulnerability ["board"]
 f_side_of:FnB K mg "side_of" s_side_of ["declarer"]
 f_is_vulnerable:FnB K mg "is_vulnerable" s_is_vulnerable ["board","side"]
 f_doubled_loss:FnB K mg "doubled_loss" s_doubled_loss ["vulnerable","missing"]
 f_loss:FnB K mg "loss" s_loss ["doubled","vulnerable","missing"]
 f_contract_points:FnB K mg "contract_points" s_contract_points ["level","strain","doubled"]
 f_game_bonus:FnB K mg "game_bonus" s_game_bonus ["points","vulnerable"]
 f_slam_bonus:FnB K mg "slam_bonus" s_slam_bonus ["level","vulnerable"]
 f_trick_above:FnB K mg "trick_above" s_trick_above ["strain","doubled","vulnerable"]
 f_contract_score:FnB K mg "contract_score" s_contract_score ["level","strain","doubled","vulnerable","tricks"]
 f_north_south_score:FnB K mg "north_south_score" s_north_south_score ["board","level","strain","doubled","declarer","tricks"]
 c_NO_TRUMPS:GI K mg "NO_TRUMPS" 4
 c_UNDOUBLED:GI K mg "UNDOUBLED" 0
 c_ALL_VULNERABLE:GI K mg "ALL_VULNERABLE" 3
 c_POINTS_A_LEVEL:GT K mg "POINTS_A_LEVEL" [20,20,30,30,30]
 c_POINTS_A_TRICK_ABOVE:GT K mg "POINTS_A_TRICK_ABOVE" [20,20,30,30,30]
 c_TIMES:GT K mg "TIMES" [1,2,4]
 c_DOUBLING_BONUS:GT K mg "DOUBLING_BONUS" [0,50,100]
 n_min:mg "min" = none
 n_max:mg "max" = none
section
variable {P:Program}{w:World}{K:PySem.W.Frag}{mg:Str→Option Value}{base:Heap}
noncomputable def vulI(b:Int):Int:=((b+3) % 4+(b+15) / 4 % 4) % 4
noncomputable def sp_vulnerability:Sp:=fun vs H Q _=>∃i,vs=[.int i]∧Q (.int (vulI i)) H
theorem ok_vulnerability(T:TC K mg):FnOk P w K mg base CX0 1 T.f_vulnerability.f T.f_vulnerability.fd ["board"] sp_vulnerability:=by
 refine okL T.f_vulnerability.F sc_vulnerability (fun vs H Q E h=>?_) (fun cdv A outer s H vs Q E hr h=>?_)
 rotate_left;intro Xc;rotate_left
 ·obtain⟨i,rfl,_⟩:=h
  rfl
 ·obtain⟨i,rfl,k⟩:=h
  refine⟨_,(pss_one (ps_ret (pe_op op_mod (pe_op op_add (pe_op op_mod (pe_op op_add (pv 0) pe_int) pe_int) (pe_op op_mod (pe_op op_fdiv (pe_op op_add (pv 0) pe_int) pe_int) pe_int)) pe_int))),?_⟩
  walk_at "rd"
  walk_at "go"
  exact k
noncomputable def sp_side_of:Sp:=fun vs H Q _=>∃i,vs=[.int i]∧Q (.int (i % 2)) H
theorem ok_side_of(T:TC K mg):FnOk P w K mg base CX0 1 T.f_side_of.f T.f_side_of.fd ["declarer"] sp_side_of:=by
 refine okL T.f_side_of.F sc_side_of (fun vs H Q E h=>?_) (fun cdv A outer s H vs Q E hr h=>?_)
 rotate_left;intro Xc;rotate_left
 ·obtain⟨i,rfl,_⟩:=h
  rfl
 ·obtain⟨i,rfl,k⟩:=h
  refine⟨_,(pss_one (ps_ret (pe_op op_mod (pv 0) pe_int))),?_⟩
  walk_at "rd"
  exact⟨by decide,k⟩
noncomputable def isVulI(b side:Int):Bool:=decide (vulI b=3)||decide (vulI b=side+1)
noncomputable def sp_is_vulnerable:Sp:=fun vs H Q _=>∃b s,vs=[.int b,.int s]∧Q (.bl (isVulI b s)) H
theorem ok_is_vulnerable(T:TC K mg):FnOk P w K mg base CX0 2 T.f_is_vulnerable.f T.f_is_vulnerable.fd ["board","side"] sp_is_vulnerable:=by
 refine okL T.f_is_vulnerable.F sc_is_vulnerable (fun vs H Q E h=>?_) (fun cdv A outer s H vs Q E hr h=>?_)
 rotate_left;intro Xc;rotate_left
 ·obtain⟨i,j,rfl,_⟩:=h
  rfl
 ·obtain⟨i,j,rfl,k⟩:=h
  refine⟨_,(pss_cons (ps_set (i:=2) sc_is_vulnerable.nd rfl (by walk_at "or") (pe_call (ok_vulnerability T) (hr.mono (by decide)) rfl T.f_vulnerability.m T.f_vulnerability.F.kp T.f_vulnerability.b .nil pass0 (pa_cons (pv 0) pa_nil))) (pss_one (ps_ret (pe_or (pe_cmpR op_eq (pv 2) (pe_g rfl T.c_ALL_VULNERABLE) (nomark _)) (pe_one (pe_cmpR op_eq (pv 2) (pe_op op_add (pv 1) pe_int) (nomark _))))))),?_⟩
  walk_at "rd"
  refine⟨i,rfl,?_⟩
  walk_at "rd"
  walk_at "go"
  ·exact cB k (by simp_all [isVulI])
  ·exact cB k (by simp_all [isVulI])
noncomputable def sp_doubled_loss:Sp:=fun vs H Q _=>∃(b:Bool) (k:Nat),vs=[.bl b,.int k]∧1≤k∧k≤13∧Q (.int (Vbbrah.underDoubled b k)) H
theorem ok_doubled_loss(T:TC K mg):FnOk P w K mg base CX0 1 T.f_doubled_loss.f T.f_doubled_loss.fd ["vulnerable","missing"] sp_doubled_loss:=by
 refine okL T.f_doubled_loss.F sc_doubled_loss (fun vs H Q E h=>?_) (fun cdv A outer s H vs Q E hr h=>?_)
 rotate_left;intro Xc;rotate_left
 ·obtain⟨i,j,rfl,_⟩:=h
  rfl
 ·obtain⟨b,j,rfl,hj,hj2,k⟩:=h
  refine⟨_,(pss_cons (ps_if (pt_val (pv 0)) (pss_one (ps_ret (pe_op op_add pe_int (pe_op op_mul pe_int (pe_op op_sub (pv 1) pe_int))))) pss_nil) (pss_one (ps_ret (pe_op op_add (pe_op op_add pe_int (pe_op op_mul pe_int (pe_op op_sub (pe_callB (call_min2 rfl) (by rfl) T.n_min PyProof.Rows.boot_min (pa_cons (pv 1) (pa_cons pe_int pa_nil))) pe_int))) (pe_op op_mul pe_int (pe_callB (call_max2 rfl) (by rfl) T.n_max PyProof.Rows.boot_max (pa_cons (pe_op op_sub (pv 1) pe_int) (pa_cons pe_int pa_nil)))))))),?_⟩
  walk_at "rd"
  walk_at "go"
  ·refine cI k ?_
   rename_i hb
   subst hb
   simp only[Vbbrah.underDoubled,if_true]
   split<;>omega
  ·refine cI k ?_
   rename_i hb
   simp only[Vbbrah.underDoubled,if_neg hb]
   repeat' split
   all_goals omega
theorem ud_le(b:Bool)(k:Nat)(h:k≤13):Vbbrah.underDoubled b k≤10000:=by
 unfold Vbbrah.underDoubled
 repeat' split
 all_goals omega
noncomputable def sp_loss:Sp:=fun vs H Q _=>∃(d:Nat) (b:Bool) (k:Nat),vs=[.int d,.bl b,.int k]∧d≤2∧1≤k∧k≤13∧Q (.int (Vbbrah.under d b k)) H
theorem ok_loss(T:TC K mg):FnOk P w K mg base CX0 2 T.f_loss.f T.f_loss.fd ["doubled","vulnerable","missing"] sp_loss:=by
 refine okL T.f_loss.F sc_loss (fun vs H Q E h=>?_) (fun cdv A outer s H vs Q E hr h=>?_)
 rotate_left;intro Xc;rotate_left
 ·obtain⟨i,j,l,rfl,_⟩:=h
  rfl
 ·obtain⟨d,b,l,rfl,hd,hl,hl2,k⟩:=h
  refine⟨_,(pss_cons (ps_if (pt_cmpR op_eq (pv 0) (pe_g rfl T.c_UNDOUBLED) (nomark _)) (pss_one (ps_ret (pe_op op_mul (pe_ifExp (pt_val (pv 1)) pe_int pe_int) (pv 2)))) pss_nil) (pss_one (ps_ret (pe_op op_mul (pv 0) (pe_call (ok_doubled_loss T) (hr.mono (by decide)) rfl T.f_doubled_loss.m T.f_doubled_loss.F.kp T.f_doubled_loss.b .nil pass0 (pa_cons (pv 1) (pa_cons (pv 2) pa_nil))))))),?_⟩
  walk_at "rd"
  have hu:=ud_le b l hl2
  unfold Vbbrah.under at k
  refine ite2 (fun h=>?_) (fun h=>?_)
  ·have:d=0:=by omega
   subst this
   rw[if_pos rfl]at k
   walk_at "go"
   ·rename_i hb
    rw[if_pos hb]at k
    exact cI k (by omega)
   ·rename_i hb
    rw[if_neg hb]at k
    exact cI k (by omega)
  ·refine⟨b,l,rfl,hl,hl2,?_⟩
   walk_at "rd"
   walk_at "go"
   refine cI k ?_
   rcases(show d=1∨d=2 by omega)with rfl|rfl
   ·rw[if_neg (by omega),if_pos rfl];omega
   ·rw[if_neg (by omega),if_neg (by omega)];omega
noncomputable def sp_contract_points:Sp:=fun vs H Q _=>∃a b c:Nat,vs=[.int a,.int b,.int c]∧a≤7∧b≤4∧c≤2∧Q (.int (Vbbrah.trickPoints a b*Vbbrah.multiple c:Nat)) H
theorem ok_contract_points(T:TC K mg):FnOk P w K mg base CX0 1 T.f_contract_points.f T.f_contract_points.fd ["level","strain","doubled"] sp_contract_points:=by
 refine okL T.f_contract_points.F sc_contract_points (fun vs H Q E h=>?_) (fun cdv A outer s H vs Q E hr h=>?_)
 rotate_left;intro Xc;rotate_left
 ·obtain⟨a,b,c,rfl,_⟩:=h
  rfl
 ·obtain⟨a,b,c,rfl,ha,hb,hc,k⟩:=h
  refine⟨_,(pss_cons (ps_set (i:=3) sc_contract_points.nd rfl (by walk_at "or") (pe_op op_mul (pe_gix rfl T.c_POINTS_A_LEVEL (pv 1) (fun _ _=>rfl)) (pv 0))) (pss_cons (ps_if (pt_cmpR op_eq (pv 1) (pe_g rfl T.c_NO_TRUMPS) (nomark _)) (pss_one (ps_set (i:=3) sc_contract_points.nd rfl (by walk_at "or") (pe_op op_add (pv 3) pe_int))) pss_nil) (pss_one (ps_ret (pe_op op_mul (pv 3) (pe_gix rfl T.c_TIMES (pv 2) (fun _ _=>rfl))))))),?_⟩
  walk_at "rd"
  rcases(show b=0∨b=1∨b=2∨b=3∨b=4 by omega)with rfl|rfl|rfl|rfl|rfl<;>rcases(show c=0∨c=1∨c=2 by omega)with rfl|rfl|rfl
  all_goals
   refine Ev.x1 rfl ?_
   walk_at "go"
  all_goals first
   |(exfalso;omega)
   |(refine⟨_,rfl,?_⟩;walk_at "go";exact cI k (by simp[Vbbrah.trickPoints,Vbbrah.multiple]<;>omega))
noncomputable def gameI(p:Nat)(v:Bool):Nat:=if 100≤p then(if v=true then 500 else 300)else 50
noncomputable def slamI(l:Nat)(v:Bool):Nat:=if l=6 then(if v=true then 750 else 500)else if l=7 then(if v=true then 1500 else 1000)else 0
noncomputable def insI(d:Nat):Nat:=if d=0 then 0 else if d=1 then 50 else 100
noncomputable def sp_game_bonus:Sp:=fun vs H Q _=>∃(p:Nat) (v:Bool),vs=[.int p,.bl v]∧Q (.int (gameI p v)) H
theorem ok_game_bonus(T:TC K mg):FnOk P w K mg base CX0 1 T.f_game_bonus.f T.f_game_bonus.fd ["points","vulnerable"] sp_game_bonus:=by
 refine okL T.f_game_bonus.F sc_game_bonus (fun vs H Q E h=>?_) (fun cdv A outer s H vs Q E hr h=>?_)
 rotate_left;intro Xc;rotate_left
 ·obtain⟨i,j,rfl,_⟩:=h
  rfl
 ·obtain⟨p,v,rfl,k⟩:=h
  refine⟨_,(pss_cons (ps_if (pt_cmpR op_lt (pv 0) pe_int (nomark _)) (pss_one (ps_ret pe_int)) pss_nil) (pss_one (ps_ret (pe_ifExp (pt_val (pv 1)) pe_int pe_int)))),?_⟩
  walk_at "rd"
  unfold gameI at k
  walk_at "go"
  all_goals refine cI k ?_
  all_goals repeat' split
  all_goals first|omega|simp_all
noncomputable def sp_slam_bonus:Sp:=fun vs H Q _=>∃(p:Nat) (v:Bool),vs=[.int p,.bl v]∧Q (.int (slamI p v)) H
theorem ok_slam_bonus(T:TC K mg):FnOk P w K mg base CX0 1 T.f_slam_bonus.f T.f_slam_bonus.fd ["level","vulnerable"] sp_slam_bonus:=by
 refine okL T.f_slam_bonus.F sc_slam_bonus (fun vs H Q E h=>?_) (fun cdv A outer s H vs Q E hr h=>?_)
 rotate_left;intro Xc;rotate_left
 ·obtain⟨i,j,rfl,_⟩:=h
  rfl
 ·obtain⟨p,v,rfl,k⟩:=h
  refine⟨_,(pss_cons (ps_if (pt_cmpR op_eq (pv 0) pe_int (nomark _)) (pss_one (ps_ret (pe_ifExp (pt_val (pv 1)) pe_int pe_int))) pss_nil) (pss_cons (ps_if (pt_cmpR op_eq (pv 0) pe_int (nomark _)) (pss_one (ps_ret (pe_ifExp (pt_val (pv 1)) pe_int pe_int))) pss_nil) (pss_one (ps_ret pe_int)))),?_⟩
  walk_at "rd"
  unfold slamI at k
  walk_at "go"
  all_goals refine cI k ?_
  all_goals repeat' split
  all_goals first|omega|simp_all
noncomputable def sp_trick_above:Sp:=fun vs H Q _=>∃(s d:Nat) (v:Bool),vs=[.int s,.int d,.bl v]∧s≤4∧d≤2∧Q (.int (Vbbrah.overEach s d v)) H
theorem ok_trick_above(T:TC K mg):FnOk P w K mg base CX0 1 T.f_trick_above.f T.f_trick_above.fd ["strain","doubled","vulnerable"] sp_trick_above:=by
 refine okL T.f_trick_above.F sc_trick_above (fun vs H Q E h=>?_) (fun cdv A outer s H vs Q E hr h=>?_)
 rotate_left;intro Xc;rotate_left
 ·obtain⟨i,j,l,rfl,_⟩:=h
  rfl
 ·obtain⟨s,d,v,rfl,hs,hd,k⟩:=h
  refine⟨_,(pss_cons (ps_if (pt_cmpR op_eq (pv 1) (pe_g rfl T.c_UNDOUBLED) (nomark _)) (pss_one (ps_ret (pe_gix rfl T.c_POINTS_A_TRICK_ABOVE (pv 0) (fun _ _=>rfl)))) pss_nil) (pss_one (ps_ret (pe_op op_mul (pv 1) (pe_ifExp (pt_val (pv 2)) pe_int pe_int))))),?_⟩
  walk_at "rd"
  rcases(show s=0∨s=1∨s=2∨s=3∨s=4 by omega)with rfl|rfl|rfl|rfl|rfl<;>rcases(show d=0∨d=1∨d=2 by omega)with rfl|rfl|rfl<;>cases v
  all_goals walk_at "go"
  all_goals first
   |(exfalso;omega)
   |(exfalso;contradiction)
   |exact cI k (by decide)
   |(refine⟨_,rfl,?_⟩;exact cI k (by decide))
noncomputable def sp_contract_score:Sp:=fun vs H Q _=>∃(l s d:Nat) (v:Bool) (t:Nat),vs=[.int l,.int s,.int d,.bl v,.int t]∧1≤l∧l≤7∧s≤4∧d≤2∧t≤13∧Q (.int (Vbbrah.score l s d v t)) H
theorem ok_contract_score(T:TC K mg):FnOk P w K mg base CX0 3 T.f_contract_score.f T.f_contract_score.fd ["level","strain","doubled","vulnerable","tricks"] sp_contract_score:=by
 refine okL T.f_contract_score.F sc_contract_score (fun vs H Q E h=>?_) (fun cdv A outer s H vs Q E hr h=>?_)
 rotate_left;intro Xc;rotate_left
 ·obtain⟨i,j,l,m,n,rfl,_⟩:=h
  rfl
 ·obtain⟨l,s,d,v,t,rfl,hl1,hl,hs,hd,ht,k⟩:=h
  refine⟨_,(pss_cons (ps_set (i:=5) sc_contract_score.nd rfl (by walk_at "or") (pe_op op_sub (pv 4) (pe_op op_add (pv 0) pe_int))) (pss_cons (ps_if (pt_cmpR op_lt (pv 5) pe_int (nomark _)) (pss_one (ps_ret (pe_un un_neg (pe_call (ok_loss T) (hr.mono (by decide)) rfl T.f_loss.m T.f_loss.F.kp T.f_loss.b .nil pass0 (pa_cons (pv 2) (pa_cons (pv 3) (pa_cons (pe_un un_neg (pv 5)) pa_nil))))))) pss_nil) (pss_cons (ps_set (i:=6) sc_contract_score.nd rfl (by walk_at "or") (pe_call (ok_contract_points T) (hr.mono (by decide)) rfl T.f_contract_points.m T.f_contract_points.F.kp T.f_contract_points.b .nil pass0 (pa_cons (pv 0) (pa_cons (pv 1) (pa_cons (pv 2) pa_nil))))) (pss_cons (ps_set (i:=7) sc_contract_score.nd rfl (by walk_at "or") (pe_op op_add (pe_op op_add (pe_call (ok_game_bonus T) (hr.mono (by decide)) rfl T.f_game_bonus.m T.f_game_bonus.F.kp T.f_game_bonus.b .nil pass0 (pa_cons (pv 6) (pa_cons (pv 3) pa_nil))) (pe_call (ok_slam_bonus T) (hr.mono (by decide)) rfl T.f_slam_bonus.m T.f_slam_bonus.F.kp T.f_slam_bonus.b .nil pass0 (pa_cons (pv 0) (pa_cons (pv 3) pa_nil)))) (pe_gix rfl T.c_DOUBLING_BONUS (pv 2) (fun _ _=>rfl)))) (pss_one (ps_ret (pe_op op_add (pe_op op_add (pv 6) (pv 7)) (pe_op op_mul (pv 5) (pe_call (ok_trick_above T) (hr.mono (by decide)) rfl T.f_trick_above.m T.f_trick_above.F.kp T.f_trick_above.b .nil pass0 (pa_cons (pv 1) (pa_cons (pv 2) (pa_cons (pv 3) pa_nil)))))))))))),?_⟩
  walk_at "rd"
  unfold Vbbrah.score at k
  refine ite2 (fun h=>?_) (fun h=>?_)
  ·rw[if_pos (by omega)]at k
   refine⟨d,v,l+6-t,?_,hd,by omega,by omega,?_⟩
   ·simp only[List.cons.injEq,V.int.injEq,and_true,true_and];omega
   ·walk_at "rd"
    exact k
  ·rw[if_neg (by omega)]at k
   refine⟨l,s,d,rfl,hl,hs,hd,⟨_,_,rfl,⟨_,_,rfl,?_⟩⟩⟩
   refine⟨_,rfl,_,rfl,?_⟩
   obtain⟨x,hx,hxe⟩:∃x,atI [0,50,100] (d:Int)=some x∧x=(insI d:Int):=by
    rcases(show d=0∨d=1∨d=2 by omega)with rfl|rfl|rfl<;>exact⟨_,rfl,by decide⟩
   refine⟨x,hx,_,rfl,s,d,v,rfl,hs,hd,?_⟩
   walk_at "rd"
   refine⟨by unfold CMul;omega,?_⟩
   refine cI k ?_
   show Int.ofNat (Vbbrah.trickPoints l s*Vbbrah.multiple d+(gameI (Vbbrah.trickPoints l s*Vbbrah.multiple d) v+(slamI l v+(insI d+Vbbrah.overEach s d v*(t-(l+6))))))=_
   have e:((t:Int)-(l+6))=((t-(l+6):Nat):Int):=by omega
   rw[hxe,e,Int.mul_comm ((t-(l+6):Nat):Int)]
   simp only[Int.ofNat_eq_natCast]
   omega
noncomputable def nsScore(b l s d p t:Nat):Int:=if p % 2=0 then Vbbrah.score l s d (Vbbrah.isVul (Vbbraj.vulOf b) p) t else -Vbbrah.score l s d (Vbbrah.isVul (Vbbraj.vulOf b) p) t
theorem vul_eq(b p:Nat):isVulI (b:Int) ((p:Int) % 2)=Vbbrah.isVul (Vbbraj.vulOf b) p:=by
 have h1:vulI (b:Int)=(Vbbraj.vulOf b:Int):=by
  unfold vulI Vbbraj.vulOf
  omega
 have h2:Vbbraj.vulOf b<4:=by unfold Vbbraj.vulOf;omega
 unfold isVulI Vbbrah.isVul
 rw[h1]
 generalize Vbbraj.vulOf b=x at h2
 rcases(show p % 2=0∨p % 2=1 by omega)with h|h
 ·have h':(p:Int) % 2=0:=by omega
  rw[h',if_pos h]
  rcases(show x=0∨x=1∨x=2∨x=3 by omega)with rfl|rfl|rfl|rfl<;>rfl
 ·have h':(p:Int) % 2=1:=by omega
  rw[h',if_neg (by omega)]
  rcases(show x=0∨x=1∨x=2∨x=3 by omega)with rfl|rfl|rfl|rfl<;>rfl
noncomputable def sp_north_south_score:Sp:=fun vs H Q _=>∃(b l s d p t:Nat),vs=[.int b,.int l,.int s,.int d,.int p,.int t]∧1≤l∧l≤7∧s≤4∧d≤2∧t≤13∧Q (.int (nsScore b l s d p t)) H
theorem ok_north_south_score(T:TC K mg):FnOk P w K mg base CX0 4 T.f_north_south_score.f T.f_north_south_score.fd ["board","level","strain","doubled","declarer","tricks"] sp_north_south_score:=by
 refine okL T.f_north_south_score.F sc_north_south_score (fun vs H Q E h=>?_) (fun cdv A outer s H vs Q E hr h=>?_)
 rotate_left;intro Xc;rotate_left
 ·obtain⟨b,i,j,l,m,n,rfl,_⟩:=h
  rfl
 ·obtain⟨b,l,s,d,p,t,rfl,hl1,hl,hs,hd,ht,k⟩:=h
  refine⟨_,(pss_cons (ps_set (i:=6) sc_north_south_score.nd rfl (by walk_at "or") (pe_call (ok_side_of T) (hr.mono (by decide)) rfl T.f_side_of.m T.f_side_of.F.kp T.f_side_of.b .nil pass0 (pa_cons (pv 4) pa_nil))) (pss_cons (ps_set (i:=7) sc_north_south_score.nd rfl (by walk_at "or") (pe_call (ok_contract_score T) (hr.mono (by decide)) rfl T.f_contract_score.m T.f_contract_score.F.kp T.f_contract_score.b .nil pass0 (pa_cons (pv 1) (pa_cons (pv 2) (pa_cons (pv 3) (pa_cons (pe_call (ok_is_vulnerable T) (hr.mono (by decide)) rfl T.f_is_vulnerable.m T.f_is_vulnerable.F.kp T.f_is_vulnerable.b .nil pass0 (pa_cons (pv 0) (pa_cons (pv 6) pa_nil))) (pa_cons (pv 5) pa_nil))))))) (pss_one (ps_ret (pe_ifExp (pt_cmpR op_eq (pv 6) pe_int (nomark _)) (pv 7) (pe_un un_neg (pv 7))))))),?_⟩
  walk_at "rd"
  refine⟨_,rfl,_,_,rfl,l,s,d,_,t,rfl,hl1,hl,hs,hd,ht,?_⟩
  walk_at "rd"
  rw[vul_eq]
  unfold nsScore at k
  refine ite2 (fun h=>?_) (fun h=>?_)
  ·rw[if_pos (by omega)]at k
   exact k
  ·rw[if_neg (by omega)]at k
   exact k
end
end
section
section
variable {X:Cx}
noncomputable def CMulB(i j:Int):Prop:=∃m n:Nat,i.natAbs<2 ^ m∧j.natAbs<2 ^ n∧m+n≤134217728
theorem op_mulB:OpR X (binaryOp .Mult) (rI CMulB fun i j=>.int (i*j)):=opI fun _ _ _ _ _ _ _ hc q=>by
 obtain⟨m,n,h1,h2,h3⟩:=hc
 exact mul_int q (IntMulOk.of_le (intBits_le_iff.mpr h1) (intBits_le_iff.mpr h2) h3)
noncomputable def CDivB(i j:Int):Prop:=0<j∧∃m:Nat,i.natAbs<2 ^ m∧m≤13500
theorem noPy{x y:Int}{m:Nat}(h:x.natAbs<2 ^ m)(hm:m≤13500):Builtin.divisionGoesByPylong x y=false:=by
 have key:∀d e:Nat,e≤451→(decide (d>300)&&decide (e>d+150))=false:=fun d e he=>by
  by_cases hd:d>300
  ·rw[decide_eq_false (show ¬e>d+150 by omega),Bool.and_false]
  ·rw[decide_eq_false hd,Bool.false_and]
 refine key (if y==0 then 0 else y.natAbs.log2 / 30+1) (if x==0 then 0 else x.natAbs.log2 / 30+1) ?_
 by_cases h0:(x==0)=true
 ·rw[if_pos h0];omega
 ·rw[if_neg h0]
  have h1:x.natAbs≠0:=fun z=>h0 (by simp;omega)
  have hl:x.natAbs.log2<m:=(Nat.log2_lt h1).mpr h
  omega
theorem op_fdivB:OpR X (binaryOp .FloorDiv) (rI CDivB fun i j=>.int (i / j)):=opI fun i j _ _ _ _ _ hc q=>by
 obtain⟨h1,m,h2,h3⟩:=hc
 exact floordiv_int (by omega) (by rw[Int.fdiv_eq_ediv_of_nonneg i (by omega)];exact q) (.inl (noPy h2 h3))
theorem len_heap{prog:Program}{w:World}{A:Around}{E:Value→Shared→Prop}{s:Shared}{a:Addr}{o:Obj}{es:Array DictEntry}{ep:Nat}{Q:Value→Shared→Prop}
  (hs:(a==sysModules)=false) (ho:s.heap.get? a=some o) (hx:o.ExactDict) (hdat:o.data=.dict es ep) (hf:(es.size:Int)<2 ^ 63) (h:∀t k,Q (.int es.size t) { s with toks:=k }):
  wpAny (model prog w) A (call (.builtin "len") [.ref a]) Q E s:=by
 have ty:s.TypeIs (.ref a) "dict":=⟨o,ho,hx.1⟩
 refine Calls.call_function_entry kind_len plain_len entry_len (args_len1 _) ?_
 unfold Builtin.«len»
 refine wpAny_bind (m:=oneArg "len" _) (wpAny_pure ?_)
 have mt:MeetsIn prog w (Builtin.«dict.__len__» ⟨[.ref a],[]⟩) (fun _ R z=>z.heap.get? a=some o∧R (.ok (.ret (.int es.size z.toks))) { z with toks:=z.toks+1 }):=
  .of_wp fun A' R z ⟨hz,hR⟩=>by
   show wpAny _ _ (dictSize a >>= _) _ _ z
   unfold dictSize
   refine wpAny_bind (wpAny_bind (wpAny_dictEntries hz hdat (wpAny_pure ?_)))
   show wpAny _ _ (Builtin.Dict.pendingCount a >>= _) _ _ z
   refine wpAny_bind (wpAny_pendingCount_other hs (wpAny_ret_mkInt ?_))
   rw[Nat.add_zero]
   exact hR
 refine wpAny_bind (m:=callSpecial? (.ref a) (Str.ofString "__len__")) (wpAny_callSpecial?_slot (name:=Str.ofString "__len__") ty F.slot_dict_len
  (call_meetsIn F.slot_dict_len ty F.entry_dict_len (F.args_dict_len_1 _) mt ⟨ho,?_⟩))
 show wpAny _ _ _ _ _ { s with toks:=s.toks+1 }
 refine wpAny_bind (wpAny_holding (wpAny_pure (wpAny_bind (wpAny_letGo ?_))))
 show wpAny _ _ (if((es.size:Nat):Int)<0 then _ else _) _ _ _
 rw[if_neg (show ¬((es.size:Nat):Int)<0 by omega)]
 show wpAny _ _ (if((es.size:Nat):Int)≥2 ^ 63 then _ else _) _ _ _
 rw[if_neg (show ¬((es.size:Nat):Int)≥2 ^ 63 by omega)]
 exact wpAny_bind (wpAny_mkInt (wpAny_pure ⟨_,rfl,h _ _⟩))
theorem call_lenT:CallR X (.builtin "len") (fun xs H Q=>∃a kvs,xs=[V.ref a]∧H a=some (.dT kvs)∧Q (.int kvs.length) H):=by
 intro pins s σ H xs us Q I r h
 obtain⟨a,kvs,rfl,ha,q⟩:=h
 obtain⟨u,rfl,ru⟩:=vals1 r
 cases ru
 obtain⟨z,hd,ys,rel,o,es,ep,h1,h2,h3,h4,h5⟩:=(show ObjOk X.prog X.w H s.heap a (.dT kvs)from I.hok a _ ha)
 have e1:=size_of_entries h4
 have e2:=Paired.length rel
 rw[sizeLine_eq]at z
 refine len_heap hd h1 h2 h3 (by omega) fun t k=>⟨.int kvs.length,H,I.tok _,⟨t,by rw[e1,e2]⟩,q⟩
theorem takeT{prog:Program}{w:World}{K:Type}[DecidableEq K]{knd:HeapKind prog w K}{A:Around}{E:Value→Shared→Prop}{s:Shared}{d a:Addr}{o:Obj}{es ep}{xs:List (K×Addr×Value)}{k:K}{j:Nat}{p:Addr×Value}{Q:Option DictEntry→Shared→Prop}
  (hu:knd.room A) (hkey:knd.is s.heap k a) (ho:s.heap.get? d=some o) (hd:o.data=.dict es ep) (he:es.toList=xs.map (entryOfKey knd)) (his:∀x∈xs,knd.is s.heap x.1 x.2.1) (hn:(xs.map (·.1)).Nodup) (hz:xs.length≤sizeLine)
  (hj:xs[j]?=some (k,p)) (h:∀t,Q (some ⟨knd.hash k,.ref p.1,p.2⟩) { s with heap:=s.heap.update d (Obj.mapDictKeys fun l=>l.eraseIdxIfInBounds j),toks:=t }):
  wpAny (model prog w) A (Builtin.Dict.takeOut d (.ref a)) Q E s:=by
 unfold Builtin.Dict.takeOut
 try with_reducible refine wpAny_holding ?_
 refine wpAny_bind (knd.pyHash hu hkey (wpAny_bind (wpAny_dictFind_heap (s:={ s with toks:=s.toks+knd.draws k }) hu hkey ho hd he his hn (fun hno=>absurd hj (hno j p)) fun j' p' hj'=>?_)))
 have ej:j'=j:=nd_ix hn (by rw[List.getElem?_map,hj'];rfl) (by rw[List.getElem?_map,hj];rfl)
 subst ej
 refine wpAny_bind (wpAny_dictEntries (s:={ s with toks:=s.toks+knd.draws k }) ho hd ?_)
 rw[entry_at he j',hj]
 refine wpAny_bind (wpAny_updateDictKeys (hz:=by rw[size_of_entries he];exact hz) (s:={ s with toks:=s.toks+knd.draws k }) ho hd (wpAny_pure (h _)))
theorem Paired.eraseIdx{α β:Type}{G:α→β→Prop}:∀{l:List α} {m:List β} (j:Nat),Paired G l m→Paired G (l.eraseIdx j) (m.eraseIdx j)
 |_,_,_,.nil=>by simpa using(Paired.nil:Paired G [] [])
 |_,_,0,.cons _ t=>t
 |_,_,j+1,.cons r t=>.cons r (Paired.eraseIdx j t)
theorem map_erase{α β:Type}(f:α→β):∀(l:List α) (j:Nat),(l.eraseIdx j).map f=(l.map f).eraseIdx j
 |[],_=>by simp
 |_::_,0=>rfl
 |a::l,j+1=>by
  show f a::(l.eraseIdx j).map f=f a::(l.map f).eraseIdx j
  rw[map_erase f l j]
theorem Paired.at{α β:Type}{G:α→β→Prop}:∀{l:List α} {m:List β} {j:Nat} {a:α},Paired G l m→l[j]?=some a→∃b,m[j]?=some b∧G a b
 |_,_,_,_,.nil,e=>by simp at e
 |_,_,0,_,.cons r _,e=>by simp at e;subst e;exact⟨_,rfl,r⟩
 |_,_,j+1,_,.cons _ t,e=>by simpa using Paired.at (j:=j) t (by simpa using e)
noncomputable def tDPopT(td ty:TE):TE:=fun σ H Q=>td σ H fun x H1=>∃a,x=.ref a∧IsD H1 a∧ty σ H1 fun y H2=>∃kvs k v b j,H2 a=some (.dT kvs)∧y=.ref b∧H2 b=some (.tup (k.map kV))∧kvs[j]?=some (k,v)∧((kvs.map (·.1)).Nodup→Q v (upd H2 a (.dT (kvs.eraseIdx j))))
theorem pe_dpopT{o e:Expr}{td ty:TE}{apos cpos:Pos}(hu:X.A.units+1<cLine)(ho:PE X o td)(he:PE X e ty)(m:M1 X o "pop" apos e cpos):PE X (.Call (.Attribute o "pop" apos) [e] [] cpos) (tDPopT td ty):=by
 intro pins s σ H Q I h
 refine wpAny_Call_method m.base m.few m.line PySem.F.plainAttrs_dict PySem.F.slot_dict_pop PySem.F.type_dict_pop (thn (ho pins s σ H _ I h) fun u s1 ⟨x,H1,I1,rx,a,ex,d,q1⟩=>?_)
 subst ex
 obtain rfl:u=Value.ref a:=rx
 obtain⟨t1,t2,_⟩:=isD_at I1 d
 refine⟨t1,t2,?_⟩
 rw[m.trees]
 refine Calls.callWith_builtin rfl (Calls.evalArgs_plain (Calls.spliced_cons (thn (he pins s1 σ H1 _ I1 q1) fun iv s2 ⟨y,H2,I2,ry,kvs,k,v,b,j,ea,ey,eb,hj,q2⟩=>Calls.spliced_nil ?_)))
 subst ey
 cases (show iv=Value.ref b from ry)
 obtain⟨z,hd,xs,rel,dd⟩:=dt_of I2.hok ea
 have hz:xs.length≤sizeLine:=by rw[←Paired.length rel];exact z
 obtain⟨od,es,ep,g1,g2,g3,g4,g5,g6⟩:=id dd
 obtain⟨⟨k',p⟩,hj',ek,_,rp⟩:=Paired.at rel hj
 simp only at ek rp
 subst ek
 have keys:kvs.map (·.1)=xs.map (·.1):=by
  clear hj hj' g4 g5 g6 dd hz z ea q2
  induction rel with
  |nil=>rfl
  |cons r _ ih=>rw[List.map_cons,List.map_cons,ih,r.1]
 have q3:=q2 (by rw[keys];exact g6)
 have mt:MeetsIn X.prog X.w (Builtin.«dict.pop» ⟨[.ref a,.ref b],[]⟩) (fun A' R c=>(tupleKind (mixKind X.prog X.w)).room A'.in1∧c=s2∧∀t,R (.ok (.ret p.2)) { s2 with heap:=s2.heap.update a (Obj.mapDictKeys fun l=>l.eraseIdxIfInBounds j),toks:=t }):=
  .of_wp fun A' R c ⟨hu',hc,hR⟩=>by
   subst hc
   unfold Builtin.«dict.pop»
   refine wpAny_bind ?_
   unfold Builtin.Dict.keyAndDefault
   refine wpAny_bind (wpAny_notOrdered_dict dd.typeIs ?_)
   show wpAny _ _ (pure (a,Value.ref b,none)) _ _ c
   refine wpAny_pure ?_
   dsimp only
   rw[if_neg (show ¬(keyPart (Value.ref b)).isSome=true from Bool.false_ne_true)]
   have hne:es.isEmpty=false:=by
    have:=size_of_entries g4
    have h2:j<xs.length:=(List.getElem?_eq_some_iff.mp hj').1
    rw[Array.isEmpty_eq_false_iff]
    intro q
    rw[q]at this
    simp at this
    omega
   refine wpAny_bind (wpAny_dictEntries g1 g3 (wpAny_bind (wpAny_pure ?_)))
   rw[hne]
   simp only[Bool.false_eq_true,if_false]
   refine wpAny_bind (takeT hu' (key_of I2.hok eb) g1 g3 g4 g5 g6 hz hj' fun t=>?_)
   simp only[Option.isNone_some,Bool.false_eq_true,if_false]
   exact wpAny_bind (wpAny_letGo (wpAny_pure ⟨_,rfl,hR t⟩))
 refine call_meetsIn PySem.F.slot_dict_pop dd.typeIs PySem.F.entry_dict_pop (PySem.F.args_dict_pop_2 _ _) mt ⟨tupleKind_room_in1 hu,rfl,fun t=>?_⟩
 have hq:=Heap.get?_update_self (Obj.mapDictKeys fun l=>l.eraseIdxIfInBounds j) g1 (Obj.isFreed_of_dict (Obj.data_mapDictKeys g3 _))
 refine⟨v,_,d_write (ob:=.dT (kvs.eraseIdx j)) I2 (by rw[ea];exact True.intro) (Heap.SameBut.update ..) ⟨_,hq⟩ ⟨?_,hd,xs.eraseIdx j,(KT.keeps (Paired.eraseIdx j rel) fun c ys ec=>?_),_,_,ep+1,hq,g2.mapDictKeys _,Obj.data_mapDictKeys g3 _,?_,?_⟩,rp,q3⟩
 ·exact Nat.le_trans (len_erase _ _) z
 ·rw[upd_ne (ne_of ec ea (fun z=>nomatch z))]
  exact ec
 ·rw[map_erase,←g4]
  simp
 ·rw[map_erase]
  exact(List.eraseIdx_sublist _ _).nodup g6
theorem extT{l:Addr}{its:Array Value}{n:Nat}{b:Addr}{its2:Array Value}{n2:Nat}{dd:Option Addr}{sl:Array (Option Value)}(h1:its.size≤sizeLine)(h2:its.size+its2.size≤sizeLine):
  Meets (Builtin.«list.extend» ⟨[.ref l,.ref b],[]⟩) (fun _ R s=>s.heap.get? l=some { cls:=.type "list",dict:=none,data:=.seq its n,slots:=#[] }∧s.heap.get? b=some { cls:=.type "tuple",dict:=dd,data:=.seq its2 n2,slots:=sl }∧R (.ok (.ret Value.none)) { s with heap:=s.heap.update l (Obj.mapSeq fun x=>x++its2) }):=
 .of_wp fun prog w A R s h=>by
  obtain⟨hp,g,d,tk,os⟩:=s
  obtain⟨hl,hb,h⟩:=h
  have f1:=AutoSeq1.idx_int
  have f2:=AutoSeq1.sub_tuple_tuple
  have f3:=AutoSeq1.sub_list_list
  have f4:=AutoSeq1.sub_tuple_list
  have f5:=AutoSeq1.sub_list_tuple
  have hz:(its++its2).size≤sizeLine+1:=by rw[Array.size_append];omega
  have hlong:¬(!its.isEmpty&&Builtin.List.listTooLong (its.size+its2.size))=true:=by
   rw[notLongL h2,Bool.and_false]
   exact Bool.false_ne_true
  wp_walk using(wpAny_updateSeq hl rfl (hz:=h1) (_hz':=hz)),AutoSeq1.wpAny_loadPart' hl,AutoSeq1.wpAny_loadPart' hb
  exact⟨_,rfl,h⟩
noncomputable def rExtendT(K:PySem.W.Frag):V→List V→Hp→VK→Prop:=fun x vs H Q=>∃l b xs zs,x=.ref l∧vs=[.ref b]∧H l=some (.lst xs)∧SqT K H b zs∧xs.length+zs.length≤sizeLine∧Q .non (upd H l (.lst (xs++zs)))
theorem mt_extendT:MtM X "list.extend" (rExtendT X.K):=by
 intro pins s σ H x vs v us Q I rx rv h
 obtain⟨l,b,xs,zs,rfl,rfl,hH,hB,hz,q⟩:=h
 cases rx
 obtain⟨u,rfl,ru⟩:=rv.one
 cases ru
 obtain⟨z,its,n,r,hl,e⟩:=I.lstM hH
 obtain⟨its2,r2,⟨⟨cls,dd,data,sl⟩,e2,hc2,n2,hd2⟩,hz2⟩:=I.tuple hB
 simp only at hc2 hd2
 subst hc2 hd2
 have hl2:=r2.length
 refine call_meets F.slot_list_extend ⟨_,e,rfl⟩ F.entry_list_extend (F.args_list_extend_2 _ _)
  (extT (its:=its.toArray) (n:=n) (its2:=its2.toArray) (n2:=n2) (dd:=dd) (sl:=sl) (by rw[List.size_toArray];omega) (by rw[List.size_toArray,List.size_toArray];omega)) ⟨e,e2,?_⟩
 refine⟨.non,_,I.lset (its':=its++its2) hH e (by simp) (r.append r2) ?_,rfl,q⟩
 rw[List.length_append]
 omega
noncomputable def TupI(K:PySem.W.Frag)(H:Hp)(p:Addr)(k:List Int):Prop:=SqT K H p (k.map V.int)
noncomputable def dI(k:List Int):PyData:=.tuple (k.map PyData.int)
theorem lay_ints:∀k:List Int,PyData.canLayAll0 (k.map PyData.int)=true
 |[]=>rfl
 |_::k=>by simp[PyData.canLayAll0,PyData.canLay0,lay_ints k]
theorem dep_ints:∀k:List Int,PyData.depthAll (k.map PyData.int)=0
 |[]=>rfl
 |_::k=>by simp[PyData.depthAll,PyData.depth,dep_ints k]
theorem lay_dI(k:List Int):(dI k).canLay0=true:=by simp[dI,PyData.canLay0,lay_ints]
theorem dep_dI(k:List Int):(dI k).depth≤1:=by simp[dI,PyData.depth,dep_ints]
theorem eqv_dI(j k:List Int):PyData.eqv (dI j) (dI k)=decide (j=k):=by
 show PyData.eqvAll _ _=_
 exact PySem.W.ked_eqvAll j k
theorem dp_ints{K:PySem.W.Frag}{H:Hp}:∀k:List Int,DpAll K H (k.map V.int) (k.map PyData.int)
 |[]=>.nil
 |i::k=>.cons (.int i) (dp_ints k)
theorem TupI.dp{K:PySem.W.Frag}{H:Hp}{p:Addr}{k:List Int}(h:TupI K H p k):Dp K H (.ref p) (dI k):=.tup h (dp_ints k)
theorem dps_of{K:PySem.W.Frag}{H:Hp}:∀{ps:List Addr} {ks:List (List Int)},Paired (TupI K H) ps ks→DpAll K H (ps.map V.ref) (ks.map dI)
 |_,_,.nil=>.nil
 |_,_,.cons h t=>.cons h.dp (dps_of t)
theorem lays_dI:∀ks:List (List Int),PyData.canLayAll0 (ks.map dI)=true
 |[]=>rfl
 |k::ks=>by simp[PyData.canLayAll0,lay_dI,lays_dI ks]
theorem any_dI(k:List Int):∀ks:List (List Int),((ks.map dI).any fun y=>PyData.eqv y (dI k))=decide (k∈ks)
 |[]=>by simp
 |j::ks=>by
  rw[List.map_cons,List.any_cons,any_dI k ks,eqv_dI]
  by_cases e:j=k
  ·subst e;simp
  ·have e':¬k=j:=fun z=>e z.symm
   simp[e,e']
noncomputable def rInT(K:PySem.W.Frag):R2:=fun x y H Q=>∃b l ps k ks,x=.ref b∧y=.ref l∧TupI K H b k∧H l=some (.lst (ps.map V.ref))∧Paired (TupI K H) ps ks∧Q (.bl (decide (k∈ks))) H
theorem op_inT(hu:X.A.units+64<cLine):OpR X (compareOp .In) (rInT X.K):=by
 intro pins s σ H x y v u Q I rx ry h
 obtain⟨b,l,ps,k,ks,rfl,rfl,hb,hl,hp,q⟩:=h
 obtain⟨as,r1⟩:=Dp.reads I (dI k) _ v hb.dp rx
 obtain⟨bs,r2⟩:=Dp.reads I (.list (ks.map dI)) _ u (.lst (SqL.of hl) (dps_of hp)) ry
 have d1:=dep_dI k
 refine SeqAt.in_list_reads r2 r1 (lays_dI ks) (lay_dI k) (by omega) ⟨.bl _,H,I,rfl,?_⟩
 rw[any_dI]
 exact q
theorem rm_loop{l:Addr}{its:Array Value}{n:Nat}{x:Value}{e:Value→Bool}{j:Nat}(hj:j<its.size)(hit:e its[j]=true)(hz:its.size≤sizeLine):∀(k i:Nat),j-i=k→i≤j→(∀m (hm:m<its.size),i≤m→m<j→e its[m]=false)→
  Meets (Builtin.«list.remove.loop» ⟨[.ref l,x,rawInt i],[]⟩) (fun A R s=>s.heap.get? l=some { cls:=.type "list",dict:=none,data:=.seq its n,slots:=#[] }∧(∀y,y∈its→SeqAt.EqAt A.in1 s y x (e y))∧R (.ok (.ret .none)) { s with heap:=s.heap.update l (Obj.mapSeq fun xs=>xs.eraseIdxIfInBounds j) })
 |0,i,hk,hij,hno=>fun prog w A R s h=>by
  obtain⟨hp,g,d,tk,os⟩:=s
  obtain⟨hl,he,h⟩:=h
  obtain rfl:i=j:=by omega
  wp_walk using AutoSeq1.wpAny_loadPart' hl
  have hi:its[((i:Nat):Int).toNat]?=some its[i]:=by simp[hj]
  rw[hi]
  refine wpAny_bind (he _ (Array.getElem_mem hj) prog w _ _ ?_)
  rw[hit]
  have hz2:(its.eraseIdxIfInBounds i).size≤sizeLine+1:=by
   unfold Array.eraseIdxIfInBounds
   rw[dif_pos hj,Array.size_eraseIdx]
   omega
  wp_walk using(wpAny_updateSeq hl rfl (hz:=hz) (_hz':=hz2)),AutoSeq1.wpAny_loadPart' hl
  simpa using h
 |k+1,i,hk,hij,hno=>fun prog w A R s h=>by
  obtain⟨hp,g,d,tk,os⟩:=s
  obtain⟨hl,he,h⟩:=h
  have hlt:i<its.size:=by omega
  wp_walk using AutoSeq1.wpAny_loadPart' hl
  have hi:its[((i:Nat):Int).toNat]?=some its[i]:=by simp[hlt]
  have hc:((i:Int)+1)=((i+1:Nat):Int):=by push_cast;rfl
  rw[hi]
  refine wpAny_bind (he _ (Array.getElem_mem hlt) prog w _ _ ?_)
  rw[hno i hlt (Nat.le_refl _) (by omega)]
  wp_walk
  rw[hc]
  exact⟨plainId_quiet MeetsSeq.plain_remove_loop _,codeAny_builtin MeetsSeq.entry_remove_loop (by
   rw[Around.under_plainId MeetsSeq.plain_remove_loop _]
   exact rm_loop hj hit hz k (i+1) (by omega) (by omega) (fun m hm h1 h2=>hno m hm (by omega) h2) prog w A R _ ⟨hl,he,h⟩)⟩
theorem rm_list{l:Addr}{its:Array Value}{n:Nat}{x:Value}{e:Value→Bool}{j:Nat}(hj:j<its.size)(hit:e its[j]=true)(hz:its.size≤sizeLine)(hno:∀m (hm:m<its.size),m<j→e its[m]=false):
  Meets (Builtin.«list.remove» ⟨[.ref l,x],[]⟩) (fun A R s=>s.heap.get? l=some { cls:=.type "list",dict:=none,data:=.seq its n,slots:=#[] }∧(∀y,y∈its→SeqAt.EqAt A.in1 s y x (e y))∧R (.ok (.ret .none)) { s with heap:=s.heap.update l (Obj.mapSeq fun xs=>xs.eraseIdxIfInBounds j) }):=by
 intro prog w A R s h
 obtain⟨hp,g,d,tk,os⟩:=s
 obtain⟨hl,he,h⟩:=h
 wp_walk using AutoSeq1.wpAny_loadPart' hl
 exact⟨plainId_quiet MeetsSeq.plain_remove_loop _,codeAny_builtin MeetsSeq.entry_remove_loop (by
  rw[Around.under_plainId MeetsSeq.plain_remove_loop _]
  exact rm_loop hj hit hz _ 0 rfl (Nat.zero_le _) (fun m hm _ h2=>hno m hm h2) prog w A R _ ⟨hl,he,h⟩)⟩
noncomputable def rRemT(K:PySem.W.Frag):V→List V→Hp→VK→Prop:=fun x vs H Q=>∃b l ps k ks j,x=.ref l∧vs=[.ref b]∧TupI K H b k∧H l=some (.lst (ps.map V.ref))∧Paired (TupI K H) ps ks∧ks[j]?=some k∧(∀m k',m<j→ks[m]?=some k'→k'≠k)∧Q .non (upd H l (.lst ((ps.eraseIdx j).map V.ref)))
theorem mt_removeT(hu:X.A.units+64<cLine):MtM X "list.remove" (rRemT X.K):=by
 intro pins s σ H x vs v us Q I rx rv h
 obtain⟨b,l,ps,k,ks,j,rfl,rfl,hb,hl,hp,hj,hno,q⟩:=h
 cases rx
 obtain⟨u,rfl,ru⟩:=rv.one
 obtain⟨z,its,n,r,hlen,e⟩:=I.lstM hl
 obtain⟨as,r1⟩:=Dp.reads I (dI k) _ u hb.dp ru
 obtain⟨bs,r2⟩:=Dp.readsAll I (ks.map dI) _ its (dps_of hp) r
 have d1:=dep_dI k
 have eqs:=SeqAt.items_eqAt (A:=X.A) (s:=s) (vs:=its.toArray) (by simpa using r2) r1 (lays_dI ks) (lay_dI k) (by omega)
 have mp:=SeqAt.readsAll_map _ _ _ (lays_dI ks) r2
 have at_:∀(m:Nat) (hm:m<its.toArray.size),∃k',ks[m]?=some k'∧SeqAt.readOf s.heap its.toArray[m]=dI k':=fun m hm=>by
  have hm':m<its.length:=by simpa using hm
  have h1:(its.map (SeqAt.readOf s.heap))[m]?=(ks.map dI)[m]?:=by rw[mp]
  rw[List.getElem?_map,List.getElem?_map,List.getElem?_eq_getElem hm']at h1
  cases e1:ks[m]? with
  |none=>rw[e1]at h1;cases h1
  |some k'=>
   rw[e1]at h1
   exact⟨k',rfl,by simpa using h1⟩
 have lks:ks.length=its.length:=by
  have:=congrArg List.length mp
  simpa using this.symm
 have hjs:j<its.toArray.size:=by
  have:=(List.getElem?_eq_some_iff.mp hj).1
  simp;omega
 refine call_meets F.slot_list_remove ⟨_,e,rfl⟩ F.entry_list_remove (F.args_list_remove_2 _ _) (rm_list (its:=its.toArray) (n:=n) hjs ?_ (by simp;omega) ?_) ⟨e,eqs,?_⟩
 ·obtain⟨k',h1,h2⟩:=at_ j hjs
  rw[hj]at h1
  cases h1
  rw[h2,eqv_dI]
  simp
 ·intro m hm hmj
  obtain⟨k',h1,h2⟩:=at_ m hm
  rw[h2,eqv_dI]
  simpa using hno m k' hmj h1
 ·refine⟨.non,_,I.lset (its':=its.eraseIdx j) (ys:=(ps.eraseIdx j).map V.ref) hl e (by simp) ?_ ?_,rfl,q⟩
  ·rw[map_erase]
   exact r.eraseIdx j
  ·have:=len_erase ps j
   simp only[List.length_map]at z ⊢
   omega
end
end
section
theorem for_it{J:It}{n:Nat}{g:TG}{tb:TS}{D:Ends}{σ:L2.St}{H:Hp}(Pv:Nat→L2.St→Hp→Prop)(h0:Pv 0 σ H)(hgo:∀i σ H,i<n→Pv i σ H→J.go i H)(hst:∀σ H,Pv n σ H→J.stop n H)
  (hs:∀i x σ H H',i<n→Pv i σ H→J.yld i H x H'→g x σ H' fun σ2 H2=>tb { D with nx:=Pv (i+1),ct:=Pv (i+1),bk:=D.nx } σ2 H2) (hd:∀σ H,Pv n σ H→D.nx σ H):
  ∃W:Nat→Nat→L2.St→Hp→Prop,(∃m,W 0 m σ H)∧∀i m σ H,W i m σ H→
   (J.stop i H∧D.nx σ H)∨(J.go i H∧∃N:L2.St→Hp→Prop,(∀σ' H',N σ' H'→∃m',m'<m∧W (i+1) m' σ' H')∧∀x H',J.yld i H x H'→g x σ H' fun σ2 H2=>tb { D with nx:=N,ct:=N,bk:=D.nx } σ2 H2):=by
 refine⟨fun i m σ H=>m=n-i∧i≤n∧Pv i σ H,⟨n,rfl,Nat.zero_le _,h0⟩,?_⟩
 rintro i m σ H ⟨rfl,hi,p⟩
 by_cases hlt:i<n
 ·exact .inr ⟨hgo i σ H hlt p,Pv (i+1),fun σ' H' p'=>⟨n-(i+1),by omega,rfl,hlt,p'⟩,fun x H' y=>hs i x σ H H' hlt p y⟩
 ·obtain rfl:i=n:=by omega
  exact .inl ⟨hst σ H p,hd σ H p⟩
theorem lc_it{J:It}{n:Nat}{g:TG}{tt:TT}{te:TE}{vs:List Nat}{σ:L2.St}{H1:Hp}{D:Addr}{Qd:Hp→Prop}(Pv:Nat→Hp→Prop)(h0:Pv 0 (upd H1 D (.lst [])))(hgo:∀i H,i<n→Pv i H→J.go i H)(hst:∀H,Pv n H→J.stop n H)
  (hs:∀i x H H',i<n→Pv i H→J.yld i H x H'→g x (wipe σ vs) H' fun σ2 H2=>wipe σ2 vs=wipe σ vs∧tt σ2 H2 fun b H3=>
   if b=true then te σ2 H3 fun y H4=>∃acc,H4 D=some (.lst acc)∧acc.length<sizeLine∧Pv (i+1) (upd H4 D (.lst (acc++[y])))else Pv (i+1) H3) (hd:∀H,Pv n H→Qd H):
  ∃W:Nat→Nat→Hp→Prop,(∃m,W 0 m (upd H1 D (.lst [])))∧∀i m H,W i m H→
   (J.stop i H∧Qd H)∨(J.go i H∧∃Nx:Hp→Prop,(∀H',Nx H'→∃m',m'<m∧W (i+1) m' H')∧∀x H',J.yld i H x H'→g x (wipe σ vs) H' fun σ2 H2=>wipe σ2 vs=wipe σ vs∧tt σ2 H2 fun b H3=>
    if b=true then te σ2 H3 fun y H4=>∃acc,H4 D=some (.lst acc)∧acc.length<sizeLine∧Nx (upd H4 D (.lst (acc++[y])))else Nx H3):=by
 refine⟨fun i m H=>m=n-i∧i≤n∧Pv i H,⟨n,rfl,Nat.zero_le _,h0⟩,?_⟩
 rintro i m H ⟨rfl,hi,p⟩
 by_cases hlt:i<n
 ·exact .inr ⟨hgo i H hlt p,Pv (i+1),fun H' p'=>⟨n-(i+1),by omega,rfl,hlt,p'⟩,fun x H' y=>hs i x H H' hlt p y⟩
 ·obtain rfl:i=n:=by omega
  exact .inl ⟨hst H p,hd H p⟩
section
variable {X:Cx}
noncomputable def rIsI(K:PySem.W.Frag)(C:Addr):List V→Hp→VK→Prop:=fun vs H Q=>∃x b t,vs=[x,.ref C]∧TyOf K H x t∧PySem.W.kitOne K t (.ref C)=some b∧Q (.bl b) H
theorem call_isi{C:Addr}:CallR X (.builtin "isinstance") (rIsI X.K C):=by
 intro pins s σ H xs us Q I r h
 obtain⟨x,b,t,rfl,ty,e,q⟩:=h
 obtain⟨u,v,rfl,ru,rv⟩:=vals2 r
 cases rv
 exact isinst_ok I ru ty e fun tk=>⟨.bl b,H,I.tok tk,rfl,q⟩
theorem pts_or2{a b:Expr}{tA tB:L2.TT}{pos:Pos}(ha:PT X a tA)(hb:PT X b tB):PTs X [.BoolOp .Or [a,b] pos] (tOr tA tB):=pts_one (PW.pt (pw_or ha (pw_or1 hb)))
theorem pts_and2{a b:Expr}{tA tB:L2.TT}{pos:Pos}(ha:PT X a tA)(hb:PT X b tB):PTs X [.BoolOp .And [a,b] pos] (tAnd tA tB):=pts_one (PW.pt (pw_and ha (pw_and1 hb)))
theorem pe_fldA{e:Expr}{ta:TE}{f:Str}{pos:Pos}(he:PE X e ta)(hb:attributeBase e f X.env (eval e X.env)=eval e X.env:=by rfl):PE X (.Attribute e f pos) (tFld X.K ta f):=pe_fld he hb
theorem pe_ixA{r:R2}{a b:Expr}{ta tb:TE}{pos:Pos}(hr:IxR X r)(ha:PE X a ta)(hb:PE X b tb)(hs:PlainIx b:=by intro _ _;rfl):PE X (.Subscript a b pos) (tOp r ta tb):=pe_ix hr ha hb hs
theorem pe_dgetA{o i:Expr}{td ty:TE}{pos:Pos}(hu:X.A.units+1<cLine)(ho:PE X o td)(hi:PE X i ty)(hs:NoSl i:=by intro _ _;rfl):PE X (.Subscript o i pos) (tDGet td ty):=pe_dget hu ho hi hs
theorem pe_callA{CX:CXT}{k:Nat}{f:Addr}{fd:FuncData}{ps:List Str}{sp:Sp}{dvs:List V}{ds:List Value}{E:XK}{x:Str}{p pos:Pos}{e:Expr}{es:List Expr}{t:TA}
  (F:FnOk X.prog X.w X.K X.mg X.base CX k f fd ps sp) (hr:Room k X.A) (hm:X.mg x=some (.ref f)) (hk:PySem.W.keepIn X.K (.ref f)=true) (hb:Binds X.K fd ps ds) (hd:Vals dvs ds) (hx:Passes CX X E)
  (ha:PA X (e::es) t) (hg:Gl X x:=by rfl) (hdb:(x==("__debug__" : Str))=false:=by decide) (he:starEach (e::es) X.env=(false,eval e X.env)::starEach es X.env:=by rfl) (hpl:(backTo pos (starEach es X.env)).any (·.1)=false:=by rfl):
  PE X (.Call (.Name x p) (e::es) [] pos) (tCall sp dvs E t):=pe_call F hr hg hm hk hb hd hx ha hdb he hpl
theorem pe_globA{x:Str}{v:V}{u:Value}{pos:Pos}(hm:X.mg x=some u)(r:RelV v u)(hg:Gl X x:=by rfl)(hd:(x==("__debug__" : Str))=false:=by decide):PE X (.Name x pos) (tC v):=pe_glob hg hm r hd
theorem pe_callBA{x:Str}{p pos:Pos}{e:Expr}{es:List Expr}{t:TA}{id:String}{r:List V→Hp→VK→Prop}(hc:CallR X (.builtin id) r)(hm:X.mg x=none)(hv:bootBuiltins x=some (.builtin id))(ha:PA X (e::es) t)(hg:Gl X x:=by rfl)(hn:x≠"__name__":=by decide)(hdb:(x==("__debug__" : Str))=false:=by decide)
  (he:starEach (e::es) X.env=(false,eval e X.env)::starEach es X.env:=by rfl) (hpl:(backTo pos (starEach es X.env)).any (·.1)=false:=by rfl):PE X (.Call (.Name x p) (e::es) [] pos) (tCB r t):=pe_callB hc hg hm hv ha hn hdb he hpl
theorem pe_fldC(K':PySem.W.Frag){e:Expr}{ta:TE}{f:Str}{pos:Pos}(he:PE X e ta)(hK:X.K=K':=by rfl)(hb:attributeBase e f X.env (eval e X.env)=eval e X.env:=by rfl):PE X (.Attribute e f pos) (tFld K' ta f):=by
 subst hK
 exact pe_fld he hb
theorem ix_listC(K':PySem.W.Frag)(hK:X.K=K':=by rfl):IxR X (rIxL K'):=by
 subst hK
 exact ix_list
theorem ix_tupC(K':PySem.W.Frag)(hK:X.K=K':=by rfl):IxR X (rIxT K'):=by
 subst hK
 exact ix_tup
theorem pg_tupC(K':PySem.W.Frag){es:List Expr}{k:Nat}{t:TGs}{n:Nat}{pos:Pos}(hc:X.calm=true)(h:PGs X es t)(hK:X.K=K':=by rfl)
  (hn:(assignEach es X.env).length=n:=by rfl) (hst:(assignEach es X.env).findIdx? (·.1)=none:=by rfl):PG X (.Tuple es k pos) (gTup K' n t):=by
 subst hK
 exact pg_tup hc h hn hst
theorem call_isiC(K':PySem.W.Frag){C:Addr}(hK:X.K=K':=by rfl):CallR X (.builtin "isinstance") (rIsI K' C):=by
 subst hK
 exact call_isi
end
end
section
noncomputable def KeyFn(K:PySem.W.Frag)(f:Addr)(fld:Str):Prop:=
 ∀(P:Program) (w:World) (A:Around) (E:Value→Shared→Prop) (s:Shared) (Q:Value→Shared→Prop) (a dx C:Addr) (mA:Str→Option Value) (k:Int) (t:Tok),
  K.In s.heap→s.heap.NoLimit→A.depth<recursionLimit→ObjM s.heap a dx C mA→Cls K C→NoAttr K C fld→mA fld=some (.int k t)→
  (∀h' tk,(∀b o,s.heap.get? b=some o→h'.get? b=some o)→Q (.int k t) { s with heap:=h',toks:=tk })→wpAny (model P w) A (call (.ref f) [.ref a]) Q E s
section
variable {X:Cx}{pins:List (Addr×Obj)}{σ:L2.St}{H:Hp}{s:Shared}
theorem kept_all{h':Heap}{m:Str→Option Value}{news:List (Addr×Obj)}(I:L2.Inv X pins σ H s)(F:Fr X.base X.env.locals h' m)(N:News X.base X.env.locals h' (allNews X.base s.heap X.env.locals++news)):
  ∀b o,b≠X.env.locals→s.heap.get? b=some o→h'.get? b=some o:=fun b o h1 e=>by
 cases q:X.base.get? b with
 |some u=>
  have:=I.bk b u q
  rw[e]at this
  cases this
  exact F.keep b _ q
 |none=>exact(N (b,o) (List.mem_append_left _ (mem_allNews h1 q e))).1
theorem ns_one{h:Heap}{a:Addr}{m m':Str→Option Value}(x:h.Ns a m)(y:h.Ns a m'):m=m':=by
 obtain⟨o,es,ep,e,d,_,f⟩:=x
 obtain⟨o',es',ep',e',d',_,f'⟩:=y
 rw[e]at e'
 cases e'
 rw[d]at d'
 cases d'
 funext n
 rw[←f n,f' n]
theorem obj_some{P:Program}{w:World}{h:Heap}{a:Addr}{o:HO}(x:ObjOk P w H h a o):∃ob,h.get? a=some ob:=by
 cases o with
 |lst xs=>obtain⟨_,_,_,_,e⟩:=x;exact⟨_,e⟩
 |tup xs=>obtain⟨_,_,_,_,e,_⟩:=x;exact⟨_,e⟩
 |dK kvs=>obtain⟨_,_,_,_,o,_,_,e,_⟩:=x;exact⟨_,e⟩
 |dT kvs=>obtain⟨_,_,_,_,o,_,_,e,_⟩:=x;exact⟨_,e⟩
 |set S n=>obtain⟨o,_,_,_,e,_⟩:=x;exact⟨_,e⟩
 |ins C dx fs=>obtain⟨_,_,_,e,_⟩:=x;exact⟨_,e⟩
 |own y=>exact x
 |xd fs=>obtain⟨_,⟨_,_,_,e,_⟩,_⟩:=x;exact⟨_,e⟩
 |rng lo hi=>obtain⟨_,_,_,e⟩:=x;exact⟨_,e⟩
 |frz ob u=>obtain⟨e,_⟩:=x;exact⟨_,e⟩
 |tbl ps=>exact⟨_,(show h.get? a=some _ from x)⟩
 |met f y=>exact⟨_,(show h.get? a=some _ from x)⟩
 |ext φ=>exact x.2.1
theorem newAt{h':Heap}{m:Str→Option Value}{D:Addr}{ob:HO}{tk:Nat}(I:L2.Inv X pins σ H s)(hm:s.heap.Ns X.env.locals m)(hL:h'.Ns X.env.locals m)(keep:∀b o,b≠X.env.locals→s.heap.get? b=some o→h'.get? b=some o)
  (hD:s.heap.get? D=none) (new:ObjOk X.prog X.w (upd H D ob) h' D ob):H D=none∧L2.Inv X pins σ (upd H D ob) { s with heap:=h',toks:=tk }:=by
 have nL:∀b u,H b=some u→b≠X.env.locals:=fun b u e z=>by rw[z,I.free]at e;cases e
 have nD:∀b u,H b=some u→b≠D:=fun b u e z=>by
  obtain⟨o,q⟩:=obj_some (I.hok b u e)
  rw[z,hD]at q
  cases q
 have fresh:H D=none:=by
  cases e:H D with
  |none=>rfl
  |some u=>exact absurd rfl (nD D u e)
 refine⟨fresh,I.step (g':=s.gens) (d':=s.drawn) (ch:=[]) (fun b hb=>by cases hb) (fun b o h1 _ _ e _=>keep b o h1 e) (fun b o h1 _ _ e _=>⟨o.slots,keep b o h1 e⟩) (fun b o _ e n=>?_) (fun b o _ e=>?_) (fun b xs e=>?_) (fun b o u e=>?_) (fun b ps e=>?_) (fun m' q=>?_) (fun b u e=>?_) I.bare⟩
 ·rw[upd_ne (fun z=>by rw[z,hD]at e;cases e)]
  exact n
 ·by_cases hb:b=X.env.locals
  ·obtain⟨o',_,_,q,_⟩:=hL
   exact⟨o',by rw[hb];exact q⟩
  ·exact⟨o,keep b o hb e⟩
 ·rw[upd_ne (nD b _ e)];exact e
 ·rw[upd_ne (nD b _ e)];exact e
 ·exact⟨#[],by rw[upd_ne (nD b _ e),Array.append_empty];exact e⟩
 ·rw[ns_one q hm]
  exact hL
 ·by_cases hb:b=D
  ·subst hb
   rw[upd_same]at e
   cases e
   exact new
  ·rw[upd_ne hb]at e
   refine(I.hok b u e).stay (fun c v hc q=>keep c v ?_ q) (fun c q=>by rw[upd_ne (nD c _ q)];exact q) fun c xs q=>by rw[upd_ne (nD c _ q)];exact q
   rcases hc with z|z
   ·rw[z];exact nL b u e
   ·exact nL c _ z
noncomputable def addrV:Value→Addr
 | .ref a=>a
 |_=>0
theorem perm_refs{ks:List Int}{as:List Addr}{ps:List (Int×Value)}(h:ps.Perm (ks.zip (as.map Value.ref))):∃qs:List (Int×Addr),qs.Perm (ks.zip as)∧ps=qs.map fun q=>(q.1,Value.ref q.2):=by
 refine⟨ps.map fun p=>(p.1,addrV p.2),?_,?_⟩
 ·have:=h.map fun p=>(p.1,addrV p.2)
  rw[List.zip_map_right,List.map_map]at this
  have e:(ks.zip as).map ((fun p:Int×Value=>(p.1,addrV p.2))∘Prod.map id Value.ref)=ks.zip as:=by
   conv=>rhs;rw[←List.map_id (ks.zip as)]
   exact List.map_congr_left fun⟨x,y⟩ _=>rfl
  rw[e]at this
  exact this
 ·rw[List.map_map]
  conv=>lhs;rw[←List.map_id ps]
  refine List.map_congr_left fun p hp=>?_
  have hq:=h.mem_iff.mp hp
  obtain⟨z,_,e⟩:∃z∈as,Value.ref z=p.2:=List.mem_map.mp (List.of_mem_zip (show(p.1,p.2)∈_ from hq)).2
  show p=(p.1,Value.ref (addrV p.2))
  rw[←e]
  exact Prod.ext rfl e.symm
noncomputable def tSortK(K:PySem.W.Frag)(fld:Str)(te:TE):TE:=fun σ H Q=>te σ H fun x H1=>∃l C as ks,x=.ref l∧SqL K H1 l (as.map V.ref)∧Cls K C∧NoAttr K C fld∧
 Paired (fun a (k:Int)=>∃dx fs,H1 a=some (.ins C dx fs)∧fs.lookup fld=some (.int k)) as ks∧
 ∀(qs:List (Int×Addr)) (p:Addr),H1 p=none→qs.Perm (ks.zip as)→qs.Pairwise (fun x y=>x.1≤y.1)→Q (.ref p) (upd H1 p (.lst (qs.map fun q=>V.ref q.2)))
theorem sortK{f l C:Addr}{fld:Str}{as:List Addr}{ks:List Int}{Q:VK}(I:L2.Inv X pins σ H s)(hr:X.A.depth<recursionLimit)(kf:KeyFn X.K f fld)(hs:SqL X.K H l (as.map V.ref))(cl:Cls X.K C)(na:NoAttr X.K C fld)
  (hp:Paired (fun a (k:Int)=>∃dx fs,H a=some (.ins C dx fs)∧fs.lookup fld=some (.int k)) as ks)
  (q:∀(qs:List (Int×Addr)) (p:Addr),H p=none→qs.Perm (ks.zip as)→qs.Pairwise (fun x y=>x.1≤y.1)→Q (.ref p) (upd H p (.lst (qs.map fun q=>V.ref q.2)))):
  wpAny (model X.prog X.w) X.A (call (.builtin "sorted") [.ref l] [(Str.ofString "key",.ref f)]) (EP X pins σ Q) X.xe s:=by
 obtain⟨its,rv,pl,hz⟩:=I.list hs
 have ei:=refs_at rv
 subst ei
 obtain⟨m,F⟩:=I.fr
 have hlen:=Paired.length hp
 rw[List.length_map]at hz
 refine PyProof.Rows.ksk_sortedAny (b:=false) (kz:=ks) F (news_all) pl.isList (by rw[List.length_map];omega) (by rw[List.length_map];exact hz) (PyProof.Rows.ksk_s1 _ _) (fun x=>PyProof.Rows.ksk_l1 _ _) (fun x=>PyProof.Rows.ksk_t1 _ _) ?_ ?_
 ·intro i v k hv hk h tk own F1 N1
  rw[List.getElem?_map]at hv
  cases ha:as[i]? with
  |none=>rw[ha]at hv;cases hv
  |some a=>
   rw[ha]at hv
   cases hv
   obtain⟨k',hk',dx,fs,e1,e2⟩:=paired_get hp ha
   rw[hk]at hk'
   cases hk'
   have kp:=kept_all I F1 N1
   obtain⟨mA,O,hf,_,_,hdx⟩:=ins_get I.hok e1
   have nL:∀b u,H b=some u→b≠X.env.locals:=fun b u e z=>by rw[z,I.free]at e;cases e
   obtain⟨u,hu,t,rfl⟩:=RelO.some_of (v:=.int k) (o:=mA fld) (by rw[←e2];exact hf fld)
   have O1:ObjM h a dx C mA:=⟨kp _ _ (nL _ _ e1) O.obj,O.ns.at fun o q=>kp _ _ (nL _ _ hdx) q,O.ne⟩
   refine kf X.prog X.w X.A.in1.in1 _ { s with heap:=h,toks:=tk } _ a dx C mA k t (I.mod.kin.keeps F1.keep) (I.mod.nolimit.keeps F1.keep) hr O1 cl na hu fun h2 tk2 kk=>?_
   exact⟨h2,tk2,t,rfl,rfl,F1.kept kk,N1.grown kk⟩
 ·intro D h' tk out c F1 N1 hD ko
  obtain⟨ps,pp,eo,pw⟩:=ko
  obtain⟨qs,qp,eq⟩:=perm_refs pp
  have kp:=kept_all (news:=[]) I F1 (by rw[List.append_nil];exact fun p hp=>N1 p (List.mem_cons_of_mem _ hp))
  have n0:=N1 (D,seqObj "list" out c) List.mem_cons_self
  have hDn:s.heap.get? D=none:=by
   cases e:s.heap.get? D with
   |none=>rfl
   |some o=>exact absurd (hD (D,o) (mem_allNews n0.2.1 n0.2.2 e)) (Nat.lt_irrefl _)
  have eout:out.toList=qs.map fun q=>Value.ref q.2:=by rw[eo,eq,List.map_map];rfl
  have hql:qs.length=as.length:=by rw[qp.length_eq,List.length_zip,←hlen,Nat.min_self]
  have vo:Vals (qs.map fun q=>V.ref q.2) out.toList:=by
   rw[eout]
   clear eout eq qp hql pp pw eo
   induction qs with
   |nil=>exact .nil
   |cons q qs ih=>exact .cons rfl ih
  obtain⟨fr,J⟩:=newAt (tk:=tk) (ob:=.lst (qs.map fun q=>V.ref q.2)) I F.ns F1.ns kp hDn ⟨by rw[List.length_map,hql];exact hz,out.toList,c,vo,n0.1⟩
  refine⟨.ref D,_,J,rfl,q qs D fr qp ?_⟩
  rw[eq]at pw
  exact(List.pairwise_map.mp pw).imp fun h=>by simpa using h
theorem pe_sortK{e:Expr}{te:TE}{g fld:Str}{f:Addr}{p p' kpos pos:Pos}(hr:X.A.depth<recursionLimit)(hg:Gl X "sorted")(hm:X.mg "sorted" = none)(hgk:Gl X g)(hmk:X.mg g=some (.ref f))(kf:KeyFn X.K f fld)(he:PE X e te)
  (hdb:(g==("__debug__" : Str))=false:=by decide)
  (h1:backTo pos (starEach [e] X.env)=[(false,eval e X.env)]:=by rfl) (h2:backToKw pos (keywordEach [⟨some "key",.Name g p',kpos⟩] X.env)=[(some (Str.ofString "key"),eval (.Name g p') X.env)]:=by rfl):
  PE X (.Call (.Name "sorted" p) [e] [⟨some "key",.Name g p',kpos⟩] pos) (tSortK X.K fld te):=by
 intro pins s σ H Q I h
 refine wpAny_Call_Name_kw (ld_blt I hg hm boot_sorted ?_)
 refine callWith_kw ?_ h1 (by rw[h1];rfl) (by rw[h2];rfl) (by rw[h2];rfl)
 rw[h1,h2]
 refine Calls.spliced_cons (thn (he pins s σ H _ I h) fun u s1 ⟨x,H1,I1,rx,l,C,as,ks,ex,hs,cl,na,hp,q⟩=>Calls.spliced_nil ?_)
 subst ex
 cases (show u=Value.ref l from rx)
 refine wpAny_evalAll_cons (ld_glob I1 hgk hmk (wpAny_evalAll_nil ?_) hdb)
 exact sortK I1 hr kf hs cl na hp q
theorem perm_map{α β:Type}{f:α→β}{L R:List β}(h:L.Perm R):∀M:List α,R=M.map f→∃M':List α,M'.Perm M∧L=M'.map f:=by
 induction h with
 |nil=>
  intro M e
  cases M with
  |nil=>exact⟨[],.nil,rfl⟩
  |cons=>cases e
 |cons x _ ih=>
  intro M e
  cases M with
  |nil=>cases e
  |cons a M=>
   simp only[List.map_cons,List.cons.injEq]at e
   obtain⟨M',p,q⟩:=ih M e.2
   exact⟨a::M',p.cons a,by rw[List.map_cons,←e.1,q]⟩
 |swap x y l=>
  intro M e
  match M,e with
  |a::b::M,e=>
   simp only[List.map_cons,List.cons.injEq]at e
   exact⟨b::a::M,.swap _ _ _,by rw[List.map_cons,List.map_cons,←e.1,←e.2.1,←e.2.2]⟩
 |trans _ _ ih1 ih2=>
  intro M e
  obtain⟨M2,p2,q2⟩:=ih2 M e
  obtain⟨M1,p1,q1⟩:=ih1 M2 q2
  exact⟨M1,p1.trans p2,q1⟩
noncomputable abbrev I3:=Int×Int×Int
noncomputable def lt3(x y:I3):Bool:=decide (x.1<y.1)||(!decide (y.1<x.1)&&(decide (x.2.1<y.2.1)||(!decide (y.2.1<x.2.1)&&decide (x.2.2<y.2.2))))
noncomputable def row3(k:I3):List V:=[.int k.1,.int k.2.1,.int k.2.2]
noncomputable def rSort3(K:PySem.W.Frag):List V→Hp→VK→Prop:=fun vs H Q=>∃(l:Addr) (ps:List Addr) (ks:List I3),vs=[V.ref l]∧SqL K H l (ps.map V.ref)∧Paired (fun p k=>SqT K H p (row3 k)) ps ks∧
 ∀(qs:List (I3×Addr)) (p:Addr),H p=none→qs.Perm (ks.zip ps)→qs.Pairwise (fun x y=>lt3 y.1 x.1=false)→Q (.ref p) (upd H p (.lst (qs.map fun q=>V.ref q.2)))
theorem key3{p:Addr}{k:I3}(I:L2.Inv X pins σ H s)(h:SqT X.K H p (row3 k)):PyProof.Rows.G.tupKeyC s.heap (fun _=>false) (.ref p)=some [Sum.inl k.1,Sum.inl k.2.1,Sum.inl k.2.2]∧∃f,PyProof.Rows.TupOf s.heap (fun _=>false) (.ref p) f:=by
 obtain⟨its,rv,⟨o,ho,hc,n,hd⟩,_⟩:=I.tuple h
 obtain⟨k1,k2,k3⟩:=k
 cases rv with
 |cons r1 rv=>
  cases rv with
  |cons r2 rv=>
   cases rv with
   |cons r3 rv=>
    cases rv
    obtain⟨t1,rfl⟩:=r1
    obtain⟨t2,rfl⟩:=r2
    obtain⟨t3,rfl⟩:=r3
    constructor
    ·unfold PyProof.Rows.G.tupKeyC
     rw[if_pos (by simp[PyProof.Rows.G.isTupObj,ho,hc])]
     simp only[PyProof.Rows.tupKey,ho,hd]
     rfl
    ·exact⟨_,p,o,_,n,rfl,ho,hc,hd,rfl,fun _=>⟨_,_,rfl⟩,fun z=>by cases z⟩
theorem cr_sort3:CallR X (.builtin "sorted") (rSort3 X.K):=by
 intro pins s σ H vs us Q I r h
 obtain⟨l,ps,ks,rfl,hs,hp,q⟩:=h
 obtain⟨its,rv,pl,hz⟩:=I.list hs
 rw[Vals.ref1 r]
 have ei:=refs_at rv
 subst ei
 have hlen:=Paired.length hp
 rw[List.length_map]at hz
 have tups:∃fs,PyProof.Rows.TupsOf s.heap (fun _=>false) (ps.map Value.ref) fs:=by
  clear rv pl hs q hz hlen
  induction hp with
  |nil=>exact⟨[],.nil⟩
  |cons h1 _ ih=>
   obtain⟨fs,t⟩:=ih
   obtain⟨_,f,t1⟩:=key3 I h1
   exact⟨f::fs,.cons t1 t⟩
 obtain⟨fs,ht⟩:=tups
 have hk:∀v,v∈ps.map Value.ref→∃l,PyProof.Rows.G.tupKeyC s.heap (fun _=>false) v=some l:=fun v hv=>by
  obtain⟨p,hpm,rfl⟩:=List.mem_map.mp hv
  obtain⟨i,hi,e⟩:=List.mem_iff_getElem.mp hpm
  obtain⟨k,_,hq⟩:=paired_get hp (List.getElem?_eq_some_iff.mpr ⟨hi,e⟩)
  exact⟨_,(key3 I hq).1⟩
 refine PyProof.Rows.G.sorted_tups pl.isList ht hk (by rw[List.length_map];exact hz) fun st' pp so sb=>?_
 have pl2:=Array.perm_iff_toList_perm.mp pp
 rw[pairsOf_toList]at pl2
 have ez:(ps.map Value.ref).zip (ps.map Value.ref)=(ks.zip ps).map fun q=>(Value.ref q.2,Value.ref q.2):=by
  clear rv pl hs q hz ht hk pl2 pp so sb
  induction hp with
  |nil=>rfl
  |cons _ _ ih=>
   simp only[List.map_cons,List.zip_cons_cons,List.cons.injEq,true_and]
   exact ih (by simpa using hlen)
 obtain⟨qs,qp,eq⟩:=perm_map pl2 _ ez
 have hql:qs.length=ps.length:=by rw[qp.length_eq,List.length_zip,←hlen,Nat.min_self]
 obtain⟨ep,he⟩:=sortedAll_at s.heap (ps.map Value.ref) ((arrOf st').map (·.2))
 have eout:((arrOf st').map (·.2)).toList=qs.map fun q=>Value.ref q.2:=by rw[Array.toList_map,eq,List.map_map];rfl
 have vo:Vals (qs.map fun q=>V.ref q.2) ((arrOf st').map (·.2)).toList:=by
  rw[eout]
  clear eout eq qp hql
  induction qs with
  |nil=>exact .nil
  |cons q qs ih=>exact .cons rfl ih
 refine⟨.ref _,upd H (s.heap.objs.size+1) (.lst (qs.map fun q=>V.ref q.2)),I.laid (t':=s.toks) (fun _ _=>sortedAll_old) (Nat.le_succ _) ⟨by rw[List.length_map,hql];exact hz,_,ep,vo,he⟩,rfl,q qs _ (I.hok.fresh (Nat.le_succ _)) qp ?_⟩
 have keyq:∀x∈qs,PyProof.Rows.G.tupKeyC s.heap (fun _=>false) (.ref x.2)=some [Sum.inl x.1.1,Sum.inl x.1.2.1,Sum.inl x.1.2.2]:=fun x hx=>by
  have hm:=qp.mem_iff.mp hx
  obtain⟨i,hi,e⟩:=List.mem_iff_getElem.mp hm
  have e2:(ks.zip ps)[i]?=some x:=List.getElem?_eq_some_iff.mpr ⟨hi,e⟩
  rw[List.getElem?_zip_eq_some]at e2
  obtain⟨k,hk1,hq⟩:=paired_get hp e2.2
  rw[e2.1]at hk1
  cases hk1
  exact(key3 I hq).1
 rw[List.pairwise_iff_getElem]
 intro i j hi hj hij
 have at_:∀(m:Nat) (hm:m<qs.length),(arrOf st')[m]?=some (Value.ref qs[m].2,Value.ref qs[m].2):=fun m hm=>by
  rw[←Array.getElem?_toList,eq,List.getElem?_map,List.getElem?_eq_getElem hm]
  rfl
 have so':=so i j (Nat.le_of_lt hij) (by rw[pairsOf_size,List.length_map];omega)
 have k1:KK (PyProof.Rows.G.tupKindC s.heap fun _=>false) (arrOf st') i=[Sum.inl qs[i].1.1,Sum.inl qs[i].1.2.1,Sum.inl qs[i].1.2.2]:=by
  unfold KK
  rw[at_ i hi]
  show(PyProof.Rows.G.tupKeyC s.heap (fun _=>false) (.ref qs[i].2)).getD _=_
  rw[keyq _ (List.getElem_mem hi)]
  rfl
 have k2:KK (PyProof.Rows.G.tupKindC s.heap fun _=>false) (arrOf st') j=[Sum.inl qs[j].1.1,Sum.inl qs[j].1.2.1,Sum.inl qs[j].1.2.2]:=by
  unfold KK
  rw[at_ j hj]
  show(PyProof.Rows.G.tupKeyC s.heap (fun _=>false) (.ref qs[j].2)).getD _=_
  rw[keyq _ (List.getElem_mem hj)]
  rfl
 rw[k1,k2]at so'
 have so2:PyProof.Rows.lexLt PyProof.Rows.itemOrd [Sum.inl qs[j].1.1,Sum.inl qs[j].1.2.1,Sum.inl qs[j].1.2.2] [Sum.inl qs[i].1.1,Sum.inl qs[i].1.2.1,Sum.inl qs[i].1.2.2]=false:=so'
 rw[←so2]
 simp only[PyProof.Rows.lexLt,PyProof.Rows.itemLt,lt3,Bool.and_false,Bool.or_false]
end
end
section
section
variable {prog:Program}{w:World}{A:Around}{E:Value→Shared→Prop}{s:Shared}
theorem nx_tup{jt tu:Addr}{n:Nat}{ys}{v:Value}{Q:Value→Shared→Prop}(g:s.heap.IsTupleIter jt tu n)(gt:s.heap.IsTuple tu ys)(gv:ys[n]?=some v)
  (q:∀h',h'.IsTupleIter jt tu (n+1)→Heap.SameBut jt s.heap h'→Q v { s with heap:=h' }):wpAny (model prog w) A (Builtin.SmallTypes.nextOf (.ref jt)) Q E s:=by
 obtain⟨ob,eb,cb,db⟩:=id g
 obtain⟨ot,et,_,nt,dt⟩:=gt
 unfold Builtin.SmallTypes.nextOf
 refine wpAny_bind (wpAny_callSpecial?_slot (name:=Str.ofString "__next__") g.typeIs F.slot_tuple_iterator_next (wpAny_call_entry F.slot_tuple_iterator_next g.typeIs F.entry_tuple_iterator_next ?_ (F.args_tuple_iterator_next_1 _)))
 show wpAny _ _ (field (.ref jt) 0 >>= _) _ _ s
 refine wpAny_bind (wpAny_field eb db (x:=.ref tu) rfl ?_)
 show wpAny _ _ (if(Value.ref tu==Value.none)=true then _ else _) _ _ s
 rw[if_neg (show ¬((Value.ref tu==Value.none)=true)from Bool.false_ne_true)]
 show wpAny _ _ (field (.ref jt) 1 >>= _) _ _ s
 refine wpAny_bind (wpAny_field eb db (x:=.int n 0) rfl ?_)
 show wpAny _ _ (seqItems? (.ref tu) >>= _) _ _ s
 refine wpAny_bind (wpAny_seqItems et dt ?_)
 simp only[Int.toNat_natCast,gv]
 refine wpAny_bind (wpAny_setField eb db (by simp) (wpAny_pure ⟨v,rfl,wpAny_pure (q _ ?_ (Heap.SameBut.update ..))⟩))
 exact⟨_,Heap.get?_update_self _ eb (Obj.isFreed_of_fields (Obj.data_mapFields db _)),(Obj.cls_mapFields ..).trans cb,by rw[Obj.data_mapFields db];simp[rawInt]⟩
theorem nx_tup_end{jt tu:Addr}{n:Nat}{ys}{Q:Value→Shared→Prop}(hh:A.handled=none)(g:s.heap.IsTupleIter jt tu n)(gt:s.heap.IsTuple tu ys)(gv:ys[n]?=none)
  (q:∀h' e,Heap.ExtBut jt s.heap h'→(∃o,h'.get? e=some o∧o.cls=.type "StopIteration")→E (.ref e) { s with heap:=h' }):wpAny (model prog w) A (Builtin.SmallTypes.nextOf (.ref jt)) Q E s:=by
 obtain⟨ob,eb,cb,db⟩:=id g
 obtain⟨ot,et,_,nt,dt⟩:=gt
 unfold Builtin.SmallTypes.nextOf
 refine wpAny_bind (wpAny_callSpecial?_slot (name:=Str.ofString "__next__") g.typeIs F.slot_tuple_iterator_next (wpAny_call_entry F.slot_tuple_iterator_next g.typeIs F.entry_tuple_iterator_next ?_ (F.args_tuple_iterator_next_1 _)))
 show wpAny _ _ (field (.ref jt) 0 >>= _) _ _ s
 refine wpAny_bind (wpAny_field eb db (x:=.ref tu) rfl ?_)
 show wpAny _ _ (if(Value.ref tu==Value.none)=true then _ else _) _ _ s
 rw[if_neg (show ¬((Value.ref tu==Value.none)=true)from Bool.false_ne_true)]
 show wpAny _ _ (field (.ref jt) 1 >>= _) _ _ s
 refine wpAny_bind (wpAny_field eb db (x:=.int n 0) rfl ?_)
 show wpAny _ _ (seqItems? (.ref tu) >>= _) _ _ s
 refine wpAny_bind (wpAny_seqItems et dt ?_)
 simp only[Int.toNat_natCast,gv]
 refine wpAny_bind (wpAny_rule (wpAny_bind (wpAny_setField eb db (by simp) ?_)))
 show wpAny _ _ (newExc (.type "StopIteration") [] >>= fun x=>_) _ _ _
 refine wpAny_bind ?_
 simp only[newExc,newTuple]
 refine wpAny_bind (wpAny_newObj_type (?_) (by size_fits))
 refine wpAny_bind (m:=firstArgMember _ _) (wpAny_of_eq (a:=Value.none) (by first|rfl|(simp only[firstArgMember]<;>rfl)) ?_)
 refine wpAny_newObj_type (?_) (by size_fits)
 simp only[raiseNew]
 refine wpAny_bind (wpAny_handled ?_)
 first|rw[show A.in1.handled=none from hh]|(rw[hh])
 refine wpAny_bind (wpAny_pure (wpAny_throw (q _ _ (((Heap.SameBut.update ..).extBut.push _).push _) ⟨_,Heap.get?_push_size _ rfl,rfl⟩)))
structure Src(prog:Program)(w:World)(it:Addr)(dep:List Addr)(vals:List Value)(st:Nat→Heap→Prop):Prop where
 item:∀{A:Around} {E:Value→Shared→Prop} {s:Shared} {k:Nat} {x:Value} {Q:Value→Shared→Prop},st k s.heap→vals[k]?=some x→(∀h',st (k+1) h'→Heap.SameBut it s.heap h'→Q x { s with heap:=h' })→wpAny (model prog w) A (Builtin.SmallTypes.nextOf (.ref it)) Q E s
 stop:∀{A:Around} {E:Value→Shared→Prop} {s:Shared} {k:Nat} {Q:Value→Shared→Prop},A.handled=none→st k s.heap→vals[k]?=none→(∀h' e,Heap.ExtBut it s.heap h'→(∃o,h'.get? e=some o∧o.cls=.type "StopIteration")→E (.ref e) { s with heap:=h' })→wpAny (model prog w) A (Builtin.SmallTypes.nextOf (.ref it)) Q E s
 stay:∀{k:Nat} {h h':Heap},st k h→(∀b∈dep,∀o,h.get? b=some o→h'.get? b=some o)→st k h'
theorem src_list{it l:Addr}{xs:Array Value}(hne:l≠it):Src prog w it [it,l] xs.toList fun k h=>h.IsListIter it l k∧h.IsList l xs where
 item:=fun{A E s k x Q} p hx q=>wpAny_nextOf_list_item p.1 p.2 (by simpa using hx) fun h' a b=>q h' ⟨a,p.2.extBut b.extBut hne⟩ b
 stop:=fun{A E s k Q} hh p hx q=>wpAny_nextOf_list_end hh p.1 p.2 (by simpa using hx) q
 stay:=fun p k=>⟨p.1.at fun o e=>k _ (by simp) o e,p.2.at fun o e=>k _ (by simp) o e⟩
theorem src_tup{it l:Addr}{xs:Array Value}(hne:l≠it):Src prog w it [it,l] xs.toList fun k h=>h.IsTupleIter it l k∧h.IsTuple l xs where
 item:=fun{A E s k x Q} p hx q=>nx_tup p.1 p.2 (by simpa using hx) fun h' a b=>q h' ⟨a,p.2.extBut b.extBut hne⟩ b
 stop:=fun{A E s k Q} hh p hx q=>nx_tup_end hh p.1 p.2 (by simpa using hx) q
 stay:=fun p k=>by
  obtain⟨⟨o,e,r⟩,⟨o',e',r'⟩⟩:=p
  exact⟨⟨o,k _ (by simp) o e,r⟩,⟨o',k _ (by simp) o' e',r'⟩⟩
structure Apart(z TI TO i1 i2:Addr)(d1 d2:List Addr):Prop where
 nd:[z,TI,TO,i1,i2].Nodup
 z1:∀b∈d1++d2,b≠z∧b≠TO
 i1d:∀b∈d2,b≠i1
 i2d:∀b∈d1,b≠i2
theorem apart_new{n a b:Nat}(la:a<n)(lb:b<n):Apart (n+4) (n+2) (n+3) n (n+1) [n,a] [n+1,b]:=by
 refine⟨?_,fun(c:Nat) hc=>?_,fun(c:Nat) hc=>?_,fun(c:Nat) hc=>?_⟩
 ·simp
 ·have hc:c∈([n,a,n+1,b]:List Nat):=hc
  simp at hc
  have:c<n+3:=by omega
  exact⟨fun(q:@Eq Nat c (n+4))=>by omega,fun(q:@Eq Nat c (n+3))=>by omega⟩
 ·have hc:c∈([n+1,b]:List Nat):=hc
  simp at hc
  exact fun(q:@Eq Nat c n)=>by omega
 ·have hc:c∈([n,a]:List Nat):=hc
  simp at hc
  exact fun(q:@Eq Nat c (n+1))=>by omega
theorem zipN{z TI TO i1 i2:Addr}{d1 d2:List Addr}{v1 v2:List Value}{st1 st2:Nat→Heap→Prop}{k1 k2:Nat}{x y a b:Value}{Q:Value→Shared→Prop}(S1:Src prog w i1 d1 v1 st1)(S2:Src prog w i2 d2 v2 st2)(D:Apart z TI TO i1 i2 d1 d2)
  (hz:IsZip s.heap z TI TO .none) (hTI:IsPair s.heap TI (.ref i1) (.ref i2)) (hTO:IsPair s.heap TO a b) (h1:st1 k1 s.heap) (h2:st2 k2 s.heap) (hx:v1[k1]?=some x) (hy:v2[k2]?=some y)
  (hQ:∀h',IsZip h' z TI TO (rawInt s.heap.objs.size)→IsPair h' TO x y→st1 (k1+1) h'→st2 (k2+1) h'→IsPair h' s.heap.objs.size x y→h'.objs.size=s.heap.objs.size+1→
   (∀c o,c≠z→c≠TO→c≠i1→c≠i2→s.heap.get? c=some o→h'.get? c=some o)→Q (.ref s.heap.objs.size) { s with heap:=h' }):
  wpAny (model prog w) A (Builtin.«zip.__next__» ⟨[.ref z],[]⟩) (fun fin s'=>∃v,fin=.done (.ret v)∧Q v s') E s:=by
 have nd:=D.nd
 simp only[List.nodup_cons,List.mem_cons,List.not_mem_nil,or_false,not_or]at nd
 obtain⟨⟨n1,n2,n3,n4⟩,⟨n5,n6,n7⟩,⟨n8,n9⟩,n10,_⟩:=nd
 have e1:∀c∈d1,c≠z∧c≠TO:=fun c hc=>D.z1 c (List.mem_append_left _ hc)
 have e2:∀c∈d2,c≠z∧c≠TO:=fun c hc=>D.z1 c (List.mem_append_right _ hc)
 show wpAny _ _ (field (.ref z) 2 >>= _) _ _ s
 refine wpAny_bind (wpAny_field hz rfl (x:=.bool false) (by rfl) ?_)
 show wpAny _ _ (field (.ref z) 3 >>= _) _ _ s
 refine wpAny_bind (wpAny_field hz rfl (x:=.ref TI) (by rfl) ?_)
 refine wpAny_bind (wpAny_seqItems hTI (by rfl) ?_)
 show wpAny _ _ (Builtin.SmallTypes.ownedTupleIsFree (.ref z) >>= _) _ _ s
 refine wpAny_bind ?_
 unfold Builtin.SmallTypes.ownedTupleIsFree
 refine wpAny_bind (wpAny_field hz rfl (x:=.none) (by rfl) (wpAny_pure ?_))
 simp only[if_true]
 refine wpAny_bind (wpAny_rule (wpAny_bind (wpAny_field hz rfl (x:=.ref TO) rfl (wpAny_bind (wpAny_setField_rec hz (by simp) fun g1 gz1 t1=>?_)))))
 have gz1':IsZip g1 z TI TO .ellipsis:=gz1
 refine wpAny_bind ?_
 simp only[List.zipIdx_cons,List.zipIdx_nil,List.forIn_cons,List.forIn_nil]
 refine wpAny_bind (wpAny_bind (wpAny_onRaise (?_)))
 show wpAny _ _ (Builtin.SmallTypes.nextOf (.ref i1) >>= fun v=>_) _ _ _
 refine wpAny_bind (S1.item (S1.stay h1 fun c hc o e=>t1.extBut _ _ (e1 c hc).1 e) hx fun g2 p1 t2=>wpAny_pure ?_)
 have to2:IsPair g2 TO a b:=t2.extBut _ _ n8 (t1.extBut _ _ (Ne.symm n2) hTO)
 refine wpAny_bind (wpAny_seqItems to2 rfl (wpAny_bind (wpAny_updateSeq_pair to2 fun g3 to3 t3=>?_)))
 have to3':IsPair g3 TO x b:=to3
 refine wpAny_bind (wpAny_letGo (wpAny_pure (?_)))
 refine wpAny_bind (wpAny_bind (wpAny_onRaise (?_)))
 show wpAny _ _ (Builtin.SmallTypes.nextOf (.ref i2) >>= fun v=>_) _ _ _
 refine wpAny_bind (S2.item (S2.stay h2 fun c hc o e=>t3.extBut _ _ (e2 c hc).2 (t2.extBut _ _ (D.i1d c hc) (t1.extBut _ _ (e2 c hc).1 e))) hy fun g4 p2 t4=>wpAny_pure ?_)
 have to4:IsPair g4 TO x b:=t4.extBut _ _ n9 to3'
 refine wpAny_bind (wpAny_seqItems to4 rfl (wpAny_bind (wpAny_updateSeq_pair to4 fun g5 to5 t5=>?_)))
 have to5':IsPair g5 TO x y:=to5
 refine wpAny_bind (wpAny_letGo (wpAny_pure (wpAny_pure (?_))))
 refine wpAny_bind (wpAny_seqItems to5' rfl (wpAny_bind (wpAny_newTuple ?_)))
 have sz:g5.objs.size=s.heap.objs.size:=by rw[t5.1,t4.1,t3.1,t2.1,t1.1]
 have gz5:IsZip g5 z TI TO .ellipsis:=t5.extBut _ _ n2 (t4.extBut _ _ n4 (t3.extBut _ _ n2 (t2.extBut _ _ n3 gz1')))
 have kp5:∀c o,c≠z→c≠TO→c≠i1→c≠i2→s.heap.get? c=some o→g5.get? c=some o:=fun c o c1 c2 c3 c4 e=>t5.extBut _ _ c2 (t4.extBut _ _ c4 (t3.extBut _ _ c2 (t2.extBut _ _ c3 (t1.extBut _ _ c1 e))))
 have q1:st1 (k1+1) g5:=S1.stay p1 fun c hc o e=>t5.extBut _ _ (e1 c hc).2 (t4.extBut _ _ (D.i2d c hc) (t3.extBut _ _ (e1 c hc).2 e))
 have q2:st2 (k2+1) g5:=S2.stay p2 fun c hc o e=>t5.extBut _ _ (e2 c hc).2 e
 have zlt:z<g5.objs.size:=Heap.lt_size gz5
 show wpAny _ _ (Builtin.SmallTypes.ownedTupleHandOut (.ref z) (.ref g5.objs.size) >>= _) _ _ _
 refine wpAny_bind ?_
 unfold Builtin.SmallTypes.ownedTupleHandOut
 have gz6:IsZip (g5.push { cls:=.type "tuple",data:=.seq #[x,y] }) z TI TO .ellipsis:=Heap.get?_push_of_some _ gz5
 refine wpAny_bind (wpAny_setField_rec gz6 (by simp) fun g7 gz7 t7=>?_)
 have gz7':IsZip g7 z TI TO (rawInt g5.objs.size):=gz7
 refine wpAny_setField_rec gz7' (by simp) fun g8 gz8 t8=>?_
 have gz8':IsZip g8 z TI TO (rawInt g5.objs.size):=gz8
 have up:∀c o,c≠z→g5.get? c=some o→g8.get? c=some o:=fun c o c1 e=>t8.extBut _ _ c1 (t7.extBut _ _ c1 (Heap.get?_push_of_some _ e))
 have gt8:IsPair g8 g5.objs.size x y:=t8.extBut _ _ (Nat.ne_of_gt zlt) (t7.extBut _ _ (Nat.ne_of_gt zlt) (Heap.get?_push_size _ rfl))
 have sz8:g8.objs.size=g5.objs.size+1:=by rw[t8.1,t7.1,Heap.size_push]
 rw[sz]at gz8' gt8 sz8
 refine wpAny_pure ⟨_,rfl,?_⟩
 show Q (.ref g5.objs.size) _
 rw[sz]
 exact hQ g8 gz8' (up _ _ (Ne.symm n2) to5') (S1.stay q1 fun c hc o e=>up c o (e1 c hc).1 e) (S2.stay q2 fun c hc o e=>up c o (e2 c hc).1 e) gt8 sz8 fun c o c1 c2 c3 c4 e=>up c o c1 (kp5 c o c1 c2 c3 c4 e)
theorem zipE{z TI TO i1 i2:Addr}{d1 d2:List Addr}{v1 v2:List Value}{st1 st2:Nat→Heap→Prop}{k1 k2:Nat}{a b:Value}{Q:Fin→Shared→Prop}(hh:A.handled=none)(S1:Src prog w i1 d1 v1 st1)(S2:Src prog w i2 d2 v2 st2)(D:Apart z TI TO i1 i2 d1 d2)
  (hz:IsZip s.heap z TI TO .none) (hTI:IsPair s.heap TI (.ref i1) (.ref i2)) (hTO:IsPair s.heap TO a b) (h1:st1 k1 s.heap) (h2:st2 k2 s.heap) (hend:v1[k1]?=none∨v2[k2]?=none)
  (hE:∀h' e,(∀c o,c≠z→c≠TO→c≠i1→c≠i2→s.heap.get? c=some o→h'.get? c=some o)→(∃o,h'.get? e=some o∧o.cls=.type "StopIteration")→E (.ref e) { s with heap:=h' }):
  wpAny (model prog w) A (Builtin.«zip.__next__» ⟨[.ref z],[]⟩) Q E s:=by
 have nd:=D.nd
 simp only[List.nodup_cons,List.mem_cons,List.not_mem_nil,or_false,not_or]at nd
 obtain⟨⟨n1,n2,n3,n4⟩,⟨n5,n6,n7⟩,⟨n8,n9⟩,n10,_⟩:=nd
 have e1:∀c∈d1,c≠z∧c≠TO:=fun c hc=>D.z1 c (List.mem_append_left _ hc)
 have e2:∀c∈d2,c≠z∧c≠TO:=fun c hc=>D.z1 c (List.mem_append_right _ hc)
 show wpAny _ _ (field (.ref z) 2 >>= _) _ _ s
 refine wpAny_bind (wpAny_field hz rfl (x:=.bool false) (by rfl) ?_)
 show wpAny _ _ (field (.ref z) 3 >>= _) _ _ s
 refine wpAny_bind (wpAny_field hz rfl (x:=.ref TI) (by rfl) ?_)
 refine wpAny_bind (wpAny_seqItems hTI (by rfl) ?_)
 show wpAny _ _ (Builtin.SmallTypes.ownedTupleIsFree (.ref z) >>= _) _ _ s
 refine wpAny_bind ?_
 unfold Builtin.SmallTypes.ownedTupleIsFree
 refine wpAny_bind (wpAny_field hz rfl (x:=.none) (by rfl) (wpAny_pure ?_))
 simp only[if_true]
 refine wpAny_bind (wpAny_rule (wpAny_bind (wpAny_field hz rfl (x:=.ref TO) rfl (wpAny_bind (wpAny_setField_rec hz (by simp) fun g1 gz1 t1=>?_)))))
 have gz1':IsZip g1 z TI TO .ellipsis:=gz1
 refine wpAny_bind ?_
 simp only[List.zipIdx_cons,List.zipIdx_nil,List.forIn_cons,List.forIn_nil]
 refine wpAny_bind (wpAny_bind (wpAny_onRaise (?_)))
 show wpAny _ _ (Builtin.SmallTypes.nextOf (.ref i1) >>= fun v=>_) _ _ _
 have f1:=S1.stay (h':=g1) h1 fun c hc o e=>t1.extBut _ _ (e1 c hc).1 e
 cases hx:v1[k1]? with
 |none=>
  refine wpAny_bind (S1.stop hh f1 hx fun g2 e t2 he=>?_)
  obtain⟨oe,hoe,hce⟩:=he
  have gz2:IsZip g2 z TI TO .ellipsis:=t2 _ _ n3 gz1'
  have nez:e≠z:=fun q=>by subst q;rw[gz2]at hoe;cases hoe;simp at hce
  exact wpAny_setField_rec gz2 (by simp) fun g3 _ t3=>hE g3 e (fun c o c1 _ c3 _ q=>t3.extBut _ _ c1 (t2 _ _ c3 (t1.extBut _ _ c1 q))) ⟨oe,t3.extBut _ _ nez hoe,hce⟩
 |some x=>
  have hy:v2[k2]?=none:=by
   rcases hend with q|q
   ·rw[hx]at q;cases q
   ·exact q
  refine wpAny_bind (S1.item f1 hx fun g2 p1 t2=>wpAny_pure ?_)
  have to2:IsPair g2 TO a b:=t2.extBut _ _ n8 (t1.extBut _ _ (Ne.symm n2) hTO)
  refine wpAny_bind (wpAny_seqItems to2 rfl (wpAny_bind (wpAny_updateSeq_pair to2 fun g3 to3 t3=>?_)))
  refine wpAny_bind (wpAny_letGo (wpAny_pure (?_)))
  refine wpAny_bind (wpAny_bind (wpAny_onRaise (?_)))
  show wpAny _ _ (Builtin.SmallTypes.nextOf (.ref i2) >>= fun v=>_) _ _ _
  refine wpAny_bind (S2.stop hh (S2.stay h2 fun c hc o e=>t3.extBut _ _ (e2 c hc).2 (t2.extBut _ _ (D.i1d c hc) (t1.extBut _ _ (e2 c hc).1 e))) hy fun g4 e t4 he=>?_)
  obtain⟨oe,hoe,hce⟩:=he
  have gz4:IsZip g4 z TI TO .ellipsis:=t4 _ _ n4 (t3.extBut _ _ n2 (t2.extBut _ _ n3 gz1'))
  have nez:e≠z:=fun q=>by subst q;rw[gz4]at hoe;cases hoe;simp at hce
  exact wpAny_setField_rec gz4 (by simp) fun g5 _ t5=>hE g5 e (fun c o c1 c2 c3 c4 q=>t5.extBut _ _ c1 (t4 _ _ c4 (t3.extBut _ _ c2 (t2.extBut _ _ c3 (t1.extBut _ _ c1 q))))) ⟨oe,t5.extBut _ _ nez hoe,hce⟩
theorem zipNext{z TI TO i1 i2:Addr}{d1 d2:List Addr}{v1 v2:List Value}{st1 st2:Nat→Heap→Prop}{k1 k2:Nat}{x y a b:Value}{Q:Option Value→Shared→Prop}(S1:Src prog w i1 d1 v1 st1)(S2:Src prog w i2 d2 v2 st2)(D:Apart z TI TO i1 i2 d1 d2)
  (hz:IsZip s.heap z TI TO .none) (hTI:IsPair s.heap TI (.ref i1) (.ref i2)) (hTO:IsPair s.heap TO a b) (h1:st1 k1 s.heap) (h2:st2 k2 s.heap) (hx:v1[k1]?=some x) (hy:v2[k2]?=some y)
  (hQ:∀h',IsZip h' z TI TO (rawInt s.heap.objs.size)→IsPair h' TO x y→st1 (k1+1) h'→st2 (k2+1) h'→IsPair h' s.heap.objs.size x y→h'.objs.size=s.heap.objs.size+1→
   (∀c o,c≠z→c≠TO→c≠i1→c≠i2→s.heap.get? c=some o→h'.get? c=some o)→Q (some (.ref s.heap.objs.size)) { s with heap:=h' }):
  wpAny (model prog w) A (pyNext (.ref z)) Q E s:=by
 have ty:s.TypeIs (.ref z) "zip":=⟨_,hz,rfl⟩
 unfold pyNext
 exact wpAny_bind (wpAny_attempt (wpAny_callSpecial?_slot (name:=Str.ofString "__next__") ty F.slot_zip_next (wpAny_call_entry F.slot_zip_next ty F.entry_zip_next
  (zipN S1 S2 D hz hTI hTO h1 h2 hx hy fun h' b1 b2 b3 b4 b5 b6 b7=>wpAny_pure (hQ h' b1 b2 b3 b4 b5 b6 b7)) (F.args_zip_next_1 _))))
theorem zipStop{z TI TO i1 i2:Addr}{d1 d2:List Addr}{v1 v2:List Value}{st1 st2:Nat→Heap→Prop}{k1 k2:Nat}{a b:Value}{Q:Option Value→Shared→Prop}(hh:A.handled=none)(S1:Src prog w i1 d1 v1 st1)(S2:Src prog w i2 d2 v2 st2)(D:Apart z TI TO i1 i2 d1 d2)
  (hz:IsZip s.heap z TI TO .none) (hTI:IsPair s.heap TI (.ref i1) (.ref i2)) (hTO:IsPair s.heap TO a b) (h1:st1 k1 s.heap) (h2:st2 k2 s.heap) (hend:v1[k1]?=none∨v2[k2]?=none)
  (hQ:∀h',(∀c o,c≠z→c≠TO→c≠i1→c≠i2→s.heap.get? c=some o→h'.get? c=some o)→Q none { s with heap:=h' }):wpAny (model prog w) A (pyNext (.ref z)) Q E s:=by
 have ty:s.TypeIs (.ref z) "zip":=⟨_,hz,rfl⟩
 unfold pyNext
 refine wpAny_bind (wpAny_attempt (wpAny_callSpecial?_slot (name:=Str.ofString "__next__") ty F.slot_zip_next (wpAny_call_entry F.slot_zip_next ty F.entry_zip_next
  (zipE hh S1 S2 D hz hTI hTO h1 h2 hend fun h' e hk ⟨o,ho,hc⟩=>?_) (F.args_zip_next_1 _))))
 exact wpAny_bind (wpAny_isInstance (T:="StopIteration") (b:=true) ⟨o,ho,hc⟩ isSubtype_stop (wpAny_pure (hQ _ hk)))
noncomputable abbrev zp1(h:Heap)(l1:Addr):Heap:=h.push { cls:=.type "list_iterator",data:=.fields #[.ref l1,.int 0 0] }
noncomputable abbrev zp2(h:Heap)(l1 l2:Addr):Heap:=(zp1 h l1).push { cls:=.type "tuple_iterator",data:=.fields #[.ref l2,.int 0 0] }
noncomputable abbrev zp3(h:Heap)(l1 l2:Addr):Heap:=(zp2 h l1 l2).push { cls:=.type "tuple",data:=.seq #[.ref h.objs.size,.ref (zp1 h l1).objs.size] }
noncomputable abbrev zp4(h:Heap)(l1 l2:Addr):Heap:=(zp3 h l1 l2).push { cls:=.type "tuple",data:=.seq #[.none,.none] }
noncomputable abbrev zp5(h:Heap)(l1 l2:Addr):Heap:=(zp4 h l1 l2).push { cls:=.type "zip",data:=.fields #[.none,.bool false,.bool false,.ref (zp2 h l1 l2).objs.size,.ref (zp3 h l1 l2).objs.size] }
theorem zip_newT(l1 l2:Addr)(xs ys:Array Value):Meets (Builtin.«zip.__new__» ⟨[.type "zip",.ref l1,.ref l2],[]⟩) (fun _ R s=>s.heap.IsList l1 xs∧s.heap.IsTuple l2 ys∧R (.ok (.ret (.ref (zp4 s.heap l1 l2).objs.size))) { s with heap:=zp5 s.heap l1 l2 }):=
 .of_wp fun prog w A R s h=>by
  obtain⟨hp,g,d,tk,os⟩:=s
  obtain⟨hl1,hl2,h⟩:=h
  have hsub:=sub_zip
  have c1:Heap.IsList (Shared.heap ⟨hp,g,d,tk,os⟩) l1 xs:=hl1
  have c2:Heap.IsTuple (Shared.heap ⟨hp.push { cls:=.type "list_iterator",data:=.fields #[.ref l1,.int 0 0] },g,d,tk,os⟩) l2 ys:=Heap.IsTuple.push hl2 _
  wp_walk using wpAny_pyIter_list c1,wpAny_pyIter_tuple c2
  exact⟨_,rfl,h⟩
theorem call_zipT{l1 l2:Addr}{xs ys:Array Value}{Q:Value→Shared→Prop}(hl1:s.heap.IsList l1 xs)(hl2:s.heap.IsTuple l2 ys)
  (h:∀h',IsZip h' (s.heap.objs.size+4) (s.heap.objs.size+2) (s.heap.objs.size+3) .none→IsPair h' (s.heap.objs.size+2) (.ref s.heap.objs.size) (.ref (s.heap.objs.size+1))→
   IsPair h' (s.heap.objs.size+3) .none .none→h'.IsListIter s.heap.objs.size l1 0→h'.IsTupleIter (s.heap.objs.size+1) l2 0→(∀c o,s.heap.get? c=some o→h'.get? c=some o)→Q (.ref (s.heap.objs.size+4)) { s with heap:=h' }):
  wpAny (model prog w) A (call (.type "zip") [.ref l1,.ref l2]) Q E s:=by
 refine callType_new F.called_zip (by decide) (F.typeCall_zip_2 _ _) (F.newCall_zip_2 _ _) (fun obj=>F.args_object_init_3 obj _ _) F.entry_zip_new (zip_newT l1 l2 xs ys) ⟨hl1,hl2,?_⟩
 have w1:(zp1 s.heap l1).objs.size=s.heap.objs.size+1:=Heap.size_push ..
 have w2:(zp2 s.heap l1 l2).objs.size=s.heap.objs.size+2:=by rw[Heap.size_push,w1]
 have w3:(zp3 s.heap l1 l2).objs.size=s.heap.objs.size+3:=by rw[Heap.size_push,w2]
 have w4:(zp4 s.heap l1 l2).objs.size=s.heap.objs.size+4:=by rw[Heap.size_push,w3]
 have u5:(zp5 s.heap l1 l2).get? (zp4 s.heap l1 l2).objs.size=some _:=Heap.get?_push_size _ rfl
 have u4:(zp5 s.heap l1 l2).get? (zp3 s.heap l1 l2).objs.size=some _:=Heap.get?_push_of_some _ (Heap.get?_push_size _ rfl)
 have u3:(zp5 s.heap l1 l2).get? (zp2 s.heap l1 l2).objs.size=some _:=Heap.get?_push_of_some _ (Heap.get?_push_of_some _ (Heap.get?_push_size _ rfl))
 have u2:(zp5 s.heap l1 l2).get? (zp1 s.heap l1).objs.size=some _:=Heap.get?_push_of_some _ (Heap.get?_push_of_some _ (Heap.get?_push_of_some _ (Heap.get?_push_size _ rfl)))
 have u1:(zp5 s.heap l1 l2).get? s.heap.objs.size=some _:=Heap.get?_push_of_some _ (Heap.get?_push_of_some _ (Heap.get?_push_of_some _ (Heap.get?_push_of_some _ (Heap.get?_push_size _ rfl))))
 show _∧_
 rw[w2,w3,w4]at u5
 rw[w1,w2]at u3
 rw[w3]at u4
 rw[w1]at u2
 rw[w4]
 exact⟨⟨_,u5,rfl⟩,h _ u5 u3 u4 ⟨_,u1,rfl,rfl⟩ ⟨_,u2,rfl,rfl⟩ fun c o x=>Heap.get?_push_of_some _ (Heap.get?_push_of_some _ (Heap.get?_push_of_some _ (Heap.get?_push_of_some _ (Heap.get?_push_of_some _ x))))⟩
noncomputable def Itzt(K:PySem.W.Frag)(a b:Addr)(xs ys:List V):It:=
 ⟨fun i H=>SqL K H a xs∧SqT K H b ys∧i<xs.length∧i<ys.length,
  fun i H v H'=>∃T x y,v=.ref T∧H T=none∧H'=upd H T (.tup [x,y])∧xs[i]?=some x∧ys[i]?=some y,
  fun i H=>SqL K H a xs∧SqT K H b ys∧(xs.length≤i∨ys.length≤i)⟩
theorem turn_zipT{P:Program}{w:World}{K:PySem.W.Frag}{elts:List Expr}{kk:Nat}{tpos:Pos}{a b z TI TO i1 i2:Addr}{xs ys:List V}(D:Apart z TI TO i1 i2 [i1,a] [i2,b]):
  Turn P w K (.Tuple elts kk tpos) (Itzt K a b xs ys) [z,TI,TO,i1,i2] z (fun i h=>IsZip h z TI TO .none∧IsPair h TI (.ref i1) (.ref i2)∧(∃x y,IsPair h TO x y)∧h.IsListIter i1 a i∧h.IsTupleIter i2 b i) where
 mem:=by simp
 obj:=fun i h st c hc=>by
  obtain⟨hz,hTI,⟨x,y,hTO⟩,⟨o1,e1,_,d1⟩,⟨o2,e2,_,d2⟩⟩:=st
  have e':c=z∨c=TI∨c=TO∨c=i1∨c=i2:=by simpa using hc
  rcases e' with q|q|q|q|q
  ·rw[q];exact⟨_,hz,fun v q=>nomatch q⟩
  ·rw[q];exact⟨_,hTI,fun v q=>nomatch q⟩
  ·rw[q];exact⟨_,hTO,fun v q=>nomatch q⟩
  ·rw[q];exact⟨o1,e1,fun v q=>by rw[d1]at q;cases q⟩
  ·rw[q];exact⟨o2,e2,fun v q=>by rw[d2]at q;cases q⟩
 keep:=fun i h h' st k=>by
  obtain⟨hz,hTI,⟨x,y,hTO⟩,h1,⟨o2,e2,r2⟩⟩:=st
  exact⟨k z (by simp) _ hz,k TI (by simp) _ hTI,⟨x,y,k TO (by simp) _ hTO⟩,h1.at fun o q=>k i1 (by simp) o q,⟨o2,k i2 (by simp) _ e2,r2⟩⟩
 item:=by
  intro X hP hw hK hc i pins s σ H E I hf st hg
  subst hP hw hK
  obtain⟨hz,hTI,⟨x0,y0,hTO⟩,h1,h2⟩:=st
  obtain⟨hqx,hqy,lx,ly⟩:=hg
  obtain⟨its,rv,p,_⟩:=I.list hqx
  obtain⟨its2,rv2,p2,_⟩:=I.tuple hqy
  obtain⟨u,hu,ru⟩:=rv.get (List.getElem?_eq_getElem lx)
  obtain⟨u2,hu2,ru2⟩:=rv2.get (List.getElem?_eq_getElem ly)
  have zlt:z<s.heap.objs.size:=Heap.lt_size hz
  have nd:=D.nd
  simp only[List.nodup_cons,List.mem_cons,List.not_mem_nil,or_false,not_or]at nd
  obtain⟨⟨n1,n2,n3,n4⟩,⟨n5,n6,n7⟩,⟨n8,n9⟩,n10,_⟩:=nd
  have na:a≠i1:=fun q=>by
   obtain⟨o1,e1,c1,_⟩:=h1
   obtain⟨oa,_,ea,ca,_⟩:=p
   rw[q,e1]at ea;cases ea;rw[c1]at ca;simp at ca
  have nb:b≠i2:=fun q=>by
   obtain⟨o1,e1,c1,_⟩:=h2
   obtain⟨oa,ea,ca,_⟩:=p2
   rw[q,e1]at ea;cases ea;rw[c1]at ca;simp at ca
  refine zipNext (src_list (xs:=its.toArray) na) (src_tup (xs:=its2.toArray) nb) D hz hTI hTO ⟨h1,p.isList⟩ ⟨h2,p2⟩ (x:=u) (y:=u2) (by simpa using hu) (by simpa using hu2) fun h' z' TO' h1' h2' hT hsz hk=>?_
  refine⟨_,rfl,wpAny_letOwnedTupleGo_zip (s:={ s with heap:=h' }) z' fun h'' z'' sb=>?_⟩
  have hT2:h''.get? s.heap.objs.size=some { cls:=.type "tuple",data:=.seq #[u,u2] }:=(sb.2 _ (Nat.ne_of_gt zlt)).trans hT
  have new:ObjOk X.prog X.w (upd H s.heap.objs.size (.tup [xs[i],ys[i]])) h'' s.heap.objs.size (.tup [xs[i],ys[i]]):=
   ⟨by show 2≤sizeLine;decide,[u,u2],.cons ru (.cons ru2 .nil),⟨_,hT2,rfl,_,rfl⟩⟩
  have I1:L2.Inv X pins σ (upd H s.heap.objs.size (.tup [xs[i],ys[i]])) { s with heap:=h'' }:=
   I.turnedNew (t':=s.toks) (ch:=[z,TI,TO,i1,i2]) (fun c o hb q=>(sb.2 c (fun q'=>hb (by simp[q']))).trans (hk c o (fun q'=>hb (by simp[q'])) (fun q'=>hb (by simp[q'])) (fun q'=>hb (by simp[q'])) (fun q'=>hb (by simp[q'])) q)) hf (Nat.le_refl _) new
  refine⟨.ref s.heap.objs.size,_,I1,rfl,⟨_,xs[i],ys[i],rfl,I.hok.fresh (Nat.le_refl _),rfl,List.getElem?_eq_getElem lx,List.getElem?_eq_getElem ly⟩,⟨z'',?_,⟨u,u2,?_⟩,?_,?_⟩,fun c hcm=>?_⟩
  ·exact(sb.2 _ (Ne.symm n1)).trans (hk _ _ (Ne.symm n1) n5 n6 n7 hTI)
  ·exact(sb.2 _ (Ne.symm n2)).trans TO'
  ·exact h1'.1.at fun o q=>(sb.2 _ (Ne.symm n3)).trans q
  ·obtain⟨o2,e2,r2⟩:=h2'.1
   exact⟨o2,(sb.2 _ (Ne.symm n4)).trans e2,r2⟩
  ·have hlt:c<s.heap.objs.size:=by
    have e':c=z∨c=TI∨c=TO∨c=i1∨c=i2:=by simpa using hcm
    rcases e' with q|q|q|q|q
    ·rw[q];exact zlt
    ·rw[q];exact Heap.lt_size hTI
    ·rw[q];exact Heap.lt_size hTO
    ·rw[q];obtain⟨_,e1,_⟩:=h1;exact Heap.lt_size e1
    ·rw[q];obtain⟨_,e2,_⟩:=h2;exact Heap.lt_size e2
   rw[upd_ne (Nat.ne_of_lt hlt)]
   exact(hf c hcm).1
 done:=by
  intro X hP hw hK hc i pins s σ H E I hf st hg
  subst hP hw hK
  obtain⟨hz,hTI,⟨x0,y0,hTO⟩,h1,h2⟩:=st
  obtain⟨hqx,hqy,hend⟩:=hg
  obtain⟨its,rv,p,_⟩:=I.list hqx
  obtain⟨its2,rv2,p2,_⟩:=I.tuple hqy
  have l1:=rv.length
  have l2:=rv2.length
  have he:its.toArray.toList[i]?=none∨its2.toArray.toList[i]?=none:=by
   rcases hend with q|q
   ·exact .inl (by simp;omega)
   ·exact .inr (by simp;omega)
  have na:a≠i1:=fun q=>by
   obtain⟨o1,e1,c1,_⟩:=h1
   obtain⟨oa,_,ea,ca,_⟩:=p
   rw[q,e1]at ea;cases ea;rw[c1]at ca;simp at ca
  have nb:b≠i2:=fun q=>by
   obtain⟨o1,e1,c1,_⟩:=h2
   obtain⟨oa,ea,ca,_⟩:=p2
   rw[q,e1]at ea;cases ea;rw[c1]at ca;simp at ca
  exact zipStop (I.ok.hd hc) (src_list (xs:=its.toArray) na) (src_tup (xs:=its2.toArray) nb) D hz hTI hTO ⟨h1,p.isList⟩ ⟨h2,p2⟩ he fun h' hk=>⟨rfl,I.turnedL (t':=s.toks) (ch:=[z,TI,TO,i1,i2]) (fun c o hb q=>
   hk c o (fun q'=>hb (by simp[q'])) (fun q'=>hb (by simp[q'])) (fun q'=>hb (by simp[q'])) (fun q'=>hb (by simp[q'])) q) hf⟩
 self:=fun A i s Q E st h=>wpAny_pyIter_zip st.1 h
noncomputable def iZipT(K:PySem.W.Frag)(ta:TA):TI:=fun σ H R=>ta σ H fun vs H1=>∃a b xs ys,vs=[.ref a,.ref b]∧SqL K H1 a xs∧SqT K H1 b ys∧R (Itzt K a b xs ys) H1
theorem pi_zipT{X:Cx}{e e2:Expr}{ta:TA}{p pos tpos:Pos}{elts:List Expr}{kk:Nat}(hg:Gl X "zip")(hm:X.mg "zip" = none)(ha:PA X [e,e2] ta)
  (hs:starEach [e,e2] X.env=(false,eval e X.env)::starEach [e2] X.env:=by rfl) (hpl:(backTo pos (starEach [e2] X.env)).any (·.1)=false:=by rfl):
  PI X (.Tuple elts kk tpos) (.Call (.Name "zip" p) [e,e2] [] pos) (iZipT X.K ta):=by
 intro pins s σ H R I h
 refine Call_ (ld_blt I hg hm boot_zip5 (PyProof.Rows.callWith_type1 (thn (ha pos pins s σ H _ I h) fun us s1 ⟨vs,H1,I1,r1,q1⟩=>?_) hs hpl))
 obtain⟨a,b,xs,ys,ex,hqx,hqy,q⟩:=q1
 subst ex
 cases r1 with
 |cons r rr=>
  cases rr with
  |cons r' rr=>
   cases rr
   cases r
   cases r'
   obtain⟨its,rv,p1,_⟩:=I1.list hqx
   obtain⟨its2,rv2,p2,_⟩:=I1.tuple hqy
   have la:a<s1.heap.objs.size:=p1.lt
   have lb:b<s1.heap.objs.size:=p2.lt
   refine call_zipT p1.isList p2 fun h' hz hTI hTO h1 h2 hk=>wpAny_pyIter_zip hz ?_
   have I2:L2.Inv X pins σ H1 { s1 with heap:=h' }:=I1.kept (t':=s1.toks) hk
   have D:=apart_new la lb
   refine⟨s1.heap.objs.size+4,[s1.heap.objs.size+4,s1.heap.objs.size+2,s1.heap.objs.size+3,s1.heap.objs.size,s1.heap.objs.size+1],_,_,H1,rfl,I2,turn_zipT D,⟨hz,hTI,⟨_,_,hTO⟩,h1,h2⟩,fun c hcm=>?_,q⟩
   have e':c=s1.heap.objs.size+4∨c=s1.heap.objs.size+2∨c=s1.heap.objs.size+3∨c=s1.heap.objs.size∨c=s1.heap.objs.size+1:=by simpa using hcm
   have hle:s1.heap.objs.size≤c:=by
    generalize s1.heap.objs.size=n at e'
    rcases e' with q|q|q|q|q<;>subst q<;>first|exact Nat.le_refl _|exact Nat.le_add_right _ _
   exact I1.fpOk hle (I1.hok.fresh hle)
end
end
section
noncomputable def intsOf:List Value→List Int→Bool
 |[],[]=>true
 | .int n _::vs,i::is=>decide (n=i)&&intsOf vs is
 |_,_=>false
noncomputable def isTy(v:Value)(t:String):Bool:=match v with
 | .type u=>decide (u=t)
 |_=>false
noncomputable def tupOk(K:PySem.W.Frag)(a:Addr)(is:List Int):Bool:=match K.lookup a with
 |some o=>isTy o.cls "tuple"&&(match o.data with
  | .seq its _=>decide (its.size≤100)&&intsOf its.toList is
  |_=>false)
 |none=>false
noncomputable def pairsOk(K:PySem.W.Frag):List Value→List (Int×Int)→Bool
 |[],[]=>true
 | .ref p::vs,b::bs=>tupOk K p [b.1,b.2]&&pairsOk K vs bs
 |_,_=>false
noncomputable def ttOk(K:PySem.W.Frag)(a:Addr)(bs:List (Int×Int)):Bool:=match K.lookup a with
 |some o=>isTy o.cls "tuple"&&(match o.data with
  | .seq its _=>decide (its.size≤100)&&pairsOk K its.toList bs
  |_=>false)
 |none=>false
noncomputable def entsOk(K:PySem.W.Frag):List DictEntry→List (Int×List (Int×Int))→Bool
 |[],[]=>true
 |e::es,t::ts=>(match e.key,e.val with
  | .int n _,.ref b=>decide (n=t.1)&&decide (e.hash=hashInt t.1)&&ttOk K b t.2
  |_,_=>false)&&entsOk K es ts
 |_,_=>false
noncomputable def gdOk(K:PySem.W.Frag)(a:Addr)(tab:List (Int×List (Int×Int))):Bool:=match K.lookup a with
 |some o=>isTy o.cls "dict"&&o.dict.isNone&&decide (o.slots.size=0)&&(match o.data with
  | .dict es _=>entsOk K es.toList tab
  |_=>false)
 |none=>false
theorem isTy_eq{v:Value}{t:String}(h:isTy v t=true):v=.type t:=by
 unfold isTy at h
 split at h
 ·rw[of_decide_eq_true h]
 ·cases h
theorem intsOf_vals:∀{vs:List Value} {is:List Int},intsOf vs is=true→Vals (is.map V.int) vs
 |[],[],_=>.nil
 | .int n t::vs,i::is,h=>by
  simp only[intsOf,Bool.and_eq_true,decide_eq_true_eq]at h
  obtain⟨rfl,h⟩:=h
  exact .cons ⟨t,rfl⟩ (intsOf_vals h)
 |[],_::_,h=>by simp[intsOf]at h
 | .none::_,_,h=>by simp[intsOf]at h
 | .int _ _::_,[],h=>by simp[intsOf]at h
 | .bool _::_,_,h=>by simp[intsOf]at h
 | .str _ _::_,_,h=>by simp[intsOf]at h
 | .ref _::_,_,h=>by simp[intsOf]at h
 | .type _::_,_,h=>by simp[intsOf]at h
 | .builtin _::_,_,h=>by simp[intsOf]at h
 | .ellipsis::_,_,h=>by simp[intsOf]at h
 | .notImplemented::_,_,h=>by simp[intsOf]at h
 | .float _ _::_,_,h=>by simp[intsOf]at h
 | .bytes _ _::_,_,h=>by simp[intsOf]at h
theorem small100{n:Nat}(h:n≤100):n≤sizeLine:=Nat.le_trans h (by decide)
theorem tupOk_sq{K:PySem.W.Frag}{a:Addr}{is:List Int}(h:tupOk K a is=true)(H:Hp):SqT K H a (is.map V.int):=by
 unfold tupOk at h
 split at h
 ·rename_i o ho
  rw[Bool.and_eq_true]at h
  obtain⟨h1,h2⟩:=h
  split at h2
  ·rename_i its n hd
   rw[Bool.and_eq_true]at h2
   exact .inr ⟨o,its,n,ho,isTy_eq h1,hd,small100 (of_decide_eq_true h2.1),intsOf_vals h2.2⟩
  ·cases h2
 ·cases h
noncomputable def TT(K:PySem.W.Frag)(H:Hp)(a:Addr)(bs:List (Int×Int)):Prop:=∃ps:List Addr,SqT K H a (ps.map V.ref)∧Paired (fun p (b:Int×Int)=>SqT K H p [.int b.1,.int b.2]) ps bs
theorem pairsOk_all{K:PySem.W.Frag}(H:Hp):∀{vs:List Value} {bs:List (Int×Int)},pairsOk K vs bs=true→∃ps:List Addr,Vals (ps.map V.ref) vs∧Paired (fun p (b:Int×Int)=>SqT K H p [.int b.1,.int b.2]) ps bs
 |[],[],_=>⟨[],.nil,.nil⟩
 |v::vs,b::bs,h=>by
  cases v with
  |ref p=>
   simp only[pairsOk,Bool.and_eq_true]at h
   obtain⟨ps,h1,h2⟩:=pairsOk_all H h.2
   exact⟨p::ps,.cons rfl h1,.cons (tupOk_sq h.1 H) h2⟩
  |_=>simp[pairsOk]at h
 |[],_::_,h=>by simp[pairsOk]at h
 |v::_,[],h=>by cases v<;>simp[pairsOk]at h
theorem ttOk_tt{K:PySem.W.Frag}{a:Addr}{bs:List (Int×Int)}(h:ttOk K a bs=true)(H:Hp):TT K H a bs:=by
 unfold ttOk at h
 split at h
 ·rename_i o ho
  rw[Bool.and_eq_true]at h
  obtain⟨h1,h2⟩:=h
  split at h2
  ·rename_i its n hd
   rw[Bool.and_eq_true]at h2
   obtain⟨ps,q1,q2⟩:=pairsOk_all H h2.2
   exact⟨ps,.inr ⟨o,its,n,ho,isTy_eq h1,hd,small100 (of_decide_eq_true h2.1),q1⟩,q2⟩
  ·cases h2
 ·cases h
theorem entsOk_all{P:Program}{w:World}{K:PySem.W.Frag}:∀{es:List DictEntry} {tab:List (Int×List (Int×Int))},entsOk K es tab=true→∃bs:List Addr,
  Pairs (mixKind P w) es ((tab.zip bs).map fun q=>(Sum.inl q.1.1,Value.ref q.2))∧(∀e∈es,∃k,keyIs k e.key=true∧e.hash=keyH w k)∧Paired (fun(t:Int×List (Int×Int)) b=>ttOk K b t.2=true) tab bs
 |[],[],_=>⟨[],.nil,fun e he=>by(cases he),.nil⟩
 |e::es,t::ts,h=>by
  obtain⟨hs,ky,vl⟩:=e
  simp only[entsOk,Bool.and_eq_true]at h
  obtain⟨h1,h2⟩:=h
  obtain⟨bs,q1,q2,q3⟩:=entsOk_all (P:=P) (w:=w) h2
  split at h1
  ·rename_i n tk b
   simp only[Bool.and_eq_true,decide_eq_true_eq]at h1
   obtain⟨⟨rfl,hh⟩,h3⟩:=h1
   refine⟨b::bs,.cons (keyIs_int t.1 tk) rfl q1,fun e he=>?_,.cons h3 q3⟩
   rcases List.mem_cons.mp he with rfl|he
   ·exact⟨.inl t.1,keyIs_int t.1 tk,hh⟩
   ·exact q2 e he
  ·cases h1
 |[],_::_,h=>by simp[entsOk]at h
 |_::_,[],h=>by simp[entsOk]at h
theorem valueAt_tab{R:Int×List (Int×Int)→Addr→Prop}{n:Int}{bs:List (Int×Int)}{b:Addr}:∀{tab:List (Int×List (Int×Int))} {as:List Addr} {j:Nat},Paired R tab as→(tab.map (·.1)).Nodup→tab[j]?=some (n,bs)→as[j]?=some b→
  valueAt ((tab.zip as).map fun q=>((Sum.inl q.1.1:Key),Value.ref q.2)) (Sum.inl n)=some (.ref b)
 |_,_,_,.nil,_,e,_=>by simp at e
 |_,_,0,.cons _ _,_,e,hb=>by
  simp only[List.getElem?_cons_zero,Option.some.injEq]at e hb
  subst e hb
  simp[valueAt]
 |t::ts,_::as,j+1,.cons _ pr,nd,e,hb=>by
  simp only[List.map_cons,List.nodup_cons]at nd
  simp only[List.getElem?_cons_succ]at e hb
  have hne:¬t.1=n:=fun q=>nd.1 (by rw[q];exact List.mem_map.mpr ⟨_,List.mem_of_getElem? e,rfl⟩)
  have ih:=valueAt_tab pr nd.2 e hb
  simp only[List.zip_cons_cons,List.map_cons,valueAt]at ih ⊢
  rw[List.find?_cons_of_neg (by simpa using hne)]
  exact ih
structure GD(K:PySem.W.Frag)(mg:Str→Option Value)(x:Str)(tab:List (Int×List (Int×Int))):Prop where
 ex:∃a,mg x=some (.ref a)∧gdOk K a tab=true
 nd:(tab.map (·.1)).Nodup
section
variable {X:Cx}{x:Str}{p pos:Pos}
noncomputable def tGD(K:PySem.W.Frag)(tab:List (Int×List (Int×Int)))(ti:TE):TE:=fun σ H Q=>ti σ H fun y H1=>∃n bs,y=.int n∧(n,bs)∈tab∧∀b,TT K H1 b bs→Q (.ref b) H1
theorem pe_gdget{tab:List (Int×List (Int×Int))}{i:Expr}{ti:TE}(hg:Gl X x)(h:GD X.K X.mg x tab)(hi:PE X i ti)(hs:NoSl i)(hd:(x==("__debug__" : Str))=false:=by decide):
  PE X (.Subscript (.Name x p) i pos) (tGD X.K tab ti):=by
 obtain⟨⟨a,hm,ok⟩,nd⟩:=h
 intro pins s σ H Q I hq
 have hq:ti σ H fun y H1=>∃n bs,y=.int n∧(n,bs)∈tab∧∀b,TT X.K H1 b bs→Q (.ref b) H1:=hq
 have dict:∀(h:Heap),X.K.In h→∃bs:List Addr,h.DictOf (mixKind X.prog X.w) a ((tab.zip bs).map fun q=>(Sum.inl q.1.1,Value.ref q.2))∧Paired (fun(t:Int×List (Int×Int)) b=>ttOk X.K b t.2=true) tab bs:=fun h kin=>by
  unfold gdOk at ok
  split at ok
  ·rename_i o ho
   simp only[Bool.and_eq_true,decide_eq_true_eq]at ok
   obtain⟨⟨⟨h1,h2⟩,h3⟩,h4⟩:=ok
   split at h4
   ·rename_i es ep hdt
    obtain⟨bs,q1,q2,q3⟩:=entsOk_all (P:=X.prog) (w:=X.w) h4
    have hl:=Paired.length q3
    refine⟨bs,⟨o,es,ep,kin a o ho,⟨isTy_eq h1,by simpa using h2,by simpa using h3⟩,hdt,fun e he=>q2 e (Array.mem_toList_iff.mpr he),q1,?_⟩,q3⟩
    rw[List.map_map]
    have e:(tab.zip bs).map ((fun kv:Key×Value=>kv.1)∘fun q:(Int×List (Int×Int))×Addr=>((Sum.inl q.1.1:Key),Value.ref q.2))=(tab.map (·.1)).map Sum.inl:=by
     have e2:(tab.zip bs).map (·.1)=tab:=by
      rw[List.map_fst_zip]
      omega
     conv=>rhs;rw[←e2]
     rw[List.map_map,List.map_map]
     rfl
    rw[e]
    exact List.Pairwise.map _ (fun a b hab q=>hab (Sum.inl.inj q)) nd
   ·cases h4
  ·cases ok
 refine subD_of PySem.F.slot_dict_getitem.lookup hs (ld_glob I hg hm (thn (hi pins s σ H _ I hq) fun iv s2 ⟨y,H2,I2,ry,n,bs,ey,hin,q2⟩=>?_) hd)
 subst ey
 obtain⟨as,dd,pr⟩:=dict s2.heap I2.kIn
 obtain⟨j,hj,ej⟩:=List.mem_iff_getElem.mp hin
 obtain⟨b,hb,tt⟩:=paired_get pr (List.getElem?_eq_some_iff.mpr ⟨hj,ej⟩)
 have hv:=valueAt_tab (bs:=bs) pr nd (List.getElem?_eq_some_iff.mpr ⟨hj,ej⟩) hb
 refine⟨dd.typeIs,wpAny_getItem_of (kV_is (k:=.inl n) ry) dd.mapOf hv ⟨.ref b,H2,I2.tok _,rfl,q2 b (ttOk_tt tt H2)⟩⟩
end
end
section
noncomputable def tab_RANGES:List (Int×List (Int×Int)):=[(0,[(2,40),(1,40)]),(1,[(1,40),(1,20),(1,40),(1,40),(1,40),(1,40)]),(2,[(1,40),(1,20)]),(3,[(1,40),(1,20),(1,40)]),(4,[(1,40),(1,20),(1,40),(1,7),(0,4),(0,2),(0,3),(0,13)]),(5,[(1,40),(1,20),(1,40)]),(6,[(1,40),(1,20),(1,40),(0,100),(0,100)]),(7,[(1,40),(1,20),(1,40),(0,9)]),(8,[(1,40),(1,20),(1,40)]),(9,[(1,40),((-100000),100000)]),(10,[(1,40),(1,20),(1,40)]),(11,[(1,40),(1,20),(1,40)]),(12,[(1,40)]),(13,[]),(14,[]),(15,[(1,50)]),(16,[(1,40),(1,40)]),(17,[(1,40)]),(18,[(1,40),(1,40)]),(19,[(1,40)]),(20,[]),(21,[]),(22,[])]
noncomputable abbrev s_sitting_at:Stmt:=tp 26
noncomputable abbrev s_is_given:Stmt:=tp 27
noncomputable abbrev s_has_entries:Stmt:=tp 28
noncomputable abbrev s_is_pair:Stmt:=tp 29
noncomputable abbrev s_is_board:Stmt:=tp 30
noncomputable abbrev s_read_calls:Stmt:=tp 60
noncomputable abbrev s_is_within:Stmt:=tp 61
noncomputable abbrev s_is_plain_in_range:Stmt:=tp 62
noncomputable abbrev s_outcomes_of:Stmt:=tp 63
noncomputable abbrev s_is_row_in_range:Stmt:=tp 64
noncomputable abbrev s_is_in_range:Stmt:=tp 65
noncomputable abbrev s_common_divisor:Stmt:=tp 81
noncomputable abbrev s_lowest:Stmt:=tp 82
noncomputable abbrev s_plus:Stmt:=tp 83
noncomputable abbrev s_is_greater:Stmt:=tp 84
noncomputable abbrev s_rounded:Stmt:=tp 85
noncomputable abbrev s_versus:Stmt:=tp 87
noncomputable abbrev s_weight_of:Stmt:=tp 88
noncomputable abbrev s_mean_of_versus:Stmt:=tp 89
noncomputable abbrev s_results_to_compare:Stmt:=tp 90
noncomputable abbrev s_real_points:Stmt:=tp 91
noncomputable abbrev s_both_points:Stmt:=tp 92
noncomputable abbrev s_north_south_pair:Stmt:=tp 93
noncomputable abbrev s_place_in:Stmt:=tp 94
noncomputable abbrev s_sittings_entered:Stmt:=tp 95
noncomputable abbrev s_reckon:Stmt:=tp 96
noncomputable abbrev s_score_answer:Stmt:=tp 97
noncomputable abbrev s_sheet_answer:Stmt:=tp 98
noncomputable abbrev s_board_answer:Stmt:=tp 99
noncomputable abbrev s_place_of:Stmt:=tp 101
noncomputable abbrev s_place_refusal:Stmt:=tp 102
noncomputable abbrev s_group_at:Stmt:=tp 103
noncomputable abbrev s_enter_result:Stmt:=tp 104
noncomputable abbrev s_enter_average:Stmt:=tp 105
noncomputable abbrev s_enter_played:Stmt:=tp 106
noncomputable abbrev s_set_group:Stmt:=tp 107
noncomputable abbrev s_carry_out:Stmt:=tp 108
noncomputable abbrev s_place_answer:Stmt:=tp 109
noncomputable abbrev s_is_between:Stmt:=tp 111
noncomputable abbrev s_met_answer:Stmt:=tp 112
noncomputable abbrev s_sitting_as_seen:Stmt:=tp 113
noncomputable abbrev s_sittings_answer:Stmt:=tp 114
noncomputable abbrev s_missing_answer:Stmt:=tp 115
noncomputable abbrev s_appeals_answer:Stmt:=tp 116
noncomputable abbrev s_listing_answer:Stmt:=tp 117
noncomputable abbrev s_sits_in:Stmt:=tp 120
noncomputable abbrev s_share_a_pair:Stmt:=tp 121
noncomputable abbrev s_share_both_pairs:Stmt:=tp 122
noncomputable abbrev s_share_a_board:Stmt:=tp 123
noncomputable abbrev s_is_round_taken:Stmt:=tp 124
noncomputable abbrev s_is_board_taken:Stmt:=tp 125
noncomputable abbrev s_have_met:Stmt:=tp 126
noncomputable abbrev s_are_two_pairs:Stmt:=tp 127
noncomputable abbrev s_sit_refusal:Stmt:=tp 128
noncomputable abbrev s_sit:Stmt:=tp 129
noncomputable abbrev s_unsit:Stmt:=tp 130
noncomputable abbrev s_total_of:Stmt:=tp 134
noncomputable abbrev s_share_of:Stmt:=tp 135
noncomputable abbrev s_percentage_of:Stmt:=tp 136
noncomputable abbrev s_rank_of:Stmt:=tp 137
noncomputable abbrev s_standings:Stmt:=tp 138
noncomputable abbrev s_total_answer:Stmt:=tp 139
noncomputable abbrev s_post_answer:Stmt:=tp 140
noncomputable abbrev s_posted_answer:Stmt:=tp 141
noncomputable abbrev s_standing_answer:Stmt:=tp 142
noncomputable abbrev s_adjust:Stmt:=tp 146
noncomputable abbrev s_event_answer:Stmt:=tp 147
noncomputable abbrev s_counted_answer:Stmt:=tp 148
noncomputable abbrev s_answer_to:Stmt:=tp 149
noncomputable abbrev s_answers:Stmt:=tp 150
noncomputable abbrev s_Event_init:Stmt:=inClass (tp 20) 0
noncomputable abbrev s_Sitting_init:Stmt:=inClass (tp 21) 0
noncomputable abbrev s_RealEntry_init:Stmt:=inClass (tp 22) 0
noncomputable abbrev s_ArtificialEntry_init:Stmt:=inClass (tp 23) 0
noncomputable abbrev s_Sheet_init:Stmt:=inClass (tp 24) 0
noncomputable abbrev s_SheetLine_init:Stmt:=inClass (tp 25) 0
noncomputable abbrev s_Call_init:Stmt:=inClass (tp 59) 0
noncomputable abbrev s_PairTotal_init:Stmt:=inClass (tp 133) 0
noncomputable abbrev s_Desk_init:Stmt:=inClass (tp 145) 0
theorem sc_sitting_at:FnScope ["event","round_number","table","sitting"] ["event","round_number","table"] (defScope s_sitting_at):=by walk_at "sc"
theorem sc_is_given:FnScope ["event","place","sitting"] ["event","place"] (defScope s_is_given):=by walk_at "sc"
theorem sc_has_entries:FnScope ["event"] ["event"] (defScope s_has_entries):=by walk_at "sc"
theorem sc_is_pair:FnScope ["event","pair"] ["event","pair"] (defScope s_is_pair):=by walk_at "sc"
theorem sc_is_board:FnScope ["event","board"] ["event","board"] (defScope s_is_board):=by walk_at "sc"
theorem sc_read_calls:FnScope ["numbers","calls","start","number","plain_end","row_start","row_end"] ["numbers"] (defScope s_read_calls):=by walk_at "sc"
theorem sc_is_within:FnScope ["number","bounds"] ["number","bounds"] (defScope s_is_within):=by walk_at "sc"
theorem sc_is_plain_in_range:FnScope ["call","number","bounds"] ["call"] (defScope s_is_plain_in_range):=by walk_at "sc"
theorem sc_outcomes_of:FnScope ["row","k"] ["row"] (defScope s_outcomes_of):=by walk_at "sc"
theorem sc_is_row_in_range:FnScope ["row","weight","score"] ["row"] (defScope s_is_row_in_range):=by walk_at "sc"
theorem sc_is_in_range:FnScope ["call"] ["call"] (defScope s_is_in_range):=by walk_at "sc"
theorem sc_common_divisor:FnScope ["first","second","rest"] ["first","second"] (defScope s_common_divisor):=by walk_at "sc"
theorem sc_lowest:FnScope ["fraction","divisor"] ["fraction"] (defScope s_lowest):=by walk_at "sc"
theorem sc_plus:FnScope ["fraction","other"] ["fraction","other"] (defScope s_plus):=by walk_at "sc"
theorem sc_is_greater:FnScope ["fraction","other"] ["fraction","other"] (defScope s_is_greater):=by walk_at "sc"
theorem sc_rounded:FnScope ["fraction"] ["fraction"] (defScope s_rounded):=by walk_at "sc"
theorem sc_versus:FnScope ["score","other"] ["score","other"] (defScope s_versus):=by walk_at "sc"
theorem sc_weight_of:FnScope ["outcomes","weight","score"] ["outcomes"] (defScope s_weight_of):=by walk_at "sc"
theorem sc_mean_of_versus:FnScope ["outcomes","others","total","weight","score","other_weight","other_score"] ["outcomes","others"] (defScope s_mean_of_versus):=by walk_at "sc"
theorem sc_results_to_compare:FnScope ["entries","at","group","others","k","entry"] ["entries","at"] (defScope s_results_to_compare):=by walk_at "sc"
theorem sc_real_points:FnScope ["entries","at","others","compared","other","above"] ["entries","at"] (defScope s_real_points):=by walk_at "sc"
theorem sc_both_points:FnScope ["entries","at","top","entry","points"] ["entries","at","top"] (defScope s_both_points):=by walk_at "sc"
theorem sc_north_south_pair:FnScope ["sitting"] ["sitting"] (defScope s_north_south_pair):=by walk_at "sc"
theorem sc_place_in:FnScope ["sitting","board"] ["sitting","board"] (defScope s_place_in):=by walk_at "sc"
theorem sc_sittings_entered:FnScope ["event","board","entered","sitting"] ["event","board"] (defScope s_sittings_entered):=by walk_at "sc"
theorem sc_reckon:FnScope ["event","board","sittings","entries","sitting","sheet","at","points"] ["event","board"] (defScope s_reckon):=by walk_at "sc"
theorem sc_score_answer:FnScope ["event","board","pair","points"] ["event","board","pair"] (defScope s_score_answer):=by walk_at "sc"
theorem sc_sheet_answer:FnScope ["event","board","told","line"] ["event","board"] (defScope s_sheet_answer):=by walk_at "sc"
theorem sc_board_answer:FnScope ["event","call"] ["event","call"] (defScope s_board_answer):=by walk_at "sc"
theorem sc_place_of:FnScope ["call"] ["call"] (defScope s_place_of):=by walk_at "sc"
theorem sc_place_refusal:FnScope ["event","number","place"] ["event","number","place"] (defScope s_place_refusal):=by walk_at "sc"
theorem sc_group_at:FnScope ["event","place"] ["event","place"] (defScope s_group_at):=by walk_at "sc"
theorem sc_enter_result:FnScope ["event","place","outcomes"] ["event","place","outcomes"] (defScope s_enter_result):=by walk_at "sc"
theorem sc_enter_average:FnScope ["event","place","ns_per_cent","ew_per_cent"] ["event","place","ns_per_cent","ew_per_cent"] (defScope s_enter_average):=by walk_at "sc"
theorem sc_enter_played:FnScope ["event","place","plain","score"] ["event","place","plain"] (defScope s_enter_played):=by walk_at "sc"
theorem sc_set_group:FnScope ["event","place","group","entry"] ["event","place","group"] (defScope s_set_group):=by walk_at "sc"
theorem sc_carry_out:FnScope ["event","call","place"] ["event","call","place"] (defScope s_carry_out):=by walk_at "sc"
theorem sc_place_answer:FnScope ["event","call","place","refusal","answer"] ["event","call"] (defScope s_place_answer):=by walk_at "sc"
theorem sc_is_between:FnScope ["sitting","pair","other"] ["sitting","pair","other"] (defScope s_is_between):=by walk_at "sc"
theorem sc_met_answer:FnScope ["event","pair","other","sitting"] ["event","pair","other"] (defScope s_met_answer):=by walk_at "sc"
theorem sc_sitting_as_seen:FnScope ["sitting","pair","boards"] ["sitting","pair"] (defScope s_sitting_as_seen):=by walk_at "sc"
theorem sc_sittings_answer:FnScope ["event","pair","told","sitting"] ["event","pair"] (defScope s_sittings_answer):=by walk_at "sc"
theorem sc_missing_answer:FnScope ["event","told","sitting","board","place"] ["event"] (defScope s_missing_answer):=by walk_at "sc"
theorem sc_appeals_answer:FnScope ["event","told","place"] ["event"] (defScope s_appeals_answer):=by walk_at "sc"
theorem sc_listing_answer:FnScope ["event","call"] ["event","call"] (defScope s_listing_answer):=by walk_at "sc"
theorem sc_sits_in:FnScope ["sitting","pair"] ["sitting","pair"] (defScope s_sits_in):=by walk_at "sc"
theorem sc_share_a_pair:FnScope ["sitting","other"] ["sitting","other"] (defScope s_share_a_pair):=by walk_at "sc"
theorem sc_share_both_pairs:FnScope ["sitting","other"] ["sitting","other"] (defScope s_share_both_pairs):=by walk_at "sc"
theorem sc_share_a_board:FnScope ["sitting","other"] ["sitting","other"] (defScope s_share_a_board):=by walk_at "sc"
theorem sc_is_round_taken:FnScope ["event","sitting","other"] ["event","sitting"] (defScope s_is_round_taken):=by walk_at "sc"
theorem sc_is_board_taken:FnScope ["event","sitting","other"] ["event","sitting"] (defScope s_is_board_taken):=by walk_at "sc"
theorem sc_have_met:FnScope ["event","sitting","other"] ["event","sitting"] (defScope s_have_met):=by walk_at "sc"
theorem sc_are_two_pairs:FnScope ["event","sitting"] ["event","sitting"] (defScope s_are_two_pairs):=by walk_at "sc"
theorem sc_sit_refusal:FnScope ["event","sitting"] ["event","sitting"] (defScope s_sit_refusal):=by walk_at "sc"
theorem sc_sit:FnScope ["event","call","first","last","sitting","refusal"] ["event","call"] (defScope s_sit):=by walk_at "sc"
theorem sc_unsit:FnScope ["event","call","round_number","table","s"] ["event","call"] (defScope s_unsit):=by walk_at "sc"
theorem sc_total_of:FnScope ["event","pair","points","tops","sheet"] ["event","pair"] (defScope s_total_of):=by walk_at "sc"
theorem sc_share_of:FnScope ["total"] ["total"] (defScope s_share_of):=by walk_at "sc"
theorem sc_percentage_of:FnScope ["share"] ["share"] (defScope s_percentage_of):=by walk_at "sc"
theorem sc_rank_of:FnScope ["share","shares","other"] ["share","shares"] (defScope s_rank_of):=by walk_at "sc"
theorem sc_standings:FnScope ["event","totals","pair","ranked","total","shares","rows","share","told","row"] ["event"] (defScope s_standings):=by walk_at "sc"
theorem sc_total_answer:FnScope ["event","pair","total","points","told"] ["event","pair"] (defScope s_total_answer):=by walk_at "sc"
theorem sc_post_answer:FnScope ["event"] ["event"] (defScope s_post_answer):=by walk_at "sc"
theorem sc_posted_answer:FnScope ["event","which"] ["event","which"] (defScope s_posted_answer):=by walk_at "sc"
theorem sc_standing_answer:FnScope ["event","call"] ["event","call"] (defScope s_standing_answer):=by walk_at "sc"
theorem sc_adjust:FnScope ["event","call","pair"] ["event","call"] (defScope s_adjust):=by walk_at "sc"
theorem sc_event_answer:FnScope ["event","call"] ["event","call"] (defScope s_event_answer):=by walk_at "sc"
theorem sc_counted_answer:FnScope ["event","call","answer"] ["event","call"] (defScope s_counted_answer):=by walk_at "sc"
theorem sc_answer_to:FnScope ["desk","call"] ["desk","call"] (defScope s_answer_to):=by walk_at "sc"
theorem sc_answers:FnScope ["calls","desk","told","call","answer"] ["calls"] (defScope s_answers):=by walk_at "sc"
theorem sc_Event_init:FnScope ["self","pairs","boards"] ["self","pairs","boards"] (defScope s_Event_init):=by walk_at "sc"
theorem sc_Sitting_init:FnScope ["self","round_number","table","ns","ew","first","last"] ["self","round_number","table","ns","ew","first","last"] (defScope s_Sitting_init):=by walk_at "sc"
theorem sc_RealEntry_init:FnScope ["self","group","outcomes"] ["self","group","outcomes"] (defScope s_RealEntry_init):=by walk_at "sc"
theorem sc_ArtificialEntry_init:FnScope ["self","group","ns_per_cent","ew_per_cent"] ["self","group","ns_per_cent","ew_per_cent"] (defScope s_ArtificialEntry_init):=by walk_at "sc"
theorem sc_Sheet_init:FnScope ["self","top"] ["self","top"] (defScope s_Sheet_init):=by walk_at "sc"
theorem sc_SheetLine_init:FnScope ["self","ns","ew","group","points"] ["self","ns","ew","group","points"] (defScope s_SheetLine_init):=by walk_at "sc"
theorem sc_Call_init:FnScope ["self","number","plain","row"] ["self","number","plain","row"] (defScope s_Call_init):=by walk_at "sc"
theorem sc_PairTotal_init:FnScope ["self","pair","points","tops"] ["self","pair","points","tops"] (defScope s_PairTotal_init):=by walk_at "sc"
theorem sc_Desk_init:FnScope ["self"] ["self"] (defScope s_Desk_init):=by walk_at "sc"
structure IsB(K:PySem.W.Frag)(C:Addr):Prop where
 ha:PySem.W.findIn K (.ref C) "__class__" = some (some (.builtin "object.__class__"))
 hn:PySem.W.specialIn K (.builtin "object.__class__") "__get__" = some (some (.builtin "getset_descriptor.__get__"))
 htk:PySem.W.takesIn K (.builtin "object.__class__")=some true
 hm:PySem.W.mroIn K C (.type "object")=some true
set_option genInjectivity false in
structure TX(K:PySem.W.Frag)(mg:Str→Option Value) extends TC K mg where
 f_sitting_at:FnB K mg "sitting_at" s_sitting_at ["event","round_number","table"]
 f_is_given:FnB K mg "is_given" s_is_given ["event","place"]
 f_has_entries:FnB K mg "has_entries" s_has_entries ["event"]
 f_is_pair:FnB K mg "is_pair" s_is_pair ["event","pair"]
 f_is_board:FnB K mg "is_board" s_is_board ["event","board"]
 f_read_calls:FnB K mg "read_calls" s_read_calls ["numbers"]
 f_is_within:FnB K mg "is_within" s_is_within ["number","bounds"]
 f_is_plain_in_range:FnB K mg "is_plain_in_range" s_is_plain_in_range ["call"]
 f_outcomes_of:FnB K mg "outcomes_of" s_outcomes_of ["row"]
 f_is_row_in_range:FnB K mg "is_row_in_range" s_is_row_in_range ["row"]
 f_is_in_range:FnB K mg "is_in_range" s_is_in_range ["call"]
 f_common_divisor:FnB K mg "common_divisor" s_common_divisor ["first","second"]
 f_lowest:FnB K mg "lowest" s_lowest ["fraction"]
 f_plus:FnB K mg "plus" s_plus ["fraction","other"]
 f_is_greater:FnB K mg "is_greater" s_is_greater ["fraction","other"]
 f_rounded:FnB K mg "rounded" s_rounded ["fraction"]
 f_versus:FnB K mg "versus" s_versus ["score","other"]
 f_weight_of:FnB K mg "weight_of" s_weight_of ["outcomes"]
 f_mean_of_versus:FnB K mg "mean_of_versus" s_mean_of_versus ["outcomes","others"]
 f_results_to_compare:FnB K mg "results_to_compare" s_results_to_compare ["entries","at"]
 f_real_points:FnB K mg "real_points" s_real_points ["entries","at"]
 f_both_points:FnB K mg "both_points" s_both_points ["entries","at","top"]
 f_north_south_pair:FnB K mg "north_south_pair" s_north_south_pair ["sitting"]
 f_place_in:FnB K mg "place_in" s_place_in ["sitting","board"]
 f_sittings_entered:FnB K mg "sittings_entered" s_sittings_entered ["event","board"]
 f_reckon:FnB K mg "reckon" s_reckon ["event","board"]
 f_score_answer:FnB K mg "score_answer" s_score_answer ["event","board","pair"]
 f_sheet_answer:FnB K mg "sheet_answer" s_sheet_answer ["event","board"]
 f_board_answer:FnB K mg "board_answer" s_board_answer ["event","call"]
 f_place_of:FnB K mg "place_of" s_place_of ["call"]
 f_place_refusal:FnB K mg "place_refusal" s_place_refusal ["event","number","place"]
 f_group_at:FnB K mg "group_at" s_group_at ["event","place"]
 f_enter_result:FnB K mg "enter_result" s_enter_result ["event","place","outcomes"]
 f_enter_average:FnB K mg "enter_average" s_enter_average ["event","place","ns_per_cent","ew_per_cent"]
 f_enter_played:FnB K mg "enter_played" s_enter_played ["event","place","plain"]
 f_set_group:FnB K mg "set_group" s_set_group ["event","place","group"]
 f_carry_out:FnB K mg "carry_out" s_carry_out ["event","call","place"]
 f_place_answer:FnB K mg "place_answer" s_place_answer ["event","call"]
 f_is_between:FnB K mg "is_between" s_is_between ["sitting","pair","other"]
 f_met_answer:FnB K mg "met_answer" s_met_answer ["event","pair","other"]
 f_sitting_as_seen:FnB K mg "sitting_as_seen" s_sitting_as_seen ["sitting","pair"]
 f_sittings_answer:FnB K mg "sittings_answer" s_sittings_answer ["event","pair"]
 f_missing_answer:FnB K mg "missing_answer" s_missing_answer ["event"]
 f_appeals_answer:FnB K mg "appeals_answer" s_appeals_answer ["event"]
 f_listing_answer:FnB K mg "listing_answer" s_listing_answer ["event","call"]
 f_sits_in:FnB K mg "sits_in" s_sits_in ["sitting","pair"]
 f_share_a_pair:FnB K mg "share_a_pair" s_share_a_pair ["sitting","other"]
 f_share_both_pairs:FnB K mg "share_both_pairs" s_share_both_pairs ["sitting","other"]
 f_share_a_board:FnB K mg "share_a_board" s_share_a_board ["sitting","other"]
 f_is_round_taken:FnB K mg "is_round_taken" s_is_round_taken ["event","sitting"]
 f_is_board_taken:FnB K mg "is_board_taken" s_is_board_taken ["event","sitting"]
 f_have_met:FnB K mg "have_met" s_have_met ["event","sitting"]
 f_are_two_pairs:FnB K mg "are_two_pairs" s_are_two_pairs ["event","sitting"]
 f_sit_refusal:FnB K mg "sit_refusal" s_sit_refusal ["event","sitting"]
 f_sit:FnB K mg "sit" s_sit ["event","call"]
 f_unsit:FnB K mg "unsit" s_unsit ["event","call"]
 f_total_of:FnB K mg "total_of" s_total_of ["event","pair"]
 f_share_of:FnB K mg "share_of" s_share_of ["total"]
 f_percentage_of:FnB K mg "percentage_of" s_percentage_of ["share"]
 f_rank_of:FnB K mg "rank_of" s_rank_of ["share","shares"]
 f_standings:FnB K mg "standings" s_standings ["event"]
 f_total_answer:FnB K mg "total_answer" s_total_answer ["event","pair"]
 f_post_answer:FnB K mg "post_answer" s_post_answer ["event"]
 f_posted_answer:FnB K mg "posted_answer" s_posted_answer ["event","which"]
 f_standing_answer:FnB K mg "standing_answer" s_standing_answer ["event","call"]
 f_adjust:FnB K mg "adjust" s_adjust ["event","call"]
 f_event_answer:FnB K mg "event_answer" s_event_answer ["event","call"]
 f_counted_answer:FnB K mg "counted_answer" s_counted_answer ["event","call"]
 f_answer_to:FnB K mg "answer_to" s_answer_to ["desk","call"]
 f_answers:FnB K mg "answers" s_answers ["calls"]
 k_Event:KlB K mg "Event" "Event.__init__" s_Event_init ["self","pairs","boards"] ["pairs","boards","sittings","entries","sheets","adjustments","appeals","posted","changes"]
 k_Sitting:KlB K mg "Sitting" "Sitting.__init__" s_Sitting_init ["self","round_number","table","ns","ew","first","last"] ["round_number","table","ns","ew","first","last"]
 k_RealEntry:KlB K mg "RealEntry" "RealEntry.__init__" s_RealEntry_init ["self","group","outcomes"] ["group","outcomes"]
 k_ArtificialEntry:KlB K mg "ArtificialEntry" "ArtificialEntry.__init__" s_ArtificialEntry_init ["self","group","ns_per_cent","ew_per_cent"] ["group","ns_per_cent","ew_per_cent"]
 k_Sheet:KlB K mg "Sheet" "Sheet.__init__" s_Sheet_init ["self","top"] ["top","lines","brought"]
 k_SheetLine:KlB K mg "SheetLine" "SheetLine.__init__" s_SheetLine_init ["self","ns","ew","group","points"] ["ns","ew","group","points"]
 k_Call:KlB K mg "Call" "Call.__init__" s_Call_init ["self","number","plain","row"] ["number","plain","row"]
 k_PairTotal:KlB K mg "PairTotal" "PairTotal.__init__" s_PairTotal_init ["self","pair","points","tops"] ["pair","points","tops"]
 k_Desk:KlB K mg "Desk" "Desk.__init__" s_Desk_init ["self"] ["event"]
 c_NEW:GI K mg "NEW" 0
 c_SIT:GI K mg "SIT" 1
 c_UNSIT:GI K mg "UNSIT" 2
 c_RESULT:GI K mg "RESULT" 3
 c_PLAYED:GI K mg "PLAYED" 4
 c_PASSED:GI K mg "PASSED" 5
 c_AVERAGE:GI K mg "AVERAGE" 6
 c_FOUL:GI K mg "FOUL" 7
 c_REMOVE:GI K mg "REMOVE" 8
 c_ADJUST:GI K mg "ADJUST" 9
 c_APPEAL:GI K mg "APPEAL" 10
 c_RULING:GI K mg "RULING" 11
 c_TOTAL:GI K mg "TOTAL" 12
 c_STANDINGS:GI K mg "STANDINGS" 13
 c_POST:GI K mg "POST" 14
 c_POSTED:GI K mg "POSTED" 15
 c_SCORE:GI K mg "SCORE" 16
 c_SHEET:GI K mg "SHEET" 17
 c_MET:GI K mg "MET" 18
 c_SITTINGS:GI K mg "SITTINGS" 19
 c_MISSING:GI K mg "MISSING" 20
 c_CHANGES:GI K mg "CHANGES" 21
 c_RANGES:GD K mg "RANGES" tab_RANGES
 c_CALLS_WITH_ROW:GT K mg "CALLS_WITH_ROW" [3,11]
 c_ROW_LENGTHS:GT K mg "ROW_LENGTHS" [2,4,6,8]
 c_WEIGHT_RANGE:GT K mg "WEIGHT_RANGE" [1,1000]
 c_SCORE_RANGE:GT K mg "SCORE_RANGE" [-20000,20000]
 c_OUT_OF_RANGE:GI K mg "OUT_OF_RANGE" (-1)
 c_NO_EVENT:GI K mg "NO_EVENT" (-3)
 c_HAS_ENTRIES:GI K mg "HAS_ENTRIES" (-4)
 c_NO_SUCH_PAIR:GI K mg "NO_SUCH_PAIR" (-5)
 c_ROUND_TAKEN:GI K mg "ROUND_TAKEN" (-6)
 c_BOARD_TAKEN:GI K mg "BOARD_TAKEN" (-7)
 c_HAVE_MET:GI K mg "HAVE_MET" (-8)
 c_FULL:GI K mg "FULL" (-9)
 c_NO_SUCH_BOARD:GI K mg "NO_SUCH_BOARD" (-10)
 c_NOT_GIVEN:GI K mg "NOT_GIVEN" (-11)
 c_UNDER_APPEAL:GI K mg "UNDER_APPEAL" (-12)
 c_NO_ENTRY:GI K mg "NO_ENTRY" (-13)
 c_NOT_UNDER_APPEAL:GI K mg "NOT_UNDER_APPEAL" (-14)
 c_NOT_POSTED:GI K mg "NOT_POSTED" (-15)
 c_MOST_SITTINGS:GI K mg "MOST_SITTINGS" 400
 c_MOST_POSTED:GI K mg "MOST_POSTED" 50
 c_CALLS_THAT_CHANGE:GT K mg "CALLS_THAT_CHANGE" [3,4,5,6,7,8,9,11]
 n_len:mg "len" = none
 n_range:mg "range" = none
 n_abs:mg "abs" = none
 n_sum:mg "sum" = none
 n_sorted:mg "sorted" = none
 n_enumerate:mg "enumerate" = none
 n_zip:mg "zip" = none
 n_isinstance:mg "isinstance" = none
 isR:IsB K k_RealEntry.C
 isA:IsB K k_ArtificialEntry.C
 kR:PySem.W.kitOne K (.ref k_RealEntry.C) (.ref k_RealEntry.C)=some true
 kA:PySem.W.kitOne K (.ref k_ArtificialEntry.C) (.ref k_RealEntry.C)=some false
 neEv:[k_Event.C,k_Sitting.C,k_RealEntry.C,k_ArtificialEntry.C,k_Sheet.C,k_SheetLine.C,k_Call.C,k_PairTotal.C,k_Desk.C].Nodup
end
section
open Vbbraj (State Sitting)
noncomputable abbrev VEnt:=Vbbrah.Entry
noncomputable abbrev VRes:=Vbbrah.Result
noncomputable abbrev VFr:=Vbbrah.Fr
open Sti (SInv)
noncomputable abbrev iN(n:Nat):V:=.int (n:Int)
noncomputable def fsSit(x:Sitting):List (Str×V):=[("round_number",iN x.round),("table",iN x.table),("ns",iN x.ns),("ew",iN x.ew),("first",iN x.first),("last",.int ((x.first:Int)+x.count-1))]
noncomputable def OutO(H:Hp)(p:Addr)(o:Nat×Int):Prop:=H p=some (.tup [iN o.1,.int o.2])
noncomputable def ResO(H:Hp)(l:Addr)(r:VRes):Prop:=∃ps:List Addr,H l=some (.lst (ps.map V.ref))∧Paired (OutO H) ps r
noncomputable def FrO(H:Hp)(q:Addr)(f:VFr):Prop:=H q=some (.tup [.int f.1,iN f.2])
noncomputable def BroO(H:Hp)(a:Addr)(L:List (Nat×VFr)):Prop:=∃kvs:List (Key×V),H a=some (.dK kvs)∧∀k:Nat,match L.find? (fun x=>x.1==k)with
 |none=>valV kvs (.inl (k:Int))=none
 |some x=>∃q,valV kvs (.inl (k:Int))=some (.ref q)∧FrO H q x.2
noncomputable def plKey(r t b:Nat):List Key:=[.inl (r:Int),.inl (t:Int),.inl (b:Int)]
noncomputable def PlO(H:Hp)(p:Addr)(k:Nat×Nat×Nat):Prop:=H p=some (.tup [iN k.1,iN k.2.1,iN k.2.2])
noncomputable def flat3(l:List (Nat×Nat×Int)):List Int:=l.flatMap fun x=>[(x.1:Int),(x.2.1:Int),x.2.2]
noncomputable def PostO(H:Hp)(p:Addr)(l:List (Nat×Nat×Int)):Prop:=H p=some (.lst ((flat3 l).map V.int))
structure EvA where
 p:Addr
 sits:Addr
 ents:Addr
 shts:Addr
 adjs:Addr
 apps:Addr
 post:Addr
noncomputable def EvA.own(A:EvA):List Addr:=[A.p,A.sits,A.ents,A.shts,A.adjs,A.apps,A.post]
noncomputable def fsEv(s:State)(c:Nat)(A:EvA):List (Str×V):=[("pairs",iN s.pairs),("boards",iN s.boards),("sittings",.ref A.sits),("entries",.ref A.ents),("sheets",.ref A.shts),("adjustments",.ref A.adjs),("appeals",.ref A.apps),("posted",.ref A.post),("changes",iN c)]
noncomputable def hid(A:EvA)(Z:Addr→Bool)(H:Hp):Hp:=fun b=>if b∈A.own∨Z b=true then none else H b
theorem hid_sub{A:EvA}{Z:Addr→Bool}{H:Hp}:Same (hid A Z H) H:=fun b o e=>by
 unfold hid at e
 split at e
 ·cases e
 ·exact e
theorem hid_mono{A:EvA}{Z:Addr→Bool}{H H':Hp}(h:Same H H'):Same (hid A Z H) (hid A Z H'):=fun b o e=>by
 unfold hid at e ⊢
 split at e
 ·cases e
 ·rename_i q
  rw[if_neg q]
  exact h b o e
theorem hid_own{A:EvA}{Z:Addr→Bool}{H:Hp}{c:Addr}{o:HO}(h:c∈A.own):hid A Z (upd H c o)=hid A Z H:=by
 funext b
 unfold hid
 split
 ·rfl
 ·rename_i q
  rw[upd_ne (fun z=>q (.inl (by rw[z];exact h)))]
theorem hid_at{A:EvA}{Z:Addr→Bool}{H:Hp}{b:Addr}{o:HO}(h1:b∉A.own)(h2:Z b=false)(h:H b=some o):hid A Z H b=some o:=by
 unfold hid
 rw[if_neg (by simp[h1,h2])]
 exact h
section
variable {K:PySem.W.Frag}{mg:Str→Option Value}(T:TX K mg)
noncomputable def SitO(H:Hp)(a:Addr)(x:Sitting):Prop:=∃dx,H a=some (.ins T.k_Sitting.C dx (fsSit x))
noncomputable def EntO(H:Hp)(a:Addr)(e:VEnt):Prop:=
 (e.result≠[]∧∃dx l,H a=some (.ins T.k_RealEntry.C dx [("group",iN e.group),("outcomes",.ref l)])∧ResO H l e.result)∨
 (e.result=[]∧∃dx,H a=some (.ins T.k_ArtificialEntry.C dx [("group",iN e.group),("ns_per_cent",iN e.ns),("ew_per_cent",iN e.ew)]))
noncomputable def LineO(H:Hp)(s:State)(b:Nat)(l:Vbbrah.State)(a:Addr)(e:VEnt):Prop:=
 ∃dx q,H a=some (.ins T.k_SheetLine.C dx [("ns",iN e.table),("ew",iN (Vbbraj.against s b e.table)),("group",iN e.group),("points",.ref q)])∧FrO H q (Vbbrah.points l e).1
noncomputable def topI(l:Vbbrah.State):Int:=2*((l.length:Int)-1)
noncomputable def SheetO(H:Hp)(s:State)(b:Nat)(a:Addr):Prop:=∃dx al ab ls,H a=some (.ins T.k_Sheet.C dx [("top",.int (topI (Vbbraj.sheet s b))),("lines",.ref al),("brought",.ref ab)])∧
 H al=some (.lst (ls.map V.ref))∧Paired (LineO T H s b (Vbbraj.sheet s b)) ls (Vbbraj.sheet s b)∧BroO H ab (Vbbraj.brought s b (Vbbraj.sheet s b))
noncomputable def EntAt(H:Hp):Option V→Option VEnt→Prop
 |none,none=>True
 |some (.ref a),some e=>EntO T H a e
 |_,_=>False
structure EntsR(H:Hp)(s:State)(kvs:List (List Key×V)):Prop where
 at_:∀x∈s.sittings,∀b,Vbbraj.hasBoard x b=true→EntAt T H (valV kvs (plKey x.round x.table b)) (Vbbrah.entryOf (Vbbraj.sheet s b) x.ns)
 key:∀k v,valV kvs k=some v→∃x∈s.sittings,∃b,Vbbraj.hasBoard x b=true∧k=plKey x.round x.table b
 inj:∀k k' a,valV kvs k=some (.ref a)→valV kvs k'=some (.ref a)→k=k'
 len:kvs.length≤s.changes
structure ShtsR(H:Hp)(s:State)(kvs:List (Key×V)):Prop where
 at_:∀b:Nat,1≤b→b≤s.boards→match valV kvs (.inl (b:Int))with
  |none=>Vbbraj.sheet s b=[]
  |some v=>∃a,v=.ref a∧SheetO T H s b a
 key:∀kv∈kvs,∃b:Nat,kv.1=.inl (b:Int)∧1≤b∧b≤s.boards
 nd:(kvs.map (·.1)).Nodup
structure AdjR(s:State)(kvs:List (Key×V)):Prop where
 at_:∀p:Nat,1≤p→p≤s.pairs→(valV kvs (.inl (p:Int))).getD (.int 0)=.int (s.adjusted.getD (p-1) 0)
 len:kvs.length≤s.changes
structure EvO(Z:Addr→Bool)(H:Hp)(s:State)(c:Nat)(A:EvA):Prop where
 nd:A.own.Nodup
 zo:∀b∈A.own,Z b=false
 zt:∀b,Z b=true→H b≠none
 hp:∃dx,H A.p=some (.ins T.k_Event.C dx (fsEv s c A))
 hs:∃as:List Addr,H A.sits=some (.lst (as.map V.ref))∧Paired (SitO T (hid A Z H)) as s.sittings
 he:∃kvs,H A.ents=some (.dT kvs)∧EntsR T (hid A Z H) s kvs
 hh:∃kvs,H A.shts=some (.dK kvs)∧ShtsR T (hid A Z H) s kvs
 ha:∃kvs,H A.adjs=some (.dK kvs)∧AdjR s kvs
 hq:∃ps:List Addr,H A.apps=some (.lst (ps.map V.ref))∧Paired (PlO (hid A Z H)) ps s.appeals
 ho:∃ps:List Addr,H A.post=some (.lst (ps.map V.ref))∧Paired (PostO (hid A Z H)) ps s.posted
variable {T}
variable {H H':Hp}
theorem SitO.mono(h:Same H H'){a:Addr}{x:Sitting}(p:SitO T H a x):SitO T H' a x:=let⟨dx,e⟩:=p;⟨dx,h _ _ e⟩
theorem ResO.mono(h:Same H H'){l:Addr}{r:VRes}(p:ResO H l r):ResO H' l r:=let⟨ps,e,q⟩:=p;⟨ps,h _ _ e,Paired.mapP q fun _ _ z=>h _ _ z⟩
theorem EntO.mono(h:Same H H'){a:Addr}{e:VEnt}(p:EntO T H a e):EntO T H' a e:=by
 rcases p with⟨n,dx,l,e1,q⟩|⟨n,dx,e1⟩
 ·exact .inl ⟨n,dx,l,h _ _ e1,q.mono h⟩
 ·exact .inr ⟨n,dx,h _ _ e1⟩
theorem BroO.mono(h:Same H H'){a:Addr}{L:List (Nat×VFr)}(p:BroO H a L):BroO H' a L:=by
 obtain⟨kvs,e,q⟩:=p
 refine⟨kvs,h _ _ e,fun k=>?_⟩
 have:=q k
 split
 ·rename_i e1
  rw[e1]at this
  exact this
 ·rename_i x e1
  rw[e1]at this
  obtain⟨z,z1,z2⟩:=this
  exact⟨z,z1,h _ _ z2⟩
theorem LineO.mono(h:Same H H'){s:State}{b:Nat}{l:Vbbrah.State}{a:Addr}{e:VEnt}(p:LineO T H s b l a e):LineO T H' s b l a e:=let⟨dx,q,e1,e2⟩:=p;⟨dx,q,h _ _ e1,h _ _ e2⟩
theorem SheetO.mono(h:Same H H'){s:State}{b:Nat}{a:Addr}(p:SheetO T H s b a):SheetO T H' s b a:=by
 obtain⟨dx,al,ab,ls,e1,e2,e3,e4⟩:=p
 exact⟨dx,al,ab,ls,h _ _ e1,h _ _ e2,Paired.mapP e3 fun _ _ z=>z.mono h,e4.mono h⟩
theorem EntAt.mono(h:Same H H'){o:Option V}{e:Option VEnt}(p:EntAt T H o e):EntAt T H' o e:=by
 unfold EntAt at p ⊢
 split at p
 ·trivial
 ·exact EntO.mono h p
 ·cases p
theorem EntsR.mono(h:Same H H'){s:State}{kvs:List (List Key×V)}(p:EntsR T H s kvs):EntsR T H' s kvs:=⟨fun x hx b hb=>(p.at_ x hx b hb).mono h,p.key,p.inj,p.len⟩
theorem ShtsR.mono(h:Same H H'){s:State}{kvs:List (Key×V)}(p:ShtsR T H s kvs):ShtsR T H' s kvs:=by
 refine⟨fun b h1 h2=>?_,p.key,p.nd⟩
 have:=p.at_ b h1 h2
 split
 ·rename_i e
  rw[e]at this
  exact this
 ·rename_i v e
  rw[e]at this
  obtain⟨a,e1,e2⟩:=this
  exact⟨a,e1,e2.mono h⟩
theorem EvO.grow{Z:Addr→Bool}{s:State}{c:Nat}{A:EvA}(h:Same H H')(E:EvO T Z H s c A):EvO T Z H' s c A:=by
 have hm:Same (hid A Z H) (hid A Z H'):=hid_mono h
 refine⟨E.nd,E.zo,fun b hb=>?_,?_,?_,?_,?_,?_,?_,?_⟩
 ·cases e:H b with
  |none=>exact absurd e (E.zt b hb)
  |some o=>rw[h b o e];simp
 ·obtain⟨dx,e⟩:=E.hp
  exact⟨dx,h _ _ e⟩
 ·obtain⟨as,e,q⟩:=E.hs
  exact⟨as,h _ _ e,Paired.mapP q fun _ _ z=>z.mono hm⟩
 ·obtain⟨kvs,e,q⟩:=E.he
  exact⟨kvs,h _ _ e,q.mono hm⟩
 ·obtain⟨kvs,e,q⟩:=E.hh
  exact⟨kvs,h _ _ e,q.mono hm⟩
 ·obtain⟨kvs,e,q⟩:=E.ha
  exact⟨kvs,h _ _ e,q⟩
 ·obtain⟨ps,e,q⟩:=E.hq
  exact⟨ps,h _ _ e,Paired.mapP q fun _ _ z=>hm _ _ z⟩
 ·obtain⟨ps,e,q⟩:=E.ho
  exact⟨ps,h _ _ e,Paired.mapP q fun _ _ z=>hm _ _ z⟩
theorem same_new{p:Addr}{o:HO}(h:H p=none):Same H (upd H p o):=fun b u e=>by
 rw[upd_ne (ne_of_none e h)]
 exact e
theorem EvO.fresh{Z:Addr→Bool}{s:State}{c:Nat}{A:EvA}(E:EvO T Z H s c A){b:Addr}(h:H b=none):b∉A.own∧Z b=false:=by
 constructor
 ·intro hb
  simp only[EvA.own,List.mem_cons,List.not_mem_nil,or_false]at hb
  obtain⟨dx,e1⟩:=E.hp
  obtain⟨_,e2,_⟩:=E.hs
  obtain⟨_,e3,_⟩:=E.he
  obtain⟨_,e4,_⟩:=E.hh
  obtain⟨_,e5,_⟩:=E.ha
  obtain⟨_,e6,_⟩:=E.hq
  obtain⟨_,e7,_⟩:=E.ho
  rcases hb with rfl|rfl|rfl|rfl|rfl|rfl|rfl
  ·rw[e1]at h;cases h
  ·rw[e2]at h;cases h
  ·rw[e3]at h;cases h
  ·rw[e4]at h;cases h
  ·rw[e5]at h;cases h
  ·rw[e6]at h;cases h
  ·rw[e7]at h;cases h
 ·cases e:Z b with
  |false=>rfl
  |true=>exact absurd h (E.zt b e)
end
end
section
open Vbbraj (State Sitting)
open Sti (SInv)
section
variable {P:Program}{w:World}{K:PySem.W.Frag}{mg:Str→Option Value}{base:Heap}
noncomputable def sp_Sitting_init(T:TX K mg):Sp:=fun vs H Q _=>∃(x dx:Addr) (v1 v2 v3 v4 v5 v6:V),vs=[.ref x,v1,v2,v3,v4,v5,v6]∧H x=some (.ins T.k_Sitting.C dx [])∧Q .non (upd H x (.ins T.k_Sitting.C dx [("round_number",v1),("table",v2),("ns",v3),("ew",v4),("first",v5),("last",v6)]))
theorem ok_Sitting_init(T:TX K mg):FnOk P w K mg base CX0 1 T.k_Sitting.fI T.k_Sitting.fd ["self","round_number","table","ns","ew","first","last"] (sp_Sitting_init T):=by
 refine okL T.k_Sitting.F sc_Sitting_init (fun vs H Q E h=>?_) (fun cdv A outer s H vs Q E hr h=>?_)
 rotate_left;intro Xc;rotate_left
 ·obtain⟨x,dx,v1,v2,v3,v4,v5,v6,rfl,_⟩:=h
  rfl
 ·obtain⟨x,dx,v1,v2,v3,v4,v5,v6,rfl,hx,k⟩:=h
  refine⟨_,(pss_cons (ps_fld (pv 0) (pv 1) rfl) (pss_cons (ps_fld (pv 0) (pv 2) rfl) (pss_cons (ps_fld (pv 0) (pv 3) rfl) (pss_cons (ps_fld (pv 0) (pv 4) rfl) (pss_cons (ps_fld (pv 0) (pv 5) rfl) (pss_one (ps_fld (pv 0) (pv 6) rfl))))))),?_⟩
  refine⟨_,rfl,_,rfl,x,_,dx,_,rfl,hx,T.k_Sitting.cl,T.k_Sitting.na _ rfl,nle0 rfl,?_⟩
  refine⟨_,rfl,_,rfl,x,_,dx,_,rfl,upd_same,T.k_Sitting.cl,T.k_Sitting.na _ rfl,nle0 rfl,?_⟩
  refine⟨_,rfl,_,rfl,x,_,dx,_,rfl,upd_same,T.k_Sitting.cl,T.k_Sitting.na _ rfl,nle0 rfl,?_⟩
  refine⟨_,rfl,_,rfl,x,_,dx,_,rfl,upd_same,T.k_Sitting.cl,T.k_Sitting.na _ rfl,nle0 rfl,?_⟩
  refine⟨_,rfl,_,rfl,x,_,dx,_,rfl,upd_same,T.k_Sitting.cl,T.k_Sitting.na _ rfl,nle0 rfl,?_⟩
  refine⟨_,rfl,_,rfl,x,_,dx,_,rfl,upd_same,T.k_Sitting.cl,T.k_Sitting.na _ rfl,nle0 rfl,?_⟩
  simp only[upd_upd]
  exact k
noncomputable def sp_RealEntry_init(T:TX K mg):Sp:=fun vs H Q _=>∃(x dx:Addr) (v1 v2:V),vs=[.ref x,v1,v2]∧H x=some (.ins T.k_RealEntry.C dx [])∧Q .non (upd H x (.ins T.k_RealEntry.C dx [("group",v1),("outcomes",v2)]))
theorem ok_RealEntry_init(T:TX K mg):FnOk P w K mg base CX0 1 T.k_RealEntry.fI T.k_RealEntry.fd ["self","group","outcomes"] (sp_RealEntry_init T):=by
 refine okL T.k_RealEntry.F sc_RealEntry_init (fun vs H Q E h=>?_) (fun cdv A outer s H vs Q E hr h=>?_)
 rotate_left;intro Xc;rotate_left
 ·obtain⟨x,dx,v1,v2,rfl,_⟩:=h
  rfl
 ·obtain⟨x,dx,v1,v2,rfl,hx,k⟩:=h
  refine⟨_,(pss_cons (ps_fld (pv 0) (pv 1) rfl) (pss_one (ps_fld (pv 0) (pv 2) rfl))),?_⟩
  refine⟨_,rfl,_,rfl,x,_,dx,_,rfl,hx,T.k_RealEntry.cl,T.k_RealEntry.na _ rfl,nle0 rfl,?_⟩
  refine⟨_,rfl,_,rfl,x,_,dx,_,rfl,upd_same,T.k_RealEntry.cl,T.k_RealEntry.na _ rfl,nle0 rfl,?_⟩
  simp only[upd_upd]
  exact k
noncomputable def sp_ArtificialEntry_init(T:TX K mg):Sp:=fun vs H Q _=>∃(x dx:Addr) (v1 v2 v3:V),vs=[.ref x,v1,v2,v3]∧H x=some (.ins T.k_ArtificialEntry.C dx [])∧Q .non (upd H x (.ins T.k_ArtificialEntry.C dx [("group",v1),("ns_per_cent",v2),("ew_per_cent",v3)]))
theorem ok_ArtificialEntry_init(T:TX K mg):FnOk P w K mg base CX0 1 T.k_ArtificialEntry.fI T.k_ArtificialEntry.fd ["self","group","ns_per_cent","ew_per_cent"] (sp_ArtificialEntry_init T):=by
 refine okL T.k_ArtificialEntry.F sc_ArtificialEntry_init (fun vs H Q E h=>?_) (fun cdv A outer s H vs Q E hr h=>?_)
 rotate_left;intro Xc;rotate_left
 ·obtain⟨x,dx,v1,v2,v3,rfl,_⟩:=h
  rfl
 ·obtain⟨x,dx,v1,v2,v3,rfl,hx,k⟩:=h
  refine⟨_,(pss_cons (ps_fld (pv 0) (pv 1) rfl) (pss_cons (ps_fld (pv 0) (pv 2) rfl) (pss_one (ps_fld (pv 0) (pv 3) rfl)))),?_⟩
  refine⟨_,rfl,_,rfl,x,_,dx,_,rfl,hx,T.k_ArtificialEntry.cl,T.k_ArtificialEntry.na _ rfl,nle0 rfl,?_⟩
  refine⟨_,rfl,_,rfl,x,_,dx,_,rfl,upd_same,T.k_ArtificialEntry.cl,T.k_ArtificialEntry.na _ rfl,nle0 rfl,?_⟩
  refine⟨_,rfl,_,rfl,x,_,dx,_,rfl,upd_same,T.k_ArtificialEntry.cl,T.k_ArtificialEntry.na _ rfl,nle0 rfl,?_⟩
  simp only[upd_upd]
  exact k
noncomputable def sp_SheetLine_init(T:TX K mg):Sp:=fun vs H Q _=>∃(x dx:Addr) (v1 v2 v3 v4:V),vs=[.ref x,v1,v2,v3,v4]∧H x=some (.ins T.k_SheetLine.C dx [])∧Q .non (upd H x (.ins T.k_SheetLine.C dx [("ns",v1),("ew",v2),("group",v3),("points",v4)]))
theorem ok_SheetLine_init(T:TX K mg):FnOk P w K mg base CX0 1 T.k_SheetLine.fI T.k_SheetLine.fd ["self","ns","ew","group","points"] (sp_SheetLine_init T):=by
 refine okL T.k_SheetLine.F sc_SheetLine_init (fun vs H Q E h=>?_) (fun cdv A outer s H vs Q E hr h=>?_)
 rotate_left;intro Xc;rotate_left
 ·obtain⟨x,dx,v1,v2,v3,v4,rfl,_⟩:=h
  rfl
 ·obtain⟨x,dx,v1,v2,v3,v4,rfl,hx,k⟩:=h
  refine⟨_,(pss_cons (ps_fld (pv 0) (pv 1) rfl) (pss_cons (ps_fld (pv 0) (pv 2) rfl) (pss_cons (ps_fld (pv 0) (pv 3) rfl) (pss_one (ps_fld (pv 0) (pv 4) rfl))))),?_⟩
  refine⟨_,rfl,_,rfl,x,_,dx,_,rfl,hx,T.k_SheetLine.cl,T.k_SheetLine.na _ rfl,nle0 rfl,?_⟩
  refine⟨_,rfl,_,rfl,x,_,dx,_,rfl,upd_same,T.k_SheetLine.cl,T.k_SheetLine.na _ rfl,nle0 rfl,?_⟩
  refine⟨_,rfl,_,rfl,x,_,dx,_,rfl,upd_same,T.k_SheetLine.cl,T.k_SheetLine.na _ rfl,nle0 rfl,?_⟩
  refine⟨_,rfl,_,rfl,x,_,dx,_,rfl,upd_same,T.k_SheetLine.cl,T.k_SheetLine.na _ rfl,nle0 rfl,?_⟩
  simp only[upd_upd]
  exact k
noncomputable def sp_Call_init(T:TX K mg):Sp:=fun vs H Q _=>∃(x dx:Addr) (v1 v2 v3:V),vs=[.ref x,v1,v2,v3]∧H x=some (.ins T.k_Call.C dx [])∧Q .non (upd H x (.ins T.k_Call.C dx [("number",v1),("plain",v2),("row",v3)]))
theorem ok_Call_init(T:TX K mg):FnOk P w K mg base CX0 1 T.k_Call.fI T.k_Call.fd ["self","number","plain","row"] (sp_Call_init T):=by
 refine okL T.k_Call.F sc_Call_init (fun vs H Q E h=>?_) (fun cdv A outer s H vs Q E hr h=>?_)
 rotate_left;intro Xc;rotate_left
 ·obtain⟨x,dx,v1,v2,v3,rfl,_⟩:=h
  rfl
 ·obtain⟨x,dx,v1,v2,v3,rfl,hx,k⟩:=h
  refine⟨_,(pss_cons (ps_fld (pv 0) (pv 1) rfl) (pss_cons (ps_fld (pv 0) (pv 2) rfl) (pss_one (ps_fld (pv 0) (pv 3) rfl)))),?_⟩
  refine⟨_,rfl,_,rfl,x,_,dx,_,rfl,hx,T.k_Call.cl,T.k_Call.na _ rfl,nle0 rfl,?_⟩
  refine⟨_,rfl,_,rfl,x,_,dx,_,rfl,upd_same,T.k_Call.cl,T.k_Call.na _ rfl,nle0 rfl,?_⟩
  refine⟨_,rfl,_,rfl,x,_,dx,_,rfl,upd_same,T.k_Call.cl,T.k_Call.na _ rfl,nle0 rfl,?_⟩
  simp only[upd_upd]
  exact k
noncomputable def sp_PairTotal_init(T:TX K mg):Sp:=fun vs H Q _=>∃(x dx:Addr) (v1 v2 v3:V),vs=[.ref x,v1,v2,v3]∧H x=some (.ins T.k_PairTotal.C dx [])∧Q .non (upd H x (.ins T.k_PairTotal.C dx [("pair",v1),("points",v2),("tops",v3)]))
theorem ok_PairTotal_init(T:TX K mg):FnOk P w K mg base CX0 1 T.k_PairTotal.fI T.k_PairTotal.fd ["self","pair","points","tops"] (sp_PairTotal_init T):=by
 refine okL T.k_PairTotal.F sc_PairTotal_init (fun vs H Q E h=>?_) (fun cdv A outer s H vs Q E hr h=>?_)
 rotate_left;intro Xc;rotate_left
 ·obtain⟨x,dx,v1,v2,v3,rfl,_⟩:=h
  rfl
 ·obtain⟨x,dx,v1,v2,v3,rfl,hx,k⟩:=h
  refine⟨_,(pss_cons (ps_fld (pv 0) (pv 1) rfl) (pss_cons (ps_fld (pv 0) (pv 2) rfl) (pss_one (ps_fld (pv 0) (pv 3) rfl)))),?_⟩
  refine⟨_,rfl,_,rfl,x,_,dx,_,rfl,hx,T.k_PairTotal.cl,T.k_PairTotal.na _ rfl,nle0 rfl,?_⟩
  refine⟨_,rfl,_,rfl,x,_,dx,_,rfl,upd_same,T.k_PairTotal.cl,T.k_PairTotal.na _ rfl,nle0 rfl,?_⟩
  refine⟨_,rfl,_,rfl,x,_,dx,_,rfl,upd_same,T.k_PairTotal.cl,T.k_PairTotal.na _ rfl,nle0 rfl,?_⟩
  simp only[upd_upd]
  exact k
inductive J_Desk_init(T:TX K mg)(vs:List V)(H:Hp)(Q:VK):Prop
 |mk (x dx:Addr):vs=[.ref x]→H x=some (.ins T.k_Desk.C dx [])→Q .non (upd H x (.ins T.k_Desk.C dx [("event",.non)]))→J_Desk_init T vs H Q
noncomputable def sp_Desk_init(T:TX K mg):Sp:=fun vs H Q _=>J_Desk_init T vs H Q
theorem ok_Desk_init(T:TX K mg):FnOk P w K mg base CX0 1 T.k_Desk.fI T.k_Desk.fd ["self"] (sp_Desk_init T):=by
 refine okL T.k_Desk.F sc_Desk_init (fun vs H Q E h=>?_) (fun cdv A outer s H vs Q E hr h=>?_)
 rotate_left;intro Xc;rotate_left
 ·obtain⟨x,dx,rfl,_⟩:=h
  rfl
 ·obtain⟨x,dx,rfl,hx,k⟩:=h
  refine⟨_,(pss_one (ps_fld (pv 0) pe_non rfl)),?_⟩
  exact⟨_,rfl,x,_,dx,_,rfl,hx,T.k_Desk.cl,T.k_Desk.na _ rfl,nle0 rfl,k⟩
inductive J_Sheet_init(T:TX K mg)(vs:List V)(H:Hp)(Q:VK):Prop
 |mk (x dx:Addr) (v:V):vs=[.ref x,v]→H x=some (.ins T.k_Sheet.C dx [])→(∀al ab,H al=none→H ab=none→al≠ab→Q .non (upd (upd (upd H al (.lst [])) ab (.dK [])) x (.ins T.k_Sheet.C dx [("top",v),("lines",.ref al),("brought",.ref ab)])))→J_Sheet_init T vs H Q
noncomputable def sp_Sheet_init(T:TX K mg):Sp:=fun vs H Q _=>J_Sheet_init T vs H Q
theorem cH{Q:VK}{v:V}{H H':Hp}(k:Q v H)(e:H=H'):Q v H':=e▸k
theorem upd_comm{H:Hp}{a b:Addr}{o u:HO}(h:a≠b):upd (upd H a o) b u=upd (upd H b u) a o:=by
 funext c
 by_cases h1:c=a
 ·subst h1
  rw[upd_ne h,upd_same,upd_same]
 ·by_cases h2:c=b
  ·subst h2
   rw[upd_same,upd_ne h1,upd_same]
  ·rw[upd_ne h2,upd_ne h1,upd_ne h1,upd_ne h2]
theorem ok_Sheet_init(T:TX K mg):FnOk P w K mg base CX0 1 T.k_Sheet.fI T.k_Sheet.fd ["self","top"] (sp_Sheet_init T):=by
 refine okL T.k_Sheet.F sc_Sheet_init (fun vs H Q E h=>?_) (fun cdv A outer s H vs Q E hr h=>?_)
 rotate_left;intro Xc;rotate_left
 ·obtain⟨x,dx,v,rfl,_⟩:=h
  rfl
 ·obtain⟨x,dx,v,rfl,hx,k⟩:=h
  refine⟨_,(pss_cons (ps_fld (pv 0) (pv 1) rfl) (pss_cons (ps_fld (pv 0) (pe_lst pa_nil) rfl) (pss_one (ps_fld (pv 0) pe_dnewK rfl)))),?_⟩
  refine⟨_,rfl,_,rfl,x,_,dx,_,rfl,hx,T.k_Sheet.cl,T.k_Sheet.na _ rfl,nle0 rfl,?_⟩
  refine⟨Nat.zero_le _,fun al nal=>?_⟩
  have xa:x≠al:=ne_of_none upd_same nal
  refine⟨_,rfl,x,_,dx,_,rfl,(upd_ne xa).trans upd_same,T.k_Sheet.cl,T.k_Sheet.na _ rfl,nle0 rfl,?_⟩
  intro ab nab
  have xb:x≠ab:=ne_of_none upd_same nab
  have hab:al≠ab:=ne_of_none (show upd (upd (upd H x _) al (.lst [])) x _ al=some (.lst []) by rw[upd_ne xa.symm,upd_same]) nab
  refine⟨_,rfl,x,_,dx,_,rfl,(upd_ne xb).trans upd_same,T.k_Sheet.cl,T.k_Sheet.na _ rfl,nle0 rfl,?_⟩
  have n1:H al=none:=by rw[←nal,upd_ne xa.symm]
  have n2:H ab=none:=by rw[←nab,upd_ne xb.symm,upd_ne hab.symm,upd_ne xb.symm]
  have q:=k al ab n1 n2 hab
  refine cH q ?_
  funext c
  unfold upd
  by_cases h1:c=x
  ·rw[if_pos h1,if_pos h1];rfl
  ·by_cases h2:c=ab
   ·simp only[if_neg h1,if_pos h2]
   ·simp only[if_neg h1,if_neg h2]
end
end
section
open Vbbraj (State Sitting)
open Sti (SInv)
section
variable {P:Program}{w:World}{K:PySem.W.Frag}{mg:Str→Option Value}{base:Heap}
structure Chn(H0:Hp)(x:Addr)(obs:List (Addr×HO))(ox:HO)(H:Hp):Prop where
 at_:H x=some ox
 laid:∀p∈obs,H p.1=some p.2
 nd:(x::obs.map (·.1)).Nodup
 old:∀p∈obs,H0 p.1=none
 rest:∀c,c≠x→c∉obs.map (·.1)→H c=H0 c
theorem Chn.start{H:Hp}{x:Addr}{ox:HO}(h:H x=some ox):Chn H x [] ox H:=⟨h,fun p hp=>by(cases hp),by simp,fun p hp=>by(cases hp),fun c _ _=>rfl⟩
theorem Chn.set{H0 H:Hp}{x:Addr}{obs:List (Addr×HO)}{ox o':HO}(c:Chn H0 x obs ox H):Chn H0 x obs o' (upd H x o'):=by
 have hn:=c.nd
 rw[List.nodup_cons]at hn
 refine⟨upd_same,fun p hp=>?_,c.nd,c.old,fun d h1 h2=>by rw[upd_ne h1];exact c.rest d h1 h2⟩
 rw[upd_ne (fun z=>hn.1 (List.mem_map.mpr ⟨p,hp,z⟩))]
 exact c.laid p hp
theorem Chn.pre{H0 H:Hp}{x a:Addr}{obs:List (Addr×HO)}{ox o:HO}(c:Chn H0 x obs ox H)(n:H a=none):upd H a o x=some ox:=(upd_ne (ne_of_none c.at_ n)).trans c.at_
theorem Chn.lay{H0 H:Hp}{x a:Addr}{obs:List (Addr×HO)}{ox o o':HO}(c:Chn H0 x obs ox H)(n:H a=none):Chn H0 x ((a,o)::obs) o' (upd (upd H a o) x o'):=by
 have hx:x≠a:=ne_of_none c.at_ n
 have ha:a∉obs.map (·.1):=fun z=>by
  obtain⟨p,hp,e⟩:=List.mem_map.mp z
  have:=c.laid p hp
  rw[e,n]at this
  cases this
 have hn:=c.nd
 rw[List.nodup_cons]at hn
 refine⟨upd_same,fun p hp=>?_,?_,fun p hp=>?_,fun d h1 h2=>?_⟩
 ·rcases List.mem_cons.mp hp with rfl|hp
  ·rw[upd_ne hx.symm,upd_same]
  ·rw[upd_ne (fun z=>hn.1 (List.mem_map.mpr ⟨p,hp,z⟩)),upd_ne (fun z=>ha (List.mem_map.mpr ⟨p,hp,z⟩))]
   exact c.laid p hp
 ·simp only[List.map_cons,List.nodup_cons,List.mem_cons,not_or]
  exact⟨⟨hx,hn.1⟩,ha,hn.2⟩
 ·rcases List.mem_cons.mp hp with rfl|hp
  ·rw[←c.rest a hx.symm ha];exact n
  ·exact c.old p hp
 ·simp only[List.map_cons,List.mem_cons,not_or]at h2
  rw[upd_ne h1,upd_ne h2.1]
  exact c.rest d h1 h2.2
theorem begun_sheet(n b c:Nat):Vbbraj.sheet (Vbbraj.begun n b) c=[]:=Sti.sheet_begun n b c
inductive J_Event_init(T:TX K mg)(vs:List V)(H:Hp)(Q:VK):Prop
 |mk (x dx:Addr) (n b:Nat) (Z:Addr→Bool):vs=[.ref x,iN n,iN b]→H x=some (.ins T.k_Event.C dx [])→Z x=false→((∀c,Z c=true→H c≠none))→(∀(H':Hp) (A:EvA),A.p=x→EvO T Z H' (Vbbraj.begun n b) 0 A→(∀c,Z c=true→H' c=H c)→Q .non H')→J_Event_init T vs H Q
noncomputable def sp_Event_init(T:TX K mg):Sp:=fun vs H Q _=>J_Event_init T vs H Q
theorem ok_Event_init(T:TX K mg):FnOk P w K mg base CX0 1 T.k_Event.fI T.k_Event.fd ["self","pairs","boards"] (sp_Event_init T):=by
 refine okL T.k_Event.F sc_Event_init (fun vs H Q E h=>?_) (fun cdv A outer s H vs Q E hr h=>?_)
 rotate_left;intro Xc;rotate_left
 ·obtain⟨x,dx,n,b,Z,rfl,_⟩:=h
  rfl
 ·obtain⟨x,dx,n,b,Z,rfl,hx,hz,zt,k⟩:=h
  refine⟨_,(pss_cons (ps_fld (pv 0) (pv 1) rfl) (pss_cons (ps_fld (pv 0) (pv 2) rfl) (pss_cons (ps_fld (pv 0) (pe_lst pa_nil) rfl) (pss_cons (ps_fld (pv 0) pe_dnewT rfl) (pss_cons (ps_fld (pv 0) pe_dnewK rfl) (pss_cons (ps_fld (pv 0) pe_dnewK rfl) (pss_cons (ps_fld (pv 0) (pe_lst pa_nil) rfl) (pss_cons (ps_fld (pv 0) (pe_lst pa_nil) rfl) (pss_one (ps_fld (pv 0) pe_int rfl)))))))))),?_⟩
  have c0:=Chn.start hx
  refine⟨_,rfl,_,rfl,x,_,dx,_,rfl,hx,T.k_Event.cl,T.k_Event.na _ rfl,nle0 rfl,?_⟩
  replace c0:=c0.set (o':=.ins T.k_Event.C dx (putF "pairs" (iN n) []))
  refine⟨_,rfl,_,rfl,x,_,dx,_,rfl,c0.at_,T.k_Event.cl,T.k_Event.na _ rfl,nle0 rfl,?_⟩
  replace c0:=c0.set (o':=.ins T.k_Event.C dx (putF "boards" (iN b) (putF "pairs" (iN n) [])))
  refine⟨Nat.zero_le _,fun a1 n1=>⟨_,rfl,x,_,dx,_,rfl,c0.pre n1,T.k_Event.cl,T.k_Event.na _ rfl,nle0 rfl,?_⟩⟩
  have c1:=c0.lay (o:=.lst []) (o':=.ins T.k_Event.C dx (putF "sittings" (.ref a1) (putF "boards" (iN b) (putF "pairs" (iN n) [])))) n1
  refine fun a2 n2=>⟨_,rfl,x,_,dx,_,rfl,c1.pre n2,T.k_Event.cl,T.k_Event.na _ rfl,nle0 rfl,?_⟩
  have c2:=c1.lay (o:=.dT []) (o':=.ins T.k_Event.C dx (putF "entries" (.ref a2) (putF "sittings" (.ref a1) (putF "boards" (iN b) (putF "pairs" (iN n) []))))) n2
  refine fun a3 n3=>⟨_,rfl,x,_,dx,_,rfl,c2.pre n3,T.k_Event.cl,T.k_Event.na _ rfl,nle0 rfl,?_⟩
  have c3:=c2.lay (o:=.dK []) (o':=.ins T.k_Event.C dx (putF "sheets" (.ref a3) (putF "entries" (.ref a2) (putF "sittings" (.ref a1) (putF "boards" (iN b) (putF "pairs" (iN n) [])))))) n3
  refine fun a4 n4=>⟨_,rfl,x,_,dx,_,rfl,c3.pre n4,T.k_Event.cl,T.k_Event.na _ rfl,nle0 rfl,?_⟩
  have c4:=c3.lay (o:=.dK []) (o':=.ins T.k_Event.C dx (putF "adjustments" (.ref a4) (putF "sheets" (.ref a3) (putF "entries" (.ref a2) (putF "sittings" (.ref a1) (putF "boards" (iN b) (putF "pairs" (iN n) []))))))) n4
  refine⟨Nat.zero_le _,fun a5 n5=>⟨_,rfl,x,_,dx,_,rfl,c4.pre n5,T.k_Event.cl,T.k_Event.na _ rfl,nle0 rfl,?_⟩⟩
  have c5:=c4.lay (o:=.lst []) (o':=.ins T.k_Event.C dx (putF "appeals" (.ref a5) (putF "adjustments" (.ref a4) (putF "sheets" (.ref a3) (putF "entries" (.ref a2) (putF "sittings" (.ref a1) (putF "boards" (iN b) (putF "pairs" (iN n) [])))))))) n5
  refine⟨Nat.zero_le _,fun a6 n6=>⟨_,rfl,x,_,dx,_,rfl,c5.pre n6,T.k_Event.cl,T.k_Event.na _ rfl,nle0 rfl,?_⟩⟩
  have c6:=c5.lay (o:=.lst []) (o':=.ins T.k_Event.C dx (putF "posted" (.ref a6) (putF "appeals" (.ref a5) (putF "adjustments" (.ref a4) (putF "sheets" (.ref a3) (putF "entries" (.ref a2) (putF "sittings" (.ref a1) (putF "boards" (iN b) (putF "pairs" (iN n) []))))))))) n6
  refine⟨_,rfl,x,_,dx,_,rfl,c6.at_,T.k_Event.cl,T.k_Event.na _ rfl,nle0 rfl,?_⟩
  let A:EvA:=⟨x,a1,a2,a3,a4,a5,a6⟩
  have c7:=c6.set (o':=.ins T.k_Event.C dx (fsEv (Vbbraj.begun n b) 0 A))
  have fin:∀Hf,Chn H x [(a6,.lst []),(a5,.lst []),(a4,.dK []),(a3,.dK []),(a2,.dT []),(a1,.lst [])] (.ins T.k_Event.C dx (fsEv (Vbbraj.begun n b) 0 A)) Hf→Q .non Hf:=fun Hf c=>by
   have hn:=c.nd
   have hz1:∀q,q∈A.own→Z q=false:=fun q hq=>by
    cases e:Z q with
    |false=>rfl
    |true=>
     have h1:=zt q e
     simp only[A,EvA.own,List.mem_cons,List.not_mem_nil,or_false]at hq
     rcases hq with rfl|rfl|rfl|rfl|rfl|rfl|rfl
     ·rw[hz]at e;cases e
     ·exact absurd (c.old (q,.lst []) (by simp)) h1
     ·exact absurd (c.old (q,.dT []) (by simp)) h1
     ·exact absurd (c.old (q,.dK []) (by simp)) h1
     ·exact absurd (c.old (q,.dK []) (by simp)) h1
     ·exact absurd (c.old (q,.lst []) (by simp)) h1
     ·exact absurd (c.old (q,.lst []) (by simp)) h1
   have hk:∀d,Z d=true→Hf d=H d:=fun d hd=>by
    have nd:d∉A.own:=fun q=>by rw[hz1 d q]at hd;cases hd
    simp only[A,EvA.own,List.mem_cons,List.not_mem_nil,or_false,not_or]at nd
    refine c.rest d nd.1 ?_
    simp only[List.map_cons,List.map_nil,List.mem_cons,List.not_mem_nil,or_false,not_or]
    exact⟨nd.2.2.2.2.2.2,nd.2.2.2.2.2.1,nd.2.2.2.2.1,nd.2.2.2.1,nd.2.2.1,nd.2.1⟩
   refine k Hf A rfl ⟨?_,hz1,fun d hd=>by rw[hk d hd];exact zt d hd,⟨dx,c.at_⟩,⟨[],c.laid (a1,.lst []) (by simp),.nil⟩,⟨[],c.laid (a2,.dT []) (by simp),⟨fun y hy=>by(cases hy),fun q v e=>by(cases e),fun q q' a e=>by(cases e),Nat.zero_le _⟩⟩,
    ⟨[],c.laid (a3,.dK []) (by simp),⟨fun d _ _=>?_,fun q hq=>by(cases hq),List.nodup_nil⟩⟩,⟨[],c.laid (a4,.dK []) (by simp),⟨fun p h1 h2=>?_,Nat.zero_le _⟩⟩,⟨[],c.laid (a5,.lst []) (by simp),.nil⟩,⟨[],c.laid (a6,.lst []) (by simp),.nil⟩⟩ hk
   ·simp only[A,EvA.own,List.map_cons,List.map_nil,List.nodup_cons,List.mem_cons,List.not_mem_nil,or_false,not_or,not_false_eq_true,and_true]at hn ⊢
    obtain⟨⟨q1,q2,q3,q4,q5,q6⟩,⟨q7,q8,q9,q10,q11⟩,⟨q12,q13,q14,q15⟩,⟨q16,q17,q18⟩,⟨q19,q20⟩,q21,_⟩:=hn
    refine⟨⟨q6,q5,q4,q3,q2,q1⟩,⟨Ne.symm q21,Ne.symm q20,Ne.symm q18,Ne.symm q15,Ne.symm q11⟩,⟨Ne.symm q19,Ne.symm q17,Ne.symm q14,Ne.symm q10⟩,⟨Ne.symm q16,Ne.symm q13,Ne.symm q9⟩,⟨Ne.symm q12,Ne.symm q8⟩,Ne.symm q7,trivial,List.nodup_nil⟩
   ·exact begun_sheet n b d
   ·show V.int 0=V.int _
    congr 1
    show(0:Int)=(List.replicate n (0:Int)).getD (p-1) 0
    rw[List.getD_eq_getElem?_getD,List.getElem?_replicate]
    split<;>rfl
  exact fin _ c7
end
end
section
open Vbbraj (State Sitting)
open Sti (SInv)
section
variable {P:Program}{w:World}{K:PySem.W.Frag}{mg:Str→Option Value}{base:Heap}
inductive J_sitting_at(T:TX K mg)(vs:List V)(H:Hp)(Q:VK):Prop
 |mk (A:EvA) (s:State) (c:Nat) (Z:Addr→Bool) (r t:Nat):vs=[.ref A.p,iN r,iN t]→EvO T Z H s c A→((Vbbraj.sittingOf s r t=none→Q .non H))→(∀x a,Vbbraj.sittingOf s r t=some x→SitO T H a x→Q (.ref a) H)→J_sitting_at T vs H Q
noncomputable def sp_sitting_at(T:TX K mg):Sp:=fun vs H Q _=>J_sitting_at T vs H Q
theorem paired_at{α β:Type}{G:α→β→Prop}{f:α→V}{l:List α}{m:List β}(h:Paired G l m){i:Nat}{v:V}(e:(l.map f)[i]?=some v):∃a b,l[i]?=some a∧m[i]?=some b∧v=f a∧G a b:=by
 rw[List.getElem?_map]at e
 cases ea:l[i]? with
 |none=>rw[ea]at e;cases e
 |some a=>
  rw[ea]at e
  obtain⟨b,hb,g⟩:=paired_get h ea
  exact⟨a,b,rfl,hb,(Option.some.inj e).symm,g⟩
theorem take_snoc{α:Type}{l:List α}{i:Nat}{x:α}(h:l[i]?=some x):l.take (i+1)=l.take i++[x]:=by
 rw[List.take_succ,h]
 rfl
theorem iN_inj{a b:Nat}:iN a=iN b↔a=b:=by
 constructor
 ·intro h
  have:(a:Int)=(b:Int):=V.int.inj h
  omega
 ·rintro rfl;rfl
theorem find_hit{α:Type}{p:α→Bool}{l:List α}{i:Nat}{x:α}(hx:l[i]?=some x)(hf:(l.take i).find? p=none)(hp:p x=true):l.find? p=some x:=by
 have e:l=l.take i++x::l.drop (i+1):=by
  obtain⟨h,e⟩:=List.getElem?_eq_some_iff.mp hx
  rw[←e,←List.drop_eq_getElem_cons h,List.take_append_drop]
 rw[e,List.find?_append,hf,List.find?_cons_of_pos hp]
 rfl
theorem find_miss{α:Type}{p:α→Bool}{l:List α}{i:Nat}{x:α}(hx:l[i]?=some x)(hf:(l.take i).find? p=none)(hp:p x=false):(l.take (i+1)).find? p=none:=by
 rw[take_snoc hx,List.find?_append,hf,List.find?_cons_of_neg (by rw[hp];simp)]
 rfl
theorem any_hit{α:Type}{p:α→Bool}{l:List α}{i:Nat}{x:α}(hx:l[i]?=some x)(hp:p x=true):l.any p=true:=List.any_eq_true.mpr ⟨x,List.mem_of_getElem? hx,hp⟩
theorem any_miss{α:Type}{p:α→Bool}{l:List α}{i:Nat}{x:α}(hx:l[i]?=some x)(hf:(l.take i).any p=false)(hp:p x=false):(l.take (i+1)).any p=false:=by
 rw[take_snoc hx,List.any_append,hf,List.any_cons,hp]
 rfl
theorem ok_sitting_at(T:TX K mg):FnOk P w K mg base CX0 1 T.f_sitting_at.f T.f_sitting_at.fd ["event","round_number","table"] (sp_sitting_at T):=by
 refine okL T.f_sitting_at.F sc_sitting_at (fun vs H Q E h=>?_) (fun cdv A outer s H vs Q E hr h=>?_)
 rotate_left;intro Xc;rotate_left
 ·obtain⟨A,s,c,Z,r,t,rfl,_⟩:=h
  rfl
 ·obtain⟨B,s,c,Z,r,t,rfl,ev,k0,k1⟩:=h
  obtain⟨dx,hp⟩:=ev.hp
  obtain⟨as,hs,ps⟩:=ev.hs
  refine⟨_,(pss_cons (ps_for PassesOwn.never rfl (pi_list (pe_fld (pv 0) rfl)) (pg_name (i:=3) sc_sitting_at.nd rfl (by walk_at "or")) (pss_one (ps_if (PW.pt (pw_and (pt_cmpR op_eq (pe_fld (pv 3) rfl) (pv 1) (nomark _)) (pw_and1 (pt_cmpR op_eq (pe_fld (pv 3) rfl) (pv 2) (nomark _))))) (pss_one (ps_ret (pv 3))) pss_nil))) (pss_one (ps_ret pe_non))),?_⟩
  refine Ev.x1 rfl ?_
  walk_at "fld"
  refine⟨_,rfl,⟨_,SqL.of hs⟩,for_list (K:=K) (xs:=as.map V.ref) (fun i σ H'=>H'=H∧(∃v,σ=[some (.ref B.p),some (iN r),some (iN t),v])∧(s.sittings.take i).find? (fun x=>x.round==r&&x.table==t)=none) ⟨rfl,⟨none,rfl⟩,rfl⟩ (fun i σ H' _ ⟨e,_⟩=>by rw[e];exact SqL.of hs) ?_ ?_⟩
  ·rintro i v σ H' hi ⟨rfl,⟨u,rfl⟩,hf⟩
   obtain⟨a,x,ha,hx,rfl,sx⟩:=paired_at ps hi
   obtain⟨dx,sx⟩:=sx.mono hid_sub
   refine Ev.x1 rfl ?_
   walk_at "w"
   ·rename_i h1 h2
    simp only[decide_eq_true_eq,iN_inj]at h1 h2
    exact k1 x a (find_hit hx hf (by simp[h1,h2])) ⟨dx,sx⟩
   ·rename_i h1 h2
    simp only[decide_eq_true_eq,iN_inj]at h1 h2
    exact⟨⟨_,rfl⟩,find_miss hx hf (by simp[h1,h2])⟩
   ·rename_i h1
    simp only[decide_eq_true_eq,iN_inj]at h1
    exact⟨⟨_,rfl⟩,find_miss hx hf (by simp[h1])⟩
  ·rintro σ H' ⟨rfl,⟨u,rfl⟩,hf⟩
   refine k0 ?_
   rw[List.length_map,Paired.length ps,List.take_length]at hf
   exact hf
inductive J_is_given(T:TX K mg)(vs:List V)(H:Hp)(Q:VK):Prop
 |mk (A:EvA) (s:State) (c:Nat) (Z:Addr→Bool) (q:Addr) (r t b:Nat):vs=[.ref A.p,.ref q]→EvO T Z H s c A→PlO H q (r,t,b)→Q (.bl (Vbbraj.placeOf s r t b).isSome) H→J_is_given T vs H Q
noncomputable def sp_is_given(T:TX K mg):Sp:=fun vs H Q _=>J_is_given T vs H Q
theorem ok_is_given(T:TX K mg):FnOk P w K mg base CX0 2 T.f_is_given.f T.f_is_given.fd ["event","place"] (sp_is_given T):=by
 refine okL T.f_is_given.F sc_is_given (fun vs H Q E h=>?_) (fun cdv A outer s H vs Q E hr h=>?_)
 rotate_left;intro Xc;rotate_left
 ·obtain⟨A,s,c,Z,q,r,t,b,rfl,_⟩:=h
  rfl
 ·obtain⟨B,s,c,Z,q,r,t,b,rfl,ev,hq,k⟩:=h
  have sq:SqT K H q [iN r,iN t,iN b]:=SqT.of hq
  refine⟨_,(pss_cons (ps_set (i:=2) sc_is_given.nd rfl (by walk_at "or") (pe_call (ok_sitting_at T) (hr.mono (by decide)) rfl T.f_sitting_at.m T.f_sitting_at.F.kp T.f_sitting_at.b .nil pass0 (pa_cons (pv 0) (pa_cons (pe_ix ix_tup (pv 1) pe_int (fun _ _=>rfl)) (pa_cons (pe_ix ix_tup (pv 1) pe_int (fun _ _=>rfl)) pa_nil))))) (pss_cons (ps_if (pt_cmp (pc_isN (pv 2))) (pss_one (ps_ret pe_bl)) pss_nil) (pss_one (ps_ret (pe_and (pe_cmpR op_le (pe_fld (pv 2) rfl) (pe_ix ix_tup (pv 1) pe_int (fun _ _=>rfl)) (nomark _)) (pe_one (pe_cmpR op_le (pe_ix ix_tup (pv 1) pe_int (fun _ _=>rfl)) (pe_fld (pv 2) rfl) (nomark _)))))))),?_⟩
  walk_at "v"
  refine⟨B,s,c,Z,r,t,rfl,ev,fun e=>?_,fun x a e sx=>?_⟩
  ·walk_at "w"
   refine cB k ?_
   simp[Vbbraj.placeOf,e]
  ·obtain⟨dx,sx⟩:=sx
   have e1:Vbbraj.placeOf s r t b=if Vbbraj.hasBoard x b=true then some x else none:=by simp[Vbbraj.placeOf,e]
   rw[e1]at k
   walk_at "w"
   ·rename_i h
    refine cB k ?_
    simp only[decide_eq_true_eq]at h
    by_cases hb:Vbbraj.hasBoard x b=true
    ·rw[if_pos hb]
     have:=Sti.hasBoard_iff.mp hb
     simp
     omega
    ·rw[if_neg hb]
     have:¬(x.first≤b∧b<x.first+x.count):=fun z=>hb (Sti.hasBoard_iff.mpr z)
     simp
     omega
   ·rename_i h
    refine cB k ?_
    simp only[decide_eq_true_eq]at h
    have hb:¬Vbbraj.hasBoard x b=true:=fun z=>by
     have:=Sti.hasBoard_iff.mp z
     omega
    rw[if_neg hb]
    rfl
theorem sheet_mem{s:State}(si:SInv s){l:Vbbrah.State}(h:l∈s.sheets):∃b,Vbbraj.sheet s b=l∧1≤b∧b≤s.boards:=by
 obtain⟨i,hi,e⟩:=List.mem_iff_getElem.mp h
 have:=si.sl
 refine⟨i+1,?_,by omega,by omega⟩
 unfold Vbbraj.sheet
 rw[if_neg (by omega),Nat.add_sub_cancel,List.getD_eq_getElem?_getD,List.getElem?_eq_getElem hi,e]
 rfl
theorem entryOf_mem{l:Vbbrah.State}{e:VEnt}(h:e∈l):∃e',Vbbrah.entryOf l e.table=some e':=by
 cases q:Vbbrah.entryOf l e.table with
 |some e'=>exact⟨e',rfl⟩
 |none=>
  unfold Vbbrah.entryOf at q
  rw[List.find?_eq_none]at q
  exact absurd (q e h) (by simp)
theorem sheet_big{s:State}(si:SInv s){b:Nat}(h:Vbbraj.sheet s b≠[]):Vbbraj.sheet s b∈s.sheets:=by
 unfold Vbbraj.sheet at h ⊢
 split
 ·rename_i e
  rw[if_pos e]at h
  exact absurd rfl h
 ·rename_i e
  rw[if_neg e]at h
  rw[List.getD_eq_getElem?_getD]at h ⊢
  cases q:s.sheets[b-1]? with
  |none=>rw[q]at h;exact absurd rfl h
  |some l=>exact List.mem_of_getElem? q
theorem valV_head{κ:Type}[DecidableEq κ]{p:κ×V}{r:List (κ×V)}:∃v,valV (p::r) p.1=some v:=⟨p.2,valV_pos rfl⟩
theorem ents_any{T:TX K mg}{L:Hp}{s:State}{kvs:List (List Key×V)}(R:EntsR T L s kvs)(si:SInv s):(s.sheets.any fun l=>!l.isEmpty)=decide (0<kvs.length):=by
 cases kvs with
 |nil=>
  cases h:s.sheets.any fun l=>!l.isEmpty with
  |false=>rfl
  |true=>
   exfalso
   obtain⟨l,hl,hne⟩:=List.any_eq_true.mp h
   obtain⟨b,eb,_,_⟩:=sheet_mem si hl
   cases l with
   |nil=>simp at hne
   |cons e l=>
    obtain⟨x,hx,hn,hb⟩:=si.si b e (by rw[eb];simp)
    obtain⟨e',he⟩:=entryOf_mem (l:=e::l) (e:=e) (by simp)
    have:=R.at_ x hx b hb
    rw[eb,hn,he,valV_nil]at this
    exact this
 |cons p r=>
  have:decide (0<(p::r).length)=true:=by simp
  rw[this]
  obtain⟨v,hv⟩:=valV_head (p:=p) (r:=r)
  obtain⟨x,hx,b,hb,hk⟩:=R.key _ _ hv
  have q:=R.at_ x hx b hb
  rw[←hk,hv]at q
  refine List.any_eq_true.mpr ⟨Vbbraj.sheet s b,?_,?_⟩
  ·refine sheet_big si fun z=>?_
   rw[z]at q
   unfold EntAt at q
   split at q<;>simp_all [Vbbrah.entryOf]
  ·cases z:Vbbraj.sheet s b with
   |nil=>
    rw[z]at q
    unfold EntAt at q
    split at q<;>simp_all [Vbbrah.entryOf]
   |cons=>rfl
inductive J_has_entries(T:TX K mg)(vs:List V)(H:Hp)(Q:VK):Prop
 |mk (A:EvA) (s:State) (c:Nat) (Z:Addr→Bool):vs=[.ref A.p]→EvO T Z H s c A→SInv s→(Q (.bl (s.sheets.any fun l=>!l.isEmpty)) H)→J_has_entries T vs H Q
noncomputable def sp_has_entries(T:TX K mg):Sp:=fun vs H Q _=>J_has_entries T vs H Q
theorem ok_has_entries(T:TX K mg):FnOk P w K mg base CX0 1 T.f_has_entries.f T.f_has_entries.fd ["event"] (sp_has_entries T):=by
 refine okL T.f_has_entries.F sc_has_entries (fun vs H Q E h=>?_) (fun cdv A outer s H vs Q E hr h=>?_)
 rotate_left;intro Xc;rotate_left
 ·obtain⟨A,s,c,Z,rfl,_⟩:=h
  rfl
 ·obtain⟨B,s,c,Z,rfl,ev,si,k⟩:=h
  obtain⟨dx,hp⟩:=ev.hp
  obtain⟨kvs,he,R⟩:=ev.he
  refine⟨_,(pss_one (ps_ret (pe_cmpR op_gt (pe_callB call_lenT (by rfl) T.n_len PySem.boot_len (pa_cons (pe_fld (pv 0) rfl) pa_nil)) pe_int (nomark _)))),?_⟩
  walk_at "v"
  refine⟨_,_,rfl,he,?_⟩
  walk_at "v"
  refine cB k ?_
  rw[ents_any R si]
  simp
inductive J_is_pair(T:TX K mg)(vs:List V)(H:Hp)(Q:VK):Prop
 |mk (A:EvA) (s:State) (c:Nat) (Z:Addr→Bool) (p:Nat):vs=[.ref A.p,iN p]→EvO T Z H s c A→Q (.bl (decide (p≤s.pairs))) H→J_is_pair T vs H Q
noncomputable def sp_is_pair(T:TX K mg):Sp:=fun vs H Q _=>J_is_pair T vs H Q
theorem ok_is_pair(T:TX K mg):FnOk P w K mg base CX0 1 T.f_is_pair.f T.f_is_pair.fd ["event","pair"] (sp_is_pair T):=by
 refine okL T.f_is_pair.F sc_is_pair (fun vs H Q E h=>?_) (fun cdv A outer s H vs Q E hr h=>?_)
 rotate_left;intro Xc;rotate_left
 ·obtain⟨A,s,c,Z,p,rfl,_⟩:=h
  rfl
 ·obtain⟨B,s,c,Z,p,rfl,ev,k⟩:=h
  obtain⟨dx,hp⟩:=ev.hp
  refine⟨_,(pss_one (ps_ret (pe_cmpR op_le (pv 1) (pe_fld (pv 0) rfl) (nomark _)))),?_⟩
  walk_at "v"
  exact cB k (by simp)
inductive J_is_board(T:TX K mg)(vs:List V)(H:Hp)(Q:VK):Prop
 |mk (A:EvA) (s:State) (c:Nat) (Z:Addr→Bool) (b:Nat):vs=[.ref A.p,iN b]→EvO T Z H s c A→Q (.bl (decide (b≤s.boards))) H→J_is_board T vs H Q
noncomputable def sp_is_board(T:TX K mg):Sp:=fun vs H Q _=>J_is_board T vs H Q
theorem ok_is_board(T:TX K mg):FnOk P w K mg base CX0 1 T.f_is_board.f T.f_is_board.fd ["event","board"] (sp_is_board T):=by
 refine okL T.f_is_board.F sc_is_board (fun vs H Q E h=>?_) (fun cdv A outer s H vs Q E hr h=>?_)
 rotate_left;intro Xc;rotate_left
 ·obtain⟨A,s,c,Z,p,rfl,_⟩:=h
  rfl
 ·obtain⟨B,s,c,Z,p,rfl,ev,k⟩:=h
  obtain⟨dx,hp⟩:=ev.hp
  refine⟨_,(pss_one (ps_ret (pe_cmpR op_le (pv 1) (pe_fld (pv 0) rfl) (nomark _)))),?_⟩
  walk_at "v"
  exact cB k (by simp)
end
end
section
open Vbbraj (State Sitting)
open Sti (SInv)
section
variable {P:Program}{w:World}{K:PySem.W.Frag}{mg:Str→Option Value}{base:Heap}
noncomputable def CallO(T:TX K mg)(H:Hp)(a:Addr)(n:Int)(pl rw:List Int):Prop:=∃dx ap ar,H a=some (.ins T.k_Call.C dx [("number",.int n),("plain",.ref ap),("row",.ref ar)])∧H ap=some (.lst (pl.map V.int))∧H ar=some (.lst (rw.map V.int))
inductive J_sits_in(T:TX K mg)(vs:List V)(H:Hp)(Q:VK):Prop
 |mk (a:Addr) (x:Sitting) (p:Nat):vs=[.ref a,iN p]→SitO T H a x→Q (.bl (Vbbraj.sits x p)) H→J_sits_in T vs H Q
noncomputable def sp_sits_in(T:TX K mg):Sp:=fun vs H Q _=>J_sits_in T vs H Q
theorem ok_sits_in(T:TX K mg):FnOk P w K mg base CX0 1 T.f_sits_in.f T.f_sits_in.fd ["sitting","pair"] (sp_sits_in T):=by
 refine okL T.f_sits_in.F sc_sits_in (fun vs H Q E h=>?_) (fun cdv A outer s H vs Q E hr h=>?_)
 rotate_left;intro Xc;rotate_left
 ·obtain⟨a,x,p,rfl,_⟩:=h
  rfl
 ·obtain⟨a,x,p,rfl,⟨dx,sx⟩,k⟩:=h
  refine⟨_,(pss_one (ps_ret (pe_or (pe_cmpR op_eq (pv 1) (pe_fld (pv 0) rfl) (nomark _)) (pe_one (pe_cmpR op_eq (pv 1) (pe_fld (pv 0) rfl) (nomark _)))))),?_⟩
  walk_at "w"
  ·rename_i h
   simp only[decide_eq_true_eq,iN_inj]at h
   exact cB k (by simp[Vbbraj.sits,h])
  ·rename_i h
   simp only[decide_eq_true_eq,iN_inj]at h
   refine cB k ?_
   have h':¬x.ns=p:=fun z=>h z.symm
   have e1:(x.ns==p)=false:=by simpa using h'
   rw[Vbbraj.sits,e1,Bool.false_or,Bool.eq_iff_iff]
   simp only[beq_iff_eq,decide_eq_true_eq,iN_inj]
   exact eq_comm
inductive J_share_a_pair(T:TX K mg)(vs:List V)(H:Hp)(Q:VK):Prop
 |mk (a b:Addr) (x y:Sitting):vs=[.ref a,.ref b]→SitO T H a x→SitO T H b y→Q (.bl (Vbbraj.sits y x.ns||Vbbraj.sits y x.ew)) H→J_share_a_pair T vs H Q
noncomputable def sp_share_a_pair(T:TX K mg):Sp:=fun vs H Q _=>J_share_a_pair T vs H Q
theorem ok_share_a_pair(T:TX K mg):FnOk P w K mg base CX0 2 T.f_share_a_pair.f T.f_share_a_pair.fd ["sitting","other"] (sp_share_a_pair T):=by
 refine okL T.f_share_a_pair.F sc_share_a_pair (fun vs H Q E h=>?_) (fun cdv A outer s H vs Q E hr h=>?_)
 rotate_left;intro Xc;rotate_left
 ·obtain⟨a,b,x,y,rfl,_⟩:=h
  rfl
 ·obtain⟨a,b,x,y,rfl,sx0,sy,k⟩:=h
  obtain⟨dx,sx⟩:=sx0
  refine⟨_,(pss_one (ps_ret (pe_or (pe_call (ok_sits_in T) (hr.mono (by decide)) rfl T.f_sits_in.m T.f_sits_in.F.kp T.f_sits_in.b .nil pass0 (pa_cons (pv 1) (pa_cons (pe_fld (pv 0) rfl) pa_nil))) (pe_one (pe_call (ok_sits_in T) (hr.mono (by decide)) rfl T.f_sits_in.m T.f_sits_in.F.kp T.f_sits_in.b .nil pass0 (pa_cons (pv 1) (pa_cons (pe_fld (pv 0) rfl) pa_nil))))))),?_⟩
  walk_at "w"
  refine⟨b,y,_,rfl,sy,?_⟩
  walk_at "w"
  ·rename_i h
   exact cB k (by rw[h];rfl)
  ·rename_i h
   refine⟨b,y,_,rfl,sy,?_⟩
   exact cB k (by rw[Bool.not_eq_true]at h;rw[h];rfl)
inductive J_share_both_pairs(T:TX K mg)(vs:List V)(H:Hp)(Q:VK):Prop
 |mk (a b:Addr) (x y:Sitting):vs=[.ref a,.ref b]→SitO T H a x→SitO T H b y→Q (.bl (Vbbraj.sits y x.ns&&Vbbraj.sits y x.ew)) H→J_share_both_pairs T vs H Q
noncomputable def sp_share_both_pairs(T:TX K mg):Sp:=fun vs H Q _=>J_share_both_pairs T vs H Q
theorem ok_share_both_pairs(T:TX K mg):FnOk P w K mg base CX0 2 T.f_share_both_pairs.f T.f_share_both_pairs.fd ["sitting","other"] (sp_share_both_pairs T):=by
 refine okL T.f_share_both_pairs.F sc_share_both_pairs (fun vs H Q E h=>?_) (fun cdv A outer s H vs Q E hr h=>?_)
 rotate_left;intro Xc;rotate_left
 ·obtain⟨a,b,x,y,rfl,_⟩:=h
  rfl
 ·obtain⟨a,b,x,y,rfl,sx0,sy,k⟩:=h
  obtain⟨dx,sx⟩:=sx0
  refine⟨_,(pss_one (ps_ret (pe_and (pe_call (ok_sits_in T) (hr.mono (by decide)) rfl T.f_sits_in.m T.f_sits_in.F.kp T.f_sits_in.b .nil pass0 (pa_cons (pv 1) (pa_cons (pe_fld (pv 0) rfl) pa_nil))) (pe_one (pe_call (ok_sits_in T) (hr.mono (by decide)) rfl T.f_sits_in.m T.f_sits_in.F.kp T.f_sits_in.b .nil pass0 (pa_cons (pv 1) (pa_cons (pe_fld (pv 0) rfl) pa_nil))))))),?_⟩
  walk_at "w"
  refine⟨b,y,_,rfl,sy,?_⟩
  walk_at "w"
  ·rename_i h
   refine⟨b,y,_,rfl,sy,?_⟩
   exact cB k (by rw[h];rfl)
  ·rename_i h
   exact cB k (by rw[Bool.not_eq_true]at h;rw[h];rfl)
inductive J_share_a_board(T:TX K mg)(vs:List V)(H:Hp)(Q:VK):Prop
 |mk (a b:Addr) (x y:Sitting):vs=[.ref a,.ref b]→SitO T H a x→SitO T H b y→Q (.bl (Vbbraj.shares y x)) H→J_share_a_board T vs H Q
noncomputable def sp_share_a_board(T:TX K mg):Sp:=fun vs H Q _=>J_share_a_board T vs H Q
theorem ok_share_a_board(T:TX K mg):FnOk P w K mg base CX0 1 T.f_share_a_board.f T.f_share_a_board.fd ["sitting","other"] (sp_share_a_board T):=by
 refine okL T.f_share_a_board.F sc_share_a_board (fun vs H Q E h=>?_) (fun cdv A outer s H vs Q E hr h=>?_)
 rotate_left;intro Xc;rotate_left
 ·obtain⟨a,b,x,y,rfl,_⟩:=h
  rfl
 ·obtain⟨a,b,x,y,rfl,⟨dx,sx⟩,⟨dy,sy⟩,k⟩:=h
  refine⟨_,(pss_one (ps_ret (pe_and (pe_cmpR op_le (pe_fld (pv 0) rfl) (pe_fld (pv 1) rfl) (nomark _)) (pe_one (pe_cmpR op_le (pe_fld (pv 1) rfl) (pe_fld (pv 0) rfl) (nomark _)))))),?_⟩
  walk_at "w"
  ·rename_i h
   simp only[decide_eq_true_eq]at h
   refine cB k ?_
   unfold Vbbraj.shares
   rw[Bool.eq_iff_iff]
   simp
   omega
  ·rename_i h
   simp only[decide_eq_true_eq]at h
   refine cB k ?_
   unfold Vbbraj.shares
   rw[Bool.eq_iff_iff]
   simp
   omega
noncomputable def tkn(x y:Sitting):Bool:=y.round==x.round&&(y.table==x.table||(Vbbraj.sits y x.ns||Vbbraj.sits y x.ew))
inductive J_is_round_taken(T:TX K mg)(vs:List V)(H:Hp)(Q:VK):Prop
 |mk (A:EvA) (s:State) (c:Nat) (Z:Addr→Bool) (a:Addr) (x:Sitting):vs=[.ref A.p,.ref a]→EvO T Z H s c A→SitO T H a x→Q (.bl (s.sittings.any (tkn x))) H→J_is_round_taken T vs H Q
noncomputable def sp_is_round_taken(T:TX K mg):Sp:=fun vs H Q _=>J_is_round_taken T vs H Q
theorem ok_is_round_taken(T:TX K mg):FnOk P w K mg base CX0 3 T.f_is_round_taken.f T.f_is_round_taken.fd ["event","sitting"] (sp_is_round_taken T):=by
 refine okL T.f_is_round_taken.F sc_is_round_taken (fun vs H Q E h=>?_) (fun cdv A outer s H vs Q E hr h=>?_)
 rotate_left;intro Xc;rotate_left
 ·obtain⟨A,s,c,Z,a,x,rfl,_⟩:=h
  rfl
 ·obtain⟨B,s,c,Z,a,x,rfl,ev,sx0,k⟩:=h
  obtain⟨dp,hp⟩:=ev.hp
  obtain⟨as,hs,ps⟩:=ev.hs
  obtain⟨dx,sx⟩:=id sx0
  refine⟨_,(pss_cons (ps_for PassesOwn.never rfl (pi_list (pe_fld (pv 0) rfl)) (pg_name (i:=2) sc_is_round_taken.nd rfl (by walk_at "or")) (pss_one (ps_if (pt_cmpR op_eq (pe_fld (pv 2) rfl) (pe_fld (pv 1) rfl) (nomark _)) (pss_one (ps_if (PW.pt (pw_or (pt_cmpR op_eq (pe_fld (pv 2) rfl) (pe_fld (pv 1) rfl) (nomark _)) (pw_or1 (pt_val (pe_call (ok_share_a_pair T) (hr.mono (by decide)) rfl T.f_share_a_pair.m T.f_share_a_pair.F.kp T.f_share_a_pair.b .nil pass0 (pa_cons (pv 1) (pa_cons (pv 2) pa_nil))))))) (pss_one (ps_ret pe_bl)) pss_nil)) pss_nil))) (pss_one (ps_ret pe_bl))),?_⟩
  walk_at "v"
  refine⟨⟨_,SqL.of hs⟩,for_list (K:=K) (xs:=as.map V.ref) (fun i σ H'=>H'=H∧(∃v,σ=[some (.ref B.p),some (.ref a),v])∧(s.sittings.take i).any (tkn x)=false) ⟨rfl,⟨none,rfl⟩,rfl⟩ (fun i σ H' _ ⟨e,_⟩=>by rw[e];exact SqL.of hs) ?_ ?_⟩
  ·rintro i v σ H' hi ⟨rfl,⟨u,rfl⟩,hf⟩
   obtain⟨b,y,hb,hy,rfl,sy0⟩:=paired_at ps hi
   have sy1:=sy0.mono hid_sub
   obtain⟨dy,sy⟩:=id sy1
   refine Ev.x1 rfl ?_
   walk_at "w"
   ·rename_i h1 h2
    simp only[decide_eq_true_eq,iN_inj]at h1 h2
    exact cB k (any_hit hy (by simp[tkn,h1,h2]))
   ·rename_i h1 h2
    refine⟨a,b,x,y,rfl,sx0,sy1,?_⟩
    simp only[decide_eq_true_eq,iN_inj]at h1 h2
    walk_at "w"
    ·rename_i h3
     exact cB k (any_hit hy (by simp only[tkn,h1,h3];simp))
    ·rename_i h3
     exact⟨⟨_,rfl⟩,any_miss hy hf (by rw[Bool.not_eq_true]at h3;simp only[tkn,h3];simp[h2])⟩
   ·rename_i h1
    simp only[decide_eq_true_eq,iN_inj]at h1
    exact⟨⟨_,rfl⟩,any_miss hy hf (by simp[tkn,h1])⟩
  ·rintro σ H' ⟨rfl,⟨u,rfl⟩,hf⟩
   rw[List.length_map,Paired.length ps,List.take_length]at hf
   exact cB k hf
inductive J_is_board_taken(T:TX K mg)(vs:List V)(H:Hp)(Q:VK):Prop
 |mk (A:EvA) (s:State) (c:Nat) (Z:Addr→Bool) (a:Addr) (x:Sitting):vs=[.ref A.p,.ref a]→EvO T Z H s c A→SitO T H a x→(Q (.bl (s.sittings.any fun y=>(Vbbraj.sits y x.ns||Vbbraj.sits y x.ew)&&Vbbraj.shares y x)) H)→J_is_board_taken T vs H Q
noncomputable def sp_is_board_taken(T:TX K mg):Sp:=fun vs H Q _=>J_is_board_taken T vs H Q
theorem ok_is_board_taken(T:TX K mg):FnOk P w K mg base CX0 3 T.f_is_board_taken.f T.f_is_board_taken.fd ["event","sitting"] (sp_is_board_taken T):=by
 refine okL T.f_is_board_taken.F sc_is_board_taken (fun vs H Q E h=>?_) (fun cdv A outer s H vs Q E hr h=>?_)
 rotate_left;intro Xc;rotate_left
 ·obtain⟨A,s,c,Z,a,x,rfl,_⟩:=h
  rfl
 ·obtain⟨B,s,c,Z,a,x,rfl,ev,sx0,k⟩:=h
  obtain⟨dp,hp⟩:=ev.hp
  obtain⟨as,hs,ps⟩:=ev.hs
  refine⟨_,(pss_cons (ps_for PassesOwn.never rfl (pi_list (pe_fld (pv 0) rfl)) (pg_name (i:=2) sc_is_board_taken.nd rfl (by walk_at "or")) (pss_one (ps_if (PW.pt (pw_and (pt_val (pe_call (ok_share_a_pair T) (hr.mono (by decide)) rfl T.f_share_a_pair.m T.f_share_a_pair.F.kp T.f_share_a_pair.b .nil pass0 (pa_cons (pv 1) (pa_cons (pv 2) pa_nil)))) (pw_and1 (pt_val (pe_call (ok_share_a_board T) (hr.mono (by decide)) rfl T.f_share_a_board.m T.f_share_a_board.F.kp T.f_share_a_board.b .nil pass0 (pa_cons (pv 1) (pa_cons (pv 2) pa_nil))))))) (pss_one (ps_ret pe_bl)) pss_nil))) (pss_one (ps_ret pe_bl))),?_⟩
  walk_at "v"
  refine⟨⟨_,SqL.of hs⟩,for_list (K:=K) (xs:=as.map V.ref) (fun i σ H'=>H'=H∧(∃v,σ=[some (.ref B.p),some (.ref a),v])∧(s.sittings.take i).any (fun y=>(Vbbraj.sits y x.ns||Vbbraj.sits y x.ew)&&Vbbraj.shares y x)=false) ⟨rfl,⟨none,rfl⟩,rfl⟩ (fun i σ H' _ ⟨e,_⟩=>by rw[e];exact SqL.of hs) ?_ ?_⟩
  ·rintro i v σ H' hi ⟨rfl,⟨u,rfl⟩,hf⟩
   obtain⟨b,y,hb,hy,rfl,sy0⟩:=paired_at ps hi
   have sy1:=sy0.mono hid_sub
   refine Ev.x1 rfl ?_
   walk_at "w"
   refine⟨a,b,x,y,rfl,sx0,sy1,?_⟩
   walk_at "w"
   ·rename_i h1
    refine⟨a,b,x,y,rfl,sx0,sy1,?_⟩
    walk_at "w"
    ·rename_i h2
     exact cB k (any_hit hy (by rw[h1,h2];rfl))
    ·rename_i h2
     exact⟨⟨_,rfl⟩,any_miss hy hf (by rw[Bool.not_eq_true]at h2;rw[h2];simp)⟩
   ·rename_i h1
    exact⟨⟨_,rfl⟩,any_miss hy hf (by rw[Bool.not_eq_true]at h1;rw[h1];rfl)⟩
  ·rintro σ H' ⟨rfl,⟨u,rfl⟩,hf⟩
   rw[List.length_map,Paired.length ps,List.take_length]at hf
   exact cB k hf
theorem met_any{s:State}{p q:Nat}(h:p≠q):(Vbbraj.met s p q).isSome=s.sittings.any fun y=>Vbbraj.sits y p&&Vbbraj.sits y q:=by
 unfold Vbbraj.met
 rw[Bool.eq_iff_iff,List.find?_isSome]
 simp only[List.any_eq_true]
 constructor
 ·rintro⟨y,hy,e⟩
  refine⟨y,hy,?_⟩
  simp only[Bool.or_eq_true,Bool.and_eq_true,beq_iff_eq,Vbbraj.sits]at e ⊢
  omega
 ·rintro⟨y,hy,e⟩
  refine⟨y,hy,?_⟩
  simp only[Bool.or_eq_true,Bool.and_eq_true,beq_iff_eq,Vbbraj.sits]at e ⊢
  omega
inductive J_have_met(T:TX K mg)(vs:List V)(H:Hp)(Q:VK):Prop
 |mk (A:EvA) (s:State) (c:Nat) (Z:Addr→Bool) (a:Addr) (x:Sitting):vs=[.ref A.p,.ref a]→EvO T Z H s c A→SitO T H a x→x.ns≠x.ew→Q (.bl (Vbbraj.met s x.ns x.ew).isSome) H→J_have_met T vs H Q
noncomputable def sp_have_met(T:TX K mg):Sp:=fun vs H Q _=>J_have_met T vs H Q
theorem ok_have_met(T:TX K mg):FnOk P w K mg base CX0 3 T.f_have_met.f T.f_have_met.fd ["event","sitting"] (sp_have_met T):=by
 refine okL T.f_have_met.F sc_have_met (fun vs H Q E h=>?_) (fun cdv A outer s H vs Q E hr h=>?_)
 rotate_left;intro Xc;rotate_left
 ·obtain⟨A,s,c,Z,a,x,rfl,_⟩:=h
  rfl
 ·obtain⟨B,s,c,Z,a,x,rfl,ev,sx0,hne,k⟩:=h
  obtain⟨dp,hp⟩:=ev.hp
  obtain⟨as,hs,ps⟩:=ev.hs
  rw[met_any hne]at k
  refine⟨_,(pss_cons (ps_for PassesOwn.never rfl (pi_list (pe_fld (pv 0) rfl)) (pg_name (i:=2) sc_have_met.nd rfl (by walk_at "or")) (pss_one (ps_if (pt_val (pe_call (ok_share_both_pairs T) (hr.mono (by decide)) rfl T.f_share_both_pairs.m T.f_share_both_pairs.F.kp T.f_share_both_pairs.b .nil pass0 (pa_cons (pv 1) (pa_cons (pv 2) pa_nil)))) (pss_one (ps_ret pe_bl)) pss_nil))) (pss_one (ps_ret pe_bl))),?_⟩
  walk_at "v"
  refine⟨⟨_,SqL.of hs⟩,for_list (K:=K) (xs:=as.map V.ref) (fun i σ H'=>H'=H∧(∃v,σ=[some (.ref B.p),some (.ref a),v])∧(s.sittings.take i).any (fun y=>Vbbraj.sits y x.ns&&Vbbraj.sits y x.ew)=false) ⟨rfl,⟨none,rfl⟩,rfl⟩ (fun i σ H' _ ⟨e,_⟩=>by rw[e];exact SqL.of hs) ?_ ?_⟩
  ·rintro i v σ H' hi ⟨rfl,⟨u,rfl⟩,hf⟩
   obtain⟨b,y,hb,hy,rfl,sy0⟩:=paired_at ps hi
   have sy1:=sy0.mono hid_sub
   refine Ev.x1 rfl ?_
   walk_at "w"
   refine⟨a,b,x,y,rfl,sx0,sy1,?_⟩
   walk_at "w"
   ·rename_i h1
    exact cB k (any_hit hy h1)
   ·rename_i h1
    exact⟨⟨_,rfl⟩,any_miss hy hf (by rw[Bool.not_eq_true]at h1;exact h1)⟩
  ·rintro σ H' ⟨rfl,⟨u,rfl⟩,hf⟩
   rw[List.length_map,Paired.length ps,List.take_length]at hf
   exact cB k hf
inductive J_are_two_pairs(T:TX K mg)(vs:List V)(H:Hp)(Q:VK):Prop
 |mk (A:EvA) (s:State) (c:Nat) (Z:Addr→Bool) (a:Addr) (x:Sitting):vs=[.ref A.p,.ref a]→EvO T Z H s c A→SitO T H a x→(Q (.bl (!decide (x.ns=x.ew∨s.pairs<x.ns∨s.pairs<x.ew))) H)→J_are_two_pairs T vs H Q
noncomputable def sp_are_two_pairs(T:TX K mg):Sp:=fun vs H Q _=>J_are_two_pairs T vs H Q
theorem ok_are_two_pairs(T:TX K mg):FnOk P w K mg base CX0 2 T.f_are_two_pairs.f T.f_are_two_pairs.fd ["event","sitting"] (sp_are_two_pairs T):=by
 refine okL T.f_are_two_pairs.F sc_are_two_pairs (fun vs H Q E h=>?_) (fun cdv A outer s H vs Q E hr h=>?_)
 rotate_left;intro Xc;rotate_left
 ·obtain⟨A,s,c,Z,a,x,rfl,_⟩:=h
  rfl
 ·obtain⟨B,s,c,Z,a,x,rfl,ev,⟨dx,sx⟩,k⟩:=h
  refine⟨_,(pss_one (ps_ret (pe_and (pe_cmpR op_ne (pe_fld (pv 1) rfl) (pe_fld (pv 1) rfl) (nomark _)) (pe_and (pe_call (ok_is_pair T) (hr.mono (by decide)) rfl T.f_is_pair.m T.f_is_pair.F.kp T.f_is_pair.b .nil pass0 (pa_cons (pv 0) (pa_cons (pe_fld (pv 1) rfl) pa_nil))) (pe_one (pe_call (ok_is_pair T) (hr.mono (by decide)) rfl T.f_is_pair.m T.f_is_pair.F.kp T.f_is_pair.b .nil pass0 (pa_cons (pv 0) (pa_cons (pe_fld (pv 1) rfl) pa_nil)))))))),?_⟩
  walk_at "w"
  ·rename_i h1
   refine⟨B,s,c,Z,_,rfl,ev,?_⟩
   walk_at "w"
   ·rename_i h2
    refine⟨B,s,c,Z,_,rfl,ev,?_⟩
    refine cB k ?_
    simp[iN_inj]at h1 h2
    rw[Bool.eq_iff_iff]
    simp
    omega
   ·rename_i h2
    refine cB k ?_
    simp[iN_inj]at h1 h2
    simp
    omega
  ·rename_i h1
   refine cB k ?_
   simp[iN_inj]at h1
   simp
   omega
inductive J_sit_refusal(T:TX K mg)(vs:List V)(H:Hp)(Q:VK):Prop
 |mk (A:EvA) (s:State) (c:Nat) (Z:Addr→Bool) (a:Addr) (x:Sitting):vs=[.ref A.p,.ref a]→EvO T Z H s c A→SInv s→SitO T H a x→1≤x.count→Q (.int (Vbbraj.sitWrong s x)) H→J_sit_refusal T vs H Q
noncomputable def sp_sit_refusal(T:TX K mg):Sp:=fun vs H Q _=>J_sit_refusal T vs H Q
theorem ok_sit_refusal(T:TX K mg):FnOk P w K mg base CX0 4 T.f_sit_refusal.f T.f_sit_refusal.fd ["event","sitting"] (sp_sit_refusal T):=by
 refine okL T.f_sit_refusal.F sc_sit_refusal (fun vs H Q E h=>?_) (fun cdv A outer s H vs Q E hr h=>?_)
 rotate_left;intro Xc;rotate_left
 ·obtain⟨A,s,c,Z,a,x,rfl,_⟩:=h
  rfl
 ·obtain⟨B,s,c,Z,a,x,rfl,ev,si,sx0,hc,k⟩:=h
  obtain⟨dx,sx⟩:=id sx0
  obtain⟨dp,hp⟩:=ev.hp
  obtain⟨as,hs,ps⟩:=ev.hs
  unfold Vbbraj.sitWrong at k
  refine⟨_,(pss_cons (ps_if (pt_val (pe_call (ok_has_entries T) (hr.mono (by decide)) rfl T.f_has_entries.m T.f_has_entries.F.kp T.f_has_entries.b .nil pass0 (pa_cons (pv 0) pa_nil))) (pss_one (ps_ret (pe_g rfl T.c_HAS_ENTRIES))) pss_nil) (pss_cons (ps_if (pt_not (pt_val (pe_call (ok_are_two_pairs T) (hr.mono (by decide)) rfl T.f_are_two_pairs.m T.f_are_two_pairs.F.kp T.f_are_two_pairs.b .nil pass0 (pa_cons (pv 0) (pa_cons (pv 1) pa_nil))))) (pss_one (ps_ret (pe_g rfl T.c_NO_SUCH_PAIR))) pss_nil) (pss_cons (ps_if (pt_cmpR op_gt (pe_fld (pv 1) rfl) (pe_fld (pv 0) rfl) (nomark _)) (pss_one (ps_ret (pe_g rfl T.c_NO_SUCH_BOARD))) pss_nil) (pss_cons (ps_if (pt_val (pe_call (ok_is_round_taken T) (hr.mono (by decide)) rfl T.f_is_round_taken.m T.f_is_round_taken.F.kp T.f_is_round_taken.b .nil pass0 (pa_cons (pv 0) (pa_cons (pv 1) pa_nil)))) (pss_one (ps_ret (pe_g rfl T.c_ROUND_TAKEN))) pss_nil) (pss_cons (ps_if (pt_val (pe_call (ok_is_board_taken T) (hr.mono (by decide)) rfl T.f_is_board_taken.m T.f_is_board_taken.F.kp T.f_is_board_taken.b .nil pass0 (pa_cons (pv 0) (pa_cons (pv 1) pa_nil)))) (pss_one (ps_ret (pe_g rfl T.c_BOARD_TAKEN))) pss_nil) (pss_cons (ps_if (pt_val (pe_call (ok_have_met T) (hr.mono (by decide)) rfl T.f_have_met.m T.f_have_met.F.kp T.f_have_met.b .nil pass0 (pa_cons (pv 0) (pa_cons (pv 1) pa_nil)))) (pss_one (ps_ret (pe_g rfl T.c_HAVE_MET))) pss_nil) (pss_cons (ps_if (pt_cmpR op_ge (pe_callB call_len_seq (by rfl) T.n_len PySem.boot_len (pa_cons (pe_fld (pv 0) rfl) pa_nil)) (pe_g rfl T.c_MOST_SITTINGS) (nomark _)) (pss_one (ps_ret (pe_g rfl T.c_FULL))) pss_nil) (pss_one (ps_ret pe_int))))))))),?_⟩
  walk_at "w"
  refine⟨B,s,c,Z,rfl,ev,si,?_⟩
  walk_at "w"
  ·rename_i h1
   rw[if_pos h1]at k
   exact k
  ·rename_i h1
   rw[if_neg h1]at k
   refine⟨B,s,c,Z,a,x,rfl,ev,sx0,?_⟩
   walk_at "w"
   ·rename_i h2
    simp only[Bool.not_not,decide_eq_true_eq]at h2
    rw[if_pos h2]at k
    exact k
   ·rename_i h2 h3
    simp only[Bool.not_not,decide_eq_true_eq]at h2
    rw[if_neg h2]at k
    simp only[decide_eq_true_eq]at h3
    rw[if_pos (by omega)]at k
    exact k
   ·rename_i h2 h3
    simp only[Bool.not_not,decide_eq_true_eq]at h2
    rw[if_neg h2]at k
    simp only[decide_eq_true_eq]at h3
    rw[if_neg (by omega)]at k
    refine⟨B,s,c,Z,a,x,rfl,ev,sx0,?_⟩
    walk_at "w"
    ·rename_i h4
     have h4:(s.sittings.any fun y=>y.round==x.round&&(y.table==x.table||(Vbbraj.sits y x.ns||Vbbraj.sits y x.ew)))=true:=h4
     rw[if_pos h4]at k
     exact k
    ·rename_i h4
     have h4:¬(s.sittings.any fun y=>y.round==x.round&&(y.table==x.table||(Vbbraj.sits y x.ns||Vbbraj.sits y x.ew)))=true:=h4
     rw[if_neg h4]at k
     refine⟨B,s,c,Z,a,x,rfl,ev,sx0,?_⟩
     walk_at "w"
     ·rename_i h5
      rw[if_pos h5]at k
      exact k
     ·rename_i h5
      rw[if_neg h5]at k
      refine⟨B,s,c,Z,a,x,rfl,ev,sx0,fun z=>h2 (.inl z),?_⟩
      walk_at "w"
      ·rename_i h6
       rw[if_pos h6]at k
       exact k
      ·rename_i h6
       rw[if_neg h6]at k
       refine⟨_,_,rfl,.inl (SqL.of hs),?_⟩
       have hl:=Paired.length ps
       walk_at "w"
       ·rename_i h7
        simp only[decide_eq_true_eq,List.length_map]at h7
        rw[if_pos (by show 400≤_;omega)]at k
        exact k
       ·rename_i h7
        simp only[decide_eq_true_eq,List.length_map]at h7
        rw[if_neg (by show ¬400≤_;omega)]at k
        exact k
end
end
section
open Vbbraj (State Sitting)
open Sti (SInv)
section
variable {P:Program}{w:World}{K:PySem.W.Frag}{mg:Str→Option Value}{base:Heap}
noncomputable def mkI(H:Hp)(x dx:Addr)(o:HO):Hp:=upd (upd H dx (.own x)) x o
theorem mkI_eq{H:Hp}{x dx:Addr}{o o':HO}:upd (upd (upd H dx (.own x)) x o) x o'=mkI H x dx o':=upd_upd
theorem mkI_at{H:Hp}{x dx:Addr}{o:HO}:mkI H x dx o x=some o:=upd_same
theorem mkI_same{H:Hp}{x dx:Addr}{o:HO}(nx:H x=none)(nd:H dx=none):Same H (mkI H x dx o):=fun b u e=>by
 unfold mkI
 rw[upd_ne (ne_of_none e nx),upd_ne (ne_of_none e nd)]
 exact e
noncomputable def Post(T:TX K mg)(Z:Addr→Bool)(H:Hp)(A:EvA)(s':State)(c':Nat)(ans:List Int)(Q:VK):Prop:=
 ∀(H':Hp) (A':EvA) (q:Addr),A'.p=A.p→EvO T Z H' s' c' A'→(∀b,Z b=true→H' b=H b)→H' q=some (.lst (ans.map V.int))→Q (.ref q) H'
theorem EvO.noEnts{T:TX K mg}{Z:Addr→Bool}{H:Hp}{s:State}{c:Nat}{A:EvA}(E:EvO T Z H s c A)(si:SInv s)(hn:¬(s.sheets.any fun l=>!l.isEmpty)=true):H A.ents=some (.dT []):=by
 obtain⟨kvs,e,R⟩:=E.he
 have:=ents_any R si
 rw[Bool.not_eq_true]at hn
 rw[hn]at this
 have h0:¬0<kvs.length:=of_decide_eq_false this.symm
 cases kvs with
 |nil=>exact e
 |cons=>exact absurd (by simp) h0
theorem SheetO.empty{T:TX K mg}{L:Hp}{s s':State}{b:Nat}{a:Addr}(h:SheetO T L s b a)(e:Vbbraj.sheet s b=[])(e':Vbbraj.sheet s' b=[]):SheetO T L s' b a:=by
 obtain⟨dx,al,ab,ls,h1,h2,h3,h4⟩:=h
 rw[e]at h1 h3 h4
 refine⟨dx,al,ab,ls,by rw[e'];exact h1,h2,?_,?_⟩
 ·rw[e']
  cases h3
  exact .nil
 ·rw[e']
  exact h4
theorem EvO.resit{T:TX K mg}{Z:Addr→Bool}{H H':Hp}{s:State}{c:Nat}{A A':EvA}(E:EvO T Z H s c A)(si:SInv s)(hn:¬(s.sheets.any fun l=>!l.isEmpty)=true){l:List Sitting}{as:List Addr}
  (nd:A'.own.Nodup) (zo:∀b∈A'.own,Z b=false) (zt:∀b,Z b=true→H' b≠none) (hp:∃dx,H' A'.p=some (.ins T.k_Event.C dx (fsEv s c A'))) (hs:H' A'.sits=some (.lst (as.map V.ref)))
  (sm:Same (hid A Z H) (hid A' Z H')) (ps:Paired (SitO T (hid A' Z H')) as l)
  (k1:A'.ents=A.ents∧H' A.ents=H A.ents) (k2:A'.shts=A.shts∧H' A.shts=H A.shts) (k3:A'.adjs=A.adjs∧H' A.adjs=H A.adjs) (k4:A'.apps=A.apps∧H' A.apps=H A.apps) (k5:A'.post=A.post∧H' A.post=H A.post):
  EvO T Z H' { s with sittings:=l } c A':=by
 refine⟨nd,zo,zt,hp,⟨as,hs,ps⟩,⟨[],by rw[k1.1,k1.2];exact E.noEnts si hn,?_⟩,?_,?_,?_,?_⟩
 ·refine⟨fun x _ b _=>?_,fun q v e=>by(cases e),fun q q' a e=>by(cases e),Nat.zero_le _⟩
  have:Vbbraj.sheet { s with sittings:=l } b=[]:=Sti.sheet_any hn b
  rw[this]
  trivial
 ·obtain⟨kvs,e,R⟩:=E.hh
  refine⟨kvs,by rw[k2.1,k2.2];exact e,fun b h1 h2=>?_,R.key,R.nd⟩
  have q:=R.at_ b h1 h2
  have e1:Vbbraj.sheet s b=[]:=Sti.sheet_any hn b
  split
  ·exact e1
  ·rename_i v hv
   rw[hv]at q
   obtain⟨a,ea,sh⟩:=q
   exact⟨a,ea,(sh.empty e1 (s':={ s with sittings:=l }) e1).mono sm⟩
 ·obtain⟨kvs,e,R⟩:=E.ha
  exact⟨kvs,by rw[k3.1,k3.2];exact e,R.at_,R.len⟩
 ·obtain⟨qs,e,R⟩:=E.hq
  exact⟨qs,by rw[k4.1,k4.2];exact e,Paired.mapP R fun _ _ z=>sm _ _ z⟩
 ·obtain⟨qs,e,R⟩:=E.ho
  exact⟨qs,by rw[k5.1,k5.2];exact e,Paired.mapP R fun _ _ z=>sm _ _ z⟩
theorem EvA.ne{A:EvA}(h:A.own.Nodup):A.p≠A.sits∧A.p≠A.ents∧A.p≠A.shts∧A.p≠A.adjs∧A.p≠A.apps∧A.p≠A.post∧A.sits≠A.ents∧A.sits≠A.shts∧A.sits≠A.adjs∧A.sits≠A.apps∧A.sits≠A.post∧
  A.ents≠A.shts∧A.ents≠A.adjs∧A.ents≠A.apps∧A.ents≠A.post∧A.shts≠A.adjs∧A.shts≠A.apps∧A.shts≠A.post∧A.adjs≠A.apps∧A.adjs≠A.post∧A.apps≠A.post:=by
 simp only[EvA.own,List.nodup_cons,List.mem_cons,List.not_mem_nil,or_false,not_or,not_false_eq_true,and_true]at h
 obtain⟨⟨q1,q2,q3,q4,q5,q6⟩,⟨q7,q8,q9,q10,q11⟩,⟨q12,q13,q14,q15⟩,⟨q16,q17,q18⟩,⟨q19,q20⟩,q21,_⟩:=h
 exact⟨q1,q2,q3,q4,q5,q6,q7,q8,q9,q10,q11,q12,q13,q14,q15,q16,q17,q18,q19,q20,q21⟩
theorem EvO.zne{T:TX K mg}{Z:Addr→Bool}{H:Hp}{s:State}{c:Nat}{A:EvA}(E:EvO T Z H s c A){a b:Addr}(ha:a∈A.own)(hb:Z b=true):b≠a:=fun z=>by
 rw[z,E.zo a ha]at hb
 cases hb
theorem paired_append{α β:Type}{G:α→β→Prop}:∀{l l':List α} {m m':List β},Paired G l m→Paired G l' m'→Paired G (l++l') (m++m')
 |_,_,_,_,.nil,q=>q
 |_,_,_,_,.cons r t,q=>.cons r (paired_append t q)
noncomputable def sitOf(r t n e f k:Nat):Sitting:={ round:=r,table:=t,ns:=n,ew:=e,first:=f,count:=k }
inductive J_sit(T:TX K mg)(vs:List V)(H:Hp)(Q:VK):Prop
 |mk (A:EvA) (s:State) (c:Nat) (Z:Addr→Bool) (a:Addr) (r t n e f k:Nat):vs=[.ref A.p,.ref a]→EvO T Z H s c A→SInv s→CallO T H a 1 [(r:Int),(t:Int),(n:Int),(e:Int),(f:Int),(k:Int)] []→1≤k→Post T Z H A (Vbbraj.act s (.sit r t n e f k)).1 c (Vbbraj.act s (.sit r t n e f k)).2 Q→J_sit T vs H Q
noncomputable def sp_sit(T:TX K mg):Sp:=fun vs H Q _=>J_sit T vs H Q
theorem ok_sit(T:TX K mg):FnOk P w K mg base CX0 5 T.f_sit.f T.f_sit.fd ["event","call"] (sp_sit T):=by
 refine okL T.f_sit.F sc_sit (fun vs H Q E h=>?_) (fun cdv A outer s H vs Q E hr h=>?_)
 rotate_left;intro Xc;rotate_left
 ·obtain⟨A,s,c,Z,a,r,t,n,e,f,k,rfl,_⟩:=h
  rfl
 ·obtain⟨B,s,c,Z,a,r,t,n,e,f,k,rfl,ev,si,⟨dc,ap,ar,hc,hpl,hrw⟩,hk,post⟩:=h
  have sq:SqL K H ap [iN r,iN t,iN n,iN e,iN f,iN k]:=SqL.of hpl
  refine⟨_,(pss_cons (ps_set (i:=2) sc_sit.nd rfl (by walk_at "or") (pe_ix ix_list (pe_fld (pv 1) rfl) pe_int (fun _ _=>rfl))) (pss_cons (ps_set (i:=3) sc_sit.nd rfl (by walk_at "or") (pe_op op_sub (pe_op op_add (pv 2) (pe_ix ix_list (pe_fld (pv 1) rfl) pe_int (fun _ _=>rfl))) pe_int)) (pss_cons (ps_set (i:=4) sc_sit.nd rfl (by walk_at "or") (pe_make T.k_Sitting.mkk (ok_Sitting_init T) (hr.mono (by decide)) rfl T.k_Sitting.m T.k_Sitting.b .nil pass0 (pa_cons (pe_ix ix_list (pe_fld (pv 1) rfl) pe_int (fun _ _=>rfl)) (pa_cons (pe_ix ix_list (pe_fld (pv 1) rfl) pe_int (fun _ _=>rfl)) (pa_cons (pe_ix ix_list (pe_fld (pv 1) rfl) pe_int (fun _ _=>rfl)) (pa_cons (pe_ix ix_list (pe_fld (pv 1) rfl) pe_int (fun _ _=>rfl)) (pa_cons (pv 2) (pa_cons (pv 3) pa_nil)))))))) (pss_cons (ps_set (i:=5) sc_sit.nd rfl (by walk_at "or") (pe_call (ok_sit_refusal T) (hr.mono (by decide)) rfl T.f_sit_refusal.m T.f_sit_refusal.F.kp T.f_sit_refusal.b .nil pass0 (pa_cons (pv 0) (pa_cons (pv 4) pa_nil)))) (pss_cons (ps_if (pt_cmpR op_eq (pv 5) pe_int (nomark _)) (pss_one (ps_expr (pe_bm PySem.F.plainAttrs_list PySem.F.slot_list_append PySem.F.type_list_append mt_append (pe_fld (pv 0) rfl) (pa_cons (pv 4) pa_nil)))) pss_nil) (pss_one (ps_ret (pe_lst (pa_cons (pv 5) pa_nil))))))))),?_⟩
  walk_at "v"
  intro x dx nx nd ne
  refine⟨x,dx,_,_,_,_,_,_,rfl,upd_same,rfl,?_⟩
  rw[mkI_eq]
  generalize hH:mkI H x dx _=H1
  have sm:Same H H1:=by rw[←hH];exact mkI_same nx nd
  have ev1:=ev.grow sm
  have hx:SitO T H1 x (sitOf r t n e f k):=⟨dx,by rw[←hH];exact mkI_at⟩
  clear hH
  have zk:∀b,Z b=true→H1 b=H b:=fun b hb=>by
   cases e:H b with
   |none=>exact absurd e (ev.zt b hb)
   |some o=>exact sm b o e
  have frx:=ev.fresh nx
  refine⟨_,rfl,_,rfl,?_⟩
  refine⟨B,s,c,Z,x,sitOf r t n e f k,rfl,ev1,si,hx,hk,?_⟩
  have hact:Vbbraj.act s (.sit r t n e f k)=if Vbbraj.sitWrong s (sitOf r t n e f k)≠0 then(s,[Vbbraj.sitWrong s (sitOf r t n e f k)])else({ s with sittings:=s.sittings++[sitOf r t n e f k] },[0]):=by
   simp only[Vbbraj.act,Int.toNat_natCast,sitOf]
   rfl
  rw[hact]at post
  walk_at "v"
  refine ite2 (fun h0=>?_) (fun h0=>?_)
  ·simp only[decide_eq_true_eq,V.int.injEq]at h0
   rw[if_neg (by simpa using h0)]at post
   obtain⟨dp,hp⟩:=ev1.hp
   obtain⟨as,hs,ps⟩:=ev1.hs
   have zz:=Sti.sit_zero h0
   have hl:s.sittings.length<400:=by
    have:=Paired.length ps
    unfold Vbbraj.sitWrong at h0
    repeat' split at h0
    all_goals first|(simp at h0;done)|skip
    rename_i q
    exact Nat.lt_of_not_le q
   have hlen:=Paired.length ps
   walk_at "v"
   refine⟨.inl ⟨rfl,_,SqL.of hs⟩,_,rfl,B.sits,_,_,rfl,rfl,hs,?_,?_⟩
   ·rw[List.length_map]
    exact small1000 (by omega)
   ·have n1:=EvA.ne ev1.nd
    have mem:B.sits∈B.own:=by simp[EvA.own]
    have he:¬(s.sheets.any fun l=>!l.isEmpty)=true:=fun z=>by
     unfold Vbbraj.sitWrong at h0
     rw[if_pos z]at h0
     simp at h0
    have hh:=hid_own (A:=B) (Z:=Z) (H:=H1) (o:=.lst (as.map V.ref++[V.ref x])) mem
    have ev2:EvO T Z (upd H1 B.sits (.lst (as.map V.ref++[V.ref x]))) { s with sittings:=s.sittings++[sitOf r t n e f k] } c B:=by
     refine ev1.resit si he (as:=as++[x]) ev1.nd ev1.zo (fun b hb=>?_) ⟨dp,by rw[upd_ne n1.1];exact hp⟩ (by rw[upd_same,List.map_append];rfl) (by rw[hh];exact Same.refl _) ?_
      ⟨rfl,upd_ne n1.2.2.2.2.2.2.1.symm⟩ ⟨rfl,upd_ne n1.2.2.2.2.2.2.2.1.symm⟩ ⟨rfl,upd_ne n1.2.2.2.2.2.2.2.2.1.symm⟩ ⟨rfl,upd_ne n1.2.2.2.2.2.2.2.2.2.1.symm⟩ ⟨rfl,upd_ne n1.2.2.2.2.2.2.2.2.2.2.1.symm⟩
     ·rw[upd_ne (ev1.zne mem hb)]
      exact ev1.zt b hb
     ·rw[hh]
      obtain⟨dx',hx'⟩:=hx
      exact paired_append ps (.cons ⟨dx',hid_at frx.1 frx.2 hx'⟩ .nil)
    refine⟨_,rfl,nle0 rfl,fun q nq=>?_⟩
    refine post _ B q rfl (ev2.grow (same_new nq)) (fun b hb=>?_) ?_
    ·rw[upd_ne (fun z=>?_),upd_ne (ev1.zne mem hb),zk b hb]
     rw[z]at hb
     exact ev2.zt q hb nq
    ·rw[upd_same,h0]
     rfl
  ·simp only[decide_eq_true_eq,V.int.injEq]at h0
   rw[if_pos h0]at post
   refine⟨_,rfl,nle0 rfl,fun q nq=>?_⟩
   refine post _ B q rfl (ev1.grow (same_new nq)) (fun b hb=>?_) (by rw[upd_same];rfl)
   rw[upd_ne (fun z=>?_),zk b hb]
   rw[z]at hb
   exact ev1.zt q hb nq
end
end
section
open Vbbraj (State Sitting)
open Sti (SInv)
section
variable {P:Program}{w:World}{K:PySem.W.Frag}{mg:Str→Option Value}{base:Heap}
theorem Post.same{T:TX K mg}{Z:Addr→Bool}{H H1:Hp}{A:EvA}{s:State}{c:Nat}{ans:List Int}{Q:VK}(p:Post T Z H A s c ans Q)(E:EvO T Z H s c A)(sm:Same H H1){q:Addr}(nq:H1 q=none):Q (.ref q) (upd H1 q (.lst (ans.map V.int))):=by
 have sm2:Same H (upd H1 q (.lst (ans.map V.int))):=sm.trans (same_new nq)
 refine p _ A q rfl (E.grow sm2) (fun b hb=>?_) upd_same
 cases e:H b with
 |none=>exact absurd e (E.zt b hb)
 |some o=>exact sm2 b o e
inductive J_unsit(T:TX K mg)(vs:List V)(H:Hp)(Q:VK):Prop
 |mk (A:EvA) (s:State) (c:Nat) (Z:Addr→Bool) (a:Addr) (r t:Nat):vs=[.ref A.p,.ref a]→EvO T Z H s c A→SInv s→CallO T H a 2 [(r:Int),(t:Int)] []→s.sittings.length≤1000→Post T Z H A (Vbbraj.act s (.unsit r t)).1 c (Vbbraj.act s (.unsit r t)).2 Q→J_unsit T vs H Q
noncomputable def sp_unsit(T:TX K mg):Sp:=fun vs H Q _=>J_unsit T vs H Q
theorem ok_unsit(T:TX K mg):FnOk P w K mg base CX0 2 T.f_unsit.f T.f_unsit.fd ["event","call"] (sp_unsit T):=by
 refine okL T.f_unsit.F sc_unsit (fun vs H Q E h=>?_) (fun cdv A outer s H vs Q E hr h=>?_)
 rotate_left;intro Xc;rotate_left
 ·obtain⟨A,s,c,Z,a,r,t,rfl,_⟩:=h
  rfl
 ·obtain⟨B,s,c,Z,a,r,t,rfl,ev,si,⟨dc,ap,ar,hc,hpl,hrw⟩,hlen,post⟩:=h
  have sq:SqL K H ap [iN r,iN t]:=SqL.of hpl
  obtain⟨dp,hp⟩:=ev.hp
  obtain⟨as,hs,ps⟩:=ev.hs
  have hact:Vbbraj.act s (.unsit r t)=if(s.sheets.any fun l=>!l.isEmpty)=true then(s,[-4])else match Vbbraj.sittingOf s r t with
   |none=>(s,[-11])
   |some _=>({ s with sittings:=s.sittings.filter fun y=>!(y.round==r&&y.table==t) },[0]):=by
   simp only[Vbbraj.act,Int.toNat_natCast]
   rfl
  rw[hact]at post
  refine⟨_,(pss_cons (ps_if (pt_val (pe_call (ok_has_entries T) (hr.mono (by decide)) rfl T.f_has_entries.m T.f_has_entries.F.kp T.f_has_entries.b .nil pass0 (pa_cons (pv 0) pa_nil))) (pss_one (ps_ret (pe_lst (pa_cons (pe_g rfl T.c_HAS_ENTRIES) pa_nil)))) pss_nil) (pss_cons (ps_set (i:=2) sc_unsit.nd rfl (by walk_at "or") (pe_ix ix_list (pe_fld (pv 1) rfl) pe_int (fun _ _=>rfl))) (pss_cons (ps_set (i:=3) sc_unsit.nd rfl (by walk_at "or") (pe_ix ix_list (pe_fld (pv 1) rfl) pe_int (fun _ _=>rfl))) (pss_cons (ps_if (pt_cmp (pc_isN (pe_call (ok_sitting_at T) (hr.mono (by decide)) rfl T.f_sitting_at.m T.f_sitting_at.F.kp T.f_sitting_at.b .nil pass0 (pa_cons (pv 0) (pa_cons (pv 2) (pa_cons (pv 3) pa_nil)))))) (pss_one (ps_ret (pe_lst (pa_cons (pe_g rfl T.c_NOT_GIVEN) pa_nil)))) pss_nil) (pss_cons (ps_fld (pv 0) (pe_lc rfl sc_unsit.nd (pi_list (pe_fld (pv 0) rfl)) (blkOk_by (own:=[("s",4)]) (by rfl)) (fun _ _ _ _ _=>(pg_name (i:=4) sc_unsit.nd rfl (by walk_at "or"))) (fun _ _ _ _ _=>(pts_or2 (pt_cmpR op_ne (pe_fldC K (pv 4)) (pv 2) (nomark _)) (pt_cmpR op_ne (pe_fldC K (pv 4)) (pv 3) (nomark _)))) (fun _ _ _ _ _=>(pv 4))) rfl) (pss_one (ps_ret (pe_lst (pa_cons pe_int pa_nil))))))))),?_⟩
  walk_at "v"
  refine⟨B,s,c,Z,rfl,ev,si,?_⟩
  refine⟨_,rfl,ite2 (fun h0=>?_) (fun h0=>?_)⟩
  ·rw[if_pos h0]at post
   exact⟨nle0 rfl,fun q nq=>post.same ev (Same.refl _) nq⟩
  ·rw[if_neg h0]at post
   walk_at "v"
   refine⟨B,s,c,Z,r,t,rfl,ev,fun e=>?_,fun x b e sx=>?_⟩
   ·rw[e]at post
    walk_at "w"
    exact⟨nle0 rfl,fun q nq=>post.same ev (Same.refl _) nq⟩
   ·rw[e]at post
    walk_at "w"
    refine⟨⟨_,SqL.of hs⟩,fun D nD=>?_⟩
    have n1:=EvA.ne ev.nd
    have frD:=ev.fresh nD
    have mD:∀o,Same H (upd H D o):=fun o=>same_new nD
    refine lc_list (K:=K) (xs:=as.map V.ref) (fun i H'=>∃as':List Addr,H'=upd H D (.lst (as'.map V.ref))∧as'.length≤i∧Paired (SitO T (hid B Z H)) as' ((s.sittings.take i).filter fun y=>!(y.round==r&&y.table==t))) ⟨[],rfl,Nat.zero_le _,.nil⟩ (fun i H' _ ⟨as',e,_⟩=>by rw[e];exact(mD _).seq (SqL.of hs)) ?_ ?_
    ·rintro i v H' hi ⟨as',rfl,hla,pa⟩
     obtain⟨d,y,hd,hy,rfl,sy0⟩:=paired_at ps hi
     obtain⟨dy,sy⟩:=sy0.mono (hid_sub.trans (mD (.lst (as'.map V.ref))))
     have hli:i<s.sittings.length:=(List.getElem?_eq_some_iff.mp hy).1
     have yes:(y.round≠r∨y.table≠t)→∃acc,upd H D (.lst (as'.map V.ref)) D=some (.lst acc)∧acc.length<sizeLine∧∃as2:List Addr,upd (upd H D (.lst (as'.map V.ref))) D (.lst (acc++[V.ref d]))=upd H D (.lst (as2.map V.ref))∧as2.length≤i+1∧Paired (SitO T (hid B Z H)) as2 ((s.sittings.take (i+1)).filter fun y=>!(y.round==r&&y.table==t)):=fun hn=>by
      refine⟨_,upd_same,by rw[List.length_map];exact small1000 (by omega),as'++[d],by rw[upd_upd,List.map_append];rfl,by rw[List.length_append];simp;omega,?_⟩
      rw[take_snoc hy,List.filter_append]
      have e:([y].filter fun y=>!(y.round==r&&y.table==t))=[y]:=by
       rw[List.filter_cons_of_pos]
       ·rfl
       ·simp only[Bool.not_eq_true',Bool.and_eq_false_iff,beq_eq_false_iff_ne]
        exact hn
      rw[e]
      exact paired_append pa (.cons sy0 .nil)
     refine⟨rfl,?_⟩
     walk_at "w"
     ·rename_i h1
      simp only[Bool.not_eq_true',decide_eq_false_iff_not,iN_inj]at h1
      exact yes (.inl h1)
     ·rename_i h1 h2
      simp only[Bool.not_eq_true',decide_eq_false_iff_not,iN_inj]at h2
      exact yes (.inr h2)
     ·rename_i h1 h2
      simp only[Bool.not_eq_true',Bool.not_eq_false',Bool.not_eq_false,decide_eq_true_eq,iN_inj]at h1 h2
      refine⟨by omega,?_⟩
      rw[take_snoc hy,List.filter_append]
      have e:([y].filter fun y=>!(y.round==r&&y.table==t))=[]:=by
       rw[List.filter_cons_of_neg]
       ·rfl
       ·simp[h1,h2]
      rw[e,List.append_nil]
      exact pa
    ·rintro H' ⟨as',rfl,hla,pa⟩
     rw[List.length_map,Paired.length ps,List.take_length]at pa
     have hpD:upd H D (.lst (as'.map V.ref)) B.p=some (.ins T.k_Event.C dp (fsEv s c B)):=mD _ _ _ hp
     refine⟨_,rfl,B.p,_,dp,_,rfl,hpD,KlB.cl _,KlB.na _ _ rfl,nle0 rfl,?_⟩
     let B':EvA:={ B with sits:=D }
     have nDp:D≠B.p:=fun z=>frD.1 (by rw[z];simp[EvA.own])
     have no:∀b,b∈B.own→b≠D:=fun b hb z=>frD.1 (by rw[←z];exact hb)
     have sm:Same (hid B Z H) (hid B' Z (upd (upd H D (.lst (as'.map V.ref))) B.p (.ins T.k_Event.C dp (fsEv s c B')))):=fun b o eb=>by
      have hb:=hid_sub _ _ eb
      have nb:b∉B.own∧Z b=false:=by
       unfold hid at eb
       split at eb
       ·cases eb
       ·rename_i q
        simp only[not_or,Bool.not_eq_true]at q
        exact q
      have bD:b≠D:=ne_of_none hb nD
      refine hid_at ?_ nb.2 ?_
      ·have:=nb.1
       simp only[EvA.own,B',List.mem_cons,List.not_mem_nil,or_false,not_or]at this ⊢
       exact⟨this.1,bD,this.2.2⟩
      ·rw[upd_ne (fun z=>nb.1 (by rw[z];simp[EvA.own])),upd_ne bD]
       exact hb
     have ev2:EvO T Z (upd (upd H D (.lst (as'.map V.ref))) B.p (.ins T.k_Event.C dp (fsEv s c B'))) { s with sittings:=s.sittings.filter fun y=>!(y.round==r&&y.table==t) } c B':=by
      refine ev.resit si h0 (as:=as') ?_ ?_ (fun b hb=>?_) ⟨dp,upd_same⟩ (by rw[upd_ne nDp,upd_same]) sm (Paired.mapP pa fun _ _ z=>z.mono sm)
       ⟨rfl,?_⟩ ⟨rfl,?_⟩ ⟨rfl,?_⟩ ⟨rfl,?_⟩ ⟨rfl,?_⟩
      ·have h:=ev.nd
       have h2:=frD.1
       simp only[EvA.own,B',List.nodup_cons,List.mem_cons,List.not_mem_nil,or_false,not_or,not_false_eq_true,and_true]at h h2 ⊢
       obtain⟨⟨q1,q2,q3,q4,q5,q6⟩,⟨q7,q8,q9,q10,q11⟩,r⟩:=h
       exact⟨⟨fun z=>h2.1 z.symm,q2,q3,q4,q5,q6⟩,⟨h2.2.2.1,h2.2.2.2.1,h2.2.2.2.2.1,h2.2.2.2.2.2.1,h2.2.2.2.2.2.2⟩,r⟩
      ·intro b hb
       simp only[EvA.own,B',List.mem_cons,List.not_mem_nil,or_false]at hb
       rcases hb with hb|hb|hb|hb|hb|hb|hb
       ·exact ev.zo b (by rw[hb];simp[EvA.own])
       ·rw[hb];exact frD.2
       all_goals exact ev.zo b (by rw[hb];simp[EvA.own])
      ·rw[upd_ne (ev.zne (by simp[EvA.own]) hb),upd_ne (fun z=>by rw[z,frD.2]at hb;cases hb)]
       exact ev.zt b hb
      ·rw[upd_ne n1.2.1.symm,upd_ne (no _ (by simp[EvA.own]))]
      ·rw[upd_ne n1.2.2.1.symm,upd_ne (no _ (by simp[EvA.own]))]
      ·rw[upd_ne n1.2.2.2.1.symm,upd_ne (no _ (by simp[EvA.own]))]
      ·rw[upd_ne n1.2.2.2.2.1.symm,upd_ne (no _ (by simp[EvA.own]))]
      ·rw[upd_ne n1.2.2.2.2.2.1.symm,upd_ne (no _ (by simp[EvA.own]))]
     refine⟨nle0 rfl,fun q nq=>?_⟩
     refine post _ B' q rfl (ev2.grow (same_new nq)) (fun b hb=>?_) upd_same
     rw[upd_ne (fun z=>?_)]
     ·show upd (upd H D _) B.p _ b=H b
      rw[upd_ne (ev.zne (by simp[EvA.own]) hb),upd_ne (fun z=>by rw[z,frD.2]at hb;cases hb)]
     ·rw[z]at hb
      exact ev2.zt q hb nq
end
end
section
section
variable {X:Cx}{x:Str}{pos:Pos}
noncomputable def tGT(K:PySem.W.Frag)(is:List Int):TE:=fun _ H Q=>∀a,(∀H',SqT K H' a (is.map V.int))→Q (.ref a) H
theorem pe_gt{is:List Int}(hg:Gl X x)(h:GT X.K X.mg x is)(hd:(x==("__debug__" : Str))=false:=by decide):PE X (.Name x pos) (tGT X.K is):=by
 obtain⟨a,hm,hT⟩:=h
 intro pins s σ H Q I hq
 exact ld_glob I hg hm ⟨.ref a,H,I,rfl,hq a hT⟩ hd
end
section
variable {P:Program}{w:World}{K:PySem.W.Frag}{mg:Str→Option Value}{base:Heap}
inductive J_is_within(T:TX K mg)(vs:List V)(H:Hp)(Q:VK):Prop
 |mk (z lo hi:Int) (b:Addr):vs=[.int z,.ref b]→SqT K H b [.int lo,.int hi]→Q (.bl (Vbbraj.inside lo hi z)) H→J_is_within T vs H Q
noncomputable def sp_is_within(T:TX K mg):Sp:=fun vs H Q _=>J_is_within T vs H Q
theorem ok_is_within(T:TX K mg):FnOk P w K mg base CX0 1 T.f_is_within.f T.f_is_within.fd ["number","bounds"] (sp_is_within T):=by
 refine okL T.f_is_within.F sc_is_within (fun vs H Q E h=>?_) (fun cdv A outer s H vs Q E hr h=>?_)
 rotate_left;intro Xc;rotate_left
 ·obtain⟨z,lo,hi,b,rfl,_⟩:=h
  rfl
 ·obtain⟨z,lo,hi,b,rfl,sq,k⟩:=h
  refine⟨_,(pss_one (ps_ret (pe_and (pe_cmpR op_ge (pv 0) (pe_ix ix_tup (pv 1) pe_int (fun _ _=>rfl)) (nomark _)) (pe_one (pe_cmpR op_le (pv 0) (pe_ix ix_tup (pv 1) pe_int (fun _ _=>rfl)) (nomark _)))))),?_⟩
  walk_at "w"
  ·rename_i h1
   simp only[decide_eq_true_eq]at h1
   exact cB k (by simp[Vbbraj.inside,h1])
  ·rename_i h1
   simp only[decide_eq_true_eq]at h1
   exact cB k (by simp[Vbbraj.inside,h1])
theorem sqt_grow{H H':Hp}{a:Addr}{xs:List V}(h:SqT K H a xs)(sm:Same H H'):SqT K H' a xs:=by
 rcases h with(h|⟨o,h⟩)|h
 ·exact .inl (.inl (sm _ _ h))
 ·exact .inl (.inr ⟨o,sm _ _ h⟩)
 ·exact .inr h
theorem CallO.mono{T:TX K mg}{H H':Hp}(sm:Same H H'){a:Addr}{n:Int}{pl rw:List Int}(h:CallO T H a n pl rw):CallO T H' a n pl rw:=let⟨dx,ap,ar,h1,h2,h3⟩:=h;⟨dx,ap,ar,sm _ _ h1,sm _ _ h2,sm _ _ h3⟩
noncomputable def plainOk(pl:List Int)(bs:List (Int×Int)):Bool:=(pl.zip bs).all fun q=>Vbbraj.inside q.2.1 q.2.2 q.1
inductive J_is_plain_in_range(T:TX K mg)(vs:List V)(H:Hp)(Q:VK):Prop
 |mk (a:Addr) (n:Int) (pl rw:List Int) (bs:List (Int×Int)):vs=[.ref a]→CallO T H a n pl rw→(n,bs)∈tab_RANGES→pl.length=bs.length→(∀H',Same H H'→Q (.bl (plainOk pl bs)) H')→J_is_plain_in_range T vs H Q
noncomputable def sp_is_plain_in_range(T:TX K mg):Sp:=fun vs H Q _=>J_is_plain_in_range T vs H Q
theorem ok_is_plain_in_range(T:TX K mg):FnOk P w K mg base CX0 2 T.f_is_plain_in_range.f T.f_is_plain_in_range.fd ["call"] (sp_is_plain_in_range T):=by
 refine okL T.f_is_plain_in_range.F sc_is_plain_in_range (fun vs H Q E h=>?_) (fun cdv A outer s H vs Q E hr h=>?_)
 rotate_left;intro Xc;rotate_left
 ·obtain⟨a,n,pl,rw,bs,rfl,_⟩:=h
  rfl
 ·obtain⟨a,n,pl,rw,bs,rfl,⟨dc,ap,ar,hc,hpl,hrw⟩,hin,hlen,k⟩:=h
  refine⟨_,(pss_cons (ps_for PassesOwn.never rfl (pi_zipT rfl T.n_zip (pa_cons (pe_fld (pv 0) rfl) (pa_cons (pe_gdget rfl T.c_RANGES (pe_fld (pv 0) rfl) (fun _ _=>rfl)) pa_nil))) (pg_tup rfl (pgs_cons (pg_name (i:=1) sc_is_plain_in_range.nd rfl (by walk_at "or")) (pgs_cons (pg_name (i:=2) sc_is_plain_in_range.nd rfl (by walk_at "or")) pgs_nil))) (pss_one (ps_if (pt_not (pt_val (pe_call (ok_is_within T) (hr.mono (by decide)) rfl T.f_is_within.m T.f_is_within.F.kp T.f_is_within.b .nil pass0 (pa_cons (pv 1) (pa_cons (pv 2) pa_nil))))) (pss_one (ps_ret pe_bl)) pss_nil))) (pss_one (ps_ret pe_bl))),?_⟩
  walk_at "v"
  refine⟨n,bs,rfl,hin,fun b tt=>?_⟩
  obtain⟨ps,sq,pp⟩:=tt
  have lp:=Paired.length pp
  refine⟨ap,b,pl.map V.int,ps.map V.ref,rfl,SqL.of hpl,sq,?_⟩
  refine for_it (n:=pl.length) (fun i σ H'=>Same H H'∧(∃v1 v2,σ=[some (.ref a),v1,v2])∧((pl.zip bs).take i).all (fun q=>Vbbraj.inside q.2.1 q.2.2 q.1)=true) ⟨Same.refl _,⟨none,none,rfl⟩,rfl⟩ ?_ ?_ ?_ ?_
  ·rintro i σ H' hi ⟨sm,_⟩
   exact⟨SqL.of (sm _ _ hpl),sqt_grow (K:=K) sq sm,by simpa using hi,by simpa using(by omega)⟩
  ·rintro σ H' ⟨sm,_⟩
   exact⟨SqL.of (sm _ _ hpl),sqt_grow (K:=K) sq sm,.inl (by simp)⟩
  ·rintro i v σ H1 H2 hi ⟨sm,⟨v1,v2,rfl⟩,hall⟩ ⟨t,x,y,rfl,nt,rfl,hx,hy⟩
   have sm2:Same H (upd H1 t (.tup [x,y])):=sm.trans (same_new nt)
   refine⟨t,_,rfl,SqT.of upd_same,rfl,x,_,rfl,y,_,rfl,rfl,?_⟩
   obtain⟨p,bd,hp,hbd,rfl,sqp⟩:=paired_at pp hy
   have hz:pl[i]?=some pl[i]:=List.getElem?_eq_getElem hi
   rw[List.getElem?_map,hz]at hx
   cases hx
   have hzip:(pl.zip bs)[i]?=some (pl[i],bd):=by rw[List.getElem?_zip_eq_some];exact⟨hz,hbd⟩
   walk_at "v"
   refine⟨pl[i],bd.1,bd.2,p,rfl,sqt_grow (K:=K) sqp sm2,?_⟩
   walk_at "w"
   ·rename_i h
    refine cB (k _ sm2) ?_
    rw[Bool.not_eq_true']at h
    unfold plainOk
    rw[List.all_eq_false]
    exact⟨_,List.mem_of_getElem? hzip,by simp[h]⟩
   ·rename_i h
    refine⟨sm2,⟨_,_,rfl⟩,?_⟩
    rw[take_snoc hzip,List.all_append,hall]
    simp only[Bool.not_eq_true',Bool.not_eq_false]at h
    simp[h]
  ·rintro σ H' ⟨sm,⟨v1,v2,rfl⟩,hall⟩
   refine cB (k _ sm) ?_
   rw[List.take_of_length_le (by rw[List.length_zip];omega)]at hall
   exact hall
noncomputable def PrO(H:Hp)(p:Addr)(q:Int×Int):Prop:=H p=some (.tup [.int q.1,.int q.2])
theorem pairsOf_len:∀r:List Int,(Vbbrah.pairsOf r).length=r.length / 2
 |[]=>rfl
 |[_]=>by simp[Vbbrah.pairsOf]
 |a::b::r=>by
  show(Vbbrah.pairsOf r).length+1=(r.length+2) / 2
  rw[pairsOf_len r]
  omega
theorem pairsOf_get:∀(r:List Int) (i:Nat),2*i+1<r.length→∃x y,r[2*i]?=some x∧r[2*i+1]?=some y∧(Vbbrah.pairsOf r)[i]?=some (x,y)
 |[],_,h=>by simp at h
 |[_],_,h=>by simp at h
 |a::b::r,0,_=>⟨a,b,rfl,rfl,rfl⟩
 |a::b::r,i+1,h=>by
  obtain⟨x,y,h1,h2,h3⟩:=pairsOf_get r i (by simp at h;omega)
  exact⟨x,y,by rw[show 2*(i+1)=2*i+2 by omega];exact h1,by rw[show 2*(i+1)+1=2*i+1+2 by omega];exact h2,h3⟩
inductive J_outcomes_of(T:TX K mg)(vs:List V)(H:Hp)(Q:VK):Prop
 |mk (l:Addr) (r:List Int):vs=[.ref l]→H l=some (.lst (r.map V.int))→r.length % 2=0→r.length≤1000→(∀(H':Hp) (D:Addr) (ps:List Addr),Same H H'→H D=none→(∀p∈ps,H p=none)→H' D=some (.lst (ps.map V.ref))→Paired (PrO H') ps (Vbbrah.pairsOf r)→Q (.ref D) H')→J_outcomes_of T vs H Q
noncomputable def sp_outcomes_of(T:TX K mg):Sp:=fun vs H Q _=>J_outcomes_of T vs H Q
theorem ok_outcomes_of(T:TX K mg):FnOk P w K mg base CX0 1 T.f_outcomes_of.f T.f_outcomes_of.fd ["row"] (sp_outcomes_of T):=by
 refine okL T.f_outcomes_of.F sc_outcomes_of (fun vs H Q E h=>?_) (fun cdv A outer s H vs Q E hr h=>?_)
 rotate_left;intro Xc;rotate_left
 ·obtain⟨l,r,rfl,_⟩:=h
  rfl
 ·obtain⟨l,r,rfl,hl,hev,hle,k⟩:=h
  refine⟨_,(pss_one (ps_ret (pe_lc rfl sc_outcomes_of.nd (pi_range3 rfl T.n_range (pa_cons pe_int (pa_cons (pe_callB call_len_seq (by rfl) T.n_len PySem.boot_len (pa_cons (pv 0) pa_nil)) (pa_cons pe_int pa_nil)))) (blkOk_by (own:=[("k",1)]) (by rfl)) (fun _ _ _ _ _=>(pg_name (i:=1) sc_outcomes_of.nd rfl (by walk_at "or"))) (fun _ _ _ _ _=>pts_nil) (fun _ _ _ _ _=>(pe_tup (pa_cons (pe_ixA (ix_listC K) (pv 0) (pv 1)) (pa_cons (pe_ixA (ix_listC K) (pv 0) (pe_op op_add (pv 1) pe_int)) pa_nil))))))),?_⟩
  walk_at "v"
  refine⟨l,r.map V.int,rfl,.inl (SqL.of hl),?_⟩
  walk_at "v"
  refine⟨0,_,2,r.length / 2,rfl,?_,fun D nD=>?_⟩
  ·rw[List.length_map]
   refine⟨by decide,by decide,?_,?_⟩
   ·unfold Builtin.Range.small Builtin.Range.rangeSize
    have e:(if(2:Int)>0 then(if(0:Int)<(r.length:Int)then((r.length:Int)-0-1) / 2+1 else 0)else(if(0:Int)>(r.length:Int)then(0-(r.length:Int)-1) / (-2)+1 else 0))=(r.length:Int) / 2:=by
     rw[if_pos (by decide)]
     split<;>omega
    rw[e]
    simp[Builtin.Range.rangeFitsLong]
    omega
   ·unfold Builtin.Range.rangeSize
    rw[if_pos (by decide)]
    split<;>omega
  ·refine lc_it (n:=r.length / 2) (fun i H'=>Same H H'∧∃ps:List Addr,ps.length≤i∧(∀p∈ps,H p=none)∧H' D=some (.lst (ps.map V.ref))∧Paired (PrO H') ps ((Vbbrah.pairsOf r).take i)) ⟨same_new nD,[],Nat.zero_le _,fun p hp=>by(cases hp),upd_same,.nil⟩ (fun i H' hi _=>hi) (fun H' _=>Nat.le_refl _) ?_ ?_
   ·rintro i v H1 H2 hi ⟨sm,ps,hle2,hn,hD,pp⟩ ⟨rfl,rfl⟩
    obtain⟨x,y,hx,hy,hpr⟩:=pairsOf_get r i (by omega)
    have sq:SqL K H2 l (r.map V.int):=SqL.of (sm _ _ hl)
    refine⟨rfl,?_⟩
    have a1:atI (r.map V.int) (0+(i:Int)*2)=some (.int x):=at_of (j:=2*i) (by omega) (by rw[List.getElem?_map,hx];rfl)
    have a2:atI (r.map V.int) (0+(i:Int)*2+1)=some (.int y):=at_of (j:=2*i+1) (by omega) (by rw[List.getElem?_map,hy];rfl)
    refine⟨_,rfl,_,rfl,l,_,_,_,rfl,rfl,sq,a1,_,rfl,_,rfl,_,_,rfl,rfl,l,_,_,_,rfl,rfl,sq,a2,nle0 rfl,fun t nt=>?_⟩
    have tD:D≠t:=ne_of_none hD nt
    have sm2:Same H2 (upd H2 t (.tup [.int x,.int y])):=same_new nt
    have ht:H t=none:=by
     cases e:H t with
     |none=>rfl
     |some o=>rw[sm _ _ e]at nt;cases nt
    refine⟨_,sm2 _ _ hD,by rw[List.length_map];exact small1000 (by omega),?_,ps++[t],by rw[List.length_append];simp;omega,?_,by rw[upd_same,List.map_append];rfl,?_⟩
    ·intro b o e
     rw[upd_ne (ne_of_none e nD)]
     exact sm2 _ _ (sm _ _ e)
    ·intro p hp
     rcases List.mem_append.mp hp with hp|hp
     ·exact hn p hp
     ·rw[List.mem_singleton.mp hp];exact ht
    ·rw[take_snoc hpr]
     refine paired_append (Paired.mapP pp fun p q z=>?_) (.cons ?_ .nil)
     ·show upd _ D _ p=_
      rw[upd_ne (ne_of z hD (fun q=>nomatch q)),upd_ne (ne_of_none z nt)]
      exact z
     ·show upd _ D _ t=_
      rw[upd_ne tD.symm,upd_same]
   ·rintro H' ⟨sm,ps,hle2,hn,hD,pp⟩
    rw[←pairsOf_len,List.take_length]at pp
    exact k H' D ps sm nD hn hD pp
inductive J_is_row_in_range(T:TX K mg)(vs:List V)(H:Hp)(Q:VK):Prop
 |mk (l:Addr) (r:List Int):vs=[.ref l]→H l=some (.lst (r.map V.int))→(∀H',Same H H'→Q (.bl (Vbbrah.isResult r)) H')→J_is_row_in_range T vs H Q
noncomputable def sp_is_row_in_range(T:TX K mg):Sp:=fun vs H Q _=>J_is_row_in_range T vs H Q
theorem isRes_eq{r:List Int}(h:r.length=2∨r.length=4∨r.length=6∨r.length=8):Vbbrah.isResult r=(Vbbrah.pairsOf r).all fun p=>Vbbrah.within p.1 1 1000&&Vbbrah.isScore p.2:=by
 unfold Vbbrah.isResult
 have h1:decide (2≤r.length)=true:=by simp;omega
 have h2:decide (r.length≤8)=true:=by simp;omega
 have h3:(r.length % 2==0)=true:=by simp;omega
 rw[h1,h2,h3]
 rfl
theorem isRes_no{r:List Int}(h:¬(r.length=2∨r.length=4∨r.length=6∨r.length=8)):Vbbrah.isResult r=false:=by
 unfold Vbbrah.isResult
 by_cases h1:2≤r.length
 ·by_cases h2:r.length≤8
  ·have h3:(r.length % 2==0)=false:=by simp;omega
   rw[h3]
   simp
  ·simp[h2]
 ·simp[h1]
theorem ok_is_row_in_range(T:TX K mg):FnOk P w K mg base CX0 2 T.f_is_row_in_range.f T.f_is_row_in_range.fd ["row"] (sp_is_row_in_range T):=by
 refine okL T.f_is_row_in_range.F sc_is_row_in_range (fun vs H Q E h=>?_) (fun cdv A outer s H vs Q E hr h=>?_)
 rotate_left;intro Xc;rotate_left
 ·obtain⟨l,r,rfl,_⟩:=h
  rfl
 ·obtain⟨l,r,rfl,hl,k⟩:=h
  refine⟨_,(pss_cons (ps_if (pt_cmpR op_notIn_seq (pe_callB call_len_seq (by rfl) T.n_len PySem.boot_len (pa_cons (pv 0) pa_nil)) (pe_gt rfl T.c_ROW_LENGTHS) (by with_unfolding_all rfl)) (pss_one (ps_ret pe_bl)) pss_nil) (pss_cons (ps_for PassesOwn.never rfl (pi_list (pe_call (ok_outcomes_of T) (hr.mono (by decide)) rfl T.f_outcomes_of.m T.f_outcomes_of.F.kp T.f_outcomes_of.b .nil pass0 (pa_cons (pv 0) pa_nil))) (pg_tup rfl (pgs_cons (pg_name (i:=1) sc_is_row_in_range.nd rfl (by walk_at "or")) (pgs_cons (pg_name (i:=2) sc_is_row_in_range.nd rfl (by walk_at "or")) pgs_nil))) (pss_one (ps_if (PW.pt (pw_or (pt_not (pt_val (pe_call (ok_is_within T) (hr.mono (by decide)) rfl T.f_is_within.m T.f_is_within.F.kp T.f_is_within.b .nil pass0 (pa_cons (pv 1) (pa_cons (pe_gt rfl T.c_WEIGHT_RANGE) pa_nil))))) (pw_or1 (pt_not (pt_val (pe_call (ok_is_within T) (hr.mono (by decide)) rfl T.f_is_within.m T.f_is_within.F.kp T.f_is_within.b .nil pass0 (pa_cons (pv 2) (pa_cons (pe_gt rfl T.c_SCORE_RANGE) pa_nil)))))))) (pss_one (ps_ret pe_bl)) pss_nil))) (pss_one (ps_ret pe_bl)))),?_⟩
  walk_at "v"
  refine⟨l,r.map V.int,rfl,.inl (SqL.of hl),fun a ha=>⟨_,_,rfl,.inr (ha _),rfl,rfl,?_⟩⟩
  rw[List.length_map]
  have hin:inV (V.int r.length) [V.int 2,V.int 4,V.int 6,V.int 8]=decide (r.length=2∨r.length=4∨r.length=6∨r.length=8):=by
   rw[Bool.eq_iff_iff]
   simp[inV,eqV]
   omega
  refine⟨_,rfl,ite2 (fun h=>?_) (fun h=>?_)⟩
  ·have h:(!inV (V.int r.length) [V.int 2,V.int 4,V.int 6,V.int 8])=true:=h
   rw[hin]at h
   exact cB (k H (Same.refl _)) (isRes_no (by simpa using h))
  ·have h:¬(!inV (V.int r.length) [V.int 2,V.int 4,V.int 6,V.int 8])=true:=h
   rw[hin]at h
   have hc:r.length=2∨r.length=4∨r.length=6∨r.length=8:=by
    simp at h
    omega
   rw[isRes_eq hc]at k
   walk_at "v"
   refine⟨l,r,rfl,hl,by omega,by omega,fun H1 D ps sm nD hn hD pp=>?_⟩
   refine⟨D,rfl,⟨_,SqL.of hD⟩,for_list (K:=K) (xs:=ps.map V.ref) (fun i σ H'=>H'=H1∧(∃v1 v2,σ=[some (.ref l),v1,v2])∧((Vbbrah.pairsOf r).take i).all (fun p=>Vbbrah.within p.1 1 1000&&Vbbrah.isScore p.2)=true) ⟨rfl,⟨none,none,rfl⟩,rfl⟩ (fun i σ H' _ ⟨e,_⟩=>by rw[e];exact SqL.of hD) ?_ ?_⟩
   ·rintro i v σ H' hi ⟨rfl,⟨v1,v2,rfl⟩,hall⟩
    obtain⟨p,q,hp,hq,rfl,hpq⟩:=paired_at pp hi
    refine⟨p,_,rfl,SqT.of hpq,rfl,_,_,rfl,_,_,rfl,rfl,?_⟩
    have no:(Vbbrah.within q.1 1 1000&&Vbbrah.isScore q.2)=false→(Vbbrah.pairsOf r).all (fun p=>Vbbrah.within p.1 1 1000&&Vbbrah.isScore p.2)=false:=fun z=>by
     rw[List.all_eq_false]
     exact⟨q,List.mem_of_getElem? hq,by rw[z];simp⟩
    walk_at "v"
    refine fun b hb=>⟨q.1,1,1000,b,rfl,hb _,?_⟩
    refine Ev.x1 rfl ?_
    refine ite2 (fun h1=>?_) (fun h1=>?_)
    ·refine iteT ?_
     refine cB (k _ sm) (no ?_)
     have h1:(!Vbbraj.inside 1 1000 q.1)=true:=h1
     have h1:Vbbrah.within q.1 1 1000=false:=by rw[Bool.not_eq_true']at h1;exact h1
     rw[h1]
     rfl
    ·have h1:¬(!Vbbraj.inside 1 1000 q.1)=true:=h1
     have h1:Vbbrah.within q.1 1 1000=true:=by simp at h1;exact h1
     walk_at "v"
     refine fun b hb=>⟨q.2,-20000,20000,b,rfl,hb _,?_⟩
     refine Ev.x1 rfl ?_
     refine ite2 (fun h2=>?_) (fun h2=>?_)
     ·refine cB (k _ sm) (no ?_)
      have h2:(!Vbbraj.inside (-20000) 20000 q.2)=true:=h2
      have h2:Vbbrah.isScore q.2=false:=by rw[Bool.not_eq_true']at h2;exact h2
      rw[h1,h2]
      rfl
     ·have h2:¬(!Vbbraj.inside (-20000) 20000 q.2)=true:=h2
      have h2:Vbbrah.isScore q.2=true:=by simp at h2;exact h2
      refine⟨rfl,⟨_,_,rfl⟩,?_⟩
      rw[take_snoc hq,List.all_append,hall]
      simp[h1,h2]
   ·rintro σ H' ⟨rfl,⟨v1,v2,rfl⟩,hall⟩
    rw[List.length_map,Paired.length pp,List.take_length]at hall
    exact cB (k _ sm) hall
noncomputable def withRow(n:Int):Bool:=decide (n=3∨n=11)
inductive J_is_in_range(T:TX K mg)(vs:List V)(H:Hp)(Q:VK):Prop
 |mk (a:Addr) (n:Int) (pl rw:List Int) (bs:List (Int×Int)):vs=[.ref a]→CallO T H a n pl rw→(n,bs)∈tab_RANGES→pl.length=bs.length→(∀H',Same H H'→Q (.bl ((!withRow n||Vbbrah.isResult rw)&&plainOk pl bs)) H')→J_is_in_range T vs H Q
noncomputable def sp_is_in_range(T:TX K mg):Sp:=fun vs H Q _=>J_is_in_range T vs H Q
theorem ok_is_in_range(T:TX K mg):FnOk P w K mg base CX0 3 T.f_is_in_range.f T.f_is_in_range.fd ["call"] (sp_is_in_range T):=by
 refine okL T.f_is_in_range.F sc_is_in_range (fun vs H Q E h=>?_) (fun cdv A outer s H vs Q E hr h=>?_)
 rotate_left;intro Xc;rotate_left
 ·obtain⟨a,n,pl,rw,bs,rfl,_⟩:=h
  rfl
 ·obtain⟨a,n,pl,rw,bs,rfl,co,hin,hlen,k⟩:=h
  obtain⟨dc,ap,ar,hc,hpl,hrw⟩:=id co
  have hw:inV (V.int n) [V.int 3,V.int 11]=withRow n:=by
   unfold withRow
   rw[Bool.eq_iff_iff]
   simp[inV,eqV]
   omega
  refine⟨_,(pss_cons (ps_if (PW.pt (pw_and (pt_cmpR op_in_seq (pe_fld (pv 0) rfl) (pe_gt rfl T.c_CALLS_WITH_ROW) (by with_unfolding_all rfl)) (pw_and1 (pt_not (pt_val (pe_call (ok_is_row_in_range T) (hr.mono (by decide)) rfl T.f_is_row_in_range.m T.f_is_row_in_range.F.kp T.f_is_row_in_range.b .nil pass0 (pa_cons (pe_fld (pv 0) rfl) pa_nil))))))) (pss_one (ps_ret pe_bl)) pss_nil) (pss_one (ps_ret (pe_call (ok_is_plain_in_range T) (hr.mono (by decide)) rfl T.f_is_plain_in_range.m T.f_is_plain_in_range.F.kp T.f_is_plain_in_range.b .nil pass0 (pa_cons (pv 0) pa_nil))))),?_⟩
  walk_at "v"
  refine fun b hb=>⟨_,_,rfl,.inr (hb _),rfl,rfl,?_⟩
  refine⟨_,rfl,ite2 (fun h=>?_) (fun h=>?_)⟩
  ·have h:inV (V.int n) [V.int 3,V.int 11]=true:=h
   rw[hw]at h
   walk_at "v"
   refine⟨ar,rw,rfl,hrw,fun H1 sm=>?_⟩
   refine Ev.x1 rfl ?_
   refine ite2 (fun h1=>?_) (fun h1=>?_)
   ·have h1:(!Vbbrah.isResult rw)=true:=h1
    rw[Bool.not_eq_true']at h1
    exact cB (k H1 sm) (by rw[h,h1];rfl)
   ·have h1:¬(!Vbbrah.isResult rw)=true:=h1
    simp only[Bool.not_eq_true',Bool.not_eq_false]at h1
    walk_at "v"
    refine⟨a,n,pl,rw,bs,rfl,co.mono sm,hin,hlen,fun H2 sm2=>?_⟩
    exact cB (k H2 (sm.trans sm2)) (by rw[h,h1];rfl)
  ·have h:¬inV (V.int n) [V.int 3,V.int 11]=true:=h
   rw[hw,Bool.not_eq_true]at h
   refine iteF ?_
   walk_at "v"
   refine⟨a,n,pl,rw,bs,rfl,co,hin,hlen,fun H2 sm2=>?_⟩
   exact cB (k H2 sm2) (by rw[h];rfl)
end
end
section
section
variable {P:Program}{w:World}{K:PySem.W.Frag}{mg:Str→Option Value}{base:Heap}
theorem tab_rows:((List.range 23).map fun k=>(Int.ofNat k,(tab_RANGES.lookup (Int.ofNat k)).getD []))=tab_RANGES:=by decide +kernel
noncomputable def shOk(k:Nat):Bool:=decide (PyVbbraj.shape (Int.ofNat k)=some (((tab_RANGES.lookup (Int.ofNat k)).getD []).length,if withRow (Int.ofNat k)then 1 else 0))
theorem sh_all:(List.range 23).all shOk=true:=by decide +kernel
theorem sh_big(k:Nat):PyVbbraj.shape (Int.ofNat (k+23))=none:=rfl
theorem shape_tab{p:Int}{n kk:Nat}(h:PyVbbraj.shape p=some (n,kk)):∃bs,(p,bs)∈tab_RANGES∧bs.length=n∧(kk=1∧withRow p=true∨kk=0∧withRow p=false):=by
 cases p with
 |negSucc k=>cases h
 |ofNat k=>
  by_cases hk:k<23
  ·have h1:=of_decide_eq_true (List.all_eq_true.mp sh_all k (List.mem_range.mpr hk))
   rw[h]at h1
   cases h1
   refine⟨(tab_RANGES.lookup (Int.ofNat k)).getD [],?_,rfl,?_⟩
   ·rw[←tab_rows]
    exact List.mem_map.mpr ⟨k,List.mem_range.mpr hk,by rw[tab_rows]⟩
   ·cases withRow (Int.ofNat k)<;>simp
  ·obtain⟨j,rfl⟩:∃j,k=j+23:=⟨k-23,by omega⟩
   exact nomatch (sh_big j).symm.trans h
theorem tab_fun{n:Int}{bs:List (Int×Int)}(h:(n,bs)∈tab_RANGES):bs=(tab_RANGES.lookup n).getD []:=by
 rw[←tab_rows]at h
 obtain⟨k,_,e⟩:=List.mem_map.mp h
 cases e
 rfl
theorem calls_cons{f:Nat}{p:Int}{r:List Int}{cs:List (List (List Int))}(h:PyFlat.calls PyVbbraj.shape f (p::r)=some cs):∃f' n kk xs t cs',PyVbbraj.shape p=some (n,kk)∧n≤r.length∧PyFlat.rows kk (r.drop n)=some (xs,t)∧PyFlat.calls PyVbbraj.shape f' t=some cs'∧cs=((p::r.take n)::xs)::cs':=by
 cases f with
 |zero=>simp[PyFlat.calls]at h
 |succ f=>
  simp only[PyFlat.calls]at h
  split at h
  ·cases h
  ·rename_i c t hc
   split at h
   ·cases h
   ·rename_i cs' hcs
    cases h
    simp only[PyFlat.call]at hc
    split at hc
    ·cases hc
    ·rename_i n kk hs
     split at hc
     ·cases hc
     ·rename_i hl
      split at hc
      ·cases hc
      ·rename_i xs t' hr
       cases hc
       exact⟨f,n,kk,xs,_,cs',hs,by omega,hr,hcs,rfl⟩
theorem rows1{r:List Int}{xs:List (List Int)}{t:List Int}(h:PyFlat.rows 1 r=some (xs,t)):∃(m:Nat) (r':List Int),r=(m:Int)::r'∧m≤r'.length∧xs=[r'.take m]∧t=r'.drop m:=by
 simp only[PyFlat.rows]at h
 split at h
 ·cases h
 ·rename_i x s hr
  cases h
  unfold PyFlat.row at hr
  split at hr
  ·cases hr
  ·rename_i n r'
   split at hr
   ·rename_i hn
    cases hr
    exact⟨n.toNat,r',by rw[show((n.toNat:Nat):Int)=n by omega],hn.2,rfl,rfl⟩
   ·cases hr
theorem cut_ints{ns:List Int}{i j:Nat}(hij:i≤j)(hj:j≤ns.length):cutV (ns.map V.int) (some (i:Int)) (some (j:Int))=((ns.drop i).take (j-i)).map V.int:=by
 unfold cutV
 rw[HT.sIx_nat,HT.sIx_nat,List.length_map,Nat.min_eq_left hj,Nat.min_eq_left (by omega),←List.map_drop,←List.map_take]
noncomputable def CallP(T:TX K mg)(H:Hp)(a:Addr)(c:List (List Int)):Prop:=∃n pl rw bs,CallO T H a n pl rw∧(n,bs)∈tab_RANGES∧pl.length=bs.length∧((withRow n=true∧c=[n::pl,rw])∨(withRow n=false∧rw=[]∧c=[n::pl]))
theorem CallP.mono{T:TX K mg}{H H':Hp}(sm:Same H H'){a:Addr}{c:List (List Int)}(h:CallP T H a c):CallP T H' a c:=let⟨n,pl,rw,bs,h1,h2⟩:=h;⟨n,pl,rw,bs,h1.mono sm,h2⟩
noncomputable def CallD(T:TX K mg)(H0 H:Hp)(D a:Addr)(c:List (List Int)):Prop:=∃n pl rw bs dx ap ar,H a=some (.ins T.k_Call.C dx [("number",.int n),("plain",.ref ap),("row",.ref ar)])∧H ap=some (.lst (pl.map V.int))∧H ar=some (.lst (rw.map V.int))∧(ap≠D∧H0 ap=none)∧(ar≠D∧H0 ar=none)∧(n,bs)∈tab_RANGES∧pl.length=bs.length∧((withRow n=true∧c=[n::pl,rw])∨(withRow n=false∧rw=[]∧c=[n::pl]))
noncomputable def CallF(T:TX K mg)(H0 H:Hp)(a:Addr)(c:List (List Int)):Prop:=∃n pl rw bs dx ap ar,H a=some (.ins T.k_Call.C dx [("number",.int n),("plain",.ref ap),("row",.ref ar)])∧H ap=some (.lst (pl.map V.int))∧H ar=some (.lst (rw.map V.int))∧H0 ap=none∧H0 ar=none∧(n,bs)∈tab_RANGES∧pl.length=bs.length∧((withRow n=true∧c=[n::pl,rw])∨(withRow n=false∧rw=[]∧c=[n::pl]))
theorem CallD.f{T:TX K mg}{H0 H:Hp}{D a:Addr}{c:List (List Int)}(h:CallD T H0 H D a c):CallF T H0 H a c:=by
 obtain⟨n,pl,rw,bs,dx,ap,ar,h1,h2,h3,q1,q2,h4⟩:=h
 exact⟨n,pl,rw,bs,dx,ap,ar,h1,h2,h3,q1.2,q2.2,h4⟩
theorem CallF.stay{T:TX K mg}{H0 H H':Hp}{a:Addr}{c:List (List Int)}(h:CallF T H0 H a c)(ha:H' a=H a)(sm:∀b,H0 b=none→H b≠none→H' b=H b):CallP T H' a c:=by
 obtain⟨n,pl,rw,bs,dx,ap,ar,h1,h2,h3,q1,q2,h4,h5,h6⟩:=h
 exact⟨n,pl,rw,bs,⟨dx,ap,ar,ha.trans h1,(sm _ q1 (by rw[h2];simp)).trans h2,(sm _ q2 (by rw[h3];simp)).trans h3⟩,h4,h5,h6⟩
theorem CallD.stay{T:TX K mg}{H0 H H':Hp}{D a:Addr}{c:List (List Int)}{o:List V}(hD:H D=some (.lst o))(sm:∀b o,b≠D→H b=some o→H' b=some o)(h:CallD T H0 H D a c):CallD T H0 H' D a c:=by
 obtain⟨n,pl,rw,bs,dx,ap,ar,h1,h2,h3,q1,q2,h4⟩:=h
 exact⟨n,pl,rw,bs,dx,ap,ar,sm _ _ (ne_of h1 hD (fun z=>nomatch z)) h1,sm _ _ q1.1 h2,sm _ _ q2.1 h3,q1,q2,h4⟩
noncomputable def muC(n:Nat)(σ:L2.St):Nat:=match σ[2]? with
 |some (some (V.int z))=>n-z.toNat
 |_=>0
inductive J_read_calls(T:TX K mg)(vs:List V)(H:Hp)(Q:VK):Prop
 |mk (l:Addr) (ns:List Int) (cs:List (List (List Int))):vs=[.ref l]→SqL K H l (ns.map V.int)→ns.length≤16000→PyFlat.calls PyVbbraj.shape ns.length ns=some cs→(∀(H':Hp) (D:Addr) (as:List Addr),Same H H'→H' D=some (.lst (as.map V.ref))→Paired (CallF T H H') as cs→Q (.ref D) H')→J_read_calls T vs H Q
noncomputable def sp_read_calls(T:TX K mg):Sp:=fun vs H Q _=>J_read_calls T vs H Q
theorem small16{n:Nat}(h:n≤16001):n<sizeLine:=Nat.lt_of_le_of_lt h (by decide)
theorem ok_read_calls(T:TX K mg):FnOk P w K mg base CX0 3 T.f_read_calls.f T.f_read_calls.fd ["numbers"] (sp_read_calls T):=by
 refine okL T.f_read_calls.F sc_read_calls (fun vs H Q E h=>?_) (fun cdv A outer s H vs Q E hr h=>?_)
 rotate_left;intro Xc;rotate_left
 ·obtain⟨l,ns,cs,rfl,_⟩:=h
  rfl
 ·obtain⟨l,ns,cs,rfl,sq0,hlen,hcs,k⟩:=h
  refine⟨_,(pss_cons (ps_set (i:=1) sc_read_calls.nd rfl (by walk_at "or") (pe_lst pa_nil)) (pss_cons (ps_set (i:=2) sc_read_calls.nd rfl (by walk_at "or") pe_int) (pss_cons (ps_while PassesOwn.never (pt_cmpR op_lt (pv 2) (pe_callB call_len_seq (by rfl) T.n_len PySem.boot_len (pa_cons (pv 0) pa_nil)) (nomark _)) (pss_cons (ps_set (i:=3) sc_read_calls.nd rfl (by walk_at "or") (pe_ix ix_list (pv 0) (pv 2) (fun _ _=>rfl))) (pss_cons (ps_set (i:=4) sc_read_calls.nd rfl (by walk_at "or") (pe_op op_add (pe_op op_add (pv 2) pe_int) (pe_callB call_len_seq (by rfl) T.n_len PySem.boot_len (pa_cons (pe_gdget rfl T.c_RANGES (pv 3) (fun _ _=>rfl)) pa_nil)))) (pss_cons (ps_set (i:=5) sc_read_calls.nd rfl (by walk_at "or") (pv 4)) (pss_cons (ps_set (i:=6) sc_read_calls.nd rfl (by walk_at "or") (pv 4)) (pss_cons (ps_if (pt_cmpR op_in_seq (pv 3) (pe_gt rfl T.c_CALLS_WITH_ROW) (by with_unfolding_all rfl)) (pss_cons (ps_set (i:=5) sc_read_calls.nd rfl (by walk_at "or") (pe_op op_add (pv 4) pe_int)) (pss_one (ps_set (i:=6) sc_read_calls.nd rfl (by walk_at "or") (pe_op op_add (pv 5) (pe_ix ix_list (pv 0) (pv 4) (fun _ _=>rfl)))))) pss_nil) (pss_cons (ps_expr (pe_bm PySem.F.plainAttrs_list PySem.F.slot_list_append PySem.F.type_list_append mt_append (pv 1) (pa_cons (pe_make T.k_Call.mkk (ok_Call_init T) (hr.mono (by decide)) rfl T.k_Call.m T.k_Call.b .nil pass0 (pa_cons (pv 3) (pa_cons (pe_slice sl_list (pv 0) (po_some (pe_op op_add (pv 2) pe_int)) (po_some (pv 4))) (pa_cons (pe_slice sl_list (pv 0) (po_some (pv 5)) (po_some (pv 6))) pa_nil)))) pa_nil))) (pss_one (ps_set (i:=2) sc_read_calls.nd rfl (by walk_at "or") (pv 6)))))))))) (pss_one (ps_ret (pv 1)))))),?_⟩
  refine⟨Nat.zero_le _,fun D nD=>?_⟩
  refine while_by (fun σ H'=>∃(i:Nat) (as:List Addr) (c1 c2:List (List (List Int))) (f:Nat) (u3 u4 u5 u6:Option V),σ=[some (.ref l),some (.ref D),some (iN i),u3,u4,u5,u6]∧i≤ns.length∧as.length≤i∧Same H H'∧H' D=some (.lst (as.map V.ref))∧Paired (CallD T H H' D) as c1∧
   PyFlat.calls PyVbbraj.shape f (ns.drop i)=some c2∧cs=c1++c2) (fun σ _=>muC ns.length σ)
   ⟨0,[],[],cs,ns.length,none,none,none,none,rfl,Nat.zero_le _,Nat.le_refl _,same_new nD,upd_same,.nil,hcs,rfl⟩ ?_ ?_
  ·rintro σ H1 ⟨i,as,c1,c2,f,u3,u4,u5,u6,rfl,hi,has,sm,hD,pc,hp,hc⟩
   have sq:SqL K H1 l (ns.map V.int):=sm.seq sq0
   walk_at "v"
   refine⟨l,_,rfl,.inl sq,?_⟩
   rw[List.length_map]
   walk_at "v"
   refine ite2 (fun h=>?_) (fun h=>?_)
   ·have h:i<ns.length:=by simpa using h
    have hd:ns.drop i=ns[i]::ns.drop (i+1):=List.drop_eq_getElem_cons h
    rw[hd]at hp
    obtain⟨f',n,kk,xs,t,cs',hs,hn,hr,hcs',rfl⟩:=calls_cons hp
    obtain⟨bs,hin,hbl,hw⟩:=shape_tab hs
    have a1:atI (ns.map V.int) (i:Int)=some (.int ns[i]):=at_of (j:=i) rfl (by rw[List.getElem?_map,List.getElem?_eq_getElem h];rfl)
    have hln:i+1+n≤ns.length:=by rw[List.length_drop]at hn;omega
    refine⟨_,rfl,_,rfl,l,_,_,_,rfl,rfl,sq,a1,?_⟩
    walk_at "v"
    refine⟨ns[i],bs,rfl,hin,fun b tt=>?_⟩
    obtain⟨ps,sqt,pp⟩:=tt
    have lps:=Paired.length pp
    refine⟨b,_,rfl,.inr sqt,?_⟩
    have lpi:((ps.map V.ref).length:Int)=(n:Int):=by rw[List.length_map];omega
    rw[lpi]
    walk_at "v"
    refine fun e he=>⟨_,_,rfl,.inr (he _),rfl,rfl,?_⟩
    have hwi:inV (V.int ns[i]) [V.int 3,V.int 11]=withRow ns[i]:=by
     unfold withRow
     rw[Bool.eq_iff_iff]
     simp[inV,eqV]
     omega
    have c1e:cutV (ns.map V.int) (some ((i:Int)+1)) (some ((i:Int)+1+n))=((ns.drop (i+1)).take n).map V.int:=by
     have:=cut_ints (ns:=ns) (i:=i+1) (j:=i+1+n) (by omega) hln
     rw[Nat.add_sub_cancel_left]at this
     rw[←this]
     congr 2
    have lpl:((ns.drop (i+1)).take n).length=bs.length:=by rw[List.length_take,List.length_drop];omega
    refine⟨_,rfl,ite2 (fun hy=>?_) (fun hy=>?_)⟩
    ·have hy:inV (V.int ns[i]) [V.int 3,V.int 11]=true:=hy
     rw[hwi]at hy
     rcases hw with⟨rfl,hw⟩|⟨rfl,hw⟩
     ·obtain⟨m,r',er,hm,rfl,rfl⟩:=rows1 hr
      rw[List.drop_drop]at er
      have hi2:i+1+n<ns.length:=by
       have:=congrArg List.length er
       simp at this
       omega
      have er2:ns.drop (i+1+n)=ns[i+1+n]::ns.drop (i+1+n+1):=List.drop_eq_getElem_cons hi2
      rw[er2]at er
      simp only[List.cons.injEq]at er
      obtain⟨em,rfl⟩:=er
      rw[List.length_drop]at hm
      have a2:atI (ns.map V.int) ((i:Int)+1+n)=some (.int (m:Int)):=at_of (j:=i+1+n) (by omega) (by rw[List.getElem?_map,List.getElem?_eq_getElem hi2,em];rfl)
      walk_at "v"
      refine⟨l,_,_,_,rfl,rfl,sq,a2,?_⟩
      walk_at "v"
      refine⟨.inl ⟨rfl,_,SqL.of hD⟩,?_⟩
      walk_at "v"
      refine⟨l,_,rfl,sq,fun p1 n1=>?_⟩
      walk_at "v"
      have sm1:Same H1 (upd H1 p1 (.lst (cutV (ns.map V.int) (some ((i:Int)+1)) (some ((i:Int)+1+n))))):=same_new n1
      refine⟨l,_,rfl,sm1.seq sq,fun p2 n2=>?_⟩
      have c2e:cutV (ns.map V.int) (some ((i:Int)+1+n+1)) (some ((i:Int)+1+n+1+m))=((ns.drop (i+1+n+1)).take m).map V.int:=by
       have:=cut_ints (ns:=ns) (i:=i+1+n+1) (j:=i+1+n+1+m) (by omega) (by omega)
       rw[Nat.add_sub_cancel_left]at this
       rw[←this]
       congr 2
      rw[c1e]at sm1 n2 ⊢
      rw[c2e]
      have sm2:=sm1.trans (same_new (o:=.lst (((ns.drop (i+1+n+1)).take m).map V.int)) n2)
      intro x dx nx nd ne
      refine⟨x,dx,_,_,_,rfl,upd_same,rfl,?_⟩
      rw[mkI_eq]
      have sm3:=sm2.trans (mkI_same (o:=.ins T.k_Call.C dx [("number",.int ns[i]),("plain",.ref p1),("row",.ref p2)]) nx nd)
      have h1:mkI (upd (upd H1 p1 (.lst (((ns.drop (i+1)).take n).map V.int))) p2 (.lst (((ns.drop (i+1+n+1)).take m).map V.int))) x dx (.ins T.k_Call.C dx [("number",.int ns[i]),("plain",.ref p1),("row",.ref p2)]) p1=some (.lst (((ns.drop (i+1)).take n).map V.int)):=mkI_same nx nd _ _ (same_new n2 _ _ upd_same)
      have h2:=mkI_same (o:=.ins T.k_Call.C dx [("number",.int ns[i]),("plain",.ref p1),("row",.ref p2)]) nx nd _ _ (upd_same (H:=upd H1 p1 (.lst (((ns.drop (i+1)).take n).map V.int))) (a:=p2) (o:=.lst (((ns.drop (i+1+n+1)).take m).map V.int)))
      refine⟨D,_,_,rfl,rfl,sm3 _ _ hD,by rw[List.length_map];exact small16 (by omega),?_⟩
      have smF:∀b o,b≠D→H1 b=some o→upd (mkI (upd (upd H1 p1 (.lst (((ns.drop (i+1)).take n).map V.int))) p2 (.lst (((ns.drop (i+1+n+1)).take m).map V.int))) x dx (.ins T.k_Call.C dx [("number",.int ns[i]),("plain",.ref p1),("row",.ref p2)])) D (.lst (as.map V.ref++[V.ref x])) b=some o:=fun b o hb e=>by
       rw[upd_ne hb]
       exact sm3 _ _ e
      have nDx:x≠D:=fun z=>by rw[z,sm2 _ _ hD]at nx;cases nx
      have nD1:p1≠D:=fun z=>by rw[z,hD]at n1;cases n1
      have nD2:p2≠D:=fun z=>by rw[z,sm1 _ _ hD]at n2;cases n2
      refine⟨_,rfl,⟨i+1+n+1+m,as++[x],c1++[[ns[i]::(ns.drop (i+1)).take n,(ns.drop (i+1+n+1)).take m]],cs',f',some (.int ns[i]),some (.int ((i:Int)+1+n)),some (.int ((i:Int)+1+n+1)),some (.int ((i:Int)+1+n+1+m)),?_,by omega,by rw[List.length_append];simp;omega,?_,by rw[upd_same,List.map_append];rfl,?_,?_,?_⟩,?_⟩
      ·simp only[List.set_cons_succ,List.set_cons_zero]
       have e:iN (i+1+n+1+m)=V.int (((i:Int)+1+n+1+m)):=by
        show V.int _=V.int _
        congr 1
       rw[e]
      ·intro b o e
       exact smF b o (ne_of_none e nD) (sm _ _ e)
      ·refine paired_append (Paired.mapP pc fun q z hz=>hz.stay hD smF) (.cons ⟨ns[i],(ns.drop (i+1)).take n,((ns.drop (i+1+n+1)).take m),bs,dx,p1,p2,?_,?_,?_,⟨nD1,sm.free n1⟩,⟨nD2,(sm.trans sm1).free n2⟩,hin,lpl,.inl ⟨hw,rfl⟩⟩ .nil)
       ·rw[upd_ne nDx];exact mkI_at
       ·rw[upd_ne nD1];exact h1
       ·rw[upd_ne nD2];exact h2
      ·rw[List.drop_drop]at hcs'
       exact hcs'
      ·rw[hc,List.append_assoc]
       rfl
      ·show muC _ _<muC _ _
       simp only[List.set_cons_succ,List.set_cons_zero,muC,List.getElem?_cons_succ,List.getElem?_cons_zero]
       omega
     ·rw[hw]at hy;cases hy
    ·have hy:¬inV (V.int ns[i]) [V.int 3,V.int 11]=true:=hy
     rw[hwi]at hy
     rcases hw with⟨rfl,hw⟩|⟨rfl,hw⟩
     ·exact absurd hw hy
     ·obtain⟨rfl,rfl⟩:xs=[]∧t=ns.drop (i+1+n):=by
       simp only[PyFlat.rows,Option.some.injEq,Prod.mk.injEq,List.drop_drop]at hr
       exact⟨hr.1.symm,hr.2.symm⟩
      walk_at "v"
      refine⟨.inl ⟨rfl,_,SqL.of hD⟩,?_⟩
      walk_at "v"
      refine⟨l,_,rfl,sq,fun p1 n1=>?_⟩
      walk_at "v"
      have sm1:Same H1 (upd H1 p1 (.lst (cutV (ns.map V.int) (some ((i:Int)+1)) (some ((i:Int)+1+n))))):=same_new n1
      refine⟨l,_,rfl,sm1.seq sq,fun p2 n2=>?_⟩
      have c2e:cutV (ns.map V.int) (some ((i:Int)+1+n)) (some ((i:Int)+1+n))=([]:List Int).map V.int:=by
       have:=cut_ints (ns:=ns) (i:=i+1+n) (j:=i+1+n) (by omega) (by omega)
       rw[Nat.sub_self,List.take_zero]at this
       rw[←this]
       congr 2
      rw[c1e]at sm1 n2 ⊢
      rw[c2e]
      have sm2:=sm1.trans (same_new (o:=.lst (([]:List Int).map V.int)) n2)
      intro x dx nx nd ne
      refine⟨x,dx,_,_,_,rfl,upd_same,rfl,?_⟩
      rw[mkI_eq]
      have sm3:=sm2.trans (mkI_same (o:=.ins T.k_Call.C dx [("number",.int ns[i]),("plain",.ref p1),("row",.ref p2)]) nx nd)
      have h1:mkI (upd (upd H1 p1 (.lst (((ns.drop (i+1)).take n).map V.int))) p2 (.lst (([]:List Int).map V.int))) x dx (.ins T.k_Call.C dx [("number",.int ns[i]),("plain",.ref p1),("row",.ref p2)]) p1=some (.lst (((ns.drop (i+1)).take n).map V.int)):=mkI_same nx nd _ _ (same_new n2 _ _ upd_same)
      have h2:=mkI_same (o:=.ins T.k_Call.C dx [("number",.int ns[i]),("plain",.ref p1),("row",.ref p2)]) nx nd _ _ (upd_same (H:=upd H1 p1 (.lst (((ns.drop (i+1)).take n).map V.int))) (a:=p2) (o:=.lst (([]:List Int).map V.int)))
      refine⟨D,_,_,rfl,rfl,sm3 _ _ hD,by rw[List.length_map];exact small16 (by omega),?_⟩
      have smF:∀b o,b≠D→H1 b=some o→upd (mkI (upd (upd H1 p1 (.lst (((ns.drop (i+1)).take n).map V.int))) p2 (.lst (([]:List Int).map V.int))) x dx (.ins T.k_Call.C dx [("number",.int ns[i]),("plain",.ref p1),("row",.ref p2)])) D (.lst (as.map V.ref++[V.ref x])) b=some o:=fun b o hb e=>by
       rw[upd_ne hb]
       exact sm3 _ _ e
      have nDx:x≠D:=fun z=>by rw[z,sm2 _ _ hD]at nx;cases nx
      have nD1:p1≠D:=fun z=>by rw[z,hD]at n1;cases n1
      have nD2:p2≠D:=fun z=>by rw[z,sm1 _ _ hD]at n2;cases n2
      refine⟨_,rfl,⟨i+1+n,as++[x],c1++[[ns[i]::(ns.drop (i+1)).take n]],cs',f',some (.int ns[i]),some (.int ((i:Int)+1+n)),some (.int ((i:Int)+1+n)),some (.int ((i:Int)+1+n)),?_,by omega,by rw[List.length_append];simp;omega,?_,by rw[upd_same,List.map_append];rfl,?_,?_,?_⟩,?_⟩
      ·simp only[List.set_cons_succ,List.set_cons_zero]
       have e:iN (i+1+n)=V.int (((i:Int)+1+n)):=by
        show V.int _=V.int _
        congr 1
       rw[e]
      ·intro b o e
       exact smF b o (ne_of_none e nD) (sm _ _ e)
      ·refine paired_append (Paired.mapP pc fun q z hz=>hz.stay hD smF) (.cons ⟨ns[i],(ns.drop (i+1)).take n,([]:List Int),bs,dx,p1,p2,?_,?_,?_,⟨nD1,sm.free n1⟩,⟨nD2,(sm.trans sm1).free n2⟩,hin,lpl,.inr ⟨hw,rfl,rfl⟩⟩ .nil)
       ·rw[upd_ne nDx];exact mkI_at
       ·rw[upd_ne nD1];exact h1
       ·rw[upd_ne nD2];exact h2
      ·exact hcs'
      ·rw[hc,List.append_assoc]
       rfl
      ·show muC _ _<muC _ _
       simp only[List.set_cons_succ,List.set_cons_zero,muC,List.getElem?_cons_succ,List.getElem?_cons_zero]
       omega
   ·have h:¬i<ns.length:=by simpa using h
    have e:ns.drop i=[]:=List.drop_eq_nil_of_le (by omega)
    rw[e]at hp
    have hc2:c2=[]:=by
     cases f<;>(simp[PyFlat.calls]at hp;exact hp)
    rw[hc2,List.append_nil]at hc
    rw[hc]at k
    exact⟨_,rfl,k H1 D as sm hD (Paired.mapP pc fun _ _ z=>z.f)⟩
  ·rintro σ H1 Q1 Q2 hq ⟨v,e,v2,e2,p,ys,e3,e4,i,j,e5,e6,kk,e7,q⟩
   exact⟨v,e,v2,e2,p,ys,e3,e4,i,j,e5,e6,kk,e7,hq _ _ q⟩
end
end
section
section
variable {P:Program}{w:World}{K:PySem.W.Frag}{mg:Str→Option Value}{base:Heap}
noncomputable def sp_common_divisor(T:TX K mg):Sp:=fun vs H Q _=>∃a b:Nat,vs=[iN a,iN b]∧Q (iN (Nat.gcd a b)) H
theorem ok_common_divisor(T:TX K mg):FnOk P w K mg base CX0 1 T.f_common_divisor.f T.f_common_divisor.fd ["first","second"] (sp_common_divisor T):=by
 refine okL T.f_common_divisor.F sc_common_divisor (fun vs H Q E h=>?_) (fun cdv A outer s H vs Q E hr h=>?_)
 rotate_left;intro Xc;rotate_left
 ·obtain⟨a,b,rfl,_⟩:=h
  rfl
 ·obtain⟨a,b,rfl,k⟩:=h
  refine⟨_,(pss_cons (ps_while PassesOwn.never (pt_cmpR op_ne (pv 1) pe_int (nomark _)) (pss_cons (ps_set (i:=2) sc_common_divisor.nd rfl (by walk_at "or") (pe_op op_mod (pv 0) (pv 1))) (pss_cons (ps_set (i:=0) sc_common_divisor.nd rfl (by walk_at "or") (pv 1)) (pss_one (ps_set (i:=1) sc_common_divisor.nd rfl (by walk_at "or") (pv 2)))))) (pss_one (ps_ret (pv 0)))),?_⟩
  refine while_by (fun σ H'=>H'=H∧∃(x y:Nat) (u:Option V),σ=[some (iN x),some (iN y),u]∧Nat.gcd x y=Nat.gcd a b) (fun σ _=>match σ[1]? with|some (some (V.int z))=>z.toNat|_=>0) ⟨rfl,a,b,none,rfl,rfl⟩ ?_ ?_
  ·rintro σ H1 ⟨rfl,x,y,u,rfl,hg⟩
   walk_at "v"
   refine ite2 (fun h=>?_) (fun h=>?_)
   ·have h:0<y:=by
     simp[V.int.injEq]at h
     omega
    refine⟨_,rfl,_,rfl,_,_,rfl,rfl,(by show(0:Int)<(y:Int);omega),?_⟩
    refine⟨_,rfl,_,rfl,⟨rfl,y,x % y,some (.int ((x:Int) % y)),rfl,?_⟩,?_⟩
    ·rw[←hg,Nat.gcd_comm y,Nat.gcd_comm x y,Nat.gcd_rec y x]
    ·show((x:Int) % (y:Int)).toNat<((y:Int)).toNat
     have:=Int.emod_lt_of_pos (x:Int) (show(0:Int)<y by omega)
     have:=Int.emod_nonneg (x:Int) (show(y:Int)≠0 by omega)
     omega
   ·have h:y=0:=by
     simp[V.int.injEq]at h
     omega
    subst h
    rw[Nat.gcd_zero_right]at hg
    subst hg
    exact⟨_,rfl,k⟩
  ·rintro σ H1 Q1 Q2 hq ⟨v,e,e1,kk,e2,q⟩
   exact⟨v,e,e1,kk,e2,hq _ _ q⟩
inductive J_lowest(T:TX K mg)(vs:List V)(H:Hp)(Q:VK):Prop
 |mk (p:Addr) (n:Int) (d m:Nat):vs=[.ref p]→H p=some (.tup [.int n,iN d])→0<d→n.natAbs<2 ^ m→d<2 ^ m→m≤13500→(∀q,H q=none→Q (.ref q) (upd H q (.tup [.int (Vbbrah.lowest (n,d)).1,iN (Vbbrah.lowest (n,d)).2])))→J_lowest T vs H Q
noncomputable def sp_lowest(T:TX K mg):Sp:=fun vs H Q _=>J_lowest T vs H Q
theorem ok_lowest(T:TX K mg):FnOk P w K mg base CX0 2 T.f_lowest.f T.f_lowest.fd ["fraction"] (sp_lowest T):=by
 refine okL T.f_lowest.F sc_lowest (fun vs H Q E h=>?_) (fun cdv A outer s H vs Q E hr h=>?_)
 rotate_left;intro Xc;rotate_left
 ·obtain⟨p,n,d,m,rfl,_⟩:=h
  rfl
 ·obtain⟨p,n,d,m,rfl,hp,hd,b1,b2,hm,k⟩:=h
  have sq:SqT K H p [.int n,iN d]:=SqT.of hp
  have hg:0<Nat.gcd n.natAbs d:=Nat.gcd_pos_of_pos_right _ hd
  have el:Vbbrah.lowest (n,d)=(n / (Nat.gcd n.natAbs d:Int),d / Nat.gcd n.natAbs d):=by
   show(if Nat.gcd n.natAbs d=0 then((0:Int),1)else _)=_
   rw[if_neg (by omega)]
  rw[el]at k
  refine⟨_,(pss_cons (ps_set (i:=1) sc_lowest.nd rfl (by walk_at "or") (pe_call (ok_common_divisor T) (hr.mono (by decide)) rfl T.f_common_divisor.m T.f_common_divisor.F.kp T.f_common_divisor.b .nil pass0 (pa_cons (pe_callB call_abs (by rfl) T.n_abs boot_abs (pa_cons (pe_ix ix_tup (pv 0) pe_int (fun _ _=>rfl)) pa_nil)) (pa_cons (pe_ix ix_tup (pv 0) pe_int (fun _ _=>rfl)) pa_nil)))) (pss_one (ps_ret (pe_tup (pa_cons (pe_op op_fdivB (pe_ix ix_tup (pv 0) pe_int (fun _ _=>rfl)) (pv 1)) (pa_cons (pe_op op_fdivB (pe_ix ix_tup (pv 0) pe_int (fun _ _=>rfl)) (pv 1)) pa_nil)))))),?_⟩
  walk_at "v"
  refine⟨n.natAbs,d,?_,?_⟩
  ·have e:(if n<0 then -n else n)=(n.natAbs:Int):=by split<;>omega
   rw[e]
   rfl
  ·walk_at "v"
   refine⟨⟨by omega,m,b1,hm⟩,?_⟩
   walk_at "v"
   refine⟨⟨by omega,m,by simpa using b2,hm⟩,nle0 rfl,fun q nq=>?_⟩
   exact k q nq
inductive J_plus(T:TX K mg)(vs:List V)(H:Hp)(Q:VK):Prop
 |mk (p q:Addr) (a c:Int) (b d m n:Nat):vs=[.ref p,.ref q]→H p=some (.tup [.int a,iN b])→H q=some (.tup [.int c,iN d])→a.natAbs<2 ^ m→b<2 ^ m→c.natAbs<2 ^ n→d<2 ^ n→m+n≤100000→(∀r,H r=none→Q (.ref r) (upd H r (.tup [.int (a*d+c*b),iN (b*d)])))→J_plus T vs H Q
noncomputable def sp_plus(T:TX K mg):Sp:=fun vs H Q _=>J_plus T vs H Q
theorem ok_plus(T:TX K mg):FnOk P w K mg base CX0 1 T.f_plus.f T.f_plus.fd ["fraction","other"] (sp_plus T):=by
 refine okL T.f_plus.F sc_plus (fun vs H Q E h=>?_) (fun cdv A outer s H vs Q E hr h=>?_)
 rotate_left;intro Xc;rotate_left
 ·obtain⟨p,q,a,c,b,d,m,n,rfl,_⟩:=h
  rfl
 ·obtain⟨p,q,a,c,b,d,m,n,rfl,hp,hq,b1,b2,b3,b4,hm,k⟩:=h
  have sq:SqT K H p [.int a,iN b]:=SqT.of hp
  have sq2:SqT K H q [.int c,iN d]:=SqT.of hq
  refine⟨_,(pss_one (ps_ret (pe_tup (pa_cons (pe_op op_add (pe_op op_mulB (pe_ix ix_tup (pv 0) pe_int (fun _ _=>rfl)) (pe_ix ix_tup (pv 1) pe_int (fun _ _=>rfl))) (pe_op op_mulB (pe_ix ix_tup (pv 1) pe_int (fun _ _=>rfl)) (pe_ix ix_tup (pv 0) pe_int (fun _ _=>rfl)))) (pa_cons (pe_op op_mulB (pe_ix ix_tup (pv 0) pe_int (fun _ _=>rfl)) (pe_ix ix_tup (pv 1) pe_int (fun _ _=>rfl))) pa_nil))))),?_⟩
  walk_at "v"
  refine⟨⟨m,n,b1,by simpa using b4,by omega⟩,?_⟩
  walk_at "v"
  refine⟨⟨n,m,b3,by simpa using b2,by omega⟩,?_⟩
  walk_at "v"
  refine⟨⟨m,n,by simpa using b2,by simpa using b4,by omega⟩,nle0 rfl,fun r nr=>?_⟩
  have e:iN (b*d)=V.int ((b:Int)*d):=by
   show V.int _=V.int _
   congr 1
  have:=k r nr
  rw[e]at this
  exact this
inductive J_is_greater(T:TX K mg)(vs:List V)(H:Hp)(Q:VK):Prop
 |mk (p q:Addr) (a c:Int) (b d m n:Nat):vs=[.ref p,.ref q]→H p=some (.tup [.int a,iN b])→H q=some (.tup [.int c,iN d])→a.natAbs<2 ^ m→b<2 ^ m→c.natAbs<2 ^ n→d<2 ^ n→m+n≤100000→Q (.bl (decide (c*b<a*d))) H→J_is_greater T vs H Q
noncomputable def sp_is_greater(T:TX K mg):Sp:=fun vs H Q _=>J_is_greater T vs H Q
theorem ok_is_greater(T:TX K mg):FnOk P w K mg base CX0 1 T.f_is_greater.f T.f_is_greater.fd ["fraction","other"] (sp_is_greater T):=by
 refine okL T.f_is_greater.F sc_is_greater (fun vs H Q E h=>?_) (fun cdv A outer s H vs Q E hr h=>?_)
 rotate_left;intro Xc;rotate_left
 ·obtain⟨p,q,a,c,b,d,m,n,rfl,_⟩:=h
  rfl
 ·obtain⟨p,q,a,c,b,d,m,n,rfl,hp,hq,b1,b2,b3,b4,hm,k⟩:=h
  have sq:SqT K H p [.int a,iN b]:=SqT.of hp
  have sq2:SqT K H q [.int c,iN d]:=SqT.of hq
  refine⟨_,(pss_one (ps_ret (pe_cmpR op_gt (pe_op op_mulB (pe_ix ix_tup (pv 0) pe_int (fun _ _=>rfl)) (pe_ix ix_tup (pv 1) pe_int (fun _ _=>rfl))) (pe_op op_mulB (pe_ix ix_tup (pv 1) pe_int (fun _ _=>rfl)) (pe_ix ix_tup (pv 0) pe_int (fun _ _=>rfl))) (nomark _)))),?_⟩
  walk_at "v"
  refine⟨⟨m,n,b1,by simpa using b4,by omega⟩,?_⟩
  walk_at "v"
  refine⟨⟨n,m,b3,by simpa using b2,by omega⟩,?_⟩
  walk_at "v"
  exact k
inductive J_rounded(T:TX K mg)(vs:List V)(H:Hp)(Q:VK):Prop
 |mk (p:Addr) (a:Int) (b m:Nat):vs=[.ref p]→H p=some (.tup [.int a,iN b])→0<b→a.natAbs<2 ^ m→b<2 ^ m→m+2≤13500→Q (.int ((2*a+b) / (2*b))) H→J_rounded T vs H Q
noncomputable def sp_rounded(T:TX K mg):Sp:=fun vs H Q _=>J_rounded T vs H Q
theorem ok_rounded(T:TX K mg):FnOk P w K mg base CX0 1 T.f_rounded.f T.f_rounded.fd ["fraction"] (sp_rounded T):=by
 refine okL T.f_rounded.F sc_rounded (fun vs H Q E h=>?_) (fun cdv A outer s H vs Q E hr h=>?_)
 rotate_left;intro Xc;rotate_left
 ·obtain⟨p,a,b,m,rfl,_⟩:=h
  rfl
 ·obtain⟨p,a,b,m,rfl,hp,hb,b1,b2,hm,k⟩:=h
  have sq:SqT K H p [.int a,iN b]:=SqT.of hp
  refine⟨_,(pss_one (ps_ret (pe_op op_fdivB (pe_op op_add (pe_op op_mul pe_int (pe_ix ix_tup (pv 0) pe_int (fun _ _=>rfl))) (pe_ix ix_tup (pv 0) pe_int (fun _ _=>rfl))) (pe_op op_mul pe_int (pe_ix ix_tup (pv 0) pe_int (fun _ _=>rfl)))))),?_⟩
  walk_at "v"
  refine⟨.inl ⟨by decide,by decide⟩,?_⟩
  walk_at "v"
  refine⟨.inl ⟨by decide,by decide⟩,?_⟩
  walk_at "v"
  refine⟨⟨by omega,m+2,?_,hm⟩,k⟩
  rw[Nat.pow_add]
  generalize 2 ^ m=M at b1 b2
  omega
end
end
section
open Pts (totU meanU compU realU plusU Bt Sml)
section
variable {P:Program}{w:World}{K:PySem.W.Frag}{mg:Str→Option Value}{base:Heap}
noncomputable def sp_versus(T:TX K mg):Sp:=fun vs H Q _=>∃a b:Int,vs=[.int a,.int b]∧Q (.int (Vbbrah.versus a b)) H
theorem ok_versus(T:TX K mg):FnOk P w K mg base CX0 1 T.f_versus.f T.f_versus.fd ["score","other"] (sp_versus T):=by
 refine okL T.f_versus.F sc_versus (fun vs H Q E h=>?_) (fun cdv A outer s H vs Q E hr h=>?_)
 rotate_left;intro Xc;rotate_left
 ·obtain⟨a,b,rfl,_⟩:=h
  rfl
 ·obtain⟨a,b,rfl,k⟩:=h
  unfold Vbbrah.versus at k
  refine⟨_,(pss_cons (ps_if (pt_cmpR op_gt (pv 0) (pv 1) (nomark _)) (pss_one (ps_ret pe_int)) pss_nil) (pss_one (ps_ret (pe_ifExp (pt_cmpR op_eq (pv 0) (pv 1) (nomark _)) pe_int pe_int)))),?_⟩
  walk_at "w"
  ·rename_i h
   simp only[decide_eq_true_eq]at h
   rw[if_pos h]at k
   exact k
  ·rename_i h1 h2
   simp only[decide_eq_true_eq,V.int.injEq]at h1 h2
   rw[if_neg h1,if_pos h2]at k
   exact k
  ·rename_i h1 h2
   simp only[decide_eq_true_eq,V.int.injEq]at h1 h2
   rw[if_neg h1,if_neg h2]at k
   exact k
theorem weight_sum:∀r:VRes,(r.map fun p=>(p.1:Int)).sum=(Vbbrah.weight r:Int)
 |[]=>rfl
 |p::r=>by
  show(p.1:Int)+(r.map fun p=>(p.1:Int)).sum=((p.1+Vbbrah.weight r:Nat):Int)
  rw[weight_sum r]
  omega
inductive J_weight_of(T:TX K mg)(vs:List V)(H:Hp)(Q:VK):Prop
 |mk (l:Addr) (r:VRes):vs=[.ref l]→ResO H l r→r.length≤1000→(∀H',Same H H'→Q (iN (Vbbrah.weight r)) H')→J_weight_of T vs H Q
noncomputable def sp_weight_of(T:TX K mg):Sp:=fun vs H Q _=>J_weight_of T vs H Q
theorem ok_weight_of(T:TX K mg):FnOk P w K mg base CX0 1 T.f_weight_of.f T.f_weight_of.fd ["outcomes"] (sp_weight_of T):=by
 refine okL T.f_weight_of.F sc_weight_of (fun vs H Q E h=>?_) (fun cdv A outer s H vs Q E hr h=>?_)
 rotate_left;intro Xc;rotate_left
 ·obtain⟨l,r,rfl,_⟩:=h
  rfl
 ·obtain⟨l,r,rfl,⟨ps,hl,pp⟩,hle,k⟩:=h
  refine⟨_,(pss_one (ps_ret (pe_callB (cr_sum rfl) (by rfl) T.n_sum boot_sum (pa_cons (pe_lc rfl sc_weight_of.nd (pi_list (pv 0)) (blkOk_by (own:=[("weight",1),("score",2)]) (by rfl)) (fun _ _ _ _ _=>(pg_tupC (n:=2) K rfl (pgs_cons (pg_name (i:=1) sc_weight_of.nd rfl (by walk_at "or")) (pgs_cons (pg_name (i:=2) sc_weight_of.nd rfl (by walk_at "or")) pgs_nil)))) (fun _ _ _ _ _=>pts_nil) (fun _ _ _ _ _=>(pv 1))) pa_nil)))),?_⟩
  have lp:=Paired.length pp
  refine⟨_,rfl,l,rfl,⟨_,SqL.of hl⟩,fun D nD=>?_⟩
  refine lc_list (K:=K) (xs:=ps.map V.ref) (fun i H'=>H'=upd H D (.lst ((r.take i).map fun p=>iN p.1))) rfl (fun i H' _ e=>by rw[e];exact(same_new nD).seq (SqL.of hl)) ?_ ?_
  ·rintro i v H' hi rfl
   obtain⟨p,q,hp,hq,rfl,hpq⟩:=paired_at pp hi
   have hli:i<r.length:=(List.getElem?_eq_some_iff.mp hq).1
   refine⟨p,_,rfl,SqT.of (same_new nD _ _ hpq),rfl,_,_,rfl,_,_,rfl,rfl,rfl,?_⟩
   refine⟨_,rfl,_,upd_same,by rw[List.length_map,List.length_take];exact small1000 (by omega),?_⟩
   rw[upd_upd,take_snoc hq,List.map_append]
   rfl
  ·rintro H' rfl
   rw[List.length_map,lp,List.take_length]
   refine⟨D,r.map fun p=>(p.1:Int),rfl,?_,?_⟩
   ·rw[List.map_map]
    exact SqL.of upd_same
   ·rw[weight_sum]
    exact k _ (same_new nD)
noncomputable def rowU(p:Nat×Int)(q:VRes):Int:=(q.map fun t=>((p.1*t.1:Nat):Int)*Vbbrah.versus p.2 t.2).foldr (fun a b=>a+b) 0
theorem foldr_z:∀(l:List Int) (z:Int),l.foldr (fun a b=>a+b) z=l.foldr (fun a b=>a+b) 0+z
 |[],z=>by simp
 |a::l,z=>by
  show a+l.foldr (fun a b=>a+b) z=a+l.foldr (fun a b=>a+b) 0+z
  rw[foldr_z l z]
  omega
theorem totU_snoc(r:VRes)(p:Nat×Int)(q:VRes):totU (r++[p]) q=totU r q+rowU p q:=by
 unfold totU rowU
 rw[List.flatMap_append,List.foldr_append,foldr_z]
 simp
theorem rowU_snoc(p:Nat×Int)(q:VRes)(t:Nat×Int):rowU p (q++[t])=rowU p q+((p.1*t.1:Nat):Int)*Vbbrah.versus p.2 t.2:=by
 unfold rowU
 rw[List.map_append,List.foldr_append,foldr_z]
 simp
inductive J_mean_of_versus(T:TX K mg)(vs:List V)(H:Hp)(Q:VK):Prop
 |mk (l m:Addr) (r q:VRes):vs=[.ref l,.ref m]→ResO H l r→ResO H m q→Sml r→Sml q→(∀(H':Hp) (t:Addr),Same H H'→H t=none→H' t=some (.tup [.int (meanU r q).1,iN (meanU r q).2])→Q (.ref t) H')→J_mean_of_versus T vs H Q
noncomputable def sp_mean_of_versus(T:TX K mg):Sp:=fun vs H Q _=>J_mean_of_versus T vs H Q
theorem ok_mean_of_versus(T:TX K mg):FnOk P w K mg base CX0 2 T.f_mean_of_versus.f T.f_mean_of_versus.fd ["outcomes","others"] (sp_mean_of_versus T):=by
 refine okL T.f_mean_of_versus.F sc_mean_of_versus (fun vs H Q E h=>?_) (fun cdv A outer s H vs Q E hr h=>?_)
 rotate_left;intro Xc;rotate_left
 ·obtain⟨l,m,r,q,rfl,_⟩:=h
  rfl
 ·obtain⟨l,m,r,q,rfl,rl,rm,sr,sq,k⟩:=h
  obtain⟨ps,hl,pp⟩:=id rl
  obtain⟨qs,hm,pq⟩:=id rm
  refine⟨_,(pss_cons (ps_set (i:=2) sc_mean_of_versus.nd rfl (by walk_at "or") pe_int) (pss_cons (ps_for PassesOwn.never rfl (pi_list (pv 0)) (pg_tup rfl (pgs_cons (pg_name (i:=3) sc_mean_of_versus.nd rfl (by walk_at "or")) (pgs_cons (pg_name (i:=4) sc_mean_of_versus.nd rfl (by walk_at "or")) pgs_nil))) (pss_one (ps_for PassesOwn.never rfl (pi_list (pv 1)) (pg_tup rfl (pgs_cons (pg_name (i:=5) sc_mean_of_versus.nd rfl (by walk_at "or")) (pgs_cons (pg_name (i:=6) sc_mean_of_versus.nd rfl (by walk_at "or")) pgs_nil))) (pss_one (ps_set (i:=2) sc_mean_of_versus.nd rfl (by walk_at "or") (pe_op op_add (pv 2) (pe_op op_mul (pe_op op_mul (pv 3) (pv 5)) (pe_call (ok_versus T) (hr.mono (by decide)) rfl T.f_versus.m T.f_versus.F.kp T.f_versus.b .nil pass0 (pa_cons (pv 4) (pa_cons (pv 6) pa_nil)))))))))) (pss_one (ps_ret (pe_tup (pa_cons (pv 2) (pa_cons (pe_op op_mul (pe_call (ok_weight_of T) (hr.mono (by decide)) rfl T.f_weight_of.m T.f_weight_of.F.kp T.f_weight_of.b .nil pass0 (pa_cons (pv 0) pa_nil)) (pe_call (ok_weight_of T) (hr.mono (by decide)) rfl T.f_weight_of.m T.f_weight_of.F.kp T.f_weight_of.b .nil pass0 (pa_cons (pv 1) pa_nil))) pa_nil))))))),?_⟩
  refine⟨_,rfl,l,rfl,⟨_,SqL.of hl⟩,for_list (K:=K) (xs:=ps.map V.ref) (fun i σ H'=>H'=H∧∃u3 u4 u5 u6,σ=[some (.ref l),some (.ref m),some (.int (totU (r.take i) q)),u3,u4,u5,u6]) ⟨rfl,none,none,none,none,rfl⟩ (fun i σ H' _ ⟨e,_⟩=>by rw[e];exact SqL.of hl) ?_ ?_⟩
  ·rintro i v σ H' hi ⟨rfl,u3,u4,u5,u6,rfl⟩
   obtain⟨p,x,hp,hx,rfl,hpx⟩:=paired_at pp hi
   have hx1:=sr.2 x (List.mem_of_getElem? hx)
   refine⟨p,_,rfl,SqT.of hpx,rfl,_,_,rfl,_,_,rfl,rfl,?_⟩
   refine⟨_,rfl,m,rfl,⟨_,SqL.of hm⟩,for_list (K:=K) (xs:=qs.map V.ref) (fun j σ H1=>H1=H'∧∃u5 u6,σ=[some (.ref l),some (.ref m),some (.int (totU (r.take i) q+rowU x (q.take j))),some (iN x.1),some (.int x.2),u5,u6]) ⟨rfl,u5,u6,?_⟩ (fun i σ H1 _ ⟨e,_⟩=>by rw[e];exact SqL.of hm) ?_ ?_⟩
   ·have e:totU (r.take i) q+rowU x (q.take 0)=totU (r.take i) q:=by show totU (r.take i) q+0=_;omega
    rw[e]
    rfl
   ·rintro j v σ H1 hj ⟨rfl,u5,u6,rfl⟩
    obtain⟨p2,y,hp2,hy,rfl,hpy⟩:=paired_at pq hj
    have hy1:=sq.2 y (List.mem_of_getElem? hy)
    refine⟨p2,_,rfl,SqT.of hpy,rfl,_,_,rfl,_,_,rfl,rfl,?_⟩
    walk_at "v"
    refine⟨.inl ⟨by omega,by omega⟩,?_⟩
    walk_at "v"
    refine⟨x.2,y.2,rfl,?_⟩
    have hv:=Pts.vs_le x.2 y.2
    refine⟨_,_,rfl,rfl,.inr ⟨by omega,by omega⟩,?_⟩
    refine⟨_,_,rfl,rfl,rfl,some (iN y.1),some (.int y.2),?_⟩
    rw[take_snoc hy,rowU_snoc]
    have e:totU (r.take i) q+(rowU x (q.take j)+((x.1*y.1:Nat):Int)*Vbbrah.versus x.2 y.2)=totU (r.take i) q+rowU x (q.take j)+(x.1:Int)*(y.1:Int)*Vbbrah.versus x.2 y.2:=by
     rw[Int.natCast_mul]
     omega
    rw[e]
    rfl
   ·rintro σ H1 ⟨rfl,u5,u6,rfl⟩
    rw[List.length_map,Paired.length pq,List.take_length]
    refine⟨rfl,some (iN x.1),some (.int x.2),u5,u6,?_⟩
    rw[take_snoc hx,totU_snoc]
  ·rintro σ H' ⟨rfl,u3,u4,u5,u6,rfl⟩
   rw[List.length_map,Paired.length pp,List.take_length]
   walk_at "v"
   have h4:=sr.1
   have h5:=sq.1
   refine⟨l,r,rfl,rl,by omega,fun H1 sm1=>?_⟩
   refine Ev.x1 rfl ?_
   refine⟨m,q,rfl,rm.mono sm1,by omega,fun H2 sm2=>?_⟩
   have w1:=Pts.weight_le sr.2
   have w2:=Pts.weight_le sq.2
   refine⟨_,_,rfl,rfl,.inl ⟨by omega,by omega⟩,nle0 rfl,fun t nt=>?_⟩
   have sm:=sm1.trans sm2
   refine k _ t (sm.trans (same_new nt)) ?_ ?_
   ·cases e:H' t with
    |none=>rfl
    |some o=>rw[sm _ _ e]at nt;cases nt
   ·rw[upd_same]
    show _=some (HO.tup [V.int (totU r q),iN (Vbbrah.weight r*Vbbrah.weight q)])
    rw[show iN (Vbbrah.weight r*Vbbrah.weight q)=V.int ((Vbbrah.weight r:Int)*(Vbbrah.weight q:Int))from congrArg V.int (Int.natCast_mul _ _)]
end
end
section
open Vbbraj (State Sitting)
open Sti (SInv Srt)
open Pts (totU meanU compU realU plusU Bt Sml)
section
variable {P:Program}{w:World}{K:PySem.W.Frag}{mg:Str→Option Value}{base:Heap}
noncomputable def EntL(T:TX K mg)(H:Hp)(a:Addr)(l:Vbbrah.State):Prop:=∃as:List Addr,H a=some (.lst (as.map V.ref))∧Paired (EntO T H) as l
theorem EntL.mono{T:TX K mg}{H H':Hp}(h:Same H H'){a:Addr}{l:Vbbrah.State}(p:EntL T H a l):EntL T H' a l:=let⟨as,e,q⟩:=p;⟨as,h _ _ e,Paired.mapP q fun _ _ z=>z.mono h⟩
theorem isReal_iff{e:VEnt}:Vbbrah.isReal e=true↔e.result≠[]:=by
 unfold Vbbrah.isReal
 cases e.result<;>simp
theorem srt_ne{l:Vbbrah.State}(h:Srt l){i j:Nat}{e f:VEnt}(hi:l[i]?=some e)(hj:l[j]?=some f):(f.table≠e.table)↔j≠i:=by
 constructor
 ·rintro a rfl
  rw[hi]at hj
  cases hj
  exact a rfl
 ·intro a
  obtain⟨h1,e1⟩:=List.getElem?_eq_some_iff.mp hi
  obtain⟨h2,e2⟩:=List.getElem?_eq_some_iff.mp hj
  have q:=List.pairwise_iff_getElem.mp h
  rcases Nat.lt_or_gt_of_ne a with c|c
  ·have:=q j i h2 h1 c
   rw[e1,e2]at this
   omega
  ·have:=q i j h1 h2 c
   rw[e1,e2]at this
   omega
theorem others_eq(l:Vbbrah.State)(e:VEnt):Mth.others l e=(l.filter fun f=>f.table != e.table&&Vbbrah.isReal f).filter fun f=>f.group==e.group:=by
 unfold Mth.others Vbbrah.groupOf
 rw[List.filter_filter,List.filter_filter]
 congr 1
 funext f
 cases (f.table != e.table)<;>cases Vbbrah.isReal f<;>cases (f.group==e.group)<;>rfl
inductive J_results_to_compare(T:TX K mg)(vs:List V)(H:Hp)(Q:VK):Prop
 |mk (a:Addr) (l:Vbbrah.State) (i:Nat) (e:VEnt):vs=[.ref a,iN i]→EntL T H a l→Srt l→l[i]?=some e→Vbbrah.isReal e=true→l.length≤1000→(∀(H':Hp) (D:Addr) (os:List Addr),Same H H'→H' D=some (.lst (os.map V.ref))→Paired (ResO H') os ((Mth.others l e).map (·.result))→Q (.ref D) H')→J_results_to_compare T vs H Q
noncomputable def sp_results_to_compare(T:TX K mg):Sp:=fun vs H Q _=>J_results_to_compare T vs H Q
theorem EntO.real{T:TX K mg}{H:Hp}{a:Addr}{e:VEnt}(h:EntO T H a e)(hr:Vbbrah.isReal e=true):∃dx l,H a=some (.ins T.k_RealEntry.C dx [("group",iN e.group),("outcomes",.ref l)])∧ResO H l e.result:=by
 rcases h with⟨_,q⟩|⟨n,_⟩
 ·exact q
 ·exact absurd n (isReal_iff.mp hr)
theorem EntO.art{T:TX K mg}{H:Hp}{a:Addr}{e:VEnt}(h:EntO T H a e)(hr:Vbbrah.isReal e=false):∃dx,H a=some (.ins T.k_ArtificialEntry.C dx [("group",iN e.group),("ns_per_cent",iN e.ns),("ew_per_cent",iN e.ew)]):=by
 rcases h with⟨n,_⟩|⟨_,q⟩
 ·rw[isReal_iff.mpr n]at hr
  cases hr
 ·exact q
theorem get_paired{α β:Type}{G:α→β→Prop}{l:List α}{m:List β}(h:Paired G l m){i:Nat}{b:β}(e:m[i]?=some b):∃a,l[i]?=some a∧G a b:=by
 have hl:=Paired.length h
 obtain⟨hi,_⟩:=List.getElem?_eq_some_iff.mp e
 have ha:l[i]?=some l[i]:=List.getElem?_eq_getElem (by omega)
 obtain⟨b',hb,g⟩:=paired_get h ha
 rw[e]at hb
 cases hb
 exact⟨_,ha,g⟩
theorem ok_results_to_compare(T:TX K mg):FnOk P w K mg base CX0 1 T.f_results_to_compare.f T.f_results_to_compare.fd ["entries","at"] (sp_results_to_compare T):=by
 refine okL T.f_results_to_compare.F sc_results_to_compare (fun vs H Q E h=>?_) (fun cdv A outer s H vs Q E hr h=>?_)
 rotate_left;intro Xc;rotate_left
 ·obtain⟨a,l,i,e,rfl,_⟩:=h
  rfl
 ·obtain⟨a,l,i,e,rfl,el,so,hi,hre,hle,k⟩:=h
  obtain⟨as,hl,pp⟩:=id el
  have lp:=Paired.length pp
  have sq:SqL K H a (as.map V.ref):=SqL.of hl
  obtain⟨b,hb,eb⟩:=get_paired pp hi
  obtain⟨dx,lo,hbo,ro⟩:=eb.real hre
  have a1:atI (as.map V.ref) (i:Int)=some (.ref b):=at_of (j:=i) rfl (by rw[List.getElem?_map,hb];rfl)
  refine⟨_,(pss_cons (ps_set (i:=2) sc_results_to_compare.nd rfl (by walk_at "or") (pe_fld (pe_ix ix_list (pv 0) (pv 1) (fun _ _=>rfl)) rfl)) (pss_cons (ps_setLc (i:=3) rfl sc_results_to_compare.nd rfl rfl (sw_true rfl rfl rfl rfl) (pi_enum rfl T.n_enumerate (pa_cons (pv 0) pa_nil)) (blkOk_by (own:=[("k",4),("entry",5)]) (by rfl)) (fun _ _ _ _ _=>(pg_tupC (n:=2) K rfl (pgs_cons (pg_name (i:=4) sc_results_to_compare.nd rfl (by walk_at "or")) (pgs_cons (pg_name (i:=5) sc_results_to_compare.nd rfl (by walk_at "or")) pgs_nil)))) (fun _ _ _ _ _=>(pts_and2 (pt_cmpR op_ne (pv 4) (pv 1) (nomark _)) (pt_val (pe_callBA (call_isiC K (C:=T.k_RealEntry.C)) T.n_isinstance boot_isinstance (pa_cons (pv 5) (pa_cons (pe_globA (v:=.ref T.k_RealEntry.C) T.k_RealEntry.m rfl) pa_nil)))))) (fun _ _ _ _ _=>(pv 5))) (pss_one (ps_ret (pe_lc rfl sc_results_to_compare.nd (pi_list (pv 3)) (blkOk_by (own:=[("entry",5)]) (by rfl)) (fun _ _ _ _ _=>(pg_name (i:=5) sc_results_to_compare.nd rfl (by walk_at "or"))) (fun _ _ _ _ _=>(pts_one (pt_cmpR op_eq (pe_fldC K (pv 5)) (pv 2) (nomark _)))) (fun _ _ _ _ _=>(pe_fldC K (pv 5)))))))),?_⟩
  refine⟨_,rfl,_,rfl,a,_,_,_,rfl,rfl,sq,a1,?_⟩
  walk_at "v"
  refine⟨a,_,rfl,sq,fun D nD=>?_⟩
  refine lc_it (n:=l.length) (fun j H'=>Same H H'∧∃os:List Addr,os.length≤j∧H' D=some (.lst (os.map V.ref))∧Paired (EntO T H) os ((l.take j).filter fun f=>f.table != e.table&&Vbbrah.isReal f)) ⟨same_new nD,[],Nat.zero_le _,upd_same,.nil⟩ ?_ ?_ ?_ ?_
  ·rintro j H' hj ⟨sm,_⟩
   exact⟨as.map V.ref,_,SqL.of (sm _ _ hl),List.getElem?_eq_getElem (by rw[List.length_map];omega)⟩
  ·rintro H' ⟨sm,_⟩
   exact⟨as.map V.ref,SqL.of (sm _ _ hl),by rw[List.length_map];omega⟩
  ·rintro j v H1 H2 hj ⟨sm,os,hlo,hD,po⟩ ⟨t,x,rfl,nt,rfl,hx⟩
   have hx:=hx _ (SqL.of (sm _ _ hl))
   obtain⟨c,f,hc,hf,rfl,ef⟩:=paired_at pp hx
   have sm2:Same H1 (upd H1 t (.tup [.int (j:Nat),.ref c])):=same_new nt
   have tD:D≠t:=ne_of_none hD nt
   have stp:∀(y:V) (o:HO),Same H (upd (upd H1 t (.tup [.int (j:Nat),.ref c])) D o):=fun y o b u e=>by
    rw[upd_ne (ne_of_none e nD)]
    exact sm2 _ _ (sm _ _ e)
   refine⟨t,_,rfl,SqT.of upd_same,rfl,_,_,rfl,_,_,rfl,rfl,rfl,?_⟩
   walk_at "w"
   ·rename_i hji
    have hji:j≠i:=fun z=>by
     subst z
     simp at hji
    have hne:=(srt_ne so hi hf).mpr hji
    by_cases hr2:Vbbrah.isReal f=true
    ·obtain⟨dy,lo2,hc2,_⟩:=(ef.mono (sm.trans sm2)).real hr2
     refine⟨_,_,_,rfl,.ins hc2 T.k_RealEntry.cl T.isR.ha T.isR.hn T.isR.htk T.isR.hm,T.kR,_,rfl,iteT ?_⟩
     refine⟨_,rfl,_,sm2 _ _ hD,by rw[List.length_map];exact small1000 (by omega),stp (.ref c) _,os++[c],by rw[List.length_append];simp;omega,by rw[upd_same,List.map_append];rfl,?_⟩
     rw[take_snoc hf,List.filter_append]
     refine paired_append po ?_
     rw[List.filter_cons_of_pos (by simp[hne,hr2])]
     exact .cons ef .nil
    ·rw[Bool.not_eq_true]at hr2
     obtain⟨dy,hc2⟩:=(ef.mono (sm.trans sm2)).art hr2
     refine⟨_,_,_,rfl,.ins hc2 T.k_ArtificialEntry.cl T.isA.ha T.isA.hn T.isA.htk T.isA.hm,T.kA,_,rfl,iteF ?_⟩
     refine⟨sm.trans sm2,os,by omega,sm2 _ _ hD,?_⟩
     rw[take_snoc hf,List.filter_append,List.filter_cons_of_neg (by simp[hr2])]
     simpa using po
   ·rename_i hji
    have hji:j=i:=by
     simp at hji
     omega
    have hne:¬f.table≠e.table:=fun z=>(srt_ne so hi hf).mp z hji
    refine⟨sm.trans sm2,os,by omega,sm2 _ _ hD,?_⟩
    rw[take_snoc hf,List.filter_append,List.filter_cons_of_neg (by simpa using fun z=>absurd z hne)]
    simpa using po
  ·rintro H1 ⟨sm,os,hlo,hD,po⟩
   rw[List.take_length]at po
   have lo2:=Paired.length po
   refine⟨_,rfl,D,rfl,⟨_,SqL.of hD⟩,fun D2 nD2=>?_⟩
   refine lc_list (K:=K) (xs:=os.map V.ref) (fun j H'=>∃rs:List Addr,H'=upd H1 D2 (.lst (rs.map V.ref))∧rs.length≤j∧Paired (ResO H) rs ((((l.filter fun f=>f.table != e.table&&Vbbrah.isReal f).take j).filter fun f=>f.group==e.group).map (·.result))) ⟨[],rfl,Nat.zero_le _,.nil⟩ (fun j H' _ ⟨rs,e,_⟩=>by rw[e];exact(same_new nD2).seq (SqL.of hD)) ?_ ?_
   ·rintro j v H' hj ⟨rs,rfl,hlr,pr⟩
    obtain⟨c,f,hc,hf,rfl,ef⟩:=paired_at po hj
    have hfm:=List.mem_filter.mp (List.mem_of_getElem? hf)
    have hfr:Vbbrah.isReal f=true:=by
     have:=hfm.2
     simp only[Bool.and_eq_true]at this
     exact this.2
    obtain⟨dy,lo3,hc2,rf⟩:=ef.real hfr
    have hc2':=(sm.trans (same_new (o:=.lst (rs.map V.ref)) nD2)) _ _ hc2
    have hjl:j<os.length:=(List.getElem?_eq_some_iff.mp hc).1
    refine⟨rfl,?_⟩
    walk_at "w"
    ·rename_i hg
     simp only[decide_eq_true_eq,iN_inj]at hg
     refine⟨_,upd_same,by rw[List.length_map];exact small1000 (by have:=List.length_filter_le (fun f=>f.table != e.table&&Vbbrah.isReal f) l;omega),rs++[lo3],by rw[upd_upd,List.map_append];rfl,by rw[List.length_append];simp;omega,?_⟩
     rw[take_snoc hf,List.filter_append,List.map_append]
     refine paired_append pr ?_
     rw[List.filter_cons_of_pos (by simp[hg])]
     exact .cons rf .nil
    ·rename_i hg
     simp only[decide_eq_true_eq,iN_inj]at hg
     refine⟨by omega,?_⟩
     rw[take_snoc hf,List.filter_append,List.filter_cons_of_neg (by simp[hg])]
     simpa using pr
   ·rintro H' ⟨rs,rfl,hlr,pr⟩
    rw[List.length_map,lo2,List.take_length,←others_eq]at pr
    have sm3:Same H (upd H1 D2 (.lst (rs.map V.ref))):=sm.trans (same_new nD2)
    exact k _ D2 rs sm3 upd_same (Paired.mapP pr fun _ _ z=>z.mono sm3)
inductive J_real_points(T:TX K mg)(vs:List V)(H:Hp)(Q:VK):Prop
 |mk (a:Addr) (l:Vbbrah.State) (i:Nat) (e:VEnt):vs=[.ref a,iN i]→EntL T H a l→Srt l→Mth.Wt l→l[i]?=some e→Vbbrah.isReal e=true→l.length≤40→((∀f∈l,Sml f.result))→(∀(H':Hp) (q:Addr),Same H H'→H q=none→FrO H' q (Vbbrah.points l e).1→Q (.ref q) H')→J_real_points T vs H Q
noncomputable def sp_real_points(T:TX K mg):Sp:=fun vs H Q _=>J_real_points T vs H Q
theorem ok_real_points(T:TX K mg):FnOk P w K mg base CX0 3 T.f_real_points.f T.f_real_points.fd ["entries","at"] (sp_real_points T):=by
 refine okL T.f_real_points.F sc_real_points (fun vs H Q E h=>?_) (fun cdv A outer s H vs Q E hr h=>?_)
 rotate_left;intro Xc;rotate_left
 ·obtain⟨a,l,i,e,rfl,_⟩:=h
  rfl
 ·obtain⟨a,l,i,e,rfl,el,so,wt,hi,hre,hle,sm0,k⟩:=h
  have me:e∈l:=List.mem_of_getElem? hi
  have low:=Pts.real_low wt me hre
  have hol:(Mth.others l e).length≤40:=Nat.le_trans (Nat.le_trans (List.length_filter_le _ _) (List.length_filter_le _ _)) hle
  have smo:∀q∈(Mth.others l e).map (·.result),Sml q:=fun q hq=>by
   obtain⟨f,hf,rfl⟩:=List.mem_map.mp hq
   exact sm0 f (List.mem_filter.mp (List.mem_filter.mp hf).1).1
  generalize hos:(Mth.others l e).map (·.result)=os at low smo
  have hol2:os.length≤40:=by rw[←hos,List.length_map];exact hol
  obtain⟨as,hl,pp⟩:=id el
  have lp:=Paired.length pp
  obtain⟨b,hb,eb⟩:=get_paired pp hi
  obtain⟨dx,lo,hbo,ro⟩:=eb.real hre
  have a1:atI (as.map V.ref) (i:Int)=some (.ref b):=at_of (j:=i) rfl (by rw[List.getElem?_map,hb];rfl)
  refine⟨_,(pss_cons (ps_set (i:=2) sc_real_points.nd rfl (by walk_at "or") (pe_call (ok_results_to_compare T) (hr.mono (by decide)) rfl T.f_results_to_compare.m T.f_results_to_compare.F.kp T.f_results_to_compare.b .nil pass0 (pa_cons (pv 0) (pa_cons (pv 1) pa_nil)))) (pss_cons (ps_set (i:=3) sc_real_points.nd rfl (by walk_at "or") (pe_tup (pa_cons pe_int (pa_cons pe_int pa_nil)))) (pss_cons (ps_for PassesOwn.never rfl (pi_list (pv 2)) (pg_name (i:=4) sc_real_points.nd rfl (by walk_at "or")) (pss_one (ps_set (i:=3) sc_real_points.nd rfl (by walk_at "or") (pe_call (ok_plus T) (hr.mono (by decide)) rfl T.f_plus.m T.f_plus.F.kp T.f_plus.b .nil pass0 (pa_cons (pv 3) (pa_cons (pe_call (ok_mean_of_versus T) (hr.mono (by decide)) rfl T.f_mean_of_versus.m T.f_mean_of_versus.F.kp T.f_mean_of_versus.b .nil pass0 (pa_cons (pe_fld (pe_ix ix_list (pv 0) (pv 1) (fun _ _=>rfl)) rfl) (pa_cons (pv 4) pa_nil))) pa_nil)))))) (pss_cons (ps_set (i:=5) sc_real_points.nd rfl (by walk_at "or") (pe_call (ok_plus T) (hr.mono (by decide)) rfl T.f_plus.m T.f_plus.F.kp T.f_plus.b .nil pass0 (pa_cons (pv 3) (pa_cons (pe_tup (pa_cons pe_int (pa_cons pe_int pa_nil))) pa_nil)))) (pss_one (ps_ret (pe_call (ok_lowest T) (hr.mono (by decide)) rfl T.f_lowest.m T.f_lowest.F.kp T.f_lowest.b .nil pass0 (pa_cons (pe_call (ok_plus T) (hr.mono (by decide)) rfl T.f_plus.m T.f_plus.F.kp T.f_plus.b .nil pass0 (pa_cons (pe_tup (pa_cons (pe_op op_mulB (pe_ix ix_tup (pv 5) pe_int (fun _ _=>rfl)) (pe_callB call_len_seq (by rfl) T.n_len PySem.boot_len (pa_cons (pv 0) pa_nil))) (pa_cons (pe_op op_mulB (pe_ix ix_tup (pv 5) pe_int (fun _ _=>rfl)) (pe_op op_add (pe_callB call_len_seq (by rfl) T.n_len PySem.boot_len (pa_cons (pv 2) pa_nil)) pe_int)) pa_nil))) (pa_cons (pe_tup (pa_cons (pe_un un_neg pe_int) (pa_cons pe_int pa_nil))) pa_nil))) pa_nil)))))))),?_⟩
  refine⟨_,rfl,_,rfl,?_⟩
  refine⟨a,l,i,e,rfl,el,so,hi,hre,by omega,fun H1 D rs sm1 hD pr=>?_⟩
  rw[hos]at pr
  have lr:=Paired.length pr
  refine⟨nle0 rfl,fun t nt=>?_⟩
  have sm2:Same H1 (upd H1 t (.tup [.int 0,.int 1])):=same_new nt
  refine⟨_,rfl,D,rfl,⟨_,SqL.of (sm2 _ _ hD)⟩,for_list (K:=K) (xs:=rs.map V.ref) (fun j σ H'=>Same H1 H'∧∃u5 q,σ=[some (.ref a),some (iN i),some (.ref D),some (.ref q),u5,none]∧H' q=some (.tup [.int (compU e.result (os.take j)).1,iN (compU e.result (os.take j)).2])) ⟨sm2,none,t,rfl,upd_same⟩ (fun j σ H' _ ⟨s,_⟩=>SqL.of (s _ _ hD)) ?_ ?_⟩
  ·rintro j v σ H' hj ⟨sj,u5,q,rfl,hq⟩
   obtain⟨c,r,hc,hr2,rfl,rr⟩:=paired_at pr hj
   have sj':=sm1.trans sj
   have sqj:SqL K H' a (as.map V.ref):=SqL.of (sj' _ _ hl)
   have hbj:=sj' _ _ hbo
   have hjl:j<os.length:=(List.getElem?_eq_some_iff.mp hr2).1
   refine⟨_,rfl,_,rfl,_,rfl,a,_,_,_,rfl,rfl,sqj,a1,?_⟩
   walk_at "v"
   refine⟨lo,c,e.result,r,rfl,ro.mono sj',rr.mono sj,sm0 e me,smo r (List.mem_of_getElem? hr2),fun H3 t2 sm3 nt2 ht2=>?_⟩
   have bc:=Pts.compU_bt (r:=e.result) (os:=os.take j) (sm0 e me) (fun q hq=>smo q (List.mem_of_mem_take hq))
   have bm:=Pts.mean_bt (sm0 e me) (smo r (List.mem_of_getElem? hr2))
   have htl:(os.take j).length≤40:=by rw[List.length_take];omega
   refine⟨q,t2,_,_,_,_,_,_,rfl,sm3 _ _ hq,ht2,bc.1,bc.2,bm.1,bm.2,by omega,fun t3 nt3=>?_⟩
   refine⟨(sj.trans sm3).trans (same_new nt3),some (.ref c),t3,rfl,?_⟩
   rw[upd_same,take_snoc hr2,Pts.compU_snoc]
   rfl
  ·rintro σ H' ⟨sj,u5,q,rfl,hq⟩
   rw[List.length_map,lr,List.take_length]at hq
   have bc:=Pts.compU_bt (r:=e.result) (os:=os) (sm0 e me) smo
   refine⟨_,rfl,nle0 rfl,fun t1 n1=>?_⟩
   have s1:Same H' (upd H' t1 (.tup [.int 1,.int 1])):=same_new n1
   refine⟨q,t1,_,_,_,1,_,1,rfl,s1 _ _ hq,upd_same,bc.1,bc.2,by decide,by decide,by omega,fun t2 n2=>?_⟩
   generalize hG:upd (upd H' t1 (.tup [.int 1,.int 1])) t2 _=G
   have s2:Same H' G:=by rw[←hG];exact s1.trans (same_new n2)
   have ht2:G t2=some (.tup [.int (plusU (compU e.result os) (1,1)).1,iN (plusU (compU e.result os) (1,1)).2]):=by
    rw[←hG,upd_same]
    rfl
   clear hG
   have sG:=(sm1.trans sj).trans s2
   have sq2:SqT K G t2 [.int (plusU (compU e.result os) (1,1)).1,iN (plusU (compU e.result os) (1,1)).2]:=SqT.of ht2
   have sqa:SqL K G a (as.map V.ref):=SqL.of (sG _ _ hl)
   have sqD:SqL K G D (rs.map V.ref):=SqL.of ((sj.trans s2) _ _ hD)
   have ba:=bc.plus (show Bt 1 (1,1)from⟨by decide,by decide⟩)
   walk_at "v"
   refine⟨a,_,rfl,.inl sqa,?_⟩
   walk_at "v"
   rw[List.length_map,lp]
   refine⟨⟨_,9,ba.1,by rw[Int.natAbs_natCast];omega,by omega⟩,?_⟩
   walk_at "v"
   refine⟨D,_,rfl,.inl sqD,?_⟩
   walk_at "v"
   rw[List.length_map,lr]
   refine⟨⟨_,9,by rw[Int.natAbs_natCast];exact ba.2,by omega,by omega⟩,?_⟩
   refine⟨nle0 rfl,fun t3 n3=>?_⟩
   have bt:=ba.times (n:=9) (a:=l.length) (b:=os.length+1) (by omega) (by omega)
   have br:=Pts.realU_bt (N:=l.length) (sm0 e me) smo (by omega) (by omega)
   have hc:((plusU (compU e.result os) (1,1)).2:Int)*((os.length:Int)+1)=(((plusU (compU e.result os) (1,1)).2*(os.length+1):Nat):Int):=by
    rw[Int.natCast_mul]
    rfl
   generalize hG2:upd G t3 _=G2
   have s3:Same G G2:=by rw[←hG2];exact same_new n3
   have ht3:G2 t3=some (.tup [.int ((plusU (compU e.result os) (1,1)).1*(l.length:Int)),iN ((plusU (compU e.result os) (1,1)).2*(os.length+1))]):=by
    rw[←hG2,upd_same]
    show some (HO.tup [_,V.int (((plusU (compU e.result os) (1,1)).2:Int)*((os.length:Int)+1))])=_
    rw[hc]
   clear hG2
   walk_at "v"
   refine⟨nle0 rfl,fun t4 n4=>?_⟩
   refine⟨t3,t4,_,_,_,1,_,1,rfl,same_new n4 _ _ ht3,upd_same,bt.1,bt.2,by decide,by decide,by omega,fun t5 n5=>?_⟩
   refine⟨t5,(realU l.length e.result os).1,(realU l.length e.result os).2,_,rfl,upd_same,Nat.pos_of_ne_zero low.2,br.1,br.2,by omega,fun t6 n6=>?_⟩
   refine k _ t6 (((sG.trans (s3.trans (same_new n4))).trans (same_new n5)).trans (same_new n6)) (Same.free ((sG.trans (s3.trans (same_new n4))).trans (same_new n5)) n6) ?_
   show upd _ t6 _ t6=_
   rw[upd_same,low.1]
inductive J_both_points(T:TX K mg)(vs:List V)(H:Hp)(Q:VK):Prop
 |mk (a:Addr) (l:Vbbrah.State) (i:Nat) (e:VEnt):vs=[.ref a,iN i,iN (Vbbrah.top l)]→EntL T H a l→Srt l→Mth.Wt l→l[i]?=some e→l.length≤40→((∀f∈l,Sml f.result))→e.ns≤100→e.ew≤100→(∀(H':Hp) (q p1 p2:Addr),Same H H'→H p1=none→H p2=none→H' q=some (.tup [.ref p1,.ref p2])→FrO H' p1 (Vbbrah.points l e).1→FrO H' p2 (Vbbrah.points l e).2→Q (.ref q) H')→J_both_points T vs H Q
noncomputable def sp_both_points(T:TX K mg):Sp:=fun vs H Q _=>J_both_points T vs H Q
theorem top_le{l:Vbbrah.State}(h:l.length≤40):Vbbrah.top l≤80:=by
 unfold Vbbrah.top
 omega
theorem ok_both_points(T:TX K mg):FnOk P w K mg base CX0 4 T.f_both_points.f T.f_both_points.fd ["entries","at","top"] (sp_both_points T):=by
 refine okL T.f_both_points.F sc_both_points (fun vs H Q E h=>?_) (fun cdv A outer s H vs Q E hr h=>?_)
 rotate_left;intro Xc;rotate_left
 ·obtain⟨a,l,i,e,rfl,_⟩:=h
  rfl
 ·obtain⟨a,l,i,e,rfl,el,so,wt,hi,hle,sm0,hns,hew,k⟩:=h
  have me:e∈l:=List.mem_of_getElem? hi
  have tl:=top_le hle
  obtain⟨as,hl,pp⟩:=id el
  have lp:=Paired.length pp
  obtain⟨b,hb,eb⟩:=get_paired pp hi
  have a1:atI (as.map V.ref) (i:Int)=some (.ref b):=at_of (j:=i) rfl (by rw[List.getElem?_map,hb];rfl)
  have sq:SqL K H a (as.map V.ref):=SqL.of hl
  refine⟨_,(pss_cons (ps_set (i:=3) sc_both_points.nd rfl (by walk_at "or") (pe_ix ix_list (pv 0) (pv 1) (fun _ _=>rfl))) (pss_cons (ps_if (pt_val (pe_callB (call_isi (C:=T.k_RealEntry.C)) (by rfl) T.n_isinstance boot_isinstance (pa_cons (pv 3) (pa_cons (pe_glob (v:=.ref T.k_RealEntry.C) rfl T.k_RealEntry.m rfl) pa_nil)))) (pss_cons (ps_set (i:=4) sc_both_points.nd rfl (by walk_at "or") (pe_call (ok_real_points T) (hr.mono (by decide)) rfl T.f_real_points.m T.f_real_points.F.kp T.f_real_points.b .nil pass0 (pa_cons (pv 0) (pa_cons (pv 1) pa_nil)))) (pss_one (ps_ret (pe_tup (pa_cons (pv 4) (pa_cons (pe_tup (pa_cons (pe_op op_sub (pe_op op_mulB (pv 2) (pe_ix ix_tup (pv 4) pe_int (fun _ _=>rfl))) (pe_ix ix_tup (pv 4) pe_int (fun _ _=>rfl))) (pa_cons (pe_ix ix_tup (pv 4) pe_int (fun _ _=>rfl)) pa_nil))) pa_nil)))))) pss_nil) (pss_one (ps_ret (pe_tup (pa_cons (pe_call (ok_lowest T) (hr.mono (by decide)) rfl T.f_lowest.m T.f_lowest.F.kp T.f_lowest.b .nil pass0 (pa_cons (pe_tup (pa_cons (pe_op op_mul (pe_fld (pv 3) rfl) (pv 2)) (pa_cons pe_int pa_nil))) pa_nil)) (pa_cons (pe_call (ok_lowest T) (hr.mono (by decide)) rfl T.f_lowest.m T.f_lowest.F.kp T.f_lowest.b .nil pass0 (pa_cons (pe_tup (pa_cons (pe_op op_mul (pe_fld (pv 3) rfl) (pv 2)) (pa_cons pe_int pa_nil))) pa_nil)) pa_nil))))))),?_⟩
  refine⟨_,rfl,_,rfl,a,_,_,_,rfl,rfl,sq,a1,?_⟩
  by_cases hre:Vbbrah.isReal e=true
  ·obtain⟨dx,lo,hbo,ro⟩:=eb.real hre
   walk_at "v"
   refine⟨_,_,_,rfl,.ins hbo T.k_RealEntry.cl T.isR.ha T.isR.hn T.isR.htk T.isR.hm,T.kR,_,rfl,iteT ?_⟩
   refine⟨_,rfl,_,rfl,?_⟩
   refine⟨a,l,i,e,rfl,el,so,wt,hi,hre,hle,sm0,fun H1 p1 sm1 np1 fr1=>?_⟩
   have sqp:SqT K H1 p1 [.int (Vbbrah.points l e).1.1,iN (Vbbrah.points l e).1.2]:=SqT.of fr1
   have low:=Pts.real_low wt me hre
   have hol:(Mth.others l e).length≤40:=Nat.le_trans (Nat.le_trans (List.length_filter_le _ _) (List.length_filter_le _ _)) hle
   have smo:∀q∈(Mth.others l e).map (·.result),Sml q:=fun q hq=>by
    obtain⟨f,hf,rfl⟩:=List.mem_map.mp hq
    exact sm0 f (List.mem_filter.mp (List.mem_filter.mp hf).1).1
   have br:=(Pts.realU_bt (N:=l.length) (sm0 e me) smo (by omega) (by rw[List.length_map];omega)).low low.2
   rw[low.1]at br
   have po:=Pts.real_other wt me hre
   walk_at "v"
   rw[List.length_map]at br
   refine⟨⟨9,_,by rw[Int.natAbs_natCast];omega,by rw[Int.natAbs_natCast];exact br.2,by omega⟩,?_⟩
   walk_at "v"
   refine⟨nle0 rfl,fun p2 n2=>?_⟩
   refine⟨nle0 rfl,fun q nq=>?_⟩
   refine k _ q p1 p2 ((sm1.trans (same_new n2)).trans (same_new nq)) np1 (sm1.free n2) upd_same (same_new nq _ _ (same_new n2 _ _ fr1)) ?_
   refine same_new nq _ _ ?_
   rw[upd_same,po]
  ·rw[Bool.not_eq_true]at hre
   obtain⟨dx,hbo⟩:=eb.art hre
   have hpt:Vbbrah.points l e=(Vbbrah.lowest (((e.ns*Vbbrah.top l:Nat):Int),100),Vbbrah.lowest (((e.ew*Vbbrah.top l:Nat):Int),100)):=by
    unfold Vbbrah.points
    rw[hre]
    rfl
   walk_at "v"
   refine⟨_,_,_,rfl,.ins hbo T.k_ArtificialEntry.cl T.isA.ha T.isA.hn T.isA.htk T.isA.hm,T.kA,_,rfl,iteF ?_⟩
   walk_at "v"
   have m1:e.ns*Vbbrah.top l≤100*80:=Nat.mul_le_mul hns tl
   have m2:e.ew*Vbbrah.top l≤100*80:=Nat.mul_le_mul hew tl
   refine⟨.inl ⟨by omega,by omega⟩,?_⟩
   walk_at "v"
   refine⟨nle0 rfl,fun t1 n1=>?_⟩
   refine⟨t1,((e.ns*Vbbrah.top l:Nat):Int),100,14,rfl,upd_same.trans ?_,by decide,by rw[Int.natAbs_natCast];omega,by decide,by decide,fun p1 np1=>?_⟩
   ·show some (HO.tup [V.int ((e.ns:Int)*(Vbbrah.top l:Int)),_])=_
    rw[Int.natCast_mul]
    rfl
   generalize hG:upd (upd H t1 _) p1 _=G
   have sG:Same H G:=by rw[←hG];exact(same_new n1).trans (same_new np1)
   have hp1:H p1=none:=Same.free (same_new n1) np1
   have fr1:FrO G p1 (Vbbrah.points l e).1:=by
    rw[hpt,←hG]
    exact upd_same
   have hbo2:=sG _ _ hbo
   clear hG
   walk_at "v"
   refine⟨.inl ⟨by omega,by omega⟩,?_⟩
   walk_at "v"
   refine⟨nle0 rfl,fun t2 n2=>?_⟩
   refine⟨t2,((e.ew*Vbbrah.top l:Nat):Int),100,14,rfl,upd_same.trans ?_,by decide,by rw[Int.natAbs_natCast];omega,by decide,by decide,fun p2 np2=>?_⟩
   ·show some (HO.tup [V.int ((e.ew:Int)*(Vbbrah.top l:Int)),_])=_
    rw[Int.natCast_mul]
    rfl
   refine⟨nle0 rfl,fun q nq=>?_⟩
   refine k _ q p1 p2 (((sG.trans (same_new n2)).trans (same_new np2)).trans (same_new nq)) hp1 (Same.free (sG.trans (same_new n2)) np2) upd_same (same_new nq _ _ (same_new np2 _ _ (same_new n2 _ _ fr1))) ?_
   refine same_new nq _ _ ?_
   rw[upd_same,hpt]
end
end
section
open Vbbraj (State Sitting)
open Sti (SInv Srt)
open Pts (totU meanU compU realU plusU Bt Sml)
section
variable {P:Program}{w:World}{K:PySem.W.Frag}{mg:Str→Option Value}{base:Heap}
theorem kf_north_south_pair(T:TX K mg):KeyFn K T.f_north_south_pair.f "ns":=by
 intro P w A E s Q a dx C mA k t KX lim hd O cl na hu hQ
 obtain⟨oc,od,kV,doc,pm,an,cdv,ct,osl,e,lk,hcd⟩:=T.f_north_south_pair.F.ex
 have hb:=T.f_north_south_pair.b s [.ref a] KX rfl
 rw[e]at hb lk
 refine wpAny_call ?_
 refine Att.call_fn (binds:=[("sitting",.ref a)]) KX lim lk hcd hd hb (by rfl) (fun s1 ic=>?_) rfl rfl rfl
 obtain⟨h1,tk1,e1⟩:=ic.toInCall.same
 have kp:=ic.toInCall.keep
 have O1:ObjM s1.heap a dx C mA:=⟨kp _ _ O.obj,O.ns.at fun o q=>kp _ _ q,O.ne⟩
 have KX1:K.In s1.heap:=KX.keeps kp
 refine wpAny_execs_cons (wpAny_Return_some (attr_of rfl (wpAny_Name (wpAny_loadName_local rfl rfl ic.toInCall.ns rfl ?_) (by decide))))
 refine get_map KX1 O1 (cl.get "ns") cl.hd na hu rfl ?_
 subst e1
 exact hQ _ _ kp
theorem pe_sortK2{X:Cx}{e:Expr}{te:TE}{g fld:Str}{f:Addr}{p p' kpos pos:Pos}(hr:X.A.depth<recursionLimit)(hg:Gl X "sorted")(hm:X.mg "sorted" = none)(hgk:Gl X g)(hmk:X.mg g=some (.ref f))(kf:KeyFn X.K f fld)(he:PE X e te)
  (hdb:(g==("__debug__" : Str))=false:=by decide) (h1:backTo pos (starEach [e] X.env)=[(false,eval e X.env)]:=by rfl):
  PE X (.Call (.Name "sorted" p) [e] [⟨some "key",.Name g p',kpos⟩] pos) (tSortK X.K fld te):=by
 intro pins s σ H Q I h
 refine wpAny_Call_Name_kw (ld_blt I hg hm boot_sorted ?_)
 refine callWith_kw ?_ h1 (by rw[h1];rfl) rfl rfl
 rw[h1]
 refine Calls.spliced_cons (thn (he pins s σ H _ I h) fun u s1 ⟨x,H1,I1,rx,l,C,as,ks,ex,hs,cl,na,hp,q⟩=>Calls.spliced_nil ?_)
 subst ex
 cases (show u=Value.ref l from rx)
 show wpAny _ _ (evalAll [do let v ←eval (.Name g p') X.env;standAt pos;pure v]) _ _ s1
 refine wpAny_evalAll_cons (wpAny_bind (ld_glob I1 hgk hmk (wpAny_bind (wpAny_standAt (wpAny_pure (wpAny_evalAll_nil ?_)))) hdb))
 exact sortK I1 hr kf hs cl na hp q
structure EvM(T:TX K mg)(Z:Addr→Bool)(H:Hp)(s:State)(c:Nat)(A:EvA)(b0:Nat):Prop where
 nd:A.own.Nodup
 zo:∀b∈A.own,Z b=false
 zt:∀b,Z b=true→H b≠none
 hp:∃dx,H A.p=some (.ins T.k_Event.C dx (fsEv s c A))
 hs:∃as:List Addr,H A.sits=some (.lst (as.map V.ref))∧Paired (SitO T (hid A Z H)) as s.sittings
 he:∃kvs,H A.ents=some (.dT kvs)∧EntsR T (hid A Z H) s kvs
 hh:∃kvs:List (Key×V),H A.shts=some (.dK kvs)∧(∀b:Nat,b≠b0→1≤b→b≤s.boards→match valV kvs (.inl (b:Int))with
  |none=>Vbbraj.sheet s b=[]
  |some v=>∃a,v=.ref a∧SheetO T (hid A Z H) s b a)∧(∀kv∈kvs,∃b:Nat,kv.1=.inl (b:Int)∧1≤b∧b≤s.boards)∧(kvs.map (·.1)).Nodup
 ha:∃kvs,H A.adjs=some (.dK kvs)∧AdjR s kvs
 hq:∃ps:List Addr,H A.apps=some (.lst (ps.map V.ref))∧Paired (PlO (hid A Z H)) ps s.appeals
 ho:∃ps:List Addr,H A.post=some (.lst (ps.map V.ref))∧Paired (PostO (hid A Z H)) ps s.posted
theorem EvM.grow{T:TX K mg}{Z:Addr→Bool}{H H':Hp}{s:State}{c:Nat}{A:EvA}{b0:Nat}(h:Same H H')(E:EvM T Z H s c A b0):EvM T Z H' s c A b0:=by
 have hm:Same (hid A Z H) (hid A Z H'):=hid_mono h
 refine⟨E.nd,E.zo,fun b hb=>?_,?_,?_,?_,?_,?_,?_,?_⟩
 ·cases e:H b with
  |none=>exact absurd e (E.zt b hb)
  |some o=>rw[h b o e];simp
 ·obtain⟨dx,e⟩:=E.hp
  exact⟨dx,h _ _ e⟩
 ·obtain⟨as,e,q⟩:=E.hs
  exact⟨as,h _ _ e,Paired.mapP q fun _ _ z=>z.mono hm⟩
 ·obtain⟨kvs,e,q⟩:=E.he
  exact⟨kvs,h _ _ e,q.mono hm⟩
 ·obtain⟨kvs,e,q,q2⟩:=E.hh
  refine⟨kvs,h _ _ e,fun b hb h1 h2=>?_,q2⟩
  have:=q b hb h1 h2
  split
  ·rename_i e
   rw[e]at this
   exact this
  ·rename_i v e
   rw[e]at this
   obtain⟨a,e1,e2⟩:=this
   exact⟨a,e1,e2.mono hm⟩
 ·obtain⟨kvs,e,q⟩:=E.ha
  exact⟨kvs,h _ _ e,q⟩
 ·obtain⟨ps,e,q⟩:=E.hq
  exact⟨ps,h _ _ e,Paired.mapP q fun _ _ z=>hm _ _ z⟩
 ·obtain⟨ps,e,q⟩:=E.ho
  exact⟨ps,h _ _ e,Paired.mapP q fun _ _ z=>hm _ _ z⟩
theorem EvM.fresh{T:TX K mg}{Z:Addr→Bool}{H:Hp}{s:State}{c:Nat}{A:EvA}{b0:Nat}(E:EvM T Z H s c A b0){b:Addr}(h:H b=none):b∉A.own∧Z b=false:=by
 constructor
 ·intro hb
  simp only[EvA.own,List.mem_cons,List.not_mem_nil,or_false]at hb
  obtain⟨dx,e1⟩:=E.hp
  obtain⟨_,e2,_⟩:=E.hs
  obtain⟨_,e3,_⟩:=E.he
  obtain⟨_,e4,_⟩:=E.hh
  obtain⟨_,e5,_⟩:=E.ha
  obtain⟨_,e6,_⟩:=E.hq
  obtain⟨_,e7,_⟩:=E.ho
  rcases hb with rfl|rfl|rfl|rfl|rfl|rfl|rfl
  ·rw[e1]at h;cases h
  ·rw[e2]at h;cases h
  ·rw[e3]at h;cases h
  ·rw[e4]at h;cases h
  ·rw[e5]at h;cases h
  ·rw[e6]at h;cases h
  ·rw[e7]at h;cases h
 ·cases e:Z b with
  |false=>rfl
  |true=>exact absurd h (E.zt b e)
theorem EvO.toM{T:TX K mg}{Z:Addr→Bool}{H:Hp}{s:State}{c:Nat}{A:EvA}(E:EvO T Z H s c A)(b0:Nat):EvM T Z H s c A b0:=
 ⟨E.nd,E.zo,E.zt,E.hp,E.hs,E.he,let⟨kvs,e,R⟩:=E.hh;⟨kvs,e,fun b _ h1 h2=>R.at_ b h1 h2,R.key,R.nd⟩,E.ha,E.hq,E.ho⟩
inductive J_place_in(T:TX K mg)(vs:List V)(H:Hp)(Q:VK):Prop
 |mk (a:Addr) (x:Sitting) (b:Nat):vs=[.ref a,iN b]→SitO T H a x→(∀q,H q=none→Q (.ref q) (upd H q (.tup [iN x.round,iN x.table,iN b])))→J_place_in T vs H Q
noncomputable def sp_place_in(T:TX K mg):Sp:=fun vs H Q _=>J_place_in T vs H Q
theorem ok_place_in(T:TX K mg):FnOk P w K mg base CX0 1 T.f_place_in.f T.f_place_in.fd ["sitting","board"] (sp_place_in T):=by
 refine okL T.f_place_in.F sc_place_in (fun vs H Q E h=>?_) (fun cdv A outer s H vs Q E hr h=>?_)
 rotate_left;intro Xc;rotate_left
 ·obtain⟨a,x,b,rfl,_⟩:=h
  rfl
 ·obtain⟨a,x,b,rfl,⟨dx,hx⟩,k⟩:=h
  refine⟨_,(pss_one (ps_ret (pe_tup (pa_cons (pe_fld (pv 0) rfl) (pa_cons (pe_fld (pv 0) rfl) (pa_cons (pv 1) pa_nil)))))),?_⟩
  walk_at "v"
  exact⟨nle0 rfl,fun q nq=>k q nq⟩
theorem plKey_inj{r t b r' t' b':Nat}(h:plKey r t b=plKey r' t' b'):r=r'∧t=t'∧b=b':=by
 simp only[plKey,List.cons.injEq,Sum.inl.injEq,and_true]at h
 omega
theorem ents_has{T:TX K mg}{L:Hp}{s:State}{kvs:List (List Key×V)}(R:EntsR T L s kvs)(si:SInv s){x:Sitting}(hx:x∈s.sittings)(b:Nat):
  (valV kvs (plKey x.round x.table b)).isSome=(Vbbraj.hasBoard x b&&(Vbbrah.entryOf (Vbbraj.sheet s b) x.ns).isSome):=by
 cases hb:Vbbraj.hasBoard x b with
 |true=>
  have:=R.at_ x hx b hb
  unfold EntAt at this
  split at this
  ·rename_i e1 e2
   rw[e1,e2]
   rfl
  ·rename_i e1 e2
   rw[e1,e2]
   rfl
  ·cases this
 |false=>
  cases e:valV kvs (plKey x.round x.table b)with
  |none=>rfl
  |some v=>
   obtain⟨y,hy,b',hb',ek⟩:=R.key _ _ e
   obtain⟨h1,h2,rfl⟩:=plKey_inj ek
   have:=Sti.one_rt si hx hy h1 h2
   subst this
   rw[hb']at hb
   cases hb
theorem sorted_pairs{G:Addr→Sitting→Prop}{as:List Addr}{ys:List Sitting}(p:Paired G as ys){qs:List (Int×Addr)}(hp:qs.Perm ((ys.map fun x=>(x.ns:Int)).zip as)):∃xs:List Sitting,xs.Perm ys∧Paired G (qs.map (·.2)) xs∧qs.map (·.1)=xs.map fun x=>(x.ns:Int):=by
 have e:∀{as:List Addr} {ys:List Sitting},Paired G as ys→(ys.map fun x=>(x.ns:Int)).zip as=(as.zip ys).map (fun q=>((q.2.ns:Int),q.1))∧(as.zip ys).map (·.2)=ys∧∀q∈as.zip ys,G q.1 q.2:=by
  intro as ys p
  induction p with
  |nil=>exact⟨rfl,rfl,fun q h=>by cases h⟩
  |cons g _ ih=>
   obtain⟨i1,i2,i3⟩:=ih
   refine⟨?_,?_,fun q h=>?_⟩
   ·simp[i1]
   ·simp[i2]
   ·rcases List.mem_cons.mp h with rfl|h
    ·exact g
    ·exact i3 q h
 obtain⟨e1,e2,e3⟩:=e p
 obtain⟨M,pm,rfl⟩:=perm_map hp _ e1
 refine⟨M.map (·.2),?_,?_,?_⟩
 ·have:=pm.map (·.2)
  rwa[e2]at this
 ·have:∀q∈M,G q.1 q.2:=fun q hq=>e3 q (pm.mem_iff.mp hq)
  clear pm hp
  induction M with
  |nil=>exact .nil
  |cons q M ih=>exact .cons (this q (by simp)) (ih fun z hz=>this z (by simp[hz]))
 ·rw[List.map_map,List.map_map]
  rfl
theorem strict_eq{l m:List Nat}(hl:l.Pairwise (· < ·))(hm:m.Pairwise (· < ·))(h:∀a,a∈l↔a∈m):l=m:=by
 have nl:l.Nodup:=hl.imp fun h=>Nat.ne_of_lt h
 have nm:m.Nodup:=hm.imp fun h=>Nat.ne_of_lt h
 exact List.Perm.eq_of_pairwise (fun a b _ _ h1 h2=>absurd h1 (by omega)) hl hm ((List.perm_ext_iff_of_nodup nl nm).mpr h)
noncomputable def inBd(s:State)(b:Nat)(x:Sitting):Bool:=Vbbraj.hasBoard x b&&(Vbbrah.entryOf (Vbbraj.sheet s b) x.ns).isSome
theorem sheet_order{s:State}(si:SInv s){b:Nat}{xs:List Sitting}(hp:xs.Perm (s.sittings.filter (inBd s b)))(ho:xs.Pairwise fun x y=>x.ns≤y.ns):
  xs.map (·.ns)=(Vbbraj.sheet s b).map (·.table)∧∀x∈xs,x∈s.sittings∧Vbbraj.hasBoard x b=true:=by
 have mem:∀x∈xs,x∈s.sittings∧inBd s b x=true:=fun x hx=>List.mem_filter.mp (hp.mem_iff.mp hx)
 have hb:∀x∈xs,x∈s.sittings∧Vbbraj.hasBoard x b=true:=fun x hx=>by
  obtain⟨h1,h2⟩:=mem x hx
  simp only[inBd,Bool.and_eq_true]at h2
  exact⟨h1,h2.1⟩
 refine⟨strict_eq ?_ ?_ fun a=>?_,hb⟩
 ·have nd:s.sittings.Nodup:=si.sa.imp fun{x y} h z=>h.rt (by rw[z];exact⟨rfl,rfl⟩)
  have nx:xs.Nodup:=hp.nodup_iff.mpr (nd.filter _)
  rw[List.pairwise_map]
  refine List.Pairwise.imp_of_mem ?_ (ho.and nx)
  rintro x y hx hy ⟨h1,h2⟩
  have:x.ns≠y.ns:=fun z=>h2 (Sti.one_nb si (hb x hx).1 (hb y hy).1 z (hb x hx).2 (hb y hy).2)
  omega
 ·rw[List.pairwise_map]
  exact si.sr b
 ·constructor
  ·intro ha
   obtain⟨x,hx,rfl⟩:=List.mem_map.mp ha
   obtain⟨_,h2⟩:=mem x hx
   simp only[inBd,Bool.and_eq_true]at h2
   obtain⟨e,he⟩:=Option.isSome_iff_exists.mp h2.2
   obtain⟨me,te⟩:=Sti.entryOf_some he
   exact List.mem_map.mpr ⟨e,me,te⟩
  ·intro ha
   obtain⟨e,me,rfl⟩:=List.mem_map.mp ha
   obtain⟨x,hx,hn,hB⟩:=si.si b e me
   refine List.mem_map.mpr ⟨x,hp.mem_iff.mpr (List.mem_filter.mpr ⟨hx,?_⟩),hn⟩
   obtain⟨e',he⟩:=entryOf_mem me
   simp[inBd,hB,hn,he]
inductive J_sittings_entered(T:TX K mg)(vs:List V)(H:Hp)(Q:VK):Prop
 |mk (A:EvA) (s:State) (c:Nat) (Z:Addr→Bool) (b:Nat):vs=[.ref A.p,iN b]→EvM T Z H s c A b→SInv s→s.sittings.length≤1000→(∀(H':Hp) (D:Addr) (cs:List Addr) (xs:List Sitting),Same H H'→H' D=some (.lst (cs.map V.ref))→Paired (SitO T H') cs xs→xs.map (·.ns)=(Vbbraj.sheet s b).map (·.table)→(∀x∈xs,x∈s.sittings∧Vbbraj.hasBoard x b=true)→Q (.ref D) H')→J_sittings_entered T vs H Q
noncomputable def sp_sittings_entered(T:TX K mg):Sp:=fun vs H Q _=>J_sittings_entered T vs H Q
theorem ok_sittings_entered(T:TX K mg):FnOk P w K mg base CX0 2 T.f_sittings_entered.f T.f_sittings_entered.fd ["event","board"] (sp_sittings_entered T):=by
 refine okL T.f_sittings_entered.F sc_sittings_entered (fun vs H Q E h=>?_) (fun cdv A outer s H vs Q E hr h=>?_)
 rotate_left;intro Xc;rotate_left
 ·obtain⟨A,s,c,Z,b,rfl,_⟩:=h
  rfl
 ·obtain⟨B,s,c,Z,b,rfl,ev,si,hlen,k⟩:=h
  obtain⟨dp,hp⟩:=ev.hp
  obtain⟨as,hs,ps⟩:=ev.hs
  obtain⟨kvs,he,R⟩:=ev.he
  have lp:=Paired.length ps
  refine⟨_,(pss_cons (ps_setLc (i:=2) rfl sc_sittings_entered.nd rfl rfl (sw_true rfl rfl rfl rfl) (pi_list (pe_fld (pv 0) rfl)) (blkOk_by (own:=[("sitting",3)]) (by rfl)) (fun _ _ _ _ _=>(pg_name (i:=3) sc_sittings_entered.nd rfl (by walk_at "or"))) (fun _ _ _ _ _=>(pts_one (pt_cmp (pc_din (hu_of hr) (pe_callA (ok_place_in T) (hr.mono (by decide)) T.f_place_in.m T.f_place_in.F.kp T.f_place_in.b .nil pass0 (pa_cons (pv 3) (pa_cons (pv 1) pa_nil))) (pe_fldC K (pv 0))) (by with_unfolding_all rfl)))) (fun _ _ _ _ _=>(pv 3))) (pss_one (ps_ret (pe_sortK2 hr.depth rfl T.n_sorted rfl T.f_north_south_pair.m (kf_north_south_pair T) (pv 2))))),?_⟩
  walk_at "v"
  refine⟨⟨_,SqL.of hs⟩,fun D nD=>?_⟩
  refine lc_list (K:=K) (xs:=as.map V.ref) (fun i H'=>Same H H'∧∃as':List Addr,H' D=some (.lst (as'.map V.ref))∧as'.length≤i∧Paired (SitO T H) as' ((s.sittings.take i).filter (inBd s b))) ⟨same_new nD,[],upd_same,Nat.zero_le _,.nil⟩ (fun i H' _ ⟨sm,_⟩=>SqL.of (sm _ _ hs)) ?_ ?_
  ·rintro i v H' hi ⟨sm,as',hD,hla,pa⟩
   obtain⟨d,y,hd,hy,rfl,sy0⟩:=paired_at ps hi
   have sy:=sy0.mono (hid_sub.trans sm)
   have hli:i<s.sittings.length:=(List.getElem?_eq_some_iff.mp hy).1
   refine⟨rfl,?_⟩
   walk_at "v"
   refine⟨d,y,b,rfl,sy,fun q nq=>?_⟩
   have hp2:=same_new (o:=.tup [iN y.round,iN y.table,iN b]) nq _ _ (sm _ _ hp)
   have he2:=same_new (o:=.tup [iN y.round,iN y.table,iN b]) nq _ _ (sm _ _ he)
   have hD2:=same_new (o:=.tup [iN y.round,iN y.table,iN b]) nq _ _ hD
   have sm2:=sm.trans (same_new (o:=.tup [iN y.round,iN y.table,iN b]) nq)
   have hq2:upd H' q (.tup [iN y.round,iN y.table,iN b]) q=some (.tup ((plKey y.round y.table b).map kV)):=upd_same
   generalize upd H' q (.tup [iN y.round,iN y.table,iN b])=G at hp2 he2 hD2 sm2 hq2 ⊢
   walk_at "v"
   refine⟨_,_,rfl,DGet.t he2 hq2,_,rfl,?_⟩
   rw[ents_has R si (List.mem_of_getElem? hy) b]
   refine ite2 (fun h=>?_) (fun h=>?_)
   ·refine⟨_,rfl,_,hD2,by rw[List.length_map];exact small1000 (by omega),?_,as'++[d],by rw[upd_same,List.map_append];rfl,by rw[List.length_append];simp;omega,?_⟩
    ·intro z o e
     rw[upd_ne (ne_of_none e nD)]
     exact sm2 _ _ e
    ·rw[take_snoc hy,List.filter_append,List.filter_cons_of_pos (p:=inBd s b) h]
     exact paired_append pa (.cons (sy0.mono hid_sub) .nil)
   ·refine⟨sm2,as',hD2,by omega,?_⟩
    rw[take_snoc hy,List.filter_append,List.filter_cons_of_neg (p:=inBd s b) h]
    simpa using pa
  ·rintro H' ⟨sm,as',hD,hla,pa⟩
   rw[List.length_map,lp,List.take_length]at pa
   refine⟨_,rfl,D,T.k_Sitting.C,as',(s.sittings.filter (inBd s b)).map (fun x=>(x.ns:Int)),rfl,SqL.of hD,T.k_Sitting.cl,T.k_Sitting.na _ rfl,?_,fun qs p np pm pw=>?_⟩
   ·have:Paired (fun a (x:Sitting)=>∃dx fs,H' a=some (.ins T.k_Sitting.C dx fs)∧fs.lookup ("ns" : Str)=some (.int (x.ns:Int))) as' (s.sittings.filter (inBd s b)):=Paired.mapP pa fun a x ⟨dx,h⟩=>⟨dx,_,sm _ _ h,rfl⟩
    generalize s.sittings.filter (inBd s b)=ys at this
    clear pa hla hD
    induction this with
    |nil=>exact .nil
    |cons g _ ih=>exact .cons g ih
   ·obtain⟨xs,xp,xg,xk⟩:=sorted_pairs pa pm
    have ho:xs.Pairwise fun x y=>x.ns≤y.ns:=by
     have h1:(qs.map (·.1)).Pairwise (·≤·):=List.pairwise_map.mpr pw
     rw[xk]at h1
     exact(List.pairwise_map.mp h1).imp fun h=>by omega
    obtain⟨o1,o2⟩:=sheet_order si xp ho
    have sm2:=sm.trans (same_new (o:=.lst (qs.map fun q=>V.ref q.2)) np)
    refine k _ p (qs.map (·.2)) xs sm2 (by rw[upd_same,List.map_map];rfl) (Paired.mapP xg fun a x h=>h.mono sm2) o1 o2
end
end
section
open Vbbraj (State Sitting)
open Sti (SInv Srt)
open Pts (totU meanU compU realU plusU Bt Sml)
section
variable {P:Program}{w:World}{K:PySem.W.Frag}{mg:Str→Option Value}{base:Heap}
theorem strict_len:∀{l:List Nat} {n:Nat},l.Pairwise (· < ·)→(∀a∈l,1≤a∧a≤n)→l.length≤n:=fun{l n} h hb=>by
 have gen:∀(l:List Nat) (m:Nat),l.Pairwise (· < ·)→(∀a∈l,m<a∧a≤n)→m≤n→l.length+m≤n:=by
  intro l
  induction l with
  |nil=>intro m _ _ hm;simpa using hm
  |cons a l ih=>
   intro m hp hq hm
   obtain⟨h1,h2⟩:=List.pairwise_cons.mp hp
   have ha:=hq a (by simp)
   have:=ih a h2 (fun c hc=>⟨h1 c hc,(hq c (by simp[hc])).2⟩) ha.2
   rw[List.length_cons]
   omega
 have:=gen l 0 h (fun a ha=>by have:=hb a ha;omega) (Nat.zero_le _)
 omega
theorem sheet_len{s:State}(si:SInv s)(b:Nat):(Vbbraj.sheet s b).length≤40:=by
 have:=strict_len (l:=(Vbbraj.sheet s b).map (·.table)) (n:=40) (by rw[List.pairwise_map];exact si.sr b) fun a ha=>by
  obtain⟨e,he,rfl⟩:=List.mem_map.mp ha
  obtain⟨x,hx,hn,_⟩:=si.si b e he
  have o:=si.so x hx
  have:=o.n1
  have:=o.n2
  have:=si.p2
  omega
 rwa[List.length_map]at this
theorem entry_of{l:Vbbrah.State}(h:Srt l){e:VEnt}(he:e∈l):Vbbrah.entryOf l e.table=some e:=by
 obtain⟨e',h'⟩:=entryOf_mem he
 obtain⟨m',t'⟩:=Sti.entryOf_some h'
 obtain⟨i,hi⟩:=List.getElem?_of_mem he
 obtain⟨j,hj⟩:=List.getElem?_of_mem m'
 by_cases q:j=i
 ·subst q
  rw[hi]at hj
  cases hj
  exact h'
 ·exact absurd t' ((srt_ne h hi hj).mpr q)
theorem EntO.group{T:TX K mg}{H:Hp}{a:Addr}{e:VEnt}(h:EntO T H a e):∃C dx fs,H a=some (.ins C dx fs)∧Cls K C∧NoAttr K C "group"∧fs.lookup ("group" : Str)=some (iN e.group):=by
 rcases h with⟨_,dx,l,h,_⟩|⟨_,dx,h⟩
 ·exact⟨_,dx,_,h,T.k_RealEntry.cl,T.k_RealEntry.na _ rfl,rfl⟩
 ·exact⟨_,dx,_,h,T.k_ArtificialEntry.cl,T.k_ArtificialEntry.na _ rfl,rfl⟩
noncomputable def nw(X:Addr→Bool)(G:Hp):Hp:=fun c=>if X c=true then none else G c
theorem nw_at{X:Addr→Bool}{G:Hp}{c:Addr}{o:HO}(h:X c=false)(e:G c=some o):nw X G c=some o:=by
 unfold nw
 rw[if_neg (by rw[h];simp)]
 exact e
theorem nw_of{X:Addr→Bool}{G:Hp}{c:Addr}{o:HO}(e:nw X G c=some o):X c=false∧G c=some o:=by
 unfold nw at e
 split at e
 ·cases e
 ·rename_i h
  exact⟨by simpa using h,e⟩
theorem nw_mono{X:Addr→Bool}{G G':Hp}(h:∀c o,X c=false→G c=some o→G' c=some o):Same (nw X G) (nw X G'):=fun c o e=>by
 obtain⟨h1,h2⟩:=nw_of e
 exact nw_at h1 (h c o h1 h2)
noncomputable def broL(s:State)(b:Nat)(l m:Vbbrah.State):List (Nat×VFr):=m.flatMap fun e=>[(e.table,(Vbbrah.points l e).1),(Vbbraj.against s b e.table,(Vbbrah.points l e).2)]
theorem broL_snoc(s:State)(b:Nat)(l m:Vbbrah.State)(e:VEnt):broL s b l (m++[e])=broL s b l m++[(e.table,(Vbbrah.points l e).1),(Vbbraj.against s b e.table,(Vbbrah.points l e).2)]:=by
 simp[broL]
structure RInv(T:TX K mg)(X:Addr→Bool)(G:Hp)(s:State)(b:Nat)(l m:Vbbrah.State)(x al ab:Addr)(ls:List Addr)(kvs:List (Key×V)):Prop where
 hx:∃dx,G x=some (.ins T.k_Sheet.C dx [("top",.int (topI l)),("lines",.ref al),("brought",.ref ab)])
 hl:G al=some (.lst (ls.map V.ref))
 pl:Paired (LineO T (nw X G) s b l) ls m
 hb:G ab=some (.dK kvs)
 kl:kvs.length≤2*m.length
 at_:∀k:Nat,match(broL s b l m).find? (fun x=>x.1==k)with
  |none=>valV kvs (.inl (k:Int))=none
  |some y=>∃q,valV kvs (.inl (k:Int))=some (.ref q)∧FrO (nw X G) q y.2
theorem keys_new{s:State}(si:SInv s){b j:Nat}{e:VEnt}(he:(Vbbraj.sheet s b)[j]?=some e):(∀y∈broL s b (Vbbraj.sheet s b) ((Vbbraj.sheet s b).take j),y.1≠e.table∧y.1≠Vbbraj.against s b e.table)∧e.table≠Vbbraj.against s b e.table:=by
 obtain⟨x,hx,hn,hb⟩:=si.si b e (List.mem_of_getElem? he)
 have ag:Vbbraj.against s b e.table=x.ew:=by rw[←hn];exact Sti.against_eq si hx hb
 rw[ag,←hn]
 refine⟨fun y hy=>?_,(si.so x hx).ne⟩
 obtain⟨f,hf,hyf⟩:=List.mem_flatMap.mp hy
 obtain⟨i,hi⟩:=List.getElem?_of_mem hf
 have hij:i<j:=by
  have:=(List.getElem?_eq_some_iff.mp hi).1
  rw[List.length_take]at this
  omega
 rw[List.getElem?_take_of_lt hij]at hi
 have hne:=(srt_ne (si.sr b) he hi).mpr (by omega)
 obtain⟨z,hz,zn,zb⟩:=si.si b f (List.mem_of_getElem? hi)
 have zg:Vbbraj.against s b f.table=z.ew:=by rw[←zn];exact Sti.against_eq si hz zb
 rw[zg,←zn]at hyf
 have ap:Sti.Apart z x:=by
  rcases Sti.apart_mem si hz hx with q|q
  ·exact absurd (by rw[←zn,←hn,q]) hne
  ·exact q
 have no:¬(z.ns=x.ns∨z.ns=x.ew∨z.ew=x.ns∨z.ew=x.ew):=fun q=>ap.bp q b ⟨zb,hb⟩
 simp only[List.mem_cons,List.not_mem_nil,or_false]at hyf
 rcases hyf with rfl|rfl
 ·exact⟨fun q=>no (.inl q),fun q=>no (.inr (.inl q))⟩
 ·exact⟨fun q=>no (.inr (.inr (.inl q))),fun q=>no (.inr (.inr (.inr q)))⟩
theorem ne_of_none_r{H:Hp}{a x:Addr}{o:HO}(h:upd H x o a=none):a≠x:=fun z=>by
 rw[z,upd_same]at h
 cases h
theorem none_of_upd{H:Hp}{a x:Addr}{o:HO}(h:upd H x o a=none):H a=none:=by
 rw[upd_ne (ne_of_none_r h)]at h
 exact h
theorem nodup_sub{α:Type}[DecidableEq α]:∀{l m:List α},l.Nodup→(∀a∈l,a∈m)→l.length≤m.length
 |[],_,_,_=>Nat.zero_le _
 |a::l,m,h,hs=>by
  obtain⟨h1,h2⟩:=List.nodup_cons.mp h
  have ha:=hs a (by simp)
  have:=nodup_sub (l:=l) (m:=m.erase a) h2 fun c hc=>(List.mem_erase_of_ne (fun z=>h1 (by rw[←z];exact hc))).mpr (hs c (by simp[hc]))
  rw[List.length_erase_of_mem ha]at this
  have:0<m.length:=List.length_pos_of_mem ha
  rw[List.length_cons]
  omega
theorem keys_len{n:Nat}{kvs:List (Key×V)}(h:∀kv∈kvs,∃b:Nat,kv.1=.inl (b:Int)∧1≤b∧b≤n)(hn:(kvs.map (·.1)).Nodup):kvs.length≤n:=by
 have:=nodup_sub (m:=(List.range n).map fun i=>(Sum.inl ((i+1:Nat):Int):Key)) hn fun a ha=>by
  obtain⟨kv,hkv,rfl⟩:=List.mem_map.mp ha
  obtain⟨b,e,h1,h2⟩:=h kv hkv
  exact List.mem_map.mpr ⟨b-1,List.mem_range.mpr (by omega),by rw[e,show b-1+1=b by omega]⟩
 simpa using this
theorem putK_mem{κ:Type}[DecidableEq κ]{kvs:List (κ×V)}{k:κ}{v:V}{p:κ×V}(h:p∈putK kvs k v):(∃q∈kvs,q.1=p.1)∨p.1=k:=by
 unfold putK at h
 split at h
 ·obtain⟨q,hq,rfl⟩:=List.mem_map.mp h
  split
  ·exact .inl ⟨q,hq,rfl⟩
  ·exact .inl ⟨q,hq,rfl⟩
 ·rcases List.mem_append.mp h with h|h
  ·exact .inl ⟨p,h,rfl⟩
  ·rw[List.mem_singleton.mp h]
   exact .inr rfl
theorem putK_nd{κ:Type}[DecidableEq κ]{kvs:List (κ×V)}{k:κ}{v:V}(h:(kvs.map (·.1)).Nodup):((putK kvs k v).map (·.1)).Nodup:=by
 unfold putK
 split
 ·rw[List.map_map]
  have e:((·.1)∘fun kv:κ×V=>if kv.1=k then(kv.1,v)else kv)=(·.1):=by
   funext p
   simp only[Function.comp]
   split<;>rfl
  rw[e]
  exact h
 ·rename_i hn
  rw[List.map_append]
  refine List.nodup_append.mpr ⟨h,by simp,fun a ha c hc=>?_⟩
  rw[List.map_singleton,List.mem_singleton]at hc
  rintro rfl
  obtain⟨p,hp,e⟩:=List.mem_map.mp ha
  exact hn (List.any_eq_true.mpr ⟨p,hp,by simpa using e.trans hc⟩)
theorem inl_ne{a b:Nat}(h:a≠b):(Sum.inl (a:Int):Key)≠.inl (b:Int):=fun z=>h (by
 have:=Sum.inl.inj z
 omega)
theorem RInv.step{T:TX K mg}{X:Addr→Bool}{G G':Hp}{s:State}{b j:Nat}{l:Vbbrah.State}{x al ab y p1 p2:Addr}{ls:List Addr}{kvs:List (Key×V)}{e:VEnt}(si:SInv s)(hL:Vbbraj.sheet s b=l)(he:l[j]?=some e)
  (r:RInv T X G s b l (l.take j) x al ab ls kvs) (pr:∀c o,c≠al→c≠ab→G c=some o→G' c=some o) (xl:X al=true) (xb:X ab=true) (nxl:x≠al) (nxb:x≠ab)
  (h1:G' al=some (.lst ((ls++[y]).map V.ref))) (h2:G' ab=some (.dK (putK (putK kvs (.inl (e.table:Int)) (.ref p1)) (.inl ((Vbbraj.against s b e.table:Nat):Int)) (.ref p2))))
  (hy:∃dx,nw X G' y=some (.ins T.k_SheetLine.C dx [("ns",iN e.table),("ew",iN (Vbbraj.against s b e.table)),("group",iN e.group),("points",.ref p1)])) (f1:FrO (nw X G') p1 (Vbbrah.points l e).1) (f2:FrO (nw X G') p2 (Vbbrah.points l e).2):
  RInv T X G' s b l (l.take (j+1)) x al ab (ls++[y]) (putK (putK kvs (.inl (e.table:Int)) (.ref p1)) (.inl ((Vbbraj.against s b e.table:Nat):Int)) (.ref p2)):=by
 have sm:Same (nw X G) (nw X G'):=nw_mono fun c o hc hg=>pr c o (fun z=>by rw[z,xl]at hc;cases hc) (fun z=>by rw[z,xb]at hc;cases hc) hg
 obtain⟨dx,hx⟩:=r.hx
 obtain⟨dy,hy⟩:=hy
 have kn:=keys_new si (b:=b) (j:=j) (e:=e) (by rw[hL];exact he)
 rw[hL]at kn
 refine⟨⟨dx,pr _ _ nxl nxb hx⟩,h1,?_,h2,?_,fun k=>?_⟩
 ·rw[take_snoc he]
  exact paired_append (Paired.mapP r.pl fun _ _ z=>z.mono sm) (.cons ⟨dy,p1,hy,f1⟩ .nil)
 ·have q1:=length_putK kvs (.inl (e.table:Int)) (.ref p1)
  have q2:=length_putK (putK kvs (.inl (e.table:Int)) (.ref p1)) (.inl ((Vbbraj.against s b e.table:Nat):Int)) (.ref p2)
  have q3:=r.kl
  rw[take_snoc he,List.length_append]
  simp only[List.length_singleton]
  omega
 ·rw[take_snoc he,broL_snoc,List.find?_append]
  have old:=r.at_ k
  cases hf:(broL s b l (l.take j)).find? (fun x=>x.1==k)with
  |some z=>
   rw[hf]at old
   obtain⟨q,q1,q2⟩:=old
   have zk:z.1=k:=by simpa using List.find?_some hf
   have zm:=kn.1 z (List.mem_of_find?_eq_some hf)
   rw[zk]at zm
   show ∃q,_
   refine⟨q,?_,sm _ _ q2⟩
   rw[valV_put,if_neg (inl_ne zm.2),valV_put,if_neg (inl_ne zm.1)]
   exact q1
  |none=>
   rw[hf]at old
   rw[Option.none_or]
   by_cases c1:e.table=k
   ·rw[List.find?_cons_of_pos (by simp[c1])]
    refine⟨p1,?_,f1⟩
    rw[valV_put,if_neg (inl_ne (by rw[←c1];exact kn.2)),valV_put,if_pos (by rw[c1])]
   ·rw[List.find?_cons_of_neg (by simp[c1])]
    by_cases c2:Vbbraj.against s b e.table=k
    ·rw[List.find?_cons_of_pos (by simp[c2])]
     refine⟨p2,?_,f2⟩
     rw[valV_put,if_pos (by rw[c2])]
    ·rw[List.find?_cons_of_neg (by simp[c2])]
     show valV _ _=none
     rw[valV_put,if_neg (inl_ne fun z=>c2 z.symm),valV_put,if_neg (inl_ne fun z=>c1 z.symm)]
     exact old
noncomputable def Ents(s:State)(b:Nat):Prop:=∀e∈Vbbraj.sheet s b,Sml e.result∧e.ns≤100∧e.ew≤100
inductive J_reckon(T:TX K mg)(vs:List V)(H:Hp)(Q:VK):Prop
 |mk (A:EvA) (s:State) (c:Nat) (Z:Addr→Bool) (b:Nat):vs=[.ref A.p,iN b]→EvM T Z H s c A b→SInv s→s.sittings.length≤1000→Ents s b→1≤b→b≤s.boards→(∀H',EvO T Z H' s c A→(∀d,Z d=true→H' d=H d)→(∀d,H d≠none→d∉A.own→H' d=H d)→Q .non H')→J_reckon T vs H Q
noncomputable def sp_reckon(T:TX K mg):Sp:=fun vs H Q _=>J_reckon T vs H Q
theorem ok_reckon(T:TX K mg):FnOk P w K mg base CX0 5 T.f_reckon.f T.f_reckon.fd ["event","board"] (sp_reckon T):=by
 refine okL T.f_reckon.F sc_reckon (fun vs H Q E h=>?_) (fun cdv A outer s H vs Q E hr h=>?_)
 rotate_left;intro Xc;rotate_left
 ·obtain⟨A,s,c,Z,b,rfl,_⟩:=h
  rfl
 ·obtain⟨B,s,c,Z,b,rfl,ev,si,hlen,ents,hb1,hb2,k⟩:=h
  generalize hL:Vbbraj.sheet s b=l at *
  have l40:l.length≤40:=by rw[←hL];exact sheet_len si b
  have so:Srt l:=by rw[←hL];exact si.sr b
  have wt:Mth.Wt l:=by rw[←hL];exact si.wt b
  refine⟨_,(pss_cons (ps_set (i:=2) sc_reckon.nd rfl (by walk_at "or") (pe_call (ok_sittings_entered T) (hr.mono (by decide)) rfl T.f_sittings_entered.m T.f_sittings_entered.F.kp T.f_sittings_entered.b .nil pass0 (pa_cons (pv 0) (pa_cons (pv 1) pa_nil)))) (pss_cons (ps_setLc (i:=3) rfl sc_reckon.nd rfl rfl (sw_true rfl rfl rfl rfl) (pi_list (pv 2)) (blkOk_by (own:=[("sitting",4)]) (by rfl)) (fun _ _ _ _ _=>(pg_name (i:=4) sc_reckon.nd rfl (by walk_at "or"))) (fun _ _ _ _ _=>pts_nil) (fun _ _ _ _ _=>(pe_dgetA (hu_of hr) (pe_fldC K (pv 0)) (pe_callA (ok_place_in T) (hr.mono (by decide)) T.f_place_in.m T.f_place_in.F.kp T.f_place_in.b .nil pass0 (pa_cons (pv 4) (pa_cons (pv 1) pa_nil)))))) (pss_cons (ps_set (i:=5) sc_reckon.nd rfl (by walk_at "or") (pe_make T.k_Sheet.mkk (ok_Sheet_init T) (hr.mono (by decide)) rfl T.k_Sheet.m T.k_Sheet.b .nil pass0 (pa_cons (pe_op op_mul pe_int (pe_op op_sub (pe_callB call_len_seq (by rfl) T.n_len PySem.boot_len (pa_cons (pv 3) pa_nil)) pe_int)) pa_nil))) (pss_cons (ps_for PassesOwn.never rfl (pi_enum rfl T.n_enumerate (pa_cons (pv 2) pa_nil)) (pg_tup rfl (pgs_cons (pg_name (i:=6) sc_reckon.nd rfl (by walk_at "or")) (pgs_cons (pg_name (i:=4) sc_reckon.nd rfl (by walk_at "or")) pgs_nil))) (pss_cons (ps_set (i:=7) sc_reckon.nd rfl (by walk_at "or") (pe_call (ok_both_points T) (hr.mono (by decide)) rfl T.f_both_points.m T.f_both_points.F.kp T.f_both_points.b .nil pass0 (pa_cons (pv 3) (pa_cons (pv 6) (pa_cons (pe_fld (pv 5) rfl) pa_nil))))) (pss_cons (ps_expr (pe_bm PySem.F.plainAttrs_list PySem.F.slot_list_append PySem.F.type_list_append mt_append (pe_fld (pv 5) rfl) (pa_cons (pe_make T.k_SheetLine.mkk (ok_SheetLine_init T) (hr.mono (by decide)) rfl T.k_SheetLine.m T.k_SheetLine.b .nil pass0 (pa_cons (pe_fld (pv 4) rfl) (pa_cons (pe_fld (pv 4) rfl) (pa_cons (pe_fld (pe_ix ix_list (pv 3) (pv 6) (fun _ _=>rfl)) rfl) (pa_cons (pe_ix ix_tup (pv 7) pe_int (fun _ _=>rfl)) pa_nil))))) pa_nil))) (pss_cons (ps_dput (hu_of hr) (pe_fld (pv 5) rfl) (pe_fld (pv 4) rfl) (pe_ix ix_tup (pv 7) pe_int (fun _ _=>rfl)) rfl) (pss_one (ps_dput (hu_of hr) (pe_fld (pv 5) rfl) (pe_fld (pv 4) rfl) (pe_ix ix_tup (pv 7) pe_int (fun _ _=>rfl)) rfl)))))) (pss_one (ps_dput (hu_of hr) (pe_fld (pv 0) rfl) (pv 1) (pv 5) rfl)))))),?_⟩
  refine⟨_,rfl,_,rfl,?_⟩
  refine⟨B,s,c,Z,b,rfl,ev,si,hlen,fun H1 D cs xs sm1 hD pc ho hm=>?_⟩
  rw[hL]at ho
  have lc:=Paired.length pc
  have lx:xs.length=l.length:=by simpa using congrArg List.length ho
  have ev1:=ev.grow sm1
  obtain⟨dp,hp⟩:=ev1.hp
  obtain⟨kvs,he,R⟩:=ev1.he
  refine⟨_,rfl,D,rfl,⟨_,SqL.of hD⟩,fun D2 nD2=>?_⟩
  refine lc_list (K:=K) (xs:=cs.map V.ref) (fun i H'=>Same H1 H'∧∃es:List Addr,H' D2=some (.lst (es.map V.ref))∧es.length≤i∧Paired (EntO T H1) es (l.take i)) ⟨same_new nD2,[],upd_same,Nat.zero_le _,.nil⟩ (fun i H' _ ⟨sm,_⟩=>SqL.of (sm _ _ hD)) ?_ ?_
  ·rintro i v H' hi ⟨sm,es,hD2,hle,pe⟩
   obtain⟨d,x,hd,hx,rfl,sx0⟩:=paired_at pc hi
   have sx:=sx0.mono sm
   obtain⟨mx,bx⟩:=hm x (List.mem_of_getElem? hx)
   obtain⟨e,hei,hxe⟩:∃e,l[i]?=some e∧x.ns=e.table:=by
    have:=congrArg (·[i]?) ho
    simp only[List.getElem?_map,hx,Option.map_some]at this
    cases q:l[i]? with
    |none=>rw[q]at this;cases this
    |some e=>rw[q]at this;exact⟨e,rfl,by simpa using this⟩
   have hv:=R.at_ x mx b bx
   rw[hL,hxe,entry_of so (List.mem_of_getElem? hei)]at hv
   obtain⟨a,ha,ea⟩:∃a,valV kvs (plKey x.round x.table b)=some (.ref a)∧EntO T (hid B Z H1) a e:=by
    unfold EntAt at hv
    split at hv
    ·rename_i q;cases q
    ·rename_i a _ q1 q2
     cases q2
     exact⟨a,q1,hv⟩
    ·cases hv
   refine⟨rfl,?_⟩
   have hp2:=sm _ _ hp
   walk_at "v"
   refine⟨d,x,b,rfl,sx,fun q nq=>?_⟩
   have sq:Same H' (upd H' q (.tup [iN x.round,iN x.table,iN b])):=same_new nq
   have hq2:upd H' q (.tup [iN x.round,iN x.table,iN b]) q=some (.tup ((plKey x.round x.table b).map kV)):=upd_same
   have hg:DGet (upd H' q (.tup [iN x.round,iN x.table,iN b])) B.ents (.ref q) (some (.ref a)):=by
    rw[←ha]
    exact DGet.t (sq _ _ (sm _ _ he)) hq2
   refine⟨_,_,rfl,hg,?_⟩
   refine⟨_,sq _ _ hD2,by rw[List.length_map];exact small1000 (by have:=(List.getElem?_eq_some_iff.mp hei).1;omega),?_,es++[a],by rw[upd_same,List.map_append];rfl,by rw[List.length_append];simp;omega,?_⟩
   ·intro z o e
    rw[upd_ne (ne_of_none e nD2)]
    exact sq _ _ (sm _ _ e)
   ·rw[take_snoc hei]
    exact paired_append pe (.cons (ea.mono hid_sub) .nil)
  ·rintro H2 ⟨sm2,es,hD2,hle,pe⟩
   rw[List.length_map,lc,lx,List.take_length]at pe
   have le:=Paired.length pe
   have pe2:Paired (EntO T H2) es l:=Paired.mapP pe fun _ _ z=>z.mono sm2
   have sqe:SqL K H2 D2 (es.map V.ref):=SqL.of hD2
   walk_at "v"
   refine⟨D2,_,rfl,.inl sqe,?_⟩
   walk_at "v"
   rw[List.length_map,le]
   refine⟨.inl ⟨by omega,by omega⟩,?_⟩
   intro x dx nx nd ne
   refine⟨x,dx,_,rfl,upd_same,fun al ab nal nab nlb=>?_⟩
   have xal:al≠x:=ne_of_none_r nal
   have xab:ab≠x:=ne_of_none_r nab
   have hal0:H2 al=none:=none_of_upd (none_of_upd nal)
   have hab0:H2 ab=none:=none_of_upd (none_of_upd nab)
   refine⟨rfl,?_⟩
   generalize hG:upd (upd (upd (upd (upd H2 dx _) x _) al _) ab _) x _=G0
   have g1:Same H2 G0:=fun c o e=>by
    rw[←hG,upd_ne (ne_of_none e nx),upd_ne (ne_of_none e hab0),upd_ne (ne_of_none e hal0),upd_ne (ne_of_none e nx),upd_ne (ne_of_none e nd)]
    exact e
   have g2:G0 x=some (.ins T.k_Sheet.C dx [("top",.int (topI l)),("lines",.ref al),("brought",.ref ab)]):=by rw[←hG];exact upd_same
   have g3:G0 al=some (.lst []):=by rw[←hG,upd_ne xal,upd_ne nlb,upd_same]
   have g4:G0 ab=some (.dK []):=by rw[←hG,upd_ne xab,upd_same]
   clear hG
   have s02:Same H H2:=sm1.trans sm2
   let X:Addr→Bool:=fun c=>(H c).isSome||(decide (c=al)||decide (c=ab))
   have xl:X al=true:=by simp[X]
   have xb:X ab=true:=by simp[X]
   have xf:∀{c:Addr},H c=none→c≠al→c≠ab→X c=false:=fun{c} h1 h2 h3=>by simp[X,h1,h2,h3]
   have r0:RInv T X G0 s b l (l.take 0) x al ab [] []:=⟨⟨dx,g2⟩,g3,.nil,g4,Nat.zero_le _,fun k=>rfl⟩
   refine⟨_,rfl,D,_,rfl,SqL.of ((sm2.trans g1) _ _ hD),?_⟩
   refine for_it (n:=l.length) (fun j σ G=>Same H2 G∧(∃ls kv,RInv T X G s b l (l.take j) x al ab ls kv)∧∃u4 u6 u7,σ=[some (.ref B.p),some (iN b),some (.ref D),some (.ref D2),u4,some (.ref x),u6,u7]) ⟨g1,⟨[],[],r0⟩,none,none,none,rfl⟩ ?_ ?_ ?_ ?_
   ·rintro j σ G hj ⟨sm,_⟩
    exact⟨cs.map V.ref,_,SqL.of ((sm2.trans sm) _ _ hD),List.getElem?_eq_getElem (by rw[List.length_map];omega)⟩
   ·rintro σ G ⟨sm,_⟩
    exact⟨cs.map V.ref,SqL.of ((sm2.trans sm) _ _ hD),by rw[List.length_map];omega⟩
   ·rintro j v σ G G' hj ⟨sm,⟨ls,kv,ri⟩,u4,u6,u7,rfl⟩ ⟨t,y,rfl,nt,rfl,hy⟩
    have hy:=hy _ (SqL.of ((sm2.trans sm) _ _ hD))
    obtain⟨d,xx,hd,hxx,rfl,sx0⟩:=paired_at pc hy
    have hej:l[j]?=some l[j]:=List.getElem?_eq_getElem hj
    generalize hee:l[j]=e at hej
    have hxe:xx.ns=e.table:=by
     have:=congrArg (·[j]?) ho
     simp only[List.getElem?_map,hxx,hej,Option.map_some]at this
     simpa using this
    obtain⟨mx,bx⟩:=hm xx (List.mem_of_getElem? hxx)
    have hag:Vbbraj.against s b e.table=xx.ew:=by rw[←hxe];exact Sti.against_eq si mx bx
    have me:e∈l:=List.mem_of_getElem? hej
    obtain⟨es1,es2,es3⟩:=ents e (by rw[hL];exact me)
    have smA:Same G (upd G t (.tup [.int (j:Nat),.ref d])):=same_new nt
    refine⟨t,_,rfl,SqT.of upd_same,rfl,_,_,rfl,_,_,rfl,rfl,?_⟩
    generalize upd G t (.tup [.int (j:Nat),.ref d])=Ga at smA ⊢
    obtain⟨dx,rx⟩:=ri.hx
    have hxa:=smA _ _ rx
    walk_at "v"
    have tI:topI l=((Vbbrah.top l:Nat):Int):=by
     unfold topI Vbbrah.top
     omega
    have elA:EntL T Ga D2 l:=EntL.mono (sm.trans smA) ⟨es,hD2,pe2⟩
    refine⟨D2,l,j,e,by rw[tI];rfl,elA,so,wt,hej,l40,fun f hf=>(ents f (by rw[hL];exact hf)).1,es2,es3,fun Gb q p1 p2 smB np1 np2 hq fr1 fr2=>?_⟩
    have smAB:=smA.trans smB
    have hxb:=smAB _ _ rx
    have halb:=smAB _ _ ri.hl
    have habb:=smAB _ _ ri.hb
    have sqq:SqT K Gb q [.ref p1,.ref p2]:=SqT.of hq
    obtain⟨dd,hdd⟩:=sx0.mono ((sm2.trans sm).trans smAB)
    walk_at "v"
    refine⟨.inl ⟨rfl,_,SqL.of halb⟩,?_⟩
    obtain⟨ea,hea,eo⟩:=get_paired pe2 hej
    have a1:atI (es.map V.ref) (j:Int)=some (.ref ea):=at_of (j:=j) rfl (by rw[List.getElem?_map,hea];rfl)
    have sqE:SqL K Gb D2 (es.map V.ref):=SqL.of ((sm.trans smAB) _ _ hD2)
    obtain⟨gC,gd,gf,hg1,hg2,hg3,hg4⟩:=(eo.mono (sm.trans smAB)).group
    walk_at "v"
    refine⟨D2,_,_,_,rfl,rfl,sqE,a1,?_⟩
    refine⟨_,_,_,_,_,rfl,hg1,hg2,hg3,hg4,?_⟩
    walk_at "v"
    intro y dy ny ndy nyd
    refine⟨y,dy,_,_,_,_,rfl,upd_same,rfl,?_⟩
    rw[mkI_eq]
    generalize hGc:mkI Gb y dy _=Gc
    have smC:Same Gb Gc:=by rw[←hGc];exact mkI_same ny ndy
    have hyC:Gc y=some (.ins T.k_SheetLine.C dy [("ns",iN xx.ns),("ew",iN xx.ew),("group",iN e.group),("points",.ref p1)]):=by rw[←hGc];exact mkI_at
    clear hGc
    have smG:Same G Gc:=smAB.trans smC
    have hlm:=Paired.length ri.pl
    have hltk:(l.take j).length≤j:=by rw[List.length_take];omega
    refine⟨al,_,_,rfl,rfl,smC _ _ halb,by rw[List.length_map];exact small1000 (by omega),?_⟩
    have nlq:q≠al:=ne_of hq halb (fun z=>nomatch z)
    have nlx:x≠al:=ne_of hxb halb (fun z=>nomatch z)
    have nbx:x≠ab:=ne_of hxb habb (fun z=>nomatch z)
    have nld:d≠al:=ne_of hdd halb (fun z=>nomatch z)
    have nbd:d≠ab:=ne_of hdd habb (fun z=>nomatch z)
    have nbq:q≠ab:=ne_of hq habb (fun z=>nomatch z)
    have hxD:upd Gc al (.lst (ls.map V.ref++[.ref y])) x=_:=(upd_ne nlx).trans (smC _ _ hxb)
    have hdD:upd Gc al (.lst (ls.map V.ref++[.ref y])) d=_:=(upd_ne nld).trans (smC _ _ hdd)
    have sqD:SqT K (upd Gc al (.lst (ls.map V.ref++[.ref y]))) q [.ref p1,.ref p2]:=SqT.of ((upd_ne nlq).trans (smC _ _ hq))
    have habD:upd Gc al (.lst (ls.map V.ref++[.ref y])) ab=_:=(upd_ne nlb.symm).trans (smC _ _ habb)
    walk_at "v"
    have kl:=ri.kl
    refine⟨ab,_,rfl,DPut.k (k:=.inl (xx.ns:Int)) habD (small1000 (by omega)),?_⟩
    have hxE:upd (upd Gc al (.lst (ls.map V.ref++[.ref y]))) ab (.dK (putK kv (.inl (xx.ns:Int)) (.ref p1))) x=_:=(upd_ne nbx).trans hxD
    have hdE:upd (upd Gc al (.lst (ls.map V.ref++[.ref y]))) ab (.dK (putK kv (.inl (xx.ns:Int)) (.ref p1))) d=_:=(upd_ne nbd).trans hdD
    have sqE2:SqT K (upd (upd Gc al (.lst (ls.map V.ref++[.ref y]))) ab (.dK (putK kv (.inl (xx.ns:Int)) (.ref p1)))) q [.ref p1,.ref p2]:=SqT.of ((upd_ne nbq).trans ((upd_ne nlq).trans (smC _ _ hq)))
    walk_at "v"
    refine⟨ab,_,rfl,DPut.k (k:=.inl (xx.ew:Int)) upd_same (small1000 (by have:=length_putK kv (.inl (xx.ns:Int)) (.ref p1);omega)),?_⟩
    rw[upd_upd]
    have hoA:H al=none:=s02.free hal0
    have hoB:H ab=none:=s02.free hab0
    have nG:∀{c:Addr} {G1:Hp},Same G G1→G1 c=none→H c=none:=fun sg h=>Same.free (s02.trans (sm.trans sg)) h
    have pr:∀c o,c≠al→c≠ab→G c=some o→upd (upd Gc al (.lst (ls.map V.ref++[.ref y]))) ab (.dK (putK (putK kv (.inl (xx.ns:Int)) (.ref p1)) (.inl (xx.ew:Int)) (.ref p2))) c=some o:=fun c o n1 n2 hc=>by
     rw[upd_ne n2,upd_ne n1]
     exact smG _ _ hc
    have keepC:∀c o,c≠al→c≠ab→Gc c=some o→H c=none→nw X (upd (upd Gc al (.lst (ls.map V.ref++[.ref y]))) ab (.dK (putK (putK kv (.inl (xx.ns:Int)) (.ref p1)) (.inl (xx.ew:Int)) (.ref p2)))) c=some o:=fun c o n1 n2 hc hn=>by
     refine nw_at (xf hn n1 n2) ?_
     rw[upd_ne n2,upd_ne n1]
     exact hc
    refine⟨fun c o hc=>?_,⟨ls++[y],_,RInv.step si hL hej ri (y:=y) (p1:=p1) (p2:=p2) pr xl xb nlx nbx ?_ ?_ ⟨dy,?_⟩ ?_ ?_⟩,some (.ref d),some (iN j),some (.ref q),rfl⟩
    ·rw[upd_ne (ne_of_none hc hab0),upd_ne (ne_of_none hc hal0)]
     exact(sm.trans smG) _ _ hc
    ·rw[upd_ne nlb,upd_same,List.map_append]
     rfl
    ·rw[upd_same,hag,←hxe]
    ·rw[hag,←hxe]
     exact keepC y _ (ne_of_none halb ny).symm (ne_of_none habb ny).symm hyC (nG smAB ny)
    ·exact keepC p1 _ (ne_of fr1 halb (fun z=>nomatch z)) (ne_of fr1 habb (fun z=>nomatch z)) (smC _ _ fr1) (nG smA np1)
    ·exact keepC p2 _ (ne_of fr2 halb (fun z=>nomatch z)) (ne_of fr2 habb (fun z=>nomatch z)) (smC _ _ fr2) (nG smA np2)
   ·rintro σ G ⟨sm,⟨ls,kv,ri⟩,u4,u6,u7,rfl⟩
    rw[List.take_length]at ri
    have ev2:=ev.grow (s02.trans sm)
    obtain⟨dp2,hp2⟩:=ev2.hp
    obtain⟨ks,hsh,k1,k2,k3⟩:=ev2.hh
    have hkl:ks.length≤40:=by
     have:=keys_len k2 k3
     have:=si.b2
     omega
    walk_at "v"
    refine⟨B.shts,_,rfl,DPut.k (k:=.inl (b:Int)) hsh (small1000 (by omega)),?_⟩
    have mem:B.shts∈B.own:=by simp[EvA.own]
    have n1:=EvA.ne ev2.nd
    have hh:=hid_own (A:=B) (Z:=Z) (H:=G) (o:=.dK (putK ks (.inl (b:Int)) (.ref x))) mem
    have hz:∀d,Z d=true→d≠B.shts:=fun d hd z=>by
     rw[z,ev2.zo _ mem]at hd
     cases hd
    obtain⟨dx2,rx⟩:=ri.hx
    have nH:∀{c:Addr},H2 c=none→H c=none:=fun h=>s02.free h
    have toH:Same (nw X G) (hid B Z G):=fun c o hc=>by
     obtain⟨q1,q2⟩:=nw_of hc
     have:H c=none:=by
      simp only[X,Bool.or_eq_false_iff]at q1
      simpa using q1.1
     have fr:=ev.fresh this
     exact hid_at fr.1 fr.2 q2
    have atH:∀{c:Addr} {o:HO},H2 c=none→G c=some o→hid B Z G c=some o:=fun hn hc=>by
     have fr:=ev.fresh (nH hn)
     exact hid_at fr.1 fr.2 hc
    have sheetO:SheetO T (hid B Z G) s b x:=by
     refine⟨dx2,al,ab,ls,?_,atH hal0 ri.hl,?_,kv,atH hab0 ri.hb,fun k=>?_⟩
     ·rw[hL]
      exact atH nx rx
     ·rw[hL]
      exact Paired.mapP ri.pl fun _ _ z=>z.mono toH
     ·have:=ri.at_ k
      rw[hL]
      show match(broL s b l l).find? _ with|none=>_|some _=>_
      split
      ·rename_i q
       rw[q]at this
       exact this
      ·rename_i y q
       rw[q]at this
       obtain⟨z,z1,z2⟩:=this
       exact⟨z,z1,toH _ _ z2⟩
    refine k _ ⟨ev2.nd,ev2.zo,fun d hd=>?_,⟨dp2,by rw[upd_ne n1.2.2.1];exact hp2⟩,?_,?_,⟨_,upd_same,?_,?_,?_⟩,?_,?_,?_⟩ (fun d hd=>?_) (fun d hd hn=>?_)
    ·rw[upd_ne (hz d hd)]
     exact ev2.zt d hd
    ·obtain⟨as,e,q⟩:=ev2.hs
     exact⟨as,by rw[upd_ne n1.2.2.2.2.2.2.2.1];exact e,by rw[hh];exact q⟩
    ·obtain⟨as,e,q⟩:=ev2.he
     exact⟨as,by rw[upd_ne n1.2.2.2.2.2.2.2.2.2.2.2.1];exact e,by rw[hh];exact q⟩
    ·intro b' h1 h2
     rw[valV_put,hh]
     by_cases q:b'=b
     ·subst q
      rw[if_pos rfl]
      exact⟨x,rfl,sheetO⟩
     ·rw[if_neg (inl_ne q)]
      exact k1 b' q h1 h2
    ·intro kv' hkv
     rcases putK_mem hkv with⟨z,hz2,q⟩|q
     ·rw[←q]
      exact k2 _ hz2
     ·exact⟨b,q,hb1,hb2⟩
    ·exact putK_nd k3
    ·obtain⟨as,e,q⟩:=ev2.ha
     exact⟨as,by rw[upd_ne n1.2.2.2.2.2.2.2.2.2.2.2.2.2.2.2.1.symm];exact e,q⟩
    ·obtain⟨as,e,q⟩:=ev2.hq
     exact⟨as,by rw[upd_ne n1.2.2.2.2.2.2.2.2.2.2.2.2.2.2.2.2.1.symm];exact e,by rw[hh];exact q⟩
    ·obtain⟨as,e,q⟩:=ev2.ho
     exact⟨as,by rw[upd_ne n1.2.2.2.2.2.2.2.2.2.2.2.2.2.2.2.2.2.1.symm];exact e,by rw[hh];exact q⟩
    ·rw[upd_ne (hz d hd)]
     cases e:H d with
     |none=>exact absurd e (ev.zt d hd)
     |some o=>exact(s02.trans sm) d o e
    ·rw[upd_ne (fun z=>hn (by rw[z];exact mem))]
     cases e:H d with
     |none=>exact absurd e hd
     |some o=>exact(s02.trans sm) d o e
end
end
section
open Vbbraj (State Sitting)
open Sti (SInv Srt)
section
variable {P:Program}{w:World}{K:PySem.W.Frag}{mg:Str→Option Value}{base:Heap}
theorem bro_low{s:State}(si:SInv s){b:Nat}{x:Nat×VFr}(h:x∈Vbbraj.brought s b (Vbbraj.sheet s b)):Vbbrah.lowest x.2=x.2:=by
 rw[Mth.brought_eq (si.wt b)]at h
 obtain⟨y,_,rfl⟩:=List.mem_map.mp h
 exact Mth.lowest_canon _
theorem pts_low{s:State}(si:SInv s){b:Nat}{e:VEnt}(h:e∈Vbbraj.sheet s b):Vbbrah.lowest (Vbbrah.points (Vbbraj.sheet s b) e).1=(Vbbrah.points (Vbbraj.sheet s b) e).1:=by
 rw[Mth.points_eq (si.wt b) h]
 exact Mth.lowest_canon _
theorem hid_of{A:EvA}{Z:Addr→Bool}{H:Hp}{c:Addr}{o:HO}(h:hid A Z H c=some o):H c=some o:=hid_sub _ _ h
inductive J_score_answer(T:TX K mg)(vs:List V)(H:Hp)(Q:VK):Prop
 |mk (A:EvA) (s:State) (c:Nat) (Z:Addr→Bool) (b p:Nat):vs=[.ref A.p,iN b,iN p]→EvO T Z H s c A→SInv s→1≤b→Post T Z H A s c (Vbbraj.act s (.score b p)).2 Q→J_score_answer T vs H Q
noncomputable def sp_score_answer(T:TX K mg):Sp:=fun vs H Q _=>J_score_answer T vs H Q
theorem ok_score_answer(T:TX K mg):FnOk P w K mg base CX0 2 T.f_score_answer.f T.f_score_answer.fd ["event","board","pair"] (sp_score_answer T):=by
 refine okL T.f_score_answer.F sc_score_answer (fun vs H Q E h=>?_) (fun cdv A outer s H vs Q E hr h=>?_)
 rotate_left;intro Xc;rotate_left
 ·obtain⟨A,s,c,Z,b,p,rfl,_⟩:=h
  rfl
 ·obtain⟨B,s,c,Z,b,p,rfl,ev,si,hb1,post⟩:=h
  obtain⟨dp,hp⟩:=ev.hp
  obtain⟨kvs,hk,R⟩:=ev.hh
  have hact:(Vbbraj.act s (.score b p)).2=if s.boards<b then[-10]else if s.pairs<p then[-5]else match(Vbbraj.brought s b (Vbbraj.sheet s b)).find? fun x=>x.1==p with
   |none=>[-13]
   |some x=>0::Vbbrah.frac x.2:=by
   simp only[Vbbraj.act,Vbbraj.pairIn,Int.toNat_natCast]
   split
   ·rfl
   ·split<;>rfl
  rw[hact]at post
  refine⟨_,(pss_cons (ps_if (pt_not (pt_val (pe_call (ok_is_board T) (hr.mono (by decide)) rfl T.f_is_board.m T.f_is_board.F.kp T.f_is_board.b .nil pass0 (pa_cons (pv 0) (pa_cons (pv 1) pa_nil))))) (pss_one (ps_ret (pe_lst (pa_cons (pe_g rfl T.c_NO_SUCH_BOARD) pa_nil)))) pss_nil) (pss_cons (ps_if (pt_not (pt_val (pe_call (ok_is_pair T) (hr.mono (by decide)) rfl T.f_is_pair.m T.f_is_pair.F.kp T.f_is_pair.b .nil pass0 (pa_cons (pv 0) (pa_cons (pv 2) pa_nil))))) (pss_one (ps_ret (pe_lst (pa_cons (pe_g rfl T.c_NO_SUCH_PAIR) pa_nil)))) pss_nil) (pss_cons (ps_if (PW.pt (pw_or (pt_cmp (pc_dnotin (hu_of hr) (pv 1) (pe_fld (pv 0) rfl)) (by with_unfolding_all rfl)) (pw_or1 (pt_cmp (pc_dnotin (hu_of hr) (pv 2) (pe_fld (pe_dget (hu_of hr) (pe_fld (pv 0) rfl) (pv 1) (fun _ _=>rfl)) rfl)) (by with_unfolding_all rfl))))) (pss_one (ps_ret (pe_lst (pa_cons (pe_g rfl T.c_NO_ENTRY) pa_nil)))) pss_nil) (pss_cons (ps_set (i:=3) sc_score_answer.nd rfl (by walk_at "or") (pe_dget (hu_of hr) (pe_fld (pe_dget (hu_of hr) (pe_fld (pv 0) rfl) (pv 1) (fun _ _=>rfl)) rfl) (pv 2) (fun _ _=>rfl))) (pss_one (ps_ret (pe_lst (pa_cons pe_int (pa_cons (pe_ix ix_tup (pv 3) pe_int (fun _ _=>rfl)) (pa_cons (pe_ix ix_tup (pv 3) pe_int (fun _ _=>rfl)) pa_nil)))))))))),?_⟩
  walk_at "v"
  refine⟨B,s,c,Z,b,rfl,ev,?_⟩
  refine⟨_,rfl,ite2 (fun h=>?_) (fun h=>?_)⟩
  ·rw[if_pos (by simpa using h)]at post
   walk_at "v"
   exact⟨nle0 rfl,fun q nq=>post.same ev (Same.refl _) nq⟩
  have hb2:b≤s.boards:=by simpa using h
  rw[if_neg (by omega)]at post
  walk_at "v"
  refine⟨B,s,c,Z,p,rfl,ev,?_⟩
  refine⟨_,rfl,ite2 (fun h=>?_) (fun h=>?_)⟩
  ·rw[if_pos (by simpa using h)]at post
   walk_at "v"
   exact⟨nle0 rfl,fun q nq=>post.same ev (Same.refl _) nq⟩
  rw[if_neg (by simpa using h)]at post
  walk_at "v"
  have at1:=R.at_ b hb1 hb2
  refine⟨_,_,rfl,DGet.k (k:=.inl (b:Int)) hk,_,rfl,?_⟩
  cases hv:valV kvs (.inl (b:Int))with
  |none=>
   rw[hv]at at1
   have at1:Vbbraj.sheet s b=[]:=at1
   rw[at1]at post
   refine iteT (iteT ?_)
   walk_at "v"
   exact⟨nle0 rfl,fun q nq=>post.same ev (Same.refl _) nq⟩
  |some v=>
   rw[hv]at at1
   obtain⟨a,rfl,dx,al,ab,ls,e1,e2,e3,bk,e4,e5⟩:=at1
   have e1:=hid_of e1
   have e4:=hid_of e4
   have hv':DGet H B.shts (iN b) (some (.ref a)):=hv▸DGet.k (k:=.inl (b:Int)) hk
   refine iteF ?_
   walk_at "v"
   refine⟨_,_,rfl,hv',?_⟩
   walk_at "v"
   have e5:=e5 p
   refine⟨_,_,rfl,DGet.k (k:=.inl (p:Int)) e4,_,rfl,?_⟩
   cases hf:(Vbbraj.brought s b (Vbbraj.sheet s b)).find? (fun x=>x.1==p)with
   |none=>
    rw[hf]at e5 post
    have e5:valV bk (.inl (p:Int))=none:=e5
    rw[e5]
    refine iteT ?_
    walk_at "v"
    exact⟨nle0 rfl,fun q nq=>post.same ev (Same.refl _) nq⟩
   |some z=>
    rw[hf]at e5 post
    obtain⟨r,r1,r2⟩:=e5
    have zl:=bro_low si (List.mem_of_find?_eq_some hf)
    have hz:Vbbrah.frac z.2=[z.2.1,(z.2.2:Int)]:=by
     unfold Vbbrah.frac
     rw[zl]
     rfl
    have post:Post T Z H B s c (0::Vbbrah.frac z.2) Q:=post
    rw[hz]at post
    have r2:=hid_of r2
    have sq:SqT K H r [.int z.2.1,iN z.2.2]:=SqT.of r2
    have r1':DGet H ab (iN p) (some (.ref r)):=r1▸DGet.k (k:=.inl (p:Int)) e4
    rw[r1]
    refine iteF ?_
    walk_at "v"
    refine⟨_,_,rfl,hv',?_⟩
    walk_at "v"
    refine⟨_,_,rfl,r1',?_⟩
    walk_at "v"
    exact⟨nle0 rfl,fun q nq=>post.same ev (Same.refl _) nq⟩
inductive J_sheet_answer(T:TX K mg)(vs:List V)(H:Hp)(Q:VK):Prop
 |mk (A:EvA) (s:State) (c:Nat) (Z:Addr→Bool) (b:Nat):vs=[.ref A.p,iN b]→EvO T Z H s c A→SInv s→1≤b→Post T Z H A s c (Vbbraj.act s (.sheet b)).2 Q→J_sheet_answer T vs H Q
noncomputable def sp_sheet_answer(T:TX K mg):Sp:=fun vs H Q _=>J_sheet_answer T vs H Q
noncomputable def row5(s:State)(b:Nat)(e:VEnt):List Int:=[(e.table:Int),(Vbbraj.against s b e.table:Int),(e.group:Int),(Vbbrah.points (Vbbraj.sheet s b) e).1.1,((Vbbrah.points (Vbbraj.sheet s b) e).1.2:Int)]
theorem EvO.zkeep{T:TX K mg}{Z:Addr→Bool}{H H':Hp}{s:State}{c:Nat}{A:EvA}(E:EvO T Z H s c A)(sm:Same H H'):∀b,Z b=true→H' b=H b:=fun b hb=>by
 cases e:H b with
 |none=>exact absurd e (E.zt b hb)
 |some o=>exact sm b o e
theorem flat_len{α:Type}{n:Nat}{f:α→List Int}(hf:∀a,(f a).length=n):∀l:List α,(l.flatMap f).length=n*l.length
 |[]=>rfl
 |a::l=>by
  rw[List.flatMap_cons,List.length_append,hf,flat_len hf l,List.length_cons,Nat.mul_add]
  omega
theorem ok_sheet_answer(T:TX K mg):FnOk P w K mg base CX0 2 T.f_sheet_answer.f T.f_sheet_answer.fd ["event","board"] (sp_sheet_answer T):=by
 refine okL T.f_sheet_answer.F sc_sheet_answer (fun vs H Q E h=>?_) (fun cdv A outer s H vs Q E hr h=>?_)
 rotate_left;intro Xc;rotate_left
 ·obtain⟨A,s,c,Z,b,rfl,_⟩:=h
  rfl
 ·obtain⟨B,s,c,Z,b,rfl,ev,si,hb1,post⟩:=h
  obtain⟨dp,hp⟩:=ev.hp
  obtain⟨kvs,hk,R⟩:=ev.hh
  have hact:(Vbbraj.act s (.sheet b)).2=if s.boards<b then[-10]else 0::(Vbbraj.sheet s b).flatMap (row5 s b):=by
   simp only[Vbbraj.act,Int.toNat_natCast]
   split
   ·rfl
   ·congr 1
    have:∀l:Vbbrah.State,(∀e∈l,e∈Vbbraj.sheet s b)→(l.flatMap fun e=>[(e.table:Int),(Vbbraj.against s b e.table:Int),(e.group:Int)]++Vbbrah.frac (Vbbrah.points (Vbbraj.sheet s b) e).1)=l.flatMap (row5 s b):=by
     intro l
     induction l with
     |nil=>intro _;rfl
     |cons e l ih=>
      intro h
      rw[List.flatMap_cons,List.flatMap_cons,ih fun x hx=>h x (by simp[hx])]
      unfold Vbbrah.frac
      rw[pts_low si (h e (by simp))]
      rfl
    exact this _ fun _ h=>h
  rw[hact]at post
  refine⟨_,(pss_cons (ps_if (pt_not (pt_val (pe_call (ok_is_board T) (hr.mono (by decide)) rfl T.f_is_board.m T.f_is_board.F.kp T.f_is_board.b .nil pass0 (pa_cons (pv 0) (pa_cons (pv 1) pa_nil))))) (pss_one (ps_ret (pe_lst (pa_cons (pe_g rfl T.c_NO_SUCH_BOARD) pa_nil)))) pss_nil) (pss_cons (ps_set (i:=2) sc_sheet_answer.nd rfl (by walk_at "or") (pe_lst (pa_cons pe_int pa_nil))) (pss_cons (ps_if (pt_cmp (pc_din (hu_of hr) (pv 1) (pe_fld (pv 0) rfl)) (by with_unfolding_all rfl)) (pss_one (ps_for PassesOwn.never rfl (pi_list (pe_fld (pe_dget (hu_of hr) (pe_fld (pv 0) rfl) (pv 1) (fun _ _=>rfl)) rfl)) (pg_name (i:=3) sc_sheet_answer.nd rfl (by walk_at "or")) (pss_one (ps_expr (pe_bm PySem.F.plainAttrs_list PySem.F.slot_list_extend PySem.F.type_list_extend mt_extend (pv 2) (pa_cons (pe_lst (pa_cons (pe_fld (pv 3) rfl) (pa_cons (pe_fld (pv 3) rfl) (pa_cons (pe_fld (pv 3) rfl) (pa_cons (pe_ix ix_tup (pe_fld (pv 3) rfl) pe_int (fun _ _=>rfl)) (pa_cons (pe_ix ix_tup (pe_fld (pv 3) rfl) pe_int (fun _ _=>rfl)) pa_nil)))))) pa_nil)))))) pss_nil) (pss_one (ps_ret (pv 2)))))),?_⟩
  walk_at "v"
  refine⟨B,s,c,Z,b,rfl,ev,?_⟩
  refine⟨_,rfl,ite2 (fun h=>?_) (fun h=>?_)⟩
  ·rw[if_pos (by simpa using h)]at post
   walk_at "v"
   exact⟨nle0 rfl,fun q nq=>post.same ev (Same.refl _) nq⟩
  have hb2:b≤s.boards:=by simpa using h
  rw[if_neg (by omega)]at post
  have at1:=R.at_ b hb1 hb2
  walk_at "v"
  refine⟨nle0 rfl,fun q nq=>?_⟩
  have sq0:Same H (upd H q (.lst [.int 0])):=same_new nq
  have hp2:=sq0 _ _ hp
  have hk2:=sq0 _ _ hk
  walk_at "v"
  refine⟨_,_,rfl,DGet.k (k:=.inl (b:Int)) hk2,_,rfl,?_⟩
  cases hv:valV kvs (.inl (b:Int))with
  |none=>
   rw[hv]at at1
   have at1:Vbbraj.sheet s b=[]:=at1
   rw[at1]at post
   refine iteF ?_
   walk_at "v"
   exact post.same ev (Same.refl _) nq
  |some v=>
   rw[hv]at at1
   obtain⟨a,rfl,dx,al,ab,ls,e1,e2,e3,_⟩:=at1
   have e1:=sq0 _ _ (hid_of e1)
   have e20:=hid_of e2
   have e2:=sq0 _ _ e20
   have ll:=Paired.length e3
   have l40:=sheet_len si b
   have hv':DGet (upd H q (.lst [.int 0])) B.shts (iN b) (some (.ref a)):=hv▸DGet.k (k:=.inl (b:Int)) hk2
   refine iteT ?_
   walk_at "v"
   refine⟨_,_,rfl,hv',?_⟩
   walk_at "v"
   refine⟨⟨_,SqL.of e2⟩,?_⟩
   refine for_list (K:=K) (xs:=ls.map V.ref) (fun i σ H'=>Same H H'∧H' q=some (.lst ((0::((Vbbraj.sheet s b).take i).flatMap (row5 s b)).map V.int))∧∃u3,σ=[some (.ref B.p),some (iN b),some (.ref q),u3]) ⟨sq0,upd_same,none,rfl⟩ (fun i σ H' _ ⟨sm,_⟩=>SqL.of (sm _ _ e20)) ?_ ?_
   ·rintro i v σ H' hi ⟨sm,hq,u3,rfl⟩
    obtain⟨d,e,hd,he,rfl,dy,r,hl1,hr⟩:=paired_at e3 hi
    have hl1:=sm _ _ (hid_of hl1)
    have hr:SqT K H' r [.int (Vbbrah.points (Vbbraj.sheet s b) e).1.1,iN (Vbbrah.points (Vbbraj.sheet s b) e).1.2]:=SqT.of (sm _ _ (hid_of hr))
    refine⟨_,rfl,.inl ⟨rfl,_,SqL.of hq⟩,?_⟩
    walk_at "v"
    refine⟨nle0 rfl,fun t nt=>?_⟩
    have st:Same H' (upd H' t (.lst ((row5 s b e).map V.int))):=same_new nt
    have ht:upd H' t (.lst ((row5 s b e).map V.int)) t=some (.lst ((row5 s b e).map V.int)):=upd_same
    refine⟨q,t,_,_,rfl,rfl,st _ _ hq,ht,?_,?_⟩
    ·have:=flat_len (n:=5) (f:=row5 s b) (fun _=>rfl) ((Vbbraj.sheet s b).take i)
     have h2:((Vbbraj.sheet s b).take i).length≤40:=by rw[List.length_take];omega
     rw[List.length_map,List.length_map,List.length_cons,this]
     refine Nat.le_of_lt (small1000 ?_)
     show 5*_+1+5≤1000
     omega
    ·refine⟨fun c o hc=>?_,?_,some (.ref d),rfl⟩
     ·rw[upd_ne (ne_of_none hc nq)]
      exact st _ _ (sm _ _ hc)
     ·rw[upd_same,take_snoc he,List.flatMap_append,←List.map_append]
      simp
   ·rintro σ H' ⟨sm,hq,u3,rfl⟩
    rw[List.length_map,ll,List.take_length]at hq
    exact⟨_,rfl,post _ B q rfl (ev.grow sm) (ev.zkeep sm) hq⟩
inductive J_board_answer(T:TX K mg)(vs:List V)(H:Hp)(Q:VK):Prop
 |mk (A:EvA) (s:State) (c:Nat) (Z:Addr→Bool) (a:Addr) (b p:Nat):vs=[.ref A.p,.ref a]→EvO T Z H s c A→SInv s→1≤b→(((CallO T H a 16 [(b:Int),(p:Int)] []∧Post T Z H A s c (Vbbraj.act s (.score b p)).2 Q)∨(CallO T H a 17 [(b:Int)] []∧Post T Z H A s c (Vbbraj.act s (.sheet b)).2 Q)))→J_board_answer T vs H Q
noncomputable def sp_board_answer(T:TX K mg):Sp:=fun vs H Q _=>J_board_answer T vs H Q
theorem ok_board_answer(T:TX K mg):FnOk P w K mg base CX0 3 T.f_board_answer.f T.f_board_answer.fd ["event","call"] (sp_board_answer T):=by
 refine okL T.f_board_answer.F sc_board_answer (fun vs H Q E h=>?_) (fun cdv A outer s H vs Q E hr h=>?_)
 rotate_left;intro Xc;rotate_left
 ·obtain⟨A,s,c,Z,a,b,p,rfl,_⟩:=h
  rfl
 ·obtain⟨B,s,c,Z,a,b,p,rfl,ev,si,hb1,h⟩:=h
  refine⟨_,(pss_cons (ps_if (pt_cmpR op_eq (pe_fld (pv 1) rfl) (pe_g rfl T.c_SCORE) (nomark _)) (pss_one (ps_ret (pe_call (ok_score_answer T) (hr.mono (by decide)) rfl T.f_score_answer.m T.f_score_answer.F.kp T.f_score_answer.b .nil pass0 (pa_cons (pv 0) (pa_cons (pe_ix ix_list (pe_fld (pv 1) rfl) pe_int (fun _ _=>rfl)) (pa_cons (pe_ix ix_list (pe_fld (pv 1) rfl) pe_int (fun _ _=>rfl)) pa_nil)))))) pss_nil) (pss_one (ps_ret (pe_call (ok_sheet_answer T) (hr.mono (by decide)) rfl T.f_sheet_answer.m T.f_sheet_answer.F.kp T.f_sheet_answer.b .nil pass0 (pa_cons (pv 0) (pa_cons (pe_ix ix_list (pe_fld (pv 1) rfl) pe_int (fun _ _=>rfl)) pa_nil)))))),?_⟩
  rcases h with⟨⟨dc,ap,ar,hc,hpl,hrw⟩,post⟩|⟨⟨dc,ap,ar,hc,hpl,hrw⟩,post⟩
  ·have sq:SqL K H ap [iN b,iN p]:=SqL.of hpl
   walk_at "v"
   exact⟨B,s,c,Z,b,p,rfl,ev,si,hb1,post⟩
  ·have sq:SqL K H ap [iN b]:=SqL.of hpl
   walk_at "v"
   exact⟨B,s,c,Z,b,rfl,ev,si,hb1,post⟩
end
end
section
open Vbbraj (State Sitting)
open Sti (SInv Srt)
open Pts (Sml)
section
variable {P:Program}{w:World}{K:PySem.W.Frag}{mg:Str→Option Value}{base:Heap}
noncomputable def num:Vbbraj.Call→Int
 | .new ..=>0 | .sit ..=>1 | .unsit ..=>2 | .result ..=>3 | .played ..=>4 | .passed ..=>5 | .average ..=>6 | .foul ..=>7 | .remove ..=>8 | .adjust ..=>9 | .appeal ..=>10 | .ruling ..=>11
 | .total ..=>12 | .standings=>13 | .post=>14 | .posted ..=>15 | .score ..=>16 | .sheet ..=>17 | .met ..=>18 | .sittings ..=>19 | .missing=>20 | .changes=>21 | .appeals=>22
noncomputable def plainOf:Vbbraj.Call→List Int
 | .new n b=>[n,b] | .sit r t n e f c=>[r,t,n,e,f,c] | .unsit r t=>[r,t] | .result r t b _=>[r,t,b] | .played r t b l st d p k=>[r,t,b,l,st,d,p,k] | .passed r t b=>[r,t,b] | .average r t b n e=>[r,t,b,n,e]
 | .foul r t b g=>[r,t,b,g] | .remove r t b=>[r,t,b] | .adjust p h=>[p,h] | .appeal r t b=>[r,t,b] | .ruling r t b _=>[r,t,b] | .total p=>[p] | .standings=>[] | .post=>[] | .posted k=>[k] | .score b p=>[b,p] | .sheet b=>[b]
 | .met p q=>[p,q] | .sittings p=>[p] | .missing=>[] | .changes=>[] | .appeals=>[]
noncomputable def rowOf:Vbbraj.Call→List Int
 | .result _ _ _ l=>l | .ruling _ _ _ l=>l|_=>[]
inductive J_place_of(T:TX K mg)(vs:List V)(H:Hp)(Q:VK):Prop
 |mk (a:Addr) (n:Int) (x y z:Int) (pl rw:List Int):vs=[.ref a]→CallO T H a n (x::y::z::pl) rw→(∀q,H q=none→Q (.ref q) (upd H q (.tup [.int x,.int y,.int z])))→J_place_of T vs H Q
noncomputable def sp_place_of(T:TX K mg):Sp:=fun vs H Q _=>J_place_of T vs H Q
theorem ok_place_of(T:TX K mg):FnOk P w K mg base CX0 1 T.f_place_of.f T.f_place_of.fd ["call"] (sp_place_of T):=by
 refine okL T.f_place_of.F sc_place_of (fun vs H Q E h=>?_) (fun cdv A outer s H vs Q E hr h=>?_)
 rotate_left;intro Xc;rotate_left
 ·obtain⟨a,n,x,y,z,pl,rw,rfl,_⟩:=h
  rfl
 ·obtain⟨a,n,x,y,z,pl,rw,rfl,⟨dc,ap,ar,hc,hpl,hrw⟩,k⟩:=h
  have sq:SqL K H ap (.int x::.int y::.int z::pl.map V.int):=SqL.of hpl
  have z0:atI (.int x::.int y::.int z::pl.map V.int) 0=some (.int x):=at_of (j:=0) rfl rfl
  have z1:atI (.int x::.int y::.int z::pl.map V.int) 1=some (.int y):=at_of (j:=1) rfl rfl
  have z2:atI (.int x::.int y::.int z::pl.map V.int) 2=some (.int z):=at_of (j:=2) rfl rfl
  refine⟨_,(pss_one (ps_ret (pe_tup (pa_cons (pe_ix ix_list (pe_fld (pv 0) rfl) pe_int (fun _ _=>rfl)) (pa_cons (pe_ix ix_list (pe_fld (pv 0) rfl) pe_int (fun _ _=>rfl)) (pa_cons (pe_ix ix_list (pe_fld (pv 0) rfl) pe_int (fun _ _=>rfl)) pa_nil)))))),?_⟩
  walk_at "v"
  refine⟨_,_,_,_,rfl,rfl,sq,z0,?_⟩
  walk_at "v"
  refine⟨_,_,_,_,rfl,rfl,sq,z1,?_⟩
  walk_at "v"
  refine⟨_,_,_,_,rfl,rfl,sq,z2,?_⟩
  exact⟨nle0 rfl,fun q nq=>k q nq⟩
noncomputable def wants(n:Int):Bool:=decide (n=7∨n=8∨n=10)
noncomputable def placeRef(s:State)(n:Int)(r t b:Nat):Int:=match Vbbraj.placeOf s r t b with
 |none=>-11
 |some x=>if n=11 then(if Vbbraj.appealed s r t b=true then 0 else -14)else if Vbbraj.appealed s r t b=true then -12 else if wants n=true∧(Vbbrah.entryOf (Vbbraj.sheet s b) x.ns).isNone=true then -13 else 0
noncomputable def ky3(y:Nat×Nat×Nat):List Int:=[(y.1:Int),(y.2.1:Int),(y.2.2:Int)]
theorem ky3_inj{x y:Nat×Nat×Nat}:ky3 x=ky3 y↔x=y:=by
 constructor
 ·intro h
  simp only[ky3,List.cons.injEq,and_true]at h
  obtain⟨x1,x2,x3⟩:=x
  obtain⟨y1,y2,y3⟩:=y
  simp only at h
  have h1:x1=y1:=by omega
  have h2:x2=y2:=by omega
  have h3:x3=y3:=by omega
  rw[h1,h2,h3]
 ·rintro rfl;rfl
theorem apps_tup{Z:Addr→Bool}{H H':Hp}{A:EvA}{ps:List Addr}{l:List (Nat×Nat×Nat)}(p:Paired (PlO (hid A Z H)) ps l)(sm:Same H H'):Paired (TupI K H') ps (l.map ky3):=by
 induction p with
 |nil=>exact .nil
 |cons g _ ih=>exact .cons (SqT.of (sm _ _ (hid_of g))) ih
theorem apps_in{l:List (Nat×Nat×Nat)}{r t b:Nat}:decide (ky3 (r,t,b)∈l.map ky3)=l.contains (r,t,b):=by
 rw[Bool.eq_iff_iff,decide_eq_true_eq,List.contains_iff_mem]
 constructor
 ·intro h
  obtain⟨y,hy,e⟩:=List.mem_map.mp h
  rw[←ky3_inj.mp e]
  exact hy
 ·intro h
  exact List.mem_map.mpr ⟨_,h,rfl⟩
inductive J_place_refusal(T:TX K mg)(vs:List V)(H:Hp)(Q:VK):Prop
 |mk (A:EvA) (s:State) (c:Nat) (Z:Addr→Bool) (n:Int) (q:Addr) (r t b:Nat):vs=[.ref A.p,.int n,.ref q]→EvO T Z H s c A→SInv s→PlO H q (r,t,b)→(∀H',Same H H'→Q (.int (placeRef s n r t b)) H')→J_place_refusal T vs H Q
noncomputable def sp_place_refusal(T:TX K mg):Sp:=fun vs H Q _=>J_place_refusal T vs H Q
theorem ok_place_refusal(T:TX K mg):FnOk P w K mg base CX0 3 T.f_place_refusal.f T.f_place_refusal.fd ["event","number","place"] (sp_place_refusal T):=by
 refine okL T.f_place_refusal.F sc_place_refusal (fun vs H Q E h=>?_) (fun cdv A outer s H vs Q E hr h=>?_)
 rotate_left;intro Xc;rotate_left
 ·obtain⟨A,s,c,Z,n,q,r,t,b,rfl,_⟩:=h
  rfl
 ·obtain⟨B,s,c,Z,n,q,r,t,b,rfl,ev,si,hq,k⟩:=h
  obtain⟨dp,hp⟩:=ev.hp
  obtain⟨ps,ha,pa⟩:=ev.hq
  obtain⟨kvs,he,R⟩:=ev.he
  have hin:∀{H':Hp},Same H H'→TupI K H' q (ky3 (r,t,b)):=fun sm=>SqT.of (sm _ _ hq)
  unfold placeRef at k
  refine⟨_,(pss_cons (ps_if (pt_not (pt_val (pe_call (ok_is_given T) (hr.mono (by decide)) rfl T.f_is_given.m T.f_is_given.F.kp T.f_is_given.b .nil pass0 (pa_cons (pv 0) (pa_cons (pv 2) pa_nil))))) (pss_one (ps_ret (pe_g rfl T.c_NOT_GIVEN))) pss_nil) (pss_cons (ps_if (pt_cmpR op_eq (pv 1) (pe_g rfl T.c_RULING) (nomark _)) (pss_one (ps_ret (pe_ifExp (pt_cmpR (op_inT hr.units) (pv 2) (pe_fld (pv 0) rfl) (by with_unfolding_all rfl)) pe_int (pe_g rfl T.c_NOT_UNDER_APPEAL)))) pss_nil) (pss_cons (ps_if (pt_cmpR (op_inT hr.units) (pv 2) (pe_fld (pv 0) rfl) (by with_unfolding_all rfl)) (pss_one (ps_ret (pe_g rfl T.c_UNDER_APPEAL))) pss_nil) (pss_cons (ps_if (PW.pt (pw_and (pt_cmpR op_in_seq (pv 1) (pe_tup (pa_cons (pe_g rfl T.c_FOUL) (pa_cons (pe_g rfl T.c_REMOVE) (pa_cons (pe_g rfl T.c_APPEAL) pa_nil)))) (by with_unfolding_all rfl)) (pw_and1 (pt_cmp (pc_dnotin (hu_of hr) (pv 2) (pe_fld (pv 0) rfl)) (by with_unfolding_all rfl))))) (pss_one (ps_ret (pe_g rfl T.c_NO_ENTRY))) pss_nil) (pss_one (ps_ret pe_int)))))),?_⟩
  walk_at "v"
  refine⟨B,s,c,Z,q,r,t,b,rfl,ev,hq,?_⟩
  cases hpl:Vbbraj.placeOf s r t b with
  |none=>
   rw[hpl]at k
   refine⟨_,rfl,iteT ?_⟩
   walk_at "v"
   exact k _ (Same.refl _)
  |some x=>
   rw[hpl]at k
   have k:∀H',Same H H'→Q (.int (if n=11 then(if Vbbraj.appealed s r t b=true then 0 else -14)else if Vbbraj.appealed s r t b=true then -12 else if wants n=true∧(Vbbrah.entryOf (Vbbraj.sheet s b) x.ns).isNone=true then -13 else 0)) H':=k
   refine⟨_,rfl,iteF ?_⟩
   have papp:decide (ky3 (r,t,b)∈s.appeals.map ky3)=Vbbraj.appealed s r t b:=apps_in
   walk_at "v"
   refine ite2 (fun h11=>?_) (fun h11=>?_)
   ·have h11:n=11:=by simpa using h11
    rw[if_pos h11]at k
    walk_at "v"
    refine⟨q,B.apps,ps,_,_,rfl,rfl,hin (Same.refl _),ha,apps_tup pa (Same.refl _),?_⟩
    rw[papp]
    refine⟨_,rfl,ite2 (fun h=>?_) (fun h=>?_)⟩
    ·rw[if_pos h]at k
     exact k _ (Same.refl _)
    ·rw[if_neg h]at k
     exact k _ (Same.refl _)
   ·have h11:n≠11:=by simpa using h11
    rw[if_neg h11]at k
    walk_at "v"
    refine⟨q,B.apps,ps,_,_,rfl,rfl,hin (Same.refl _),ha,apps_tup pa (Same.refl _),?_⟩
    rw[papp]
    refine⟨_,rfl,ite2 (fun h=>?_) (fun h=>?_)⟩
    ·rw[if_pos h]at k
     exact k _ (Same.refl _)
    ·rw[if_neg h]at k
     have hw:inV (V.int n) [V.int 7,V.int 8,V.int 10]=wants n:=by
      unfold wants
      rw[Bool.eq_iff_iff]
      simp[inV,eqV]
      omega
     walk_at "v"
     refine⟨nle0 rfl,fun u nu=>?_⟩
     have su:Same H (upd H u (.tup [.int 7,.int 8,.int 10])):=same_new nu
     refine⟨_,_,rfl,.inr (SqT.of upd_same),rfl,rfl,?_⟩
     refine⟨_,rfl,ite2 (fun hn=>?_) (fun hn=>?_)⟩
     ·have hn:inV (V.int n) [V.int 7,V.int 8,V.int 10]=true:=hn
      rw[hw]at hn
      have hp2:=su _ _ hp
      walk_at "v"
      have hq2:upd H u (.tup [.int 7,.int 8,.int 10]) q=some (.tup ((plKey r t b).map kV)):=su _ _ hq
      refine⟨_,_,rfl,DGet.t (su _ _ he) hq2,_,rfl,?_⟩
      obtain⟨mx,x1,x2,xb⟩:=Sti.placeOf_some hpl
      rw[←x1,←x2,ents_has R si mx b,xb,Bool.true_and]
      refine ite2 (fun h2=>?_) (fun h2=>?_)
      ·rw[if_pos ⟨hn,by simpa using h2⟩]at k
       exact k _ su
      ·rw[if_neg (fun z=>h2 (by simpa using z.2))]at k
       exact k _ su
     ·have hn:¬inV (V.int n) [V.int 7,V.int 8,V.int 10]=true:=hn
      rw[hw]at hn
      rw[if_neg (fun z=>hn z.1)]at k
      refine iteF ?_
      exact k _ su
noncomputable def grp(s:State)(b:Nat)(x:Sitting):Nat:=match Vbbrah.entryOf (Vbbraj.sheet s b) x.ns with
 |some e=>e.group
 |none=>0
inductive J_group_at(T:TX K mg)(vs:List V)(H:Hp)(Q:VK):Prop
 |mk (A:EvA) (s:State) (c:Nat) (Z:Addr→Bool) (q:Addr) (r t b:Nat) (x:Sitting):vs=[.ref A.p,.ref q]→EvO T Z H s c A→PlO H q (r,t,b)→Vbbraj.placeOf s r t b=some x→Q (iN (grp s b x)) H→J_group_at T vs H Q
noncomputable def sp_group_at(T:TX K mg):Sp:=fun vs H Q _=>J_group_at T vs H Q
theorem ok_group_at(T:TX K mg):FnOk P w K mg base CX0 1 T.f_group_at.f T.f_group_at.fd ["event","place"] (sp_group_at T):=by
 refine okL T.f_group_at.F sc_group_at (fun vs H Q E h=>?_) (fun cdv A outer s H vs Q E hr h=>?_)
 rotate_left;intro Xc;rotate_left
 ·obtain⟨A,s,c,Z,q,r,t,b,x,rfl,_⟩:=h
  rfl
 ·obtain⟨B,s,c,Z,q,r,t,b,x,rfl,ev,hq,hpl,k⟩:=h
  obtain⟨dp,hp⟩:=ev.hp
  obtain⟨kvs,he,R⟩:=ev.he
  obtain⟨mx,x1,x2,xb⟩:=Sti.placeOf_some hpl
  have hq2:H q=some (.tup ((plKey x.round x.table b).map kV)):=by rw[x1,x2];exact hq
  have hv:=R.at_ x mx b xb
  have hg:=DGet.t he hq2
  refine⟨_,(pss_cons (ps_if (pt_cmp (pc_din (hu_of hr) (pv 1) (pe_fld (pv 0) rfl)) (by with_unfolding_all rfl)) (pss_one (ps_ret (pe_fld (pe_dget (hu_of hr) (pe_fld (pv 0) rfl) (pv 1) (fun _ _=>rfl)) rfl))) pss_nil) (pss_one (ps_ret pe_int))),?_⟩
  walk_at "v"
  refine⟨_,_,rfl,hg,_,rfl,?_⟩
  unfold grp at k
  cases e1:valV kvs (plKey x.round x.table b)with
  |none=>
   rw[e1]at hv
   cases e2:Vbbrah.entryOf (Vbbraj.sheet s b) x.ns with
   |some e=>rw[e2]at hv;cases hv
   |none=>
    rw[e2]at k
    refine iteF ?_
    exact k
  |some v=>
   rw[e1]at hv
   cases e2:Vbbrah.entryOf (Vbbraj.sheet s b) x.ns with
   |none=>
    rw[e2]at hv
    unfold EntAt at hv
    split at hv
    ·rename_i z _;cases z
    ·rename_i z;cases z
    ·cases hv
   |some e=>
    rw[e2]at hv k
    rw[e1]at hg
    obtain⟨a,rfl,eo⟩:∃a,v=.ref a∧EntO T (hid B Z H) a e:=by
     unfold EntAt at hv
     split at hv
     ·rename_i z _;cases z
     ·rename_i a _ z1 z2
      cases z1
      cases z2
      exact⟨a,rfl,hv⟩
     ·cases hv
    obtain⟨gC,gd,gf,hg1,hg2,hg3,hg4⟩:=(eo.mono hid_sub).group
    refine iteT ?_
    walk_at "v"
    refine⟨_,_,rfl,hg,?_⟩
    exact⟨_,_,_,_,_,rfl,hg1,hg2,hg3,hg4,k⟩
end
end
section
open Vbbraj (State Sitting)
open Sti (SInv Srt)
open Pts (Sml)
section
variable {P:Program}{w:World}{K:PySem.W.Frag}{mg:Str→Option Value}{base:Heap}
theorem SheetO.other{T:TX K mg}{L:Hp}{s:State}{b b':Nat}{l':Vbbrah.State}{a:Addr}(hb1:1≤b)(hb2:b≤s.boards)(hl:s.sheets.length=s.boards)(hne:b'≠b)(h:SheetO T L s b' a):SheetO T L (Vbbraj.putSheet s b l') b' a:=by
 have e:Vbbraj.sheet (Vbbraj.putSheet s b l') b'=Vbbraj.sheet s b':=by rw[Mth.sheet_put hb1 hb2 hl,if_neg hne]
 unfold SheetO at h ⊢
 rw[e]
 exact h
theorem EvM.mkPut{T:TX K mg}{Z:Addr→Bool}{H:Hp}{s:State}{c:Nat}{A:EvA}{b:Nat}{l':Vbbrah.State}{as ps qs:List Addr}{kvs:List (List Key×V)}{ks ds:List (Key×V)}(si:SInv s)(hb1:1≤b)(hb2:b≤s.boards)
  (nd:A.own.Nodup) (zo:∀b∈A.own,Z b=false) (zt:∀b,Z b=true→H b≠none) (hp:∃dx,H A.p=some (.ins T.k_Event.C dx (fsEv s c A))) (hs:H A.sits=some (.lst (as.map V.ref))) (ps1:Paired (SitO T (hid A Z H)) as s.sittings)
  (he:H A.ents=some (.dT kvs)) (R:EntsR T (hid A Z H) (Vbbraj.putSheet s b l') kvs) (hh:H A.shts=some (.dK ks)) (S:ShtsR T (hid A Z H) s ks) (ha:H A.adjs=some (.dK ds)) (J:AdjR s ds)
  (hq:H A.apps=some (.lst (ps.map V.ref))) (q1:Paired (PlO (hid A Z H)) ps s.appeals) (ho:H A.post=some (.lst (qs.map V.ref))) (o1:Paired (PostO (hid A Z H)) qs s.posted):EvM T Z H (Vbbraj.putSheet s b l') c A b:=by
 refine⟨nd,zo,zt,hp,⟨as,hs,ps1⟩,⟨kvs,he,R⟩,⟨ks,hh,fun b' hne h1 h2=>?_,S.key,S.nd⟩,⟨ds,ha,J.at_,?_⟩,⟨ps,hq,q1⟩,⟨qs,ho,o1⟩⟩
 ·have q:=S.at_ b' h1 h2
  split
  ·rename_i e
   rw[e]at q
   rw[Mth.sheet_put hb1 hb2 si.sl,if_neg hne]
   exact q
  ·rename_i v e
   rw[e]at q
   obtain⟨a,e1,e2⟩:=q
   exact⟨a,e1,e2.other hb1 hb2 si.sl hne⟩
 ·have:=J.len
  show ds.length≤s.changes+1
  omega
theorem EvO.toPut{T:TX K mg}{Z:Addr→Bool}{H:Hp}{s:State}{c:Nat}{A:EvA}{b:Nat}{l':Vbbrah.State}{kvs:List (List Key×V)}(E:EvO T Z H s c A)(si:SInv s)(hb1:1≤b)(hb2:b≤s.boards)(R:EntsR T (hid A Z H) (Vbbraj.putSheet s b l') kvs):
  EvM T Z (upd H A.ents (.dT kvs)) (Vbbraj.putSheet s b l') c A b:=by
 have mem:A.ents∈A.own:=by simp[EvA.own]
 have n1:=EvA.ne E.nd
 have hh:=hid_own (A:=A) (Z:=Z) (H:=H) (o:=.dT kvs) mem
 obtain⟨dp,hp⟩:=E.hp
 obtain⟨as,hs,ps1⟩:=E.hs
 obtain⟨ks,hk,S⟩:=E.hh
 obtain⟨ds,ha,J⟩:=E.ha
 obtain⟨ps,hq,q1⟩:=E.hq
 obtain⟨qs,ho,o1⟩:=E.ho
 exact EvM.mkPut si hb1 hb2 E.nd E.zo (fun d hd=>by rw[upd_ne (E.zne mem hd)];exact E.zt d hd) ⟨dp,by rw[upd_ne n1.2.1];exact hp⟩ (by rw[upd_ne n1.2.2.2.2.2.2.1];exact hs) (by rw[hh];exact ps1) upd_same (by rw[hh];exact R)
  (by rw[upd_ne n1.2.2.2.2.2.2.2.2.2.2.2.1.symm];exact hk) (by rw[hh];exact S) (by rw[upd_ne n1.2.2.2.2.2.2.2.2.2.2.2.2.1.symm];exact ha) J (by rw[upd_ne n1.2.2.2.2.2.2.2.2.2.2.2.2.2.1.symm];exact hq) (by rw[hh];exact q1) (by rw[upd_ne n1.2.2.2.2.2.2.2.2.2.2.2.2.2.2.1.symm];exact ho) (by rw[hh];exact o1)
theorem EntAt.ref{T:TX K mg}{L:Hp}{v:V}{o:Option VEnt}(h:EntAt T L (some v) o):∃a e,v=.ref a∧o=some e∧EntO T L a e:=by
 unfold EntAt at h
 split at h
 ·rename_i z;cases z
 ·rename_i a e z1
  cases z1
  exact⟨a,e,rfl,rfl,h⟩
 ·cases h
theorem EntO.some{T:TX K mg}{L:Hp}{a:Addr}{e:VEnt}(h:EntO T L a e):∃o,L a=some o:=by
 rcases h with⟨_,dx,l,h,_⟩|⟨_,dx,h⟩
 ·exact⟨_,h⟩
 ·exact⟨_,h⟩
theorem EntsR.at_some{T:TX K mg}{L:Hp}{s:State}{kvs:List (List Key×V)}(R:EntsR T L s kvs){k:List Key}{v:V}(h:valV kvs k=some v):∃a e,v=.ref a∧EntO T L a e:=by
 obtain⟨x,hx,b,hb,rfl⟩:=R.key k v h
 have:=R.at_ x hx b hb
 rw[h]at this
 obtain⟨a,e,h1,_,h2⟩:=this.ref
 exact⟨a,e,h1,h2⟩
theorem EntsR.put{T:TX K mg}{L:Hp}{s:State}{kvs:List (List Key×V)}{b:Nat}{x:Sitting}{y:Addr}{e:VEnt}(R:EntsR T L s kvs)(si:SInv s)(mx:x∈s.sittings)(xb:Vbbraj.hasBoard x b=true)(et:e.table=x.ns)(hy:EntO T L y e)
  (fy:∀k,valV kvs k≠some (.ref y)):EntsR T L (Vbbraj.putSheet s b (Vbbrah.put e (Vbbraj.sheet s b))) (putK kvs (plKey x.round x.table b) (.ref y)):=by
 obtain⟨hb1,hb2⟩:=Sti.board_in (si.so x mx) xb
 refine⟨fun z mz b' zb=>?_,fun k v h=>?_,fun k k' a h1 h2=>?_,?_⟩
 ·have mz:z∈s.sittings:=mz
  have old:=R.at_ z mz b' zb
  rw[valV_put,Mth.sheet_put hb1 hb2 si.sl]
  by_cases hk:plKey z.round z.table b'=plKey x.round x.table b
  ·obtain⟨h1,h2,rfl⟩:=plKey_inj hk
   have:=Sti.one_rt si mz mx h1 h2
   subst this
   rw[if_pos hk,if_pos rfl,Sti.entryOf_put (si.sr b'),if_pos et.symm]
   exact hy
  ·rw[if_neg hk]
   by_cases hbb:b'=b
   ·subst hbb
    rw[if_pos rfl,Sti.entryOf_put (si.sr b'),if_neg (fun q=>hk (by
     have:=Sti.one_nb si mz mx (q.trans et) zb xb
     rw[this]))]
    exact old
   ·rw[if_neg hbb]
    exact old
 ·rw[valV_put]at h
  split at h
  ·rename_i q
   exact⟨x,mx,b,xb,q⟩
  ·exact R.key k v h
 ·rw[valV_put]at h1 h2
  split at h1
  ·rename_i q1
   split at h2
   ·rename_i q2
    rw[q1,q2]
   ·cases h1
    exact absurd h2 (fy _)
  ·split at h2
   ·cases h2
    exact absurd h1 (fy _)
   ·exact R.inj k k' a h1 h2
 ·have:=R.len
  have:=length_putK kvs (plKey x.round x.table b) (.ref y)
  show _≤s.changes+1
  omega
noncomputable def Keeps(A:EvA)(H H':Hp):Prop:=∀d,H d≠none→d∉A.own→H' d=H d
theorem Keeps.of{A:EvA}{H H1:Hp}(sm:Same H H1){a:Addr}{o:HO}(h:a∈A.own):Keeps A H (upd H1 a o):=fun d hd hn=>by
 rw[upd_ne (fun z=>hn (by rw[z];exact h))]
 cases e:H d with
 |none=>exact absurd e hd
 |some u=>exact sm d u e
theorem Keeps.same{A:EvA}{H H1:Hp}(sm:Same H H1):Keeps A H H1:=fun d hd hn=>by
 cases e:H d with
 |none=>exact absurd e hd
 |some u=>exact sm d u e
theorem Keeps.trans{A:EvA}{H H1 H2:Hp}(h:Keeps A H H1)(h':Keeps A H1 H2):Keeps A H H2:=fun d hd hn=>by
 have:=h d hd hn
 rw[h' d (by rw[this];exact hd) hn,this]
inductive J_enter_result(T:TX K mg)(vs:List V)(H:Hp)(Q:VK):Prop
 |mk (A:EvA) (s:State) (c:Nat) (Z:Addr→Bool) (q o:Addr) (r t b:Nat) (x:Sitting) (res:VRes):vs=[.ref A.p,.ref q,.ref o]→EvO T Z H s c A→SInv s→PlO H q (r,t,b)→Vbbraj.placeOf s r t b=some x→ResO (hid A Z H) o res→res≠[]→s.changes≤1000→(∀H',EvM T Z H' (Vbbraj.entered s b x res 0 0) c A b→Keeps A H H'→Q .non H')→J_enter_result T vs H Q
noncomputable def sp_enter_result(T:TX K mg):Sp:=fun vs H Q _=>J_enter_result T vs H Q
theorem ok_enter_result(T:TX K mg):FnOk P w K mg base CX0 3 T.f_enter_result.f T.f_enter_result.fd ["event","place","outcomes"] (sp_enter_result T):=by
 refine okL T.f_enter_result.F sc_enter_result (fun vs H Q E h=>?_) (fun cdv A outer s H vs Q E hr h=>?_)
 rotate_left;intro Xc;rotate_left
 ·obtain⟨A,s,c,Z,q,o,r,t,b,x,res,rfl,_⟩:=h
  rfl
 ·obtain⟨B,s,c,Z,q,o,r,t,b,x,res,rfl,ev,si,hq,hpl,ro,hne,hch,k⟩:=h
  obtain⟨mx,x1,x2,xb⟩:=Sti.placeOf_some hpl
  obtain⟨hb1,hb2⟩:=Sti.board_in (si.so x mx) xb
  refine⟨_,(pss_one (ps_dput (hu_of hr) (pe_fld (pv 0) rfl) (pv 1) (pe_make T.k_RealEntry.mkk (ok_RealEntry_init T) (hr.mono (by decide)) rfl T.k_RealEntry.m T.k_RealEntry.b .nil pass0 (pa_cons (pe_call (ok_group_at T) (hr.mono (by decide)) rfl T.f_group_at.m T.f_group_at.F.kp T.f_group_at.b .nil pass0 (pa_cons (pv 0) (pa_cons (pv 1) pa_nil))) (pa_cons (pv 2) pa_nil))) rfl)),?_⟩
  refine⟨_,rfl,_,rfl,?_⟩
  refine⟨B,s,c,Z,q,r,t,b,x,rfl,ev,hq,hpl,?_⟩
  walk_at "v"
  intro y dy ny ndy nyd
  refine⟨y,dy,_,_,rfl,upd_same,rfl,?_⟩
  rw[mkI_eq]
  generalize hG:mkI H y dy _=G
  have sm:Same H G:=by rw[←hG];exact mkI_same ny ndy
  have hy:G y=some (.ins T.k_RealEntry.C dy [("group",iN (grp s b x)),("outcomes",.ref o)]):=by rw[←hG];exact mkI_at
  clear hG
  have ev1:=ev.grow sm
  obtain⟨dp,hp⟩:=ev1.hp
  obtain⟨kvs,he,R⟩:=ev1.he
  have fr:=ev.fresh ny
  have hq2:G q=some (.tup ((plKey x.round x.table b).map kV)):=by rw[x1,x2];exact sm _ _ hq
  have hkl:=R.len
  walk_at "v"
  refine⟨_,_,rfl,DPut.t he hq2 (small1000 (by omega)),?_⟩
  have R2:=R.put si mx xb (y:=y) (e:={ table:=x.ns,group:=grp s b x,result:=res,ns:=0,ew:=0 }) rfl (.inl ⟨hne,dy,o,hid_at fr.1 fr.2 hy,ro.mono (hid_mono sm)⟩) (fun k hk=>by
   obtain⟨kvs0,he0,R0⟩:=ev.he
   have:kvs0=kvs:=by
    have:=sm _ _ he0
    rw[he]at this
    cases this
    rfl
   subst this
   obtain⟨a,e,e1,e2⟩:=R0.at_some hk
   cases e1
   obtain⟨u,hu⟩:=e2.some
   have:=hid_sub _ _ hu
   rw[ny]at this
   cases this)
  exact k _ (ev1.toPut si hb1 hb2 R2) (Keeps.of sm (by simp[EvA.own]))
inductive J_enter_average(T:TX K mg)(vs:List V)(H:Hp)(Q:VK):Prop
 |mk (A:EvA) (s:State) (c:Nat) (Z:Addr→Bool) (q:Addr) (r t b n e:Nat) (x:Sitting):vs=[.ref A.p,.ref q,iN n,iN e]→EvO T Z H s c A→SInv s→PlO H q (r,t,b)→Vbbraj.placeOf s r t b=some x→s.changes≤1000→(∀H',EvM T Z H' (Vbbraj.entered s b x [] n e) c A b→Keeps A H H'→Q .non H')→J_enter_average T vs H Q
noncomputable def sp_enter_average(T:TX K mg):Sp:=fun vs H Q _=>J_enter_average T vs H Q
theorem ok_enter_average(T:TX K mg):FnOk P w K mg base CX0 3 T.f_enter_average.f T.f_enter_average.fd ["event","place","ns_per_cent","ew_per_cent"] (sp_enter_average T):=by
 refine okL T.f_enter_average.F sc_enter_average (fun vs H Q E h=>?_) (fun cdv A outer s H vs Q E hr h=>?_)
 rotate_left;intro Xc;rotate_left
 ·obtain⟨A,s,c,Z,q,r,t,b,n,e,x,rfl,_⟩:=h
  rfl
 ·obtain⟨B,s,c,Z,q,r,t,b,n,e,x,rfl,ev,si,hq,hpl,hch,k⟩:=h
  obtain⟨mx,x1,x2,xb⟩:=Sti.placeOf_some hpl
  obtain⟨hb1,hb2⟩:=Sti.board_in (si.so x mx) xb
  refine⟨_,(pss_one (ps_dput (hu_of hr) (pe_fld (pv 0) rfl) (pv 1) (pe_make T.k_ArtificialEntry.mkk (ok_ArtificialEntry_init T) (hr.mono (by decide)) rfl T.k_ArtificialEntry.m T.k_ArtificialEntry.b .nil pass0 (pa_cons (pe_call (ok_group_at T) (hr.mono (by decide)) rfl T.f_group_at.m T.f_group_at.F.kp T.f_group_at.b .nil pass0 (pa_cons (pv 0) (pa_cons (pv 1) pa_nil))) (pa_cons (pv 2) (pa_cons (pv 3) pa_nil)))) rfl)),?_⟩
  refine⟨_,rfl,_,rfl,?_⟩
  refine⟨B,s,c,Z,q,r,t,b,x,rfl,ev,hq,hpl,?_⟩
  walk_at "v"
  intro y dy ny ndy nyd
  refine⟨y,dy,_,_,_,rfl,upd_same,rfl,?_⟩
  rw[mkI_eq]
  generalize hG:mkI H y dy _=G
  have sm:Same H G:=by rw[←hG];exact mkI_same ny ndy
  have hy:G y=some (.ins T.k_ArtificialEntry.C dy [("group",iN (grp s b x)),("ns_per_cent",iN n),("ew_per_cent",iN e)]):=by rw[←hG];exact mkI_at
  clear hG
  have ev1:=ev.grow sm
  obtain⟨dp,hp⟩:=ev1.hp
  obtain⟨kvs,he,R⟩:=ev1.he
  have fr:=ev.fresh ny
  have hq2:G q=some (.tup ((plKey x.round x.table b).map kV)):=by rw[x1,x2];exact sm _ _ hq
  have hkl:=R.len
  walk_at "v"
  refine⟨_,_,rfl,DPut.t he hq2 (small1000 (by omega)),?_⟩
  have R2:=R.put si mx xb (y:=y) (e:={ table:=x.ns,group:=grp s b x,result:=[],ns:=n,ew:=e }) rfl (.inr ⟨rfl,dy,hid_at fr.1 fr.2 hy⟩) (fun k hk=>by
   obtain⟨kvs0,he0,R0⟩:=ev.he
   have:kvs0=kvs:=by
    have:=sm _ _ he0
    rw[he]at this
    cases this
    rfl
   subst this
   obtain⟨a,e,e1,e2⟩:=R0.at_some hk
   cases e1
   obtain⟨u,hu⟩:=e2.some
   have:=hid_sub _ _ hu
   rw[ny]at this
   cases this)
  exact k _ (ev1.toPut si hb1 hb2 R2) (Keeps.of sm (by simp[EvA.own]))
end
end
section
open Vbbraj (State Sitting)
open Sti (SInv Srt)
open Pts (Sml)
section
variable {P:Program}{w:World}{K:PySem.W.Frag}{mg:Str→Option Value}{base:Heap}
inductive J_enter_played(T:TX K mg)(vs:List V)(H:Hp)(Q:VK):Prop
 |mk (A:EvA) (s:State) (c:Nat) (Z:Addr→Bool) (q ap:Addr) (r t b l st d p k:Nat) (x:Sitting):vs=[.ref A.p,.ref q,.ref ap]→EvO T Z H s c A→SInv s→PlO H q (r,t,b)→H ap=some (.lst [iN r,iN t,iN b,iN l,iN st,iN d,iN p,iN k])→Vbbraj.placeOf s r t b=some x→1≤l→l≤7→st≤4→d≤2→k≤13→s.changes≤1000→(∀H',EvM T Z H' (Vbbraj.entered s b x [(1,nsScore b l st d p k)] 0 0) c A b→Keeps A H H'→Q (.int (nsScore b l st d p k)) H')→J_enter_played T vs H Q
noncomputable def sp_enter_played(T:TX K mg):Sp:=fun vs H Q _=>J_enter_played T vs H Q
theorem ok_enter_played(T:TX K mg):FnOk P w K mg base CX0 5 T.f_enter_played.f T.f_enter_played.fd ["event","place","plain"] (sp_enter_played T):=by
 refine okL T.f_enter_played.F sc_enter_played (fun vs H Q E h=>?_) (fun cdv A outer s H vs Q E hr h=>?_)
 rotate_left;intro Xc;rotate_left
 ·obtain⟨A,s,c,Z,q,ap,r,t,b,l,st,d,p,k,x,rfl,_⟩:=h
  rfl
 ·obtain⟨B,s,c,Z,q,ap,r,t,b,l,st,d,p,k,x,rfl,ev,si,hq,hap,hpl,h1,h2,h3,h4,h5,hch,kk⟩:=h
  have sq:SqL K H ap [iN r,iN t,iN b,iN l,iN st,iN d,iN p,iN k]:=SqL.of hap
  have sqq:SqT K H q [iN r,iN t,iN b]:=SqT.of hq
  refine⟨_,(pss_cons (ps_set (i:=3) sc_enter_played.nd rfl (by walk_at "or") (pe_call (ok_north_south_score T.toTC) (hr.mono (by decide)) rfl T.f_north_south_score.m T.f_north_south_score.F.kp T.f_north_south_score.b .nil pass0 (pa_cons (pe_ix ix_tup (pv 1) pe_int (fun _ _=>rfl)) (pa_cons (pe_ix ix_list (pv 2) pe_int (fun _ _=>rfl)) (pa_cons (pe_ix ix_list (pv 2) pe_int (fun _ _=>rfl)) (pa_cons (pe_ix ix_list (pv 2) pe_int (fun _ _=>rfl)) (pa_cons (pe_ix ix_list (pv 2) pe_int (fun _ _=>rfl)) (pa_cons (pe_ix ix_list (pv 2) pe_int (fun _ _=>rfl)) pa_nil)))))))) (pss_cons (ps_expr (pe_call (ok_enter_result T) (hr.mono (by decide)) rfl T.f_enter_result.m T.f_enter_result.F.kp T.f_enter_result.b .nil pass0 (pa_cons (pv 0) (pa_cons (pv 1) (pa_cons (pe_lst (pa_cons (pe_tup (pa_cons pe_int (pa_cons (pv 3) pa_nil))) pa_nil)) pa_nil))))) (pss_one (ps_ret (pv 3))))),?_⟩
  walk_at "v"
  refine⟨b,l,st,d,p,k,rfl,h1,h2,h3,h4,h5,?_⟩
  walk_at "v"
  refine⟨nle0 rfl,fun u nu=>?_⟩
  refine⟨nle0 rfl,fun v nv=>?_⟩
  have sm:Same H (upd (upd H u (.tup [.int 1,.int (nsScore b l st d p k)])) v (.lst [.ref u])):=(same_new nu).trans (same_new nv)
  have hu:upd (upd H u (.tup [.int 1,.int (nsScore b l st d p k)])) v (.lst [.ref u]) u=some (.tup [.int 1,.int (nsScore b l st d p k)]):=same_new nv _ _ upd_same
  have hv:upd (upd H u (.tup [.int 1,.int (nsScore b l st d p k)])) v (.lst [.ref u]) v=some (.lst [.ref u]):=upd_same
  have fu:=ev.fresh nu
  have fv:=ev.fresh (Same.free (same_new nu) nv)
  refine⟨B,s,c,Z,q,v,r,t,b,x,[(1,nsScore b l st d p k)],rfl,ev.grow sm,si,sm _ _ hq,hpl,⟨[u],hid_at fv.1 fv.2 hv,.cons (hid_at fu.1 fu.2 hu) .nil⟩,by simp,hch,fun H' em kp=>?_⟩
  exact⟨_,rfl,kk _ em ((Keeps.same sm).trans kp)⟩
theorem cls_ne{T:TX K mg}:T.k_Sitting.C≠T.k_RealEntry.C∧T.k_Sitting.C≠T.k_ArtificialEntry.C∧T.k_Sheet.C≠T.k_RealEntry.C∧T.k_Sheet.C≠T.k_ArtificialEntry.C∧T.k_SheetLine.C≠T.k_RealEntry.C∧T.k_SheetLine.C≠T.k_ArtificialEntry.C:=by
 have h:=T.neEv
 simp only[List.nodup_cons,List.mem_cons,List.not_mem_nil,or_false,not_or]at h
 obtain⟨_,⟨q1,q2,_⟩,⟨_,q3,q4,_⟩,⟨q5,q6,_⟩,_⟩:=h
 exact⟨q1,q2,fun z=>q3 z.symm,fun z=>q5 z.symm,fun z=>q4 z.symm,fun z=>q6 z.symm⟩
noncomputable def wo(a:Addr)(L:Hp):Hp:=fun d=>if d=a then none else L d
theorem wo_at{a d:Addr}{L:Hp}{o:HO}(h:d≠a)(e:L d=some o):wo a L d=some o:=by
 unfold wo
 rw[if_neg h]
 exact e
theorem wo_of{a d:Addr}{L:Hp}{o:HO}(e:wo a L d=some o):d≠a∧L d=some o:=by
 unfold wo at e
 split at e
 ·cases e
 ·exact⟨by assumption,e⟩
section
variable {T:TX K mg}{L:Hp}{a:Addr}{e:VEnt}
theorem ent_ne(he:EntO T L a e){d:Addr}{o:HO}(h:L d=some o)(n1:∀dx fs,o≠.ins T.k_RealEntry.C dx fs)(n2:∀dx fs,o≠.ins T.k_ArtificialEntry.C dx fs):d≠a:=by
 rintro rfl
 rcases he with⟨_,dx,l,q,_⟩|⟨_,dx,q⟩
 ·rw[q]at h
  cases h
  exact n1 _ _ rfl
 ·rw[q]at h
  cases h
  exact n2 _ _ rfl
theorem wo_tup(he:EntO T L a e){d:Addr}{xs:List V}(h:L d=some (.tup xs)):wo a L d=some (.tup xs):=wo_at (ent_ne he h (fun _ _ z=>nomatch z) (fun _ _ z=>nomatch z)) h
theorem wo_lst(he:EntO T L a e){d:Addr}{xs:List V}(h:L d=some (.lst xs)):wo a L d=some (.lst xs):=wo_at (ent_ne he h (fun _ _ z=>nomatch z) (fun _ _ z=>nomatch z)) h
theorem wo_dK(he:EntO T L a e){d:Addr}{xs:List (Key×V)}(h:L d=some (.dK xs)):wo a L d=some (.dK xs):=wo_at (ent_ne he h (fun _ _ z=>nomatch z) (fun _ _ z=>nomatch z)) h
theorem wo_ins(he:EntO T L a e){d C dx:Addr}{fs:List (Str×V)}(h:L d=some (.ins C dx fs))(n1:C≠T.k_RealEntry.C)(n2:C≠T.k_ArtificialEntry.C):wo a L d=some (.ins C dx fs):=
 wo_at (ent_ne he h (fun _ _ z=>n1 (by injection z)) (fun _ _ z=>n2 (by injection z))) h
theorem wo_res(he:EntO T L a e){l:Addr}{r:VRes}(h:ResO L l r):ResO (wo a L) l r:=by
 obtain⟨ps,h1,h2⟩:=h
 exact⟨ps,wo_lst he h1,Paired.mapP h2 fun _ _ z=>wo_tup he z⟩
theorem wo_ent(he:EntO T L a e){d:Addr}{f:VEnt}(hd:d≠a)(h:EntO T L d f):EntO T (wo a L) d f:=by
 rcases h with⟨n,dx,l,h1,h2⟩|⟨n,dx,h1⟩
 ·exact .inl ⟨n,dx,l,wo_at hd h1,wo_res he h2⟩
 ·exact .inr ⟨n,dx,wo_at hd h1⟩
theorem wo_sheet(he:EntO T L a e){s:State}{b:Nat}{d:Addr}(h:SheetO T L s b d):SheetO T (wo a L) s b d:=by
 obtain⟨dx,al,ab,ls,h1,h2,h3,kvs,h4,h5⟩:=h
 have cn:=cls_ne (T:=T)
 refine⟨dx,al,ab,ls,wo_ins he h1 cn.2.2.1 cn.2.2.2.1,wo_lst he h2,Paired.mapP h3 fun _ _ ⟨dy,q,z1,z2⟩=>⟨dy,q,wo_ins he z1 cn.2.2.2.2.1 cn.2.2.2.2.2,wo_tup he z2⟩,kvs,wo_dK he h4,fun k=>?_⟩
 have:=h5 k
 split
 ·rename_i q
  rw[q]at this
  exact this
 ·rename_i y q
  rw[q]at this
  obtain⟨z,z1,z2⟩:=this
  exact⟨z,z1,wo_tup he z2⟩
end
inductive J_set_group(T:TX K mg)(vs:List V)(H:Hp)(Q:VK):Prop
 |mk (A:EvA) (s:State) (c:Nat) (Z:Addr→Bool) (q:Addr) (r t b g:Nat) (x:Sitting) (e:VEnt):vs=[.ref A.p,.ref q,iN g]→EvO T Z H s c A→SInv s→PlO H q (r,t,b)→Vbbraj.placeOf s r t b=some x→Vbbrah.entryOf (Vbbraj.sheet s b) x.ns=some e→(∀H',EvM T Z H' (Vbbraj.putSheet s b (Vbbrah.put { table:=e.table,group:=g,result:=e.result,ns:=e.ns,ew:=e.ew } (Vbbraj.sheet s b))) c A b→(∀d,Z d=true→H' d=H d)→(∀d xs,H d=some (.tup xs)→H' d=H d)→Q .non H')→J_set_group T vs H Q
noncomputable def sp_set_group(T:TX K mg):Sp:=fun vs H Q _=>J_set_group T vs H Q
theorem ok_set_group(T:TX K mg):FnOk P w K mg base CX0 1 T.f_set_group.f T.f_set_group.fd ["event","place","group"] (sp_set_group T):=by
 refine okL T.f_set_group.F sc_set_group (fun vs H Q E h=>?_) (fun cdv A outer s H vs Q E hr h=>?_)
 rotate_left;intro Xc;rotate_left
 ·obtain⟨A,s,c,Z,q,r,t,b,g,x,e,rfl,_⟩:=h
  rfl
 ·obtain⟨B,s,c,Z,q,r,t,b,g,x,e,rfl,ev,si,hq,hpl,hen,k⟩:=h
  obtain⟨mx,x1,x2,xb⟩:=Sti.placeOf_some hpl
  obtain⟨hb1,hb2⟩:=Sti.board_in (si.so x mx) xb
  obtain⟨dp,hp⟩:=ev.hp
  obtain⟨kvs,he,R⟩:=ev.he
  have hq2:H q=some (.tup ((plKey x.round x.table b).map kV)):=by rw[x1,x2];exact hq
  have hv:=R.at_ x mx b xb
  rw[hen]at hv
  have hg:=DGet.t he hq2
  obtain⟨a,ha,eo⟩:∃a,valV kvs (plKey x.round x.table b)=some (.ref a)∧EntO T (hid B Z H) a e:=by
   cases e1:valV kvs (plKey x.round x.table b)with
   |none=>rw[e1]at hv;cases hv
   |some v=>
    rw[e1]at hv
    obtain⟨a,e',h1,h2,h3⟩:=hv.ref
    cases h2
    exact⟨a,by rw[h1],h3⟩
  rw[ha]at hg
  obtain⟨_,te⟩:=Sti.entryOf_some hen
  obtain⟨o0,ho0⟩:=eo.some
  have na:a∉B.own∧Z a=false:=by
   unfold hid at ho0
   split at ho0
   ·cases ho0
   ·rename_i z
    simp only[not_or,Bool.not_eq_true]at z
    exact z
  have main:∀o2:HO,EntO T (hid B Z (upd H a o2)) a { table:=e.table,group:=g,result:=e.result,ns:=e.ns,ew:=e.ew }→Q .non (upd H a o2):=fun o2 eo2=>by
   have sL:Same (wo a (hid B Z H)) (hid B Z (upd H a o2)):=fun d o hd=>by
    obtain⟨n1,n2⟩:=wo_of hd
    unfold hid at n2 ⊢
    split at n2
    ·cases n2
    ·rename_i z
     rw[if_neg z,upd_ne n1]
     exact n2
   have own:∀{d:Addr},d∈B.own→upd H a o2 d=H d:=fun{d} hd=>upd_ne (fun z=>na.1 (by rw[←z];exact hd))
   have cn:=cls_ne (T:=T)
   obtain⟨as,hs,ps1⟩:=ev.hs
   obtain⟨ks,hk,S⟩:=ev.hh
   obtain⟨ds,hd,J⟩:=ev.ha
   obtain⟨ps,hqq,q1⟩:=ev.hq
   obtain⟨qs,ho,o1⟩:=ev.ho
   refine k _ (EvM.mkPut si hb1 hb2 ev.nd ev.zo (fun d hd=>?_) ⟨dp,(own (by simp[EvA.own])).trans hp⟩ ((own (by simp[EvA.own])).trans hs) (Paired.mapP ps1 fun _ _ ⟨dx,z⟩=>⟨dx,sL _ _ (wo_ins eo z cn.1 cn.2.1)⟩)
    ((own (by simp[EvA.own])).trans he) ?_ ((own (by simp[EvA.own])).trans hk) ⟨fun b' h1 h2=>?_,S.key,S.nd⟩ ((own (by simp[EvA.own])).trans hd) J ((own (by simp[EvA.own])).trans hqq) (Paired.mapP q1 fun _ _ z=>sL _ _ (wo_tup eo z))
    ((own (by simp[EvA.own])).trans ho) (Paired.mapP o1 fun _ _ z=>sL _ _ (wo_lst eo z))) (fun d hd=>?_) (fun d xs hd=>?_)
   ·rw[upd_ne (fun z=>by rw[z,na.2]at hd;cases hd)]
    exact ev.zt d hd
   ·refine⟨fun z mz b' zb=>?_,R.key,R.inj,?_⟩
    ·have mz:z∈s.sittings:=mz
     have old:=R.at_ z mz b' zb
     rw[Mth.sheet_put hb1 hb2 si.sl]
     by_cases hk:plKey z.round z.table b'=plKey x.round x.table b
     ·obtain⟨h1,h2,rfl⟩:=plKey_inj hk
      have:=Sti.one_rt si mz mx h1 h2
      subst this
      rw[if_pos rfl,Sti.entryOf_put (si.sr b'),if_pos te.symm,ha]
      exact eo2
     ·have cp:EntAt T (hid B Z (upd H a o2)) (valV kvs (plKey z.round z.table b')) (Vbbrah.entryOf (Vbbraj.sheet s b') z.ns):=by
       cases e1:valV kvs (plKey z.round z.table b')with
       |none=>
        rw[e1]at old
        cases e2:Vbbrah.entryOf (Vbbraj.sheet s b') z.ns with
        |none=>trivial
        |some f=>rw[e2]at old;cases old
       |some v=>
        rw[e1]at old
        obtain⟨a',f,h1,h2,h3⟩:=old.ref
        subst h1
        rw[h2]
        have:a'≠a:=fun z=>hk (R.inj _ _ a (by rw[←z];exact e1) ha)
        exact(wo_ent eo this h3).mono sL
      by_cases hbb:b'=b
      ·subst hbb
       rw[if_pos rfl,Sti.entryOf_put (si.sr b'),if_neg (fun q=>hk (by
        have:=Sti.one_nb si mz mx (q.trans te) zb xb
        rw[this]))]
       exact cp
      ·rw[if_neg hbb]
       exact cp
    ·have:=R.len
     show _≤s.changes+1
     omega
   ·have:=S.at_ b' h1 h2
    split
    ·rename_i q
     rw[q]at this
     exact this
    ·rename_i v q
     rw[q]at this
     obtain⟨y,y1,y2⟩:=this
     exact⟨y,y1,(wo_sheet eo y2).mono sL⟩
   ·exact upd_ne (fun z=>by rw[z,na.2]at hd;cases hd)
   ·exact upd_ne (ent_ne (eo.mono hid_sub) hd (fun _ _ z=>nomatch z) (fun _ _ z=>nomatch z))
  refine⟨_,(pss_cons (ps_set (i:=3) sc_set_group.nd rfl (by walk_at "or") (pe_dget (hu_of hr) (pe_fld (pv 0) rfl) (pv 1) (fun _ _=>rfl))) (pss_one (ps_fld (pv 3) (pv 2) rfl))),?_⟩
  walk_at "v"
  refine⟨_,_,rfl,hg,?_⟩
  rcases id eo with⟨n,dx,l,h1,h2⟩|⟨n,dx,h1⟩
  ·refine⟨_,rfl,_,rfl,a,_,dx,_,rfl,hid_of h1,T.k_RealEntry.cl,T.k_RealEntry.na _ rfl,nle0 rfl,?_⟩
   refine main _ (.inl ⟨n,dx,l,hid_at na.1 na.2 upd_same,?_⟩)
   refine ResO.mono (fun d o hd=>?_) (wo_res eo h2)
   obtain⟨n1,n2⟩:=wo_of hd
   unfold hid at n2 ⊢
   split at n2
   ·cases n2
   ·rename_i z
    rw[if_neg z,upd_ne n1]
    exact n2
  ·refine⟨_,rfl,_,rfl,a,_,dx,_,rfl,hid_of h1,T.k_ArtificialEntry.cl,T.k_ArtificialEntry.na _ rfl,nle0 rfl,?_⟩
   exact main _ (.inr ⟨n,dx,hid_at na.1 na.2 upd_same⟩)
end
end
section
open Vbbraj (State Sitting)
open Sti (SInv Srt)
open Pts (Sml)
section
variable {P:Program}{w:World}{K:PySem.W.Frag}{mg:Str→Option Value}{base:Heap}
noncomputable def onPl:Vbbraj.Call→Nat→Nat→Nat→Prop
 | .result r' t' b' _,r,t,b=>r'=r∧t'=t∧b'=b
 | .played r' t' b' _ _ _ _ _,r,t,b=>r'=r∧t'=t∧b'=b
 | .passed r' t' b',r,t,b=>r'=r∧t'=t∧b'=b
 | .average r' t' b' _ _,r,t,b=>r'=r∧t'=t∧b'=b
 | .foul r' t' b' _,r,t,b=>r'=r∧t'=t∧b'=b
 | .remove r' t' b',r,t,b=>r'=r∧t'=t∧b'=b
 | .appeal r' t' b',r,t,b=>r'=r∧t'=t∧b'=b
 | .ruling r' t' b' _,r,t,b=>r'=r∧t'=t∧b'=b
 |_,_,_,_=>False
theorem ref0{s:State}{n:Int}{r t b:Nat}{x:Sitting}(h:placeRef s n r t b=0)(hp:Vbbraj.placeOf s r t b=some x):
  (n=11∧Vbbraj.appealed s r t b=true)∨(n≠11∧Vbbraj.appealed s r t b=false∧(wants n=true→∃e,Vbbrah.entryOf (Vbbraj.sheet s b) x.ns=some e)):=by
 unfold placeRef at h
 rw[hp]at h
 simp only at h
 by_cases h11:n=11
 ·rw[if_pos h11]at h
  by_cases ha:Vbbraj.appealed s r t b=true
  ·exact .inl ⟨h11,ha⟩
  ·rw[if_neg ha]at h
   omega
 ·rw[if_neg h11]at h
  by_cases ha:Vbbraj.appealed s r t b=true
  ·rw[if_pos ha]at h
   omega
  ·rw[if_neg ha]at h
   refine .inr ⟨h11,by simpa using ha,fun hw=>?_⟩
   cases he:Vbbrah.entryOf (Vbbraj.sheet s b) x.ns with
   |some e=>exact⟨e,rfl⟩
   |none=>
    rw[he,if_pos ⟨hw,rfl⟩]at h
    omega
theorem onPlace_eq{s:State}{r t b:Nat}{x:Sitting}(hp:Vbbraj.placeOf s r t b=some x)(ha:Vbbraj.appealed s r t b=false)(f:Sitting→State×List Int):Vbbraj.onPlace s (r:Int) (t:Int) (b:Int) f=f x:=by
 unfold Vbbraj.onPlace
 simp only[Int.toNat_natCast,hp,ha]
 rfl
theorem paired_mem{α β:Type}{G G':α→β→Prop}{l:List α}{m:List β}(h:Paired G l m):(∀a∈l,∀b∈m,G a b→G' a b)→Paired G' l m:=by
 induction h with
 |nil=>intro _;exact .nil
 |cons g _ ih=>intro k;exact .cons (k _ (by simp) _ (by simp) g) (ih fun a ha b hb=>k a (by simp[ha]) b (by simp[hb]))
theorem out_res{L:Hp}{D:Addr}{ps:List Addr}{rw_:List Int}(hr:Vbbrah.isResult rw_=true)(hD:L D=some (.lst (ps.map V.ref)))(pp:Paired (PrO L) ps (Vbbrah.pairsOf rw_)):ResO L D (Vbbrah.resultOf rw_):=by
 refine⟨ps,hD,?_⟩
 have hw:∀q∈Vbbrah.pairsOf rw_,1≤q.1:=fun q hq=>by
  unfold Vbbrah.isResult at hr
  simp only[Bool.and_eq_true,decide_eq_true_eq]at hr
  have:=List.all_eq_true.mp hr.2.2.2 q hq
  simp only[Vbbrah.within,Bool.and_eq_true,decide_eq_true_eq]at this
  exact this.1.1
 unfold Vbbrah.resultOf
 generalize Vbbrah.pairsOf rw_=l at pp hw
 clear hr hD
 induction pp with
 |nil=>exact .nil
 |@cons p q ps l g _ ih=>
  refine .cons ?_ (ih fun z hz=>hw z (by simp[hz]))
  show L p=some (.tup [.int ((q.1.toNat:Nat):Int),.int q.2])
  rw[Int.toNat_of_nonneg (by have:=hw q (by simp);omega)]
  exact g
theorem res_len{rw_:List Int}(hr:Vbbrah.isResult rw_=true):rw_.length % 2=0∧rw_.length≤1000:=by
 unfold Vbbrah.isResult at hr
 simp only[Bool.and_eq_true,decide_eq_true_eq,beq_iff_eq]at hr
 omega
theorem valV_erase{κ:Type}[DecidableEq κ]:∀{kvs:List (κ×V)} {j:Nat} {k:κ} {v:V},(kvs.map (·.1)).Nodup→kvs[j]?=some (k,v)→∀k',valV (kvs.eraseIdx j) k'=if k'=k then none else valV kvs k'
 |[],j,k,v,_,h,_=>by simp at h
 |p::r,0,k,v,hn,h,k'=>by
  rw[List.getElem?_cons_zero]at h
  cases h
  rw[List.eraseIdx_cons_zero]
  by_cases e:k'=k
  ·rw[if_pos e,e]
   cases q:valV r k with
   |none=>rfl
   |some u=>exact absurd (valV_in q) (List.nodup_cons.mp hn).1
  ·rw[if_neg e]
   exact(valV_neg (p:=(k,v)) (fun z=>e z.symm)).symm
 |p::r,j+1,k,v,hn,h,k'=>by
  rw[List.getElem?_cons_succ]at h
  rw[List.eraseIdx_cons_succ]
  have hn2:=List.nodup_cons.mp hn
  have ih:=valV_erase (k':=k') hn2.2 h
  by_cases e:p.1=k'
  ·rw[valV_pos e,valV_pos e]
   have:k'≠k:=fun z=>hn2.1 (by show p.1∈_;rw[e,z];exact List.mem_map.mpr ⟨_,List.mem_of_getElem? h,rfl⟩)
   rw[if_neg this]
  ·rw[valV_neg e,valV_neg e]
   exact ih
theorem valV_get{κ:Type}[DecidableEq κ]{kvs:List (κ×V)}{k:κ}{v:V}(h:valV kvs k=some v):∃j:Nat,kvs[j]?=some (k,v):=by
 unfold valV at h
 cases e:kvs.find? (fun kv=>decide (kv.1=k))with
 |none=>rw[e]at h;cases h
 |some p=>
  rw[e]at h
  cases h
  have h1:p.1=k:=by simpa using List.find?_some e
  obtain⟨j,hj⟩:=List.getElem?_of_mem (List.mem_of_find?_eq_some e)
  exact⟨j,by rw[hj,←h1]⟩
theorem EntsR.drop{T:TX K mg}{L:Hp}{s:State}{kvs:List (List Key×V)}{b j:Nat}{x:Sitting}{v:V}(R:EntsR T L s kvs)(si:SInv s)(mx:x∈s.sittings)(xb:Vbbraj.hasBoard x b=true)(hn:(kvs.map (·.1)).Nodup)(hj:kvs[j]?=some (plKey x.round x.table b,v)):
  EntsR T L (Vbbraj.putSheet s b ((Vbbraj.sheet s b).filter fun e=>e.table != x.ns)) (kvs.eraseIdx j):=by
 obtain⟨hb1,hb2⟩:=Sti.board_in (si.so x mx) xb
 have ve:=valV_erase hn hj
 refine⟨fun z mz b' zb=>?_,fun k u h=>?_,fun k k' a h1 h2=>?_,?_⟩
 ·have mz:z∈s.sittings:=mz
  have old:=R.at_ z mz b' zb
  rw[ve,Mth.sheet_put hb1 hb2 si.sl]
  by_cases hk:plKey z.round z.table b'=plKey x.round x.table b
  ·obtain⟨h1,h2,rfl⟩:=plKey_inj hk
   have:=Sti.one_rt si mz mx h1 h2
   subst this
   rw[if_pos hk,if_pos rfl,Sti.entryOf_drop,if_pos rfl]
   trivial
  ·rw[if_neg hk]
   by_cases hbb:b'=b
   ·subst hbb
    rw[if_pos rfl,Sti.entryOf_drop,if_neg (fun q=>hk (by
     have:=Sti.one_nb si mz mx q zb xb
     rw[this]))]
    exact old
   ·rw[if_neg hbb]
    exact old
 ·rw[ve]at h
  split at h
  ·cases h
  ·exact R.key k u h
 ·rw[ve]at h1 h2
  split at h1
  ·cases h1
  ·split at h2
   ·cases h2
   ·exact R.inj k k' a h1 h2
 ·have:=R.len
  have:=List.length_eraseIdx_le kvs j
  show _≤s.changes+1
  omega
theorem erase_filter{α:Type}[BEq α][LawfulBEq α]:∀{l:List α} {j:Nat} {a:α},l.Nodup→l[j]?=some a→l.eraseIdx j=l.filter fun y=>y != a
 |[],j,a,_,h=>by simp at h
 |c::l,0,a,hn,h=>by
  rw[List.getElem?_cons_zero]at h
  cases h
  have hn2:=List.nodup_cons.mp hn
  rw[List.eraseIdx_cons_zero,List.filter_cons_of_neg (by simp),List.filter_eq_self.mpr]
  intro y hy
  simp only[bne_iff_ne,ne_eq]
  rintro rfl
  exact hn2.1 hy
 |c::l,j+1,a,hn,h=>by
  rw[List.getElem?_cons_succ]at h
  have hn2:=List.nodup_cons.mp hn
  have:c≠a:=fun z=>hn2.1 (by rw[z];exact List.mem_of_getElem? h)
  rw[List.eraseIdx_cons_succ,List.filter_cons_of_pos (by simpa using this),erase_filter hn2.2 h]
theorem EvO.reapp{T:TX K mg}{Z:Addr→Bool}{H:Hp}{s:State}{c:Nat}{A:EvA}{ps:List Addr}{l:List (Nat×Nat×Nat)}(E:EvO T Z H s c A)(q1:Paired (PlO (hid A Z H)) ps l):EvO T Z (upd H A.apps (.lst (ps.map V.ref))) { s with appeals:=l } c A:=by
 have mem:A.apps∈A.own:=by simp[EvA.own]
 have n1:=EvA.ne E.nd
 have hh:=hid_own (A:=A) (Z:=Z) (H:=H) (o:=.lst (ps.map V.ref)) mem
 obtain⟨dp,hp⟩:=E.hp
 obtain⟨as,hs,ps1⟩:=E.hs
 obtain⟨kvs,he,R⟩:=E.he
 obtain⟨ks,hk,S⟩:=E.hh
 obtain⟨ds,ha,J⟩:=E.ha
 obtain⟨qs,ho,o1⟩:=E.ho
 refine⟨E.nd,E.zo,fun d hd=>by rw[upd_ne (E.zne mem hd)];exact E.zt d hd,⟨dp,by rw[upd_ne n1.2.2.2.2.1];exact hp⟩,⟨as,by rw[upd_ne n1.2.2.2.2.2.2.2.2.2.1];exact hs,by rw[hh];exact ps1⟩,
  ⟨kvs,by rw[upd_ne n1.2.2.2.2.2.2.2.2.2.2.2.2.2.1];exact he,by rw[hh];exact⟨R.at_,R.key,R.inj,R.len⟩⟩,⟨ks,by rw[upd_ne n1.2.2.2.2.2.2.2.2.2.2.2.2.2.2.2.2.1];exact hk,by rw[hh];exact⟨S.at_,S.key,S.nd⟩⟩,
  ⟨ds,by rw[upd_ne n1.2.2.2.2.2.2.2.2.2.2.2.2.2.2.2.2.2.2.1];exact ha,J.at_,J.len⟩,⟨ps,upd_same,by rw[hh];exact q1⟩,⟨qs,by rw[upd_ne n1.2.2.2.2.2.2.2.2.2.2.2.2.2.2.2.2.2.2.2.2.symm];exact ho,by rw[hh];exact o1⟩⟩
end
end
section
open Vbbraj (State Sitting)
open Sti (SInv Srt)
open Pts (Sml)
section
variable {P:Program}{w:World}{K:PySem.W.Frag}{mg:Str→Option Value}{base:Heap}
inductive J_carry_out(T:TX K mg)(vs:List V)(H:Hp)(Q:VK):Prop
 |mk (A:EvA) (s:State) (c:Nat) (Z:Addr→Bool) (a q:Addr) (r t b:Nat) (x:Sitting) (call:Vbbraj.Call):vs=[.ref A.p,.ref a,.ref q]→EvO T Z H s c A→SInv s→CallO T H a (num call) (plainOf call) (rowOf call)→PlO (hid A Z H) q (r,t,b)→onPl call r t b→Vbbraj.ranged call=true→Vbbraj.placeOf s r t b=some x→placeRef s (num call) r t b=0→s.changes≤1000→s.appeals.length≤1000→(∀H' y,EvM T Z H' (Vbbraj.act s call).1 c A b→(∀d,Z d=true→H' d=H d)→H' q=H q→H' y=some (.lst ((Vbbraj.act s call).2.map V.int))→y∉A.own→Q (.ref y) H')→J_carry_out T vs H Q
noncomputable def sp_carry_out(T:TX K mg):Sp:=fun vs H Q _=>J_carry_out T vs H Q
theorem EvO.zown{T:TX K mg}{Z:Addr→Bool}{H:Hp}{s:State}{c:Nat}{A:EvA}(E:EvO T Z H s c A){d:Addr}(h:Z d=true):d∉A.own:=fun z=>by
 rw[E.zo d z]at h
 cases h
theorem hid_own_not{A:EvA}{Z:Addr→Bool}{H:Hp}{d:Addr}{o:HO}(h:hid A Z H d=some o):d∉A.own∧Z d=false:=by
 unfold hid at h
 split at h
 ·cases h
 ·rename_i z
  simp only[not_or,Bool.not_eq_true]at z
  exact z
theorem ok_carry_out(T:TX K mg):FnOk P w K mg base CX0 6 T.f_carry_out.f T.f_carry_out.fd ["event","call","place"] (sp_carry_out T):=by
 refine okL T.f_carry_out.F sc_carry_out (fun vs H Q E h=>?_) (fun cdv A outer s H vs Q E hr h=>?_)
 rotate_left;intro Xc;rotate_left
 ·obtain⟨A,s,c,Z,a,q,r,t,b,x,call,rfl,_⟩:=h
  rfl
 ·obtain⟨B,s,c,Z,a,q,r,t,b,x,call,rfl,ev,si,⟨dc,ap,ar,hc,hpl,hrw⟩,hq,hon,hrg,hp,href,hch,hal,k⟩:=h
  obtain⟨mx,x1,x2,xb⟩:=Sti.placeOf_some hp
  obtain⟨hb1,hb2⟩:=Sti.board_in (si.so x mx) xb
  have hq0:=hid_of hq
  have qo:=(hid_own_not hq).1
  have rf:=ref0 href hp
  obtain⟨dp,hep⟩:=ev.hp
  have fin:∀(H':Hp) (s':State),Vbbraj.act s call=(s',[0])→EvM T Z H' s' c B b→(∀d,Z d=true→H' d=H d)→H' q=H q→∀y,H' y=none→Q (.ref y) (upd H' y (.lst [.int 0])):=fun H' s' ha em hz hqq y ny=>by
   have e1:(Vbbraj.act s call).1=s':=by rw[ha]
   have e2:(Vbbraj.act s call).2=[0]:=by rw[ha]
   have fr:=em.fresh ny
   refine k _ y (by rw[e1];exact em.grow (same_new ny)) (fun d hd=>?_) ?_ (by rw[e2];exact upd_same) fr.1
   ·rw[upd_ne (fun z=>by rw[z,fr.2]at hd;cases hd)]
    exact hz d hd
   ·rw[upd_ne (ne_of_none (by rw[hqq];exact hq0) ny)]
    exact hqq
  have kz:∀{H':Hp},Keeps B H H'→(∀d,Z d=true→H' d=H d)∧H' q=H q:=fun kp=>⟨fun d hd=>kp d (ev.zt d hd) (ev.zown hd),kp q (by rw[hq0];simp) qo⟩
  refine⟨_,(pss_cons (ps_if (pt_cmpR op_eq (pe_fld (pv 1) rfl) (pe_g rfl T.c_PLAYED) (nomark _)) (pss_one (ps_ret (pe_lst (pa_cons pe_int (pa_cons (pe_call (ok_enter_played T) (hr.mono (by decide)) rfl T.f_enter_played.m T.f_enter_played.F.kp T.f_enter_played.b .nil pass0 (pa_cons (pv 0) (pa_cons (pv 2) (pa_cons (pe_fld (pv 1) rfl) pa_nil)))) pa_nil))))) pss_nil) (pss_cons (ps_if (pt_cmpR op_eq (pe_fld (pv 1) rfl) (pe_g rfl T.c_RESULT) (nomark _)) (pss_one (ps_expr (pe_call (ok_enter_result T) (hr.mono (by decide)) rfl T.f_enter_result.m T.f_enter_result.F.kp T.f_enter_result.b .nil pass0 (pa_cons (pv 0) (pa_cons (pv 2) (pa_cons (pe_call (ok_outcomes_of T) (hr.mono (by decide)) rfl T.f_outcomes_of.m T.f_outcomes_of.F.kp T.f_outcomes_of.b .nil pass0 (pa_cons (pe_fld (pv 1) rfl) pa_nil)) pa_nil)))))) (pss_one (ps_if (pt_cmpR op_eq (pe_fld (pv 1) rfl) (pe_g rfl T.c_PASSED) (nomark _)) (pss_one (ps_expr (pe_call (ok_enter_result T) (hr.mono (by decide)) rfl T.f_enter_result.m T.f_enter_result.F.kp T.f_enter_result.b .nil pass0 (pa_cons (pv 0) (pa_cons (pv 2) (pa_cons (pe_lst (pa_cons (pe_tup (pa_cons pe_int (pa_cons pe_int pa_nil))) pa_nil)) pa_nil)))))) (pss_one (ps_if (pt_cmpR op_eq (pe_fld (pv 1) rfl) (pe_g rfl T.c_AVERAGE) (nomark _)) (pss_one (ps_expr (pe_call (ok_enter_average T) (hr.mono (by decide)) rfl T.f_enter_average.m T.f_enter_average.F.kp T.f_enter_average.b .nil pass0 (pa_cons (pv 0) (pa_cons (pv 2) (pa_cons (pe_ix ix_list (pe_fld (pv 1) rfl) pe_int (fun _ _=>rfl)) (pa_cons (pe_ix ix_list (pe_fld (pv 1) rfl) pe_int (fun _ _=>rfl)) pa_nil))))))) (pss_one (ps_if (pt_cmpR op_eq (pe_fld (pv 1) rfl) (pe_g rfl T.c_FOUL) (nomark _)) (pss_one (ps_expr (pe_call (ok_set_group T) (hr.mono (by decide)) rfl T.f_set_group.m T.f_set_group.F.kp T.f_set_group.b .nil pass0 (pa_cons (pv 0) (pa_cons (pv 2) (pa_cons (pe_ix ix_list (pe_fld (pv 1) rfl) pe_int (fun _ _=>rfl)) pa_nil)))))) (pss_one (ps_if (pt_cmpR op_eq (pe_fld (pv 1) rfl) (pe_g rfl T.c_REMOVE) (nomark _)) (pss_one (ps_expr (pe_dpopT (hu_of hr) (pe_fld (pv 0) rfl) (pv 2) ⟨rfl,rfl,rfl,rfl⟩))) (pss_one (ps_if (pt_cmpR op_eq (pe_fld (pv 1) rfl) (pe_g rfl T.c_APPEAL) (nomark _)) (pss_one (ps_expr (pe_bm PySem.F.plainAttrs_list PySem.F.slot_list_append PySem.F.type_list_append mt_append (pe_fld (pv 0) rfl) (pa_cons (pv 2) pa_nil)))) (pss_one (ps_if (pt_cmpR op_eq (pe_fld (pv 1) rfl) (pe_g rfl T.c_RULING) (nomark _)) (pss_cons (ps_expr (pe_bm PySem.F.plainAttrs_list PySem.F.slot_list_remove PySem.F.type_list_remove (mt_removeT hr.units) (pe_fld (pv 0) rfl) (pa_cons (pv 2) pa_nil))) (pss_one (ps_expr (pe_call (ok_enter_result T) (hr.mono (by decide)) rfl T.f_enter_result.m T.f_enter_result.F.kp T.f_enter_result.b .nil pass0 (pa_cons (pv 0) (pa_cons (pv 2) (pa_cons (pe_call (ok_outcomes_of T) (hr.mono (by decide)) rfl T.f_outcomes_of.m T.f_outcomes_of.F.kp T.f_outcomes_of.b .nil pass0 (pa_cons (pe_fld (pv 1) rfl) pa_nil)) pa_nil))))))) pss_nil))))))))))))) (pss_one (ps_ret (pe_lst (pa_cons pe_int pa_nil)))))),?_⟩
  cases call with
  |result r' t' b' l=>
   obtain⟨rfl,rfl,rfl⟩:=hon
   obtain⟨h11,_⟩|⟨_,happ,_⟩:=rf
   ·cases h11
   have hact:Vbbraj.act s (.result r t b l)=(Vbbraj.entered s b x (Vbbrah.resultOf l) 0 0,[0]):=by
    show Vbbraj.onPlace s r t b _=_
    rw[onPlace_eq hp happ,Int.toNat_natCast]
   simp only[Vbbraj.ranged,Bool.and_eq_true]at hrg
   have hrl:=res_len hrg.2
   walk_at "v"
   refine⟨ar,l,rfl,hrw,hrl.1,hrl.2,fun H1 D ps sm nD np hD pp=>?_⟩
   have fD:=ev.fresh nD
   have ro:ResO (hid B Z H1) D (Vbbrah.resultOf l):=out_res hrg.2 (hid_at fD.1 fD.2 hD) (paired_mem pp fun p hp _ _ z=>hid_at (ev.fresh (np p hp)).1 (ev.fresh (np p hp)).2 z)
   refine⟨B,s,c,Z,q,D,r,t,b,x,_,rfl,ev.grow sm,si,sm _ _ hq0,hp,ro,(Sti.resultOf_ok hrg.2).1,hch,fun H2 em kp=>?_⟩
   have kp2:=kz ((Keeps.same sm).trans kp)
   walk_at "v"
   exact⟨nle0 rfl,fun y ny=>fin H2 _ hact em kp2.1 kp2.2 y ny⟩
  |passed r' t' b'=>
   obtain⟨rfl,rfl,rfl⟩:=hon
   obtain⟨h11,_⟩|⟨_,happ,_⟩:=rf
   ·cases h11
   have hact:Vbbraj.act s (.passed r t b)=(Vbbraj.entered s b x [(1,0)] 0 0,[0]):=by
    show Vbbraj.onPlace s r t b _=_
    rw[onPlace_eq hp happ,Int.toNat_natCast]
   walk_at "v"
   refine⟨nle0 rfl,fun u nu=>?_⟩
   refine⟨nle0 rfl,fun v nv=>?_⟩
   have sm:Same H (upd (upd H u (.tup [.int 1,.int 0])) v (.lst [.ref u])):=(same_new nu).trans (same_new nv)
   have hu:upd (upd H u (.tup [.int 1,.int 0])) v (.lst [.ref u]) u=some (.tup [.int 1,.int 0]):=same_new nv _ _ upd_same
   have hv:upd (upd H u (.tup [.int 1,.int 0])) v (.lst [.ref u]) v=some (.lst [.ref u]):=upd_same
   have fu:=ev.fresh nu
   have fv:=ev.fresh (Same.free (same_new nu) nv)
   refine⟨B,s,c,Z,q,v,r,t,b,x,[(1,0)],rfl,ev.grow sm,si,sm _ _ hq0,hp,⟨[u],hid_at fv.1 fv.2 hv,.cons (hid_at fu.1 fu.2 hu) .nil⟩,by simp,hch,fun H2 em kp=>?_⟩
   have kp2:=kz ((Keeps.same sm).trans kp)
   walk_at "v"
   exact⟨nle0 rfl,fun y ny=>fin H2 _ hact em kp2.1 kp2.2 y ny⟩
  |average r' t' b' n e=>
   obtain⟨rfl,rfl,rfl⟩:=hon
   obtain⟨h11,_⟩|⟨_,happ,_⟩:=rf
   ·cases h11
   simp only[Vbbraj.ranged,Bool.and_eq_true,Sti.inside_iff]at hrg
   obtain⟨n',rfl⟩:=Int.eq_ofNat_of_zero_le hrg.2.1.1
   obtain⟨e',rfl⟩:=Int.eq_ofNat_of_zero_le hrg.2.2.1
   have hact:Vbbraj.act s (.average r t b n' e')=(Vbbraj.entered s b x [] n' e',[0]):=by
    show Vbbraj.onPlace s r t b _=_
    rw[onPlace_eq hp happ,Int.toNat_natCast,Int.toNat_natCast,Int.toNat_natCast]
   have sq:SqL K H ap [iN r,iN t,iN b,iN n',iN e']:=SqL.of hpl
   walk_at "v"
   refine⟨B,s,c,Z,q,r,t,b,n',e',x,rfl,ev,si,hq0,hp,hch,fun H2 em kp=>?_⟩
   have kp2:=kz kp
   walk_at "v"
   exact⟨nle0 rfl,fun y ny=>fin H2 _ hact em kp2.1 kp2.2 y ny⟩
  |foul r' t' b' g=>
   obtain⟨rfl,rfl,rfl⟩:=hon
   obtain⟨h11,_⟩|⟨_,happ,hwt⟩:=rf
   ·cases h11
   obtain⟨e,hen⟩:=hwt rfl
   simp only[Vbbraj.ranged,Bool.and_eq_true,Sti.inside_iff]at hrg
   obtain⟨g',rfl⟩:=Int.eq_ofNat_of_zero_le hrg.2.1
   have hact:Vbbraj.act s (.foul r t b g')=(Vbbraj.putSheet s b (Vbbrah.put { table:=e.table,group:=g',result:=e.result,ns:=e.ns,ew:=e.ew } (Vbbraj.sheet s b)),[0]):=by
    show Vbbraj.onPlace s r t b _=_
    rw[onPlace_eq hp happ,Int.toNat_natCast,hen]
    rfl
   have sq:SqL K H ap [iN r,iN t,iN b,iN g']:=SqL.of hpl
   walk_at "v"
   refine⟨B,s,c,Z,q,r,t,b,g',x,e,rfl,ev,si,hq0,hp,hen,fun H2 em kz2 kt=>?_⟩
   walk_at "v"
   exact⟨nle0 rfl,fun y ny=>fin H2 _ hact em kz2 (kt _ _ hq0) y ny⟩
  |remove r' t' b'=>
   obtain⟨rfl,rfl,rfl⟩:=hon
   obtain⟨h11,_⟩|⟨_,happ,hwt⟩:=rf
   ·cases h11
   obtain⟨e,hen⟩:=hwt rfl
   have hact:Vbbraj.act s (.remove r t b)=(Vbbraj.putSheet s b ((Vbbraj.sheet s b).filter fun e=>e.table != x.ns),[0]):=by
    show Vbbraj.onPlace s r t b _=_
    rw[onPlace_eq hp happ,Int.toNat_natCast,hen]
   obtain⟨kvs,he,R⟩:=ev.he
   have hv:=R.at_ x mx b xb
   rw[hen]at hv
   have hq2:H q=some (.tup ((plKey x.round x.table b).map kV)):=by rw[x1,x2];exact hq0
   obtain⟨v,ha⟩:∃v,valV kvs (plKey x.round x.table b)=some v:=by
    cases e1:valV kvs (plKey x.round x.table b)with
    |none=>rw[e1]at hv;cases hv
    |some v=>exact⟨v,rfl⟩
   obtain⟨j,hj⟩:=valV_get ha
   walk_at "v"
   refine⟨.inr ⟨kvs,.inl he⟩,?_⟩
   walk_at "v"
   refine⟨kvs,_,v,q,j,he,rfl,hq2,hj,fun nd=>?_⟩
   have em:=ev.toPut si hb1 hb2 (R.drop si mx xb nd hj)
   have kp2:=kz (Keeps.of (Same.refl H) (o:=.dT (kvs.eraseIdx j)) (show B.ents∈B.own by simp[EvA.own]))
   walk_at "v"
   exact⟨nle0 rfl,fun y ny=>fin _ _ hact em kp2.1 kp2.2 y ny⟩
  |appeal r' t' b'=>
   obtain⟨rfl,rfl,rfl⟩:=hon
   obtain⟨h11,_⟩|⟨_,happ,hwt⟩:=rf
   ·cases h11
   obtain⟨e,hen⟩:=hwt rfl
   have hact:Vbbraj.act s (.appeal r t b)=({ s with appeals:=s.appeals++[(r,t,b)] },[0]):=by
    show Vbbraj.onPlace s r t b _=_
    rw[onPlace_eq hp happ,Int.toNat_natCast,hen,Int.toNat_natCast,Int.toNat_natCast]
   obtain⟨ps,ha,pa⟩:=ev.hq
   have lp:=Paired.length pa
   walk_at "v"
   refine⟨.inl ⟨rfl,_,SqL.of ha⟩,?_⟩
   walk_at "v"
   refine⟨B.apps,_,_,rfl,rfl,ha,by rw[List.length_map];exact small1000 (by omega),?_⟩
   have ev2:=ev.reapp (paired_append pa (.cons hq .nil))
   rw[List.map_append]at ev2
   have kp2:=kz (Keeps.of (Same.refl H) (o:=.lst (ps.map V.ref++[q].map V.ref)) (show B.apps∈B.own by simp[EvA.own]))
   walk_at "v"
   exact⟨nle0 rfl,fun y ny=>fin _ _ hact (ev2.toM b) kp2.1 kp2.2 y ny⟩
  |ruling r' t' b' l=>
   obtain⟨rfl,rfl,rfl⟩:=hon
   obtain⟨_,happ⟩|⟨h11,_⟩:=rf
   ·have hact:Vbbraj.act s (.ruling r t b l)=(Vbbraj.entered { s with appeals:=s.appeals.filter fun y=>y != (r,t,b) } b x (Vbbrah.resultOf l) 0 0,[0]):=by
     simp only[Vbbraj.act,Int.toNat_natCast,hp,happ]
     rfl
    simp only[Vbbraj.ranged,Bool.and_eq_true]at hrg
    have hrl:=res_len hrg.2
    obtain⟨ps,ha,pa⟩:=ev.hq
    have min:(r,t,b)∈s.appeals:=List.contains_iff_mem.mp happ
    obtain⟨j,hj⟩:=List.getElem?_of_mem min
    have hkj:(s.appeals.map ky3)[j]?=some (ky3 (r,t,b)):=by rw[List.getElem?_map,hj];rfl
    walk_at "v"
    refine⟨.inl ⟨rfl,_,SqL.of ha⟩,?_⟩
    walk_at "v"
    refine⟨q,B.apps,ps,ky3 (r,t,b),s.appeals.map ky3,j,rfl,rfl,SqT.of hq0,ha,apps_tup pa (Same.refl _),hkj,fun m k' hm hk'=>?_,?_⟩
    ·rintro rfl
     rw[List.getElem?_map]at hk'
     cases e:s.appeals[m]? with
     |none=>rw[e]at hk';cases hk'
     |some y=>
      rw[e]at hk'
      have:=ky3_inj.mp (Option.some.inj hk')
      subst this
      obtain⟨l1,e1⟩:=List.getElem?_eq_some_iff.mp e
      obtain⟨l2,e2⟩:=List.getElem?_eq_some_iff.mp hj
      exact List.pairwise_iff_getElem.mp si.an m j l1 l2 hm (e1.trans e2.symm)
    have ef:=erase_filter si.an hj
    have ev2:=ev.reapp (Paired.eraseIdx j pa)
    rw[ef]at ev2
    have si2:SInv { s with appeals:=s.appeals.filter fun y=>y != (r,t,b) }:=Sti.appeals_inv si (si.an.filter _) fun r' t' b' hm=>si.ae r' t' b' (List.mem_filter.mp hm).1
    have kp1:Keeps B H (upd H B.apps (.lst ((ps.eraseIdx j).map V.ref))):=Keeps.of (Same.refl H) (show B.apps∈B.own by simp[EvA.own])
    have hc2:upd H B.apps (.lst ((ps.eraseIdx j).map V.ref)) a=_:=(upd_ne (ne_of hc ha (fun z=>nomatch z))).trans hc
    have hr2:upd H B.apps (.lst ((ps.eraseIdx j).map V.ref)) ar=_:=(upd_ne (ne_of hrw ha (fun z=>by
     have z:l.map V.int=ps.map V.ref:=by injection z
     cases l with
     |nil=>simp[Vbbrah.isResult]at hrg
     |cons i l=>
      cases ps with
      |nil=>cases z
      |cons p ps=>cases z))).trans hrw
    have hqk:=kz kp1
    have hq3:=hqk.2.trans hq0
    walk_at "v"
    refine⟨ar,l,rfl,hr2,hrl.1,hrl.2,fun H1 D ps sm nD np hD pp=>?_⟩
    have fD:=ev2.fresh nD
    have ro:ResO (hid B Z H1) D (Vbbrah.resultOf l):=out_res hrg.2 (hid_at fD.1 fD.2 hD) (paired_mem pp fun p hp _ _ z=>hid_at (ev2.fresh (np p hp)).1 (ev2.fresh (np p hp)).2 z)
    refine⟨B,_,c,Z,q,D,r,t,b,x,_,rfl,ev2.grow sm,si2,sm _ _ hq3,hp,ro,(Sti.resultOf_ok hrg.2).1,hch,fun H2 em kp=>?_⟩
    have kp2:=kz ((kp1.trans (Keeps.same sm)).trans kp)
    walk_at "v"
    exact⟨nle0 rfl,fun y ny=>fin H2 _ hact em kp2.1 kp2.2 y ny⟩
   ·exact absurd rfl h11
  |played r' t' b' l st d p kk=>
   obtain⟨rfl,rfl,rfl⟩:=hon
   obtain⟨h11,_⟩|⟨_,happ,_⟩:=rf
   ·cases h11
   simp only[Vbbraj.ranged,Bool.and_eq_true,Sti.inside_iff]at hrg
   obtain⟨l',rfl⟩:=Int.eq_ofNat_of_zero_le (show 0≤l by omega)
   obtain⟨st',rfl⟩:=Int.eq_ofNat_of_zero_le (show 0≤st by omega)
   obtain⟨d',rfl⟩:=Int.eq_ofNat_of_zero_le (show 0≤d by omega)
   obtain⟨p',rfl⟩:=Int.eq_ofNat_of_zero_le (show 0≤p by omega)
   obtain⟨k',rfl⟩:=Int.eq_ofNat_of_zero_le (show 0≤kk by omega)
   have hact:Vbbraj.act s (.played r t b l' st' d' p' k')=(Vbbraj.entered s b x [(1,nsScore b l' st' d' p' k')] 0 0,[0,nsScore b l' st' d' p' k']):=by
    show Vbbraj.onPlace s r t b _=_
    rw[onPlace_eq hp happ]
    simp only[Int.toNat_natCast]
    rfl
   walk_at "v"
   refine⟨B,s,c,Z,q,ap,r,t,b,l',st',d',p',k',x,rfl,ev,si,hq0,hpl,hp,by omega,by omega,by omega,by omega,by omega,hch,fun H2 em kp=>?_⟩
   have kp2:=kz kp
   refine⟨nle0 rfl,fun y ny=>?_⟩
   have fr:=em.fresh ny
   refine k _ y (by rw[hact];exact em.grow (same_new ny)) (fun d hd=>?_) ?_ (by rw[hact];exact upd_same) fr.1
   ·rw[upd_ne (fun z=>by rw[z,fr.2]at hd;cases hd)]
    exact kp2.1 d hd
   ·rw[upd_ne (ne_of_none (by rw[kp2.2];exact hq0) ny)]
    exact kp2.2
  |_=>exact hon.elim
theorem onPl_plain{call:Vbbraj.Call}{r t b:Nat}(h:onPl call r t b):∃pl,plainOf call=(r:Int)::(t:Int)::(b:Int)::pl:=by
 cases call with
 |result=>obtain⟨rfl,rfl,rfl⟩:=h;exact⟨_,rfl⟩
 |played=>obtain⟨rfl,rfl,rfl⟩:=h;exact⟨_,rfl⟩
 |passed=>obtain⟨rfl,rfl,rfl⟩:=h;exact⟨_,rfl⟩
 |average=>obtain⟨rfl,rfl,rfl⟩:=h;exact⟨_,rfl⟩
 |foul=>obtain⟨rfl,rfl,rfl⟩:=h;exact⟨_,rfl⟩
 |remove=>obtain⟨rfl,rfl,rfl⟩:=h;exact⟨_,rfl⟩
 |appeal=>obtain⟨rfl,rfl,rfl⟩:=h;exact⟨_,rfl⟩
 |ruling=>obtain⟨rfl,rfl,rfl⟩:=h;exact⟨_,rfl⟩
 |_=>exact h.elim
theorem act_refused{s:State}{call:Vbbraj.Call}{r t b:Nat}(h:onPl call r t b)(hn:placeRef s (num call) r t b≠0):Vbbraj.act s call=(s,[placeRef s (num call) r t b]):=by
 have gen:∀(f:Sitting→State×List Int) (n:Int),n≠11→placeRef s n r t b≠0→(∀x,wants n=true→Vbbrah.entryOf (Vbbraj.sheet s b) x.ns=none→f x=(s,[-13]))→Vbbraj.onPlace s r t b f=(s,[placeRef s n r t b]):=fun f n h11 hr hf=>by
  unfold placeRef at hr ⊢
  unfold Vbbraj.onPlace
  simp only[Int.toNat_natCast]
  cases hp:Vbbraj.placeOf s r t b with
  |none=>rfl
  |some x=>
   rw[hp]at hr
   simp only[if_neg h11]at hr ⊢
   by_cases ha:Vbbraj.appealed s r t b=true
   ·simp only[if_pos ha]
   ·simp only[if_neg ha]at hr ⊢
    by_cases hw:wants n=true∧(Vbbrah.entryOf (Vbbraj.sheet s b) x.ns).isNone=true
    ·rw[if_pos hw]
     exact hf x hw.1 (by simpa using hw.2)
    ·rw[if_neg hw]at hr
     exact absurd rfl hr
 cases call with
 |result=>obtain⟨rfl,rfl,rfl⟩:=h;exact gen _ 3 (by decide) hn fun _ h=>by cases h
 |played=>obtain⟨rfl,rfl,rfl⟩:=h;exact gen _ 4 (by decide) hn fun _ h=>by cases h
 |passed=>obtain⟨rfl,rfl,rfl⟩:=h;exact gen _ 5 (by decide) hn fun _ h=>by cases h
 |average=>obtain⟨rfl,rfl,rfl⟩:=h;exact gen _ 6 (by decide) hn fun _ h=>by cases h
 |foul=>obtain⟨rfl,rfl,rfl⟩:=h;exact gen _ 7 (by decide) hn fun x _ he=>by simp only[Int.toNat_natCast,he]
 |remove=>obtain⟨rfl,rfl,rfl⟩:=h;exact gen _ 8 (by decide) hn fun x _ he=>by simp only[Int.toNat_natCast,he]
 |appeal=>obtain⟨rfl,rfl,rfl⟩:=h;exact gen _ 10 (by decide) hn fun x _ he=>by simp only[Int.toNat_natCast,he]
 |ruling r' t' b' l=>
  obtain⟨rfl,rfl,rfl⟩:=h
  show Vbbraj.act s _=(s,[placeRef s 11 r t b])
  have hn:placeRef s 11 r t b≠0:=hn
  unfold placeRef at hn ⊢
  simp only[Vbbraj.act,Int.toNat_natCast]
  cases hp:Vbbraj.placeOf s r t b with
  |none=>rfl
  |some x=>
   rw[hp]at hn
   simp only[if_pos]at hn ⊢
   by_cases ha:Vbbraj.appealed s r t b=true
   ·rw[if_pos ha]at hn
    exact absurd rfl hn
   ·rw[if_neg ha]
    simp only[Bool.not_eq_true]at ha
    rw[if_pos ha]
 |_=>exact h.elim
inductive J_place_answer(T:TX K mg)(vs:List V)(H:Hp)(Q:VK):Prop
 |mk (A:EvA) (s:State) (c:Nat) (Z:Addr→Bool) (a:Addr) (r t b:Nat) (call:Vbbraj.Call):vs=[.ref A.p,.ref a]→EvO T Z H s c A→SInv s→CallO T H a (num call) (plainOf call) (rowOf call)→onPl call r t b→Vbbraj.ranged call=true→s.changes≤1000→s.appeals.length≤1000→s.sittings.length≤1000→Ents (Vbbraj.act s call).1 b→Post T Z H A (Vbbraj.act s call).1 c (Vbbraj.act s call).2 Q→J_place_answer T vs H Q
noncomputable def sp_place_answer(T:TX K mg):Sp:=fun vs H Q _=>J_place_answer T vs H Q
theorem act_boards{s:State}{call:Vbbraj.Call}{r t b:Nat}(h:onPl call r t b):(Vbbraj.act s call).1.boards=s.boards∧(Vbbraj.act s call).1.sittings=s.sittings:=by
 have gen:∀(f:Sitting→State×List Int),(∀x,(f x).1.boards=s.boards∧(f x).1.sittings=s.sittings)→(Vbbraj.onPlace s r t b f).1.boards=s.boards∧(Vbbraj.onPlace s r t b f).1.sittings=s.sittings:=fun f hf=>by
  unfold Vbbraj.onPlace
  split
  ·exact⟨rfl,rfl⟩
  ·split
   ·exact⟨rfl,rfl⟩
   ·exact hf _
 cases call with
 |result=>obtain⟨rfl,rfl,rfl⟩:=h;exact gen _ fun _=>⟨rfl,rfl⟩
 |played=>obtain⟨rfl,rfl,rfl⟩:=h;exact gen _ fun _=>⟨rfl,rfl⟩
 |passed=>obtain⟨rfl,rfl,rfl⟩:=h;exact gen _ fun _=>⟨rfl,rfl⟩
 |average=>obtain⟨rfl,rfl,rfl⟩:=h;exact gen _ fun _=>⟨rfl,rfl⟩
 |foul=>obtain⟨rfl,rfl,rfl⟩:=h;exact gen _ fun _=>by split<;>exact⟨rfl,rfl⟩
 |remove=>obtain⟨rfl,rfl,rfl⟩:=h;exact gen _ fun _=>by split<;>exact⟨rfl,rfl⟩
 |appeal=>obtain⟨rfl,rfl,rfl⟩:=h;exact gen _ fun _=>by split<;>exact⟨rfl,rfl⟩
 |ruling r' t' b' l=>
  obtain⟨rfl,rfl,rfl⟩:=h
  simp only[Vbbraj.act]
  split
  ·exact⟨rfl,rfl⟩
  ·split
   ·exact⟨rfl,rfl⟩
   ·exact⟨rfl,rfl⟩
 |_=>exact h.elim
theorem ref_some{s:State}{n:Int}{r t b:Nat}(h:placeRef s n r t b=0):∃x,Vbbraj.placeOf s r t b=some x:=by
 unfold placeRef at h
 cases hp:Vbbraj.placeOf s r t b with
 |none=>rw[hp]at h;simp at h
 |some x=>exact⟨x,rfl⟩
theorem ok_place_answer(T:TX K mg):FnOk P w K mg base CX0 7 T.f_place_answer.f T.f_place_answer.fd ["event","call"] (sp_place_answer T):=by
 refine okL T.f_place_answer.F sc_place_answer (fun vs H Q E h=>?_) (fun cdv A outer s H vs Q E hr h=>?_)
 rotate_left;intro Xc;rotate_left
 ·obtain⟨A,s,c,Z,a,r,t,b,call,rfl,_⟩:=h
  rfl
 ·obtain⟨B,s,c,Z,a,r,t,b,call,rfl,ev,si,co,hon,hrg,hch,hal,hsl,hen,post⟩:=h
  obtain⟨pl,hpl⟩:=onPl_plain hon
  refine⟨_,(pss_cons (ps_set (i:=2) sc_place_answer.nd rfl (by walk_at "or") (pe_call (ok_place_of T) (hr.mono (by decide)) rfl T.f_place_of.m T.f_place_of.F.kp T.f_place_of.b .nil pass0 (pa_cons (pv 1) pa_nil))) (pss_cons (ps_set (i:=3) sc_place_answer.nd rfl (by walk_at "or") (pe_call (ok_place_refusal T) (hr.mono (by decide)) rfl T.f_place_refusal.m T.f_place_refusal.F.kp T.f_place_refusal.b .nil pass0 (pa_cons (pv 0) (pa_cons (pe_fld (pv 1) rfl) (pa_cons (pv 2) pa_nil))))) (pss_cons (ps_if (pt_cmpR op_ne (pv 3) pe_int (nomark _)) (pss_one (ps_ret (pe_lst (pa_cons (pv 3) pa_nil)))) pss_nil) (pss_cons (ps_set (i:=4) sc_place_answer.nd rfl (by walk_at "or") (pe_call (ok_carry_out T) (hr.mono (by decide)) rfl T.f_carry_out.m T.f_carry_out.F.kp T.f_carry_out.b .nil pass0 (pa_cons (pv 0) (pa_cons (pv 1) (pa_cons (pv 2) pa_nil))))) (pss_cons (ps_expr (pe_call (ok_reckon T) (hr.mono (by decide)) rfl T.f_reckon.m T.f_reckon.F.kp T.f_reckon.b .nil pass0 (pa_cons (pv 0) (pa_cons (pe_ix ix_tup (pv 2) pe_int (fun _ _=>rfl)) pa_nil)))) (pss_one (ps_ret (pv 4)))))))),?_⟩
  refine Ev.x1 rfl ?_
  refine⟨a,num call,_,_,_,pl,_,rfl,by rw[←hpl];exact co,fun q nq=>?_⟩
  have sq:Same H (upd H q (.tup [iN r,iN t,iN b])):=same_new nq
  have fq:=ev.fresh nq
  have hq:upd H q (.tup [iN r,iN t,iN b]) q=some (.tup [iN r,iN t,iN b]):=upd_same
  have sq2:Same H (upd H q (.tup [iN r,iN t,iN b])):=sq
  generalize upd H q (.tup [iN r,iN t,iN b])=G at hq sq
  have ev1:=ev.grow sq
  have hqo:PlO (hid B Z G) q (r,t,b):=hid_at fq.1 fq.2 hq
  have co1:=co.mono sq
  obtain⟨dc,ap,ar,hc,_⟩:=id co1
  walk_at "v"
  refine⟨B,s,c,Z,num call,q,r,t,b,rfl,ev1,si,hq,fun G1 sm1=>?_⟩
  walk_at "v"
  refine ite2 (fun h=>?_) (fun h=>?_)
  ·have h:placeRef s (num call) r t b≠0:=by simpa using h
   rw[act_refused hon h]at post
   walk_at "v"
   exact⟨nle0 rfl,fun y ny=>post.same ev (sq.trans sm1) ny⟩
  ·have h:placeRef s (num call) r t b=0:=by simpa using h
   obtain⟨x,hpx⟩:=ref_some h
   obtain⟨mx,x1,x2,xb⟩:=Sti.placeOf_some hpx
   obtain⟨hb1,hb2⟩:=Sti.board_in (si.so x mx) xb
   walk_at "v"
   refine⟨B,s,c,Z,a,q,r,t,b,x,call,rfl,ev1.grow sm1,si,co1.mono sm1,hid_at fq.1 fq.2 (sm1 _ _ hq),hon,hrg,hpx,h,hch,hal,fun H2 y em hz hqq hy hyo=>?_⟩
   have hq2:SqT K H2 q [iN r,iN t,iN b]:=SqT.of (hqq.trans (sm1 _ _ hq))
   walk_at "v"
   have si2:=Sti.act_inv si call hrg
   have ab:=act_boards (s:=s) hon
   refine⟨B,_,c,Z,b,rfl,em,si2,by rw[ab.2];exact hsl,hen,hb1,by rw[ab.1];exact hb2,fun H3 ev3 hz3 kp3=>?_⟩
   refine Ev.x1 rfl ?_
   have zk:=ev.zkeep (sq.trans sm1)
   exact post _ B y rfl ev3 (fun d hd=>by rw[hz3 d hd,hz d hd,zk d hd]) (by rw[kp3 y (by rw[hy];simp) hyo];exact hy)
end
end
section
open Vbbraj (State Sitting)
open Sti (SInv Srt)
section
variable {P:Program}{w:World}{K:PySem.W.Frag}{mg:Str→Option Value}{base:Heap}
noncomputable def btw(p q:Nat)(x:Sitting):Bool:=(x.ns==p&&x.ew==q)||(x.ns==q&&x.ew==p)
inductive J_is_between(T:TX K mg)(vs:List V)(H:Hp)(Q:VK):Prop
 |mk (a:Addr) (x:Sitting) (p q:Nat):vs=[.ref a,iN p,iN q]→SitO T H a x→Q (.bl (btw p q x)) H→J_is_between T vs H Q
noncomputable def sp_is_between(T:TX K mg):Sp:=fun vs H Q _=>J_is_between T vs H Q
theorem ok_is_between(T:TX K mg):FnOk P w K mg base CX0 1 T.f_is_between.f T.f_is_between.fd ["sitting","pair","other"] (sp_is_between T):=by
 refine okL T.f_is_between.F sc_is_between (fun vs H Q E h=>?_) (fun cdv A outer s H vs Q E hr h=>?_)
 rotate_left;intro Xc;rotate_left
 ·obtain⟨a,x,p,q,rfl,_⟩:=h
  rfl
 ·obtain⟨a,x,p,q,rfl,⟨dx,hx⟩,k⟩:=h
  refine⟨_,(pss_cons (ps_if (pt_cmpR op_eq (pe_fld (pv 0) rfl) (pv 1) (nomark _)) (pss_one (ps_ret (pe_cmpR op_eq (pe_fld (pv 0) rfl) (pv 2) (nomark _)))) pss_nil) (pss_one (ps_ret (pe_and (pe_cmpR op_eq (pe_fld (pv 0) rfl) (pv 2) (nomark _)) (pe_one (pe_cmpR op_eq (pe_fld (pv 0) rfl) (pv 1) (nomark _))))))),?_⟩
  walk_at "w"
  ·rename_i h1
   simp only[decide_eq_true_eq,iN_inj]at h1
   refine cB k ?_
   rw[Bool.eq_iff_iff]
   simp[btw,h1,iN_inj]
   omega
  ·rename_i h1 h2
   simp only[decide_eq_true_eq,iN_inj]at h1 h2
   refine cB k ?_
   rw[Bool.eq_iff_iff]
   simp[btw,h1,h2,iN_inj]
   omega
  ·rename_i h1 h2
   simp only[decide_eq_true_eq,iN_inj]at h1 h2
   refine cB k ?_
   rw[Bool.eq_iff_iff]
   simp[btw,h1,h2]
inductive J_met_answer(T:TX K mg)(vs:List V)(H:Hp)(Q:VK):Prop
 |mk (A:EvA) (s:State) (c:Nat) (Z:Addr→Bool) (p q:Nat):vs=[.ref A.p,iN p,iN q]→EvO T Z H s c A→Post T Z H A s c (Vbbraj.act s (.met p q)).2 Q→J_met_answer T vs H Q
noncomputable def sp_met_answer(T:TX K mg):Sp:=fun vs H Q _=>J_met_answer T vs H Q
theorem ok_met_answer(T:TX K mg):FnOk P w K mg base CX0 2 T.f_met_answer.f T.f_met_answer.fd ["event","pair","other"] (sp_met_answer T):=by
 refine okL T.f_met_answer.F sc_met_answer (fun vs H Q E h=>?_) (fun cdv A outer s H vs Q E hr h=>?_)
 rotate_left;intro Xc;rotate_left
 ·obtain⟨A,s,c,Z,p,q,rfl,_⟩:=h
  rfl
 ·obtain⟨B,s,c,Z,p,q,rfl,ev,post⟩:=h
  obtain⟨dx,hp⟩:=ev.hp
  obtain⟨as,hs,ps⟩:=ev.hs
  have hact:(Vbbraj.act s (.met p q)).2=match s.sittings.find? (btw p q)with
   |none=>[0,0,0]
   |some x=>[0,(x.round:Int),(x.table:Int)]:=by
   simp only[Vbbraj.act,Vbbraj.met,Int.toNat_natCast]
   show(match s.sittings.find? (btw p q)with|none=>_|some x=>_)=_
   cases s.sittings.find? (btw p q)<;>rfl
  rw[hact]at post
  refine⟨_,(pss_cons (ps_for PassesOwn.never rfl (pi_list (pe_fld (pv 0) rfl)) (pg_name (i:=3) sc_met_answer.nd rfl (by walk_at "or")) (pss_one (ps_if (pt_val (pe_call (ok_is_between T) (hr.mono (by decide)) rfl T.f_is_between.m T.f_is_between.F.kp T.f_is_between.b .nil pass0 (pa_cons (pv 3) (pa_cons (pv 1) (pa_cons (pv 2) pa_nil))))) (pss_one (ps_ret (pe_lst (pa_cons pe_int (pa_cons (pe_fld (pv 3) rfl) (pa_cons (pe_fld (pv 3) rfl) pa_nil)))))) pss_nil))) (pss_one (ps_ret (pe_lst (pa_cons pe_int (pa_cons pe_int (pa_cons pe_int pa_nil))))))),?_⟩
  refine Ev.x1 rfl ?_
  walk_at "fld"
  refine⟨_,rfl,⟨_,SqL.of hs⟩,for_list (K:=K) (xs:=as.map V.ref) (fun i σ H'=>H'=H∧(∃v,σ=[some (.ref B.p),some (iN p),some (iN q),v])∧(s.sittings.take i).find? (btw p q)=none) ⟨rfl,⟨none,rfl⟩,rfl⟩ (fun i σ H' _ ⟨e,_⟩=>by rw[e];exact SqL.of hs) ?_ ?_⟩
  ·rintro i v σ H' hi ⟨rfl,⟨u,rfl⟩,hf⟩
   obtain⟨a,x,ha,hx,rfl,sx⟩:=paired_at ps hi
   have sx:=sx.mono hid_sub
   walk_at "v"
   refine⟨a,x,p,q,rfl,sx,?_⟩
   obtain⟨dx,sx⟩:=sx
   refine⟨_,rfl,ite2 (fun h=>?_) (fun h=>?_)⟩
   ·rw[find_hit hx hf h]at post
    walk_at "v"
    exact⟨nle0 rfl,fun y ny=>post.same ev (Same.refl _) ny⟩
   ·exact⟨rfl,⟨_,rfl⟩,find_miss hx hf (by simpa using h)⟩
  ·rintro σ H' ⟨rfl,⟨u,rfl⟩,hf⟩
   rw[List.length_map,Paired.length ps,List.take_length]at hf
   rw[hf]at post
   walk_at "v"
   exact⟨nle0 rfl,fun y ny=>post.same ev (Same.refl _) ny⟩
noncomputable def seen(k:Nat)(x:Sitting):List Int:=if x.ns=k then[(x.round:Int),(x.table:Int),0,(x.ew:Int),(x.first:Int),(x.count:Int)]else if x.ew=k then[(x.round:Int),(x.table:Int),1,(x.ns:Int),(x.first:Int),(x.count:Int)]else[]
inductive J_sitting_as_seen(T:TX K mg)(vs:List V)(H:Hp)(Q:VK):Prop
 |mk (a:Addr) (x:Sitting) (p:Nat):vs=[.ref a,iN p]→SitO T H a x→(∀y,H y=none→Q (.ref y) (upd H y (.lst ((seen p x).map V.int))))→J_sitting_as_seen T vs H Q
noncomputable def sp_sitting_as_seen(T:TX K mg):Sp:=fun vs H Q _=>J_sitting_as_seen T vs H Q
theorem ok_sitting_as_seen(T:TX K mg):FnOk P w K mg base CX0 1 T.f_sitting_as_seen.f T.f_sitting_as_seen.fd ["sitting","pair"] (sp_sitting_as_seen T):=by
 refine okL T.f_sitting_as_seen.F sc_sitting_as_seen (fun vs H Q E h=>?_) (fun cdv A outer s H vs Q E hr h=>?_)
 rotate_left;intro Xc;rotate_left
 ·obtain⟨a,x,p,rfl,_⟩:=h
  rfl
 ·obtain⟨a,x,p,rfl,⟨dx,hx⟩,k⟩:=h
  have e:(x.first:Int)+x.count-1-x.first+1=(x.count:Int):=by omega
  unfold seen at k
  refine⟨_,(pss_cons (ps_set (i:=2) sc_sitting_as_seen.nd rfl (by walk_at "or") (pe_op op_add (pe_op op_sub (pe_fld (pv 0) rfl) (pe_fld (pv 0) rfl)) pe_int)) (pss_cons (ps_if (pt_cmpR op_eq (pe_fld (pv 0) rfl) (pv 1) (nomark _)) (pss_one (ps_ret (pe_lst (pa_cons (pe_fld (pv 0) rfl) (pa_cons (pe_fld (pv 0) rfl) (pa_cons pe_int (pa_cons (pe_fld (pv 0) rfl) (pa_cons (pe_fld (pv 0) rfl) (pa_cons (pv 2) pa_nil))))))))) pss_nil) (pss_cons (ps_if (pt_cmpR op_eq (pe_fld (pv 0) rfl) (pv 1) (nomark _)) (pss_one (ps_ret (pe_lst (pa_cons (pe_fld (pv 0) rfl) (pa_cons (pe_fld (pv 0) rfl) (pa_cons pe_int (pa_cons (pe_fld (pv 0) rfl) (pa_cons (pe_fld (pv 0) rfl) (pa_cons (pv 2) pa_nil))))))))) pss_nil) (pss_one (ps_ret (pe_lst pa_nil)))))),?_⟩
  walk_at "w"
  ·rename_i h1
   simp only[decide_eq_true_eq,iN_inj]at h1
   rw[if_pos h1]at k
   refine⟨nle0 rfl,fun y ny=>?_⟩
   have:=k y ny
   rw[←e]at this
   exact this
  ·rename_i h1 h2
   simp only[decide_eq_true_eq,iN_inj]at h1 h2
   rw[if_neg h1,if_pos h2]at k
   refine⟨nle0 rfl,fun y ny=>?_⟩
   have:=k y ny
   rw[←e]at this
   exact this
  ·rename_i h1 h2
   simp only[decide_eq_true_eq,iN_inj]at h1 h2
   rw[if_neg h1,if_neg h2]at k
   exact⟨nle0 rfl,fun y ny=>k y ny⟩
theorem big6{n:Nat}(h:n≤1000000):n≤sizeLine:=Nat.le_trans h (by decide)
theorem seen_len(k:Nat)(x:Sitting):(seen k x).length≤6:=by
 unfold seen
 split
 ·simp
 ·split<;>simp
theorem flat_le{α:Type}{n:Nat}{f:α→List Int}(hf:∀a,(f a).length≤n):∀l:List α,(l.flatMap f).length≤n*l.length
 |[]=>by simp
 |a::l=>by
  have:=flat_le hf l
  have:=hf a
  rw[List.flatMap_cons,List.length_append,List.length_cons,Nat.mul_add]
  omega
theorem seen_all(k:Nat):∀l:List Sitting,Vbbraj.ints ((l.filter fun x=>Vbbraj.sits x k).flatMap fun x=>[x.round,x.table,if x.ns=k then 0 else 1,if x.ns=k then x.ew else x.ns,x.first,x.count])=l.flatMap (seen k)
 |[]=>rfl
 |x::l=>by
  have ih:=seen_all k l
  rw[List.flatMap_cons,←ih]
  by_cases h1:x.ns=k
  ·rw[List.filter_cons_of_pos (by simp[Vbbraj.sits,h1]),List.flatMap_cons]
   simp[seen,h1,Vbbraj.ints]
  ·by_cases h2:x.ew=k
   ·rw[List.filter_cons_of_pos (by simp[Vbbraj.sits,h2]),List.flatMap_cons]
    simp[seen,h1,h2,Vbbraj.ints]
   ·rw[List.filter_cons_of_neg (by simp[Vbbraj.sits,h1,h2])]
    simp[seen,h1,h2]
inductive J_sittings_answer(T:TX K mg)(vs:List V)(H:Hp)(Q:VK):Prop
 |mk (A:EvA) (s:State) (c:Nat) (Z:Addr→Bool) (p:Nat):vs=[.ref A.p,iN p]→EvO T Z H s c A→s.sittings.length≤1000→Post T Z H A s c (Vbbraj.act s (.sittings p)).2 Q→J_sittings_answer T vs H Q
noncomputable def sp_sittings_answer(T:TX K mg):Sp:=fun vs H Q _=>J_sittings_answer T vs H Q
theorem ok_sittings_answer(T:TX K mg):FnOk P w K mg base CX0 2 T.f_sittings_answer.f T.f_sittings_answer.fd ["event","pair"] (sp_sittings_answer T):=by
 refine okL T.f_sittings_answer.F sc_sittings_answer (fun vs H Q E h=>?_) (fun cdv A outer s H vs Q E hr h=>?_)
 rotate_left;intro Xc;rotate_left
 ·obtain⟨A,s,c,Z,p,rfl,_⟩:=h
  rfl
 ·obtain⟨B,s,c,Z,p,rfl,ev,hlen,post⟩:=h
  obtain⟨dx,hp⟩:=ev.hp
  obtain⟨as,hs,ps⟩:=ev.hs
  have hact:(Vbbraj.act s (.sittings p)).2=if s.pairs<p then[-5]else 0::s.sittings.flatMap (seen p):=by
   simp only[Vbbraj.act,Vbbraj.pairIn,Int.toNat_natCast]
   split
   ·rfl
   ·rw[←seen_all]
    rfl
  rw[hact]at post
  refine⟨_,(pss_cons (ps_if (pt_not (pt_val (pe_call (ok_is_pair T) (hr.mono (by decide)) rfl T.f_is_pair.m T.f_is_pair.F.kp T.f_is_pair.b .nil pass0 (pa_cons (pv 0) (pa_cons (pv 1) pa_nil))))) (pss_one (ps_ret (pe_lst (pa_cons (pe_g rfl T.c_NO_SUCH_PAIR) pa_nil)))) pss_nil) (pss_cons (ps_set (i:=2) sc_sittings_answer.nd rfl (by walk_at "or") (pe_lst (pa_cons pe_int pa_nil))) (pss_cons (ps_for PassesOwn.never rfl (pi_list (pe_fld (pv 0) rfl)) (pg_name (i:=3) sc_sittings_answer.nd rfl (by walk_at "or")) (pss_one (ps_expr (pe_bm PySem.F.plainAttrs_list PySem.F.slot_list_extend PySem.F.type_list_extend mt_extend (pv 2) (pa_cons (pe_call (ok_sitting_as_seen T) (hr.mono (by decide)) rfl T.f_sitting_as_seen.m T.f_sitting_as_seen.F.kp T.f_sitting_as_seen.b .nil pass0 (pa_cons (pv 3) (pa_cons (pv 1) pa_nil))) pa_nil))))) (pss_one (ps_ret (pv 2)))))),?_⟩
  walk_at "v"
  refine⟨B,s,c,Z,p,rfl,ev,?_⟩
  refine⟨_,rfl,ite2 (fun h=>?_) (fun h=>?_)⟩
  ·rw[if_pos (by simpa using h)]at post
   walk_at "v"
   exact⟨nle0 rfl,fun q nq=>post.same ev (Same.refl _) nq⟩
  rw[if_neg (by simpa using h)]at post
  walk_at "v"
  refine⟨nle0 rfl,fun q nq=>?_⟩
  have sq0:Same H (upd H q (.lst [.int 0])):=same_new nq
  have hp2:=sq0 _ _ hp
  walk_at "v"
  refine⟨⟨_,SqL.of (sq0 _ _ hs)⟩,?_⟩
  refine for_list (K:=K) (xs:=as.map V.ref) (fun i σ H'=>Same H H'∧H' q=some (.lst ((0::(s.sittings.take i).flatMap (seen p)).map V.int))∧∃u3,σ=[some (.ref B.p),some (iN p),some (.ref q),u3]) ⟨sq0,upd_same,none,rfl⟩ (fun i σ H' _ ⟨sm,_⟩=>SqL.of (sm _ _ hs)) ?_ ?_
  ·rintro i v σ H' hi ⟨sm,hq,u3,rfl⟩
   obtain⟨d,x,hd,hx,rfl,sx⟩:=paired_at ps hi
   have sx:=sx.mono (hid_sub.trans sm)
   refine⟨_,rfl,.inl ⟨rfl,_,SqL.of hq⟩,?_⟩
   walk_at "v"
   refine⟨d,x,p,rfl,sx,fun t nt=>?_⟩
   have st:Same H' (upd H' t (.lst ((seen p x).map V.int))):=same_new nt
   have ht:upd H' t (.lst ((seen p x).map V.int)) t=some (.lst ((seen p x).map V.int)):=upd_same
   refine⟨q,t,_,_,rfl,rfl,st _ _ hq,ht,?_,?_⟩
   ·have:=flat_le (seen_len p) (s.sittings.take i)
    have h2:(s.sittings.take i).length≤1000:=by rw[List.length_take];omega
    have h3:=seen_len p x
    rw[List.length_map,List.length_map,List.length_cons]
    exact big6 (by omega)
   ·refine⟨fun c o hc=>?_,?_,some (.ref d),rfl⟩
    ·rw[upd_ne (ne_of_none hc nq)]
     exact st _ _ (sm _ _ hc)
    ·rw[upd_same,take_snoc hx,List.flatMap_append,←List.map_append]
     simp
  ·rintro σ H' ⟨sm,hq,u3,rfl⟩
   rw[List.length_map,Paired.length ps,List.take_length]at hq
   exact⟨_,rfl,post _ B q rfl (ev.grow sm) (ev.zkeep sm) hq⟩
theorem apps_all:∀l:List (Nat×Nat×Nat),Vbbraj.ints (l.flatMap fun y=>[y.1,y.2.1,y.2.2])=l.flatMap ky3
 |[]=>rfl
 |x::l=>by
  rw[List.flatMap_cons,List.flatMap_cons,←apps_all l]
  simp[Vbbraj.ints,ky3]
inductive J_appeals_answer(T:TX K mg)(vs:List V)(H:Hp)(Q:VK):Prop
 |mk (A:EvA) (s:State) (c:Nat) (Z:Addr→Bool):vs=[.ref A.p]→EvO T Z H s c A→s.appeals.length≤1000→Post T Z H A s c (Vbbraj.act s .appeals).2 Q→J_appeals_answer T vs H Q
noncomputable def sp_appeals_answer(T:TX K mg):Sp:=fun vs H Q _=>J_appeals_answer T vs H Q
theorem ok_appeals_answer(T:TX K mg):FnOk P w K mg base CX0 1 T.f_appeals_answer.f T.f_appeals_answer.fd ["event"] (sp_appeals_answer T):=by
 refine okL T.f_appeals_answer.F sc_appeals_answer (fun vs H Q E h=>?_) (fun cdv A outer s H vs Q E hr h=>?_)
 rotate_left;intro Xc;rotate_left
 ·obtain⟨A,s,c,Z,rfl,_⟩:=h
  rfl
 ·obtain⟨B,s,c,Z,rfl,ev,hlen,post⟩:=h
  obtain⟨dx,hp⟩:=ev.hp
  obtain⟨as,hs,ps⟩:=ev.hq
  have hact:(Vbbraj.act s .appeals).2=0::s.appeals.flatMap ky3:=by
   rw[←apps_all]
   rfl
  rw[hact]at post
  refine⟨_,(pss_cons (ps_set (i:=1) sc_appeals_answer.nd rfl (by walk_at "or") (pe_lst (pa_cons pe_int pa_nil))) (pss_cons (ps_for PassesOwn.never rfl (pi_list (pe_fld (pv 0) rfl)) (pg_name (i:=2) sc_appeals_answer.nd rfl (by walk_at "or")) (pss_one (ps_expr (pe_bm PySem.F.plainAttrs_list PySem.F.slot_list_extend PySem.F.type_list_extend mt_extendT (pv 1) (pa_cons (pv 2) pa_nil))))) (pss_one (ps_ret (pv 1))))),?_⟩
  walk_at "v"
  refine⟨nle0 rfl,fun q nq=>?_⟩
  have sq0:Same H (upd H q (.lst [.int 0])):=same_new nq
  have hp2:=sq0 _ _ hp
  walk_at "v"
  refine⟨⟨_,SqL.of (sq0 _ _ hs)⟩,?_⟩
  refine for_list (K:=K) (xs:=as.map V.ref) (fun i σ H'=>Same H H'∧H' q=some (.lst ((0::(s.appeals.take i).flatMap ky3).map V.int))∧∃u3,σ=[some (.ref B.p),some (.ref q),u3]) ⟨sq0,upd_same,none,rfl⟩ (fun i σ H' _ ⟨sm,_⟩=>SqL.of (sm _ _ hs)) ?_ ?_
  ·rintro i v σ H' hi ⟨sm,hq,u3,rfl⟩
   obtain⟨d,x,hd,hx,rfl,sx⟩:=paired_at ps hi
   have sx:SqT K H' d ((ky3 x).map V.int):=SqT.of (sm _ _ (hid_of sx))
   refine⟨_,rfl,.inl ⟨rfl,_,SqL.of hq⟩,?_⟩
   walk_at "v"
   refine⟨q,d,_,_,rfl,rfl,hq,sx,?_,?_⟩
   ·have:=flat_len (n:=3) (f:=ky3) (fun _=>rfl) (s.appeals.take i)
    have h2:(s.appeals.take i).length≤1000:=by rw[List.length_take];omega
    rw[List.length_map,List.length_map,List.length_cons]
    refine big6 ?_
    show _+3≤_
    omega
   ·refine⟨fun c o hc=>?_,?_,some (.ref d),rfl⟩
    ·rw[upd_ne (ne_of_none hc nq)]
     exact sm _ _ hc
    ·rw[upd_same,take_snoc hx,List.flatMap_append,←List.map_append]
     simp
  ·rintro σ H' ⟨sm,hq,u3,rfl⟩
   rw[List.length_map,Paired.length ps,List.take_length]at hq
   exact⟨_,rfl,post _ B q rfl (ev.grow sm) (ev.zkeep sm) hq⟩
end
end
section
open Vbbraj (State Sitting)
open Sti (SInv Srt)
section
variable {P:Program}{w:World}{K:PySem.W.Frag}{mg:Str→Option Value}{base:Heap}
noncomputable def missJ(s:State)(x:Sitting)(j:Nat):List Int:=((List.range j).filter fun i=>(Vbbrah.entryOf (Vbbraj.sheet s (x.first+i)) x.ns).isNone).flatMap fun i=>ky3 (x.round,x.table,x.first+i)
theorem missJ_len(s:State)(x:Sitting)(j:Nat):(missJ s x j).length≤3*j:=by
 unfold missJ
 rw[flat_len (n:=3) (fun _=>rfl)]
 have:=List.length_filter_le (fun i=>(Vbbrah.entryOf (Vbbraj.sheet s (x.first+i)) x.ns).isNone) (List.range j)
 rw[List.length_range]at this
 omega
theorem missJ_succ(s:State)(x:Sitting)(j:Nat):missJ s x (j+1)=missJ s x j++if(Vbbrah.entryOf (Vbbraj.sheet s (x.first+j)) x.ns).isNone=true then ky3 (x.round,x.table,x.first+j)else[]:=by
 unfold missJ
 rw[List.range_succ,List.filter_append,List.flatMap_append]
 congr 1
 split
 ·rename_i h
  rw[List.filter_cons_of_pos (p:=fun i=>(Vbbrah.entryOf (Vbbraj.sheet s (x.first+i)) x.ns).isNone) h]
  simp
 ·rename_i h
  rw[List.filter_cons_of_neg (p:=fun i=>(Vbbrah.entryOf (Vbbraj.sheet s (x.first+i)) x.ns).isNone) h]
  simp
theorem miss_all(s:State):∀l:List Sitting,Vbbraj.ints (l.flatMap fun x=>((List.range x.count).filter fun i=>(Vbbrah.entryOf (Vbbraj.sheet s (x.first+i)) x.ns).isNone).flatMap fun i=>[x.round,x.table,x.first+i])=l.flatMap fun x=>missJ s x x.count
 |[]=>rfl
 |x::l=>by
  have inner:∀m:List Nat,Vbbraj.ints (m.flatMap fun i=>[x.round,x.table,x.first+i])=m.flatMap fun i=>ky3 (x.round,x.table,x.first+i):=by
   intro m
   induction m with
   |nil=>rfl
   |cons i m ih=>
    rw[List.flatMap_cons,List.flatMap_cons,←ih]
    simp[Vbbraj.ints,ky3]
  have ih:=miss_all s l
  rw[List.flatMap_cons,List.flatMap_cons,←ih]
  have e:missJ s x x.count=Vbbraj.ints (((List.range x.count).filter fun i=>(Vbbrah.entryOf (Vbbraj.sheet s (x.first+i)) x.ns).isNone).flatMap fun i=>[x.round,x.table,x.first+i]):=by
   rw[inner]
   rfl
  rw[e]
  simp[Vbbraj.ints]
inductive J_missing_answer(T:TX K mg)(vs:List V)(H:Hp)(Q:VK):Prop
 |mk (A:EvA) (s:State) (c:Nat) (Z:Addr→Bool):vs=[.ref A.p]→EvO T Z H s c A→SInv s→s.sittings.length≤1000→Post T Z H A s c (Vbbraj.act s .missing).2 Q→J_missing_answer T vs H Q
noncomputable def sp_missing_answer(T:TX K mg):Sp:=fun vs H Q _=>J_missing_answer T vs H Q
theorem ok_missing_answer(T:TX K mg):FnOk P w K mg base CX0 1 T.f_missing_answer.f T.f_missing_answer.fd ["event"] (sp_missing_answer T):=by
 refine okL T.f_missing_answer.F sc_missing_answer (fun vs H Q E h=>?_) (fun cdv A outer s H vs Q E hr h=>?_)
 rotate_left;intro Xc;rotate_left
 ·obtain⟨A,s,c,Z,rfl,_⟩:=h
  rfl
 ·obtain⟨B,s,c,Z,rfl,ev,si,hlen,post⟩:=h
  obtain⟨dx,hp⟩:=ev.hp
  obtain⟨as,hs,ps⟩:=ev.hs
  obtain⟨kvs,he,R⟩:=ev.he
  have hact:(Vbbraj.act s .missing).2=0::s.sittings.flatMap fun x=>missJ s x x.count:=by
   rw[←miss_all]
   rfl
  rw[hact]at post
  refine⟨_,(pss_cons (ps_set (i:=1) sc_missing_answer.nd rfl (by walk_at "or") (pe_lst (pa_cons pe_int pa_nil))) (pss_cons (ps_for PassesOwn.never rfl (pi_list (pe_fld (pv 0) rfl)) (pg_name (i:=2) sc_missing_answer.nd rfl (by walk_at "or")) (pss_one (ps_for PassesOwn.never rfl (pi_range2 rfl T.n_range (pa_cons (pe_fld (pv 2) rfl) (pa_cons (pe_op op_add (pe_fld (pv 2) rfl) pe_int) pa_nil))) (pg_name (i:=3) sc_missing_answer.nd rfl (by walk_at "or")) (pss_cons (ps_set (i:=4) sc_missing_answer.nd rfl (by walk_at "or") (pe_tup (pa_cons (pe_fld (pv 2) rfl) (pa_cons (pe_fld (pv 2) rfl) (pa_cons (pv 3) pa_nil))))) (pss_one (ps_if (pt_cmp (pc_dnotin (hu_of hr) (pv 4) (pe_fld (pv 0) rfl)) (by with_unfolding_all rfl)) (pss_one (ps_expr (pe_bm PySem.F.plainAttrs_list PySem.F.slot_list_extend PySem.F.type_list_extend mt_extendT (pv 1) (pa_cons (pv 4) pa_nil)))) pss_nil)))))) (pss_one (ps_ret (pv 1))))),?_⟩
  walk_at "v"
  refine⟨nle0 rfl,fun q nq=>?_⟩
  have sq0:Same H (upd H q (.lst [.int 0])):=same_new nq
  have hp2:=sq0 _ _ hp
  walk_at "v"
  refine⟨⟨_,SqL.of (sq0 _ _ hs)⟩,?_⟩
  refine for_list (K:=K) (xs:=as.map V.ref) (fun i σ H'=>Same H H'∧H' q=some (.lst ((0::(s.sittings.take i).flatMap fun x=>missJ s x x.count).map V.int))∧∃u2 u3 u4,σ=[some (.ref B.p),some (.ref q),u2,u3,u4]) ⟨sq0,upd_same,none,none,none,rfl⟩ (fun i σ H' _ ⟨sm,_⟩=>SqL.of (sm _ _ hs)) ?_ ?_
  ·rintro i v σ H' hi ⟨sm,hq,u2,u3,u4,rfl⟩
   obtain⟨d,x,hd,hx,rfl,sx⟩:=paired_at ps hi
   have mx:=List.mem_of_getElem? hx
   have so:=si.so x mx
   have hc40:x.count≤40∧x.first≤41:=by
    have:=so.fc
    have:=so.f1
    have:=si.b2
    omega
   obtain⟨dd,sx⟩:=sx.mono (hid_sub.trans sm)
   have fle:((s.sittings.take i).flatMap fun x=>missJ s x x.count).length≤120000:=by
    have gen:∀l:List Sitting,(∀y∈l,y∈s.sittings)→(l.flatMap fun x=>missJ s x x.count).length≤120*l.length:=by
     intro l
     induction l with
     |nil=>intro _;simp
     |cons y l ih=>
      intro hy
      have:=ih fun z hz=>hy z (by simp[hz])
      have h1:=missJ_len s y y.count
      have so:=si.so y (hy y (by simp))
      have:=so.fc
      have:=so.f1
      have:=si.b2
      rw[List.flatMap_cons,List.length_append,List.length_cons]
      omega
    have:=gen (s.sittings.take i) fun y hy=>List.mem_of_mem_take hy
    have h2:(s.sittings.take i).length≤1000:=by rw[List.length_take];omega
    omega
   walk_at "v"
   have hn:((x.first:Int)+x.count-1+1-x.first).toNat=x.count:=by omega
   refine⟨_,_,rfl,⟨by omega,by omega,by omega,by omega⟩,?_⟩
   rw[hn]
   refine for_range (fun j σ H2=>Same H H2∧H2 q=some (.lst ((0::((s.sittings.take i).flatMap (fun x=>missJ s x x.count)++missJ s x j)).map V.int))∧∃u3 u4,σ=[some (.ref B.p),some (.ref q),some (.ref d),u3,u4]) ⟨sm,?_,u3,u4,rfl⟩ ?_ ?_
   ·rw[show missJ s x 0=[]from rfl,List.append_nil]
    exact hq
   ·rintro j σ H2 hj ⟨sm2,hq2,u3,u4,rfl⟩
    obtain⟨dd2,sx2⟩:=(show SitO T H d x from by
     obtain⟨d0,x0,hd0,hx0,e0,sx0⟩:=paired_at ps hi
     cases e0
     rw[hx]at hx0
     cases hx0
     exact sx0.mono hid_sub)
    have sx2:=sm2 _ _ sx2
    have hb:Vbbraj.hasBoard x (x.first+j)=true:=Sti.hasBoard_iff.mpr ⟨by omega,by omega⟩
    have hh:=ents_has R si mx (x.first+j)
    rw[hb,Bool.true_and]at hh
    walk_at "v"
    refine⟨nle0 rfl,fun t nt=>?_⟩
    generalize hG:upd H2 t _=G
    have sG:Same H2 G:=by rw[←hG];exact same_new nt
    have ht:G t=some (.tup ((plKey x.round x.table (x.first+j)).map kV)):=by rw[←hG];exact upd_same
    clear hG
    have hp3:=(sm2.trans sG) _ _ hp
    have he3:=(sm2.trans sG) _ _ he
    have hq3:=sG _ _ hq2
    walk_at "v"
    refine⟨_,_,rfl,DGet.t he3 ht,_,rfl,?_⟩
    rw[hh]
    have ms:=missJ_succ s x j
    refine ite2 (fun h=>?_) (fun h=>?_)
    ·rw[if_pos (by simpa using h)]at ms
     refine⟨_,rfl,.inl ⟨rfl,_,SqL.of hq3⟩,?_⟩
     walk_at "v"
     refine⟨q,t,_,_,rfl,rfl,hq3,SqT.of ht,?_,?_⟩
     ·have:=missJ_len s x j
      rw[List.length_map,List.length_cons,List.length_append]
      refine big6 ?_
      show _+3≤_
      omega
     ·refine⟨fun c o hc=>?_,?_,some (iN (x.first+j)),some (.ref t),rfl⟩
      ·rw[upd_ne (ne_of_none hc nq)]
       exact(sm2.trans sG) _ _ hc
      ·rw[upd_same,ms]
       simp[plKey,kV,ky3]
    ·rw[if_neg (by simpa using h),List.append_nil]at ms
     exact⟨sm2.trans sG,by rw[ms];exact hq3,some (iN (x.first+j)),some (.ref t),rfl⟩
   ·rintro σ H2 ⟨sm2,hq2,u3,u4,rfl⟩
    refine⟨sm2,?_,some (.ref d),u3,u4,rfl⟩
    rw[hq2,take_snoc hx,List.flatMap_append]
    simp
  ·rintro σ H' ⟨sm,hq,u2,u3,u4,rfl⟩
   rw[List.length_map,Paired.length ps,List.take_length]at hq
   exact⟨_,rfl,post _ B q rfl (ev.grow sm) (ev.zkeep sm) hq⟩
noncomputable def isList:Vbbraj.Call→Prop
 | .met p q=>0≤p∧0≤q
 | .sittings p=>0≤p
 | .missing=>True
 | .changes=>True
 | .appeals=>True
 |_=>False
inductive J_listing_answer(T:TX K mg)(vs:List V)(H:Hp)(Q:VK):Prop
 |mk (A:EvA) (s:State) (c:Nat) (Z:Addr→Bool) (a:Addr) (call:Vbbraj.Call):vs=[.ref A.p,.ref a]→EvO T Z H s c A→SInv s→CallO T H a (num call) (plainOf call) (rowOf call)→isList call→s.changes=c→s.sittings.length≤1000→s.appeals.length≤1000→Post T Z H A s c (Vbbraj.act s call).2 Q→J_listing_answer T vs H Q
noncomputable def sp_listing_answer(T:TX K mg):Sp:=fun vs H Q _=>J_listing_answer T vs H Q
theorem ok_listing_answer(T:TX K mg):FnOk P w K mg base CX0 3 T.f_listing_answer.f T.f_listing_answer.fd ["event","call"] (sp_listing_answer T):=by
 refine okL T.f_listing_answer.F sc_listing_answer (fun vs H Q E h=>?_) (fun cdv A outer s H vs Q E hr h=>?_)
 rotate_left;intro Xc;rotate_left
 ·obtain⟨A,s,c,Z,a,call,rfl,_⟩:=h
  rfl
 ·obtain⟨B,s,c,Z,a,call,rfl,ev,si,⟨dc,ap,ar,hc,hpl,hrw⟩,hl,hch,hsl,hal,post⟩:=h
  obtain⟨dp,hp⟩:=ev.hp
  refine⟨_,(pss_cons (ps_if (pt_cmpR op_eq (pe_fld (pv 1) rfl) (pe_g rfl T.c_MET) (nomark _)) (pss_one (ps_ret (pe_call (ok_met_answer T) (hr.mono (by decide)) rfl T.f_met_answer.m T.f_met_answer.F.kp T.f_met_answer.b .nil pass0 (pa_cons (pv 0) (pa_cons (pe_ix ix_list (pe_fld (pv 1) rfl) pe_int (fun _ _=>rfl)) (pa_cons (pe_ix ix_list (pe_fld (pv 1) rfl) pe_int (fun _ _=>rfl)) pa_nil)))))) pss_nil) (pss_cons (ps_if (pt_cmpR op_eq (pe_fld (pv 1) rfl) (pe_g rfl T.c_SITTINGS) (nomark _)) (pss_one (ps_ret (pe_call (ok_sittings_answer T) (hr.mono (by decide)) rfl T.f_sittings_answer.m T.f_sittings_answer.F.kp T.f_sittings_answer.b .nil pass0 (pa_cons (pv 0) (pa_cons (pe_ix ix_list (pe_fld (pv 1) rfl) pe_int (fun _ _=>rfl)) pa_nil))))) pss_nil) (pss_cons (ps_if (pt_cmpR op_eq (pe_fld (pv 1) rfl) (pe_g rfl T.c_MISSING) (nomark _)) (pss_one (ps_ret (pe_call (ok_missing_answer T) (hr.mono (by decide)) rfl T.f_missing_answer.m T.f_missing_answer.F.kp T.f_missing_answer.b .nil pass0 (pa_cons (pv 0) pa_nil)))) pss_nil) (pss_cons (ps_if (pt_cmpR op_eq (pe_fld (pv 1) rfl) (pe_g rfl T.c_CHANGES) (nomark _)) (pss_one (ps_ret (pe_lst (pa_cons pe_int (pa_cons (pe_fld (pv 0) rfl) pa_nil))))) pss_nil) (pss_one (ps_ret (pe_call (ok_appeals_answer T) (hr.mono (by decide)) rfl T.f_appeals_answer.m T.f_appeals_answer.F.kp T.f_appeals_answer.b .nil pass0 (pa_cons (pv 0) pa_nil)))))))),?_⟩
  cases call with
  |met p q=>
   obtain⟨p',rfl⟩:=Int.eq_ofNat_of_zero_le hl.1
   obtain⟨q',rfl⟩:=Int.eq_ofNat_of_zero_le hl.2
   have sq:SqL K H ap [iN p',iN q']:=SqL.of hpl
   walk_at "v"
   exact⟨B,s,c,Z,p',q',rfl,ev,post⟩
  |sittings p=>
   obtain⟨p',rfl⟩:=Int.eq_ofNat_of_zero_le hl
   have sq:SqL K H ap [iN p']:=SqL.of hpl
   walk_at "v"
   exact⟨B,s,c,Z,p',rfl,ev,hsl,post⟩
  |missing=>
   walk_at "v"
   exact⟨B,s,c,Z,rfl,ev,si,hsl,post⟩
  |changes=>
   walk_at "v"
   refine⟨nle0 rfl,fun y ny=>?_⟩
   have hact:(Vbbraj.act s .changes).2=[0,(c:Int)]:=by
    rw[←hch]
    rfl
   rw[hact]at post
   exact post.same ev (Same.refl _) ny
  |appeals=>
   walk_at "v"
   exact⟨B,s,c,Z,rfl,ev,hal,post⟩
  |_=>exact hl.elim
end
end
section
open Vbbraj (State Sitting)
open Sti (SInv Srt)
open Pts (Sml Bt plusU)
open Mth (val canon sumR brings broR brTop totR totT cn)
theorem sumR_perm{l m:List Rat}(h:l.Perm m):sumR l=sumR m:=by
 induction h with
 |nil=>rfl
 |cons x _ ih=>
  show x+sumR _=x+sumR _
  rw[ih]
 |swap x y l=>
  show y+(x+sumR l)=x+(y+sumR l)
  grind
 |trans _ _ ih1 ih2=>exact ih1.trans ih2
theorem sumR_keys{f:Nat→Rat}:∀(n:Nat) (ks:List Nat),ks.Nodup→(∀b∈ks,1≤b∧b≤n)→(∀b,1≤b→b≤n→b∉ks→f b=0)→sumR (ks.map f)=sumR ((List.range n).map fun b=>f (b+1))
 |0,ks,_,hin,_=>by
  cases ks with
  |nil=>rfl
  |cons b ks=>
   have:=hin b (by simp)
   omega
 |n+1,ks,nd,hin,h0=>by
  rw[List.range_succ,List.map_append,Mth.sumR_append]
  by_cases hm:(n+1)∈ks
  ·have pe:=List.perm_cons_erase hm
   rw[sumR_perm (pe.map f)]
   have ih:=sumR_keys n (ks.erase (n+1)) (nd.erase _) (fun b hb=>by
    have h1:=hin b (List.mem_of_mem_erase hb)
    have h2:b≠n+1:=fun z=>by
     rw[z]at hb
     exact absurd hb (nd.not_mem_erase)
    omega) (fun b h1 h2 h3=>h0 b h1 (by omega) fun z=>h3 ((List.mem_erase_of_ne (by omega)).mpr z))
   show f (n+1)+sumR _=_+(f (n+1)+0)
   rw[ih]
   grind
  ·have ih:=sumR_keys n ks nd (fun b hb=>by
    have h1:=hin b hb
    have h2:b≠n+1:=fun z=>hm (by rw[←z];exact hb)
    omega) (fun b h1 h2 h3=>h0 b h1 (by omega) h3)
   rw[ih]
   show _=_+(f (n+1)+0)
   rw[h0 (n+1) (by omega) (by omega) hm]
   grind
theorem sumN_keys{f:Nat→Nat}:∀(n:Nat) (ks:List Nat),ks.Nodup→(∀b∈ks,1≤b∧b≤n)→(∀b,1≤b→b≤n→b∉ks→f b=0)→(ks.map f).sum=((List.range n).map fun b=>f (b+1)).sum
 |0,ks,_,hin,_=>by
  cases ks with
  |nil=>rfl
  |cons b ks=>
   have:=hin b (by simp)
   omega
 |n+1,ks,nd,hin,h0=>by
  rw[List.range_succ,List.map_append,List.sum_append]
  by_cases hm:(n+1)∈ks
  ·have pe:=List.perm_cons_erase hm
   rw[(pe.map f).sum_nat]
   have ih:=sumN_keys n (ks.erase (n+1)) (nd.erase _) (fun b hb=>by
    have h1:=hin b (List.mem_of_mem_erase hb)
    have h2:b≠n+1:=fun z=>by
     rw[z]at hb
     exact absurd hb (nd.not_mem_erase)
    omega) (fun b h1 h2 h3=>h0 b h1 (by omega) fun z=>h3 ((List.mem_erase_of_ne (by omega)).mpr z))
   simp only[List.map_cons,List.sum_cons,List.map_nil,List.sum_nil]
   rw[ih]
   omega
  ·have ih:=sumN_keys n ks nd (fun b hb=>by
    have h1:=hin b hb
    have h2:b≠n+1:=fun z=>hm (by rw[←z];exact hb)
    omega) (fun b h1 h2 h3=>h0 b h1 (by omega) h3)
   rw[ih]
   simp only[List.map_cons,List.sum_cons,List.map_nil,List.sum_nil]
   rw[h0 (n+1) (by omega) (by omega) hm]
   omega
theorem bro_nd{s:State}(si:SInv s)(b:Nat):∀j,((broL s b (Vbbraj.sheet s b) ((Vbbraj.sheet s b).take j)).map (·.1)).Nodup
 |0=>List.nodup_nil
 |j+1=>by
  have ih:=bro_nd si b j
  cases he:(Vbbraj.sheet s b)[j]? with
  |none=>
   rw[List.take_succ,he]
   simpa using ih
  |some e=>
   obtain⟨k1,k2⟩:=keys_new si he
   rw[take_snoc he,broL_snoc,List.map_append]
   refine List.nodup_append.mpr ⟨ih,?_,fun a ha c hc=>?_⟩
   ·simp[k2]
   ·obtain⟨y,hy,rfl⟩:=List.mem_map.mp ha
    have:=k1 y hy
    simp only[List.map_cons,List.map_nil,List.mem_cons,List.not_mem_nil,or_false]at hc
    rcases hc with rfl|rfl
    ·exact this.1
    ·exact this.2
theorem filter_find{α:Type}{p:Nat}{g:α→Nat}:∀{L:List α},(L.map g).Nodup→L.filter (fun x=>g x==p)=(L.find? fun x=>g x==p).toList
 |[],_=>rfl
 |x::L,h=>by
  obtain⟨h1,h2⟩:=List.nodup_cons.mp h
  by_cases e:g x=p
  ·rw[List.filter_cons_of_pos (by simp[e]),List.find?_cons_of_pos (by simp[e])]
   have:L.filter (fun x=>g x==p)=[]:=List.filter_eq_nil_iff.mpr fun y hy z=>h1 (List.mem_map.mpr ⟨y,hy,by
    have:g y=p:=by simpa using z
    rw[this,e]⟩)
   rw[this]
   rfl
  ·rw[List.filter_cons_of_neg (by simp[e]),List.find?_cons_of_neg (by simp[e])]
   exact filter_find h2
theorem pts_bt{s:State}(si:SInv s){b:Nat}(en:Ents s b){e:VEnt}(he:e∈Vbbraj.sheet s b):Bt (26*(Vbbraj.sheet s b).length+16) (Vbbrah.points (Vbbraj.sheet s b) e).1∧Bt (26*(Vbbraj.sheet s b).length+16) (Vbbrah.points (Vbbraj.sheet s b) e).2:=by
 have l40:=sheet_len si b
 obtain⟨e1,e2,e3⟩:=en e he
 generalize hl:Vbbraj.sheet s b=l at *
 have tl:=top_le l40
 have hpos:0<l.length:=List.length_pos_of_mem he
 by_cases hr:Vbbrah.isReal e=true
 ·have wt:Mth.Wt l:=by rw[←hl];exact si.wt b
  have low:=Pts.real_low wt he hr
  have po:=Pts.real_other wt he hr
  have hol:(Mth.others l e).length+1≤l.length:=by
   have h1:(Mth.others l e).length≤(l.filter fun f=>f.table != e.table).length:=by
    have q:Mth.others l e=((l.filter fun f=>f.table != e.table).filter fun f=>Vbbrah.isReal f&&f.group==e.group):=by
     unfold Mth.others Vbbrah.groupOf
     rw[List.filter_filter,List.filter_filter]
     congr 1
     funext f
     exact Bool.and_comm _ _
    rw[q]
    exact List.length_filter_le _ _
   have h2:(l.filter fun f=>f.table != e.table).length<l.length:=by
    rw[List.length_filter_lt_length_iff_exists]
    exact⟨e,he,by simp⟩
   omega
  have smo:∀q∈(Mth.others l e).map (·.result),Sml q:=fun q hq=>by
   obtain⟨f,hf,rfl⟩:=List.mem_map.mp hq
   exact(en f (by rw[hl];exact(List.mem_filter.mp (List.mem_filter.mp hf).1).1)).1
  have br:=(Pts.realU_bt (N:=l.length) e1 smo (by omega) (by rw[List.length_map];omega)).low low.2
  rw[low.1,List.length_map]at br
  refine⟨br.mono (by omega),?_⟩
  rw[po]
  have b2:Bt (26*(Mth.others l e).length+16+7) ((Vbbrah.top l:Int)*((Vbbrah.points l e).1.2:Int)-(Vbbrah.points l e).1.1,(Vbbrah.points l e).1.2):=by
   constructor
   ·show((Vbbrah.top l:Int)*((Vbbrah.points l e).1.2:Int)-(Vbbrah.points l e).1.1).natAbs<_
    have h1:=br.1
    have h2:=br.2
    have h3:Vbbrah.top l*(Vbbrah.points l e).1.2≤80*2 ^ (26*(Mth.others l e).length+16):=Nat.mul_le_mul tl (Nat.le_of_lt h2)
    have h4:((Vbbrah.top l:Int)*((Vbbrah.points l e).1.2:Int)-(Vbbrah.points l e).1.1).natAbs≤Vbbrah.top l*(Vbbrah.points l e).1.2+(Vbbrah.points l e).1.1.natAbs:=by
     have:((Vbbrah.top l:Int)*((Vbbrah.points l e).1.2:Int))=((Vbbrah.top l*(Vbbrah.points l e).1.2:Nat):Int):=(Int.natCast_mul _ _).symm
     rw[this]
     omega
    rw[Nat.pow_add _ _ 7]
    omega
   ·exact Nat.lt_of_lt_of_le br.2 (Pts.pow_le (by omega))
  exact b2.mono (by omega)
 ·have hpt:Vbbrah.points l e=(Vbbrah.lowest (((e.ns*Vbbrah.top l:Nat):Int),100),Vbbrah.lowest (((e.ew*Vbbrah.top l:Nat):Int),100)):=by
   unfold Vbbrah.points
   rw[if_neg hr]
   rfl
  have m1:e.ns*Vbbrah.top l≤100*80:=Nat.mul_le_mul e2 tl
  have m2:e.ew*Vbbrah.top l≤100*80:=Nat.mul_le_mul e3 tl
  have g:∀k:Nat,k≤8000→Bt 14 (Vbbrah.lowest ((k:Int),100)):=fun k hk=>Bt.low ⟨by show((k:Int)).natAbs<_;rw[Int.natAbs_natCast];omega,show(100:Nat)<2 ^ 14 by decide⟩ (show(100:Nat)≠0 by decide)
  rw[hpt]
  exact⟨(g _ (by omega)).mono (by omega),(g _ (by omega)).mono (by omega)⟩
theorem bro_find{s:State}(si:SInv s){b:Nat}(en:Ents s b)(p:Nat):match(Vbbraj.brought s b (Vbbraj.sheet s b)).find? (fun x=>x.1==p)with
  |none=>brings p (broR s b (Vbbraj.sheet s b))=0∧brTop s p b (Vbbraj.sheet s b)=0
  |some z=>brings p (broR s b (Vbbraj.sheet s b))=val z.2∧z.2.2≠0∧brTop s p b (Vbbraj.sheet s b)=Vbbrah.top (Vbbraj.sheet s b)∧Bt (26*(Vbbraj.sheet s b).length+16) z.2∧Vbbraj.sheet s b≠[]:=by
 have nd:=bro_nd si b (Vbbraj.sheet s b).length
 rw[List.take_length]at nd
 have be:broL s b (Vbbraj.sheet s b) (Vbbraj.sheet s b)=(broR s b (Vbbraj.sheet s b)).map cn:=Mth.brought_eq (si.wt b)
 have be2:Vbbraj.brought s b (Vbbraj.sheet s b)=(broR s b (Vbbraj.sheet s b)).map cn:=Mth.brought_eq (si.wt b)
 rw[be,List.map_map]at nd
 have nd2:((broR s b (Vbbraj.sheet s b)).map (·.1)).Nodup:=nd
 have ff:=filter_find (p:=p) nd2
 have fm:(Vbbraj.brought s b (Vbbraj.sheet s b)).find? (fun x=>x.1==p)=((broR s b (Vbbraj.sheet s b)).find? fun x=>x.1==p).map cn:=by
  rw[be2,List.find?_map]
  rfl
 have bt:∀z∈Vbbraj.brought s b (Vbbraj.sheet s b),Bt (26*(Vbbraj.sheet s b).length+16) z.2∧Vbbraj.sheet s b≠[]:=fun z hz=>by
  obtain⟨e,he,hz⟩:=List.mem_flatMap.mp hz
  have h1:=pts_bt si en he
  refine⟨?_,List.ne_nil_of_mem he⟩
  simp only[List.mem_cons,List.not_mem_nil,or_false]at hz
  rcases hz with rfl|rfl
  ·exact h1.1
  ·exact h1.2
 unfold brings brTop
 rw[ff]
 cases hf:(broR s b (Vbbraj.sheet s b)).find? (fun x=>x.1==p)with
 |none=>
  rw[fm,hf]
  exact⟨rfl,by simp⟩
 |some y=>
  have hz:=List.mem_of_find?_eq_some (l:=Vbbraj.brought s b (Vbbraj.sheet s b)) (p:=fun x=>x.1==p) (a:=cn y) (by rw[fm,hf];rfl)
  rw[fm,hf]
  refine⟨?_,Mth.canon_pos _,by simp,(bt _ hz).1,(bt _ hz).2⟩
  show y.2+0=val (canon y.2)
  rw[Mth.val_canon]
  grind
end
section
open Vbbraj (State Sitting)
open Sti (SInv Srt)
open Pts (Sml Bt plusU)
open Mth (val canon sumR brings broR brTop totR totT cn adjR ptsR)
section
variable {P:Program}{w:World}{K:PySem.W.Frag}{mg:Str→Option Value}{base:Heap}
structure Bnd(s:State):Prop where
 en:∀b,Ents s b
 ad:∀z∈s.adjusted,z.natAbs≤100000
 te:((List.range s.boards).map fun b=>(Vbbraj.sheet s (b+1)).length).sum≤400
noncomputable def TotO(T:TX K mg)(H:Hp)(s:State)(a:Addr)(p:Nat):Prop:=∃(dx q:Addr) (U:VFr),H a=some (.ins T.k_PairTotal.C dx [("pair",iN p),("points",.ref q),("tops",iN (totT s p))])∧H q=some (.tup [.int U.1,iN U.2])∧U.2≠0∧val U=ptsR s p∧Bt 11200 U
theorem TotO.mono{T:TX K mg}{H H':Hp}(sm:Same H H'){s:State}{a:Addr}{p:Nat}(h:TotO T H s a p):TotO T H' s a p:=let⟨dx,q,U,h1,h2,h3⟩:=h;⟨dx,q,U,sm _ _ h1,sm _ _ h2,h3⟩
theorem keys_bds:∀{kvs:List (Key×V)} {n:Nat},(∀kv∈kvs,∃b:Nat,kv.1=.inl (b:Int)∧1≤b∧b≤n)→∃bs:List Nat,kvs.map (·.1)=bs.map (fun b:Nat=>(Sum.inl (b:Int):Key))∧∀b∈bs,1≤b∧b≤n
 |[],n,_=>⟨[],rfl,fun b h=>by cases h⟩
 |kv::r,n,h=>by
  obtain⟨bs,e,hb⟩:=keys_bds (kvs:=r) (n:=n) fun z hz=>h z (by simp[hz])
  obtain⟨b,e1,h1⟩:=h kv (by simp)
  refine⟨b::bs,by rw[List.map_cons,List.map_cons,e,e1],fun c hc=>?_⟩
  rcases List.mem_cons.mp hc with rfl|hc
  ·exact h1
  ·exact hb c hc
theorem valV_at{κ:Type}[DecidableEq κ]:∀{kvs:List (κ×V)} {j:Nat} {k:κ} {v:V},(kvs.map (·.1)).Nodup→kvs[j]?=some (k,v)→valV kvs k=some v
 |[],j,k,v,_,h=>by simp at h
 |p::r,0,k,v,hn,h=>by
  rw[List.getElem?_cons_zero]at h
  cases h
  exact valV_pos rfl
 |p::r,j+1,k,v,hn,h=>by
  rw[List.getElem?_cons_succ]at h
  have hn2:=List.nodup_cons.mp hn
  have:p.1≠k:=fun z=>hn2.1 (by show p.1∈_;rw[z];exact List.mem_map.mpr ⟨_,List.mem_of_getElem? h,rfl⟩)
  rw[valV_neg this]
  exact valV_at hn2.2 h
theorem sum_take_le(l:List Nat)(j:Nat):(l.take j).sum≤l.sum:=by
 have:l.sum=(l.take j).sum+(l.drop j).sum:=by rw[←List.sum_append,List.take_append_drop]
 omega
theorem sum_lin{f:Nat→Nat}(a c:Nat):∀l:List Nat,(l.map fun b=>a*f b+c).sum=a*(l.map f).sum+c*l.length
 |[]=>by simp
 |b::l=>by
  rw[List.map_cons,List.sum_cons,sum_lin a c l,List.map_cons,List.sum_cons,List.length_cons,Nat.mul_add,Nat.mul_add]
  omega
inductive J_total_of(T:TX K mg)(vs:List V)(H:Hp)(Q:VK):Prop
 |mk (A:EvA) (s:State) (c:Nat) (Z:Addr→Bool) (p:Nat):vs=[.ref A.p,iN p]→EvO T Z H s c A→SInv s→Bnd s→1≤p→p≤s.pairs→(∀(H':Hp) (a:Addr),Same H H'→TotO T H' s a p→Q (.ref a) H')→J_total_of T vs H Q
noncomputable def sp_total_of(T:TX K mg):Sp:=fun vs H Q _=>J_total_of T vs H Q
theorem ok_total_of(T:TX K mg):FnOk P w K mg base CX0 3 T.f_total_of.f T.f_total_of.fd ["event","pair"] (sp_total_of T):=by
 refine okL T.f_total_of.F sc_total_of (fun vs H Q E h=>?_) (fun cdv A outer s H vs Q E hr h=>?_)
 rotate_left;intro Xc;rotate_left
 ·obtain⟨A,s,c,Z,p,rfl,_⟩:=h
  rfl
 ·obtain⟨B,s,c,Z,p,rfl,ev,si,bd,hp1,hp2,k⟩:=h
  obtain⟨dp,hp⟩:=ev.hp
  obtain⟨kvs,hk,R⟩:=ev.hh
  obtain⟨ds,hd,J⟩:=ev.ha
  obtain⟨bs,hbs,hbin⟩:=keys_bds R.key
  have ndb:bs.Nodup:=by
   have:=R.nd
   rw[hbs]at this
   exact(List.pairwise_map.mp this).imp fun{a c} h (z:a=c)=>h (by rw[z])
  have hlb:kvs.length=bs.length:=by simpa using congrArg List.length hbs
  have lb40:bs.length≤40:=by
   have:=keys_len R.key R.nd
   have:=si.b2
   omega
  have shN:∀b,1≤b→b≤s.boards→b∉bs→Vbbraj.sheet s b=[]:=fun b h1 h2 h3=>by
   have:=R.at_ b h1 h2
   cases e:valV kvs (.inl (b:Int))with
   |none=>rw[e]at this;exact this
   |some v=>
    have m:=valV_in e
    rw[hbs]at m
    obtain⟨c,hc,e⟩:=List.mem_map.mp m
    have:c=b:=by
     have:=Sum.inl.inj e
     omega
    exact absurd (this▸hc) h3
  have t1:sumR (bs.map fun b=>brings p (broR s b (Vbbraj.sheet s b)))=totR s p:=sumR_keys s.boards bs ndb hbin fun b h1 h2 h3=>by rw[shN b h1 h2 h3];rfl
  have t2:(bs.map fun b=>brTop s p b (Vbbraj.sheet s b)).sum=totT s p:=sumN_keys (f:=fun b=>brTop s p b (Vbbraj.sheet s b)) s.boards bs ndb hbin fun b h1 h2 h3=>by
   show brTop s p b (Vbbraj.sheet s b)=0
   rw[shN b h1 h2 h3]
   rfl
  have t3:(bs.map fun b=>(Vbbraj.sheet s b).length).sum≤400:=by
   rw[sumN_keys (f:=fun b=>(Vbbraj.sheet s b).length) s.boards bs ndb hbin fun b h1 h2 h3=>by
    show(Vbbraj.sheet s b).length=0
    rw[shN b h1 h2 h3]
    rfl]
   exact bd.te
  have t4:(bs.map fun b=>26*(Vbbraj.sheet s b).length+17).sum≤11080:=by
   rw[sum_lin (f:=fun b=>(Vbbraj.sheet s b).length) 26 17 bs]
   omega
  have hadj:(s.adjusted.getD (p-1) 0).natAbs≤100000:=by
   rw[List.getD_eq_getElem?_getD]
   cases e:s.adjusted[p-1]? with
   |none=>simp
   |some z=>exact bd.ad z (List.mem_of_getElem? e)
  refine⟨_,(pss_cons (ps_set (i:=2) sc_total_of.nd rfl (by walk_at "or") (pe_tup (pa_cons (pe_dget2 (hu_of hr) (pe_fld (pv 0) rfl) (pv 1) pe_int ⟨rfl,rfl,rfl,rfl⟩) (pa_cons pe_int pa_nil)))) (pss_cons (ps_set (i:=3) sc_total_of.nd rfl (by walk_at "or") pe_int) (pss_cons (ps_lock (ps_for PassesOwn.never rfl (pi_values (pe_fld (pv 0) rfl)) (pg_name (i:=4) sc_total_of.nd rfl (by walk_at "or")) (pss_one (ps_if (pt_cmp (pc_din (hu_of hr) (pv 1) (pe_fld (pv 4) rfl)) (by with_unfolding_all rfl)) (pss_cons (ps_set (i:=2) sc_total_of.nd rfl (by walk_at "or") (pe_call (ok_plus T) (hr.mono (by decide)) rfl T.f_plus.m T.f_plus.F.kp T.f_plus.b .nil pass0 (pa_cons (pv 2) (pa_cons (pe_dget (hu_of hr) (pe_fld (pv 4) rfl) (pv 1) (fun _ _=>rfl)) pa_nil)))) (pss_one (ps_set (i:=3) sc_total_of.nd rfl (by walk_at "or") (pe_op op_add (pv 3) (pe_fld (pv 4) rfl))))) pss_nil)))) (pss_one (ps_ret (pe_make T.k_PairTotal.mkk (ok_PairTotal_init T) (hr.mono (by decide)) rfl T.k_PairTotal.m T.k_PairTotal.b .nil pass0 (pa_cons (pv 1) (pa_cons (pv 2) (pa_cons (pv 3) pa_nil))))))))),?_⟩
  walk_at "v"
  refine⟨.inl ⟨_,.inl hd⟩,?_⟩
  walk_at "v"
  refine⟨_,DGet.k (k:=.inl (p:Int)) hd,?_⟩
  rw[J.at_ p hp1 hp2]
  walk_at "v"
  refine⟨nle0 rfl,fun q0 nq0=>?_⟩
  have sq0:Same H (upd H q0 (.tup [.int (s.adjusted.getD (p-1) 0),.int 100])):=same_new nq0
  have hq0:upd H q0 (.tup [.int (s.adjusted.getD (p-1) 0),.int 100]) q0=some (.tup [.int (s.adjusted.getD (p-1) 0),.int 100]):=upd_same
  generalize upd H q0 (.tup [.int (s.adjusted.getD (p-1) 0),.int 100])=G at sq0 hq0 ⊢
  have hkG:=sq0 _ _ hk
  walk_at "v"
  refine⟨B.shts,_,hkG,trivial,fun od=>?_⟩
  have lk:∀c o,c≠B.shts→G c=some o→upd G B.shts (.frz od (.dK kvs)) c=some o:=fun c o h1 h2=>by rw[upd_ne h1];exact h2
  have hpL:=lk B.p _ (ne_of (sq0 _ _ hp) hkG (fun z=>nomatch z)) (sq0 _ _ hp)
  have hqL:=lk q0 _ (ne_of hq0 hkG (fun z=>nomatch z)) hq0
  have hfz:upd G B.shts (.frz od (.dK kvs)) B.shts=some (.frz od (.dK kvs)):=upd_same
  have pgL:Same (hid B Z H) (upd G B.shts (.frz od (.dK kvs))):=fun c o hc=>by
   have no:=(hid_own_not hc).1
   exact lk c o (fun z=>no (by rw[z];simp[EvA.own])) (sq0 _ _ (hid_of hc))
  generalize upd G B.shts (.frz od (.dK kvs))=L at hpL hqL hfz pgL lk ⊢
  walk_at "v"
  refine⟨B.shts,od,kvs,rfl,hfz,?_⟩
  refine for_it (n:=kvs.length) (fun j σ H'=>Same L H'∧∃(u4:Option V) (q:Addr) (U:VFr),σ=[some (.ref B.p),some (iN p),some (.ref q),some (iN ((bs.take j).map fun b=>brTop s p b (Vbbraj.sheet s b)).sum),u4]∧H' q=some (.tup [.int U.1,iN U.2])∧U.2≠0∧
   val U=adjR s p+sumR ((bs.take j).map fun b=>brings p (broR s b (Vbbraj.sheet s b)))∧Bt (17+((bs.take j).map fun b=>26*(Vbbraj.sheet s b).length+17).sum) U) ⟨Same.refl _,none,q0,(s.adjusted.getD (p-1) 0,100),rfl,hqL,show(100:Nat)≠0 by decide,?_,?_⟩ ?_ ?_ ?_ ?_
  ·show val (s.adjusted.getD (p-1) 0,100)=adjR s p+0
   rw[Rat.add_zero]
   rfl
  ·exact⟨by show(s.adjusted.getD (p-1) 0).natAbs<2 ^ 17;omega,show(100:Nat)<2 ^ 17 by decide⟩
  ·rintro j σ H' hj ⟨sm,_⟩
   exact⟨sm _ _ hfz,hj⟩
  ·rintro σ H' ⟨sm,_⟩
   exact⟨sm _ _ hfz,Nat.le_refl _⟩
  ·rintro j v σ H2 H' hj ⟨sm,u4,q,U,rfl,hq,hU,hval,hbt⟩ ⟨rfl,kk,hkv⟩
   obtain⟨b,hb,rfl⟩:∃b:Nat,bs[j]?=some b∧kk=.inl (b:Int):=by
    have:=congrArg (·[j]?) hbs
    simp only[List.getElem?_map,hkv,Option.map_some]at this
    cases q:bs[j]? with
    |none=>rw[q]at this;cases this
    |some b=>rw[q]at this;exact⟨b,rfl,by simpa using this⟩
   obtain⟨hb1,hb2⟩:=hbin b (List.mem_of_getElem? hb)
   have hv:=valV_at R.nd hkv
   have at1:=R.at_ b hb1 hb2
   rw[hv]at at1
   obtain⟨a,rfl,dx,al,ab,ls,e1,e2,e3,bk,e4,e5⟩:=at1
   have pg:=pgL.trans sm
   have e1:=pg _ _ e1
   have e4:=pg _ _ e4
   have e5:=e5 p
   have bf:=bro_find si (bd.en b) p
   rw[take_snoc hb,List.map_append,List.map_append,List.map_append,List.sum_append,List.sum_append,Mth.sumR_append]
   simp only[List.map_cons,List.map_nil,List.sum_cons,List.sum_nil,Nat.add_zero]
   have sR1:∀z:Rat,sumR [z]=z:=fun z=>by show z+0=z;grind
   rw[sR1]
   have tk:=sum_take_le (bs.map fun b=>26*(Vbbraj.sheet s b).length+17) j
   rw[←List.map_take]at tk
   have l40:=sheet_len si b
   walk_at "v"
   refine⟨_,_,rfl,DGet.k (k:=.inl (p:Int)) e4,_,rfl,?_⟩
   cases hf:(Vbbraj.brought s b (Vbbraj.sheet s b)).find? (fun x=>x.1==p)with
   |none=>
    rw[hf]at e5 bf
    have e5:valV bk (.inl (p:Int))=none:=e5
    obtain⟨b1,b2⟩:=(show brings p (broR s b (Vbbraj.sheet s b))=0∧brTop s p b (Vbbraj.sheet s b)=0 from bf)
    rw[e5]
    refine iteF ?_
    refine⟨sm,some (.ref a),q,U,?_,hq,hU,?_,hbt.mono (by omega)⟩
    ·rw[b2]
     rfl
    ·rw[hval,b1]
     grind
   |some z=>
    rw[hf]at e5 bf
    obtain⟨r,r1,r2⟩:=e5
    obtain⟨b1,b2,b3,b4,b5⟩:=(show brings p (broR s b (Vbbraj.sheet s b))=val z.2∧z.2.2≠0∧brTop s p b (Vbbraj.sheet s b)=Vbbrah.top (Vbbraj.sheet s b)∧Bt (26*(Vbbraj.sheet s b).length+16) z.2∧Vbbraj.sheet s b≠[]from bf)
    have r1':DGet H' ab (iN p) (some (.ref r)):=r1▸DGet.k (k:=.inl (p:Int)) e4
    rw[r1]
    refine iteT ?_
    walk_at "v"
    refine⟨_,_,rfl,r1',?_⟩
    refine⟨q,r,U.1,z.2.1,U.2,z.2.2,_,_,rfl,hq,pg _ _ r2,hbt.1,hbt.2,b4.1,b4.2,by omega,fun t nt=>?_⟩
    have st:Same H' (upd H' t (.tup [.int (plusU U z.2).1,iN (plusU U z.2).2])):=same_new nt
    have ht:upd H' t (.tup [.int (plusU U z.2).1,iN (plusU U z.2).2]) t=some (.tup [.int (plusU U z.2).1,iN (plusU U z.2).2]):=upd_same
    have e1t:=st _ _ e1
    walk_at "v"
    refine⟨sm.trans st,some (.ref a),t,plusU U z.2,?_,ht,Nat.mul_ne_zero hU b2,?_,(hbt.plus b4).mono (by omega)⟩
    ·have tI:topI (Vbbraj.sheet s b)=((Vbbrah.top (Vbbraj.sheet s b):Nat):Int):=by
      have:=List.length_pos_iff.mpr b5
      unfold topI Vbbrah.top
      omega
     rw[b3,tI]
     rfl
    ·rw[Pts.val_plusU hU b2,hval,b1]
     grind
  ·rintro σ H' ⟨sm,u4,q,U,rfl,hq,hU,hval,hbt⟩
   rw[hlb,List.take_length]at hval hbt
   rw[hlb,List.take_length,t2]
   refine⟨sm _ _ hfz,?_⟩
   have fin:Same H (upd H' B.shts (.dK kvs)):=fun c o hc=>by
    by_cases z:c=B.shts
    ·rw[z]at hc ⊢
     rw[hk]at hc
     cases hc
     exact upd_same
    ·rw[upd_ne z]
     exact sm _ _ (lk c o z (sq0 _ _ hc))
   have hqF:upd H' B.shts (.dK kvs) q=some (.tup [.int U.1,iN U.2]):=by
    rw[upd_ne (ne_of hq (sm _ _ hfz) (fun z=>nomatch z))]
    exact hq
   generalize upd H' B.shts (.dK kvs)=F at fin hqF ⊢
   walk_at "v"
   intro a dx na nd ne
   refine⟨a,dx,_,_,_,rfl,upd_same,rfl,?_⟩
   rw[mkI_eq]
   have sF:=mkI_same (H:=F) (x:=a) (dx:=dx) (o:=.ins T.k_PairTotal.C dx [("pair",iN p),("points",.ref q),("tops",iN (totT s p))]) na nd
   refine k _ a (fin.trans sF) ⟨dx,q,U,mkI_at,sF _ _ hqF,hU,?_,hbt.mono (by omega)⟩
   rw[hval,t1]
   unfold ptsR
   grind
end
end
section
open Vbbraj (State Sitting)
open Sti (SInv Srt)
open Pts (Sml Bt plusU)
open Mth (val canon sumR brings broR brTop totR totT cn adjR ptsR shr cast_pos)
theorem val_share{U:VFr}(hU:U.2≠0){n:Nat}(hn:0<n):val (U.1,U.2*n)=val U / (n:Rat):=by
 show mkRat U.1 (U.2*n)=mkRat U.1 U.2 / (n:Rat)
 have h1:=cast_pos hn
 have h2:=cast_pos (Nat.pos_of_ne_zero hU)
 rw[Rat.mkRat_eq_div,Rat.mkRat_eq_div,Rat.natCast_mul]
 grind
noncomputable def prc(r:Rat):Int:=(r*10000+mkRat 1 2).floor
theorem round_val{V:VFr}(hV:V.2≠0):(2*(10000*V.1)+(V.2:Int)) / (2*(V.2:Int))=prc (val V):=by
 have ha:=cast_pos (Nat.pos_of_ne_zero hV)
 have hd:(0:Int)<2*(V.2:Int):=by omega
 have ev:val V=(V.1:Rat) / (V.2:Rat):=Rat.mkRat_eq_div ..
 have key:∀k:Int,k≤(2*(10000*V.1)+(V.2:Int)) / (2*(V.2:Int))↔k≤(val V*10000+mkRat 1 2).floor:=fun k=>by
  rw[Int.le_ediv_iff_mul_le hd,Rat.le_floor_iff,←Rat.intCast_le_intCast,ev]
  simp only[Rat.intCast_mul,Rat.intCast_add,Rat.intCast_natCast]
  have h2:mkRat 1 2=(1:Rat) / 2:=by rw[Rat.mkRat_eq_div];rfl
  rw[h2]
  have e0:((2:Int):Rat)=2:=rfl
  have e0':((10000:Int):Rat)=10000:=rfl
  rw[e0,e0']
  have hA0:(V.2:Rat)≠0:=by grind
  have e1:(k:Rat)*(2*(V.2:Rat))=(2*(k:Rat))*(V.2:Rat):=by grind
  have e2:2*(10000*(V.1:Rat))+(V.2:Rat)=(2*((V.1:Rat) / (V.2:Rat))*10000+1)*(V.2:Rat):=by grind
  rw[e1,e2,←Rat.not_lt,Rat.mul_lt_mul_right ha,Rat.not_lt]
  constructor<;>intro h<;>grind
 have h1:=(key _).mp (Int.le_refl _)
 have h2:=(key _).mpr (Int.le_refl _)
 unfold prc
 omega
theorem greater_val{V W:VFr}(hV:V.2≠0)(hW:W.2≠0):W.1*(V.2:Int)<V.1*(W.2:Int)↔val W<val V:=by
 have h1:=cast_pos (Nat.pos_of_ne_zero hV)
 have h2:=cast_pos (Nat.pos_of_ne_zero hW)
 have e1:val V=(V.1:Rat) / (V.2:Rat):=Rat.mkRat_eq_div ..
 have e2:val W=(W.1:Rat) / (W.2:Rat):=Rat.mkRat_eq_div ..
 rw[e1,e2,Rat.div_lt_iff h2,show(V.1:Rat) / (V.2:Rat)*(W.2:Rat)=((V.1:Rat)*(W.2:Rat)) / (V.2:Rat) by grind,Rat.lt_div_iff h1,←Rat.intCast_lt_intCast]
 simp only[Rat.intCast_mul,Rat.intCast_natCast]
theorem totT_le{s:State}(si:SInv s)(bd:Bnd s)(p:Nat):totT s p≤3200:=by
 have h:∀b,brTop s p b (Vbbraj.sheet s b)≤80:=fun b=>by
  have bf:=bro_find si (bd.en b) p
  cases hf:(Vbbraj.brought s b (Vbbraj.sheet s b)).find? (fun x=>x.1==p)with
  |none=>
   rw[hf]at bf
   have:=bf.2
   omega
  |some z=>
   rw[hf]at bf
   have:=bf.2.2.1
   have:=top_le (sheet_len si b)
   omega
 have gen:∀l:List Nat,(l.map fun b=>brTop s p (b+1) (Vbbraj.sheet s (b+1))).sum≤80*l.length:=by
  intro l
  induction l with
  |nil=>simp
  |cons b l ih=>
   rw[List.map_cons,List.sum_cons,List.length_cons]
   have:=h (b+1)
   omega
 have:=gen (List.range s.boards)
 rw[List.length_range]at this
 have:=si.b2
 unfold totT
 omega
section
variable {P:Program}{w:World}{K:PySem.W.Frag}{mg:Str→Option Value}{base:Heap}
noncomputable def ShO(H:Hp)(s:State)(q:Addr)(p:Nat):Prop:=∃V:VFr,H q=some (.tup [.int V.1,iN V.2])∧V.2≠0∧val V=shr s p∧Bt 11220 V
theorem ShO.mono{H H':Hp}(sm:Same H H'){s:State}{q:Addr}{p:Nat}(h:ShO H s q p):ShO H' s q p:=let⟨V,h1,h2⟩:=h;⟨V,sm _ _ h1,h2⟩
inductive J_share_of(T:TX K mg)(vs:List V)(H:Hp)(Q:VK):Prop
 |mk (a:Addr) (s:State) (p:Nat):vs=[.ref a]→TotO T H s a p→0<totT s p→totT s p≤3200→(∀H' q,Same H H'→H q=none→ShO H' s q p→Q (.ref q) H')→J_share_of T vs H Q
noncomputable def sp_share_of(T:TX K mg):Sp:=fun vs H Q _=>J_share_of T vs H Q
theorem ok_share_of(T:TX K mg):FnOk P w K mg base CX0 1 T.f_share_of.f T.f_share_of.fd ["total"] (sp_share_of T):=by
 refine okL T.f_share_of.F sc_share_of (fun vs H Q E h=>?_) (fun cdv A outer s H vs Q E hr h=>?_)
 rotate_left;intro Xc;rotate_left
 ·obtain⟨a,s,p,rfl,_⟩:=h
  rfl
 ·obtain⟨a,s,p,rfl,⟨dx,q,U,h1,h2,h3,h4,h5⟩,t1,t2,k⟩:=h
  have sq:SqT K H q [.int U.1,iN U.2]:=SqT.of h2
  refine⟨_,(pss_one (ps_ret (pe_tup (pa_cons (pe_ix ix_tup (pe_fld (pv 0) rfl) pe_int (fun _ _=>rfl)) (pa_cons (pe_op op_mulB (pe_ix ix_tup (pe_fld (pv 0) rfl) pe_int (fun _ _=>rfl)) (pe_fld (pv 0) rfl)) pa_nil))))),?_⟩
  walk_at "v"
  refine⟨⟨11200,12,by rw[Int.natAbs_natCast];exact h5.2,by rw[Int.natAbs_natCast];omega,by omega⟩,?_⟩
  refine⟨nle0 rfl,fun t nt=>?_⟩
  refine k _ t (same_new nt) nt ⟨(U.1,U.2*totT s p),?_,Nat.mul_ne_zero h3 (by omega),?_,?_⟩
  ·rw[upd_same]
   show some (HO.tup [_,V.int ((U.2:Int)*(totT s p:Int))])=_
   rw[←Int.natCast_mul]
  ·rw[val_share h3 t1,h4]
   rfl
  ·have b:=h5.times (n:=12) (a:=1) (b:=totT s p) (by omega) (by omega)
   rw[show(U.1*((1:Nat):Int),U.2*totT s p)=(U.1,U.2*totT s p) by simp]at b
   exact b.mono (by omega)
inductive J_percentage_of(T:TX K mg)(vs:List V)(H:Hp)(Q:VK):Prop
 |mk (q:Addr) (s:State) (p:Nat):vs=[.ref q]→ShO H s q p→(∀H',Same H H'→Q (.int (prc (shr s p))) H')→J_percentage_of T vs H Q
noncomputable def sp_percentage_of(T:TX K mg):Sp:=fun vs H Q _=>J_percentage_of T vs H Q
theorem ok_percentage_of(T:TX K mg):FnOk P w K mg base CX0 2 T.f_percentage_of.f T.f_percentage_of.fd ["share"] (sp_percentage_of T):=by
 refine okL T.f_percentage_of.F sc_percentage_of (fun vs H Q E h=>?_) (fun cdv A outer s H vs Q E hr h=>?_)
 rotate_left;intro Xc;rotate_left
 ·obtain⟨a,s,p,rfl,_⟩:=h
  rfl
 ·obtain⟨q,s,p,rfl,⟨V,h1,h2,h3,h4⟩,k⟩:=h
  have sq:SqT K H q [.int V.1,iN V.2]:=SqT.of h1
  refine⟨_,(pss_one (ps_ret (pe_call (ok_rounded T) (hr.mono (by decide)) rfl T.f_rounded.m T.f_rounded.F.kp T.f_rounded.b .nil pass0 (pa_cons (pe_tup (pa_cons (pe_op op_mulB pe_int (pe_ix ix_tup (pv 0) pe_int (fun _ _=>rfl))) (pa_cons (pe_ix ix_tup (pv 0) pe_int (fun _ _=>rfl)) pa_nil))) pa_nil)))),?_⟩
  walk_at "v"
  refine⟨⟨14,11220,by decide,h4.1,by omega⟩,?_⟩
  walk_at "v"
  refine⟨nle0 rfl,fun t nt=>?_⟩
  refine⟨t,10000*V.1,V.2,11240,rfl,upd_same,Nat.pos_of_ne_zero h2,?_,Nat.lt_of_lt_of_le h4.2 (Pts.pow_le (by omega)),by omega,?_⟩
  ·rw[Int.natAbs_mul]
   have:(2:Nat) ^ 11240=2 ^ 20*2 ^ 11220:=by rw[←Nat.pow_add]
   rw[this]
   have h5:=h4.1
   calc (10000:Int).natAbs*V.1.natAbs<(10000:Int).natAbs*2 ^ 11220:=Nat.mul_lt_mul_of_pos_left h5 (by decide)
    _≤2 ^ 20*2 ^ 11220:=Nat.mul_le_mul_right _ (by decide)
  ·rw[round_val h2,h3]
   exact k _ (same_new nt)
noncomputable def rnk(s:State)(L:List Nat)(p:Nat):Nat:=1+(L.filter fun p'=>decide (shr s p<shr s p')).length
inductive J_rank_of(T:TX K mg)(vs:List V)(H:Hp)(Q:VK):Prop
 |mk (q D:Addr) (qs:List Addr) (s:State) (p:Nat) (L:List Nat):vs=[.ref q,.ref D]→ShO H s q p→H D=some (.lst (qs.map V.ref))→Paired (ShO H s) qs L→L.length≤1000→(∀H',Same H H'→Q (iN (rnk s L p)) H')→J_rank_of T vs H Q
noncomputable def sp_rank_of(T:TX K mg):Sp:=fun vs H Q _=>J_rank_of T vs H Q
theorem ok_rank_of(T:TX K mg):FnOk P w K mg base CX0 2 T.f_rank_of.f T.f_rank_of.fd ["share","shares"] (sp_rank_of T):=by
 refine okL T.f_rank_of.F sc_rank_of (fun vs H Q E h=>?_) (fun cdv A outer s H vs Q E hr h=>?_)
 rotate_left;intro Xc;rotate_left
 ·obtain⟨a,D,qs,s,p,L,rfl,_⟩:=h
  rfl
 ·obtain⟨q,D,qs,s,p,L,rfl,⟨Y,h1,h2,h3,h4⟩,hD,pq,hL,k⟩:=h
  have lq:=Paired.length pq
  refine⟨_,(pss_one (ps_ret (pe_op op_add pe_int (pe_callB call_len_seq (by rfl) T.n_len PySem.boot_len (pa_cons (pe_lc rfl sc_rank_of.nd (pi_list (pv 1)) (blkOk_by (own:=[("other",2)]) (by rfl)) (fun _ _ _ _ _=>(pg_name (i:=2) sc_rank_of.nd rfl (by walk_at "or"))) (fun _ _ _ _ _=>(pts_one (pt_val (pe_callA (ok_is_greater T) (hr.mono (by decide)) T.f_is_greater.m T.f_is_greater.F.kp T.f_is_greater.b .nil pass0 (pa_cons (pv 2) (pa_cons (pv 0) pa_nil)))))) (fun _ _ _ _ _=>(pv 2))) pa_nil))))),?_⟩
  walk_at "v"
  refine⟨⟨_,SqL.of hD⟩,fun D2 nD2=>?_⟩
  refine lc_list (K:=K) (xs:=qs.map V.ref) (fun i H'=>∃os:List Addr,H'=upd H D2 (.lst (os.map V.ref))∧os.length=((L.take i).filter fun p'=>decide (shr s p<shr s p')).length) ⟨[],rfl,rfl⟩ (fun i H' _ ⟨os,e,_⟩=>by rw[e];exact(same_new nD2).seq (SqL.of hD)) ?_ ?_
  ·rintro i v H' hi ⟨os,rfl,hlo⟩
   obtain⟨d,p',hd,hp',rfl,W,w1,w2,w3,w4⟩:=paired_at pq hi
   have sm:Same H (upd H D2 (.lst (os.map V.ref))):=same_new nD2
   have hil:i<L.length:=(List.getElem?_eq_some_iff.mp hp').1
   have hol:os.length≤i:=by
    rw[hlo]
    refine Nat.le_trans (List.length_filter_le _ _) ?_
    rw[List.length_take]
    omega
   refine⟨rfl,?_⟩
   walk_at "v"
   refine⟨d,q,W.1,Y.1,W.2,Y.2,11220,11220,rfl,sm _ _ w1,sm _ _ h1,w4.1,w4.2,h4.1,h4.2,by omega,?_⟩
   have hg:decide (Y.1*(W.2:Int)<W.1*(Y.2:Int))=decide (shr s p<shr s p'):=by
    rw[←h3,←w3]
    exact decide_eq_decide.mpr (greater_val w2 h2)
   rw[hg]
   refine⟨_,rfl,ite2 (fun h=>?_) (fun h=>?_)⟩
   ·refine⟨_,rfl,_,upd_same,by rw[List.length_map];exact small1000 (by omega),os++[d],by rw[upd_upd,List.map_append];rfl,?_⟩
    rw[take_snoc hp',List.filter_append,List.length_append,List.length_append,hlo,List.filter_cons_of_pos (p:=fun p'=>decide (shr s p<shr s p')) h]
    rfl
   ·refine⟨os,rfl,?_⟩
    rw[take_snoc hp',List.filter_append,List.filter_cons_of_neg (p:=fun p'=>decide (shr s p<shr s p')) h]
    simpa using hlo
  ·rintro H' ⟨os,rfl,hlo⟩
   rw[List.length_map,lq,List.take_length]at hlo
   refine⟨D2,_,rfl,.inl (SqL.of upd_same),?_⟩
   walk_at "v"
   rw[List.length_map,hlo]
   have:=k _ (same_new (o:=.lst (os.map V.ref)) nD2)
   unfold rnk iN at this
   rw[Int.natCast_add]at this
   exact this
end
end
section
open Vbbraj (State Sitting)
open Sti (SInv Srt)
open Pts (Sml Bt plusU)
open Mth (val canon sumR brings broR brTop totR totT cn adjR ptsR shr cast_pos inPairs bef inS)
noncomputable def rowI(s:State)(L:List Nat)(p:Nat):I3:=((rnk s L p:Int),(p:Int),prc (shr s p))
theorem filter_lt{α:Type}{f g:α→Bool}:∀{L:List α} {q:α},(∀x∈L,f x=true→g x=true)→q∈L→f q=false→g q=true→(L.filter f).length<(L.filter g).length
 |[],q,_,h,_,_=>by cases h
 |x::L,q,hs,hq,h1,h2=>by
  have le:∀M:List α,(∀y∈M,f y=true→g y=true)→(M.filter f).length≤(M.filter g).length:=by
   intro M
   induction M with
   |nil=>intro _;simp
   |cons y M ih=>
    intro hM
    have:=ih fun z hz=>hM z (by simp[hz])
    by_cases a:f y=true
    ·rw[List.filter_cons_of_pos a,List.filter_cons_of_pos (hM y (by simp) a)]
     simpa using this
    ·rw[List.filter_cons_of_neg a]
     by_cases b:g y=true
     ·rw[List.filter_cons_of_pos b,List.length_cons]
      omega
     ·rw[List.filter_cons_of_neg b]
      exact this
  have rest:=fun z (hz:z∈L)=>hs z (by simp[hz])
  rcases List.mem_cons.mp hq with rfl|hq
  ·rw[List.filter_cons_of_neg (by rw[h1];simp),List.filter_cons_of_pos h2,List.length_cons]
   have:=le L rest
   omega
  ·have ih:=filter_lt rest hq h1 h2
   by_cases a:f x=true
   ·rw[List.filter_cons_of_pos a,List.filter_cons_of_pos (hs x (by simp) a),List.length_cons,List.length_cons]
    omega
   ·rw[List.filter_cons_of_neg a]
    by_cases b:g x=true
    ·rw[List.filter_cons_of_pos b,List.length_cons]
     omega
    ·rw[List.filter_cons_of_neg b]
     exact ih
theorem rnk_lt{s:State}{L:List Nat}{p q:Nat}(hq:q∈L)(h:shr s p<shr s q):rnk s L q<rnk s L p:=by
 have:=filter_lt (f:=fun p'=>decide (shr s q<shr s p')) (g:=fun p'=>decide (shr s p<shr s p')) (L:=L) (q:=q) (fun x _ hx=>by
  have:shr s q<shr s x:=by simpa using hx
  simp only[decide_eq_true_eq]
  grind) hq (by simp[Rat.lt_irrefl]) (by simpa using h)
 unfold rnk
 omega
theorem row_bef{s:State}{L:List Nat}{p q:Nat}(hp:p∈L)(hq:q∈L)(hne:p≠q)(h:lt3 (rowI s L q) (rowI s L p)=false):bef s p q:=by
 rcases Mth.bef_total (s:=s) hne with b|b
 ·exact b
 ·exfalso
  have:lt3 (rowI s L q) (rowI s L p)=true:=by
   rcases b with b|⟨b1,b2⟩
   ·have:=rnk_lt hq b
    have h:(rowI s L q).1<(rowI s L p).1:=by
     show(rnk s L q:Int)<(rnk s L p:Int)
     omega
    simp[lt3,h]
   ·have e:rnk s L q=rnk s L p:=by unfold rnk;rw[b1]
    simp only[lt3,rowI,e,Bool.or_eq_true,Bool.and_eq_true,Bool.not_eq_true',decide_eq_true_eq,decide_eq_false_iff_not]
    right
    exact⟨by omega,.inl (by omega)⟩
  rw[h]at this
  cases this
theorem stand_eq{s:State}(si:SInv s){l:List Nat}(hp:l.Perm (inPairs s))(ho:l.Pairwise fun p q=>lt3 (rowI s (inPairs s) q) (rowI s (inPairs s) p)=false):flat3 (Vbbraj.standings s)=l.flatMap fun p=>[(rnk s (inPairs s) p:Int),(p:Int),prc (shr s p)]:=by
 have nd:l.Nodup:=hp.nodup_iff.mpr (Mth.inPairs_nodup s)
 have mem:∀p∈l,p∈inPairs s:=fun p h=>hp.mem_iff.mp h
 have hb:l.Pairwise (bef s):=by
  refine List.Pairwise.imp_of_mem ?_ (ho.and nd)
  rintro p q h1 h2 ⟨h3,h4⟩
  exact row_bef (mem p h1) (mem q h2) h4 h3
 have er:=Mth.ranked_eq si.ti hp hb
 have inl:=Mth.inPairs_in si.ti
 unfold Vbbraj.standings flat3
 simp only[er]
 have gen:∀m:List Nat,(∀p∈m,p∈l)→((m.map fun p=>((l.filter fun q=>Vbbraj.ahead s q p).length+1,p,Vbbraj.percent s p)).flatMap fun x=>[(x.1:Int),(x.2.1:Int),x.2.2])=m.flatMap fun p=>[(rnk s (inPairs s) p:Int),(p:Int),prc (shr s p)]:=by
  intro m
  induction m with
  |nil=>intro _;rfl
  |cons p m ih=>
   intro hm
   rw[List.map_cons,List.flatMap_cons,List.flatMap_cons,ih fun q hq=>hm q (by simp[hq])]
   congr 1
   have ip:=inl p (mem p (hm p (by simp)))
   have e1:(l.filter fun q=>Vbbraj.ahead s q p).length+1=rnk s (inPairs s) p:=by
    have a:l.filter (fun q=>Vbbraj.ahead s q p)=l.filter fun q=>decide (shr s p<shr s q):=List.filter_congr fun q hq=>by
     have iq:=inl q (mem q hq)
     exact Mth.ahead_eq si.ti iq.1 iq.2.1 ip.1 ip.2.1 iq.2.2 ip.2.2
    rw[a,(hp.filter _).length_eq]
    unfold rnk
    omega
   have e2:Vbbraj.percent s p=prc (shr s p):=Mth.percent_eq si.ti ip.1 ip.2.1 ip.2.2
   rw[e1,e2]
 exact gen l fun _ h=>h
theorem sorted_rows{f:Nat→I3}{rs:List Addr}{L:List Nat}{G:Addr→Nat→Prop}(p:Paired G rs L){qs:List (I3×Addr)}(hp:qs.Perm ((L.map f).zip rs)):∃l:List Nat,l.Perm L∧Paired G (qs.map (·.2)) l∧qs.map (·.1)=l.map f:=by
 have e:∀{rs:List Addr} {L:List Nat},Paired G rs L→(L.map f).zip rs=(rs.zip L).map (fun q=>(f q.2,q.1))∧(rs.zip L).map (·.2)=L∧∀q∈rs.zip L,G q.1 q.2:=by
  intro rs L p
  induction p with
  |nil=>exact⟨rfl,rfl,fun q h=>by cases h⟩
  |cons g _ ih=>
   obtain⟨i1,i2,i3⟩:=ih
   refine⟨?_,?_,fun q h=>?_⟩
   ·simp[i1]
   ·simp[i2]
   ·rcases List.mem_cons.mp h with rfl|h
    ·exact g
    ·exact i3 q h
 obtain⟨e1,e2,e3⟩:=e p
 obtain⟨M,pm,rfl⟩:=perm_map hp _ e1
 refine⟨M.map (·.2),?_,?_,?_⟩
 ·have:=pm.map (·.2)
  rwa[e2]at this
 ·have:∀q∈M,G q.1 q.2:=fun q hq=>e3 q (pm.mem_iff.mp hq)
  clear pm hp
  induction M with
  |nil=>exact .nil
  |cons q M ih=>exact .cons (this q (by simp)) (ih fun z hz=>this z (by simp[hz]))
 ·rw[List.map_map,List.map_map]
  rfl
theorem paired_map{α β γ:Type}{G:α→γ→Prop}{f:β→γ}{l:List α}{m:List β}(h:Paired (fun a b=>G a (f b)) l m):Paired G l (m.map f):=by
 induction h with
 |nil=>exact .nil
 |cons g _ ih=>exact .cons g ih
theorem wo_upd{a:Addr}{H:Hp}{o:HO}:wo a (upd H a o)=wo a H:=by
 funext c
 unfold wo
 split
 ·rfl
 ·rename_i h
  rw[upd_ne h]
theorem wo_mono{a:Addr}{H H':Hp}(sm:Same H H'):Same (wo a H) (wo a H'):=fun c o h=>by
 obtain⟨h1,h2⟩:=wo_of h
 exact wo_at h1 (sm _ _ h2)
theorem wo_sub{a:Addr}{H:Hp}:Same (wo a H) H:=fun c o h=>(wo_of h).2
section
variable {P:Program}{w:World}{K:PySem.W.Frag}{mg:Str→Option Value}{base:Heap}
inductive J_standings(T:TX K mg)(vs:List V)(H:Hp)(Q:VK):Prop
 |mk (A:EvA) (s:State) (c:Nat) (Z:Addr→Bool):vs=[.ref A.p]→EvO T Z H s c A→SInv s→Bnd s→(∀(H':Hp) (y:Addr),Same H H'→H y=none→H' y=some (.lst ((flat3 (Vbbraj.standings s)).map V.int))→Q (.ref y) H')→J_standings T vs H Q
noncomputable def sp_standings(T:TX K mg):Sp:=fun vs H Q _=>J_standings T vs H Q
theorem ok_standings(T:TX K mg):FnOk P w K mg base CX0 4 T.f_standings.f T.f_standings.fd ["event"] (sp_standings T):=by
 refine okL T.f_standings.F sc_standings (fun vs H Q E h=>?_) (fun cdv A outer s H vs Q E hr h=>?_)
 rotate_left;intro Xc;rotate_left
 ·obtain⟨A,s,c,Z,rfl,_⟩:=h
  rfl
 ·obtain⟨B,s,c,Z,rfl,ev,si,bd,k⟩:=h
  obtain⟨dp,hp⟩:=ev.hp
  have hp40:=si.p2
  refine⟨_,(pss_cons (ps_setLc (i:=1) rfl sc_standings.nd rfl rfl (sw_true rfl rfl rfl rfl) (pi_range2 rfl T.n_range (pa_cons pe_int (pa_cons (pe_op op_add (pe_fld (pv 0) rfl) pe_int) pa_nil))) (blkOk_by (own:=[("pair",2)]) (by rfl)) (fun _ _ _ _ _=>(pg_name (i:=2) sc_standings.nd rfl (by walk_at "or"))) (fun _ _ _ _ _=>pts_nil) (fun _ _ _ _ _=>(pe_callA (ok_total_of T) (hr.mono (by decide)) T.f_total_of.m T.f_total_of.F.kp T.f_total_of.b .nil pass0 (pa_cons (pv 0) (pa_cons (pv 2) pa_nil))))) (pss_cons (ps_setLc (i:=3) rfl sc_standings.nd rfl rfl (sw_true rfl rfl rfl rfl) (pi_list (pv 1)) (blkOk_by (own:=[("total",4)]) (by rfl)) (fun _ _ _ _ _=>(pg_name (i:=4) sc_standings.nd rfl (by walk_at "or"))) (fun _ _ _ _ _=>(pts_one (pt_cmpR op_ne (pe_fldC K (pv 4)) pe_int (nomark _)))) (fun _ _ _ _ _=>(pv 4))) (pss_cons (ps_set (i:=5) sc_standings.nd rfl (Or.inr rfl) (pe_lc rfl sc_standings.nd (pi_list (pv 3)) (blkOk_by (own:=[("total",4)]) (by rfl)) (fun _ _ _ _ _=>(pg_name (i:=4) sc_standings.nd rfl (by walk_at "or"))) (fun _ _ _ _ _=>pts_nil) (fun _ _ _ _ _=>(pe_callA (ok_share_of T) (hr.mono (by decide)) T.f_share_of.m T.f_share_of.F.kp T.f_share_of.b .nil pass0 (pa_cons (pv 4) pa_nil))))) (pss_cons (ps_setLc (i:=6) rfl sc_standings.nd rfl rfl (sw_true rfl rfl rfl rfl) (pi_zip rfl T.n_zip (pa_cons (pv 3) (pa_cons (pv 5) pa_nil))) (blkOk_by (own:=[("total",4),("share",7)]) (by rfl)) (fun _ _ _ _ _=>(pg_tupC (n:=2) K rfl (pgs_cons (pg_name (i:=4) sc_standings.nd rfl (by walk_at "or")) (pgs_cons (pg_name (i:=7) sc_standings.nd rfl (by walk_at "or")) pgs_nil)))) (fun _ _ _ _ _=>pts_nil) (fun _ _ _ _ _=>(pe_tup (pa_cons (pe_callA (ok_rank_of T) (hr.mono (by decide)) T.f_rank_of.m T.f_rank_of.F.kp T.f_rank_of.b .nil pass0 (pa_cons (pv 7) (pa_cons (pv 5) pa_nil))) (pa_cons (pe_fldC K (pv 4)) (pa_cons (pe_callA (ok_percentage_of T) (hr.mono (by decide)) T.f_percentage_of.m T.f_percentage_of.F.kp T.f_percentage_of.b .nil pass0 (pa_cons (pv 7) pa_nil)) pa_nil)))))) (pss_cons (ps_set (i:=8) sc_standings.nd rfl (by walk_at "or") (pe_lst pa_nil)) (pss_cons (ps_for PassesOwn.never rfl (pi_list (pe_callB cr_sort3 (by rfl) T.n_sorted boot_sorted (pa_cons (pv 6) pa_nil))) (pg_name (i:=9) sc_standings.nd rfl (by walk_at "or")) (pss_one (ps_expr (pe_bm PySem.F.plainAttrs_list PySem.F.slot_list_extend PySem.F.type_list_extend mt_extendT (pv 8) (pa_cons (pv 9) pa_nil))))) (pss_one (ps_ret (pv 8))))))))),?_⟩
  walk_at "v"
  refine⟨_,_,rfl,⟨by decide,by decide,by omega,by omega⟩,?_⟩
  rw[show((s.pairs:Int)+1-1).toNat=s.pairs by omega]
  intro D nD
  refine lc_range (fun i H'=>Same H H'∧∃as:List Addr,H' D=some (.lst (as.map V.ref))∧as.length=i∧Paired (TotO T (wo D H') s) as ((List.range i).map fun k=>k+1)) ⟨same_new nD,[],upd_same,rfl,.nil⟩ ?_ ?_
  ·rintro i H' hi ⟨sm,as,hD,hla,pa⟩
   refine⟨rfl,?_⟩
   walk_at "v"
   refine⟨B,s,c,Z,i+1,by rw[show iN (i+1)=V.int (1+(i:Int)) by(show V.int _=V.int _;congr 1;omega)];rfl,ev.grow sm,si,bd,by omega,by omega,fun H1 a sm1 to=>?_⟩
   have hD1:=sm1 _ _ hD
   refine⟨_,hD1,by rw[List.length_map];exact small1000 (by omega),fun z o hz=>?_,as++[a],by rw[upd_same,List.map_append];rfl,by rw[List.length_append,hla];rfl,?_⟩
   ·rw[upd_ne (ne_of_none hz nD)]
    exact sm1 _ _ (sm _ _ hz)
   ·rw[wo_upd,List.range_succ,List.map_append]
    refine paired_append (Paired.mapP pa fun _ _ z=>z.mono (wo_mono sm1)) (.cons ?_ .nil)
    obtain⟨dx,q,U,h1,h2,h3⟩:=to
    exact⟨dx,q,U,wo_at (ne_of h1 hD1 (fun z=>nomatch z)) h1,wo_at (ne_of h2 hD1 (fun z=>nomatch z)) h2,h3⟩
  ·rintro H1 ⟨sm1,as,hD,hla,pa⟩
   have pa:Paired (TotO T H1 s) as ((List.range s.pairs).map fun k=>k+1):=Paired.mapP pa fun _ _ z=>z.mono wo_sub
   have hipl:inPairs s=((List.range s.pairs).map fun k=>k+1).filter fun p=>decide (0<totT s p):=by
    unfold inPairs
    refine List.filter_congr fun p hp=>?_
    obtain⟨k,hk,rfl⟩:=List.mem_map.mp hp
    have:=List.mem_range.mp hk
    rw[Mth.topOf_eq si.ti (by omega) (by omega)]
   have iin:=Mth.inPairs_in si.ti
   have ilen:(inPairs s).length≤40:=by
    rw[hipl]
    refine Nat.le_trans (List.length_filter_le _ _) ?_
    rw[List.length_map,List.length_range]
    exact hp40
   refine⟨_,rfl,D,rfl,⟨_,SqL.of hD⟩,fun D2 nD2=>?_⟩
   refine lc_list (K:=K) (xs:=as.map V.ref) (fun i H'=>∃os:List Addr,H'=upd H1 D2 (.lst (os.map V.ref))∧os.length≤i∧Paired (TotO T H1 s) os ((((List.range s.pairs).map fun k=>k+1).take i).filter fun p=>decide (0<totT s p))) ⟨[],rfl,Nat.zero_le _,.nil⟩ (fun i H' _ ⟨os,e,_⟩=>by rw[e];exact(same_new nD2).seq (SqL.of hD)) ?_ ?_
   ·rintro i v H' hi ⟨os,rfl,hlo,po⟩
    obtain⟨a,p,ha,hpi,rfl,to⟩:=paired_at pa hi
    have hil:i<as.length:=(List.getElem?_eq_some_iff.mp ha).1
    obtain⟨dx,q,U,h1,h2,h3⟩:=id to
    have h1':=same_new (o:=.lst (os.map V.ref)) nD2 _ _ h1
    refine⟨rfl,?_⟩
    walk_at "w"
    ·rename_i h
     have h:0<totT s p:=by
      simp only[Bool.not_eq_true',decide_eq_false_iff_not]at h
      exact Nat.pos_of_ne_zero fun z=>h (by rw[z];rfl)
     refine⟨_,upd_same,by rw[List.length_map];exact small1000 (by omega),os++[a],by rw[upd_upd,List.map_append];rfl,by rw[List.length_append];simp;omega,?_⟩
     rw[take_snoc hpi,List.filter_append,List.filter_cons_of_pos (by simpa using h)]
     exact paired_append po (.cons to .nil)
    ·rename_i h
     have h:totT s p=0:=by
      have:V.int ((totT s p:Nat):Int)=V.int 0:=by simpa using h
      have:=V.int.inj this
      omega
     refine⟨by omega,?_⟩
     rw[take_snoc hpi,List.filter_append,List.filter_cons_of_neg (by simp[h])]
     simpa using po
   ·rintro H' ⟨os,rfl,hlo,po⟩
    rw[List.length_map,Paired.length pa,List.take_length,←hipl]at po
    have lo:=Paired.length po
    generalize hG2:upd H1 D2 (.lst (os.map V.ref))=H2
    have sm2:Same H1 H2:=by rw[←hG2];exact same_new nD2
    have hD2:H2 D2=some (.lst (os.map V.ref)):=by rw[←hG2];exact upd_same
    clear hG2
    have po:Paired (TotO T H2 s) os (inPairs s):=Paired.mapP po fun _ _ z=>z.mono sm2
    refine⟨_,rfl,D2,rfl,⟨_,SqL.of hD2⟩,fun D3 nD3=>?_⟩
    refine lc_list (K:=K) (xs:=os.map V.ref) (fun i H'=>Same H2 H'∧∃qs:List Addr,H' D3=some (.lst (qs.map V.ref))∧qs.length≤i∧Paired (ShO (wo D3 H') s) qs ((inPairs s).take i)) ⟨same_new nD3,[],upd_same,Nat.zero_le _,.nil⟩ (fun i H' _ ⟨sm,_⟩=>SqL.of (sm _ _ hD2)) ?_ ?_
    ·rintro i v H' hi ⟨sm,qs,hD3,hlq,pq⟩
     obtain⟨a,p,ha,hpi,rfl,to⟩:=paired_at po hi
     have hil:i<os.length:=(List.getElem?_eq_some_iff.mp ha).1
     have ip:=iin p (List.mem_of_getElem? hpi)
     refine⟨rfl,?_⟩
     walk_at "v"
     refine⟨a,s,p,rfl,to.mono sm,ip.2.2,totT_le si bd p,fun H3 t sm3 nt sh=>?_⟩
     have hD33:=sm3 _ _ hD3
     refine⟨_,hD33,by rw[List.length_map];exact small1000 (by omega),fun z o hz=>?_,qs++[t],by rw[upd_same,List.map_append];rfl,by rw[List.length_append];simp;omega,?_⟩
     ·rw[upd_ne (ne_of_none hz nD3)]
      exact sm3 _ _ (sm _ _ hz)
     ·rw[wo_upd,take_snoc hpi]
      refine paired_append (Paired.mapP pq fun _ _ z=>z.mono (wo_mono sm3)) (.cons ?_ .nil)
      obtain⟨U,h1,h2⟩:=sh
      exact⟨U,wo_at (ne_of h1 hD33 (fun z=>nomatch z)) h1,h2⟩
    ·rintro H3 ⟨sm3,qs,hD3,hlq,pq⟩
     rw[List.length_map,lo,List.take_length]at pq
     have lq:=Paired.length pq
     have pq:Paired (ShO H3 s) qs (inPairs s):=Paired.mapP pq fun _ _ z=>z.mono wo_sub
     have po:Paired (TotO T H3 s) os (inPairs s):=Paired.mapP po fun _ _ z=>z.mono sm3
     walk_at "v"
     refine⟨D2,D3,_,_,rfl,SqL.of (sm3 _ _ hD2),SqL.of hD3,fun D4 nD4=>?_⟩
     refine lc_it (n:=(inPairs s).length) (fun i H'=>Same H3 H'∧∃rs:List Addr,H' D4=some (.lst (rs.map V.ref))∧rs.length≤i∧Paired (fun r p=>wo D4 H' r=some (.tup (row3 (rowI s (inPairs s) p)))) rs ((inPairs s).take i)) ⟨same_new nD4,[],upd_same,Nat.zero_le _,.nil⟩ ?_ ?_ ?_ ?_
     ·rintro i H' hi ⟨sm,_⟩
      exact⟨os.map V.ref,qs.map V.ref,_,_,SqL.of ((sm3.trans sm) _ _ hD2),SqL.of (sm _ _ hD3),List.getElem?_eq_getElem (by rw[List.length_map];omega),List.getElem?_eq_getElem (by rw[List.length_map];omega)⟩
     ·rintro H' ⟨sm,_⟩
      exact⟨os.map V.ref,qs.map V.ref,SqL.of ((sm3.trans sm) _ _ hD2),SqL.of (sm _ _ hD3),.inl (by rw[List.length_map];omega)⟩
     ·rintro i v H4 H5 hi ⟨sm,rs,hD4,hlr,pr⟩ ⟨t,x,y,rfl,nt,rfl,hx,hy⟩
      have hx:=hx _ (SqL.of ((sm3.trans sm) _ _ hD2))
      have hy:=hy _ (SqL.of (sm _ _ hD3))
      obtain⟨a,p,ha,hpi,rfl,to⟩:=paired_at po hx
      obtain⟨q,p',hq,hpi',rfl,sh⟩:=paired_at pq hy
      rw[hpi]at hpi'
      cases hpi'
      have st:Same H4 (upd H4 t (.tup [.ref a,.ref q])):=same_new nt
      refine⟨t,_,rfl,SqT.of upd_same,rfl,_,_,rfl,_,_,rfl,rfl,rfl,?_⟩
      generalize upd H4 t (.tup [.ref a,.ref q])=G at st ⊢
      have sG:=sm.trans st
      walk_at "v"
      refine⟨q,D3,qs,s,p,inPairs s,rfl,sh.mono sG,sG _ _ hD3,Paired.mapP pq fun _ _ z=>z.mono sG,by omega,fun G1 sm4=>?_⟩
      have s1:=sG.trans sm4
      obtain⟨dx,qq,U,h1,_⟩:=to.mono s1
      walk_at "v"
      refine⟨q,s,p,rfl,sh.mono s1,fun G2 sm5=>?_⟩
      refine⟨nle0 rfl,fun r nr=>?_⟩
      have sr:Same G2 (upd G2 r (.tup (row3 (rowI s (inPairs s) p)))):=same_new nr
      have hr:upd G2 r (.tup (row3 (rowI s (inPairs s) p))) r=some (.tup (row3 (rowI s (inPairs s) p))):=upd_same
      have s2:Same H4 (upd G2 r (.tup (row3 (rowI s (inPairs s) p)))):=((st.trans sm4).trans sm5).trans sr
      have hD44:=s2 _ _ hD4
      refine⟨_,hD44,by rw[List.length_map];exact small1000 (by omega),fun z o hz=>?_,rs++[r],by rw[upd_same,List.map_append];rfl,by rw[List.length_append];simp;omega,?_⟩
      ·rw[upd_ne (ne_of_none hz nD4)]
       exact s2 _ _ (sm _ _ hz)
      ·rw[take_snoc hpi]
       refine paired_append (Paired.mapP pr fun _ _ z=>?_) (.cons ?_ .nil)
       ·show wo D4 (upd _ D4 _) _=_
        rw[wo_upd]
        exact wo_mono s2 _ _ z
       ·show wo D4 (upd _ D4 _) r=_
        rw[wo_upd]
        exact wo_at (ne_of hr hD44 (fun z=>nomatch z)) hr
     ·rintro H4 ⟨sm4,rs,hD4,hlr,pr⟩
      rw[List.take_length]at pr
      have pr:Paired (fun r p=>H4 r=some (.tup (row3 (rowI s (inPairs s) p)))) rs (inPairs s):=Paired.mapP pr fun _ _ z=>(wo_of z).2
      have lr:=Paired.length pr
      have sH4:Same H H4:=((sm1.trans sm2).trans sm3).trans sm4
      walk_at "v"
      refine⟨nle0 rfl,fun y ny=>?_⟩
      have sy:Same H4 (upd H4 y (.lst [])):=same_new ny
      have hy:upd H4 y (.lst []) y=some (.lst []):=upd_same
      generalize upd H4 y (.lst [])=H5 at sy hy ⊢
      walk_at "v"
      refine⟨D4,rs,(inPairs s).map (rowI s (inPairs s)),rfl,SqL.of (sy _ _ hD4),?_,fun ks D5 nD5 pm pw=>?_⟩
      ·have:Paired (fun r p=>SqT K H5 r (row3 (rowI s (inPairs s) p))) rs (inPairs s):=Paired.mapP pr fun _ _ z=>SqT.of (sy _ _ z)
       exact paired_map (G:=fun p k=>SqT K H5 p (row3 k)) this
      obtain⟨l,lp,lg,lk⟩:=sorted_rows (f:=rowI s (inPairs s)) pr pm
      have ho:l.Pairwise fun p q=>lt3 (rowI s (inPairs s) q) (rowI s (inPairs s) p)=false:=by
       have h1:(ks.map (·.1)).Pairwise (fun x y=>lt3 y x=false):=List.pairwise_map.mpr pw
       rw[lk]at h1
       exact List.pairwise_map.mp h1
      have se:=stand_eq si lp ho
      have ll:=Paired.length lg
      have s5:Same H5 (upd H5 D5 (.lst (ks.map fun q=>V.ref q.2))):=same_new nD5
      have hD5:upd H5 D5 (.lst (ks.map fun q=>V.ref q.2)) D5=some (.lst ((ks.map (·.2)).map V.ref)):=by rw[upd_same,List.map_map];rfl
      have yD:y≠D5:=ne_of_none hy nD5
      have hl40:l.length≤40:=by rw[lp.length_eq];exact ilen
      have hyn:H y=none:=sH4.free ny
      generalize upd H5 D5 (.lst (ks.map fun q=>V.ref q.2))=H6 at s5 hD5 ⊢
      have s46:Same H4 H6:=sy.trans s5
      refine⟨D5,rfl,⟨_,SqL.of hD5⟩,?_⟩
      refine for_list (K:=K) (xs:=(ks.map (·.2)).map V.ref) (fun i σ H'=>(∀c o,c≠y→H6 c=some o→H' c=some o)∧H' y=some (.lst (((l.take i).flatMap fun p=>[(rnk s (inPairs s) p:Int),(p:Int),prc (shr s p)]).map V.int))∧∃u9,σ=[some (.ref B.p),some (.ref D),none,some (.ref D2),none,some (.ref D3),some (.ref D4),none,some (.ref y),u9]) ⟨fun _ _ _ h=>h,s5 _ _ hy,none,rfl⟩ (fun i σ H' _ ⟨sm,_⟩=>SqL.of (sm _ _ yD.symm hD5)) ?_ ?_
      ·rintro i v σ H' hi ⟨sm,hyy,u9,rfl⟩
       obtain⟨d,p,hd,hpi,rfl,gd⟩:=paired_at lg hi
       have hyd:d≠y:=fun z=>by
        rw[z]at gd
        rw[gd]at ny
        cases ny
       have sqd:SqT K H' d (row3 (rowI s (inPairs s) p)):=SqT.of (sm _ _ hyd (s46 _ _ gd))
       refine⟨_,rfl,.inl ⟨rfl,_,SqL.of hyy⟩,?_⟩
       walk_at "v"
       refine⟨y,d,_,_,rfl,rfl,hyy,sqd,?_,?_⟩
       ·have:=flat_len (n:=3) (f:=fun p=>[(rnk s (inPairs s) p:Int),(p:Int),prc (shr s p)]) (fun _=>rfl) (l.take i)
        have h2:(l.take i).length≤40:=by rw[List.length_take];omega
        rw[List.length_map]
        refine big6 ?_
        show _+3≤_
        omega
       ·refine⟨fun c o hc h6=>?_,?_,some (.ref d),rfl⟩
        ·rw[upd_ne hc]
         exact sm c o hc h6
        ·rw[upd_same,take_snoc hpi,List.flatMap_append,List.map_append]
         rfl
      ·rintro σ H' ⟨sm,hyy,u9,rfl⟩
       rw[List.length_map,ll,List.take_length,←se]at hyy
       refine⟨_,rfl,k _ y (fun c o hc=>sm c o (ne_of_none hc hyn) (s46 _ _ (sH4 _ _ hc))) hyn hyy⟩
end
end
section
open Vbbraj (State Sitting)
open Sti (SInv Srt)
open Pts (Sml Bt plusU)
open Mth (val canon totT ptsR shr)
section
variable {P:Program}{w:World}{K:PySem.W.Frag}{mg:Str→Option Value}{base:Heap}
inductive J_total_answer(T:TX K mg)(vs:List V)(H:Hp)(Q:VK):Prop
 |mk (A:EvA) (s:State) (c:Nat) (Z:Addr→Bool) (p:Nat):vs=[.ref A.p,iN p]→EvO T Z H s c A→SInv s→Bnd s→1≤p→Post T Z H A s c (Vbbraj.act s (.total p)).2 Q→J_total_answer T vs H Q
noncomputable def sp_total_answer(T:TX K mg):Sp:=fun vs H Q _=>J_total_answer T vs H Q
theorem ok_total_answer(T:TX K mg):FnOk P w K mg base CX0 4 T.f_total_answer.f T.f_total_answer.fd ["event","pair"] (sp_total_answer T):=by
 refine okL T.f_total_answer.F sc_total_answer (fun vs H Q E h=>?_) (fun cdv A outer s H vs Q E hr h=>?_)
 rotate_left;intro Xc;rotate_left
 ·obtain⟨A,s,c,Z,p,rfl,_⟩:=h
  rfl
 ·obtain⟨B,s,c,Z,p,rfl,ev,si,bd,hp1,post⟩:=h
  refine⟨_,(pss_cons (ps_if (pt_not (pt_val (pe_call (ok_is_pair T) (hr.mono (by decide)) rfl T.f_is_pair.m T.f_is_pair.F.kp T.f_is_pair.b .nil pass0 (pa_cons (pv 0) (pa_cons (pv 1) pa_nil))))) (pss_one (ps_ret (pe_lst (pa_cons (pe_g rfl T.c_NO_SUCH_PAIR) pa_nil)))) pss_nil) (pss_cons (ps_set (i:=2) sc_total_answer.nd rfl (by walk_at "or") (pe_call (ok_total_of T) (hr.mono (by decide)) rfl T.f_total_of.m T.f_total_of.F.kp T.f_total_of.b .nil pass0 (pa_cons (pv 0) (pa_cons (pv 1) pa_nil)))) (pss_cons (ps_set (i:=3) sc_total_answer.nd rfl (by walk_at "or") (pe_call (ok_lowest T) (hr.mono (by decide)) rfl T.f_lowest.m T.f_lowest.F.kp T.f_lowest.b .nil pass0 (pa_cons (pe_fld (pv 2) rfl) pa_nil))) (pss_cons (ps_set (i:=4) sc_total_answer.nd rfl (by walk_at "or") (pe_lst (pa_cons pe_int (pa_cons (pe_ix ix_tup (pv 3) pe_int (fun _ _=>rfl)) (pa_cons (pe_ix ix_tup (pv 3) pe_int (fun _ _=>rfl)) (pa_cons (pe_fld (pv 2) rfl) pa_nil)))))) (pss_cons (ps_if (pt_cmpR op_ne (pe_fld (pv 2) rfl) pe_int (nomark _)) (pss_one (ps_expr (pe_bm PySem.F.plainAttrs_list PySem.F.slot_list_append PySem.F.type_list_append mt_append (pv 4) (pa_cons (pe_call (ok_percentage_of T) (hr.mono (by decide)) rfl T.f_percentage_of.m T.f_percentage_of.F.kp T.f_percentage_of.b .nil pass0 (pa_cons (pe_call (ok_share_of T) (hr.mono (by decide)) rfl T.f_share_of.m T.f_share_of.F.kp T.f_share_of.b .nil pass0 (pa_cons (pv 2) pa_nil)) pa_nil)) pa_nil)))) pss_nil) (pss_one (ps_ret (pv 4)))))))),?_⟩
  walk_at "v"
  refine⟨B,s,c,Z,p,rfl,ev,?_⟩
  refine⟨_,rfl,ite2 (fun h=>?_) (fun h=>?_)⟩
  ·have hact:(Vbbraj.act s (.total p)).2=[-5]:=by
    simp only[Vbbraj.act,Vbbraj.pairIn,Int.toNat_natCast]
    rw[if_pos (by simpa using h)]
   rw[hact]at post
   walk_at "v"
   exact⟨nle0 rfl,fun q nq=>post.same ev (Same.refl _) nq⟩
  have hp2:p≤s.pairs:=by simpa using h
  have hact:(Vbbraj.act s (.total p)).2=if totT s p=0 then[0,(ptsR s p).num,((ptsR s p).den:Int),0]else[0,(ptsR s p).num,((ptsR s p).den:Int),(totT s p:Int),prc (shr s p)]:=by
   simp only[Vbbraj.act,Vbbraj.pairIn,Int.toNat_natCast]
   rw[if_neg (by omega),Mth.topOf_eq si.ti hp1 hp2,Mth.total_eq si.ti hp1 hp2,Mth.frac_canon]
   by_cases h0:totT s p=0
   ·rw[if_pos h0,if_pos h0]
    rfl
   ·rw[if_neg h0,if_neg h0,Mth.percent_eq si.ti hp1 hp2 (Nat.pos_of_ne_zero h0)]
    rfl
  rw[hact]at post
  walk_at "v"
  refine⟨B,s,c,Z,p,rfl,ev,si,bd,hp1,hp2,fun H1 a sm1 to=>?_⟩
  obtain⟨dx,q,U,h1,h2,h3,h4,h5⟩:=id to
  walk_at "v"
  refine⟨q,U.1,U.2,11200,rfl,h2,Nat.pos_of_ne_zero h3,h5.1,h5.2,by omega,fun t nt=>?_⟩
  have el:Vbbrah.lowest (U.1,U.2)=((ptsR s p).num,(ptsR s p).den):=by
   rw[Mth.lowest_eq (f:=(U.1,U.2)) h3]
   show canon (val U)=_
   rw[h4]
   rfl
  rw[el]
  have st:Same H1 (upd H1 t (.tup [.int (ptsR s p).num,iN (ptsR s p).den])):=same_new nt
  have sqt:SqT K (upd H1 t (.tup [.int (ptsR s p).num,iN (ptsR s p).den])) t [.int (ptsR s p).num,iN (ptsR s p).den]:=SqT.of upd_same
  generalize upd H1 t (.tup [.int (ptsR s p).num,iN (ptsR s p).den])=G at st sqt ⊢
  have hG:=st _ _ h1
  have sG:=sm1.trans st
  walk_at "v"
  refine⟨nle0 rfl,fun y ny=>?_⟩
  have sy:Same G (upd G y (.lst [.int 0,.int (ptsR s p).num,iN (ptsR s p).den,iN (totT s p)])):=same_new ny
  have hy:upd G y (.lst [.int 0,.int (ptsR s p).num,iN (ptsR s p).den,iN (totT s p)]) y=some (.lst [.int 0,.int (ptsR s p).num,iN (ptsR s p).den,iN (totT s p)]):=upd_same
  generalize upd G y (.lst [.int 0,.int (ptsR s p).num,iN (ptsR s p).den,iN (totT s p)])=G2 at sy hy ⊢
  have hG2:=sy _ _ hG
  walk_at "v"
  refine ite2 (fun h0=>?_) (fun h0=>?_)
  ·have h0:totT s p≠0:=fun z=>by
    rw[z]at h0
    simp at h0
   rw[if_neg h0]at post
   refine⟨_,rfl,.inl ⟨rfl,_,SqL.of hy⟩,?_⟩
   walk_at "v"
   have to2:=to.mono (st.trans sy)
   refine⟨a,s,p,rfl,to2,Nat.pos_of_ne_zero h0,totT_le si bd p,fun H3 q3 sm3 nq3 sh=>?_⟩
   refine⟨q3,s,p,rfl,sh,fun H4 sm4=>?_⟩
   have s4:=sm3.trans sm4
   refine⟨y,_,_,rfl,rfl,s4 _ _ hy,small1000 (nle0 rfl),?_⟩
   have hyn:H y=none:=sG.free ny
   refine⟨_,rfl,post _ B y rfl (ev.grow ?_) (ev.zkeep ?_) upd_same⟩
   all_goals
    intro c o hc
    rw[upd_ne (ne_of_none hc hyn)]
    exact s4 _ _ (sy _ _ (sG _ _ hc))
  ·have h0:totT s p=0:=by
    have:V.int ((totT s p:Nat):Int)=V.int 0:=by simpa using h0
    have:=V.int.inj this
    omega
   rw[if_pos h0]at post
   rw[h0]at hy
   exact⟨_,rfl,post _ B y rfl (ev.grow (sG.trans sy)) (ev.zkeep (sG.trans sy)) hy⟩
theorem EvO.repost{T:TX K mg}{Z:Addr→Bool}{H:Hp}{s:State}{c:Nat}{A:EvA}{ps:List Addr}{l:List (List (Nat×Nat×Int))}(E:EvO T Z H s c A)(q1:Paired (PostO (hid A Z H)) ps l):EvO T Z (upd H A.post (.lst (ps.map V.ref))) { s with posted:=l } c A:=by
 have mem:A.post∈A.own:=by simp[EvA.own]
 have n1:=EvA.ne E.nd
 have hh:=hid_own (A:=A) (Z:=Z) (H:=H) (o:=.lst (ps.map V.ref)) mem
 obtain⟨dp,hp⟩:=E.hp
 obtain⟨as,hs,ps1⟩:=E.hs
 obtain⟨kvs,he,R⟩:=E.he
 obtain⟨ks,hk,S⟩:=E.hh
 obtain⟨ds,ha,J⟩:=E.ha
 obtain⟨qs,ho,o1⟩:=E.hq
 refine⟨E.nd,E.zo,fun d hd=>by rw[upd_ne (E.zne mem hd)];exact E.zt d hd,⟨dp,by rw[upd_ne n1.2.2.2.2.2.1];exact hp⟩,⟨as,by rw[upd_ne n1.2.2.2.2.2.2.2.2.2.2.1];exact hs,by rw[hh];exact ps1⟩,
  ⟨kvs,by rw[upd_ne n1.2.2.2.2.2.2.2.2.2.2.2.2.2.2.1];exact he,by rw[hh];exact⟨R.at_,R.key,R.inj,R.len⟩⟩,⟨ks,by rw[upd_ne n1.2.2.2.2.2.2.2.2.2.2.2.2.2.2.2.2.2.1];exact hk,by rw[hh];exact⟨S.at_,S.key,S.nd⟩⟩,
  ⟨ds,by rw[upd_ne n1.2.2.2.2.2.2.2.2.2.2.2.2.2.2.2.2.2.2.2.1];exact ha,J.at_,J.len⟩,⟨qs,by rw[upd_ne n1.2.2.2.2.2.2.2.2.2.2.2.2.2.2.2.2.2.2.2.2];exact ho,by rw[hh];exact o1⟩,⟨ps,upd_same,by rw[hh];exact q1⟩⟩
inductive J_post_answer(T:TX K mg)(vs:List V)(H:Hp)(Q:VK):Prop
 |mk (A:EvA) (s:State) (c:Nat) (Z:Addr→Bool):vs=[.ref A.p]→EvO T Z H s c A→SInv s→Bnd s→Post T Z H A (Vbbraj.act s .post).1 c (Vbbraj.act s .post).2 Q→J_post_answer T vs H Q
noncomputable def sp_post_answer(T:TX K mg):Sp:=fun vs H Q _=>J_post_answer T vs H Q
theorem ok_post_answer(T:TX K mg):FnOk P w K mg base CX0 5 T.f_post_answer.f T.f_post_answer.fd ["event"] (sp_post_answer T):=by
 refine okL T.f_post_answer.F sc_post_answer (fun vs H Q E h=>?_) (fun cdv A outer s H vs Q E hr h=>?_)
 rotate_left;intro Xc;rotate_left
 ·obtain⟨A,s,c,Z,rfl,_⟩:=h
  rfl
 ·obtain⟨B,s,c,Z,rfl,ev,si,bd,post⟩:=h
  obtain⟨dp,hp⟩:=ev.hp
  obtain⟨ps,ho,po⟩:=ev.ho
  have lp:=Paired.length po
  have sqo:SqL K H B.post (ps.map V.ref):=SqL.of ho
  have hpo:=si.po
  refine⟨_,(pss_cons (ps_if (pt_cmpR op_ge (pe_callB call_len_seq (by rfl) T.n_len PySem.boot_len (pa_cons (pe_fld (pv 0) rfl) pa_nil)) (pe_g rfl T.c_MOST_POSTED) (nomark _)) (pss_one (ps_ret (pe_lst (pa_cons (pe_g rfl T.c_FULL) pa_nil)))) pss_nil) (pss_cons (ps_expr (pe_bm PySem.F.plainAttrs_list PySem.F.slot_list_append PySem.F.type_list_append mt_append (pe_fld (pv 0) rfl) (pa_cons (pe_call (ok_standings T) (hr.mono (by decide)) rfl T.f_standings.m T.f_standings.F.kp T.f_standings.b .nil pass0 (pa_cons (pv 0) pa_nil)) pa_nil))) (pss_one (ps_ret (pe_lst (pa_cons pe_int (pa_cons (pe_callB call_len_seq (by rfl) T.n_len PySem.boot_len (pa_cons (pe_fld (pv 0) rfl) pa_nil)) pa_nil))))))),?_⟩
  walk_at "v"
  refine⟨_,_,rfl,.inl sqo,?_⟩
  walk_at "v"
  rw[List.length_map,lp]
  refine ite2 (fun h=>?_) (fun h=>?_)
  ·have h:50≤s.posted.length:=by
    simp at h
    omega
   have hact:Vbbraj.act s .post=(s,[-9]):=by
    simp only[Vbbraj.act]
    exact if_pos h
   rw[hact]at post
   walk_at "v"
   exact⟨nle0 rfl,fun q nq=>post.same ev (Same.refl _) nq⟩
  ·have h:¬50≤s.posted.length:=by
    simp at h
    omega
   have hact:Vbbraj.act s .post=({ s with posted:=s.posted++[Vbbraj.standings s] },[0,((s.posted.length+1:Nat):Int)]):=by
    simp only[Vbbraj.act]
    exact if_neg h
   rw[hact]at post
   walk_at "v"
   refine⟨.inl ⟨rfl,_,sqo⟩,?_⟩
   walk_at "v"
   refine⟨B,s,c,Z,rfl,ev,si,bd,fun H1 y sm1 ny hy=>?_⟩
   have ev1:=ev.grow sm1
   have fy:=ev.fresh ny
   have ho1:=sm1 _ _ ho
   refine⟨B.post,_,_,rfl,rfl,ho1,by rw[List.length_map];exact small1000 (by omega),?_⟩
   have ev2:=ev1.repost (paired_append (Paired.mapP po fun _ _ z=>hid_mono sm1 _ _ z) (.cons (hid_at fy.1 fy.2 hy) .nil))
   rw[List.map_append]at ev2
   have zk:∀b,Z b=true→upd H1 B.post (.lst (ps.map V.ref++[y].map V.ref)) b=H b:=fun b hb=>by
    rw[upd_ne (ev.zne (by simp[EvA.own]) hb)]
    exact ev.zkeep sm1 b hb
   have ho2:upd H1 B.post (.lst (ps.map V.ref++[y].map V.ref)) B.post=some (.lst (ps.map V.ref++[y].map V.ref)):=upd_same
   obtain⟨dp2,hp2⟩:=ev2.hp
   have e1:[y].map V.ref=[V.ref y]:=rfl
   rw[e1]at ev2 zk ho2 hp2
   generalize upd H1 B.post (.lst (ps.map V.ref++[V.ref y]))=G at ev2 zk ho2 hp2 ⊢
   walk_at "v"
   refine⟨_,_,rfl,.inl (SqL.of ho2),?_⟩
   walk_at "v"
   refine⟨nle0 rfl,fun t nt=>?_⟩
   refine post _ B t rfl (ev2.grow (same_new nt)) (fun b hb=>?_) ?_
   ·rw[upd_ne (fun z=>by rw[z]at hb;exact ev2.zt t hb nt)]
    exact zk b hb
   ·rw[upd_same,List.length_append,List.length_map,lp]
    rfl
inductive J_posted_answer(T:TX K mg)(vs:List V)(H:Hp)(Q:VK):Prop
 |mk (A:EvA) (s:State) (c:Nat) (Z:Addr→Bool) (k:Nat):vs=[.ref A.p,iN k]→EvO T Z H s c A→1≤k→s.posted.length≤50→((∀l∈s.posted,l.length≤1000))→Post T Z H A s c (Vbbraj.act s (.posted k)).2 Q→J_posted_answer T vs H Q
noncomputable def sp_posted_answer(T:TX K mg):Sp:=fun vs H Q _=>J_posted_answer T vs H Q
theorem flat3_len(l:List (Nat×Nat×Int)):(flat3 l).length=3*l.length:=flat_len (n:=3) (fun _=>rfl) l
theorem ok_posted_answer(T:TX K mg):FnOk P w K mg base CX0 1 T.f_posted_answer.f T.f_posted_answer.fd ["event","which"] (sp_posted_answer T):=by
 refine okL T.f_posted_answer.F sc_posted_answer (fun vs H Q E h=>?_) (fun cdv A outer s H vs Q E hr h=>?_)
 rotate_left;intro Xc;rotate_left
 ·obtain⟨A,s,c,Z,k,rfl,_⟩:=h
  rfl
 ·obtain⟨B,s,c,Z,k,rfl,ev,hk1,hpl,hll,post⟩:=h
  obtain⟨dp,hp⟩:=ev.hp
  obtain⟨ps,ho,po⟩:=ev.ho
  have lp:=Paired.length po
  have sqo:SqL K H B.post (ps.map V.ref):=SqL.of ho
  have hact:(Vbbraj.act s (.posted k)).2=match s.posted[k-1]? with
   |none=>[-15]
   |some l=>0::flat3 l:=by
   simp only[Vbbraj.act,Int.toNat_natCast]
   rfl
  rw[hact]at post
  refine⟨_,(pss_cons (ps_if (pt_cmpR op_gt (pv 1) (pe_callB call_len_seq (by rfl) T.n_len PySem.boot_len (pa_cons (pe_fld (pv 0) rfl) pa_nil)) (nomark _)) (pss_one (ps_ret (pe_lst (pa_cons (pe_g rfl T.c_NOT_POSTED) pa_nil)))) pss_nil) (pss_one (ps_ret (pe_op op_cat (pe_lst (pa_cons pe_int pa_nil)) (pe_ix ix_list (pe_fld (pv 0) rfl) (pe_op op_sub (pv 1) pe_int) (fun _ _=>rfl)))))),?_⟩
  walk_at "v"
  refine⟨_,_,rfl,.inl sqo,?_⟩
  walk_at "v"
  rw[List.length_map,lp]
  refine ite2 (fun h=>?_) (fun h=>?_)
  ·have h:s.posted.length<k:=by
    simp at h
    omega
   rw[List.getElem?_eq_none (by omega)]at post
   walk_at "v"
   exact⟨nle0 rfl,fun q nq=>post.same ev (Same.refl _) nq⟩
  ·have h:¬s.posted.length<k:=by
    simp at h
    omega
   have hl:s.posted[k-1]?=some s.posted[k-1]:=List.getElem?_eq_getElem (by omega)
   generalize s.posted[k-1]=l at hl
   rw[hl]at post
   obtain⟨d,hd,gd⟩:=get_paired po hl
   have hl3:=hll l (List.mem_of_getElem? hl)
   walk_at "v"
   refine⟨nle0 rfl,fun q nq=>?_⟩
   have sq:Same H (upd H q (.lst [.int 0])):=same_new nq
   have hq:upd H q (.lst [.int 0]) q=some (.lst [.int 0]):=upd_same
   generalize upd H q (.lst [.int 0])=G at sq hq ⊢
   have hpG:=sq _ _ hp
   have a1:atI (ps.map V.ref) ((k:Int)-1)=some (.ref d):=at_of (j:=k-1) (by omega) (by rw[List.getElem?_map,hd];rfl)
   walk_at "v"
   refine⟨B.post,_,_,_,rfl,rfl,SqL.of (sq _ _ ho),a1,?_⟩
   have hdG:G d=some (.lst ((flat3 l).map V.int)):=sq _ _ (hid_of gd)
   refine⟨q,d,_,_,rfl,rfl,hq,hdG,?_,fun y ny=>?_⟩
   ·have:=flat3_len l
    rw[List.length_map]
    refine big6 ?_
    show 1+_≤_
    omega
   ·exact post.same ev sq ny
noncomputable def isStand:Vbbraj.Call→Prop
 | .total p=>1≤p
 | .standings=>True
 | .post=>True
 | .posted k=>1≤k
 |_=>False
inductive J_standing_answer(T:TX K mg)(vs:List V)(H:Hp)(Q:VK):Prop
 |mk (A:EvA) (s:State) (c:Nat) (Z:Addr→Bool) (a:Addr) (call:Vbbraj.Call):vs=[.ref A.p,.ref a]→EvO T Z H s c A→SInv s→Bnd s→CallO T H a (num call) (plainOf call) (rowOf call)→isStand call→((∀l∈s.posted,l.length≤1000))→(Vbbraj.standings s).length≤1000→Post T Z H A (Vbbraj.act s call).1 c (Vbbraj.act s call).2 Q→J_standing_answer T vs H Q
noncomputable def sp_standing_answer(T:TX K mg):Sp:=fun vs H Q _=>J_standing_answer T vs H Q
theorem pairIn_same{s:State}{p:Int}{f:Nat→List Int}:(Vbbraj.pairIn s p fun k=>(s,f k)).1=s:=by
 unfold Vbbraj.pairIn
 split<;>rfl
theorem ok_standing_answer(T:TX K mg):FnOk P w K mg base CX0 6 T.f_standing_answer.f T.f_standing_answer.fd ["event","call"] (sp_standing_answer T):=by
 refine okL T.f_standing_answer.F sc_standing_answer (fun vs H Q E h=>?_) (fun cdv A outer s H vs Q E hr h=>?_)
 rotate_left;intro Xc;rotate_left
 ·obtain⟨A,s,c,Z,a,call,rfl,_⟩:=h
  rfl
 ·obtain⟨B,s,c,Z,a,call,rfl,ev,si,bd,⟨dc,ap,ar,hc,hpl,hrw⟩,hl,hpo,hsl,post⟩:=h
  refine⟨_,(pss_cons (ps_if (pt_cmpR op_eq (pe_fld (pv 1) rfl) (pe_g rfl T.c_TOTAL) (nomark _)) (pss_one (ps_ret (pe_call (ok_total_answer T) (hr.mono (by decide)) rfl T.f_total_answer.m T.f_total_answer.F.kp T.f_total_answer.b .nil pass0 (pa_cons (pv 0) (pa_cons (pe_ix ix_list (pe_fld (pv 1) rfl) pe_int (fun _ _=>rfl)) pa_nil))))) pss_nil) (pss_cons (ps_if (pt_cmpR op_eq (pe_fld (pv 1) rfl) (pe_g rfl T.c_STANDINGS) (nomark _)) (pss_one (ps_ret (pe_op op_cat (pe_lst (pa_cons pe_int pa_nil)) (pe_call (ok_standings T) (hr.mono (by decide)) rfl T.f_standings.m T.f_standings.F.kp T.f_standings.b .nil pass0 (pa_cons (pv 0) pa_nil))))) pss_nil) (pss_cons (ps_if (pt_cmpR op_eq (pe_fld (pv 1) rfl) (pe_g rfl T.c_POST) (nomark _)) (pss_one (ps_ret (pe_call (ok_post_answer T) (hr.mono (by decide)) rfl T.f_post_answer.m T.f_post_answer.F.kp T.f_post_answer.b .nil pass0 (pa_cons (pv 0) pa_nil)))) pss_nil) (pss_one (ps_ret (pe_call (ok_posted_answer T) (hr.mono (by decide)) rfl T.f_posted_answer.m T.f_posted_answer.F.kp T.f_posted_answer.b .nil pass0 (pa_cons (pv 0) (pa_cons (pe_ix ix_list (pe_fld (pv 1) rfl) pe_int (fun _ _=>rfl)) pa_nil)))))))),?_⟩
  cases call with
  |total p=>
   have hl:1≤p:=hl
   obtain⟨p',rfl⟩:=Int.eq_ofNat_of_zero_le (show 0≤p by omega)
   have sq:SqL K H ap [iN p']:=SqL.of hpl
   have e:(Vbbraj.act s (.total p')).1=s:=pairIn_same
   rw[e]at post
   walk_at "v"
   exact⟨B,s,c,Z,p',rfl,ev,si,bd,by omega,post⟩
  |standings=>
   walk_at "v"
   refine⟨nle0 rfl,fun q nq=>?_⟩
   have sq:Same H (upd H q (.lst [.int 0])):=same_new nq
   have hq:upd H q (.lst [.int 0]) q=some (.lst [.int 0]):=upd_same
   generalize upd H q (.lst [.int 0])=G at sq hq ⊢
   walk_at "v"
   refine⟨B,s,c,Z,rfl,ev.grow sq,si,bd,fun H1 y sm1 ny hy=>?_⟩
   refine⟨q,y,_,_,rfl,rfl,sm1 _ _ hq,hy,?_,fun z nz=>?_⟩
   ·have:=flat3_len (Vbbraj.standings s)
    rw[List.length_map]
    refine big6 ?_
    show 1+_≤_
    omega
   ·exact Post.same (ans:=0::flat3 (Vbbraj.standings s)) post ev (sq.trans sm1) nz
  |post=>
   walk_at "v"
   exact⟨B,s,c,Z,rfl,ev,si,bd,post⟩
  |posted k=>
   have hl:1≤k:=hl
   obtain⟨k',rfl⟩:=Int.eq_ofNat_of_zero_le (show 0≤k by omega)
   have sq:SqL K H ap [iN k']:=SqL.of hpl
   walk_at "v"
   exact⟨B,s,c,Z,k',rfl,ev,by omega,si.po,hpo,post⟩
  |_=>exact hl.elim
end
end
section
open Vbbraj (State Sitting)
open Sti (SInv Srt)
section
variable {P:Program}{w:World}{K:PySem.W.Frag}{mg:Str→Option Value}{base:Heap}
theorem EvO.readj{T:TX K mg}{Z:Addr→Bool}{H:Hp}{s:State}{c:Nat}{A:EvA}{ds:List (Key×V)}{l:List Int}(E:EvO T Z H s c A)(hl:ds.length≤s.changes+1)(hat:∀p:Nat,1≤p→p≤s.pairs→(valV ds (.inl (p:Int))).getD (.int 0)=.int (l.getD (p-1) 0)):
  EvO T Z (upd H A.adjs (.dK ds)) { s with adjusted:=l,changes:=s.changes+1 } c A:=by
 have mem:A.adjs∈A.own:=by simp[EvA.own]
 have n1:=EvA.ne E.nd
 have hh:=hid_own (A:=A) (Z:=Z) (H:=H) (o:=.dK ds) mem
 obtain⟨dp,hp⟩:=E.hp
 obtain⟨as,hs,ps1⟩:=E.hs
 obtain⟨kvs,he,R⟩:=E.he
 obtain⟨ks,hk,S⟩:=E.hh
 obtain⟨qs,ho,o1⟩:=E.hq
 obtain⟨ps,hpo,p1⟩:=E.ho
 refine⟨E.nd,E.zo,fun d hd=>by rw[upd_ne (E.zne mem hd)];exact E.zt d hd,⟨dp,by rw[upd_ne n1.2.2.2.1];exact hp⟩,⟨as,by rw[upd_ne n1.2.2.2.2.2.2.2.2.1];exact hs,by rw[hh];exact ps1⟩,
  ⟨kvs,by rw[upd_ne n1.2.2.2.2.2.2.2.2.2.2.2.2.1];exact he,by rw[hh];exact⟨R.at_,R.key,R.inj,Nat.le_succ_of_le R.len⟩⟩,⟨ks,by rw[upd_ne n1.2.2.2.2.2.2.2.2.2.2.2.2.2.2.2.1];exact hk,by rw[hh];exact⟨S.at_,S.key,S.nd⟩⟩,
  ⟨ds,upd_same,hat,hl⟩,⟨qs,by rw[upd_ne n1.2.2.2.2.2.2.2.2.2.2.2.2.2.2.2.2.2.2.1.symm];exact ho,by rw[hh];exact o1⟩,⟨ps,by rw[upd_ne n1.2.2.2.2.2.2.2.2.2.2.2.2.2.2.2.2.2.2.2.1.symm];exact hpo,by rw[hh];exact p1⟩⟩
inductive J_adjust(T:TX K mg)(vs:List V)(H:Hp)(Q:VK):Prop
 |mk (A:EvA) (s:State) (c:Nat) (Z:Addr→Bool) (a:Addr) (p:Nat) (h:Int):vs=[.ref A.p,.ref a]→EvO T Z H s c A→SInv s→CallO T H a 9 [(p:Int),h] []→1≤p→s.changes≤1000→Post T Z H A (Vbbraj.act s (.adjust p h)).1 c (Vbbraj.act s (.adjust p h)).2 Q→J_adjust T vs H Q
noncomputable def sp_adjust(T:TX K mg):Sp:=fun vs H Q _=>J_adjust T vs H Q
theorem ok_adjust(T:TX K mg):FnOk P w K mg base CX0 2 T.f_adjust.f T.f_adjust.fd ["event","call"] (sp_adjust T):=by
 refine okL T.f_adjust.F sc_adjust (fun vs H Q E h=>?_) (fun cdv A outer s H vs Q E hr h=>?_)
 rotate_left;intro Xc;rotate_left
 ·obtain⟨A,s,c,Z,a,p,h,rfl,_⟩:=h
  rfl
 ·obtain⟨B,s,c,Z,a,p,z,rfl,ev,si,⟨dc,ap,ar,hc,hpl,hrw⟩,hp1,hch,post⟩:=h
  have sq:SqL K H ap [iN p,.int z]:=SqL.of hpl
  refine⟨_,(pss_cons (ps_set (i:=2) sc_adjust.nd rfl (by walk_at "or") (pe_ix ix_list (pe_fld (pv 1) rfl) pe_int (fun _ _=>rfl))) (pss_cons (ps_if (pt_not (pt_val (pe_call (ok_is_pair T) (hr.mono (by decide)) rfl T.f_is_pair.m T.f_is_pair.F.kp T.f_is_pair.b .nil pass0 (pa_cons (pv 0) (pa_cons (pv 2) pa_nil))))) (pss_one (ps_ret (pe_lst (pa_cons (pe_g rfl T.c_NO_SUCH_PAIR) pa_nil)))) pss_nil) (pss_cons (ps_dput (hu_of hr) (pe_fld (pv 0) rfl) (pv 2) (pe_ix ix_list (pe_fld (pv 1) rfl) pe_int (fun _ _=>rfl)) rfl) (pss_one (ps_ret (pe_lst (pa_cons pe_int pa_nil))))))),?_⟩
  walk_at "v"
  refine⟨B,s,c,Z,p,rfl,ev,?_⟩
  refine⟨_,rfl,ite2 (fun h=>?_) (fun h=>?_)⟩
  ·have hact:Vbbraj.act s (.adjust p z)=(s,[-5]):=by
    simp only[Vbbraj.act,Vbbraj.pairIn,Int.toNat_natCast]
    rw[if_pos (by simpa using h)]
   rw[hact]at post
   walk_at "v"
   exact⟨nle0 rfl,fun q nq=>post.same ev (Same.refl _) nq⟩
  have hp2:p≤s.pairs:=by simpa using h
  have hact:Vbbraj.act s (.adjust p z)=({ s with adjusted:=s.adjusted.set (p-1) z,changes:=s.changes+1 },[0]):=by
   simp only[Vbbraj.act,Vbbraj.pairIn,Int.toNat_natCast]
   rw[if_neg (by omega)]
  rw[hact]at post
  obtain⟨dp,hp⟩:=ev.hp
  obtain⟨ds,hd,J⟩:=ev.ha
  have jl:=J.len
  walk_at "v"
  refine⟨B.adjs,_,rfl,DPut.k (k:=.inl (p:Int)) hd (small1000 (by omega)),?_⟩
  have ev2:=ev.readj (ds:=putK ds (.inl (p:Int)) (.int z)) (l:=s.adjusted.set (p-1) z) (by have:=length_putK ds (.inl (p:Int)) (.int z);omega) (fun q h1 h2=>by
   rw[valV_put]
   by_cases e:q=p
   ·subst e
    rw[if_pos rfl,List.getD_eq_getElem?_getD,List.getElem?_set_self (by rw[si.al];omega)]
    rfl
   ·rw[if_neg (inl_ne e),List.getD_eq_getElem?_getD,List.getElem?_set_ne (by omega),←List.getD_eq_getElem?_getD]
    exact J.at_ q h1 h2)
  walk_at "v"
  refine⟨nle0 rfl,fun q nq=>?_⟩
  refine post _ B q rfl (ev2.grow (same_new nq)) (fun b hb=>?_) upd_same
  rw[upd_ne (fun z=>by rw[z]at hb;exact ev2.zt q hb nq),upd_ne (ev.zne (by simp[EvA.own]) hb)]
structure BInv(s:State)(n:Nat):Prop where
 ch:s.changes≤n
 ap:s.appeals.length≤n
 st:s.sittings.length≤n
 en:∀b,Ents s b
 ad:∀z∈s.adjusted,z.natAbs≤100000
 te:((List.range s.boards).map fun b=>(Vbbraj.sheet s (b+1)).length).sum≤s.changes
 po:∀l∈s.posted,l.length≤1000
theorem stand_len{s:State}(si:SInv s):(Vbbraj.standings s).length≤1000:=by
 unfold Vbbraj.standings
 simp only[List.length_map]
 rw[(Mth.ranked_ok si.ti).1.length_eq]
 unfold Mth.inPairs
 refine Nat.le_trans (List.length_filter_le _ _) ?_
 rw[List.length_map,List.length_range]
 have:=si.p2
 omega
theorem BInv.bnd{s:State}{n:Nat}(b:BInv s n)(hn:n≤400):Bnd s:=⟨b.en,b.ad,by have:=b.te;have:=b.ch;omega⟩
end
end
section
open Vbbraj (State Sitting)
open Sti (SInv Srt)
open Pts (Sml)
theorem BInv.up{s:State}{n:Nat}(b:BInv s n):BInv s (n+1):=⟨by have:=b.ch;omega,by have:=b.ap;omega,by have:=b.st;omega,b.en,b.ad,b.te,b.po⟩
theorem put_binv{s:State}{n b:Nat}{l:Vbbrah.State}(si:SInv s)(bi:BInv s n)(hb1:1≤b)(hb2:b≤s.boards)(hl:l.length≤(Vbbraj.sheet s b).length+1)(he:∀e∈l,Sml e.result∧e.ns≤100∧e.ew≤100):BInv (Vbbraj.putSheet s b l) (n+1):=by
 have sh:=Mth.sheet_put (s:=s) (b:=b) (l:=l) hb1 hb2 si.sl
 refine⟨by have:=bi.ch;show s.changes+1≤n+1;omega,by have:=bi.ap;show s.appeals.length≤n+1;omega,by have:=bi.st;show s.sittings.length≤n+1;omega,fun c e hc=>?_,bi.ad,?_,bi.po⟩
 ·rw[sh]at hc
  split at hc
  ·exact he e hc
  ·exact bi.en c e hc
 ·have q:=Mth.sumN_upd (f:=fun c=>(Vbbraj.sheet s (c+1)).length) (g:=fun c=>(Vbbraj.sheet (Vbbraj.putSheet s b l) (c+1)).length) (b:=b-1) (fun c hc=>by
   show(Vbbraj.sheet (Vbbraj.putSheet s b l) (c+1)).length=_
   rw[sh,if_neg (by omega)]) s.boards (by omega)
  have e1:(Vbbraj.sheet (Vbbraj.putSheet s b l) (b-1+1)).length=l.length:=by rw[sh,if_pos (by omega)]
  have e2:Vbbraj.sheet s (b-1+1)=Vbbraj.sheet s b:=by rw[show b-1+1=b by omega]
  simp only[e1,e2]at q
  have:=bi.te
  show((List.range s.boards).map fun c=>(Vbbraj.sheet (Vbbraj.putSheet s b l) (c+1)).length).sum≤s.changes+1
  omega
theorem put_len{e:VEnt}:∀l:Vbbrah.State,(Vbbrah.put e l).length≤l.length+1
 |[]=>by simp[Vbbrah.put]
 |f::l=>by
  unfold Vbbrah.put
  split
  ·simp
  ·split
   ·simp
   ·have:=put_len (e:=e) l
    simp only[List.length_cons]
    omega
theorem entered_binv{s:State}{n r t b:Nat}{x:Sitting}{res:VRes}{p q:Nat}(si:SInv s)(bi:BInv s n)(hp:Vbbraj.placeOf s r t b=some x)(hs:Sml res)(h1:p≤100)(h2:q≤100):BInv (Vbbraj.entered s b x res p q) (n+1):=by
 obtain⟨hx,_,_,hB⟩:=Sti.placeOf_some hp
 have hb:=Sti.board_in (si.so x hx) hB
 unfold Vbbraj.entered
 refine put_binv si bi hb.1 hb.2 (put_len _) fun e he=>?_
 rcases Sti.mem_put he with rfl|he
 ·exact⟨hs,h1,h2⟩
 ·exact bi.en b e he
theorem sml_res{l:List Int}(h:Vbbrah.isResult l=true):Sml (Vbbrah.resultOf l):=by
 unfold Vbbrah.isResult at h
 simp only[Bool.and_eq_true,decide_eq_true_eq]at h
 obtain⟨h1,h2,h3,h4⟩:=h
 constructor
 ·unfold Vbbrah.resultOf
  rw[List.length_map,pairsOf_len]
  omega
 ·intro p hp
  unfold Vbbrah.resultOf at hp
  obtain⟨q,hq,rfl⟩:=List.mem_map.mp hp
  have:=List.all_eq_true.mp h4 q hq
  simp only[Vbbrah.within,Bool.and_eq_true,decide_eq_true_eq]at this
  show q.1.toNat≤1000
  omega
theorem sml_one(z:Int):Sml [(1,z)]:=⟨by simp,fun p hp=>by rw[List.mem_singleton.mp hp];exact nle0 rfl⟩
theorem act_binv{s:State}{n:Nat}(si:SInv s)(bi:BInv s n)(c:Vbbraj.Call)(hr:Vbbraj.ranged c=true):BInv (Vbbraj.act s c).1 (n+1):=by
 have u:=bi.up
 have onP:∀(r t b:Int) (f:Sitting→State×List Int),(∀x,Vbbraj.placeOf s r.toNat t.toNat b.toNat=some x→BInv (f x).1 (n+1))→BInv (Vbbraj.onPlace s r t b f).1 (n+1):=fun r t b f hf=>by
  unfold Vbbraj.onPlace
  split
  ·exact u
  ·rename_i x hx
   split
   ·exact u
   ·exact hf x hx
 have pIn:∀(p:Int) (f:Nat→State×List Int),BInv (f p.toNat).1 (n+1)→BInv (Vbbraj.pairIn s p f).1 (n+1):=fun p f hf=>by
  unfold Vbbraj.pairIn
  split
  ·exact u
  ·exact hf
 cases c with
 |new n b=>exact u
 |sit r t n e f c=>
  simp only[Vbbraj.act]
  split
  ·exact u
  ·exact⟨u.ch,u.ap,by have:=bi.st;rw[List.length_append,List.length_singleton];omega,bi.en,bi.ad,bi.te,bi.po⟩
 |unsit r t=>
  simp only[Vbbraj.act]
  split
  ·exact u
  ·split
   ·exact u
   ·exact⟨u.ch,u.ap,Nat.le_trans (List.length_filter_le _ _) u.st,bi.en,bi.ad,bi.te,bi.po⟩
 |result r t b l=>
  simp only[Vbbraj.ranged,Bool.and_eq_true]at hr
  exact onP r t b _ fun x hx=>entered_binv si bi hx (sml_res hr.2) (by omega) (by omega)
 |played r t b l st d p k=>exact onP r t b _ fun x hx=>entered_binv si bi hx (sml_one _) (by omega) (by omega)
 |passed r t b=>exact onP r t b _ fun x hx=>entered_binv si bi hx (sml_one _) (by omega) (by omega)
 |average r t b p q=>
  simp only[Vbbraj.ranged,Bool.and_eq_true,Sti.inside_iff]at hr
  exact onP r t b _ fun x hx=>entered_binv si bi hx ⟨by simp,fun p hp=>by cases hp⟩ (by omega) (by omega)
 |foul r t b g=>
  refine onP r t b _ fun x hx=>?_
  split
  ·exact u
  ·rename_i e he
   obtain⟨mx,g1,g2,hB⟩:=Sti.placeOf_some hx
   have hb:=Sti.board_in (si.so x mx) hB
   obtain⟨me,te⟩:=Sti.entryOf_some he
   refine put_binv si bi hb.1 hb.2 (put_len _) fun y hy=>?_
   rcases Sti.mem_put hy with rfl|hy
   ·exact bi.en _ e me
   ·exact bi.en _ y hy
 |remove r t b=>
  refine onP r t b _ fun x hx=>?_
  split
  ·exact u
  ·obtain⟨mx,g1,g2,hB⟩:=Sti.placeOf_some hx
   have hb:=Sti.board_in (si.so x mx) hB
   exact put_binv si bi hb.1 hb.2 (Nat.le_succ_of_le (List.length_filter_le _ _)) fun y hy=>bi.en _ y (List.mem_filter.mp hy).1
 |adjust p z=>
  simp only[Vbbraj.ranged,Bool.and_eq_true,Sti.inside_iff]at hr
  refine pIn p _ ⟨by have:=bi.ch;show s.changes+1≤n+1;omega,u.ap,u.st,bi.en,fun y hy=>?_,Nat.le_succ_of_le bi.te,bi.po⟩
  rcases List.mem_or_eq_of_mem_set hy with hy|rfl
  ·exact bi.ad y hy
  ·omega
 |appeal r t b=>
  refine onP r t b _ fun x hx=>?_
  split
  ·exact u
  ·exact⟨u.ch,by have:=bi.ap;rw[List.length_append,List.length_singleton];omega,u.st,bi.en,bi.ad,bi.te,bi.po⟩
 |ruling r t b l=>
  simp only[Vbbraj.ranged,Bool.and_eq_true]at hr
  simp only[Vbbraj.act]
  split
  ·exact u
  ·rename_i x hx
   split
   ·exact u
   ·have h':SInv { s with appeals:=s.appeals.filter fun y=>y != (r.toNat,t.toNat,b.toNat) }:=Sti.appeals_inv si (si.an.filter _) fun r' t' b' hm=>si.ae r' t' b' (List.mem_filter.mp hm).1
    have b':BInv { s with appeals:=s.appeals.filter fun y=>y != (r.toNat,t.toNat,b.toNat) } n:=⟨bi.ch,Nat.le_trans (List.length_filter_le _ _) bi.ap,bi.st,bi.en,bi.ad,bi.te,bi.po⟩
    exact entered_binv (s:={ s with appeals:=s.appeals.filter fun y=>y != (r.toNat,t.toNat,b.toNat) }) h' b' hx (sml_res hr.2) (by omega) (by omega)
 |post=>
  simp only[Vbbraj.act]
  split
  ·exact u
  ·refine⟨u.ch,u.ap,u.st,bi.en,bi.ad,bi.te,fun l hl=>?_⟩
   rcases List.mem_append.mp hl with hl|hl
   ·exact bi.po l hl
   ·rw[List.mem_singleton.mp hl]
    exact stand_len si
 |total p=>exact pIn p _ u
 |score b p=>
  simp only[Vbbraj.act]
  split
  ·exact u
  ·exact pIn p _ u
 |sittings p=>exact pIn p _ u
 |standings=>exact u
 |posted k=>exact u
 |sheet b=>exact u
 |met p q=>exact u
 |missing=>exact u
 |changes=>exact u
 |appeals=>exact u
theorem zeros:∀l:List Nat,(l.map fun _=>0).sum=0
 |[]=>rfl
 |a::l=>by
  rw[List.map_cons,List.sum_cons,zeros l]
theorem begun_binv(n b m:Nat):BInv (Vbbraj.begun n b) m:=by
 refine⟨Nat.zero_le _,Nat.zero_le _,Nat.zero_le _,fun c e he=>?_,fun z hz=>?_,?_,fun l hl=>by cases hl⟩
 ·rw[Sti.sheet_begun]at he
  cases he
 ·have:=List.eq_of_mem_replicate (show z∈List.replicate n (0:Int)from hz)
  rw[this]
  decide
 ·have:((List.range (Vbbraj.begun n b).boards).map fun c=>(Vbbraj.sheet (Vbbraj.begun n b) (c+1)).length)=(List.range (Vbbraj.begun n b).boards).map fun _=>0:=List.map_congr_left fun c _=>by rw[Sti.sheet_begun];rfl
  rw[this,zeros]
  exact Nat.zero_le _
noncomputable def counts(n:Int):Bool:=decide (n=3∨n=4∨n=5∨n=6∨n=7∨n=8∨n=9∨n=11)
theorem act_ans{s:State}(si:SInv s)(c:Vbbraj.Call)(hn:num c≠0):∃h t,(Vbbraj.act s c).2=h::t∧h≤0∧(Vbbraj.act s c).1.changes=if h=0∧counts (num c)=true then s.changes+1 else s.changes:=by
 have onP:∀(r t b:Int) (m:Int) (f:Sitting→State×List Int),(∀x,∃h t,(f x).2=h::t∧h≤0∧(f x).1.changes=if h=0∧counts m=true then s.changes+1 else s.changes)→∃h u,(Vbbraj.onPlace s r t b f).2=h::u∧h≤0∧(Vbbraj.onPlace s r t b f).1.changes=if h=0∧counts m=true then s.changes+1 else s.changes:=fun r t b m f hf=>by
  unfold Vbbraj.onPlace
  split
  ·exact⟨-11,[],rfl,by decide,(if_neg (by simp)).symm⟩
  ·split
   ·exact⟨-12,[],rfl,by decide,(if_neg (by simp)).symm⟩
   ·exact hf _
 have no:∀(h m:Int),h≠0∨counts m=false→s.changes=if h=0∧counts m=true then s.changes+1 else s.changes:=fun h m q=>by
  rw[if_neg]
  rintro⟨a,b⟩
  rcases q with q|q
  ·exact q a
  ·rw[b]at q;cases q
 have pIn:∀(p m:Int) (f:Nat→State×List Int),(∃h t,(f p.toNat).2=h::t∧h≤0∧(f p.toNat).1.changes=if h=0∧counts m=true then s.changes+1 else s.changes)→∃h t,(Vbbraj.pairIn s p f).2=h::t∧h≤0∧(Vbbraj.pairIn s p f).1.changes=if h=0∧counts m=true then s.changes+1 else s.changes:=fun p m f hf=>by
  unfold Vbbraj.pairIn
  split
  ·exact⟨-5,[],rfl,by decide,no _ _ (.inl (by decide))⟩
  ·exact hf
 have ent:∀m:Int,counts m=true→s.changes+1=if(0:Int)=0∧counts m=true then s.changes+1 else s.changes:=fun m h=>(if_pos ⟨rfl,h⟩).symm
 cases c with
 |new n b=>exact absurd rfl hn
 |sit r t n e f c=>
  simp only[Vbbraj.act]
  split
  ·rename_i h
   refine⟨_,[],rfl,?_,no _ _ (.inl h)⟩
   unfold Vbbraj.sitWrong
   repeat' split
   all_goals decide
  ·exact⟨0,[],rfl,by decide,no _ _ (.inr rfl)⟩
 |unsit r t=>
  simp only[Vbbraj.act]
  split
  ·exact⟨-4,[],rfl,by decide,no _ _ (.inl (by decide))⟩
  ·split
   ·exact⟨-11,[],rfl,by decide,no _ _ (.inl (by decide))⟩
   ·exact⟨0,[],rfl,by decide,no _ _ (.inr rfl)⟩
 |result r t b l=>exact onP r t b 3 _ fun x=>⟨0,[],rfl,by decide,ent 3 rfl⟩
 |played r t b l st d p k=>exact onP r t b 4 _ fun x=>⟨0,_,rfl,by decide,ent 4 rfl⟩
 |passed r t b=>exact onP r t b 5 _ fun x=>⟨0,[],rfl,by decide,ent 5 rfl⟩
 |average r t b p q=>exact onP r t b 6 _ fun x=>⟨0,[],rfl,by decide,ent 6 rfl⟩
 |foul r t b g=>
  refine onP r t b 7 _ fun x=>?_
  split
  ·exact⟨-13,[],rfl,by decide,no _ _ (.inl (by decide))⟩
  ·exact⟨0,[],rfl,by decide,ent 7 rfl⟩
 |remove r t b=>
  refine onP r t b 8 _ fun x=>?_
  split
  ·exact⟨-13,[],rfl,by decide,no _ _ (.inl (by decide))⟩
  ·exact⟨0,[],rfl,by decide,ent 8 rfl⟩
 |adjust p z=>exact pIn p 9 _ ⟨0,[],rfl,by decide,ent 9 rfl⟩
 |appeal r t b=>
  refine onP r t b 10 _ fun x=>?_
  split
  ·exact⟨-13,[],rfl,by decide,no _ _ (.inl (by decide))⟩
  ·exact⟨0,[],rfl,by decide,no _ _ (.inr rfl)⟩
 |ruling r t b l=>
  simp only[Vbbraj.act]
  split
  ·exact⟨-11,[],rfl,by decide,no _ _ (.inl (by decide))⟩
  ·split
   ·exact⟨-14,[],rfl,by decide,no _ _ (.inl (by decide))⟩
   ·exact⟨0,[],rfl,by decide,ent 11 rfl⟩
 |post=>
  simp only[Vbbraj.act]
  split
  ·exact⟨-9,[],rfl,by decide,no _ _ (.inl (by decide))⟩
  ·exact⟨0,_,rfl,by decide,no _ _ (.inr rfl)⟩
 |total p=>
  refine pIn p 12 _ ?_
  split
  ·exact⟨0,_,rfl,by decide,no _ _ (.inr rfl)⟩
  ·exact⟨0,_,rfl,by decide,no _ _ (.inr rfl)⟩
 |score b p=>
  simp only[Vbbraj.act]
  split
  ·exact⟨-10,[],rfl,by decide,no _ _ (.inl (by decide))⟩
  ·refine pIn p 16 _ ?_
   split
   ·exact⟨-13,[],rfl,by decide,no _ _ (.inl (by decide))⟩
   ·exact⟨0,_,rfl,by decide,no _ _ (.inr rfl)⟩
 |sittings p=>exact pIn p 19 _ ⟨0,_,rfl,by decide,no _ _ (.inr rfl)⟩
 |standings=>exact⟨0,_,rfl,by decide,no _ _ (.inr rfl)⟩
 |posted k=>
  simp only[Vbbraj.act]
  split
  ·exact⟨-15,[],rfl,by decide,no _ _ (.inl (by decide))⟩
  ·exact⟨0,_,rfl,by decide,no _ _ (.inr rfl)⟩
 |sheet b=>
  simp only[Vbbraj.act]
  split
  ·exact⟨-10,[],rfl,by decide,no _ _ (.inl (by decide))⟩
  ·exact⟨0,_,rfl,by decide,no _ _ (.inr rfl)⟩
 |met p q=>
  simp only[Vbbraj.act]
  split
  ·exact⟨0,_,rfl,by decide,no _ _ (.inr rfl)⟩
  ·exact⟨0,_,rfl,by decide,no _ _ (.inr rfl)⟩
 |missing=>exact⟨0,_,rfl,by decide,no _ _ (.inr rfl)⟩
 |changes=>exact⟨0,_,rfl,by decide,no _ _ (.inr rfl)⟩
 |appeals=>exact⟨0,_,rfl,by decide,no _ _ (.inr rfl)⟩
end
section
open Vbbraj (State Sitting)
open Sti (SInv Srt)
section
variable {P:Program}{w:World}{K:PySem.W.Frag}{mg:Str→Option Value}{base:Heap}
inductive J_event_answer(T:TX K mg)(vs:List V)(H:Hp)(Q:VK):Prop
 |mk (A:EvA) (s:State) (n:Nat) (Z:Addr→Bool) (a:Addr) (call:Vbbraj.Call):vs=[.ref A.p,.ref a]→EvO T Z H s s.changes A→SInv s→BInv s n→n≤399→CallO T H a (num call) (plainOf call) (rowOf call)→Vbbraj.ranged call=true→num call≠0→Post T Z H A (Vbbraj.act s call).1 s.changes (Vbbraj.act s call).2 Q→J_event_answer T vs H Q
noncomputable def sp_event_answer(T:TX K mg):Sp:=fun vs H Q _=>J_event_answer T vs H Q
theorem key_nat{r t b:Int}(h:Vbbraj.isKey r t b=true):∃r' t' b':Nat,r=r'∧t=t'∧b=b':=by
 simp only[Vbbraj.isKey,Vbbraj.isRound,Vbbraj.isTable,Vbbraj.isBoard,Bool.and_eq_true,Sti.inside_iff]at h
 exact⟨r.toNat,t.toNat,b.toNat,by omega,by omega,by omega⟩
theorem ok_event_answer(T:TX K mg):FnOk P w K mg base CX0 8 T.f_event_answer.f T.f_event_answer.fd ["event","call"] (sp_event_answer T):=by
 refine okL T.f_event_answer.F sc_event_answer (fun vs H Q E h=>?_) (fun cdv A outer s H vs Q E hr h=>?_)
 rotate_left;intro Xc;rotate_left
 ·obtain⟨A,s,n,Z,a,call,rfl,_⟩:=h
  rfl
 ·obtain⟨B,s,n,Z,a,call,rfl,ev,si,bi,hn,co,hrg,hnz,post⟩:=h
  have b2:=act_binv si bi call hrg
  have bnd:=bi.bnd (by omega)
  have h1:=bi.ch
  have h2:=bi.ap
  have h3:=bi.st
  obtain⟨dc,ap,ar,hc,hpl,hrw⟩:=id co
  refine⟨_,(pss_cons (ps_if (pt_cmpR op_eq (pe_fld (pv 1) rfl) (pe_g rfl T.c_SIT) (nomark _)) (pss_one (ps_ret (pe_call (ok_sit T) (hr.mono (by decide)) rfl T.f_sit.m T.f_sit.F.kp T.f_sit.b .nil pass0 (pa_cons (pv 0) (pa_cons (pv 1) pa_nil))))) pss_nil) (pss_cons (ps_if (pt_cmpR op_eq (pe_fld (pv 1) rfl) (pe_g rfl T.c_UNSIT) (nomark _)) (pss_one (ps_ret (pe_call (ok_unsit T) (hr.mono (by decide)) rfl T.f_unsit.m T.f_unsit.F.kp T.f_unsit.b .nil pass0 (pa_cons (pv 0) (pa_cons (pv 1) pa_nil))))) pss_nil) (pss_cons (ps_if (pt_cmpR op_eq (pe_fld (pv 1) rfl) (pe_g rfl T.c_ADJUST) (nomark _)) (pss_one (ps_ret (pe_call (ok_adjust T) (hr.mono (by decide)) rfl T.f_adjust.m T.f_adjust.F.kp T.f_adjust.b .nil pass0 (pa_cons (pv 0) (pa_cons (pv 1) pa_nil))))) pss_nil) (pss_cons (ps_if (pt_cmpR op_le (pe_fld (pv 1) rfl) (pe_g rfl T.c_RULING) (nomark _)) (pss_one (ps_ret (pe_call (ok_place_answer T) (hr.mono (by decide)) rfl T.f_place_answer.m T.f_place_answer.F.kp T.f_place_answer.b .nil pass0 (pa_cons (pv 0) (pa_cons (pv 1) pa_nil))))) pss_nil) (pss_cons (ps_if (pt_cmpR op_le (pe_fld (pv 1) rfl) (pe_g rfl T.c_POSTED) (nomark _)) (pss_one (ps_ret (pe_call (ok_standing_answer T) (hr.mono (by decide)) rfl T.f_standing_answer.m T.f_standing_answer.F.kp T.f_standing_answer.b .nil pass0 (pa_cons (pv 0) (pa_cons (pv 1) pa_nil))))) pss_nil) (pss_cons (ps_if (pt_cmpR op_le (pe_fld (pv 1) rfl) (pe_g rfl T.c_SHEET) (nomark _)) (pss_one (ps_ret (pe_call (ok_board_answer T) (hr.mono (by decide)) rfl T.f_board_answer.m T.f_board_answer.F.kp T.f_board_answer.b .nil pass0 (pa_cons (pv 0) (pa_cons (pv 1) pa_nil))))) pss_nil) (pss_one (ps_ret (pe_call (ok_listing_answer T) (hr.mono (by decide)) rfl T.f_listing_answer.m T.f_listing_answer.F.kp T.f_listing_answer.b .nil pass0 (pa_cons (pv 0) (pa_cons (pv 1) pa_nil))))))))))),?_⟩
  cases call with
  |new=>exact absurd rfl hnz
  |sit r t n e f c=>
   simp only[Vbbraj.ranged,Vbbraj.isRound,Vbbraj.isTable,Vbbraj.isPair,Vbbraj.isBoard,Bool.and_eq_true,Sti.inside_iff]at hrg
   obtain⟨r,rfl⟩:=Int.eq_ofNat_of_zero_le (show 0≤r by omega)
   obtain⟨t,rfl⟩:=Int.eq_ofNat_of_zero_le (show 0≤t by omega)
   obtain⟨n,rfl⟩:=Int.eq_ofNat_of_zero_le (show 0≤n by omega)
   obtain⟨e,rfl⟩:=Int.eq_ofNat_of_zero_le (show 0≤e by omega)
   obtain⟨f,rfl⟩:=Int.eq_ofNat_of_zero_le (show 0≤f by omega)
   obtain⟨c,rfl⟩:=Int.eq_ofNat_of_zero_le (show 0≤c by omega)
   walk_at "v"
   exact⟨B,s,_,Z,a,r,t,n,e,f,c,rfl,ev,si,co,by omega,post⟩
  |unsit r t=>
   simp only[Vbbraj.ranged,Vbbraj.isRound,Vbbraj.isTable,Bool.and_eq_true,Sti.inside_iff]at hrg
   obtain⟨r,rfl⟩:=Int.eq_ofNat_of_zero_le (show 0≤r by omega)
   obtain⟨t,rfl⟩:=Int.eq_ofNat_of_zero_le (show 0≤t by omega)
   walk_at "v"
   exact⟨B,s,_,Z,a,r,t,rfl,ev,si,co,by omega,post⟩
  |adjust p z=>
   have hrg':=hrg
   simp only[Vbbraj.ranged,Vbbraj.isPair,Bool.and_eq_true,Sti.inside_iff]at hrg'
   obtain⟨p,rfl⟩:=Int.eq_ofNat_of_zero_le (show 0≤p by omega)
   walk_at "v"
   exact⟨B,s,_,Z,a,p,z,rfl,ev,si,co,by omega,by omega,post⟩
  |result r t b l=>
   have hk:=hrg
   simp only[Vbbraj.ranged,Bool.and_eq_true]at hk
   obtain⟨r,t,b,rfl,rfl,rfl⟩:=key_nat hk.1
   walk_at "v"
   exact⟨B,s,_,Z,a,r,t,b,.result r t b l,rfl,ev,si,co,⟨rfl,rfl,rfl⟩,hrg,by omega,by omega,by omega,b2.en b,post⟩
  |played r t b l st d p k=>
   have hk:=hrg
   simp only[Vbbraj.ranged,Bool.and_eq_true]at hk
   obtain⟨r,t,b,rfl,rfl,rfl⟩:=key_nat hk.1
   walk_at "v"
   exact⟨B,s,_,Z,a,r,t,b,.played r t b l st d p k,rfl,ev,si,co,⟨rfl,rfl,rfl⟩,hrg,by omega,by omega,by omega,b2.en b,post⟩
  |passed r t b=>
   have hk:=hrg
   simp only[Vbbraj.ranged]at hk
   obtain⟨r,t,b,rfl,rfl,rfl⟩:=key_nat hk
   walk_at "v"
   exact⟨B,s,_,Z,a,r,t,b,.passed r t b,rfl,ev,si,co,⟨rfl,rfl,rfl⟩,hrg,by omega,by omega,by omega,b2.en b,post⟩
  |average r t b p q=>
   have hk:=hrg
   simp only[Vbbraj.ranged,Bool.and_eq_true]at hk
   obtain⟨r,t,b,rfl,rfl,rfl⟩:=key_nat hk.1
   walk_at "v"
   exact⟨B,s,_,Z,a,r,t,b,.average r t b p q,rfl,ev,si,co,⟨rfl,rfl,rfl⟩,hrg,by omega,by omega,by omega,b2.en b,post⟩
  |foul r t b g=>
   have hk:=hrg
   simp only[Vbbraj.ranged,Bool.and_eq_true]at hk
   obtain⟨r,t,b,rfl,rfl,rfl⟩:=key_nat hk.1
   walk_at "v"
   exact⟨B,s,_,Z,a,r,t,b,.foul r t b g,rfl,ev,si,co,⟨rfl,rfl,rfl⟩,hrg,by omega,by omega,by omega,b2.en b,post⟩
  |remove r t b=>
   have hk:=hrg
   simp only[Vbbraj.ranged]at hk
   obtain⟨r,t,b,rfl,rfl,rfl⟩:=key_nat hk
   walk_at "v"
   exact⟨B,s,_,Z,a,r,t,b,.remove r t b,rfl,ev,si,co,⟨rfl,rfl,rfl⟩,hrg,by omega,by omega,by omega,b2.en b,post⟩
  |appeal r t b=>
   have hk:=hrg
   simp only[Vbbraj.ranged]at hk
   obtain⟨r,t,b,rfl,rfl,rfl⟩:=key_nat hk
   walk_at "v"
   exact⟨B,s,_,Z,a,r,t,b,.appeal r t b,rfl,ev,si,co,⟨rfl,rfl,rfl⟩,hrg,by omega,by omega,by omega,b2.en b,post⟩
  |ruling r t b l=>
   have hk:=hrg
   simp only[Vbbraj.ranged,Bool.and_eq_true]at hk
   obtain⟨r,t,b,rfl,rfl,rfl⟩:=key_nat hk.1
   walk_at "v"
   exact⟨B,s,_,Z,a,r,t,b,.ruling r t b l,rfl,ev,si,co,⟨rfl,rfl,rfl⟩,hrg,by omega,by omega,by omega,b2.en b,post⟩
  |total p=>
   simp only[Vbbraj.ranged,Vbbraj.isPair,Sti.inside_iff]at hrg
   walk_at "v"
   exact⟨B,s,_,Z,a,.total p,rfl,ev,si,bnd,co,hrg.1,bi.po,stand_len si,post⟩
  |standings=>
   walk_at "v"
   exact⟨B,s,_,Z,a,.standings,rfl,ev,si,bnd,co,trivial,bi.po,stand_len si,post⟩
  |post=>
   walk_at "v"
   exact⟨B,s,_,Z,a,.post,rfl,ev,si,bnd,co,trivial,bi.po,stand_len si,post⟩
  |posted k=>
   simp only[Vbbraj.ranged,Sti.inside_iff]at hrg
   walk_at "v"
   exact⟨B,s,_,Z,a,.posted k,rfl,ev,si,bnd,co,hrg.1,bi.po,stand_len si,post⟩
  |score b p=>
   simp only[Vbbraj.ranged,Vbbraj.isBoard,Vbbraj.isPair,Bool.and_eq_true,Sti.inside_iff]at hrg
   obtain⟨b,rfl⟩:=Int.eq_ofNat_of_zero_le (show 0≤b by omega)
   obtain⟨p,rfl⟩:=Int.eq_ofNat_of_zero_le (show 0≤p by omega)
   have e:(Vbbraj.act s (.score b p)).1=s:=by
    simp only[Vbbraj.act]
    split
    ·rfl
    ·exact pairIn_same
   rw[e]at post
   walk_at "v"
   exact⟨B,s,_,Z,a,b,p,rfl,ev,si,by omega,.inl ⟨co,post⟩⟩
  |sheet b=>
   simp only[Vbbraj.ranged,Vbbraj.isBoard,Sti.inside_iff]at hrg
   obtain⟨b,rfl⟩:=Int.eq_ofNat_of_zero_le (show 0≤b by omega)
   walk_at "v"
   exact⟨B,s,_,Z,a,b,0,rfl,ev,si,by omega,.inr ⟨co,post⟩⟩
  |met p q=>
   simp only[Vbbraj.ranged,Vbbraj.isPair,Bool.and_eq_true,Sti.inside_iff]at hrg
   walk_at "v"
   exact⟨B,s,_,Z,a,.met p q,rfl,ev,si,co,⟨by omega,by omega⟩,rfl,by omega,by omega,post⟩
  |sittings p=>
   simp only[Vbbraj.ranged,Vbbraj.isPair,Sti.inside_iff]at hrg
   have e:(Vbbraj.act s (.sittings p)).1=s:=pairIn_same
   rw[e]at post
   walk_at "v"
   exact⟨B,s,_,Z,a,.sittings p,rfl,ev,si,co,(show 0≤p by omega),rfl,by omega,by omega,post⟩
  |missing=>
   walk_at "v"
   exact⟨B,s,_,Z,a,.missing,rfl,ev,si,co,trivial,rfl,by omega,by omega,post⟩
  |changes=>
   walk_at "v"
   exact⟨B,s,_,Z,a,.changes,rfl,ev,si,co,trivial,rfl,by omega,by omega,post⟩
  |appeals=>
   walk_at "v"
   exact⟨B,s,_,Z,a,.appeals,rfl,ev,si,co,trivial,rfl,by omega,by omega,post⟩
end
end
section
open Vbbraj (State Sitting)
open Sti (SInv Srt)
section
variable {P:Program}{w:World}{K:PySem.W.Frag}{mg:Str→Option Value}{base:Heap}
theorem EvO.recount{T:TX K mg}{Z:Addr→Bool}{H:Hp}{s:State}{c c':Nat}{A:EvA}{dx:Addr}(E:EvO T Z H s c A):EvO T Z (upd H A.p (.ins T.k_Event.C dx (fsEv s c' A))) s c' A:=by
 have mem:A.p∈A.own:=by simp[EvA.own]
 have n1:=EvA.ne E.nd
 have hh:=hid_own (A:=A) (Z:=Z) (H:=H) (o:=.ins T.k_Event.C dx (fsEv s c' A)) mem
 obtain⟨as,hs,ps1⟩:=E.hs
 obtain⟨kvs,he,R⟩:=E.he
 obtain⟨ks,hk,S⟩:=E.hh
 obtain⟨ds,hd,J⟩:=E.ha
 obtain⟨qs,ho,o1⟩:=E.hq
 obtain⟨ps,hpo,p1⟩:=E.ho
 exact⟨E.nd,E.zo,fun d hd=>by rw[upd_ne (E.zne mem hd)];exact E.zt d hd,⟨dx,upd_same⟩,⟨as,by rw[upd_ne n1.1.symm];exact hs,by rw[hh];exact ps1⟩,⟨kvs,by rw[upd_ne n1.2.1.symm];exact he,by rw[hh];exact R⟩,⟨ks,by rw[upd_ne n1.2.2.1.symm];exact hk,by rw[hh];exact S⟩,
  ⟨ds,by rw[upd_ne n1.2.2.2.1.symm];exact hd,J⟩,⟨qs,by rw[upd_ne n1.2.2.2.2.1.symm];exact ho,by rw[hh];exact o1⟩,⟨ps,by rw[upd_ne n1.2.2.2.2.2.1.symm];exact hpo,by rw[hh];exact p1⟩⟩
theorem EvO.zupd{T:TX K mg}{Z:Addr→Bool}{H:Hp}{s:State}{c:Nat}{A:EvA}{d:Addr}{o:HO}(E:EvO T Z H s c A)(hd:Z d=true):EvO T Z (upd H d o) s c A:=by
 have hh:hid A Z (upd H d o)=hid A Z H:=by
  funext b
  unfold hid
  split
  ·rfl
  ·rename_i q
   rw[upd_ne (fun z=>q (.inr (by rw[z];exact hd)))]
 have own:∀{b:Addr},b∈A.own→upd H d o b=H b:=fun{b} hb=>upd_ne (fun z=>by rw[←z,E.zo b hb]at hd;cases hd)
 obtain⟨dx,hp⟩:=E.hp
 obtain⟨as,hs,ps1⟩:=E.hs
 obtain⟨kvs,he,R⟩:=E.he
 obtain⟨ks,hk,S⟩:=E.hh
 obtain⟨ds,ha,J⟩:=E.ha
 obtain⟨qs,ho,o1⟩:=E.hq
 obtain⟨ps,hpo,p1⟩:=E.ho
 refine⟨E.nd,E.zo,fun b hb=>?_,⟨dx,(own (by simp[EvA.own])).trans hp⟩,⟨as,(own (by simp[EvA.own])).trans hs,by rw[hh];exact ps1⟩,⟨kvs,(own (by simp[EvA.own])).trans he,by rw[hh];exact R⟩,⟨ks,(own (by simp[EvA.own])).trans hk,by rw[hh];exact S⟩,
  ⟨ds,(own (by simp[EvA.own])).trans ha,J⟩,⟨qs,(own (by simp[EvA.own])).trans ho,by rw[hh];exact o1⟩,⟨ps,(own (by simp[EvA.own])).trans hpo,by rw[hh];exact p1⟩⟩
 by_cases z:b=d
 ·rw[z,upd_same]
  simp
 ·rw[upd_ne z]
  exact E.zt b hb
inductive J_counted_answer(T:TX K mg)(vs:List V)(H:Hp)(Q:VK):Prop
 |mk (A:EvA) (s:State) (n:Nat) (Z:Addr→Bool) (a:Addr) (call:Vbbraj.Call):vs=[.ref A.p,.ref a]→EvO T Z H s s.changes A→SInv s→BInv s n→n≤399→CallO T H a (num call) (plainOf call) (rowOf call)→Z a=true→Vbbraj.ranged call=true→num call≠0→Post T Z H A (Vbbraj.act s call).1 (Vbbraj.act s call).1.changes (Vbbraj.act s call).2 Q→J_counted_answer T vs H Q
noncomputable def sp_counted_answer(T:TX K mg):Sp:=fun vs H Q _=>J_counted_answer T vs H Q
theorem inV_counts(call:Vbbraj.Call):inV (V.int (num call)) [V.int 3,V.int 4,V.int 5,V.int 6,V.int 7,V.int 8,V.int 9,V.int 11]=counts (num call):=by cases call<;>rfl
theorem ok_counted_answer(T:TX K mg):FnOk P w K mg base CX0 9 T.f_counted_answer.f T.f_counted_answer.fd ["event","call"] (sp_counted_answer T):=by
 refine okL T.f_counted_answer.F sc_counted_answer (fun vs H Q E h=>?_) (fun cdv A outer s H vs Q E hr h=>?_)
 rotate_left;intro Xc;rotate_left
 ·obtain⟨A,s,n,Z,a,call,rfl,_⟩:=h
  rfl
 ·obtain⟨B,s,n,Z,a,call,rfl,ev,si,bi,hn,co,hza,hrg,hnz,post⟩:=h
  obtain⟨h0,t0,ha,hle,hch⟩:=act_ans si call hnz
  refine⟨_,(pss_cons (ps_set (i:=2) sc_counted_answer.nd rfl (by walk_at "or") (pe_call (ok_event_answer T) (hr.mono (by decide)) rfl T.f_event_answer.m T.f_event_answer.F.kp T.f_event_answer.b .nil pass0 (pa_cons (pv 0) (pa_cons (pv 1) pa_nil)))) (pss_cons (ps_if (PW.pt (pw_and (pt_cmpR op_eq (pe_ix ix_list (pv 2) pe_int (fun _ _=>rfl)) pe_int (nomark _)) (pw_and1 (pt_cmpR op_in_seq (pe_fld (pv 1) rfl) (pe_gt rfl T.c_CALLS_THAT_CHANGE) (by with_unfolding_all rfl))))) (pss_one (ps_fld (pv 0) (pe_op op_add (pe_fld (pv 0) rfl) pe_int) rfl)) pss_nil) (pss_one (ps_ret (pv 2))))),?_⟩
  refine⟨_,rfl,_,rfl,?_⟩
  refine⟨B,s,n,Z,a,call,rfl,ev,si,bi,hn,co,hrg,hnz,fun H1 A1 q eA ev1 zk hq=>?_⟩
  rw[ha]at hq
  have sq:SqL K H1 q (.int h0::t0.map V.int):=SqL.of hq
  have z0:atI (.int h0::t0.map V.int) 0=some (.int h0):=at_of (j:=0) rfl rfl
  obtain⟨dc,ap,ar,hc,_⟩:=id co
  have hc1:H1 a=_:=(zk a hza).trans hc
  have hq':H1 q=some (.lst ((Vbbraj.act s call).2.map V.int)):=by rw[ha];exact hq
  have keep:¬(h0=0∧counts (num call)=true)→Q (.ref q) H1:=fun hno=>by
   rw[if_neg hno]at hch
   exact post H1 A1 q eA (by rw[hch];exact ev1) zk hq'
  have hw:=inV_counts call
  walk_at "v"
  refine⟨_,_,_,_,rfl,rfl,sq,z0,?_⟩
  walk_at "v"
  refine ite2 (fun hz=>?_) (fun hz=>?_)
  ·have hz:h0=0:=by simpa using hz
   walk_at "v"
   refine fun b hb=>⟨_,_,rfl,.inr (hb _),rfl,rfl,?_⟩
   refine⟨_,rfl,ite2 (fun h=>?_) (fun h=>?_)⟩
   ·have h:inV (V.int (num call)) [V.int 3,V.int 4,V.int 5,V.int 6,V.int 7,V.int 8,V.int 9,V.int 11]=true:=h
    rw[hw]at h
    rw[if_pos ⟨hz,h⟩]at hch
    obtain⟨dp,hp⟩:=ev1.hp
    rw[eA]at hp
    walk_at "v"
    refine⟨B.p,_,dp,_,rfl,hp,T.k_Event.cl,T.k_Event.na _ rfl,nle0 rfl,?_⟩
    have ev2:=ev1.recount (dx:=dp) (c':=s.changes+1)
    rw[eA]at ev2
    have qp:q≠B.p:=ne_of hq hp (fun z=>nomatch z)
    refine Ev.x1 rfl ?_
    refine post _ A1 q eA (by rw[hch];exact ev2) (fun d hd=>?_) ?_
    ·show upd H1 B.p _ d=H d
     rw[upd_ne (ev.zne (by simp[EvA.own]) hd)]
     exact zk d hd
    ·show upd H1 B.p _ q=_
     rw[upd_ne qp]
     exact hq'
   ·have h:¬inV (V.int (num call)) [V.int 3,V.int 4,V.int 5,V.int 6,V.int 7,V.int 8,V.int 9,V.int 11]=true:=h
    rw[hw]at h
    exact⟨_,rfl,keep fun z=>h z.2⟩
  ·have hz:h0≠0:=by simpa using hz
   refine iteF ?_
   exact⟨_,rfl,keep fun z=>hz z.1⟩
end
end
section
open Vbbraj (State Sitting)
open Sti (SInv Srt)
section
variable {P:Program}{w:World}{K:PySem.W.Frag}{mg:Str→Option Value}{base:Heap}
theorem rng_eq(call:Vbbraj.Call){bs:List (Int×Int)}(h:(num call,bs)∈tab_RANGES):((!withRow (num call)||Vbbrah.isResult (rowOf call))&&plainOk (plainOf call) bs)=Vbbraj.ranged call:=by
 cases call
 all_goals
  have h:=tab_fun h
  dsimp [num,tab_RANGES,List.lookup]at h
  subst h
  rw[Bool.eq_iff_iff]
  simp only[withRow,plainOk,plainOf,rowOf,num,Vbbraj.ranged,Vbbraj.isKey,Vbbraj.isRound,Vbbraj.isTable,Vbbraj.isPair,Vbbraj.isBoard,List.zip_cons_cons,List.zip_nil_left,List.all_cons,List.all_nil,Bool.and_true,Bool.and_eq_true,Bool.or_eq_true,Bool.not_eq_true',decide_eq_false_iff_not,Sti.inside_iff]
  first
   |(simp;done)
   |(simp;omega)
   |(constructor<;>intro q<;>simp_all<;>omega)
   |(constructor<;>intro q<;>simp_all)
noncomputable def DeskO(T:TX K mg)(Z:Addr→Bool)(H:Hp)(d:Addr)(s:State):Prop:=(∀b,Z b=true→H b≠none)∧∃dx,(s=Vbbraj.none_∧H d=some (.ins T.k_Desk.C dx [("event",.non)]))∨∃A:EvA,H d=some (.ins T.k_Desk.C dx [("event",.ref A.p)])∧EvO T Z H s s.changes A∧SInv s
theorem none_binv(n:Nat):BInv Vbbraj.none_ n:=⟨Nat.zero_le _,Nat.zero_le _,Nat.zero_le _,fun b e he=>by
 unfold Vbbraj.sheet at he
 split at he
 ·cases he
 ·simp[Vbbraj.none_]at he,fun z hz=>(by cases hz),by simp[Vbbraj.none_],fun l hl=>by(cases hl)⟩
inductive J_answer_to(T:TX K mg)(vs:List V)(H:Hp)(Q:VK):Prop
 |mk (Z:Addr→Bool) (d a:Addr) (s:State) (n:Nat) (call:Vbbraj.Call) (bs:List (Int×Int)):vs=[.ref d,.ref a]→DeskO T Z H d s→CallO T H a (num call) (plainOf call) (rowOf call)→(num call,bs)∈tab_RANGES→(plainOf call).length=bs.length→Z d=true→Z a=true→BInv s n→n≤399→(∀H' q,DeskO T Z H' d (Vbbraj.step s call).1→(∀b,Z b=true→b≠d→H' b=H b)→H' q=some (.lst ((Vbbraj.step s call).2.map V.int))→Q (.ref q) H')→J_answer_to T vs H Q
noncomputable def sp_answer_to(T:TX K mg):Sp:=fun vs H Q _=>J_answer_to T vs H Q
theorem num0{call:Vbbraj.Call}(h:num call=0):∃n b,call=.new n b:=by
 cases call with
 |new n b=>exact⟨n,b,rfl⟩
 |_=>cases h
theorem DeskO.grow{T:TX K mg}{Z:Addr→Bool}{H H':Hp}{d:Addr}{s:State}(sm:Same H H')(h:DeskO T Z H d s):DeskO T Z H' d s:=by
 obtain⟨zt,dx,h⟩:=h
 refine⟨fun b hb=>?_,dx,?_⟩
 ·cases e:H b with
  |none=>exact absurd e (zt b hb)
  |some o=>rw[sm b o e];simp
 ·rcases h with⟨h1,h2⟩|⟨A,h1,h2,h3⟩
  ·exact .inl ⟨h1,sm _ _ h2⟩
  ·exact .inr ⟨A,sm _ _ h1,h2.grow sm,h3⟩
theorem DeskO.zk{T:TX K mg}{Z:Addr→Bool}{H H':Hp}{d:Addr}{s:State}(sm:Same H H')(h:DeskO T Z H d s):∀b,Z b=true→H' b=H b:=fun b hb=>by
 cases e:H b with
 |none=>exact absurd e (h.1 b hb)
 |some o=>exact sm b o e
theorem ok_answer_to(T:TX K mg):FnOk P w K mg base CX0 10 T.f_answer_to.f T.f_answer_to.fd ["desk","call"] (sp_answer_to T):=by
 refine okL T.f_answer_to.F sc_answer_to (fun vs H Q E h=>?_) (fun cdv A outer s H vs Q E hr h=>?_)
 rotate_left;intro Xc;rotate_left
 ·obtain⟨Z,d,a,s,n,call,bs,rfl,_⟩:=h
  rfl
 ·obtain⟨Z,d,a,s,n,call,bs,rfl,de,co,hin,hlen,hzd,hza,bi,hn,k⟩:=h
  have rg:=rng_eq call hin
  refine⟨_,(pss_cons (ps_if (pt_not (pt_val (pe_call (ok_is_in_range T) (hr.mono (by decide)) rfl T.f_is_in_range.m T.f_is_in_range.F.kp T.f_is_in_range.b .nil pass0 (pa_cons (pv 1) pa_nil)))) (pss_one (ps_ret (pe_lst (pa_cons (pe_g rfl T.c_OUT_OF_RANGE) pa_nil)))) pss_nil) (pss_cons (ps_if (pt_cmpR op_eq (pe_fld (pv 1) rfl) (pe_g rfl T.c_NEW) (nomark _)) (pss_cons (ps_fld (pv 0) (pe_make T.k_Event.mkk (ok_Event_init T) (hr.mono (by decide)) rfl T.k_Event.m T.k_Event.b .nil pass0 (pa_cons (pe_ix ix_list (pe_fld (pv 1) rfl) pe_int (fun _ _=>rfl)) (pa_cons (pe_ix ix_list (pe_fld (pv 1) rfl) pe_int (fun _ _=>rfl)) pa_nil))) rfl) (pss_one (ps_ret (pe_lst (pa_cons pe_int pa_nil))))) pss_nil) (pss_cons (ps_if (pt_cmp (pc_isN (pe_fld (pv 0) rfl))) (pss_one (ps_ret (pe_lst (pa_cons (pe_g rfl T.c_NO_EVENT) pa_nil)))) pss_nil) (pss_one (ps_ret (pe_call (ok_counted_answer T) (hr.mono (by decide)) rfl T.f_counted_answer.m T.f_counted_answer.F.kp T.f_counted_answer.b .nil pass0 (pa_cons (pe_fld (pv 0) rfl) (pa_cons (pv 1) pa_nil)))))))),?_⟩
  refine Ev.x1 rfl ?_
  refine⟨a,num call,_,_,bs,rfl,co,hin,hlen,fun H1 sm=>?_⟩
  rw[rg]
  have de1:=de.grow sm
  have zk1:=de.zk sm
  refine⟨_,rfl,ite2 (fun h=>?_) (fun h=>?_)⟩
  ·have h:Vbbraj.ranged call=false:=by simpa using h
   have hst:Vbbraj.step s call=(s,[-1]):=by
    unfold Vbbraj.step
    rw[if_pos h]
   rw[hst]at k
   walk_at "v"
   refine⟨nle0 rfl,fun q nq=>?_⟩
   exact k _ q (de1.grow (same_new nq)) (fun b hb _=>by rw[de1.zk (same_new nq) b hb,zk1 b hb]) upd_same
  ·have h:Vbbraj.ranged call=true:=by simpa using h
   have co1:=co.mono sm
   obtain⟨dc,ap,ar,hc,hpl,hrw⟩:=id co1
   obtain⟨zt,dx,hd⟩:=id de1
   walk_at "v"
   refine ite2 (fun h0=>?_) (fun h0=>?_)
   ·have h0:num call=0:=by simpa using h0
    obtain⟨x,y,rfl⟩:=num0 h0
    have hrg:=h
    simp only[Vbbraj.ranged,Vbbraj.isBoard,Bool.and_eq_true,Sti.inside_iff]at hrg
    obtain⟨x,rfl⟩:=Int.eq_ofNat_of_zero_le (show 0≤x by omega)
    obtain⟨y,rfl⟩:=Int.eq_ofNat_of_zero_le (show 0≤y by omega)
    have hst:Vbbraj.step s (.new x y)=(Vbbraj.begun x y,[0]):=by
     unfold Vbbraj.step
     rw[if_neg (by rw[h];simp)]
     simp only[Int.toNat_natCast]
    rw[hst]at k
    have sq:SqL K H1 ap [iN x,iN y]:=SqL.of hpl
    walk_at "v"
    intro e de_ ne nde nee
    have ze:Z e=false:=by
     cases q:Z e with
     |false=>rfl
     |true=>exact absurd ne (zt e q)
    have hk0:∀b,Z b=true→upd (upd H1 de_ (.own e)) e (.ins T.k_Event.C de_ []) b=H1 b:=fun b hb=>by
     rw[upd_ne (fun z=>by rw[z,ze]at hb;cases hb),upd_ne (fun z=>by rw[z]at hb;exact zt _ hb nde)]
    refine⟨e,de_,x,y,Z,rfl,upd_same,ze,fun b hb=>by rw[hk0 b hb];exact zt b hb,fun H2 A eA ev kz=>?_⟩
    refine⟨rfl,?_⟩
    have kd:H2 d=H1 d:=(kz d hzd).trans (hk0 d hzd)
    obtain⟨fs,hfs⟩:∃fs,H1 d=some (.ins T.k_Desk.C dx [("event",fs)]):=by
     rcases hd with⟨_,h⟩|⟨A,h,_⟩
     ·exact⟨_,h⟩
     ·exact⟨_,h⟩
    refine⟨_,rfl,d,_,dx,_,rfl,kd.trans hfs,T.k_Desk.cl,T.k_Desk.na _ rfl,nle0 rfl,?_⟩
    have ev2:=ev.zupd (d:=d) (o:=.ins T.k_Desk.C dx [("event",.ref e)]) hzd
    have si2:SInv (Vbbraj.begun x y):=Sti.begun_inv (by omega) (by omega) (by omega) (by omega)
    walk_at "v"
    refine⟨nle0 rfl,fun q nq=>?_⟩
    have sq2:Same (upd H2 d (.ins T.k_Desk.C dx [("event",.ref e)])) (upd (upd H2 d (.ins T.k_Desk.C dx [("event",.ref e)])) q (.lst [.int 0])):=same_new nq
    have hd2:upd H2 d (.ins T.k_Desk.C dx [("event",.ref e)]) d=some (.ins T.k_Desk.C dx [("event",.ref A.p)]):=by rw[upd_same,eA]
    have de2:DeskO T Z (upd H2 d (.ins T.k_Desk.C dx [("event",.ref e)])) d (Vbbraj.begun x y):=⟨ev2.zt,dx,.inr ⟨A,hd2,ev2,si2⟩⟩
    refine k _ q (de2.grow sq2) (fun b hb hne=>?_) upd_same
    show upd (upd H2 d (.ins T.k_Desk.C dx [("event",.ref e)])) q (.lst [.int 0]) b=H b
    rw[de2.zk sq2 b hb,upd_ne hne,kz b hb,hk0 b hb,zk1 b hb]
   ·have h0:num call≠0:=by simpa using h0
    have hst:Vbbraj.step s call=if s.pairs=0 then(s,[-3])else Vbbraj.act s call:=by
     unfold Vbbraj.step
     rw[if_neg (by rw[h];simp)]
     cases call with
     |new=>exact absurd rfl h0
     |_=>rfl
    rw[hst]at k
    rcases hd with⟨hs,hd⟩|⟨A,hd,ev,si⟩
    ·rw[if_pos (by rw[hs];rfl)]at k
     walk_at "w"
     refine⟨nle0 rfl,fun q nq=>?_⟩
     exact k _ q (de1.grow (same_new nq)) (fun b hb _=>by rw[de1.zk (same_new nq) b hb,zk1 b hb]) upd_same
    ·rw[if_neg (by have:=si.p1;omega)]at k
     walk_at "w"
     refine⟨A,s,n,Z,a,call,rfl,ev,si,bi,hn,co1,hza,h,h0,fun H2 A2 q eA ev2 kz hq=>?_⟩
     refine k H2 q ⟨ev2.zt,dx,.inr ⟨A2,?_,ev2,Sti.act_inv si call h⟩⟩ (fun b hb _=>by rw[kz b hb,zk1 b hb]) hq
     rw[kz d hzd,eA]
     exact hd
end
end
section
open Vbbraj (State Sitting)
open Sti (SInv Srt)
section
variable {P:Program}{w:World}{K:PySem.W.Frag}{mg:Str→Option Value}{base:Heap}
theorem len0{l:List Int}(h:l.length=0):l=[]:=List.eq_nil_of_length_eq_zero h
theorem len1{l:List Int}(h:l.length=1):∃a0,l=[a0]:=by
 match l,h with
 |[a0],_=>exact⟨a0,rfl⟩
theorem len2{l:List Int}(h:l.length=2):∃a0 a1,l=[a0,a1]:=by
 match l,h with
 |[a0,a1],_=>exact⟨a0,a1,rfl⟩
theorem len3{l:List Int}(h:l.length=3):∃a0 a1 a2,l=[a0,a1,a2]:=by
 match l,h with
 |[a0,a1,a2],_=>exact⟨a0,a1,a2,rfl⟩
theorem len4{l:List Int}(h:l.length=4):∃a0 a1 a2 a3,l=[a0,a1,a2,a3]:=by
 match l,h with
 |[a0,a1,a2,a3],_=>exact⟨a0,a1,a2,a3,rfl⟩
theorem len5{l:List Int}(h:l.length=5):∃a0 a1 a2 a3 a4,l=[a0,a1,a2,a3,a4]:=by
 match l,h with
 |[a0,a1,a2,a3,a4],_=>exact⟨a0,a1,a2,a3,a4,rfl⟩
theorem len6{l:List Int}(h:l.length=6):∃a0 a1 a2 a3 a4 a5,l=[a0,a1,a2,a3,a4,a5]:=by
 match l,h with
 |[a0,a1,a2,a3,a4,a5],_=>exact⟨a0,a1,a2,a3,a4,a5,rfl⟩
theorem len7{l:List Int}(h:l.length=7):∃a0 a1 a2 a3 a4 a5 a6,l=[a0,a1,a2,a3,a4,a5,a6]:=by
 match l,h with
 |[a0,a1,a2,a3,a4,a5,a6],_=>exact⟨a0,a1,a2,a3,a4,a5,a6,rfl⟩
theorem len8{l:List Int}(h:l.length=8):∃a0 a1 a2 a3 a4 a5 a6 a7,l=[a0,a1,a2,a3,a4,a5,a6,a7]:=by
 match l,h with
 |[a0,a1,a2,a3,a4,a5,a6,a7],_=>exact⟨a0,a1,a2,a3,a4,a5,a6,a7,rfl⟩
theorem callP_call{T:TX K mg}{H:Hp}{a:Addr}{c:List (List Int)}(h:CallP T H a c):∃(call:Vbbraj.Call) (bs:List (Int×Int)),VbbrajNeutral.callOf c=some call∧CallO T H a (num call) (plainOf call) (rowOf call)∧(num call,bs)∈tab_RANGES∧(plainOf call).length=bs.length:=by
 obtain⟨n,pl,rw_,bs,co,hin,hlen,hc⟩:=h
 have hin0:=hin
 simp only[tab_RANGES,List.mem_cons,List.not_mem_nil,or_false,Prod.mk.injEq]at hin
 rcases hin with⟨rfl,rfl⟩|⟨rfl,rfl⟩|⟨rfl,rfl⟩|⟨rfl,rfl⟩|⟨rfl,rfl⟩|⟨rfl,rfl⟩|⟨rfl,rfl⟩|⟨rfl,rfl⟩|⟨rfl,rfl⟩|⟨rfl,rfl⟩|⟨rfl,rfl⟩|⟨rfl,rfl⟩|⟨rfl,rfl⟩|⟨rfl,rfl⟩|⟨rfl,rfl⟩|⟨rfl,rfl⟩|⟨rfl,rfl⟩|⟨rfl,rfl⟩|⟨rfl,rfl⟩|⟨rfl,rfl⟩|⟨rfl,rfl⟩|⟨rfl,rfl⟩|⟨rfl,rfl⟩
 ·obtain⟨a0,a1,rfl⟩:=len2 hlen
  obtain⟨h,_⟩|⟨_,rfl,rfl⟩:=hc
  ·cases h
  ·exact⟨.new a0 a1,_,rfl,co,hin0,hlen⟩
 ·obtain⟨a0,a1,a2,a3,a4,a5,rfl⟩:=len6 hlen
  obtain⟨h,_⟩|⟨_,rfl,rfl⟩:=hc
  ·cases h
  ·exact⟨.sit a0 a1 a2 a3 a4 a5,_,rfl,co,hin0,hlen⟩
 ·obtain⟨a0,a1,rfl⟩:=len2 hlen
  obtain⟨h,_⟩|⟨_,rfl,rfl⟩:=hc
  ·cases h
  ·exact⟨.unsit a0 a1,_,rfl,co,hin0,hlen⟩
 ·obtain⟨a0,a1,a2,rfl⟩:=len3 hlen
  obtain⟨_,rfl⟩|⟨h,_⟩:=hc
  ·exact⟨.result a0 a1 a2 rw_,_,rfl,co,hin0,hlen⟩
  ·cases h
 ·obtain⟨a0,a1,a2,a3,a4,a5,a6,a7,rfl⟩:=len8 hlen
  obtain⟨h,_⟩|⟨_,rfl,rfl⟩:=hc
  ·cases h
  ·exact⟨.played a0 a1 a2 a3 a4 a5 a6 a7,_,rfl,co,hin0,hlen⟩
 ·obtain⟨a0,a1,a2,rfl⟩:=len3 hlen
  obtain⟨h,_⟩|⟨_,rfl,rfl⟩:=hc
  ·cases h
  ·exact⟨.passed a0 a1 a2,_,rfl,co,hin0,hlen⟩
 ·obtain⟨a0,a1,a2,a3,a4,rfl⟩:=len5 hlen
  obtain⟨h,_⟩|⟨_,rfl,rfl⟩:=hc
  ·cases h
  ·exact⟨.average a0 a1 a2 a3 a4,_,rfl,co,hin0,hlen⟩
 ·obtain⟨a0,a1,a2,a3,rfl⟩:=len4 hlen
  obtain⟨h,_⟩|⟨_,rfl,rfl⟩:=hc
  ·cases h
  ·exact⟨.foul a0 a1 a2 a3,_,rfl,co,hin0,hlen⟩
 ·obtain⟨a0,a1,a2,rfl⟩:=len3 hlen
  obtain⟨h,_⟩|⟨_,rfl,rfl⟩:=hc
  ·cases h
  ·exact⟨.remove a0 a1 a2,_,rfl,co,hin0,hlen⟩
 ·obtain⟨a0,a1,rfl⟩:=len2 hlen
  obtain⟨h,_⟩|⟨_,rfl,rfl⟩:=hc
  ·cases h
  ·exact⟨.adjust a0 a1,_,rfl,co,hin0,hlen⟩
 ·obtain⟨a0,a1,a2,rfl⟩:=len3 hlen
  obtain⟨h,_⟩|⟨_,rfl,rfl⟩:=hc
  ·cases h
  ·exact⟨.appeal a0 a1 a2,_,rfl,co,hin0,hlen⟩
 ·obtain⟨a0,a1,a2,rfl⟩:=len3 hlen
  obtain⟨_,rfl⟩|⟨h,_⟩:=hc
  ·exact⟨.ruling a0 a1 a2 rw_,_,rfl,co,hin0,hlen⟩
  ·cases h
 ·obtain⟨a0,rfl⟩:=len1 hlen
  obtain⟨h,_⟩|⟨_,rfl,rfl⟩:=hc
  ·cases h
  ·exact⟨.total a0,_,rfl,co,hin0,hlen⟩
 ·obtain rfl:=len0 hlen
  obtain⟨h,_⟩|⟨_,rfl,rfl⟩:=hc
  ·cases h
  ·exact⟨.standings,_,rfl,co,hin0,hlen⟩
 ·obtain rfl:=len0 hlen
  obtain⟨h,_⟩|⟨_,rfl,rfl⟩:=hc
  ·cases h
  ·exact⟨.post,_,rfl,co,hin0,hlen⟩
 ·obtain⟨a0,rfl⟩:=len1 hlen
  obtain⟨h,_⟩|⟨_,rfl,rfl⟩:=hc
  ·cases h
  ·exact⟨.posted a0,_,rfl,co,hin0,hlen⟩
 ·obtain⟨a0,a1,rfl⟩:=len2 hlen
  obtain⟨h,_⟩|⟨_,rfl,rfl⟩:=hc
  ·cases h
  ·exact⟨.score a0 a1,_,rfl,co,hin0,hlen⟩
 ·obtain⟨a0,rfl⟩:=len1 hlen
  obtain⟨h,_⟩|⟨_,rfl,rfl⟩:=hc
  ·cases h
  ·exact⟨.sheet a0,_,rfl,co,hin0,hlen⟩
 ·obtain⟨a0,a1,rfl⟩:=len2 hlen
  obtain⟨h,_⟩|⟨_,rfl,rfl⟩:=hc
  ·cases h
  ·exact⟨.met a0 a1,_,rfl,co,hin0,hlen⟩
 ·obtain⟨a0,rfl⟩:=len1 hlen
  obtain⟨h,_⟩|⟨_,rfl,rfl⟩:=hc
  ·cases h
  ·exact⟨.sittings a0,_,rfl,co,hin0,hlen⟩
 ·obtain rfl:=len0 hlen
  obtain⟨h,_⟩|⟨_,rfl,rfl⟩:=hc
  ·cases h
  ·exact⟨.missing,_,rfl,co,hin0,hlen⟩
 ·obtain rfl:=len0 hlen
  obtain⟨h,_⟩|⟨_,rfl,rfl⟩:=hc
  ·cases h
  ·exact⟨.changes,_,rfl,co,hin0,hlen⟩
 ·obtain rfl:=len0 hlen
  obtain⟨h,_⟩|⟨_,rfl,rfl⟩:=hc
  ·cases h
  ·exact⟨.appeals,_,rfl,co,hin0,hlen⟩
theorem whole_tab{n:Int}{pl:List Int}{xs:List (List Int)}{bs:List (Int×Int)}(hin:(n,bs)∈tab_RANGES)(hlen:pl.length=bs.length)(hr:(∃r,xs=[r])∧withRow n=true∨xs=[]∧withRow n=false):PyVbbraj.whole ((n::pl)::xs)=(n::pl)::xs:=by
 simp only[tab_RANGES,List.mem_cons,List.not_mem_nil,or_false,Prod.mk.injEq]at hin
 rcases hin with⟨rfl,rfl⟩|⟨rfl,rfl⟩|⟨rfl,rfl⟩|⟨rfl,rfl⟩|⟨rfl,rfl⟩|⟨rfl,rfl⟩|⟨rfl,rfl⟩|⟨rfl,rfl⟩|⟨rfl,rfl⟩|⟨rfl,rfl⟩|⟨rfl,rfl⟩|⟨rfl,rfl⟩|⟨rfl,rfl⟩|⟨rfl,rfl⟩|⟨rfl,rfl⟩|⟨rfl,rfl⟩|⟨rfl,rfl⟩|⟨rfl,rfl⟩|⟨rfl,rfl⟩|⟨rfl,rfl⟩|⟨rfl,rfl⟩|⟨rfl,rfl⟩|⟨rfl,rfl⟩
 all_goals
  first
   |obtain rfl:=len0 hlen
   |obtain⟨_,rfl⟩:=len1 hlen
   |obtain⟨_,_,rfl⟩:=len2 hlen
   |obtain⟨_,_,_,rfl⟩:=len3 hlen
   |obtain⟨_,_,_,_,rfl⟩:=len4 hlen
   |obtain⟨_,_,_,_,_,rfl⟩:=len5 hlen
   |obtain⟨_,_,_,_,_,_,rfl⟩:=len6 hlen
   |obtain⟨_,_,_,_,_,_,_,_,rfl⟩:=len8 hlen
  obtain⟨⟨_,rfl⟩,h⟩|⟨rfl,h⟩:=hr
  all_goals first|rfl|cases h
theorem calls_whole:∀(cs:List (List (List Int))) {f:Nat} {l:List Int},PyFlat.calls PyVbbraj.shape f l=some cs→cs.map PyVbbraj.whole=cs
 |[],_,_,_=>rfl
 |c::cs,f,[],h=>by cases f<;>simp[PyFlat.calls]at h
 |c::cs,f,p::r,h=>by
  obtain⟨f',n,kk,xs,t,cs',hs,hl,hr,hc,e⟩:=calls_cons h
  injection e with e1 e2
  subst e1 e2
  obtain⟨bs,hin,hb,hk⟩:=shape_tab hs
  rw[List.map_cons,calls_whole cs hc,whole_tab hin (by rw[List.length_take];omega)]
  obtain⟨rfl,hw⟩|⟨rfl,hw⟩:=hk
  ·obtain⟨m,r',_,_,h5,_⟩:=rows1 hr
   exact .inl ⟨⟨_,h5⟩,hw⟩
  ·simp only[PyFlat.rows]at hr
   cases hr
   exact .inr ⟨rfl,hw⟩
theorem frac_len(f:VFr):(Vbbrah.frac f).length=2:=rfl
theorem act_len{s:State}{n:Nat}(si:SInv s)(bi:BInv s n)(c:Vbbraj.Call):(Vbbraj.act s c).2.length≤120*n+3100:=by
 have onP:∀(r t b:Int) (f:Sitting→State×List Int),(∀x,(f x).2.length≤3)→(Vbbraj.onPlace s r t b f).2.length≤120*n+3100:=fun r t b f hf=>by
  unfold Vbbraj.onPlace
  split
  ·simp
  ·split
   ·simp
   ·exact Nat.le_trans (hf _) (by omega)
 have pIn:∀(p:Int) (f:Nat→State×List Int),(f p.toNat).2.length≤120*n+3100→(Vbbraj.pairIn s p f).2.length≤120*n+3100:=fun p f hf=>by
  unfold Vbbraj.pairIn
  split
  ·simp
  ·exact hf
 have h1:=bi.st
 have h2:=bi.ap
 cases c with
 |new n b=>simp[Vbbraj.act]
 |sit r t n e f c=>
  simp only[Vbbraj.act]
  split<;>simp
 |unsit r t=>
  simp only[Vbbraj.act]
  split
  ·simp
  ·split<;>simp
 |result r t b l=>exact onP r t b _ fun x=>by simp
 |played r t b l st d p k=>exact onP r t b _ fun x=>by simp
 |passed r t b=>exact onP r t b _ fun x=>by simp
 |average r t b p q=>exact onP r t b _ fun x=>by simp
 |foul r t b g=>exact onP r t b _ fun x=>by split<;>simp
 |remove r t b=>exact onP r t b _ fun x=>by split<;>simp
 |adjust p z=>exact pIn p _ (by simp)
 |appeal r t b=>exact onP r t b _ fun x=>by split<;>simp
 |ruling r t b l=>
  simp only[Vbbraj.act]
  split
  ·simp
  ·split<;>simp
 |post=>
  simp only[Vbbraj.act]
  split<;>simp[Vbbraj.ok,Vbbraj.ints]
 |total p=>
  refine pIn p _ ?_
  split<;>simp[frac_len]<;>omega
 |score b p=>
  simp only[Vbbraj.act]
  split
  ·simp
  ·refine pIn p _ ?_
   split<;>simp[frac_len]<;>omega
 |sittings p=>
  refine pIn p _ ?_
  show(0::Vbbraj.ints _).length≤_
  rw[seen_all,List.length_cons]
  have:=flat_le (seen_len p.toNat) s.sittings
  omega
 |standings=>
  show(0::flat3 (Vbbraj.standings s)).length≤_
  rw[List.length_cons,flat3_len]
  have:=stand_len si
  omega
 |posted k=>
  simp only[Vbbraj.act]
  split
  ·simp
  ·rename_i l hl
   show(0::flat3 l).length≤_
   rw[List.length_cons,flat3_len]
   have:=bi.po l (List.mem_of_getElem? hl)
   omega
 |sheet b=>
  simp only[Vbbraj.act]
  split
  ·simp
  ·rw[List.length_cons,flat_len (n:=5) (fun e=>by simp[frac_len])]
   have:=sheet_len si b.toNat
   omega
 |met p q=>
  simp only[Vbbraj.act]
  split<;>simp[Vbbraj.ok,Vbbraj.ints]
 |missing=>
  show(0::Vbbraj.ints _).length≤_
  rw[miss_all,List.length_cons]
  have gen:∀l:List Sitting,(∀y∈l,y∈s.sittings)→(l.flatMap fun x=>missJ s x x.count).length≤120*l.length:=by
   intro l
   induction l with
   |nil=>intro _;simp
   |cons y l ih=>
    intro hy
    have:=ih fun z hz=>hy z (by simp[hz])
    have h1:=missJ_len s y y.count
    have so:=si.so y (hy y (by simp))
    have:=so.fc
    have:=so.f1
    have:=si.b2
    rw[List.flatMap_cons,List.length_append,List.length_cons]
    omega
  have:=gen s.sittings fun _ h=>h
  omega
 |changes=>simp[Vbbraj.act,Vbbraj.ok,Vbbraj.ints]
 |appeals=>
  show(0::Vbbraj.ints _).length≤_
  rw[apps_all,List.length_cons,flat_len (n:=3) (fun _=>rfl)]
  omega
noncomputable def stS(s:State)(cs:List (List (List Int))):State:=cs.foldl (fun s c=>(VbbrajNeutral.step s c).1) s
theorem played_snoc:∀(l:List (List (List Int))) (s:State) (c:List (List Int)),PyFlat.played VbbrajNeutral.step s (l++[c])=PyFlat.played VbbrajNeutral.step s l++[(VbbrajNeutral.step (stS s l) c).2]
 |[],s,c=>rfl
 |d::l,s,c=>by
  show(VbbrajNeutral.step s d).2::PyFlat.played VbbrajNeutral.step (VbbrajNeutral.step s d).1 (l++[c])=_
  rw[played_snoc l]
  rfl
theorem step_all{s:State}{n:Nat}(hs:s=Vbbraj.none_∨SInv s)(bi:BInv s n)(call:Vbbraj.Call):(∃h t,(Vbbraj.step s call).2=h::t∧h≤0)∧(Vbbraj.step s call).2.length≤120*n+3100∧BInv (Vbbraj.step s call).1 (n+1):=by
 unfold Vbbraj.step
 split
 ·exact⟨⟨_,_,rfl,by decide⟩,by simp,bi.up⟩
 ·rename_i hr
  have hr:Vbbraj.ranged call=true:=by simpa using hr
  split
  ·exact⟨⟨_,_,rfl,by decide⟩,by simp,begun_binv _ _ _⟩
  ·rename_i hnn
   split
   ·exact⟨⟨_,_,rfl,by decide⟩,by simp,bi.up⟩
   ·rename_i hp
    rcases hs with rfl|si
    ·exact absurd rfl hp
    ·have h0:num call≠0:=fun z=>by
      obtain⟨x,y,rfl⟩:=num0 z
      exact hnn x y rfl
     obtain⟨h,t,e1,e2,_⟩:=act_ans si call h0
     exact⟨⟨h,t,e1,e2⟩,act_len si bi call,act_binv si bi call hr⟩
end
end
section
open Vbbraj (State Sitting)
open Sti (SInv Srt)
section
variable {P:Program}{w:World}{K:PySem.W.Frag}{mg:Str→Option Value}{base:Heap}
noncomputable def spE(K:PySem.W.Frag):Sp:=fun vs H Q _=>∃(l:Addr) (ns:List Int) (cs:List (List (List Int))),vs=[.ref l]∧SqL K H l (ns.map V.int)∧ns.length≤16000∧PyFlat.calls PyVbbraj.shape ns.length ns=some cs∧cs.length≤400∧cs≠[]∧
 ∀H' y,H' y=some (.lst ((PyFlat.told (PyFlat.played VbbrajNeutral.step VbbrajNeutral.start cs)).map V.int))→Q (.ref y) H'
theorem told_snoc(l:List (List Int))(a:List Int):PyFlat.told (l++[a])=PyFlat.told l++((a.length:Int)::a):=by
 unfold PyFlat.told
 rw[List.flatMap_append]
 simp
theorem ok_answers(T:TX K mg):FnOk P w K mg base CX0 11 T.f_answers.f T.f_answers.fd ["calls"] (spE K):=by
 refine T.f_answers.F.ok sc_answers (fun vs H Q E h=>?_) (fun cdv A outer s H vs Q E hr h=>?_)
 ·obtain⟨l,ns,cs,rfl,_⟩:=h
  rfl
 ·obtain⟨l,ns,cs,rfl,sq0,hlen,hcs,h400,hne,k⟩:=h
  refine⟨_,(pss_cons (ps_set (i:=1) sc_answers.nd rfl (by walk_at "or") (pe_make0 T.k_Desk.mkk (ok_Desk_init T) (hr.mono (by decide)) rfl T.k_Desk.m T.k_Desk.b .nil pass0)) (pss_cons (ps_set (i:=2) sc_answers.nd rfl (by walk_at "or") (pe_lst pa_nil)) (pss_cons (ps_for PassesOwn.never rfl (pi_list (pe_call (ok_read_calls T) (hr.mono (by decide)) rfl T.f_read_calls.m T.f_read_calls.F.kp T.f_read_calls.b .nil pass0 (pa_cons (pv 0) pa_nil))) (pg_name (i:=3) sc_answers.nd rfl (by walk_at "or")) (pss_cons (ps_set (i:=4) sc_answers.nd rfl (by walk_at "or") (pe_call (ok_answer_to T) (hr.mono (by decide)) rfl T.f_answer_to.m T.f_answer_to.F.kp T.f_answer_to.b .nil pass0 (pa_cons (pv 1) (pa_cons (pv 3) pa_nil)))) (pss_cons (ps_expr (pe_bm PySem.F.plainAttrs_list PySem.F.slot_list_append PySem.F.type_list_append mt_append (pv 2) (pa_cons (pe_callB call_len_seq (by rfl) T.n_len PySem.boot_len (pa_cons (pv 4) pa_nil)) pa_nil))) (pss_one (ps_expr (pe_bm PySem.F.plainAttrs_list PySem.F.slot_list_extend PySem.F.type_list_extend mt_extend (pv 2) (pa_cons (pv 4) pa_nil))))))) (pss_one (ps_ret (pv 2)))))),?_⟩
  intro d dd nd ndd ndne
  refine⟨d,dd,rfl,upd_same,rfl,?_⟩
  rw[mkI_eq]
  generalize hG:mkI H d dd _=G
  have sG:Same H G:=by rw[←hG];exact mkI_same nd ndd
  have hd:G d=some (.ins T.k_Desk.C dd [("event",.non)]):=by rw[←hG];exact mkI_at
  clear hG
  refine⟨Nat.zero_le _,fun y ny=>?_⟩
  have sy:Same G (upd G y (.lst [])):=same_new ny
  have hy:upd G y (.lst []) y=some (.lst []):=upd_same
  generalize upd G y (.lst [])=G2 at sy hy ⊢
  have s2:=sG.trans sy
  refine Ev.x1 rfl ?_
  refine⟨l,ns,cs,rfl,s2.seq sq0,hlen,hcs,fun H3 D as sm3 hD pa=>?_⟩
  have lp:=Paired.length pa
  have hy3:=sm3 _ _ hy
  have hd3:=sm3 _ _ (sy _ _ hd)
  have dy:d≠y:=ne_of hd3 hy3 (fun z=>nomatch z)
  let Z:Addr→Bool:=fun c=>(H3 c).isSome
  have zat:∀{c:Addr} {o:HO},H3 c=some o→Z c=true:=fun h=>by
   show(H3 _).isSome=true
   rw[h]
   rfl
  have zt3:∀b,Z b=true→H3 b≠none:=fun b hb e=>by
   have hb:(H3 b).isSome=true:=hb
   rw[e]at hb
   cases hb
  have asn:as≠[]:=fun z=>hne (List.eq_nil_of_length_eq_zero (by rw[←lp,z];rfl))
  have yD:D≠y:=fun z=>by
   rw[z,hy3]at hD
   cases as with
   |nil=>exact asn rfl
   |cons a as=>cases hD
  have dD:D≠d:=ne_of hD hd3 (fun z=>nomatch z)
  have zy:=zat hy3
  have zd:=zat hd3
  have g2y:G2 y≠none:=by rw[hy];simp
  have g2d:G2 d≠none:=by rw[sy _ _ hd];simp
  have cne:T.k_Call.C≠T.k_Desk.C:=by
   have h:=T.neEv
   simp only[List.nodup_cons,List.mem_cons,List.not_mem_nil,or_false,not_or]at h
   exact h.2.2.2.2.2.2.1.2
  refine⟨D,rfl,⟨_,SqL.of hD⟩,?_⟩
  refine for_list (K:=K) (xs:=as.map V.ref) (fun i σ H'=>∃u3 u4,σ=[some (.ref l),some (.ref d),some (.ref y),u3,u4]∧DeskO T Z H' d (stS VbbrajNeutral.start (cs.take i))∧BInv (stS VbbrajNeutral.start (cs.take i)) i∧(∀b,Z b=true→b≠d→b≠y→H' b=H3 b)∧
   H' y=some (.lst ((PyFlat.told (PyFlat.played VbbrajNeutral.step VbbrajNeutral.start (cs.take i))).map V.int))∧(∀h t,PyFlat.told (PyFlat.played VbbrajNeutral.step VbbrajNeutral.start (cs.take i))=h::t→1≤h)∧(PyFlat.told (PyFlat.played VbbrajNeutral.step VbbrajNeutral.start (cs.take i))).length≤60*(i*i)+3110*i)
   ⟨none,none,rfl,⟨zt3,dd,.inl ⟨rfl,hd3⟩⟩,none_binv _,fun _ _ _ _=>rfl,hy3,fun h t e=>by(cases e),Nat.zero_le _⟩ (fun i σ H' _ ⟨_,_,_,_,_,kz,_⟩=>SqL.of ((kz D (zat hD) dD yD).trans hD)) ?_ ?_
  ·rintro i v σ H' hi ⟨u3,u4,rfl,de,bi,kz,hyi,hhd,hln⟩
   obtain⟨a,c,ha,hci,rfl,cf⟩:=paired_at pa hi
   have hic:i<cs.length:=(List.getElem?_eq_some_iff.mp hci).1
   have ca:∃dx fs,H3 a=some (.ins T.k_Call.C dx fs):=by
    obtain⟨n,pl,rw_,bs,dx,ap,ar,h1,_⟩:=id cf
    exact⟨dx,_,h1⟩
   obtain⟨dxa,fsa,h3a⟩:=ca
   have nad:a≠d:=ne_of h3a hd3 (fun z=>cne (by injection z))
   have nay:a≠y:=ne_of h3a hy3 (fun z=>nomatch z)
   have za:=zat h3a
   have cp:CallP T H' a c:=cf.stay (kz a za nad nay) fun b h0 h1=>by
    cases e:H3 b with
    |none=>exact absurd e h1
    |some o=>rw[←e];exact kz b (zat e) (fun z=>g2d (by rw[←z];exact h0)) (fun z=>g2y (by rw[←z];exact h0))
   obtain⟨call,bs,hcall,co,hin,hlb⟩:=callP_call cp
   have hstep:VbbrajNeutral.step (stS VbbrajNeutral.start (cs.take i)) c=Vbbraj.step (stS VbbrajNeutral.start (cs.take i)) call:=by
    unfold VbbrajNeutral.step
    rw[hcall]
   have hst1:stS VbbrajNeutral.start (cs.take (i+1))=(Vbbraj.step (stS VbbrajNeutral.start (cs.take i)) call).1:=by
    rw[take_snoc hci,←hstep]
    unfold stS
    rw[List.foldl_append]
    rfl
   have hpl1:PyFlat.told (PyFlat.played VbbrajNeutral.step VbbrajNeutral.start (cs.take (i+1)))=PyFlat.told (PyFlat.played VbbrajNeutral.step VbbrajNeutral.start (cs.take i))++(((Vbbraj.step (stS VbbrajNeutral.start (cs.take i)) call).2.length:Int)::(Vbbraj.step (stS VbbrajNeutral.start (cs.take i)) call).2):=by
    rw[take_snoc hci,played_snoc,told_snoc,hstep]
   have hsok:stS VbbrajNeutral.start (cs.take i)=Vbbraj.none_∨SInv (stS VbbrajNeutral.start (cs.take i)):=by
    obtain⟨_,dx,⟨h,_⟩|⟨A,_,_,h⟩⟩:=id de
    ·exact .inl h
    ·exact .inr h
   obtain⟨⟨h0,t0,he,hle⟩,hal,hbi⟩:=step_all hsok bi call
   rw[hst1,hpl1]
   generalize hsi:stS VbbrajNeutral.start (cs.take i)=si at *
   generalize htl:PyFlat.told (PyFlat.played VbbrajNeutral.step VbbrajNeutral.start (cs.take i))=tl at *
   walk_at "v"
   refine⟨Z,d,a,si,i,call,bs,rfl,de,co,hin,hlb,zd,za,bi,by omega,fun H1 q de1 kz1 hq=>?_⟩
   have hy1:H1 y=_:=(kz1 y zy dy.symm).trans hyi
   generalize hans:(Vbbraj.step si call).2=ans at *
   have qy:q≠y:=fun z=>by
    rw[z,hy1]at hq
    have e1:tl.map V.int=ans.map V.int:=by
     have:=Option.some.inj hq
     injection this
    rw[he]at e1
    cases tl with
    |nil=>cases e1
    |cons h t=>
     have e2:h=h0:=by
      have:=(List.cons.inj e1).1
      injection this
     have:=hhd h t rfl
     omega
   have hsz:tl.length+1+ans.length≤60*((i+1)*(i+1))+3110*(i+1):=by
    have:(i+1)*(i+1)=i*i+2*i+1:=by
     rw[Nat.add_mul,Nat.mul_add]
     omega
    omega
   have hbig:60*((i+1)*(i+1))+3110*(i+1)≤12000000:=by
    have:(i+1)*(i+1)≤400*400:=Nat.mul_le_mul (by omega) (by omega)
    omega
   have sz:∀{m:Nat},m≤12000000→m<sizeLine:=fun h=>Nat.lt_of_le_of_lt h (by decide)
   refine⟨_,rfl,.inl ⟨rfl,_,SqL.of hy1⟩,?_⟩
   walk_at "v"
   refine⟨q,_,rfl,.inl (SqL.of hq),?_⟩
   refine⟨y,_,_,rfl,rfl,hy1,by rw[List.length_map];exact sz (by omega),?_⟩
   rw[List.length_map]
   have hy2:upd H1 y (.lst (tl.map V.int++[.int (ans.length:Int)])) y=some (.lst (tl.map V.int++[.int (ans.length:Int)])):=upd_same
   have hq2:upd H1 y (.lst (tl.map V.int++[.int (ans.length:Int)])) q=_:=(upd_ne qy).trans hq
   refine⟨_,rfl,.inl ⟨rfl,_,SqL.of hy2⟩,?_⟩
   walk_at "v"
   refine⟨y,q,_,_,rfl,rfl,hy2,hq2,?_,?_⟩
   ·rw[List.length_append,List.length_map,List.length_map]
    exact Nat.le_of_lt (sz (by simp only[List.length_cons,List.length_nil];omega))
   rw[upd_upd]
   refine⟨some (.ref a),some (.ref q),rfl,?_,hbi,fun b hb h1 h2=>?_,?_,fun h t e=>?_,?_⟩
   ·obtain⟨zt,dx,hh⟩:=de1
    refine⟨fun b hb=>?_,dx,?_⟩
    ·by_cases z:b=y
     ·rw[z,upd_same];simp
     ·rw[upd_ne z];exact zt b hb
    ·rcases hh with⟨q1,q2⟩|⟨A,q1,q2,q3⟩
     ·exact .inl ⟨q1,by rw[upd_ne dy];exact q2⟩
     ·exact .inr ⟨A,by rw[upd_ne dy];exact q1,q2.zupd zy,q3⟩
   ·rw[upd_ne h2,kz1 b hb h1]
    exact kz b hb h1 h2
   ·rw[upd_same]
    simp
   ·cases tl with
    |nil=>
     have:(ans.length:Int)=h:=(List.cons.inj e).1
     rw[he]at this
     simp at this
     omega
    |cons h' t'=>
     have:h'=h:=(List.cons.inj e).1
     rw[←this]
     exact hhd h' t' rfl
   ·rw[List.length_append,List.length_cons]
    omega
  ·rintro σ H' ⟨u3,u4,rfl,de,bi,kz,hyi,_⟩
   rw[List.length_map,lp,List.take_length]at hyi
   exact⟨_,rfl,k H' y hyi⟩
end
end
section
section
variable {K:PySem.W.Frag}{mg:Str→Option Value}{h:Heap}
noncomputable def fnb_mk{x:Str}{st:Stmt}{ps:List Str}{f:Addr}{oc:Value}{od an:Option Addr}{sl:Array (Option Value)}{kV dc pm cd ct:Value}(KX:K.In h)(G:h.Ns mainGlobals mg)(a:PySem.W.nsIn K mainGlobals x=some (some (.ref f)))
  (l:K.lookup f=some ⟨oc,od,.func (PySem.W.fnOf x x (defArgs st) (defBody st) (defScope st) .none kV dc pm an cd ct),sl⟩) (c:PySem.W.codeIn K cd x=true) (k:PySem.W.keepIn K (.ref f)=true)
  (b:∀(kV doc pm:Value) (an:Option Addr) (cdv ct:Value) (us:List Value),us.length=ps.length→bindArgs (PySem.W.fnOf x x (defArgs st) (defBody st) (defScope st) .none kV doc pm an cdv ct) ⟨us,[]⟩=pure (ps.zip us)):FnB K mg x st ps:=
 ⟨f,_,fun_mk l c k,(fun_mk l c k).binds b,PySem.W.mg_of KX G a⟩
noncomputable def klb_mk{x qual:Str}{st:Stmt}{ps fs:List Str}{C f:Addr}{oc:Value}{od an:Option Addr}{sl:Array (Option Value)}{kV dc pm cd ct:Value}(KX:K.In h)(G:h.Ns mainGlobals mg)(aC:PySem.W.nsIn K mainGlobals x=some (some (.ref C)))
  (a1:PySem.W.findIn K (.ref C) "__init__" = some (some (.ref f))) (i1:PySem.W.isFn K (.ref f)=true)
  (l:K.lookup f=some ⟨oc,od,.func (PySem.W.fnOf "__init__" qual (defArgs st) (defBody st) (defScope st) .none kV dc pm an cd ct),sl⟩) (c:PySem.W.codeIn K cd qual=true) (k:PySem.W.keepIn K (.ref f)=true)
  (b:∀(kV doc pm:Value) (an:Option Addr) (cdv ct:Value) (us:List Value),us.length=ps.length→bindArgs (PySem.W.fnOf "__init__" qual (defArgs st) (defBody st) (defScope st) .none kV doc pm an cdv ct) ⟨us,[]⟩=pure (ps.zip us))
  (pg:PySem.W.plainGet K C Str.empty=true) (hd:PySem.W.hasDictIn K C=true) (po:PySem.W.plainOver K C=true) (sa:PySem.W.findIn K (.ref C) "__setattr__" = some (some (.builtin "object.__setattr__"))) (mk:PySem.W.makesIn K C=true) (kc:PySem.W.keepIn K (.ref C)=true)
  (na:∀f,fs.contains f=true→NoAttr K C f):KlB K mg x qual st ps fs:=
 ⟨C,f,_,⟨mk,a1,i1,kc⟩,fun_mk l c k,(fun_mk l c k).binds b,PySem.W.mg_of KX G aC,⟨pg,hd,po,sa⟩,na⟩
theorem ar0{p:List Value→Prop}(h:p []):∀us:List Value,us.length=([]:List Str).length→p us:=fun us hl=>match us,hl with|[],_=>h
theorem ar1{x0:Str}{p:List Value→Prop}(h:∀a0,p [a0]):∀us:List Value,us.length=([x0]:List Str).length→p us:=fun us hl=>match us,hl with|[a0],_=>h a0
theorem ar2{x0 x1:Str}{p:List Value→Prop}(h:∀a0 a1,p [a0,a1]):∀us:List Value,us.length=([x0,x1]:List Str).length→p us:=fun us hl=>match us,hl with|[a0,a1],_=>h a0 a1
theorem ar3{x0 x1 x2:Str}{p:List Value→Prop}(h:∀a0 a1 a2,p [a0,a1,a2]):∀us:List Value,us.length=([x0,x1,x2]:List Str).length→p us:=fun us hl=>match us,hl with|[a0,a1,a2],_=>h a0 a1 a2
theorem ar4{x0 x1 x2 x3:Str}{p:List Value→Prop}(h:∀a0 a1 a2 a3,p [a0,a1,a2,a3]):∀us:List Value,us.length=([x0,x1,x2,x3]:List Str).length→p us:=fun us hl=>match us,hl with|[a0,a1,a2,a3],_=>h a0 a1 a2 a3
theorem ar5{x0 x1 x2 x3 x4:Str}{p:List Value→Prop}(h:∀a0 a1 a2 a3 a4,p [a0,a1,a2,a3,a4]):∀us:List Value,us.length=([x0,x1,x2,x3,x4]:List Str).length→p us:=fun us hl=>match us,hl with|[a0,a1,a2,a3,a4],_=>h a0 a1 a2 a3 a4
theorem ar6{x0 x1 x2 x3 x4 x5:Str}{p:List Value→Prop}(h:∀a0 a1 a2 a3 a4 a5,p [a0,a1,a2,a3,a4,a5]):∀us:List Value,us.length=([x0,x1,x2,x3,x4,x5]:List Str).length→p us:=fun us hl=>match us,hl with|[a0,a1,a2,a3,a4,a5],_=>h a0 a1 a2 a3 a4 a5
theorem ar7{x0 x1 x2 x3 x4 x5 x6:Str}{p:List Value→Prop}(h:∀a0 a1 a2 a3 a4 a5 a6,p [a0,a1,a2,a3,a4,a5,a6]):∀us:List Value,us.length=([x0,x1,x2,x3,x4,x5,x6]:List Str).length→p us:=fun us hl=>match us,hl with|[a0,a1,a2,a3,a4,a5,a6],_=>h a0 a1 a2 a3 a4 a5 a6
theorem na_nil{C:Addr}:∀f,([]:List Str).contains f=true→NoAttr K C f:=fun f h=>by simp at h
theorem na_cons{C:Addr}{g:Str}{fs:List Str}(h1:PySem.W.findIn K (.ref C) g=some none)(h2:∀f,fs.contains f=true→NoAttr K C f):∀f,(g::fs).contains f=true→NoAttr K C f:=fun f h=>by
 rw[List.contains_cons,Bool.or_eq_true]at h
 rcases h with h|h
 ·have e:f=g:=eq_of_beq h
  subst e
  exact h1
 ·exact h2 f h
theorem gi_mk{x:Str}{i:Int}{t:Tok}(KX:K.In h)(G:h.Ns mainGlobals mg)(a:PySem.W.nsIn K mainGlobals x=some (some (.int i t))):GI K mg x i:=⟨_,PySem.W.mg_of KX G a,⟨t,rfl⟩⟩
theorem gt_mk{x:Str}{is:List Int}{b:Addr}(KX:K.In h)(G:h.Ns mainGlobals mg)(a:PySem.W.nsIn K mainGlobals x=some (some (.ref b)))(o:tupOk K b is=true):GT K mg x is:=⟨b,PySem.W.mg_of KX G a,tupOk_sq o⟩
theorem gd_mk{x:Str}{tab:List (Int×List (Int×Int))}{b:Addr}(KX:K.In h)(G:h.Ns mainGlobals mg)(a:PySem.W.nsIn K mainGlobals x=some (some (.ref b)))(o:gdOk K b tab=true)(nd:(tab.map (·.1)).Nodup):GD K mg x tab:=⟨⟨b,PySem.W.mg_of KX G a,o⟩,nd⟩
end
end
section
theorem asked_calls{l:List Int}(h:PyVbbraj.answers_asked l=true):∃cs,PyFlat.calls PyVbbraj.shape l.length l=some cs∧cs.length≤400∧cs≠[]∧PyVbbraj.answers l=PyFlat.told (PyFlat.played VbbrajNeutral.step VbbrajNeutral.start cs):=by
 unfold PyVbbraj.answers_asked at h
 unfold PyVbbraj.answers
 unfold PyVbbraj.calls at h ⊢
 cases e:PyFlat.calls PyVbbraj.shape l.length l with
 |none=>rw[e]at h;cases h
 |some cs=>
  rw[e]at h
  have ew:cs.map PyVbbraj.whole=cs:=calls_whole cs e
  simp only[ew,PyFlat.atMost,VbbrajNeutral.asked,Bool.and_eq_true,decide_eq_true_eq]at h ⊢
  refine⟨cs,rfl,h.1,fun z=>?_,rfl⟩
  have:=h.2.2.1
  rw[z]at this
  simp at this
theorem fin{P:Program}{w:World}{K:PySem.W.Frag}{mg:Str→Option Value}{fa:Addr}(T:TX K mg)(hfa:mg "answers" = some (.ref fa)):∃fd:FuncData,(∀(s:Shared) (us:List Value),us.length=(["calls"]:List Str).length→BindsTo s fd ⟨us,[]⟩ ((["calls"]:List Str).zip us))∧
  ∀base:Heap,K.In base→base.Ns mainGlobals mg→FnOk P w K mg base CX0 30 fa fd ["calls"] (spE K):=by
 have e:T.f_answers.f=fa:=by
  have:=T.f_answers.m
  rw[hfa]at this
  injection this with q
  injection q with q
  exact q.symm
 obtain⟨oc,od,kV,doc,pm,an,cdv,ct,osl,efd,lk,hcd⟩:=T.f_answers.F.ex
 refine⟨T.f_answers.fd,fun s us hl=>?_,fun base _ _=>?_⟩
 ·rw[efd]
  refine .of_eq ?_
  match us,hl with
  |[_],_=>rfl
 ·rw[←e]
  exact(ok_answers T).mono (by decide)
theorem finS(K:PySem.W.Frag)(H:Hp)(ns:List Int)(hl:ns.length≤16000)(hask:PyVbbraj.answers_asked ns=true){l:Addr}(hs:SqL K H l (ns.map V.int)):spE K [.ref l] H (fun v H'=>Dw K H' v (.list ((PyVbbraj.answers ns).map PySem.W.WData.int))) fun _ _ _=>False:=by
 obtain⟨cs,h1,h2,h3,h4⟩:=asked_calls hask
 refine⟨l,ns,cs,rfl,hs,hl,h1,h2,h3,fun H' y hy=>?_⟩
 rw[h4]
 exact .lst (SqL.of hy) (dw_ints _)
end
end Ev
local macro_rules | `(tactic| walk_at "gi")=>`(tactic| exact Ev.gi_mk (by assumption) (by assumption) (by k_is))
local macro_rules | `(tactic| walk_at "gt")=>`(tactic| (refine' Ev.gt_mk (by assumption) (by assumption) ?a ?o;(case a=>k_is);(case o=>kernel_rfl)))
local macro_rules | `(tactic| walk_at "gd")=>`(tactic| (refine' Ev.gd_mk (by assumption) (by assumption) ?a ?o (by decide +kernel);(case a=>k_is);(case o=>kernel_rfl)))
local macro_rules | `(tactic| walk_at "na")=>`(tactic| repeat (first|exact Ev.na_nil|refine Ev.na_cons (by k_is) ?_))
local macro_rules | `(tactic| walk_at "ar")=>`(tactic| first|exact fun _ _ _ _ _ _=>Ev.ar1 fun _=>rfl|exact fun _ _ _ _ _ _=>Ev.ar2 fun _ _=>rfl|exact fun _ _ _ _ _ _=>Ev.ar3 fun _ _ _=>rfl|exact fun _ _ _ _ _ _=>Ev.ar4 fun _ _ _ _=>rfl|exact fun _ _ _ _ _ _=>Ev.ar5 fun _ _ _ _ _=>rfl|exact fun _ _ _ _ _ _=>Ev.ar6 fun _ _ _ _ _ _=>rfl|exact fun _ _ _ _ _ _=>Ev.ar7 fun _ _ _ _ _ _ _=>rfl|exact fun _ _ _ _ _ _=>Ev.ar0 rfl)
local macro_rules | `(tactic| walk_at "fn")=>`(tactic| (refine' Ev.fnb_mk (by assumption) (by assumption) ?a ?l ?c ?k (by walk_at "ar");(case a=>k_is);(case l=>k_is);(case c=>k_is);(case k=>k_is)))
local macro_rules | `(tactic| walk_at "kl")=>`(tactic| (refine' Ev.klb_mk (by assumption) (by assumption) ?aC ?a1 ?i1 ?l ?c ?k (by walk_at "ar") ?pg ?hd ?po ?sa ?mk ?kc ?na;(case aC=>k_is);(case a1=>k_is);(case i1=>k_is);(case l=>k_is);(case c=>k_is);(case k=>k_is);(case pg=>k_is);(case hd=>k_is);(case po=>k_is);(case sa=>k_is);(case mk=>k_is);(case kc=>k_is);(case na=>walk_at "na")))
open PySem PySem.W PyProof.Rows
set_option maxRecDepth 100000 in
set_option maxHeartbeats 0 in
theorem PySem.Challenge.cw_pairsevent_s01_answers_holds : PySem.Challenge.rw_pairsevent_s01_answers.Holds := by
 w_on
 refine holds_os (q:=Hd.a.view_1) (XP:=XL Hd.a.view_1 []) (YP:=Hook.says (kHook Hd.a.heap_1 Hd.as Hd.ase)) Hd.left (Hook.of (kHook Hd.a.heap_1 Hd.as Hd.ase)) (Hook.keeps (kHook Hd.a.heap_1 Hd.as Hd.ase)) (fun s e=>xl_of s (Bool.and_eq_true_iff.mp e).1) XL.keeps (by rfl) (by rfl) (by rfl) (fun s e=>recFacts_of (Bool.and_eq_true_iff.mp e).2) os_shapes Hd.k1 Hd.k2 Hd.k3 ⟨[.list [.int 13]],by decide +kernel,by decide +kernel⟩ ?_
 k_fillS
 refine L2.walk_specK (r:=PySem.Challenge.rw_pairsevent_s01_answers) (k:=30) (CX:=L2.CX0) (ps:=["calls"]) (sp:=Ev.spE) Hd.k1 rfl rfl ⟨rfl,by decide,by decide⟩ (fun w h Y=>PySem.W.kIn_of Y) ?F ?S (fun _ _ _ _ z=>z)
 case S=>
  intro K H xs a hO hwi hask hx
  cases hx with
  |cons h1 h2=>
   cases h2
   cases h1 with
   |lst hs ha=>
    have e:=L2.ints_dw a.1 _ ha
    subst e
    have q:(Codec.inLen 0 16000 a.1&&a.1.all (Codec.inInt (Int.negSucc 999999999999999999) (Int.ofNat 1000000000000000000))&&true)=true:=hwi
    rw[Bool.and_eq_true,Bool.and_eq_true]at q
    exact Ev.finS K H a.1 (Codec.inNat_iff.mp q.1.1).2 hask hs
 case F=>
  intro w mg fa h Y KX G hmg
  refine Ev.fin (mg:=mg) ?T hmg
  refine'{ f_vulnerability:=?f_vulnerability,f_side_of:=?f_side_of,f_is_vulnerable:=?f_is_vulnerable,f_doubled_loss:=?f_doubled_loss,f_loss:=?f_loss,f_contract_points:=?f_contract_points,f_game_bonus:=?f_game_bonus,f_slam_bonus:=?f_slam_bonus,f_trick_above:=?f_trick_above,f_contract_score:=?f_contract_score,f_north_south_score:=?f_north_south_score,f_sitting_at:=?f_sitting_at,f_is_given:=?f_is_given,f_has_entries:=?f_has_entries,f_is_pair:=?f_is_pair,f_is_board:=?f_is_board,f_read_calls:=?f_read_calls,f_is_within:=?f_is_within,f_is_plain_in_range:=?f_is_plain_in_range,f_outcomes_of:=?f_outcomes_of,f_is_row_in_range:=?f_is_row_in_range,f_is_in_range:=?f_is_in_range,f_common_divisor:=?f_common_divisor,f_lowest:=?f_lowest,f_plus:=?f_plus,f_is_greater:=?f_is_greater,f_rounded:=?f_rounded,f_versus:=?f_versus,f_weight_of:=?f_weight_of,f_mean_of_versus:=?f_mean_of_versus,f_results_to_compare:=?f_results_to_compare,f_real_points:=?f_real_points,f_both_points:=?f_both_points,f_north_south_pair:=?f_north_south_pair,f_place_in:=?f_place_in,f_sittings_entered:=?f_sittings_entered,f_reckon:=?f_reckon,f_score_answer:=?f_score_answer,f_sheet_answer:=?f_sheet_answer,f_board_answer:=?f_board_answer,f_place_of:=?f_place_of,f_place_refusal:=?f_place_refusal,f_group_at:=?f_group_at,f_enter_result:=?f_enter_result,f_enter_average:=?f_enter_average,f_enter_played:=?f_enter_played,f_set_group:=?f_set_group,f_carry_out:=?f_carry_out,f_place_answer:=?f_place_answer,f_is_between:=?f_is_between,f_met_answer:=?f_met_answer,f_sitting_as_seen:=?f_sitting_as_seen,f_sittings_answer:=?f_sittings_answer,f_missing_answer:=?f_missing_answer,f_appeals_answer:=?f_appeals_answer,f_listing_answer:=?f_listing_answer,f_sits_in:=?f_sits_in,f_share_a_pair:=?f_share_a_pair,f_share_both_pairs:=?f_share_both_pairs,f_share_a_board:=?f_share_a_board,f_is_round_taken:=?f_is_round_taken,f_is_board_taken:=?f_is_board_taken,f_have_met:=?f_have_met,f_are_two_pairs:=?f_are_two_pairs,f_sit_refusal:=?f_sit_refusal,f_sit:=?f_sit,f_unsit:=?f_unsit,f_total_of:=?f_total_of,f_share_of:=?f_share_of,f_percentage_of:=?f_percentage_of,f_rank_of:=?f_rank_of,f_standings:=?f_standings,f_total_answer:=?f_total_answer,f_post_answer:=?f_post_answer,f_posted_answer:=?f_posted_answer,f_standing_answer:=?f_standing_answer,f_adjust:=?f_adjust,f_event_answer:=?f_event_answer,f_counted_answer:=?f_counted_answer,f_answer_to:=?f_answer_to,f_answers:=?f_answers,k_Event:=?k_Event,k_Sitting:=?k_Sitting,k_RealEntry:=?k_RealEntry,k_ArtificialEntry:=?k_ArtificialEntry,k_Sheet:=?k_Sheet,k_SheetLine:=?k_SheetLine,k_Call:=?k_Call,k_PairTotal:=?k_PairTotal,k_Desk:=?k_Desk,c_NO_TRUMPS:=?c_NO_TRUMPS,c_UNDOUBLED:=?c_UNDOUBLED,c_ALL_VULNERABLE:=?c_ALL_VULNERABLE,c_POINTS_A_LEVEL:=?c_POINTS_A_LEVEL,c_POINTS_A_TRICK_ABOVE:=?c_POINTS_A_TRICK_ABOVE,c_TIMES:=?c_TIMES,c_DOUBLING_BONUS:=?c_DOUBLING_BONUS,c_NEW:=?c_NEW,c_SIT:=?c_SIT,c_UNSIT:=?c_UNSIT,c_RESULT:=?c_RESULT,c_PLAYED:=?c_PLAYED,c_PASSED:=?c_PASSED,c_AVERAGE:=?c_AVERAGE,c_FOUL:=?c_FOUL,c_REMOVE:=?c_REMOVE,c_ADJUST:=?c_ADJUST,c_APPEAL:=?c_APPEAL,c_RULING:=?c_RULING,c_TOTAL:=?c_TOTAL,c_STANDINGS:=?c_STANDINGS,c_POST:=?c_POST,c_POSTED:=?c_POSTED,c_SCORE:=?c_SCORE,c_SHEET:=?c_SHEET,c_MET:=?c_MET,c_SITTINGS:=?c_SITTINGS,c_MISSING:=?c_MISSING,c_CHANGES:=?c_CHANGES,c_RANGES:=?c_RANGES,c_CALLS_WITH_ROW:=?c_CALLS_WITH_ROW,c_ROW_LENGTHS:=?c_ROW_LENGTHS,c_WEIGHT_RANGE:=?c_WEIGHT_RANGE,c_SCORE_RANGE:=?c_SCORE_RANGE,c_OUT_OF_RANGE:=?c_OUT_OF_RANGE,c_NO_EVENT:=?c_NO_EVENT,c_HAS_ENTRIES:=?c_HAS_ENTRIES,c_NO_SUCH_PAIR:=?c_NO_SUCH_PAIR,c_ROUND_TAKEN:=?c_ROUND_TAKEN,c_BOARD_TAKEN:=?c_BOARD_TAKEN,c_HAVE_MET:=?c_HAVE_MET,c_FULL:=?c_FULL,c_NO_SUCH_BOARD:=?c_NO_SUCH_BOARD,c_NOT_GIVEN:=?c_NOT_GIVEN,c_UNDER_APPEAL:=?c_UNDER_APPEAL,c_NO_ENTRY:=?c_NO_ENTRY,c_NOT_UNDER_APPEAL:=?c_NOT_UNDER_APPEAL,c_NOT_POSTED:=?c_NOT_POSTED,c_MOST_SITTINGS:=?c_MOST_SITTINGS,c_MOST_POSTED:=?c_MOST_POSTED,c_CALLS_THAT_CHANGE:=?c_CALLS_THAT_CHANGE,n_len:=?n_len,n_range:=?n_range,n_abs:=?n_abs,n_sum:=?n_sum,n_sorted:=?n_sorted,n_enumerate:=?n_enumerate,n_zip:=?n_zip,n_isinstance:=?n_isinstance,n_min:=?n_min,n_max:=?n_max,isR:=?isR,isA:=?isA,kR:=?kR,kA:=?kA,neEv:=?neEv }
  (case f_vulnerability=>walk_at "fn")
  (case f_side_of=>walk_at "fn")
  (case f_is_vulnerable=>walk_at "fn")
  (case f_doubled_loss=>walk_at "fn")
  (case f_loss=>walk_at "fn")
  (case f_contract_points=>walk_at "fn")
  (case f_game_bonus=>walk_at "fn")
  (case f_slam_bonus=>walk_at "fn")
  (case f_trick_above=>walk_at "fn")
  (case f_contract_score=>walk_at "fn")
  (case f_north_south_score=>walk_at "fn")
  (case f_sitting_at=>walk_at "fn")
  (case f_is_given=>walk_at "fn")
  (case f_has_entries=>walk_at "fn")
  (case f_is_pair=>walk_at "fn")
  (case f_is_board=>walk_at "fn")
  (case f_read_calls=>walk_at "fn")
  (case f_is_within=>walk_at "fn")
  (case f_is_plain_in_range=>walk_at "fn")
  (case f_outcomes_of=>walk_at "fn")
  (case f_is_row_in_range=>walk_at "fn")
  (case f_is_in_range=>walk_at "fn")
  (case f_common_divisor=>walk_at "fn")
  (case f_lowest=>walk_at "fn")
  (case f_plus=>walk_at "fn")
  (case f_is_greater=>walk_at "fn")
  (case f_rounded=>walk_at "fn")
  (case f_versus=>walk_at "fn")
  (case f_weight_of=>walk_at "fn")
  (case f_mean_of_versus=>walk_at "fn")
  (case f_results_to_compare=>walk_at "fn")
  (case f_real_points=>walk_at "fn")
  (case f_both_points=>walk_at "fn")
  (case f_north_south_pair=>walk_at "fn")
  (case f_place_in=>walk_at "fn")
  (case f_sittings_entered=>walk_at "fn")
  (case f_reckon=>walk_at "fn")
  (case f_score_answer=>walk_at "fn")
  (case f_sheet_answer=>walk_at "fn")
  (case f_board_answer=>walk_at "fn")
  (case f_place_of=>walk_at "fn")
  (case f_place_refusal=>walk_at "fn")
  (case f_group_at=>walk_at "fn")
  (case f_enter_result=>walk_at "fn")
  (case f_enter_average=>walk_at "fn")
  (case f_enter_played=>walk_at "fn")
  (case f_set_group=>walk_at "fn")
  (case f_carry_out=>walk_at "fn")
  (case f_place_answer=>walk_at "fn")
  (case f_is_between=>walk_at "fn")
  (case f_met_answer=>walk_at "fn")
  (case f_sitting_as_seen=>walk_at "fn")
  (case f_sittings_answer=>walk_at "fn")
  (case f_missing_answer=>walk_at "fn")
  (case f_appeals_answer=>walk_at "fn")
  (case f_listing_answer=>walk_at "fn")
  (case f_sits_in=>walk_at "fn")
  (case f_share_a_pair=>walk_at "fn")
  (case f_share_both_pairs=>walk_at "fn")
  (case f_share_a_board=>walk_at "fn")
  (case f_is_round_taken=>walk_at "fn")
  (case f_is_board_taken=>walk_at "fn")
  (case f_have_met=>walk_at "fn")
  (case f_are_two_pairs=>walk_at "fn")
  (case f_sit_refusal=>walk_at "fn")
  (case f_sit=>walk_at "fn")
  (case f_unsit=>walk_at "fn")
  (case f_total_of=>walk_at "fn")
  (case f_share_of=>walk_at "fn")
  (case f_percentage_of=>walk_at "fn")
  (case f_rank_of=>walk_at "fn")
  (case f_standings=>walk_at "fn")
  (case f_total_answer=>walk_at "fn")
  (case f_post_answer=>walk_at "fn")
  (case f_posted_answer=>walk_at "fn")
  (case f_standing_answer=>walk_at "fn")
  (case f_adjust=>walk_at "fn")
  (case f_event_answer=>walk_at "fn")
  (case f_counted_answer=>walk_at "fn")
  (case f_answer_to=>walk_at "fn")
  (case f_answers=>walk_at "fn")
  (case k_Event=>walk_at "kl")
  (case k_Sitting=>walk_at "kl")
  (case k_RealEntry=>walk_at "kl")
  (case k_ArtificialEntry=>walk_at "kl")
  (case k_Sheet=>walk_at "kl")
  (case k_SheetLine=>walk_at "kl")
  (case k_Call=>walk_at "kl")
  (case k_PairTotal=>walk_at "kl")
  (case k_Desk=>walk_at "kl")
  (case c_NO_TRUMPS=>walk_at "gi")
  (case c_UNDOUBLED=>walk_at "gi")
  (case c_ALL_VULNERABLE=>walk_at "gi")
  (case c_POINTS_A_LEVEL=>walk_at "gt")
  (case c_POINTS_A_TRICK_ABOVE=>walk_at "gt")
  (case c_TIMES=>walk_at "gt")
  (case c_DOUBLING_BONUS=>walk_at "gt")
  (case c_NEW=>walk_at "gi")
  (case c_SIT=>walk_at "gi")
  (case c_UNSIT=>walk_at "gi")
  (case c_RESULT=>walk_at "gi")
  (case c_PLAYED=>walk_at "gi")
  (case c_PASSED=>walk_at "gi")
  (case c_AVERAGE=>walk_at "gi")
  (case c_FOUL=>walk_at "gi")
  (case c_REMOVE=>walk_at "gi")
  (case c_ADJUST=>walk_at "gi")
  (case c_APPEAL=>walk_at "gi")
  (case c_RULING=>walk_at "gi")
  (case c_TOTAL=>walk_at "gi")
  (case c_STANDINGS=>walk_at "gi")
  (case c_POST=>walk_at "gi")
  (case c_POSTED=>walk_at "gi")
  (case c_SCORE=>walk_at "gi")
  (case c_SHEET=>walk_at "gi")
  (case c_MET=>walk_at "gi")
  (case c_SITTINGS=>walk_at "gi")
  (case c_MISSING=>walk_at "gi")
  (case c_CHANGES=>walk_at "gi")
  (case c_RANGES=>walk_at "gd")
  (case c_CALLS_WITH_ROW=>walk_at "gt")
  (case c_ROW_LENGTHS=>walk_at "gt")
  (case c_WEIGHT_RANGE=>walk_at "gt")
  (case c_SCORE_RANGE=>walk_at "gt")
  (case c_OUT_OF_RANGE=>walk_at "gi")
  (case c_NO_EVENT=>walk_at "gi")
  (case c_HAS_ENTRIES=>walk_at "gi")
  (case c_NO_SUCH_PAIR=>walk_at "gi")
  (case c_ROUND_TAKEN=>walk_at "gi")
  (case c_BOARD_TAKEN=>walk_at "gi")
  (case c_HAVE_MET=>walk_at "gi")
  (case c_FULL=>walk_at "gi")
  (case c_NO_SUCH_BOARD=>walk_at "gi")
  (case c_NOT_GIVEN=>walk_at "gi")
  (case c_UNDER_APPEAL=>walk_at "gi")
  (case c_NO_ENTRY=>walk_at "gi")
  (case c_NOT_UNDER_APPEAL=>walk_at "gi")
  (case c_NOT_POSTED=>walk_at "gi")
  (case c_MOST_SITTINGS=>walk_at "gi")
  (case c_MOST_POSTED=>walk_at "gi")
  (case c_CALLS_THAT_CHANGE=>walk_at "gt")
  (case n_len=>exact PySem.W.mg_none_of (by assumption) (by assumption) (by k_is))
  (case n_range=>exact PySem.W.mg_none_of (by assumption) (by assumption) (by k_is))
  (case n_abs=>exact PySem.W.mg_none_of (by assumption) (by assumption) (by k_is))
  (case n_sum=>exact PySem.W.mg_none_of (by assumption) (by assumption) (by k_is))
  (case n_sorted=>exact PySem.W.mg_none_of (by assumption) (by assumption) (by k_is))
  (case n_enumerate=>exact PySem.W.mg_none_of (by assumption) (by assumption) (by k_is))
  (case n_zip=>exact PySem.W.mg_none_of (by assumption) (by assumption) (by k_is))
  (case n_isinstance=>exact PySem.W.mg_none_of (by assumption) (by assumption) (by k_is))
  (case n_min=>exact PySem.W.mg_none_of (by assumption) (by assumption) (by k_is))
  (case n_max=>exact PySem.W.mg_none_of (by assumption) (by assumption) (by k_is))
  (case isR=>refine'⟨?i1,?i2,?i3,?i4⟩;all_goals (try dsimp only[Ev.klb_mk]);all_goals k_is)
  (case isA=>refine'⟨?j1,?j2,?j3,?j4⟩;all_goals (try dsimp only[Ev.klb_mk]);all_goals k_is)
  (case kR=>first|k_is|kernel_rfl)
  (case kA=>first|k_is|kernel_rfl)
  (case neEv=>dsimp only[Ev.klb_mk];decide)
