import PyProof.Rows.All
import Wide.All
import OpenK.AllK
import Wide.FinOn
import Lean
import PyProof.EqAt
import PyProof.EqKinds
import PyProof.TupleCall
import PySem.Challenge.RW_lowwater_k09_whole_reckoning_agrees
set_option Elab.async false
set_option linter.all false
set_option compiler.extract_closed false
set_option genSizeOfSpec false
set_option maxRecDepth 100000
set_option maxHeartbeats 4000000
noncomputable section
section
open PySem PySem.Spec PyProof PyProof.Rows
theorem uX{n:Nat}:n<=n:=Nat.le_refl n
theorem uY:0<=sizeLine:=by decide
theorem uZ:1<=sizeLine:=by decide
theorem gA:2<=sizeLine:=by decide
theorem gB:type_of%@List.getD_eq_getElem?_getD:=@List.getD_eq_getElem?_getD
theorem gC:type_of%@List.getElem?_append_right:=@List.getElem?_append_right
theorem gD:type_of%@Classical.byContradiction:=@Classical.byContradiction
theorem gE:type_of%@List.getElem?_eq_some_iff:=@List.getElem?_eq_some_iff
theorem gF:type_of%@List.getElem?_append_left:=@List.getElem?_append_left
theorem gG:type_of%@List.getElem?_eq_getElem:=@List.getElem?_eq_getElem
theorem gH:type_of%@List.getElem?_take_of_lt:=@List.getElem?_take_of_lt
theorem gI:type_of%@Int.eq_ofNat_of_zero_le:=@Int.eq_ofNat_of_zero_le
theorem gJ:type_of%@Heap.get?_push_of_some:=@Heap.get?_push_of_some
theorem gK:type_of%@List.take_of_length_le:=@List.take_of_length_le
theorem gL:type_of%@List.drop_of_length_le:=@List.drop_of_length_le
theorem gM:type_of%@List.mem_append_right:=@List.mem_append_right
theorem gN:type_of%@List.length_replicate:=@List.length_replicate
theorem gO:type_of%@List.getElem?_eq_none:=@List.getElem?_eq_none
theorem gP:type_of%@List.mem_iff_getElem?:=@List.mem_iff_getElem?
theorem gQ:type_of%@List.mem_of_getElem?:=@List.mem_of_getElem?
theorem gS:type_of%@List.mem_cons_of_mem:=@List.mem_cons_of_mem
theorem gT:type_of%@Nat.pow_le_pow_right:=@Nat.pow_le_pow_right
theorem gU:type_of%@Nat.pow_lt_pow_right:=@Nat.pow_lt_pow_right
theorem gW:type_of%@Nat.mul_le_mul_right:=@Nat.mul_le_mul_right
theorem gX:type_of%@List.mem_of_mem_take:=@List.mem_of_mem_take
theorem gY:type_of%@Heap.get?_push_size:=@Heap.get?_push_size
theorem gZ:type_of%@Nat.lt_of_le_of_lt:=@Nat.lt_of_le_of_lt
theorem hJ:type_of%@List.length_append:=@List.length_append
theorem hV:type_of%@Bool.false_ne_true:=@Bool.false_ne_true
theorem hW:type_of%@Nat.lt_of_lt_of_le:=@Nat.lt_of_lt_of_le
theorem mB:type_of%@List.mem_singleton:=@List.mem_singleton
theorem mC:type_of%@Int.natAbs_natCast:=@Int.natAbs_natCast
theorem mD:type_of%@List.mem_cons_self:=@List.mem_cons_self
theorem mF:type_of%@PySem.W.mg_none_of:=@PySem.W.mg_none_of
theorem mG:type_of%@List.getElem?_map:=@List.getElem?_map
theorem mH:type_of%@List.size_toArray:=@List.size_toArray
theorem mI:type_of%@List.take_add_one:=@List.take_add_one
theorem mJ:type_of%@List.append_assoc:=@List.append_assoc
theorem mK:type_of%@of_decide_eq_true:=@of_decide_eq_true
theorem mL:type_of%@List.nodup_append:=@List.nodup_append
theorem mM:type_of%@List.foldl_append:=@List.foldl_append
theorem mN:type_of%@Int.gcd_dvd_right:=@Int.gcd_dvd_right
theorem mO:type_of%@Int.toNat_natCast:=@Int.toNat_natCast
theorem mP:type_of%@List.length_take:=@List.length_take
theorem mQ:type_of%@List.not_mem_nil:=@List.not_mem_nil
theorem mR:type_of%@List.take_length:=@List.take_length
theorem mS:type_of%@List.length_cons:=@List.length_cons
theorem mT:type_of%@List.getElem_mem:=@List.getElem_mem
theorem mU:type_of%@Bool.and_eq_true:=@Bool.and_eq_true
theorem mV:type_of%@Int.gcd_dvd_left:=@Int.gcd_dvd_left
theorem mW:type_of%@Nat.lt_succ_self:=@Nat.lt_succ_self
theorem mX:type_of%@List.filter_cons:=@List.filter_cons
theorem mY:type_of%@List.length_map:=@List.length_map
theorem mZ:type_of%@List.map_append:=@List.map_append
theorem nC:type_of%@decide_eq_false:=@decide_eq_false
theorem nE:type_of%@List.mem_append:=@List.mem_append
theorem nF:type_of%@Rat.intCast_mul:=@Rat.intCast_mul
theorem nG:type_of%@decide_eq_true:=@decide_eq_true
theorem nH:type_of%@Int.natAbs_mul:=@Int.natAbs_mul
theorem nI:type_of%@List.mem_range:=@List.mem_range
theorem nJ:type_of%@Nat.mul_le_mul:=@Nat.mul_le_mul
theorem nM:type_of%@List.nodup_nil:=@List.nodup_nil
theorem nN:type_of%@Heap.size_push:=@Heap.size_push
theorem nO:type_of%@List.map_cons:=@List.map_cons
theorem nP:type_of%@List.mem_cons:=@List.mem_cons
theorem nQ:type_of%@Nat.lt_irrefl:=@Nat.lt_irrefl
theorem nS:type_of%@Int.mul_assoc:=@Int.mul_assoc
theorem nT:type_of%@List.sum_cons:=@List.sum_cons
theorem nU:type_of%@PySem.W.mg_of:=@PySem.W.mg_of
theorem nV:type_of%@Heap.lt_size:=@Heap.lt_size
theorem nW:type_of%@Nat.le_trans:=@Nat.le_trans
theorem nX:type_of%@Nat.ne_of_lt:=@Nat.ne_of_lt
theorem nY:type_of%@List.mem_map:=@List.mem_map
theorem nZ:type_of%@Rat.zero_add:=@Rat.zero_add
theorem tD:type_of%@Rat.add_zero:=@Rat.add_zero
theorem tF:type_of%@Rat.zero_mul:=@Rat.zero_mul
theorem tG:type_of%@List.map_map:=@List.map_map
theorem tH:type_of%@Nat.le_of_lt:=@Nat.le_of_lt
theorem tI:type_of%@Rat.mul_comm:=@Rat.mul_comm
theorem tJ:type_of%@Int.mul_comm:=@Int.mul_comm
theorem tK:type_of%@Nat.le_refl:=@Nat.le_refl
theorem tL:type_of%@Nat.zero_le:=@Nat.zero_le
theorem tM:type_of%@Int.mul_pos:=@Int.mul_pos
theorem tN:type_of%@Rat.div_def:=@Rat.div_def
theorem tO:type_of%@Nat.pow_add:=@Nat.pow_add
theorem tP:type_of%@Int.le_refl:=@Int.le_refl
theorem tQ:type_of%@wpAny_bind:=@wpAny_bind
theorem tR:type_of%@wpAny_pure:=@wpAny_pure
theorem tS:type_of%@wpAny_mono:=@wpAny_mono
theorem tT:type_of%@if_neg:=@if_neg
theorem tU:type_of%@if_pos:=@if_pos
abbrev tV:=PySem.W.Frag
end
namespace L2
open PySem PySem.Spec PyProof.Rows
def zI(s:Stmt):Arguments:=match s with
 | .FunctionDef _ a _ _ _ _ _ _ _ _=>a
 | _=>{ posonlyargs:=[],args:=[],vararg:=none,kwonlyargs:=[],kw_defaults:=[],kwarg:=none,defaults:=[] }
def yM(s:Stmt):List Stmt:=match s with
 | .FunctionDef _ _ b _ _ _ _ _ _ _=>b
 | _=>[]
def jJ(s:Stmt):Scope:=match s with
 | .FunctionDef _ _ _ _ _ _ sc _ _ _=>sc
 | _=>{ kind:=.function,names:=[],isGenerator:=false,isCoroutine:=false }
end L2
namespace Lw
open PySem PySem.Spec PyProof.Rows L2
def top(i:Nat):Stmt:=PySem.Challenge.pw_lowwater_k09_whole_reckoning_agrees.main.body.getD i (.Pass ⟨0,0,0,0⟩)
abbrev BC:Stmt:=top 8
abbrev IO:Stmt:=top 11
abbrev XZ:Stmt:=top 12
abbrev EB:Stmt:=top 13
abbrev KU:Stmt:=top 14
abbrev YA:Stmt:=top 15
abbrev sWF:Stmt:=top 23
abbrev sPw:Stmt:=top 24
abbrev QK:Stmt:=top 25
abbrev XX:Stmt:=top 26
abbrev zC:Stmt:=top 27
abbrev uT:Stmt:=top 28
abbrev QJ:Stmt:=top 29
abbrev uA:Stmt:=top 30
abbrev zR:Stmt:=top 31
abbrev uR:Stmt:=top 32
abbrev QO:Stmt:=top 33
abbrev IN:Stmt:=top 34
abbrev uQ:Stmt:=top 35
abbrev BG:Stmt:=top 36
abbrev BE:Stmt:=top 37
abbrev uS:Stmt:=top 38
abbrev DX:Stmt:=top 39
abbrev IP:Stmt:=top 40
abbrev QQ:Stmt:=top 41
abbrev IK:Stmt:=top 42
abbrev CI:Stmt:=top 43
abbrev CF:Stmt:=top 44
abbrev EA:Stmt:=top 45
abbrev DZ:Stmt:=top 50
abbrev CG:Stmt:=top 51
abbrev DY:Stmt:=top 52
abbrev yR:Stmt:=top 53
abbrev IM:Stmt:=top 54
abbrev QM:Stmt:=top 55
abbrev CH:Stmt:=top 56
abbrev QL:Stmt:=top 57
abbrev GB:Stmt:=top 59
abbrev XY:Stmt:=top 60
abbrev QN:Stmt:=top 61
abbrev sPut:Stmt:=top 62
abbrev uU:Stmt:=top 63
abbrev QP:Stmt:=top 64
abbrev IL:Stmt:=top 65
abbrev sWoR:Stmt:=top 66
abbrev sSlR:Stmt:=top 67
abbrev NO:Stmt:=top 68
inductive FnAt(K:tV)(x:Str)(st:Stmt):Prop
 | mk {f:Addr} {oc kV dc pm cd ct:Value} {od an:Option Addr} {sl:Array (Option Value)} (a:PySem.W.nsIn K mainGlobals x=some (some (.ref f))) (l:K.lookup f=some ⟨oc,od,.func (PySem.W.fnOf x x (zI st) (yM st) (jJ st) .none kV dc pm an cd ct),sl⟩) (c:PySem.W.codeIn K cd x=true) (k:PySem.W.keepIn K (.ref f)=true)
inductive PrAt(K:tV)(x:Str)(i j:Int):Prop
 | mk {f:Addr} {od:Option Addr} {sl:Array (Option Value)} {t u:Tok} {n:Nat} (a:PySem.W.nsIn K mainGlobals x=some (some (.ref f))) (l:K.lookup f=some ⟨.type "tuple",od,.seq #[.int i t,.int j u] n,sl⟩)
inductive IntAt(K:tV)(x:Str)(i:Int):Prop
 | mk {t:Tok} (a:PySem.W.nsIn K mainGlobals x=some (some (.int i t)))
inductive LtAt(K:tV):Prop
 | mk {f:Addr} {sl:Array (Option Value)} {n:Nat} {x0 x1 x2 x3:Tok} (a:PySem.W.nsIn K mainGlobals "LETTERS" = some (some (.ref f))) (l:K.lookup f=some ⟨.type "tuple",none,.seq #[.str (Str.ofString "a") x0,.str (Str.ofString "b") x1,.str (Str.ofString "c") x2,.str (Str.ofString "d") x3] n,sl⟩)
inductive FgAt(K:tV):Prop
 | mk {f:Addr} {sl:Array (Option Value)} {n:Nat} {x0 x1 x2 x3 x4 x5 x6 x7 x8 x9:Tok} (a:PySem.W.nsIn K mainGlobals "FIGURES" = some (some (.ref f))) (l:K.lookup f=some ⟨.type "tuple",none,.seq #[.str (Str.ofString "0") x0,.str (Str.ofString "1") x1,.str (Str.ofString "2") x2,.str (Str.ofString "3") x3,.str (Str.ofString "4") x4,.str (Str.ofString "5") x5,.str (Str.ofString "6") x6,.str (Str.ofString "7") x7,.str (Str.ofString "8") x8,.str (Str.ofString "9") x9] n,sl⟩)
structure Facts(K:tV):Prop where
 f1:FnAt K "is_whole" BC
 f2:FnAt K "greatest_divisor" IO
 f3:FnAt K "is_fraction" XZ
 f4:FnAt K "added" EB
 f5:FnAt K "multiplied" KU
 f6:FnAt K "divided" YA
 f7:FnAt K "is_whole_from" sWF
 f8:FnAt K "are_powers" sPw
 f9:FnAt K "is_term" QK
 f10:FnAt K "is_sum" XX
 f11:FnAt K "degree" zC
 f12:FnAt K "packed" uT
 f13:FnAt K "unpacked" QJ
 f14:FnAt K "table_of" uA
 f15:FnAt K "sum_of" zR
 f16:FnAt K "tables_added" uR
 f17:FnAt K "levelled" QO
 f18:FnAt K "heap_total" IN
 f19:FnAt K "tables_multiplied" uQ
 f20:FnAt K "plus" BG
 f21:FnAt K "times" BE
 f22:FnAt K "scaled" uS
 f23:FnAt K "slope" DX
 f24:FnAt K "chain" IP
 f25:FnAt K "greatest_powers" QQ
 f26:FnAt K "worth" IK
 f27:FnAt K "parted" CI
 f28:FnAt K "table_put_in" CF
 f29:FnAt K "put_in" EA
 f30:FnAt K "shown_number" DZ
 f31:FnAt K "shown_term" CG
 f32:FnAt K "shown" DY
 f33:FnAt K "read_whole" yR
 f34:FnAt K "read_number" IM
 f35:FnAt K "read_powers" QM
 f36:FnAt K "read_term" CH
 f37:FnAt K "read" QL
 f38:FnAt K "_law_draw" GB
 f39:FnAt K "_law_low" XY
 f40:FnAt K "_law_plus" QN
 f41:FnAt K "_law_put" sPut
 f42:FnAt K "_law_number" uU
 f43:FnAt K "_law_sum" QP
 f44:FnAt K "_law_small" IL
 f45:FnAt K "_law_worths_right" sWoR
 f46:FnAt K "_law_slopes_right" sSlR
 f47:FnAt K "law" NO
 z1:PySem.W.nsIn K mainGlobals "isinstance" = some none
 z2:PySem.W.nsIn K mainGlobals "len" = some none
 z3:PySem.W.nsIn K mainGlobals "int" = some none
 z4:PySem.W.nsIn K mainGlobals "bool" = some none
 z5:PySem.W.nsIn K mainGlobals "tuple" = some none
 z6:PySem.W.nsIn K mainGlobals "list" = some none
 z7:PySem.W.nsIn K mainGlobals "abs" = some none
 z8:PySem.W.nsIn K mainGlobals "range" = some none
 z9:PySem.W.nsIn K mainGlobals "sum" = some none
 z10:PySem.W.nsIn K mainGlobals "zip" = some none
 z11:PySem.W.nsIn K mainGlobals "sorted" = some none
 z12:PySem.W.nsIn K mainGlobals "max" = some none
 z13:PySem.W.nsIn K mainGlobals "enumerate" = some none
 z14:PySem.W.nsIn K mainGlobals "reversed" = some none
 z15:PySem.W.nsIn K mainGlobals "dict" = some none
 z16:PySem.W.nsIn K mainGlobals "all" = some none
 z17:PySem.W.nsIn K mainGlobals "str" = some none
 v1:IntAt K "LONG_BITS" 8000
 v2:IntAt K "MOST_LETTERS" 4
 v3:IntAt K "MOST_DEGREE" 16
 v4:IntAt K "MOST_TERMS" 500
 v5:IntAt K "MOST_SIGNS" 4000
 v6:IntAt K "PACK" 256
 v7:IntAt K "SHORT_BITS" 1500
 n1:PrAt K "NOUGHT" 0 1
 s1:LtAt K
 s2:FgAt K
end Lw
section
open PySem PySem.W PyProof.Rows
namespace Lw
def view09:Program:={ PySem.Challenge.pw_lowwater_k09_whole_reckoning_agrees with main:={ PySem.Challenge.pw_lowwater_k09_whole_reckoning_agrees.main with body:=([1,2,3,4,6,7,8,9,10,11,12,13,14,15,17,18,19,20,21,22,23,24,25,26,27,28,29,30,31,32,33,34,35,36,37,38,39,40,41,42,43,44,45,47,48,49,50,51,52,53,54,55,56,57,59,60,61,62,63,64,65,66,67,68]:List Nat).filterMap λi=>PySem.Challenge.pw_lowwater_k09_whole_reckoning_agrees.main.body[i]? } }
end Lw
set_option maxRecDepth 100000 in
set_option maxHeartbeats 0 in
theorem Lw.said:OpenLaw.wellSaid PySem.Challenge.rw_lowwater_k09_whole_reckoning_agrees=true:=by kernel_rfl
local macro_rules | `(tactic| o_law)=>`(tactic| refine holds_law Lw.said λsaid=>?_)
set_option hygiene false in
local macro_rules | `(tactic| o_head $H)=>`(tactic| refine holds_open (q:=Lw.view09) (loose:=[Str.ofString "LowwaterError"]) (Xt:=λs=>xlAt Lw.view09 [] s&&recOk (RowW.records (PySem.Challenge.rw_lowwater_k09_whole_reckoning_agrees).row.toRowW) s) (XP:=XL Lw.view09 []) (Yf:=Hook.obs $H) (Ya:=Hook.val $H) (YP:=Hook.says $H) (N:=5152) (λw=>by unfold openEnds fencedOpening topFrom;rw[PySem.W.Fast.te10274390034422433532,PySem.W.Fast.te14082659384304107361,PySem.W.Fast.te1435165496053646825,PySem.W.Fast.te14289696077712309145,PySem.W.Fast.te8920871248978507458,PySem.W.Fast.te14364793385576792824,PySem.W.Fast.te4187177175401517315];kernel_rfl) (Hook.of $H) (Hook.keeps $H) (λs e=>xl_of s (Bool.and_eq_true_iff.mp e).1) XL.keeps (by rfl) (by rfl) (by rfl) (λs e=>recFacts_of (Bool.and_eq_true_iff.mp e).2) (by rfl) (by first | assumption | decide +kernel) (by decide +kernel) ⟨rfl,rfl,rfl,rfl,rfl,by decide +kernel⟩ ?hw ?hc)
set_option maxRecDepth 100000 in
set_option maxHeartbeats 0 in
theorem Lw.head(hn:∀(K:Params->Frag) (YP:World->Heap->Prop) (d:DefRec),(∀p,Lw.Facts (K p))->(∀w h,YP w h->(K w.params).In h)->d.params.defaults=[]->d.name="law"->WalkO Lw.view09 [Str.ofString "LowwaterError"] (XL Lw.view09 []) YP PySem.Challenge.rw_lowwater_k09_whole_reckoning_agrees.row.toRowW d [] λf vs=>PySem.call f vs):PySem.Challenge.rw_lowwater_k09_whole_reckoning_agrees.Holds:=by
 w_on;o_law;k_head;(case hw=>w_witness2)
 k_fill
 refine hn _ _ _ ?f (λw h Y=>kIn_of Y) rfl rfl;case f=>
  intro p;constructor;all_goals first | (refine' .mk ?a ?l ?c ?k;(case a=>k_is);(case l=>k_is);(case c=>k_is);(case k=>k_is)) | (refine' .mk ?a ?l;(case a=>k_is);(case l=>k_is)) | (refine' .mk ?v;(case v=>k_is)) | k_is
end
set_option hygiene false in
local macro_rules|`(#[0])=>`(by decide)|`(#[1])=>`(by omega)|`(#[2])=>`(λcdv A outer s H vs Q E hr h=>?_)|`(#[3])=>`(by decide +kernel)|`(#[4])=>`(model X.prog X.w)|`(#[5])=>`(Or.inl rfl)|`(#[6])=>`(notedBy (model prog w) A env λe s'=>R (.error e) s')|`(#[7])=>`(model prog w)|`(#[8])=>`(λvs H Q E h=>?_)|`(#[9])=>`(jK X N scope cl C fp s2 H2)|`(#[10])=>`(jU jX (pv 0) jD (λ_ _=>rfl))|`(#[11])=>`(relabel scope X.env)|`(#[14])=>`(by simp)|`(#[15])=>`(ns.map V.int)|`(#[17])=>`(Addr×Obj)
set_option autoImplicit true
set_option relaxedAutoImplicit true
namespace L2
open PySem PySem.Spec PyProof.Rows
abbrev Key:=Sum Int Str
def ET:Key->Value->Bool
 | .inl k,v=>Value.isInt k v
 | .inr x,v=>Value.isStrOf x v
def keyH(w:World):Key->Int
 | .inl k=>hashInt k
 | .inr x=>hashStr w x
theorem qB:∀{k:Key} {v:Value},ET k v=true->(∃i t,k=Sum.inl i/\v=Value.int i t)∨(∃x t,k=Sum.inr x/\v=Value.str x t)
 | .inl i,v,h=>by
  obtain⟨t,e⟩:=Value.isInt_shape (k:=i) (v:=v) h;exact .inl ⟨i,t,rfl,e⟩
 | .inr x,v,h=>by
  obtain⟨t,e⟩:=Value.isStrOf_shape (x:=x) (v:=v) h;exact .inr ⟨x,t,rfl,e⟩
theorem VF(i:Int)(t:Tok):ET (.inl i) (.int i t)=true:=by simp [ET,Value.isInt]
theorem VE(x:Str)(t:Tok):ET (.inr x) (.str x t)=true:=by simp [ET,Value.isStrOf]
theorem key_ll(a b:Int):decide ((Sum.inl a:Key)=Sum.inl b)=(a==b):=by
 by_cases e:a=b
 ·subst e;simp
 ·have h:¬(Sum.inl a:Key)=Sum.inl b:=λq=>e (Sum.inl.inj q);rw[nC h];exact(beq_eq_false_iff_ne.mpr e).symm
theorem key_rr(a b:Str):decide ((Sum.inr a:Key)=Sum.inr b)=decide (a=b):=by
 by_cases e:a=b
 ·subst e;simp
 ·have h:¬(Sum.inr a:Key)=Sum.inr b:=λq=>e (Sum.inr.inj q);rw[nC h,nC e]
theorem key_lr(a:Int)(b:Str):decide ((Sum.inl a:Key)=Sum.inr b)=false:=nC (λq=>nomatch q)
theorem key_rl(a:Str)(b:Int):decide ((Sum.inr a:Key)=Sum.inl b)=false:=nC (λq=>nomatch q)
def kB(prog:Program)(w:World):PySem.KeyKind prog w Key where
 is:=ET
 hash:=keyH w
 inj:=λv a b ha hb=>by
  rcases qB ha with⟨i,t,rfl,rfl⟩ | ⟨x,t,rfl,rfl⟩
  ·rcases qB hb with⟨j,u,rfl,e⟩ | ⟨y,u,rfl,e⟩
   ·injection e with e1 _;rw[e1]
   ·exact nomatch e
  ·rcases qB hb with⟨j,u,rfl,e⟩ | ⟨y,u,rfl,e⟩
   ·exact nomatch e
   ·injection e with e1 _;rw[e1]
 byValue:=λk v h=>by
  rcases qB h with⟨i,t,rfl,rfl⟩ | ⟨x,t,rfl,rfl⟩<;>rfl
 pyHash:=λhv h=>by
  rcases qB hv with⟨i,t,rfl,rfl⟩ | ⟨x,t,rfl,rfl⟩
  ·exact wpAny_pyHash_int h
  ·exact wpAny_pyHash_str h
 eqBool:=λhu hv h=>by
  rcases qB hu with⟨i,t,rfl,rfl⟩ | ⟨x,t,rfl,rfl⟩
  ·rcases qB hv with⟨j,u,rfl,rfl⟩ | ⟨y,u,rfl,rfl⟩
   ·rw[key_ll]at h;exact wpAny_eqBool_int h
   ·rw[key_lr]at h;exact SeqAt.EqAt.int_str i t y u _ _ _ _ h
  ·rcases qB hv with⟨j,u,rfl,rfl⟩ | ⟨y,u,rfl,rfl⟩
   ·rw[key_rl]at h;exact SeqAt.EqAt.str_int x t j u _ _ _ _ h
   ·rw[key_rr]at h;exact wpAny_eqBool_str h
 «strs» :=λk x t v h=>by
  rcases qB h with⟨i,u,rfl,e⟩ | ⟨y,u,rfl,e⟩
  ·exact nomatch e
  ·injection e with e1 _
   subst e1;cases v<;>rfl
theorem LZ(prog:Program)(w:World)(i:Int)(t:Tok):(kB prog w).is (.inl i) (.int i t)=true:=VF i t
theorem LY(prog:Program)(w:World)(x:Str)(t:Tok):(kB prog w).is (.inr x) (.str x t)=true:=VE x t
inductive V where
 | non | bl (b:Bool) | int (i:Int) | str (x:Str) | byt (b:Array UInt8) | flt (b:UInt64) | ref (a:Addr) | ty (n:String)
 deriving DecidableEq
def RelV:V->Value->Prop
 | .non,u=>u=Value.none
 | .bl b,u=>u=Value.bool b
 | .int i,u=>∃t,u=Value.int i t
 | .str x,u=>∃t,u=Value.str x t
 | .byt b,u=>∃t,u=Value.bytes b t
 | .flt b,u=>∃t,u=Value.float b t
 | .ref a,u=>u=Value.ref a
 | .ty n,u=>u=Value.type n
abbrev Vals:List V->List Value->Prop:=Paired RelV
theorem Vals.length{xs:List V}{us:List Value}(r:Vals xs us):xs.length=us.length:=Paired.length r
theorem Vals.get:∀{xs:List V} {us:List Value} {i:Nat} {x:V},Vals xs us->xs[i]? = some x->∃u,us[i]? = some u/\RelV x u
 | _,_,_,_,.nil,e=>by simp at e
 | _,_,0,_,.cons r _,e=>by simp at e;subst e;exact⟨_,rfl,r⟩
 | _,_,i+1,x,.cons _ t,e=>by
  obtain⟨u,h1,h2⟩:=Vals.get (i:=i) (x:=x) t (by simpa using e);exact⟨u,by simpa using h1,h2⟩
theorem Vals.set(r:RelV x u):∀{xs:List V} {us:List Value} (i:Nat),Vals xs us->Vals (xs.set i x) (us.set i u)
 | _,_,_,.nil=>.nil
 | _,_,0,.cons _ t=>.cons r t
 | _,_,i+1,.cons q t=>.cons q (Vals.set r i t)
theorem Vals.append:∀{xs ys:List V} {us ws:List Value},Vals xs us->Vals ys ws->Vals (xs++ys) (us++ws)
 | _,_,_,_,.nil,s=>s
 | _,_,_,_,.cons r t,s=>.cons r (Vals.append t s)
theorem Vals.take:∀{xs:List V} {us:List Value} (n:Nat),Vals xs us->Vals (xs.take n) (us.take n)
 | _,_,0,_=>.nil
 | _,_,_+1,.nil=>.nil
 | _,_,n+1,.cons r t=>.cons r (Vals.take n t)
theorem Vals.drop:∀{xs:List V} {us:List Value} (n:Nat),Vals xs us->Vals (xs.drop n) (us.drop n)
 | _,_,0,r=>r
 | _,_,_+1,.nil=>.nil
 | _,_,n+1,.cons _ t=>Vals.drop n t
def RelO:Option V->Option Value->Prop
 | some v,some u=>RelV v u
 | none,none=>True
 | _,_=>False
def KV{κ:Type} :List (κ×V)->List (κ×Value)->Prop:=Paired λ(p:κ×V) (q:κ×Value)=>p.1=q.1/\RelV p.2 q.2
def kV:Key->V
 | .inl i=>.int i
 | .inr x=>.str x
inductive HO where
 | lst (xs:List V)
 | tup (xs:List V)
 | dK (ah:List (Key×V)) | dT (ah:List (List Key×V))
 | set (S:Int->Bool) (n:Nat)
 | ins (C dx:Addr) (fs:List (Str×V))
 | own (x:Addr)
 | xd (fs:List (Str×V))
 | met (f x:Addr)
 | rng (lo hi:Int)
 | frz (o:Obj) (u:HO)
 | tbl (ps:Array Value)
 | ext (φ:Heap->Prop)
abbrev Hp:=Addr->Option HO
def upd(H:Hp)(a:Addr)(o:HO):Hp:=λb=>if b=a then some o else H b
theorem jE :upd H a o a=some o:=by unfold upd;rw[tU rfl]
theorem jI(h:b≠a):upd H a o b=H b:=by unfold upd;rw[tT h]
theorem ne_of{H:Hp}{a b:Addr}{o u:HO}(h:H a=some o)(h':H b=some u)(d:o≠u):a≠b:=by
 intro e;subst e;rw[h]at h';exact d (Option.some.inj h')
theorem kG{H:Hp}{a b:Addr}{o:HO}(h:H a=some o)(h':H b=none):a≠b:=by
 intro e;subst e;rw[h]at h';cases h'
def NoD(h:Heap)(a:Addr):Prop:=∀o,h.get? a=some o->o.dict=none
theorem NoD.of{h:Heap}{o:Obj}(e:h.get? a=some o)(d:o.dict=none):NoD h a:=λo' e'=>by rw[e]at e';cases e';exact d
section
variable(P:Program)(w:World)
def ObjOk(H:Hp)(h:Heap)(a:Addr):HO->Prop
 | .lst xs=>xs.length<=sizeLine/\∃(its:List Value) (n:Nat),Vals xs its/\h.get? a=some { cls:=.type "list",data:=.seq its.toArray n }
 | .tup xs=>xs.length<=sizeLine/\∃its:List Value,Vals xs its/\IsTup h a its.toArray/\NoD h a
 | .dK ah=>ah.length<=sizeLine/\(a==sysModules)=false/\∃vs,KV ah vs/\h.DictOf (kB P w) a vs
 | .dT ah=>ah.length<=sizeLine/\(a==sysModules)=false/\∃xs:List (List Key×Addr×Value),
   Paired (λ(p:List Key×V) (q:List Key×Addr×Value)=>p.1=q.1/\H q.2.1=some (.tup (p.1.map kV))/\RelV p.2 q.2.2) ah xs/\
   ∃o es ep,h.get? a=some o/\o.ExactDict/\o.data=.dict es ep/\es.toList=xs.map (entryOfKey (tupleKind (kB P w)))/\(xs.map (·.1)).Nodup
 | .set S n=>h.SetOf (intKind P w) a S n
 | .ins C dx fs=>H dx=some (.own a)/\fs.length<=1000/\dx≠a/\h.get? a=some (PySem.W.instObj C dx)/\
   ∃mA,h.Ns1 dx mA/\(∀f,RelO (fs.lookup f) (mA f))/\PySem.Within mA (fs.map (·.1))
 | .own _=>∃o,h.get? a=some o
 | .xd fs=>∃mA,h.Ns1 a mA/\∀f,RelO (fs.lookup f) (mA f)
 | .rng lo hi=>∃t u v,h.get? a=some { cls:=.type "range",data:=.fields #[.int lo t,.int hi u,.int 1 v] }
 | .frz o u=>h.get? a=some o/\ObjOk H h a u
 | .tbl ps=>h.get? a=some { cls:=.none,data:=.fields ps }
 | .met f x=>h.get? a=some (PySem.W.methodObj (.ref f) (.ref x))
 | .ext φ=>φ h/\(∃o,h.get? a=some o)/\∀h1 h2:Heap,φ h1->(∀o,h1.get? a=some o->h2.get? a=some o)->φ h2
def HOk(H:Hp)(h:Heap):Prop:=∀a o,H a=some o->ObjOk P w H h a o
end
section
variable{P:Program}{w:World}{H H':Hp}{h h':Heap}{a:Addr}{o:HO}
theorem ObjOk.lt(x:ObjOk P w H h a o):a<h.objs.size:=by
 cases o with
 | lst xs=>obtain⟨_,_,_,_,e⟩:=x;exact nV e
 | tup xs=>obtain⟨_,_,_,p⟩:=x;exact p.1.lt
 | dK ah=>obtain⟨_,_,_,_,o,_,_,e,_⟩:=x;exact nV e
 | dT ah=>obtain⟨_,_,_,_,o,_,_,e,_⟩:=x;exact nV e
 | set S n=>obtain⟨o,_,_,_,e,_⟩:=x;exact nV e
 | ins C dx fs=>obtain⟨_,_,_,e,_⟩:=x;exact nV e
 | own y=>obtain⟨_,e⟩:=x;exact nV e
 | xd fs=>obtain⟨_,⟨_,_,_,e,_⟩,_⟩:=x;exact nV e
 | rng lo hi=>obtain⟨_,_,_,e⟩:=x;exact nV e
 | frz ob u=>obtain⟨e,_⟩:=x;exact nV e
 | tbl ps=>exact nV (show h.get? a=some _ from x)
 | met f y=>exact nV (show h.get? a=some _ from x)
 | ext φ=>obtain⟨_,⟨_,e⟩,_⟩:=x;exact nV e
theorem Paired.mapP{α β:Type}{F G:α->β->Prop} :∀{l₁:List α} {l₂:List β},Paired F l₁ l₂->(∀a b,F a b->G a b)->Paired G l₁ l₂
 | _,_,.nil,_=>.nil
 | _,_,.cons r t,f=>.cons (f _ _ r) (Paired.mapP t f)
theorem ObjOk.stay(x:ObjOk P w H h a o)(k:∀b u,(b=a∨H b=some (.own a))->h.get? b=some u->h'.get? b=some u)
  (ho:∀b,H b=some (.own a)->H' b=some (.own a)) (ht:∀b xs,H b=some (.tup xs)->H' b=some (.tup xs)):ObjOk P w H' h' a o:=by
 induction o with
 | lst xs=>obtain⟨z,its,n,r,e⟩:=x;exact⟨z,its,n,r,k _ _ (.inl rfl) e⟩
 | tup xs=>obtain⟨z,its,r,⟨ob,e,c⟩,nd⟩:=x;exact⟨z,its,r,⟨ob,k _ _ (.inl rfl) e,c⟩,.of (k _ _ (.inl rfl) e) (nd _ e)⟩
 | dK ah=>obtain⟨z,y,vs,r,ob,es,ep,e,c⟩:=x;exact⟨z,y,vs,r,ob,es,ep,k _ _ (.inl rfl) e,c⟩
 | dT ah=>
  obtain⟨z,y,xs,r,ob,es,ep,e,c⟩:=x;exact⟨z,y,xs,Paired.mapP r λp q z=>⟨z.1,ht _ _ z.2.1,z.2.2⟩,ob,es,ep,k _ _ (.inl rfl) e,c⟩
 | set S n=>obtain⟨ob,es,ep,t,e,c⟩:=x;exact⟨ob,es,ep,t,k _ _ (.inl rfl) e,c⟩
 | ins C dx fs=>
  obtain⟨d,z,ne,e,mA,⟨od,es,ep,e2,c⟩,r⟩:=x;exact⟨ho _ d,z,ne,k _ _ (.inl rfl) e,mA,⟨od,es,ep,k _ _ (.inr d) e2,c⟩,r⟩
 | own y=>obtain⟨ob,e⟩:=x;exact⟨ob,k _ _ (.inl rfl) e⟩
 | xd fs=>obtain⟨mA,⟨od,es,ep,e,c⟩,r⟩:=x;exact⟨mA,⟨od,es,ep,k _ _ (.inl rfl) e,c⟩,r⟩
 | rng lo hi=>obtain⟨t,u,v,e⟩:=x;exact⟨t,u,v,k _ _ (.inl rfl) e⟩
 | frz ob u ih=>obtain⟨e,q⟩:=x;exact⟨k _ _ (.inl rfl) e,ih q⟩
 | tbl ps=>
  have e:h.get? a=some { cls:=.none,data:=.fields ps } :=x;show h'.get? a=some { cls:=.none,data:=.fields ps };exact k a _ (.inl rfl) e
 | met f y=>
  have e:h.get? a=some (PySem.W.methodObj (.ref f) (.ref y)):=x;show h'.get? a=some (PySem.W.methodObj (.ref f) (.ref y));exact k a _ (.inl rfl) e
 | ext φ=>obtain⟨p,⟨o,e⟩,st⟩:=x;exact⟨st _ _ p λo q=>k _ _ (.inl rfl) q,⟨o,k _ _ (.inl rfl) e⟩,st⟩
theorem HOk.lt(x:HOk P w H h)(e:H a=some o):a<h.objs.size:=(x a o e).lt
theorem HOk.fresh(x:HOk P w H h)(e:h.objs.size<=a):H a=none:=by
 cases q:H a with
 | none=>rfl
 | some u=>exact absurd (hW (x.lt q) e) (nQ _)
theorem HOk.kept(x:HOk P w H h)(k:∀b u,h.get? b=some u->h'.get? b=some u):HOk P w H h':=λa o e=>
 (x a o e).stay (λb u _ q=>k b u q) (λ_ q=>q) λ_ _ q=>q
theorem HOk.laid(x:HOk P w H h)(k:∀b u,h.get? b=some u->h'.get? b=some u)(hp:h.objs.size<=a)(new:ObjOk P w (upd H a o) h' a o):HOk P w (upd H a o) h':=λb u e=>by
 have hn:=x.fresh hp;by_cases hb:b=a
 ·subst hb;rw[jE]at e;cases e;exact new
 ·rw[jI hb]at e;exact(x b u e).stay (λc v _ q=>k c v q) (λc q=>by rw[jI (kG q hn)];exact q) λc xs q=>by rw[jI (kG q hn)];exact q
end
def Rd(H:Hp)(a:Addr)(u:HO):Prop:=H a=some u∨∃o,H a=some (.frz o u)
theorem Rd.ok(r:Rd H a u)(x:HOk P w H h):ObjOk P w H h a u:=by
 rcases r with r | ⟨o,r⟩
 ·exact x a u r
 ·obtain⟨_,q⟩:=x a _ r;exact q
def Mut:Option HO->Prop
 | some (.lst _)=>True
 | some (.dK _)=>True
 | some (.dT _)=>True
 | some (.set _ _)=>True
 | some (.ins _ _ _)=>True
 | some (.ext _)=>True
 | _=>False
section
variable{P:Program}{w:World}{H:Hp}{h h':Heap}{x e:Addr}{o':HO}
theorem HOk.write(ok:HOk P w H h)(mu:Mut (H x))(he:e=x∨H e=some (.own x))(k:∀b u,b≠e->h.get? b=some u->h'.get? b=some u)(heo:∃u,h'.get? e=some u)
  (new:ObjOk P w (upd H x o') h' x o'):HOk P w (upd H x o') h':=λb u q=>by
 have nown:∀c y,H c=some (.own y)->c≠x:=λc y r z=>by subst z;rw[r]at mu;exact mu
 have ntup:∀c xs,H c=some (.tup xs)->c≠x:=λc xs r z=>by subst z;rw[r]at mu;exact mu
 by_cases hb:b=x
 ·subst hb;rw[jE]at q;cases q;exact new
 ·rw[jI hb]at q;by_cases hbe:b=e
  ·have q':H b=some (.own x):=by
    rcases he with z | z
    ·exact absurd (hbe.trans z) hb
    ·rw[hbe];exact z
   rw[q]at q';cases q';obtain⟨v,hv⟩:=heo;exact⟨v,by rw[hbe];exact hv⟩
  ·refine(ok b u q).stay (λc v hc r=>k c v ?_ r) (λc r=>by rw[jI (nown c b r)];exact r) λc xs r=>by rw[jI (ntup c xs r)];exact r
   rcases hc with rfl | hc
   ·exact hbe
   ·rintro rfl;rcases he with z | z
    ·exact nown c b hc z
    ·rw[hc]at z;cases z;exact hb rfl
end
structure Un(fs ex:List Addr)(H H':Hp)(h h':Heap):Prop where
 keep:∀b o,h.get? b=some o->H b=none->b∉fs->b∉ex->h'.get? b=some o
 slot:∀b o,h.get? b=some o->H b=none->b∈fs->b∉ex->∃sl,h'.get? b=some { o with slots:=sl }
 free:∀b o,h.get? b=some o->H b=none->b∉ex->H' b=none
 there:∀b o,h.get? b=some o->b∉ex->∃o',h'.get? b=some o'
 tups:∀b xs,H b=some (.tup xs)->H' b=some (.tup xs)
 frzs:∀b o u,H b=some (.frz o u)->H' b=some (.frz o u)
 tbls:∀b ps,H b=some (.tbl ps)->∃more,H' b=some (.tbl (ps++more))
section
variable{fs fs' ex ex':List Addr}{H H1 H2:Hp}{h h1 h2 h':Heap}{a x e:Addr}{o:HO}
theorem Un.any(u:Un fs ex H H1 h h1)(q:h.get? b=some ob)(n:H b=none)(hx:b∉ex):∃sl,h1.get? b=some { ob with slots:=sl } :=by
 by_cases hb:b∈fs
 ·exact u.slot b ob q n hb hx
 ·exact⟨ob.slots,u.keep b ob q n hb hx⟩
theorem Un.kept(k:∀b u,h.get? b=some u->h'.get? b=some u):Un fs ex H H h h':=
 ⟨λb ob q _ _ _=>k b ob q,λb ob q _ _ _=>⟨ob.slots,k b ob q⟩,λ_ _ _ n _=>n,λb ob q _=>⟨ob,k b ob q⟩,λ_ _ q=>q,λ_ _ _ q=>q,λ_ ps q=>⟨#[],by rw[q];simp⟩⟩
theorem Un.refl:Un fs ex H H h h:=Un.kept λ_ _ q=>q
theorem Un.laid(k:∀b u,h.get? b=some u->h'.get? b=some u)(hp:h.objs.size<=a)(hn:H a=none):Un fs ex H (upd H a o) h h' where
 keep:=λb u q _ _ _=>k b u q
 slot:=λb u q _ _ _=>⟨u.slots,k b u q⟩
 free:=λb u q n _=>by rw[jI (nX (hW (nV q) hp))];exact n
 there:=λb u q _=>⟨u,k b u q⟩
 tups:=λb xs q=>by rw[jI (kG q hn)];exact q
 frzs:=λb u xs q=>by rw[jI (kG q hn)];exact q
 tbls:=λb ps q=>⟨#[],by rw[jI (kG q hn),q];simp⟩
theorem Un.write(mu:Mut (H x))(he:e=x∨H e=some (.own x))(k:∀b u,b≠e->h.get? b=some u->h'.get? b=some u)(heo:∃u,h'.get? e=some u):Un fs ex H (upd H x o) h h':=by
 have hx:∀b,H b=none->b≠x:=λb n z=>by subst z;rw[n]at mu;exact mu
 have hb:∀b,H b=none->b≠e:=λb n z=>by
  subst z;rcases he with r | r
  ·exact hx b n r
  ·rw[n]at r;cases r
 have hm:∀b u,H b=some u->¬Mut (some u)->b≠x:=λb u q nm z=>by subst z;rw[q]at mu;exact nm mu
 refine⟨λb u q n _ _=>k b u (hb b n) q,λb u q n _ _=>⟨u.slots,k b u (hb b n) q⟩,λb u q n _=>by rw[jI (hx b n)];exact n,λb u q _=>?_,
  λb xs q=>by rw[jI (hm b _ q λz=>z)];exact q,λb u xs q=>by rw[jI (hm b _ q λz=>z)];exact q,λb ps q=>⟨#[],by rw[jI (hm b _ q λz=>z),q];simp⟩⟩
 by_cases hbe:b=e
 ·subst hbe;exact heo
 ·exact⟨u,k b u hbe q⟩
end
def trk(h:Heap)(H:Hp):List Addr:=(List.range h.objs.size).filter λa=>(H a).isSome
def JQ(h:Heap)(H:Hp):Heap:=PySem.W.hideAll h (trk h H)
theorem VI(h:Heap)(H:Hp):(JQ h H).objs.size=h.objs.size:=PySem.W.hideAll_size _ _
theorem hidT_get{h:Heap}(e:h.get? b=some o)(n:H b=none):(JQ h H).get? b=some o:=
 PySem.W.hideAll_get _ e λhm=>by
  have q:(H b).isSome=true:=(List.mem_filter.mp hm).2;rw[n]at q;simp at q
theorem of_hidT{h:Heap}(e:(JQ h H).get? b=some o):h.get? b=some o/\H b=none:=by
 have e':h.get? b=some o:=PySem.W.of_hideAll (trk h H) e;refine⟨e', ?_⟩;cases q:H b with
 | none=>rfl
 | some x=>
  have hm:b∈trk h H:=List.mem_filter.mpr ⟨nI.mpr (nV e'),by simp [q]⟩;have z:(JQ h H).get? b=none:=PySem.W.hideAll_none (trk h H) hm;rw[z]at e;cases e
def yO(g h:Heap)(L:Addr):List #[17]:=(List.range h.objs.size).filterMap λa=>if a=L∨(g.get? a).isSome=true then none else(h.get? a).map λo=>(a,o)
theorem wB{g h:Heap}(h1:a≠L)(h2:g.get? a=none)(h3:h.get? a=some o):(a,o)∈yO g h L:=
 List.mem_filterMap.mpr ⟨a,nI.mpr (nV h3),by simp [h1,h2,h3]⟩
theorem EN{g h:Heap}{p:Addr×Obj}(hp:p∈yO g h L):p.1≠L/\g.get? p.1=none/\h.get? p.1=some p.2:=by
 obtain⟨b,_,e⟩:=List.mem_filterMap.mp hp;split at e
 ·cases e
 ·rename_i hn;cases q:h.get? b with
  | none=>rw[q]at e;simp at e
  | some u=>
   rw[q]at e;simp only[Option.map_some,Option.some.injEq]at e;subst e;refine⟨λz=>hn (.inl z), ?_,q⟩;show g.get? b=none;cases r:g.get? b with
   | none=>rfl
   | some v=>exact(hn (.inr (by simp [r]))).elim
theorem LS :News g L h (yO g h L):=λp hp=>let ⟨a,b,c⟩:=EN hp;⟨c,a,b⟩
structure Mod(K:tV)(mg:Str->Option Value)(base:Heap):Prop where
 kin:K.In base
 glob:base.Ns mainGlobals mg
 blt:∃mb,base.Ns builtinsNs mb/\∀x:Str,x≠"__name__"->mb x=bootBuiltins x
 nolimit:base.NoLimit
structure Cx where
 prog:Program
 w:World
 K:tV
 mg:Str->Option Value
 base:Heap
 A:Around
 N:List Str
 s₀:Shared
 H₀:Hp
 env:Env
 outer:List Env
 stack:List Env
 ex:List Addr
 fn:Str->Bool
 calm:Bool
 pn:List #[17]
 xe:Value->Shared->Prop
def frs(l:List Env):List Addr:=l.filterMap (·.frame)
abbrev Cx.fs(X:Cx):List Addr:=frs X.outer
def Vis(sc:Scope)(x:Str):Prop:=sc.names.lookup x=some .local∨sc.names.lookup x=some .cell∨sc.names.lookup x=some .free
def Loc(sc:Scope)(x:Str):Prop:=sc.names.lookup x=some .local∨sc.names.lookup x=some .cell
def Look(env:Env)(h:Heap)(m:Str->Option Value)(x:Str)(u:Value):Prop:=
 (env.kindOf x=some .local/\m x=some u)∨((env.kindOf x=some .cell∨env.kindOf x=some .free)/\∃c,env.cells.lookup x=some c/\h.IsCell c (some u))
structure Cx.Ok(X:Cx):Prop where
 mod:Mod X.K X.mg X.base
 kind:X.env.scope.kind=.function
 glob:X.env.globals=mainGlobals
 blt:X.env.builtins=builtinsNs
 above:X.s₀.heap.objs.size<=X.env.locals
 inj:∀x y c,X.env.cells.lookup x=some c->X.env.cells.lookup y=some c->x=y
 has:∀x,(X.env.kindOf x=some .cell∨X.env.kindOf x=some .free)->∃c,X.env.cells.lookup x=some c
 cab:∀x c,X.fn x=true->X.env.cells.lookup x=some c->X.s₀.heap.objs.size<=c
 hd:X.calm=true->X.A.handled=none
 frames:X.A.frames=some X.stack
 stk:X.stack=X.outer∨(X.stack=X.env::X.outer/\X.env.frame=some X.env.locals)
 exf:∀b∈X.ex,b≠X.env.locals/\∀x c,X.env.cells.lookup x=some c->c≠b
 bs:∀b o,X.base.get? b=some o->X.s₀.heap.get? b=some o/\X.H₀ b=none
 bsz:X.base.objs.size<=X.s₀.heap.objs.size
 noex:∀b o,X.base.get? b=some o->b∉X.ex
 exfs:∀b∈X.ex,b∉X.fs
 funs:X.s₀.heap.FunFrames X.base X.outer
 frf:∀b∈X.fs,X.H₀ b=none
structure Inv(X:Cx)(ac:List #[17])(σ:List (Option V))(H:Hp)(s:Shared):Prop where
 ok:X.Ok
 os:s.os=X.s₀.os
 bare:AllBare s.gens
 base:Un X.fs X.ex X.H₀ H X.s₀.heap s.heap
 loc:∃m,s.heap.Ns X.env.locals m/\∀(i:Nat) (x:Str) (v:V),X.N[i]? = some x->σ[i]? = some (some v)->Vis X.env.scope x->∃u,RelV v u/\Look X.env s.heap m x u
 cell:∀x c,X.env.cells.lookup x=some c->∃v,s.heap.IsCell c v
 free:H X.env.locals=none
 freeC:∀x c,X.env.cells.lookup x=some c->H c=none
 pin:∀p∈X.pn++ac,s.heap.get? p.1=some p.2/\H p.1=none/\p.1≠X.env.locals/\p.1∉X.fs/\∀v,p.2.data≠.cell v
 hok:HOk X.prog X.w H s.heap
 len:σ.length=X.N.length
section
variable{X:Cx}{ac:List #[17]}{σ:List (Option V)}{H H':Hp}{s:Shared}{h':Heap}
theorem Cx.Ok.nofr(ok:X.Ok)(e:X.base.get? b=some o):b∉X.fs:=λhb=>by
 have:=(ok.funs.mem hb).1;rw[e]at this;cases this
theorem Inv.bs(I:Inv X ac σ H s):∀b o,X.base.get? b=some o->s.heap.get? b=some o/\H b=none:=λb o e=>
 ⟨I.base.keep b o (I.ok.bs b o e).1 (I.ok.bs b o e).2 (I.ok.nofr e) (I.ok.noex b o e),I.base.free b o (I.ok.bs b o e).1 (I.ok.bs b o e).2 (I.ok.noex b o e)⟩
theorem Inv.bk(I:Inv X ac σ H s):∀b o,X.base.get? b=some o->s.heap.get? b=some o:=λb o e=>(I.bs b o e).1
theorem Inv.mod(I:Inv X ac σ H s):Mod X.K X.mg X.base:=I.ok.mod
theorem Inv.kIn(I:Inv X ac σ H s):X.K.In s.heap:=I.ok.mod.kin.keeps I.bk
theorem Inv.fr(I:Inv X ac σ H s):∃m,Fr X.base X.env.locals s.heap m:=
 let ⟨m,hn,_⟩:=I.loc
 ⟨m,hn,I.bk,nW I.ok.bsz I.ok.above⟩
theorem Inv.lt(I:Inv X ac σ H s):X.env.locals<s.heap.objs.size:=let ⟨_,hn,_⟩:=I.loc;hn.lt
theorem Inv.sz(I:Inv X ac σ H s):X.s₀.heap.objs.size<=s.heap.objs.size:=nW I.ok.above (tH I.lt)
theorem Inv.nofs(I:Inv X ac σ H s)(h:s.heap.objs.size<=a):a∉X.fs:=λhb=>by
 obtain⟨_,o,ho,_⟩:=I.ok.funs.mem hb;exact absurd (hW (nV ho) (nW I.sz h)) (nQ _)
theorem Inv.cne(I:Inv X ac σ H s):∀x c,X.env.cells.lookup x=some c->c≠X.env.locals:=λx c e z=>by
 obtain⟨v,o,ho,hd⟩:=I.cell x c e;obtain⟨m,⟨o',es,ep,ho',hd',_⟩,_⟩:=I.loc;rw[z,ho']at ho;cases ho;rw[hd']at hd;cases hd
theorem Inv.funs(I:Inv X ac σ H s):s.heap.FunFrames X.base X.outer:=by
 have all:∀(l:List Env),(∀b∈frs l,b∈X.fs)->X.s₀.heap.FunFrames X.base l->s.heap.FunFrames X.base l:=by
  intro l;induction l with
  | nil=>intro _ _;trivial
  | cons env r ih=>
   intro hs hl;obtain⟨hk,⟨L,o,hf,hn,ho,hd⟩,hr⟩:=hl;have hL:L∈X.fs:=hs L (by unfold frs;rw[List.filterMap_cons,hf];exact mD);obtain⟨sl,e⟩:=I.base.slot L o ho (I.ok.frf L hL) hL λz=>I.ok.exfs L z hL;exact⟨hk,⟨L,_,hf,hn,e,hd⟩,ih (λb hb=>hs b (by unfold frs;rw[List.filterMap_cons,hf];exact gS _ hb)) hr⟩
 exact all X.outer (λ_ hb=>hb) I.ok.funs
theorem Inv.stack(I:Inv X ac σ H s):s.heap.FunFrames X.base X.stack:=by
 rcases I.ok.stk with e | ⟨e,hf⟩
 ·rw[e];exact I.funs
 ·rw[e];obtain⟨m,hn,_⟩:=I.loc;refine .cons (by rw[I.ok.kind];decide) hf hn ?_ I.funs;exact Heap.get?_none_of_le (nW I.ok.bsz I.ok.above)
theorem Inv.stkSub(I:Inv X ac σ H s):∀b∈frs X.stack,b∈X.env.locals::X.fs:=λb hb=>by
 rcases I.ok.stk with e | ⟨e,hf⟩
 ·rw[e]at hb;exact gS _ hb
 ·rw[e]at hb;unfold frs at hb;rw[List.filterMap_cons,hf]at hb;exact hb
theorem Inv.stkFree(I:Inv X ac σ H s):∀b∈frs X.stack,H b=none:=λb hb=>by
 rcases nP.mp (I.stkSub b hb)with e | hb
 ·rw[e];exact I.free
 ·obtain⟨_,o,ho,_⟩:=I.ok.funs.mem hb;exact I.base.free b o ho (I.ok.frf b hb) λz=>I.ok.exfs b z hb
theorem Inv.step{g':Array GenState}{t':Nat}{d':Drawn}{ch:List Addr}(I:Inv X ac σ H s)
  (hch:∀b∈ch,(b∈X.ex∨X.s₀.heap.objs.size<=b)/\b≠X.env.locals/\(∀x c,X.env.cells.lookup x=some c->c≠b)/\∀p∈X.pn++ac,p.1≠b)
  (keep:∀b o,b≠X.env.locals->b∉X.fs->b∉ch->s.heap.get? b=some o->H b=none->h'.get? b=some o)
  (slot:∀b o,b≠X.env.locals->b∈X.fs->b∉ch->s.heap.get? b=some o->H b=none->∃sl,h'.get? b=some { o with slots:=sl }) (free:∀b o,b∉ch->s.heap.get? b=some o->H b=none->H' b=none)
  (there:∀b o,b∉ch->s.heap.get? b=some o->∃o',h'.get? b=some o')
  (tups:∀b xs,H b=some (.tup xs)->H' b=some (.tup xs)) (frzs:∀b o u,H b=some (.frz o u)->H' b=some (.frz o u)) (tbls:∀b ps,H b=some (.tbl ps)->∃more,H' b=some (.tbl (ps++more)))
  (ns:∀m,s.heap.Ns X.env.locals m->h'.Ns X.env.locals m) (hok:HOk X.prog X.w H' h') (hg:AllBare g') :
  Inv X ac σ H' { s with heap:=h',gens:=g',drawn:=d',toks:=t' } :=by
 have neL:∀b o,X.s₀.heap.get? b=some o->b≠X.env.locals:=λb o e=>nX (hW (nV e) I.ok.above);have neC:∀b o,X.s₀.heap.get? b=some o->b∉X.ex->b∉ch:=λb o e hx hb=>by
  rcases(hch b hb).1 with z | z
  ·exact hx z
  ·exact absurd (hW (nV e) z) (nQ _)
 have cellK:∀x c,X.env.cells.lookup x=some c->∀v,s.heap.IsCell c v->h'.IsCell c v:=λx c e v ⟨o,ho,hd⟩=>by
  have nch:c∉ch:=λz=>(hch c z).2.2.1 x c e rfl;by_cases hc:c∈X.fs
  ·obtain⟨sl,q⟩:=slot c o (I.cne x c e) hc nch ho (I.freeC x c e);exact⟨_,q,hd⟩
  ·exact⟨o,keep c o (I.cne x c e) hc nch ho (I.freeC x c e),hd⟩
 refine⟨I.ok,I.os,hg,⟨λb o e n hb hx=>?_,λb o e n hb hx=>?_,λb o e n hx=>?_,λb o e hx=>?_,λb xs e=>tups b xs (I.base.tups b xs e),λb o xs e=>frzs b o xs (I.base.frzs b o xs e),λb ps e=>?_⟩, ?_,λx c e=>?_, ?_,λx c e=>?_,λp hp=>?_,hok,I.len⟩
 ·exact keep b o (neL b o e) hb (neC b o e hx) (I.base.keep b o e n hb hx) (I.base.free b o e n hx)
 ·obtain⟨sl,e1⟩:=I.base.slot b o e n hb hx;obtain⟨sl',e2⟩:=slot b _ (neL b o e) hb (neC b o e hx) e1 (I.base.free b o e n hx);exact⟨sl',e2⟩
 ·obtain⟨o',e1⟩:=I.base.there b o e hx;exact free b o' (neC b o e hx) e1 (I.base.free b o e n hx)
 ·obtain⟨o',e1⟩:=I.base.there b o e hx;exact there b o' (neC b o e hx) e1
 ·obtain⟨m1,e1⟩:=I.base.tbls b ps e;obtain⟨m2,e2⟩:=tbls b _ e1;exact⟨m1++m2,by rw[e2,Array.append_assoc]⟩
 ·obtain⟨m,hn,hl⟩:=I.loc;refine⟨m,ns m hn,λi x v e1 e2 e3=>?_⟩;obtain⟨u,r,l⟩:=hl i x v e1 e2 e3;refine⟨u,r, ?_⟩;rcases l with l | ⟨k,c,e,z⟩
  ·exact .inl l
  ·exact .inr ⟨k,c,e,cellK x c e _ z⟩
 ·obtain⟨v,z⟩:=I.cell x c e;exact⟨v,cellK x c e v z⟩
 ·obtain⟨m,⟨o,_,_,ho,_⟩,_⟩:=I.loc;exact free _ o (λz=>(hch _ z).2.1 rfl) ho I.free
 ·obtain⟨v,o,ho,hd⟩:=I.cell x c e;exact free c o (λz=>(hch c z).2.2.1 x c e rfl) ho (I.freeC x c e)
 ·obtain⟨e,n,ne,nf,d⟩:=I.pin p hp;have nch:p.1∉ch:=λz=>(hch p.1 z).2.2.2 p hp rfl;exact⟨keep p.1 p.2 ne nf nch e n,free p.1 p.2 nch e n,ne,nf,d⟩
theorem Inv.un{t':Nat}(I:Inv X ac σ H s)(u:Un X.fs [] H H' s.heap h')(hok:HOk X.prog X.w H' h'):Inv X ac σ H' { s with heap:=h',toks:=t' } :=by
 obtain⟨m,⟨o,es,ep,ho,r⟩,_⟩:=id I.loc;obtain⟨sl,hL⟩:=u.any ho I.free #[14];exact I.step (g':=s.gens) (d':=s.drawn) (ch:=[]) (λ_ z=>nomatch z) (λb o _ hb _ e n=>u.keep b o e n hb #[14]) (λb o _ hb _ e n=>u.slot b o e n hb #[14]) (λb o _ e n=>u.free b o e n #[14]) (λb o _ e=>u.there b o e #[14]) u.tups u.frzs u.tbls (λm' hm=>by
  obtain⟨o',es',ep',ho',r'⟩:=hm;rw[ho]at ho';cases ho';exact⟨_,es',ep',hL,r'⟩) hok I.bare
theorem Inv.call{t':Nat}(I:Inv X ac σ H s)(u:Un (frs X.stack) ch H H' s.heap h')(hok:HOk X.prog X.w H' h')(hg:AllBare g')
  (hch:∀b∈ch,(b∈X.ex∨X.s₀.heap.objs.size<=b)/\b≠X.env.locals/\(∀x c,X.env.cells.lookup x=some c->c≠b)/\∀p∈X.pn++ac,p.1≠b) :
  Inv X ac σ H' { s with heap:=h',gens:=g',drawn:=d',toks:=t' } :=by
 obtain⟨m,⟨o,es,ep,ho,r⟩,_⟩:=id I.loc;obtain⟨sl,hL⟩:=u.any ho I.free λz=>(hch _ z).2.1 rfl;exact I.step (ch:=ch) hch (λb o hL hb hc e n=>u.keep b o e n (λz=>(nP.mp (I.stkSub b z)).elim hL hb) hc) (λb o _ _ hc e n=>u.any e n hc) (λb o hc e n=>u.free b o e n hc) (λb o hc e=>u.there b o e hc) u.tups u.frzs u.tbls (λm' hm=>by
  obtain⟨o',es',ep',ho',r'⟩:=hm;rw[ho]at ho';cases ho';exact⟨_,es',ep',hL,r'⟩) hok hg
theorem Inv.turned{t':Nat}(I:Inv X ac σ H s)(k:∀b o,b≠it->s.heap.get? b=some o->h'.get? b=some o)(hn:H it=none)(hL:it≠X.env.locals)
  (h1:it∈X.ex∨X.s₀.heap.objs.size<=it) (h2:∀x c,X.env.cells.lookup x=some c->c≠it) (h3:∀p∈X.pn++ac,p.1≠it):Inv X ac σ H { s with heap:=h',toks:=t' } :=by
 have nit:∀b u,H b=some u->b≠it:=λb u e z=>by rw[z,hn]at e;cases e
 refine I.step (g':=s.gens) (d':=s.drawn) (ch:=[it]) (λb hb=>?_) (λb o _ _ hc e _=>k b o (λz=>hc (by simp [z])) e) (λb o _ _ hc e _=>⟨o.slots,k b o (λz=>hc (by simp [z])) e⟩) (λ_ _ _ _ n=>n)
  (λb o hc e=>⟨o,k b o (λz=>hc (by simp [z])) e⟩) (λ_ _ e=>e) (λ_ _ _ e=>e) (λb ps e=>⟨#[],by rw[e];simp⟩) (λm hm=>?_) (λb u e=>?_) I.bare
 ·have e:b=it:=by simpa using hb
  subst e;exact⟨h1,hL,h2,h3⟩
 ·obtain⟨o,es,ep,ho,r⟩:=hm;exact⟨o,es,ep,k _ o (Ne.symm hL) ho,r⟩
 ·refine(I.hok b u e).stay (λc v hc q=>k c v ?_ q) (λ_ q=>q) λ_ _ q=>q;rcases hc with z | z
  ·rw[z];exact nit b u e
  ·exact nit c _ z
theorem Inv.tok(I:Inv X ac σ H s)(t:Nat):Inv X ac σ H { s with toks:=t } :=I.un (h':=s.heap) (t':=t) Un.refl I.hok
theorem Inv.kept{t':Nat}(I:Inv X ac σ H s)(k:∀b u,s.heap.get? b=some u->h'.get? b=some u):Inv X ac σ H { s with heap:=h',toks:=t' } :=I.un (Un.kept k) (I.hok.kept k)
theorem Inv.laid{t':Nat}(I:Inv X ac σ H s)(k:∀b u,s.heap.get? b=some u->h'.get? b=some u)(hp:s.heap.objs.size<=a)(new:ObjOk X.prog X.w (upd H a o) h' a o) :
  Inv X ac σ (upd H a o) { s with heap:=h',toks:=t' } :=I.un (Un.laid k hp (I.hok.fresh hp)) (I.hok.laid k hp new)
theorem Inv.write{t':Nat}(I:Inv X ac σ H s)(mu:Mut (H x))(he:e=x∨H e=some (.own x))(k:∀b u,b≠e->s.heap.get? b=some u->h'.get? b=some u)(heo:∃u,h'.get? e=some u)
  (new:ObjOk X.prog X.w (upd H x o) h' x o):Inv X ac σ (upd H x o) { s with heap:=h',toks:=t' } :=I.un (Un.write mu he k heo) (I.hok.write mu he k heo new)
theorem Inv.weak{σ':List (Option V)}(I:Inv X ac σ H s)(hl:σ'.length=σ.length)(w:∀(i:Nat) v,σ'[i]? = some (some v)->σ[i]? = some (some v)):Inv X ac σ' H s:=
 ⟨I.ok,I.os,I.bare,I.base,let ⟨m,hn,hl'⟩:=I.loc;⟨m,hn,λi x v e1 e2 e3=>hl' i x v e1 (w i v e2) e3⟩,I.cell,I.free,I.freeC,I.pin,I.hok,hl.trans I.len⟩
theorem Inv.pins_of(I:Inv X ac σ H s)(h:∀p∈pins',s.heap.get? p.1=some p.2/\H p.1=none/\p.1≠X.env.locals/\p.1∉X.fs/\∀v,p.2.data≠.cell v):Inv X pins' σ H s:=
 ⟨I.ok,I.os,I.bare,I.base,I.loc,I.cell,I.free,I.freeC,λp hp=>(nE.mp hp).elim (λz=>I.pin p (List.mem_append_left _ z)) (h p),I.hok,I.len⟩
theorem LR{N:List Str}(hN:N.Nodup){i j:Nat}(a:N[i]? = some x)(b:N[j]? = some x):i=j:=by
 obtain⟨h1,e1⟩:=gE.mp a;obtain⟨h2,e2⟩:=gE.mp b;exact(List.getElem_inj hN).mp (e1.trans e2.symm)
theorem FW{E:Value->Shared->Prop}{i:Nat}{Q:Unit->Shared->Prop}(I:Inv X ac σ H s)(hN:X.N.Nodup)(hi:X.N[i]? = some x)(hx:Loc X.env.scope x)(r:RelV v u)
  (h:∀s',Inv X ac (σ.set i (some v)) H s'->(∃a,Heap.SameBut a s.heap s'.heap/\(a=X.env.locals∨X.env.cells.lookup x=some a))->Q () s') (hf:X.fn x=true∨X.env.scope.names.lookup x=some .local:=by first | exact .inl rfl | exact .inr rfl | assumption):wpAny M A (storeName X.env x u) Q E s:=by
 obtain⟨m,hn,hl⟩:=id I.loc;have hcls:(X.env.scope.kind==.class||(X.env.scope.kind==.module&&X.env.locals != X.env.globals))=false:=by rw[I.ok.kind];rfl
 have hiσ:i<σ.length:=by rw[I.len];exact(gE.mp hi).1
 have cne:=I.cne;have tracked:∀{a:Addr} {h':Heap},(∃o,s.heap.get? a=some o/\H a=none)->Heap.SameBut a s.heap h'->HOk X.prog X.w H h':=fun {a h'} ha hs b ob e=>by
  obtain⟨_,_,hfree⟩:=ha;refine(I.hok b ob e).stay (λc w' hc q=>(hs.2 c ?_).trans q) (λ_ q=>q) λ_ _ q=>q;rintro rfl;rcases hc with rfl | hc
  ·rw[hfree]at e;cases e
  ·rw[hfree]at hc;cases hc
 rcases hx with hk | hk
 ·refine wpAny_storeName_local hk hn (λh' hn' hs=>?_) hcls;obtain⟨oL,_,_,hoL,_⟩:=id hn;refine h _ ⟨I.ok,I.os,I.bare,⟨λb o e n hb hx=>?_,λb o e n hb hx=>?_,I.base.free,λb o e hx=>?_,I.base.tups,I.base.frzs,I.base.tbls⟩,⟨_,hn',λj y v' e1 e2 e3=>?_⟩,λy c e=>?_,I.free,I.freeC,λp hp=>?_,tracked ⟨oL,hoL,I.free⟩ hs,by simpa using I.len⟩ ⟨_,hs,.inl rfl⟩
  ·exact(hs.2 b (nX (hW (nV e) I.ok.above))).trans (I.base.keep b o e n hb hx)
  ·obtain⟨sl,e1⟩:=I.base.slot b o e n hb hx;exact⟨sl,(hs.2 b (nX (hW (nV e) I.ok.above))).trans e1⟩
  ·obtain⟨o',e1⟩:=I.base.there b o e hx;exact⟨o',(hs.2 b (nX (hW (nV e) I.ok.above))).trans e1⟩
  ·by_cases hj:j=i
   ·subst hj;rw[hi]at e1;cases e1;rw[List.getElem?_set_self hiσ]at e2;cases e2;exact⟨u,r,.inl ⟨hk,by simp⟩⟩
   ·rw[List.getElem?_set_ne (Ne.symm hj)]at e2;obtain⟨u',r',q⟩:=hl j y v' e1 e2 e3;refine⟨u',r', ?_⟩;rcases q with⟨k,e⟩ | ⟨k,c,e,z⟩
    ·refine .inl ⟨k, ?_⟩;have:y≠x:=λe=>hj (LR hN e1 (e▸hi));simp [this,e]
    ·exact .inr ⟨k,c,e,z.sameBut hs (cne y c e)⟩
  ·obtain⟨w',z⟩:=I.cell y c e;exact⟨w',z.sameBut hs (cne y c e)⟩
  ·obtain⟨e,n,ne,nf,d⟩:=I.pin p hp;exact⟨(hs.2 p.1 ne).trans e,n,ne,nf,d⟩
 ·have hfn:X.fn x=true:=by
   rcases hf with z | z
   ·exact z
   ·rw[z]at hk;cases hk
  obtain⟨c,hc⟩:=I.ok.has x (.inl hk);obtain⟨w',z⟩:=I.cell x c hc;refine wpAny_storeName_cell I.ok.kind hk hc z (λh' hc' hs=>?_);obtain⟨oc,hoc,hocd⟩:=id z;refine h { s with heap:=h' } ⟨I.ok,I.os,I.bare,⟨λb o e n hb hx=>?_,λb o e n hb hx=>?_,I.base.free,λb o e hx=>?_,I.base.tups,I.base.frzs,I.base.tbls⟩,⟨m,hn.sameBut hs (Ne.symm (cne x c hc)),λj y v' e1 e2 e3=>?_⟩,λy c' e=>?_,I.free,I.freeC,λp hp=>?_,tracked ⟨oc,hoc,I.freeC x c hc⟩ hs,by simpa using I.len⟩ ⟨c,hs,.inr hc⟩
  ·exact(hs.2 b (nX (hW (nV e) (I.ok.cab x c hfn hc)))).trans (I.base.keep b o e n hb hx)
  ·obtain⟨sl,e1⟩:=I.base.slot b o e n hb hx;exact⟨sl,(hs.2 b (nX (hW (nV e) (I.ok.cab x c hfn hc)))).trans e1⟩
  ·obtain⟨o',e1⟩:=I.base.there b o e hx;exact⟨o',(hs.2 b (nX (hW (nV e) (I.ok.cab x c hfn hc)))).trans e1⟩
  ·by_cases hj:j=i
   ·subst hj;rw[hi]at e1;cases e1;rw[List.getElem?_set_self hiσ]at e2;cases e2;exact⟨u,r,.inr ⟨.inl hk,c,hc,hc'⟩⟩
   ·rw[List.getElem?_set_ne (Ne.symm hj)]at e2;obtain⟨u',r',q⟩:=hl j y v' e1 e2 e3;refine⟨u',r', ?_⟩;rcases q with q | ⟨k,c',e,z'⟩
    ·exact .inl q
    ·refine .inr ⟨k,c',e,z'.sameBut hs ?_⟩;rintro rfl;exact hj (LR hN e1 (I.ok.inj _ _ _ e hc▸hi))
  ·by_cases hcc:c'=c
   ·subst hcc;exact⟨_,hc'⟩
   ·obtain⟨w2,z2⟩:=I.cell y c' e;exact⟨w2,z2.sameBut hs hcc⟩
  ·obtain⟨e,n,ne,nf,d⟩:=I.pin p hp;refine⟨(hs.2 p.1 ?_).trans e,n,ne,nf,d⟩;intro q;rw[q,hoc]at e;have q':oc=p.2:=Option.some.inj e;exact d w' (by rw[<-q'];exact hocd)
theorem uL{E:Value->Shared->Prop}{i:Nat}{Q:Unit->Shared->Prop}(I:Inv X ac σ H s)(hN:X.N.Nodup)(hi:X.N[i]? = some x)(hx:Loc X.env.scope x)(r:RelV v u)
  (h:∀s',Inv X ac (σ.set i (some v)) H s'->Q () s') (hf:X.fn x=true∨X.env.scope.names.lookup x=some .local:=by first | exact .inl rfl | exact .inr rfl | assumption):wpAny M A (storeName X.env x u) Q E s:=
 FW I hN hi hx r (λs' I' _=>h s' I') hf
theorem Inv.call'{s':Shared}(I:Inv X ac σ H s)(ho:s'.os=s.os)(u:Un (frs X.stack) ch H H' s.heap s'.heap)(hok:HOk X.prog X.w H' s'.heap)(hg:AllBare s'.gens)
  (hch:∀b∈ch,(b∈X.ex∨X.s₀.heap.objs.size<=b)/\b≠X.env.locals/\(∀x c,X.env.cells.lookup x=some c->c≠b)/\∀p∈X.pn++ac,p.1≠b):Inv X ac σ H' s':=by
 obtain⟨h',g',d',t',o'⟩:=s';have e:o'=s.os:=ho;subst e;exact I.call (g':=g') (t':=t') (d':=d') u hok hg hch
end
abbrev XK:=Value->Option Addr->Hp->Prop
abbrev St:=List (Option V)
abbrev VK:=V->Hp->Prop
abbrev TE:=St->Hp->VK->Prop
abbrev TT:=St->Hp->(Bool->Hp->Prop)->Prop
abbrev TA:=St->Hp->(List V->Hp->Prop)->Prop
structure Ends where
 nx:St->Hp->Prop
 rt:VK
 bk:St->Hp->Prop:=λ_ _=>False
 ct:St->Hp->Prop:=λ_ _=>False
abbrev TS:=Ends->St->Hp->Prop
def EP(X:Cx)(ac:List #[17])(σ:St)(Q:VK)(u:Value)(s':Shared):Prop:=∃v H',Inv X ac σ H' s'/\RelV v u/\Q v H'
def TP(X:Cx)(ac:List #[17])(σ:St)(Q:Bool->Hp->Prop)(b:Bool)(s':Shared):Prop:=∃H',Inv X ac σ H' s'/\Q b H'
def AP(X:Cx)(ac:List #[17])(σ:St)(Q:List V->Hp->Prop)(us:List Value)(s':Shared):Prop:=∃vs H',Inv X ac σ H' s'/\Vals vs us/\Q vs H'
def SP(X:Cx)(ac:List #[17])(D:Ends)(f:Flow)(s':Shared):Prop:=
 match f with
 | .next=>∃σ' H',Inv X ac σ' H' s'/\D.nx σ' H'
 | .brk=>∃σ' H',Inv X ac σ' H' s'/\D.bk σ' H'
 | .cont=>∃σ' H',Inv X ac σ' H' s'/\D.ct σ' H'
 | .ret u=>∃v σ' H',Inv X ac σ' H' s'/\RelV v u/\D.rt v H'
def PE(X:Cx)(e:Expr)(t:TE):Prop:=
 ∀(ac:List #[17]) (s:Shared) (σ:St) (H:Hp) (Q:VK),Inv X ac σ H s->t σ H Q->wpAny #[4] X.A (eval e X.env) (EP X ac σ Q) X.xe s
def PT(X:Cx)(e:Expr)(t:TT):Prop:=
 ∀(ac:List #[17]) (s:Shared) (σ:St) (H:Hp) (Q:Bool->Hp->Prop),Inv X ac σ H s->t σ H Q->wpAny #[4] X.A (isTrue e X.env (eval e X.env)) (TP X ac σ Q) X.xe s
def PW(X:Cx)(e:Expr)(t:TT):Prop:=
 ∀(whole:Sem Value) (ac:List #[17]) (s:Shared) (σ:St) (H:Hp) (Q:Bool->Hp->Prop),Inv X ac σ H s->t σ H Q->wpAny #[4] X.A (isTrue e X.env whole) (TP X ac σ Q) X.xe s
theorem PW.pt(h:PW X e t):PT X e t:=h _
def PA(X:Cx)(es:List Expr)(t:TA):Prop:=
 ∀(pos:Pos) (ac:List #[17]) (s:Shared) (σ:St) (H:Hp) (Q:List V->Hp->Prop),Inv X ac σ H s->t σ H Q->wpAny #[4] X.A (spliced (backTo pos (starEach es X.env))) (AP X ac σ Q) X.xe s
def PS(X:Cx)(st:Stmt)(t:TS):Prop:=
 ∀(ac:List #[17]) (s:Shared) (σ:St) (H:Hp) (D:Ends),Inv X ac σ H s->t D σ H->wpAny #[4] X.A (exec st X.env) (SP X ac D) X.xe s
def PSs(X:Cx)(st:List Stmt)(t:TS):Prop:=
 ∀(ac:List #[17]) (s:Shared) (σ:St) (H:Hp) (D:Ends),Inv X ac σ H s->t D σ H->wpAny #[4] X.A (execs st X.env) (SP X ac D) X.xe s
theorem thn{α:Type}{t:Sem α}{Q Q':α->Shared->Prop}{E:Value->Shared->Prop}(h:wpAny M A t Q E s)(hQ:∀a s,Q a s->Q' a s):wpAny M A t Q' E s:=tS h hQ λ_ _ x=>x
section
variable{X:Cx}
theorem bin(ha:PE X a ta)(hb:PE X b tb){R:V->V->Hp->Prop}(I:Inv X ac σ H s)(h:ta σ H λx H1=>tb σ H1 λy H2=>R x y H2)
  {α:Type} {Q:α->Shared->Prop} {f:Value->Value->Sem α}
  (hf:∀v u s2 x y H2,Inv X ac σ H2 s2->RelV x v->RelV y u->R x y H2->wpAny #[4] X.A (f v u) Q X.xe s2) :
  wpAny #[4] X.A (eval a X.env) (λv s₁=>wpAny #[4] X.A (eval b X.env) (λu s₂=>wpAny #[4] X.A (f v u) Q X.xe s₂) X.xe s₁) X.xe s:=by
 refine thn (ha ac s σ H _ I h) λv s1 ⟨x,H1,I1,r1,q1⟩=>?_;refine thn (hb ac s1 σ H1 _ I1 q1) λu s2 ⟨y,H2,I2,r2,q2⟩=>?_;exact hf v u s2 x y H2 I2 r1 r2 q2
def kH(i:Nat):TE:=fun σ H Q=>∃v,σ[i]? = some (some v)/\Q v H
def tC(v:V):TE:=λ_ H Q=>Q v H
theorem pe_var{i:Nat}(hN:X.N[i]? = some x)(hv:Vis X.env.scope x)(hd:(x==("__debug__" :Str))=false:=by decide)(hcd:(x==("__classdict__" :Str))=false:=by decide):PE X (.Name x pos) (kH i):=by
 intro ac s σ H Q I h;obtain⟨v,e,h⟩:=h;obtain⟨m,hn,hl⟩:=I.loc;obtain⟨u,r,l⟩:=hl i x v hN e hv;have fin:EP X ac σ Q u s:=⟨v,H,I,r,h⟩;rcases l with⟨hk,hm⟩ | ⟨hk,c,hc,hcell⟩
 ·exact wpAny_Name (wpAny_loadName_local I.ok.kind hk hn hm fin) hd
 ·rcases hk with hk | hk
  ·exact wpAny_Name (wpAny_loadName_cell I.ok.kind hk hc hcell fin) hd
  ·exact wpAny_Name (wpAny_loadName_free I.ok.kind hk hc hcell fin hcd) hd
theorem jD{i j pos} :PE X (.Constant (.int i) j pos) (tC (.int i)):=λ_ _ _ H _ I h=>wpAny_Constant_int ⟨.int i,H,I.tok _,⟨_,rfl⟩,h⟩
theorem zV{b j pos} :PE X (.Constant (.bool b) j pos) (tC (.bl b)):=λ_ _ _ H _ I h=>Constant_bool ⟨.bl b,H,I,rfl,h⟩
theorem xL{x j pos} :PE X (.Constant (.str x) j pos) (tC (.str x)):=λ_ _ _ H _ I h=>Calls.Constant_str ⟨.str x,H,I.tok _,⟨_,rfl⟩,h⟩
def Gl(X:Cx)(x:Str):Prop:=X.env.kindOf x=some .globalImplicit
theorem SK{E:Value->Shared->Prop}{Q:Value->Shared->Prop}(I:Inv X ac σ H s)(hg:Gl X x)(hm:X.mg x=some u)(h:Q u s)
  (hd:(x==("__debug__" :Str))=false:=by decide):wpAny #[4] X.A (eval (.Name x pos) X.env) Q E s:=
 Calls.Name_function_global I.ok.kind hg (Calls.loadGlobal_global (by rw[I.ok.glob];exact I.mod.glob.keeps I.bk) hm h) hd
theorem yP{E:Value->Shared->Prop}{Q:Value->Shared->Prop}(I:Inv X ac σ H s)(hg:Gl X x)(hm:X.mg x=none)(hv:bootBuiltins x=some u)(h:Q u s)
  (hn:x≠"__name__":=by decide) (hd:(x==("__debug__" :Str))=false:=by decide):wpAny #[4] X.A (eval (.Name x pos) X.env) Q E s:=by
 obtain⟨mb,h1,h2⟩:=I.mod.blt;exact Calls.Name_function_global I.ok.kind hg (Calls.loadGlobal_builtin (by rw[I.ok.glob];exact I.mod.glob.keeps I.bk) hm (by rw[I.ok.blt];exact h1.keeps I.bk) ((h2 x hn).trans hv) h) hd
theorem kT(hg:Gl X x)(hm:X.mg x=some u)(r:RelV v u)(hd:(x==("__debug__" :Str))=false:=by decide):PE X (.Name x pos) (tC v):=
 λ_ _ _ H _ I h=>SK I hg hm ⟨v,H,I,r,h⟩ hd
theorem pe_bltn(hg:Gl X x)(hm:X.mg x=none)(hv:bootBuiltins x=some u)(r:RelV v u)(hn:x≠"__name__":=by decide)(hd:(x==("__debug__" :Str))=false:=by decide):PE X (.Name x pos) (tC v):=
 λ_ _ _ H _ I h=>yP I hg hm hv ⟨v,H,I,r,h⟩ hn hd
variable{a b:Expr}{ta tb:TE}{pos:Pos}
def PC(X:Cx)(op:CmpOp)(a b:Expr)(t:TE):Prop:=
 ∀(ac:List #[17]) (s:Shared) (σ:St) (H:Hp) (Q:VK),Inv X ac σ H s->t σ H Q->
  wpAny #[4] X.A (eval a X.env) (λv s₁=>wpAny #[4] X.A (eval b X.env) (λu s₂=>wpAny #[4] X.A (compareOp op v u) (EP X ac σ Q) X.xe s₂) X.xe s₁) X.xe s
def tB(t:TE):TT:=fun σ H Q=>t σ H λx H1=>∃c,x=.bl c/\Q c H1
theorem YI(h:PC X op a b t)(h1:behindInMarks op b=false:=by first | exact nobehind _ #[0] #[0] | rfl):PT X (.Compare a [op] [b] pos) (tB t):=by
 intro ac s σ H Q I hw;refine wpAny_isTrue_Compare1 (thn (h ac s σ H _ I hw) λv s1 h1=>thn h1 λu s2 h2=>thn h2 λc s3 ⟨x,H1,I1,r1,q1⟩=>?_) h1;obtain⟨d,rfl,q⟩:=q1;cases r1;exact wpAny_truthy_bool ⟨H1,I1,q⟩
theorem vP{e:Expr}(h:PE X e t)(he:∀whole,isTrue e X.env whole=(do let v<-whole;standAt e.pos;holding [v] (truthy v)):=by intro _;rfl):PT X e (tB t):=by
 intro ac s σ H Q I hw;refine isTrue_plain (thn (h ac s σ H _ I hw) λv s1 ⟨x,H1,I1,r1,q1⟩=>?_) (he _);obtain⟨d,rfl,q⟩:=q1;cases r1;exact wpAny_truthy_bool ⟨H1,I1,q⟩
variable{tA tB':TT}{rest:List Expr}
def tAnd(t u:TT):TT:=fun σ H Q=>t σ H λc H1=>if c=true then u σ H1 Q else Q false H1
def tOr(t u:TT):TT:=fun σ H Q=>t σ H λc H1=>if c=true then Q true H1 else u σ H1 Q
def tNot(t:TT):TT:=fun σ H Q=>t σ H λc H1=>Q (!c) H1
theorem QU(ha:PT X a tA):PW X (.BoolOp .And [a] pos) tA:=by
 intro wh ac s σ H Q I h;refine isTrue_and (thn (ha ac s σ H Q I h) λc s1 e=>?_);cases c with
 | true=>exact isTrue_and_nil e
 | false=>exact e
theorem xW(ha:PT X a tA):PW X (.BoolOp .Or [a] pos) tA:=by
 intro wh ac s σ H Q I h;refine isTrue_or (thn (ha ac s σ H Q I h) λc s1 e=>?_);cases c with
 | false=>exact isTrue_or_nil e
 | true=>exact e
theorem NQ(ha:PT X a tA)(hb:PW X (.BoolOp .And (b::rest) pos) tB'):PW X (.BoolOp .And (a::b::rest) pos) (tAnd tA tB'):=by
 intro wh ac s σ H Q I h;refine isTrue_and (thn (ha ac s σ H _ I h) λc s1 ⟨H1,I1,q1⟩=>?_);cases c with
 | true=>exact hb wh ac s1 σ H1 Q I1 q1
 | false=>exact⟨H1,I1,q1⟩
theorem zM(ha:PT X a tA)(hb:PW X (.BoolOp .Or (b::rest) pos) tB'):PW X (.BoolOp .Or (a::b::rest) pos) (tOr tA tB'):=by
 intro wh ac s σ H Q I h;refine isTrue_or (thn (ha ac s σ H _ I h) λc s1 ⟨H1,I1,q1⟩=>?_);cases c with
 | true=>exact⟨H1,I1,q1⟩
 | false=>exact hb wh ac s1 σ H1 Q I1 q1
theorem vW(ha:PT X a tA):PT X (.UnaryOp .Not a pos) (tNot tA):=by
 intro ac s σ H Q I h;exact isTrue_not (ha ac s σ H (λc H1=>Q (!c) H1) I h)
def tAndV(ta tb:TE):TE:=fun σ H Q=>ta σ H λx H1=>∃c,x=.bl c/\if c=true then tb σ H1 Q else Q (.bl false) H1
def tNotV(ta:TE):TE:=fun σ H Q=>ta σ H λx H1=>∃c,x=.bl c/\Q (.bl (!c)) H1
theorem NU{op}(h:PE X a t):PE X (.BoolOp op [a] pos) t:=λac s σ H Q I hw=>BoolOp_one (h ac s σ H Q I hw)
theorem EH(ha:PE X a ta)(hb:PE X (.BoolOp .And (b::rest) pos) tb):PE X (.BoolOp .And (a::b::rest) pos) (tAndV ta tb):=by
 intro ac s σ H Q I h;refine BoolOp_and (thn (ha ac s σ H _ I h) λv s1 ⟨x,H1,I1,r1,q1⟩=>?_);obtain⟨c,rfl,q1⟩:=q1;cases r1;refine wpAny_truthy_bool ?_;cases c with
 | true=>exact hb ac s1 σ H1 Q I1 q1
 | false=>exact⟨.bl false,H1,I1,rfl,q1⟩
theorem YQ(ha:PE X a ta):PE X (.UnaryOp .Not a pos) (tNotV ta):=by
 intro ac s σ H Q I h;refine UnaryOp_ (thn (ha ac s σ H _ I h) λv s1 ⟨x,H1,I1,r1,q1⟩=>?_);obtain⟨c,rfl,q1⟩:=q1;cases r1;exact not_of (wpAny_truthy_bool ⟨.bl (!c),H1,I1,rfl,q1⟩)
def tIf(t:TT)(ta tb:TE):TE:=fun σ H Q=>t σ H λc H1=>if c=true then ta σ H1 Q else tb σ H1 Q
theorem LI(hc:PT X c tA)(ha:PE X a ta)(hb:PE X b tb):PE X (.IfExp c a b pos) (tIf tA ta tb):=by
 intro ac s σ H Q I h;refine wpAny_IfExp (thn (hc ac s σ H _ I h) λd s1 ⟨H1,I1,q1⟩=>?_);cases d with
 | true=>exact ha ac s1 σ H1 Q I1 q1
 | false=>exact hb ac s1 σ H1 Q I1 q1
end
def SqL(K:tV)(H:Hp)(a:Addr)(xs:List V):Prop:=
 Rd H a (.lst xs)∨
  ∃(o:Obj) (its:Array Value) (n:Nat),K.lookup a=some o/\o.cls=.type "list"/\o.dict=none/\o.data=.seq its n/\its.size<=sizeLine/\Vals xs its.toList
def SqT(K:tV)(H:Hp)(a:Addr)(xs:List V):Prop:=
 Rd H a (.tup xs)∨
  ∃(o:Obj) (its:Array Value) (n:Nat),K.lookup a=some o/\o.cls=.type "tuple"/\o.data=.seq its n/\its.size<=sizeLine/\Vals xs its.toList
def absV:Value->Option V
 | .none=>some .non
 | .bool b=>some (.bl b)
 | .int i _=>some (.int i)
 | .str x _=>some (.str x)
 | .bytes b _=>some (.byt b)
 | .float b _=>some (.flt b)
 | .ref a=>some (.ref a)
 | .type n=>some (.ty n)
 | _=>none
theorem RelV.abs(r:RelV x u):absV u=some x:=by
 cases x with
 | non=>cases r;rfl
 | bl _=>cases r;rfl
 | int _=>obtain⟨t,rfl⟩:=r;rfl
 | str _=>obtain⟨t,rfl⟩:=r;rfl
 | byt _=>obtain⟨t,rfl⟩:=r;rfl
 | flt _=>obtain⟨t,rfl⟩:=r;rfl
 | ref _=>cases r;rfl
 | ty _=>cases r;rfl
theorem RelV.inj(r:RelV x u)(q:RelV y u):x=y:=Option.some.inj (r.abs.symm.trans q.abs)
theorem Vals.inj:∀{xs ys:List V} {us:List Value},Vals xs us->Vals ys us->xs=ys
 | _,_,_,.nil,.nil=>rfl
 | _,_,_,.cons r t,.cons r' t'=>by rw[r.inj r',Vals.inj t t']
section
variable{X:Cx}{ac:List #[17]}{σ:St}{H:Hp}{s:Shared}{a:Addr}{xs ys:List V}
theorem SqL.of{K:tV}(h:H a=some (.lst xs)):SqL K H a xs:=.inl (.inl h)
theorem SqT.of{K:tV}(h:H a=some (.tup xs)):SqT K H a xs:=.inl (.inl h)
theorem Inv.list(I:Inv X ac σ H s)(h:SqL X.K H a xs):∃its:List Value,Vals xs its/\PlainL s.heap a its.toArray/\xs.length<=sizeLine:=by
 rcases h with h | ⟨o,its,n,hk,hc,hd,hs,hz,r⟩
 ·obtain⟨z,its,n,r,e⟩:=h.ok I.hok;exact⟨its,r,⟨_,n,e,rfl,rfl,rfl⟩,z⟩
 ·refine⟨its.toList,r,⟨o,n,I.kIn a o hk,hc,hd,by simpa using hs⟩, ?_⟩;have e:=r.length;simp only[Array.length_toList]at e;omega
theorem Inv.tuple(I:Inv X ac σ H s)(h:SqT X.K H a xs):∃its:List Value,Vals xs its/\IsTup s.heap a its.toArray/\xs.length<=sizeLine:=by
 rcases h with h | ⟨o,its,n,hk,hc,hs,hz,r⟩
 ·obtain⟨z,its,r,p⟩:=h.ok I.hok;exact⟨its,r,p.1,z⟩
 ·refine⟨its.toList,r,⟨o,I.kIn a o hk,hc,n,by simpa using hs⟩, ?_⟩;have e:=r.length;simp only[Array.length_toList]at e;omega
theorem Inv.list_inj(I:Inv X ac σ H s)(h:SqL X.K H a xs)(h':SqL X.K H a ys):xs=ys:=by
 obtain⟨its,r,⟨o,n,e,_,_,d⟩,_⟩:=I.list h;obtain⟨its',r',⟨o',n',e',_,_,d'⟩,_⟩:=I.list h';rw[e]at e';cases e';rw[d]at d';injection d' with d1 _
 have:its=its':=by simpa using congrArg Array.toList d1
 subst this;exact r.inj r'
theorem Inv.tuple_inj(I:Inv X ac σ H s)(h:SqT X.K H a xs)(h':SqT X.K H a ys):xs=ys:=by
 obtain⟨its,r,⟨o,e,_,n,d⟩,_⟩:=I.tuple h;obtain⟨its',r',⟨o',e',_,n',d'⟩,_⟩:=I.tuple h';rw[e]at e';cases e';rw[d]at d';injection d' with d1 _
 have:its=its':=by simpa using congrArg Array.toList d1
 subst this;exact r.inj r'
end
abbrev Cx.wish(X:Cx)(E:Value->Shared->Prop):Cx:={ X with xe:=E }
abbrev Cx.nox(X:Cx):Cx:=X.wish λ_ _=>False
theorem Cx.Ok.wish{X:Cx}(ok:X.Ok)(E:Value->Shared->Prop):(X.wish E).Ok:=
 ⟨ok.mod,ok.kind,ok.glob,ok.blt,ok.above,ok.inj,ok.has,ok.cab,ok.hd,ok.frames,ok.stk,ok.exf,ok.bs,ok.bsz,ok.noex,ok.exfs,ok.funs,ok.frf⟩
theorem Cx.Ok.unwish{X:Cx}{E:Value->Shared->Prop}(ok:(X.wish E).Ok):X.Ok:=
 ⟨ok.mod,ok.kind,ok.glob,ok.blt,ok.above,ok.inj,ok.has,ok.cab,ok.hd,ok.frames,ok.stk,ok.exf,ok.bs,ok.bsz,ok.noex,ok.exfs,ok.funs,ok.frf⟩
section
variable{X:Cx}{ac:List #[17]}{σ:St}{H:Hp}{s:Shared}{E:Value->Shared->Prop}
theorem Inv.wish(I:Inv X ac σ H s)(E:Value->Shared->Prop):Inv (X.wish E) ac σ H s:=⟨I.ok.wish E,I.os,I.bare,I.base,I.loc,I.cell,I.free,I.freeC,I.pin,I.hok,I.len⟩
theorem Inv.unwish(I:Inv (X.wish E) ac σ H s):Inv X ac σ H s:=⟨I.ok.unwish,I.os,I.bare,I.base,I.loc,I.cell,I.free,I.freeC,I.pin,I.hok,I.len⟩
theorem SP.unwish(h:SP (X.wish E) ac D f s'):SP X ac D f s':=by
 cases f with
 | next=>obtain⟨σ',H',I,q⟩:=h;exact⟨σ',H',I.unwish,q⟩
 | brk=>obtain⟨σ',H',I,q⟩:=h;exact⟨σ',H',I.unwish,q⟩
 | cont=>obtain⟨σ',H',I,q⟩:=h;exact⟨σ',H',I.unwish,q⟩
 | ret u=>obtain⟨v,σ',H',I,r,q⟩:=h;exact⟨v,σ',H',I.unwish,r,q⟩
theorem PSs.nox{st:List Stmt}{t:TS}(h:PSs X.nox st t):PSs X st t:=λac s σ H D I hw=>
 tS (h ac s σ H D (I.wish _) hw) (λ_ _ q=>q.unwish) λ_ _ z=>False.elim z
end
section
variable{X:Cx}{st:Stmt}{rest:List Stmt}{t u:TS}{e:Expr}{te:TE}{pos:Pos}
def tNext:TS:=λD σ H=>D.nx σ H
def vM(t u:TS):TS:=λD σ H=>t { D with nx:=u D } σ H
theorem jR:PSs X [] tNext:=λ_ _ σ H _ I h=>wpAny_execs_nil ⟨σ,H,I,h⟩
theorem jC(h1:PS X st t)(h2:PSs X rest u):PSs X (st::rest) (vM t u):=by
 intro ac s σ H D I h;refine wpAny_execs_cons (thn (h1 ac s σ H { D with nx:=u D } I h) λf s1 q=>?_);cases f with
 | next=>
  obtain⟨σ',H',I',q⟩:=q;exact h2 ac s1 σ' H' D I' q
 | ret v=>exact q
 | brk=>exact q
 | cont=>exact q
theorem jF(h1:PS X st t):PSs X [st] t:=by
 intro ac s σ H D I h;refine wpAny_execs_cons (thn (h1 ac s σ H D I h) λf s1 q=>?_);cases f with
 | next=>exact wpAny_execs_nil q
 | ret v=>exact q
 | brk=>exact q
 | cont=>exact q
theorem Inv.quiet(I:Inv X ac σ H s):interactive X.env=false:=by simp [interactive,I.ok.kind]
def tDrop(te:TE):TS:=λD σ H=>te σ H λ_ H1=>D.nx σ H1
theorem yI(he:PE X e te)(hs:swapsWith e none pos.line X.env=pure false:=by rfl):PS X (.Expr e pos) (tDrop te):=by
 intro ac s σ H D I h;exact wpAny_Expr_any (thn (he ac s σ H _ I h) λv s1 ⟨x,H1,I1,r1,q1⟩=>⟨σ,H1,I1,q1⟩) I.quiet hs
def KM(te:TE):TS:=λD σ H=>te σ H D.rt
theorem jP(he:PE X e te):PS X (.Return (some e) pos) (KM te):=by
 intro ac s σ H D I h;exact wpAny_Return_some (thn (he ac s σ H _ I h) λv s1 ⟨x,H1,I1,r1,q1⟩=>⟨x,σ,H1,I1,r1,q1⟩)
def tIfS(c:TT)(t u:TS):TS:=λD σ H=>c σ H λb H1=>if b=true then t D σ H1 else u D σ H1
theorem kE(hc:PT X c tc)(ha:PSs X a t)(hb:PSs X b u):PS X (.If c a b pos) (tIfS tc t u):=by
 intro ac s σ H D I h;refine wpAny_If (thn (hc ac s σ H _ I h) λd s1 ⟨H1,I1,q1⟩=>?_);cases d with
 | true=>exact ha ac s1 σ H1 D I1 q1
 | false=>exact hb ac s1 σ H1 D I1 q1
def tNever:TS:=λ_ _ _=>False
theorem kP:PS X st tNever:=λ_ _ _ _ _ _ h=>h.elim
theorem GJ :PSs X sts tNever:=λ_ _ _ _ _ _ h=>h.elim
end
abbrev TG:=V->St->Hp->(St->Hp->Prop)->Prop
abbrev TGs:=List V->St->Hp->(St->Hp->Prop)->Prop
def PG(X:Cx)(target:Expr)(t:TG):Prop:=
 ∀(ac:List #[17]) (s:Shared) (σ:St) (H:Hp) (v:V) (u:Value) (Q:St->Hp->Prop),Inv X ac σ H s->RelV v u->t v σ H Q->
  wpAny #[4] X.A (assign target X.env u) (λ_ s'=>∃σ' H',Inv X ac σ' H' s'/\Q σ' H') X.xe s
def PGs(X:Cx)(ts:List Expr)(t:TGs):Prop:=
 ∀(ac:List #[17]) (s:Shared) (σ:St) (H:Hp) (vs:List V) (us:List Value) (Q:St->Hp->Prop),Inv X ac σ H s->Vals vs us->t vs σ H Q->
  wpAny #[4] X.A (assignInOrder ((assignEach ts X.env).map (·.2)) us) (λ_ s'=>∃σ' H',Inv X ac σ' H' s'/\Q σ' H') X.xe s
abbrev TSet:=V->V->V->Hp->(Hp->Prop)->Prop
def PSet(X:Cx)(t:TSet):Prop:=
 ∀(ac:List #[17]) (s:Shared) (σ:St) (H:Hp) (o i v:V) (ov iv u:Value) (Q:Hp->Prop),Inv X ac σ H s->RelV o ov->RelV i iv->RelV v u->t o i v H Q->
  wpAny #[4] X.A (setItem ov iv u) (λ_ s'=>∃H',Inv X ac σ H' s'/\Q H') X.xe s
abbrev TIp:=V->V->Hp->VK->Prop
def PIp(X:Cx)(op:Operator)(t:TIp):Prop:=
 ∀(ac:List #[17]) (s:Shared) (σ:St) (H:Hp) (x y:V) (v u:Value) (Q:VK),Inv X ac σ H s->RelV x v->RelV y u->t x y H Q->
  wpAny #[4] X.A (inplaceOp op v u) (EP X ac σ Q) X.xe s
section
variable{X:Cx}{pos:Pos}
def jV(i:Nat):TG:=λv σ H Q=>Q (σ.set i (some v)) H
theorem jG{i:Nat}(hN:X.N.Nodup)(hi:X.N[i]? = some x)(hx:Loc X.env.scope x)(hf:X.fn x=true∨X.env.scope.names.lookup x=some .local:=by first | exact .inl rfl | exact .inr rfl | assumption):PG X (.Name x pos) (jV i):=by
 intro ac s σ H v u Q I r h;exact wpAny_assign_Name (uL I hN hi hx r (λs' I'=>⟨_,H,I',h⟩) hf)
def gNil:TGs:=λvs σ H Q=>vs=[]/\Q σ H
def qS(t:TG)(u:TGs):TGs:=λvs σ H Q=>∃v r,vs=v::r/\t v σ H fun σ' H'=>u r σ' H' Q
theorem jY:PGs X [] gNil:=by
 intro ac s σ H vs us Q I r h;obtain⟨e,h⟩:=h;subst e;cases r;exact assignInOrder_nil ⟨σ,H,I,h⟩
theorem jH(h1:PG X e t)(h2:PGs X es u)
  (hs:(assignEach (e::es) X.env).map (·.2)=assign e X.env::(assignEach es X.env).map (·.2):=by rfl):PGs X (e::es) (qS t u):=by
 intro ac s σ H vs us Q I r h;obtain⟨v,vr,e1,h⟩:=h;subst e1;cases r with
 | cons r rr=>
  rw[hs];refine assignInOrder_cons (thn (h1 ac s σ H _ _ _ I r h) λ_ s1 ⟨σ1,H1,I1,q1⟩=>?_);exact h2 ac s1 σ1 H1 _ _ Q I1 rr q1
def AJ(K:tV)(n:Nat)(t:TGs):TG:=λv σ H Q=>∃a xs,v=.ref a/\SqT K H a xs/\xs.length=n/\t xs σ H Q
theorem kD{k:Nat}{n:Nat}(hc:X.calm=true)(h:PGs X es t)
  (hn:(assignEach es X.env).length=n:=by rfl) (hst:(assignEach es X.env).findIdx? (·.1)=none:=by rfl):PG X (.Tuple es k pos) (AJ X.K n t):=by
 intro ac s σ H v u Q I r hw;obtain⟨a,xs,e1,hq,hl,hw⟩:=hw;subst e1;cases r;obtain⟨its,rv,ht,hz⟩:=I.tuple hq;refine assign_Tuple_tuple (I.ok.hd hc) ht (by simp [hn,<-hl,rv.length]) hst λh' hx=>?_;have I1:Inv X ac σ H { s with heap:=h' } :=I.kept (t':=s.toks) λb o e=>hx b o (nX (nV e)) e;exact h ac _ σ H xs _ Q I1 (by simpa using rv) hw
def MJ(to ti:TE)(t:TSet):TG:=λv σ H Q=>to σ H λo H1=>ti σ H1 λi H2=>t o i v H2 λH3=>Q σ H3
theorem BJ(ho:PE X o to)(hi:PE X i ti)(hs:PSet X t)
  (ha:∀v,assign (.Subscript o i pos) X.env v=(do
   let ov<-holding [v] (eval o X.env);let iv<-holding [v,ov] (eval i X.env)
   standAt pos
   holding [v,ov,iv] (setItem ov iv v)
   release [v,ov,iv] []):=by intro _;rfl):PG X (.Subscript o i pos) (MJ to ti t):=by
 intro ac s σ H v u Q I r h;rw[ha];refine tQ (wpAny_holding (thn (ho ac s σ H _ I h) λov s1 ⟨x,H1,I1,r1,q1⟩=>?_));refine tQ (wpAny_holding (thn (hi ac s1 σ H1 _ I1 q1) λiv s2 ⟨y,H2,I2,r2,q2⟩=>?_));refine tQ (wpAny_standAt (tQ (wpAny_holding (thn (hs ac s2 σ H2 x y v ov iv u _ I2 r1 r2 r q2) λ_ s3 ⟨H3,I3,q3⟩=>?_))));exact wpAny_release ⟨σ,H3,I3,q3⟩
def zB(te:TE)(g:TG):TS:=λD σ H=>te σ H λx H1=>g x σ H1 D.nx
theorem qP(he:PE X e te)(hg:PG X tg g)(hs:swapsWithSole [tg] e pos.line X.env=pure false:=by rfl)(hw:swappedStores [tg] e X.env=pure none:=by rfl)
  (h1:(assignEach [tg] X.env).map (·.2)=[assign tg X.env]:=by rfl):PS X (.Assign [tg] e pos) (zB te g):=by
 intro ac s σ H D I h;refine wpAny_Assign_stores (thn (he ac s σ H _ I h) λv s1 ⟨x,H1,I1,r1,q1⟩=>?_) hs hw;rw[h1];exact thn (hg ac s1 σ H1 x v _ I1 r1 q1) λ_ s2 q=>q
theorem jN{i:Nat}(hN:X.N.Nodup)(hi:X.N[i]? = some x)(hx:Loc X.env.scope x)(he:PE X e te)(hs:swapsWith e (some (.Name x pos')) pos.line X.env=pure false:=by rfl)(hf:X.fn x=true∨X.env.scope.names.lookup x=some .local:=by first | exact .inl rfl | exact .inr rfl | assumption) :
  PS X (.Assign [.Name x pos'] e pos) (zB te (jV i)):=by
 intro ac s σ H D I h;refine wpAny_Assign_Name (thn (he ac s σ H _ I h) λv s1 ⟨y,H1,I1,r1,q1⟩=>?_) hs;exact uL I1 hN hi hx r1 (λs2 I2=>⟨_,H1,I2,q1⟩) hf
def tPar(i j:Nat)(ta:TA):TS:=λD σ H=>ta σ H λvs H1=>∃v w,vs=[v,w]/\D.nx ((σ.set i (some v)).set j (some w)) H1
theorem NR{i j:Nat}{kt k2 pt2}(hc:X.calm=true)(hN:X.N.Nodup)(hi:X.N[i]? = some x)(hj:X.N[j]? = some y)(hij:i≠j)
  (hx:X.env.scope.names.lookup x=some .local) (hy:X.env.scope.names.lookup y=some .local) (ha:PA X [a,b] ta)
  (hw:swappedStores [.Tuple [.Name x px,.Name y py] kt pt] (.Tuple [a,b] k2 pt2) X.env=pure (some [x,y]))
  (hs:swapsWithSole [.Tuple [.Name x px,.Name y py] kt pt] (.Tuple [a,b] k2 pt2) pos.line X.env=pure false:=by rfl) :
  PS X (.Assign [.Tuple [.Name x px,.Name y py] kt pt] (.Tuple [a,b] k2 pt2) pos) (tPar i j ta):=by
 intro ac s σ H D I h;rw[exec_Assign_arm];refine tQ (wpAny_standAt ?_);rw[hs];refine tQ (tR ?_);rw[tT #[0]];refine tQ (Tuple_ (thn (ha _ ac s σ H _ I h) λus s1 ⟨vs,H1,I1,r1,q1⟩=>?_));obtain⟨v,w,e1,q1⟩:=q1;subst e1;obtain⟨u1,u2,rfl,rv,rw'⟩:∃u1 u2,us=[u1,u2]/\RelV v u1/\RelV w u2:=by
  cases r1 with
  | cons p q=>
   cases q with
   | cons p' q'=>
    cases q';exact⟨_,_,rfl,p,p'⟩
 refine wpAny_newObj_type ?_ gA ;have I2:Inv X ac σ H1 { s1 with heap:=s1.heap.push { cls:=.type "tuple",data:=.seq [u1,u2].toArray } } :=I1.kept (t':=s1.toks) λb o e=>gJ _ e;rw[hw];refine tQ (tR ?_);show wpAny #[4] X.A (do rule "assign.swapped-stores";let items<-unpackItems (.ref s1.heap.objs.size) 2 none;assignInOrder [λv=>bindName X.env y v,λv=>bindName X.env x v] items.reverse;pure Flow.next) _ _ _;refine tQ (wpAny_rule (tQ (unpackItems_tuple (items:=#[u1,u2]) (I.ok.hd hc) (IsTup.new s1.heap _) λh' hx'=>?_)));have I3:=I2.kept (h':=h') (t':=s1.toks) λb o e=>hx' b o (nX (nV e)) e;show wpAny _ _ (assignInOrder [λv=>bindName X.env y v,λv=>bindName X.env x v] [u2,u1] >>= λ_=>pure Flow.next) _ _ _;refine tQ (assignInOrder_cons (wpAny_bindName (uL I3 hN hj (.inl hy) rw' (λs2 I4=>?_) (.inr hy))));refine assignInOrder_cons (wpAny_bindName (uL I4 hN hi (.inl hx) rv (λs3 I5=>assignInOrder_nil (tR ?_)) (.inr hx)));rw[List.set_comm _ _ (Ne.symm hij)]at I5;exact⟨_,H1,I5,q1⟩
def tAugS(to ti te:TE)(tget:V->V->Hp->VK->Prop)(tip:TIp)(tset:TSet):TS:=λD σ H=>to σ H λo H1=>ti σ H1 λi H2=>tget o i H2 λx H3=>te σ H3 λy H4=>tip x y H4 λz H5=>tset o i z H5 λH6=>D.nx σ H6
def PGet(X:Cx)(t:V->V->Hp->VK->Prop):Prop:=
 ∀(ac:List #[17]) (s:Shared) (σ:St) (H:Hp) (o i:V) (ov iv:Value) (Q:VK),Inv X ac σ H s->RelV o ov->RelV i iv->t o i H Q->
  wpAny #[4] X.A (getItem ov iv) (EP X ac σ Q) X.xe s
theorem ps_augS{tget:V->V->Hp->VK->Prop}(ho:PE X o to)(hi:PE X i ti)(hg:PGet X tget)(he:PE X e te)(hp:PIp X op tip)(hs:PSet X tset)
  (ha:∀ov iv new,augStore i ov iv new=(do holding [new,ov,iv] (setItem ov iv new);release [new,ov,iv] [];pure .next):=by intros;rfl):PS X (.AugAssign (.Subscript o i tpos) op e pos) (tAugS to ti te tget tip tset):=by
 intro ac s σ H D I h;refine wpAny_AugAssign_SubscriptAny (thn (ho ac s σ H _ I h) λov s1 ⟨x1,H1,I1,r1,q1⟩=>?_) ha;refine thn (hi ac s1 σ H1 _ I1 q1) λiv s2 ⟨x2,H2,I2,r2,q2⟩=>?_;refine thn (hg ac s2 σ H2 x1 x2 ov iv _ I2 r1 r2 q2) λold s3 ⟨x3,H3,I3,r3,q3⟩=>?_;refine thn (he ac s3 σ H3 _ I3 q3) λv s4 ⟨x4,H4,I4,r4,q4⟩=>?_;refine thn (hp ac s4 σ H4 x3 x4 old v _ I4 r3 r4 q4) λnew s5 ⟨x5,H5,I5,r5,q5⟩=>?_;exact thn (hs ac s5 σ H5 x1 x2 x5 ov iv new _ I5 r1 r2 r5 q5) λ_ s6 ⟨H6,I6,q6⟩=>⟨σ,H6,I6,q6⟩
def ipI(f:Int->Int->Int):TIp:=λx y H Q=>∃i j,x=.int i/\y=.int j/\Q (.int (f i j)) H
theorem ip_add:PIp X .Add (ipI λi j=>i+j):=by
 intro ac s σ H x y v u Q I r1 r2 h;obtain⟨i,j,e1,e2,q⟩:=h;subst e1;subst e2;obtain⟨t,rfl⟩:=r1;obtain⟨t',rfl⟩:=r2;exact iadd_int ⟨.int _,H,I.tok _,⟨_,rfl⟩,q⟩
end
section
variable{X:Cx}{pos:Pos}
def NF(c:TT)(tb:TS):TS:=λD σ H=>∃W:Nat->St->Hp->Prop,(∃m,W m σ H)/\∀m σ H,W m σ H->
 c σ H λb H1=>if b=true then ∃N:St->Hp->Prop,(∀σ' H',N σ' H'->∃m',m'<m/\W m' σ' H')/\tb { D with nx:=N,ct:=N,bk:=D.nx } σ H1 else D.nx σ H1
theorem LF(hp:PassesOwn #[4] X.A X.env X.xe)(hc:PT X c tc)(hb:PSs X body tb):PS X (.While c body [] pos) (NF tc tb):=by
 intro ac s σ H D I h;obtain⟨W,⟨m0,w0⟩,turn⟩:=h;refine wpAny_While (codeAny_whileLoop (λn s'=>∃σ' H',Inv X ac σ' H' s'/\W n σ' H') ?_ m0 ⟨σ,H,I,w0⟩);rintro n s1 ⟨σ1,H1,I1,w1⟩;refine wpAny_passesOwn hp (thn (hc ac s1 σ1 H1 _ I1 (turn n σ1 H1 w1)) λb s2 ⟨H2,I2,q2⟩=>?_);cases b with
 | true=>
  obtain⟨N,hN,q2⟩:=q2;rw[tU rfl];refine wpAny_passesOwn hp (thn (hb ac s2 σ1 H2 _ I2 q2) λf s3 q3=>?_);cases f with
  | next=>
   obtain⟨σ3,H3,I3,n3⟩:=q3;obtain⟨m',hm,w3⟩:=hN σ3 H3 n3;exact⟨m',hm,σ3,H3,I3,w3⟩
  | cont=>
   obtain⟨σ3,H3,I3,n3⟩:=q3;obtain⟨m',hm,w3⟩:=hN σ3 H3 n3;exact⟨m',hm,σ3,H3,I3,w3⟩
  | brk=>exact q3
  | ret v=>exact q3
 | false=>
  rw[tT hV];exact wpAny_execs_nil ⟨σ1,H2,I2,q2⟩
end
structure It where
 go:Nat->Hp->Prop
 yld:Nat->Hp->V->Hp->Prop
 stop:Nat->Hp->Prop
def FpOk(X:Cx)(ac:List #[17])(H:Hp)(b:Addr):Prop:=
 H b=none/\b≠X.env.locals/\b∉X.fs/\(b∈X.ex∨X.s₀.heap.objs.size<=b)/\(∀x c,X.env.cells.lookup x=some c->c≠b)/\∀p∈X.pn++ac,p.1≠b
theorem Inv.fpOk{s:Shared}(I:Inv X ac σ H s)(hb:s.heap.objs.size<=b)(hn:H' b=none):FpOk X ac H' b:=by
 refine⟨hn,Nat.ne_of_gt (hW I.lt hb),I.nofs hb,.inr (nW I.sz hb),λx c e z=>?_,λp hp z=>?_⟩
 ·obtain⟨v,q⟩:=I.cell x c e;exact absurd (hW q.lt (by rw[z];exact hb)) (nQ _)
 ·exact absurd (hW (nV (I.pin p hp).1) (by rw[z];exact hb)) (nQ _)
structure Turn(P:Program)(w:World)(K:tV)(tg:Expr)(J:It)(fp:List Addr)(it:Addr)(tn:Nat->Heap->Prop):Prop where
 mem:it∈fp
 obj:∀i h,tn i h->∀b∈fp,∃o,h.get? b=some o/\∀v,o.data≠.cell v
 keep:∀i h h',tn i h->(∀b∈fp,∀o,h.get? b=some o->h'.get? b=some o)->tn i h'
 item:∀(X:Cx),X.prog=P->X.w=w->X.K=K->X.calm=true->∀(i:Nat) (ac:List #[17]) (s:Shared) (σ:St) (H:Hp) (E:Value->Shared->Prop),Inv X ac σ H s->(∀b∈fp,FpOk X ac H b)->tn i s.heap->J.go i H->
  wpAny (model P w) X.A (pyNext (.ref it)) (λr s1=>∃u,r=some u/\
   wpAny (model P w) X.A (letOwnedTupleGo tg (.ref it) u) (λ_ s2=>∃x H',Inv X ac σ H' s2/\RelV x u/\J.yld i H x H'/\tn (i+1) s2.heap/\∀b∈fp,H' b=none) E s1) E s
 done:∀(X:Cx),X.prog=P->X.w=w->X.K=K->X.calm=true->∀(i:Nat) (ac:List #[17]) (s:Shared) (σ:St) (H:Hp) (E:Value->Shared->Prop),Inv X ac σ H s->(∀b∈fp,FpOk X ac H b)->tn i s.heap->J.stop i H->
  wpAny (model P w) X.A (pyNext (.ref it)) (λr s1=>r=none/\Inv X ac σ H s1) E s
 self:∀(A:Around) (i:Nat) (s:Shared) (Q:Value->Shared->Prop) (E:Value->Shared->Prop),tn i s.heap->Q (.ref it) s->wpAny (model P w) A (pyIter (.ref it)) Q E s
abbrev TI:=St->Hp->(It->Hp->Prop)->Prop
def PIE(X:Cx)(ac:List #[17])(σ:St)(tg:Expr)(R:It->Hp->Prop)(itv:Value)(s2:Shared):Prop:=
 ∃(it:Addr) (fp:List Addr) (tn:Nat->Heap->Prop) (J:It) (H':Hp),itv=.ref it/\Inv X ac σ H' s2/\Turn X.prog X.w X.K tg J fp it tn/\tn 0 s2.heap/\(∀b∈fp,FpOk X ac H' b)/\R J H'
def PI(X:Cx)(tg iter:Expr)(wi:TI):Prop:=
 ∀(ac:List #[17]) (s:Shared) (σ:St) (H:Hp) (R:It->Hp->Prop),Inv X ac σ H s->wi σ H R->
  wpAny #[4] X.A (eval iter X.env) (λv s1=>wpAny #[4] X.A (pyIter v) (PIE X ac σ tg R) X.xe s1) X.xe s
theorem HJ{E:Value->Shared->Prop}{s:Shared}{o:Obj}{Q:Unit->Shared->Prop}(ho:s.heap.get? it=some o)(hc:o.cls=.type n)(hd:o.data=.fields vs)
  (hn:["enumerate","zip","dict_itemiterator","dict_reverseitemiterator","odict_iterator","itertools.zip_longest","itertools.pairwise"].contains n=false) (hQ:Q () s):wpAny M A (letOwnedTupleGo tg (.ref it) u) Q E s:=by
 unfold letOwnedTupleGo;cases tg<;>first
  | exact tR hQ
  | (cases u<;>first
    | exact tR hQ
    | (refine tQ (wpAny_load ho ?_);rw[hc,hd];show wpAny M A (if (["enumerate","zip","dict_itemiterator","dict_reverseitemiterator","odict_iterator","itertools.zip_longest","itertools.pairwise"].contains n&&vs[0]? ==some (rawInt _))=true then _ else _) Q E s;rw[tT (by intro h;rw[hn,Bool.false_and]at h;cases h)];exact tR hQ))
def Itl(K:tV)(a:Addr):It:=
 ⟨λi H=>∃xs x,SqL K H a xs/\xs[i]? = some x,λi H x H'=>H'=H/\∀xs,SqL K H a xs->xs[i]? = some x,λi H=>∃xs,SqL K H a xs/\xs.length<=i⟩
def Itt(K:tV)(a:Addr):It:=
 ⟨λi H=>∃xs x,SqT K H a xs/\xs[i]? = some x,λi H x H'=>H'=H/\∀xs,SqT K H a xs->xs[i]? = some x,λi H=>∃xs,SqT K H a xs/\xs.length<=i⟩
def Itr(lo:Int)(n:Nat):It:=⟨λi _=>i<n,λi H x H'=>H'=H/\x=.int (lo+i),λi _=>n<=i⟩
theorem UA{P:Program}{w:World}{K:tV}{tg:Expr}(a it:Addr):Turn P w K tg (Itl K a) [it] it (λi h=>h.IsListIter it a i) where
 mem:=by simp
 obj:=λi h st b hb=>by
  have e:b=it:=by simpa using hb
  subst e;obtain⟨o,e,c,d⟩:=st;exact⟨o,e,λv z=>by rw[d]at z;cases z⟩
 keep:=λi h h' st k=>st.at λo e=>k it #[14] o e
 item:=by
  intro X hP hw hK hc i ac s σ H E I hf st hg;subst hP hw hK;obtain⟨xs,x,hq,hx⟩:=hg;obtain⟨its,rv,p,hz⟩:=I.list hq;obtain⟨u,hu,ru⟩:=rv.get hx;obtain⟨f0,f1,f2,f3,f4,f5⟩:=hf it #[14];refine wpAny_pyNext_list_item st p.isList (x:=u) (by simpa using hu) λh' st' sb=>?_;have I1:Inv X ac σ H { s with heap:=h' } :=I.turned (t':=s.toks) (λb o hb e=>(sb.2 b hb).trans e) f0 f1 f3 f4 f5;obtain⟨o,e,c,d⟩:=id st';exact⟨u,rfl,HJ (s:={ s with heap:=h' }) e c d #[0] ⟨x,H,I1,ru,⟨rfl,λys hy=>by rw[I.list_inj hy hq];exact hx⟩,st',λb hb=>(hf b hb).1⟩⟩
 done:=by
  intro X hP hw hK hc i ac s σ H E I hf st hg;subst hP hw hK;obtain⟨xs,hq,hx⟩:=hg;obtain⟨its,rv,p,hz⟩:=I.list hq;obtain⟨f0,f1,f2,f3,f4,f5⟩:=hf it #[14];have hl:=rv.length;exact wpAny_pyNext_list_end (I.ok.hd hc) st p.isList (by simp;omega) λh' eb=>⟨rfl,I.turned (t':=s.toks) (λb o hb e=>eb b o hb e) f0 f1 f3 f4 f5⟩
 self:=λ_ _ _ _ _ st h=>wpAny_pyIter_listiter st h
theorem NB{P:Program}{w:World}{K:tV}{tg:Expr}(a it:Addr):Turn P w K tg (Itt K a) [it] it (λi h=>h.IsTupleIter it a i) where
 mem:=by simp
 obj:=λi h st b hb=>by
  have e:b=it:=by simpa using hb
  subst e;obtain⟨o,e,c,d⟩:=st;exact⟨o,e,λv z=>by rw[d]at z;cases z⟩
 keep:=λi h h' st k=>st.at λo e=>k it #[14] o e
 item:=by
  intro X hP hw hK hc i ac s σ H E I hf st hg;subst hP hw hK;obtain⟨xs,x,hq,hx⟩:=hg;obtain⟨its,rv,p,hz⟩:=I.tuple hq;obtain⟨u,hu,ru⟩:=rv.get hx;obtain⟨f0,f1,f2,f3,f4,f5⟩:=hf it #[14];refine wpAny_pyNext_tuple_item st (show s.heap.IsTuple a its.toArray from p) (x:=u) (by simpa using hu) λh' st' sb=>?_;have I1:Inv X ac σ H { s with heap:=h' } :=I.turned (t':=s.toks) (λb o hb e=>(sb.2 b hb).trans e) f0 f1 f3 f4 f5;obtain⟨o,e,c,d⟩:=id st';exact⟨u,rfl,HJ (s:={ s with heap:=h' }) e c d #[0] ⟨x,H,I1,ru,⟨rfl,λys hy=>by rw[I.tuple_inj hy hq];exact hx⟩,st',λb hb=>(hf b hb).1⟩⟩
 done:=by
  intro X hP hw hK hc i ac s σ H E I hf st hg;subst hP hw hK;obtain⟨xs,hq,hx⟩:=hg;obtain⟨its,rv,p,hz⟩:=I.tuple hq;obtain⟨f0,f1,f2,f3,f4,f5⟩:=hf it #[14];have hl:=rv.length;exact wpAny_pyNext_tuple_end (I.ok.hd hc) st (show s.heap.IsTuple a its.toArray from p) (by simp;omega) λh' eb=>⟨rfl,I.turned (t':=s.toks) (λb o hb e=>eb b o hb e) f0 f1 f3 f4 f5⟩
 self:=λ_ _ _ _ _ st h=>wpAny_pyIter_tupleiter st h
theorem NC{P:Program}{w:World}{K:tV}{tg:Expr}(it:Addr)(lo:Int)(n:Nat):Turn P w K tg (Itr lo n) [it] it (λi h=>IsRangeIter h it (lo+(i:Nat)*1) ((n:Int)-(i:Nat)) 1) where
 mem:=by simp
 obj:=λi h st b hb=>by
  have e:b=it:=by simpa using hb
  subst e;exact⟨_,st,λv z=>by
   have z':Data.fields _=Data.cell v:=z;cases z'⟩
 keep:=λi h h' st k=>k it #[14] _ st
 item:=by
  intro X hP hw hK hc i ac s σ H E I hf st hg;subst hP hw hK;obtain⟨f0,f1,f2,f3,f4,f5⟩:=hf it #[14];have W:=Walks.range (prog:=X.prog) (w:=X.w) (I.ok.hd hc) it lo 1 n;refine W.item i s _ _ hg st λv h' tk hv st' kk=>?_;obtain⟨t,rfl⟩:=hv;have I1:Inv X ac σ H { s with heap:=h',toks:=tk } :=I.turned (λb o hb e=>kk b o (by simpa using hb) e) f0 f1 f3 f4 f5;refine⟨_,rfl,HJ (s:={ s with heap:=h',toks:=tk }) (n:="range_iterator") st' rfl rfl #[0] ⟨.int (lo+i),H,I1,⟨t, ?_⟩,⟨rfl,rfl⟩,st',λb hb=>(hf b hb).1⟩⟩;rw[Int.mul_one]
 done:=by
  intro X hP hw hK hc i ac s σ H E I hf st hg;subst hP hw hK;obtain⟨f0,f1,f2,f3,f4,f5⟩:=hf it #[14];exact wpAny_pyNext_range_end (I.ok.hd hc) st (by have:n<=i:=hg;omega) λh' eb=>⟨rfl,I.turned (t':=s.toks) (λb o hb e=>eb b o hb e) f0 f1 f3 f4 f5⟩
 self:=λ_ _ _ _ _ st h=>wpAny_pyIter_rangeiter st h
section
variable{X:Cx}{tg:Expr}
def iList(K:tV)(tl:TE):TI:=fun σ H R=>tl σ H λx H1=>∃a,x=.ref a/\(∃xs,SqL K H1 a xs)/\R (Itl K a) H1
def iTup(K:tV)(tl:TE):TI:=fun σ H R=>tl σ H λx H1=>∃a,x=.ref a/\(∃xs,SqT K H1 a xs)/\R (Itt K a) H1
theorem xC(hl:PE X l tl):PI X tg l (iList X.K tl):=by
 intro ac s σ H R I h;refine thn (hl ac s σ H _ I h) λv s1 ⟨x,H1,I1,r1,q1⟩=>?_;obtain⟨a,e,⟨xs,hq⟩,q⟩:=q1;subst e;cases r1;obtain⟨its,rv,p,hz⟩:=I1.list hq;refine wpAny_pyIter_list p.isList ?_;refine⟨s1.heap.objs.size,[s1.heap.objs.size],_,_,H1,rfl,I1.kept (t':=s1.toks) λb o e=>gJ _ e,UA a _,⟨_,gY _ rfl,rfl,rfl⟩,λb hb=>?_,q⟩;have e:b=s1.heap.objs.size:=by simpa using hb
 subst e;exact I1.fpOk uX (I1.hok.fresh uX)
theorem xY(hl:PE X l tl):PI X tg l (iTup X.K tl):=by
 intro ac s σ H R I h;refine thn (hl ac s σ H _ I h) λv s1 ⟨x,H1,I1,r1,q1⟩=>?_;obtain⟨a,e,⟨xs,hq⟩,q⟩:=q1;subst e;cases r1;obtain⟨its,rv,p,hz⟩:=I1.tuple hq;refine wpAny_pyIter_tuple (show s1.heap.IsTuple a its.toArray from p) ?_;refine⟨s1.heap.objs.size,[s1.heap.objs.size],_,_,H1,rfl,I1.kept (t':=s1.toks) λb o e=>gJ _ e,NB a _,⟨_,gY _ rfl,rfl,rfl⟩,λb hb=>?_,q⟩;have e:b=s1.heap.objs.size:=by simpa using hb
 subst e;exact I1.fpOk uX (I1.hok.fresh uX)
theorem YD{s:Shared}{R:It->Hp->Prop}{E:Value->Shared->Prop}{lo hi:Int}{tk:Nat}(I:Inv X ac σ H s)(h1: -(2^62)<=lo)(h2:lo<2^62)(h3: -(2^62)<=hi)(h4:hi<2^62)
  (q:R (Itr lo (hi-lo).toNat) H):wpAny #[4] X.A (pyIter (.ref s.heap.objs.size)) (PIE X ac σ tg R) E { s with heap:=s.heap.push { cls:=.type "range",data:=.fields #[.int lo t,.int hi u,.int 1 v] },toks:=tk } :=by
 refine wpAny_pyIter_range (IsRange.new ..) (small_one h1 h2 h3 h4) ?_;have I1:Inv X ac σ H { s with heap:=s.heap.push { cls:=.type "range",data:=.fields #[.int lo t,.int hi u,.int 1 v] },toks:=tk } :=I.kept λb o e=>gJ _ e;refine⟨(s.heap.push { cls:=.type "range",data:=.fields #[.int lo t,.int hi u,.int 1 v] }).objs.size,[(s.heap.push { cls:=.type "range",data:=.fields #[.int lo t,.int hi u,.int 1 v] }).objs.size],_,_,H,rfl,
  I1.kept (t':=tk) λb o e=>gJ _ e,NC _ lo (hi-lo).toNat, ?_,λb hb=>?_,q⟩
 ·have e1:lo+((0:Nat):Int)*1=lo:=by simp
  have e2:(((hi-lo).toNat:Nat):Int)-((0:Nat):Int)=Builtin.Range.rangeSize lo hi 1:=by rw[rangeSize_one];split<;>omega
  show IsRangeIter _ _ (lo+((0:Nat):Int)*1) ((((hi-lo).toNat:Nat):Int)-((0:Nat):Int)) 1;rw[e1,e2];exact gY _ rfl
 ·have e:b=(s.heap.push { cls:=.type "range",data:=.fields #[.int lo t,.int hi u,.int 1 v] }).objs.size:=by simpa using hb
  subst e;exact I1.fpOk uX (I1.hok.fresh uX)
def iRng1(ta:TA):TI:=fun σ H R=>ta σ H λvs H1=>∃j:Int,vs=[.int j]/\-(2^62)<=j/\j<2^62/\R (Itr 0 j.toNat) H1
theorem qZ(hg:Gl X "range")(hm:X.mg "range" = none)(ha:PA X [a] ta)(hs:starEach [a] X.env=[(false,eval a X.env)]:=by rfl):PI X tg (.Call (.Name "range" p) [a] [] pos) (iRng1 ta):=by
 intro ac s σ H R I h;refine Call_ (yP I hg hm boot_range (PyProof.Rows.callWith_type1 (thn (ha pos ac s σ H _ I h) λus s1 ⟨vs,H1,I1,r1,q1⟩=>?_) hs rfl));obtain⟨j,e,q1,q2,q⟩:=q1;subst e;cases r1 with
 | cons r rr=>
  cases rr;obtain⟨t,rfl⟩:=r;exact call_range_1 (YD I1 #[1] #[1] q1 q2 (by simpa using q))
def tFor(wi:TI)(g:TG)(tb:TS):TS:=λD σ H=>wi σ H λJ H1=>∃W:Nat->Nat->St->Hp->Prop,(∃m,W 0 m σ H1)/\∀i m σ H,W i m σ H->
 (J.stop i H/\D.nx σ H)∨(J.go i H/\∃N:St->Hp->Prop,(∀σ' H',N σ' H'->∃m',m'<m/\W (i+1) m' σ' H')/\∀x H',J.yld i H x H'->g x σ H' fun σ2 H2=>tb { D with nx:=N,ct:=N,bk:=D.nx } σ2 H2)
def IT(fp:List Addr)(h:Heap):List #[17]:=fp.filterMap λb=>(h.get? b).map λo=>(b,o)
theorem vD{h:Heap}(hb:b∈fp)(e:h.get? b=some o):(b,o)∈IT fp h:=List.mem_filterMap.mpr ⟨b,hb,by rw[e];rfl⟩
theorem UY{h:Heap}{p:Addr×Obj}(hp:p∈IT fp h):p.1∈fp/\h.get? p.1=some p.2:=by
 obtain⟨b,hb,e⟩:=List.mem_filterMap.mp hp;cases q:h.get? b with
 | none=>rw[q]at e;cases e
 | some o=>
  rw[q]at e;have e':(b,o)=p:=Option.some.inj e;subst e';exact⟨hb,q⟩
theorem Inv.pinned{s:Shared}(I:Inv X ac σ H s)(hf:∀b∈fp,FpOk X ac H b)(ho:∀b∈fp,∃o,s.heap.get? b=some o/\∀v,o.data≠.cell v):Inv X (ac++IT fp s.heap) σ H s:=
 I.pins_of λp hp=>(nE.mp hp).elim (λz=>I.pin p (gM _ z)) λz=>by
  obtain⟨hb,e⟩:=UY z;obtain⟨f0,f1,f2,_⟩:=hf p.1 hb;obtain⟨o,e',d⟩:=ho p.1 hb;rw[e]at e';cases e';exact⟨e,f0,f1,f2,d⟩
theorem Inv.unpinned(I:Inv X (ac++pl) σ H s):Inv X ac σ H s:=I.pins_of λp hp=>I.pin p (gM _ (List.mem_append_left _ hp))
theorem kZ(hp:PassesOwn #[4] X.A X.env X.xe)(hc:X.calm=true)(hi:PI X tg iter wi)(hg:PG X tg g)(hb:PSs X body tb)
  (hs:∀x,foldedSetIterable iter X.env x=pure x:=by intro _;rfl):PS X (.For tg iter body [] pos) (tFor wi g tb):=by
 intro ac s σ H D I h;refine wpAny_For (thn (hi ac s σ H _ I h) λv s1 h1=>thn h1 λitv s2 h2=>?_) hs;obtain⟨it,fp,tn,J,H2,e,I2,T,st2,f2,W,⟨m0,w0⟩,turn⟩:=h2;subst e;have stat:∀{H':Hp},(∀b∈fp,H' b=none)->∀b∈fp,FpOk X ac H' b:=λhn b hb=>⟨hn b hb,(f2 b hb).2⟩;refine codeAny_forLoop_any (λn s'=>∃i σ' H',Inv X ac σ' H' s'/\tn i s'.heap/\(∀b∈fp,H' b=none)/\W i n σ' H') ?_ m0 ⟨0,σ,H2,I2,st2,λb hb=>(f2 b hb).1,w0⟩;rintro n s3 ⟨i,σ3,H3,I3,st3,fr3,w3⟩;rcases turn i n σ3 H3 w3 with⟨stop,qn⟩ | ⟨go,N,hN,step⟩
 ·refine wpAny_passesOwn hp (thn (T.done X rfl rfl rfl hc i ac s3 σ3 H3 X.xe I3 (stat fr3) st3 stop) λr s4 ⟨hr,I4⟩=>?_);subst hr;exact wpAny_execs_nil ⟨σ3,H3,I4,qn⟩
 ·refine wpAny_passesOwn hp (thn (T.item X rfl rfl rfl hc i ac s3 σ3 H3 X.xe I3 (stat fr3) st3 go) λr s4 ⟨u,hr,h4⟩=>?_);subst hr;refine wpAny_passesOwn hp (thn h4 λ_ s5 ⟨x,H5,I5,r5,y5,st5,fr5⟩=>?_);have I5':=I5.pinned (stat fr5) (T.obj _ _ st5);refine wpAny_passesOwn hp (thn (hg _ s5 σ3 H5 x u _ I5' r5 (step x H5 y5)) λ_ s6 ⟨σ6,H6,I6,q6⟩=>?_);refine wpAny_passesOwn hp (thn (hb _ s6 σ6 H6 _ I6 q6) λf s7 q7=>?_);have again:∀{σ7:St} {H7:Hp},Inv X (ac++IT fp s5.heap) σ7 H7 s7->N σ7 H7->∃m,m<n/\∃i σ' H',Inv X ac σ' H' s7/\tn i s7.heap/\(∀b∈fp,H' b=none)/\W i m σ' H':=fun {σ7 H7} I7 n7=>by
   obtain⟨m',hm,w7⟩:=hN σ7 H7 n7;refine⟨m',hm,i+1,σ7,H7,I7.unpinned,T.keep _ _ _ st5 λb hb o e=>(I7.pin (b,o) (gM _ (gM _ (vD hb e)))).1,λb hb=>?_,w7⟩;obtain⟨o,e,d⟩:=T.obj _ _ st5 b hb;exact(I7.pin (b,o) (gM _ (gM _ (vD hb e)))).2.1
  cases f with
  | next=>obtain⟨σ7,H7,I7,n7⟩:=q7;exact again I7 n7
  | cont=>obtain⟨σ7,H7,I7,n7⟩:=q7;exact again I7 n7
  | brk=>obtain⟨σ7,H7,I7,q7⟩:=q7;exact⟨σ7,H7,I7.unpinned,q7⟩
  | ret v=>obtain⟨x7,σ7,H7,I7,r7,q7⟩:=q7;exact⟨x7,σ7,H7,I7.unpinned,r7,q7⟩
end
theorem AL{K:tV}{a:Addr}{xs:List V}{g:TG}{tb:TS}{D:Ends}{σ:St}{H:Hp}(Pv:Nat->St->Hp->Prop)(h0:Pv 0 σ H)(hl:∀i σ H,i<=xs.length->Pv i σ H->SqL K H a xs)
  (hs:∀i x σ H,xs[i]? = some x->Pv i σ H->g x σ H fun σ2 H2=>tb { D with nx:=Pv (i+1),ct:=Pv (i+1),bk:=D.nx } σ2 H2) (hd:∀σ H,Pv xs.length σ H->D.nx σ H) :
  ∃W:Nat->Nat->St->Hp->Prop,(∃m,W 0 m σ H)/\∀i m σ H,W i m σ H->
   ((Itl K a).stop i H/\D.nx σ H)∨((Itl K a).go i H/\∃N:St->Hp->Prop,(∀σ' H',N σ' H'->∃m',m'<m/\W (i+1) m' σ' H')/\∀x H',(Itl K a).yld i H x H'->g x σ H' fun σ2 H2=>tb { D with nx:=N,ct:=N,bk:=D.nx } σ2 H2):=by
 refine⟨λi m σ H=>m=xs.length-i/\i<=xs.length/\Pv i σ H,⟨xs.length,by simp,tL _,h0⟩, ?_⟩;rintro i m σ H ⟨rfl,hi,p⟩;have q:=hl i σ H hi p;by_cases hlt:i<xs.length
 ·refine .inr ⟨⟨xs,xs[i],q,by simp [hlt]⟩,Pv (i+1),fun σ' H' p'=>⟨xs.length-(i+1),by omega,rfl,hlt,p'⟩,λx H' y=>?_⟩;obtain⟨e,y⟩:=y;subst e;exact hs i x σ _ (y xs q) p
 ·have e:i=xs.length:=by omega
  subst e;exact .inl ⟨⟨xs,q,tK _⟩,hd σ H p⟩
theorem AK{K:tV}{a:Addr}{xs:List V}{g:TG}{tb:TS}{D:Ends}{σ:St}{H:Hp}(Pv:Nat->St->Hp->Prop)(h0:Pv 0 σ H)(hl:∀i σ H,i<=xs.length->Pv i σ H->SqT K H a xs)
  (hs:∀i x σ H,xs[i]? = some x->Pv i σ H->g x σ H fun σ2 H2=>tb { D with nx:=Pv (i+1),ct:=Pv (i+1),bk:=D.nx } σ2 H2) (hd:∀σ H,Pv xs.length σ H->D.nx σ H) :
  ∃W:Nat->Nat->St->Hp->Prop,(∃m,W 0 m σ H)/\∀i m σ H,W i m σ H->
   ((Itt K a).stop i H/\D.nx σ H)∨((Itt K a).go i H/\∃N:St->Hp->Prop,(∀σ' H',N σ' H'->∃m',m'<m/\W (i+1) m' σ' H')/\∀x H',(Itt K a).yld i H x H'->g x σ H' fun σ2 H2=>tb { D with nx:=N,ct:=N,bk:=D.nx } σ2 H2):=by
 refine⟨λi m σ H=>m=xs.length-i/\i<=xs.length/\Pv i σ H,⟨xs.length,by simp,tL _,h0⟩, ?_⟩;rintro i m σ H ⟨rfl,hi,p⟩;have q:=hl i σ H hi p;by_cases hlt:i<xs.length
 ·refine .inr ⟨⟨xs,xs[i],q,by simp [hlt]⟩,Pv (i+1),fun σ' H' p'=>⟨xs.length-(i+1),by omega,rfl,hlt,p'⟩,λx H' y=>?_⟩;obtain⟨e,y⟩:=y;subst e;exact hs i x σ _ (y xs q) p
 ·have e:i=xs.length:=by omega
  subst e;exact .inl ⟨⟨xs,q,tK _⟩,hd σ H p⟩
theorem vZ{lo:Int}{n:Nat}{g:TG}{tb:TS}{D:Ends}{σ:St}{H:Hp}(Pv:Nat->St->Hp->Prop)(h0:Pv 0 σ H)
  (hs:∀i σ H,i<n->Pv i σ H->g (.int (lo+i)) σ H fun σ2 H2=>tb { D with nx:=Pv (i+1),ct:=Pv (i+1),bk:=D.nx } σ2 H2) (hd:∀σ H,Pv n σ H->D.nx σ H) :
  ∃W:Nat->Nat->St->Hp->Prop,(∃m,W 0 m σ H)/\∀i m σ H,W i m σ H->
   ((Itr lo n).stop i H/\D.nx σ H)∨((Itr lo n).go i H/\∃N:St->Hp->Prop,(∀σ' H',N σ' H'->∃m',m'<m/\W (i+1) m' σ' H')/\∀x H',(Itr lo n).yld i H x H'->g x σ H' fun σ2 H2=>tb { D with nx:=N,ct:=N,bk:=D.nx } σ2 H2):=by
 refine⟨λi m σ H=>m=n-i/\i<=n/\Pv i σ H,⟨n,by simp,tL _,h0⟩, ?_⟩;rintro i m σ H ⟨rfl,hi,p⟩;by_cases hlt:i<n
 ·refine .inr ⟨hlt,Pv (i+1),fun σ' H' p'=>⟨n-(i+1),by omega,rfl,hlt,p'⟩,λx H' y=>?_⟩;obtain⟨e,y⟩:=y;subst e y;exact hs i σ _ hlt p
 ·have e:i=n:=by omega
  subst e;exact .inl ⟨tK _,hd σ H p⟩
theorem KG{D:Ends}(Pv:St->Hp->Prop)(μ:St->Hp->Nat)(h0:Pv σ H)
  (hs:∀σ H,Pv σ H->c σ H λb H1=>if b=true then tb { D with nx:=fun σ' H'=>Pv σ' H'/\μ σ' H'<μ σ H,ct:=fun σ' H'=>Pv σ' H'/\μ σ' H'<μ σ H,bk:=D.nx } σ H1 else D.nx σ H1)
  (mono:∀σ H Q Q',(∀b H1,Q b H1->Q' b H1)->c σ H Q->c σ H Q'):NF c tb D σ H:=by
 refine⟨λm σ H=>m=μ σ H/\Pv σ H,⟨_,rfl,h0⟩, ?_⟩;rintro m σ H ⟨rfl,p⟩;refine mono σ H _ _ (λb H1 q=>?_) (hs σ H p);cases b with
 | true=>exact⟨_,fun σ' H' ⟨p',l⟩=>⟨_,l,rfl,p'⟩,q⟩
 | false=>exact q
abbrev R2:=V->V->Hp->VK->Prop
def OpR(X:Cx)(f:Value->Value->Sem Value)(r:R2):Prop:=
 ∀(ac:List #[17]) (s:Shared) (σ:St) (H:Hp) (x y:V) (v u:Value) (Q:VK),Inv X ac σ H s->RelV x v->RelV y u->r x y H Q->
  wpAny #[4] X.A (f v u) (EP X ac σ Q) X.xe s
def UnR(X:Cx)(f:Value->Sem Value)(r:V->Hp->VK->Prop):Prop:=
 ∀(ac:List #[17]) (s:Shared) (σ:St) (H:Hp) (x:V) (v:Value) (Q:VK),Inv X ac σ H s->RelV x v->r x H Q->
  wpAny #[4] X.A (f v) (EP X ac σ Q) X.xe s
def CallR(X:Cx)(f:Value)(r:List V->Hp->VK->Prop):Prop:=
 ∀(ac:List #[17]) (s:Shared) (σ:St) (H:Hp) (xs:List V) (us:List Value) (Q:VK),Inv X ac σ H s->Vals xs us->r xs H Q->
  wpAny #[4] X.A (call f us) (EP X ac σ Q) X.xe s
def tOp(r:R2)(ta tb:TE):TE:=fun σ H Q=>ta σ H λx H1=>tb σ H1 λy H2=>r x y H2 Q
def tUn(r:V->Hp->VK->Prop)(ta:TE):TE:=fun σ H Q=>ta σ H λx H1=>r x H1 Q
def rI(C:Int->Int->Prop)(g:Int->Int->V):R2:=λx y H Q=>∃i j,x=.int i/\y=.int j/\C i j/\Q (g i j) H
def rI0(g:Int->Int->V):R2:=λx y H Q=>∃i j,x=.int i/\y=.int j/\Q (g i j) H
def rU(g:Int->V):V->Hp->VK->Prop:=λx H Q=>∃i,x=.int i/\Q (g i) H
section
variable{X:Cx}{a b c:Expr}{ta tb tc:TE}{pos:Pos}
theorem binT(ha:PE X a ta)(hb:PE X b tb){R:V->V->Hp->Prop}(I:Inv X ac σ H s)
  (h:ta σ H λx H1=>tb σ H1 λy H2=>R x y H2) {Q:Value->Shared->Prop} {f:Value->Value->Sem Value}
  (hf:∀v u s2 x y H2,Inv X ac σ H2 s2->RelV x v->RelV y u->R x y H2->wpAny #[4] X.A (f v u) Q X.xe s2) :
  wpAny #[4] X.A (eval a X.env) (λv s₁=>wpAny #[4] X.A (eval b X.env) (λu s₂=>wpAny #[4] X.A (f v u) Q X.xe s₂) X.xe s₁) X.xe s:=by
 refine thn (ha ac s σ H _ I h) λv s1 ⟨x,H1,I1,r1,q1⟩=>?_;refine thn (hb ac s1 σ H1 _ I1 q1) λu s2 ⟨y,H2,I2,r2,q2⟩=>?_;exact hf v u s2 x y H2 I2 r1 r2 q2
theorem jM(ho:OpR X (binaryOp op) r)(ha:PE X a ta)(hb:PE X b tb):PE X (.BinOp a op b pos) (tOp r ta tb):=by
 intro ac s σ H Q I h;exact wpAny_BinOp (binT ha hb I h λv u s2 x y H2 I2 rx ry q=>ho ac s2 σ H2 x y v u Q I2 rx ry q)
theorem GQ{r:V->Hp->VK->Prop}(ho:UnR X (unaryOp op) r)(ha:PE X a ta):PE X (.UnaryOp op a pos) (tUn r ta):=by
 intro ac s σ H Q I h;exact UnaryOp_ (thn (ha ac s σ H _ I h) λv s1 ⟨x,H1,I1,r1,q1⟩=>ho ac s1 σ H1 x v Q I1 r1 q1)
theorem opI{f:Value->Value->Sem Value}{C:Int->Int->Prop}{g:Int->Int->Int}
  (rule:∀(i j:Int) (t u:Tok) (s:Shared) (Q:Value->Shared->Prop) (E:Value->Shared->Prop),C i j->Q (.int (g i j) s.toks) { s with toks:=s.toks+1 }->wpAny #[4] X.A (f (.int i t) (.int j u)) Q E s) :
  OpR X f (rI C λi j=>.int (g i j)):=by
 intro ac s σ H x y v u Q I rx ry h;obtain⟨i,j,rfl,rfl,hc,q⟩:=h;obtain⟨t,rfl⟩:=rx;obtain⟨t',rfl⟩:=ry;exact rule i j t t' s _ _ hc ⟨.int (g i j),H,I.tok _,⟨_,rfl⟩,q⟩
theorem opI0{f:Value->Value->Sem Value}{g:Int->Int->Int}
  (rule:∀(i j:Int) (t u:Tok) (s:Shared) (Q:Value->Shared->Prop) (E:Value->Shared->Prop),Q (.int (g i j) s.toks) { s with toks:=s.toks+1 }->wpAny #[4] X.A (f (.int i t) (.int j u)) Q E s) :
  OpR X f (rI0 λi j=>.int (g i j)):=by
 intro ac s σ H x y v u Q I rx ry h;obtain⟨i,j,rfl,rfl,q⟩:=h;obtain⟨t,rfl⟩:=rx;obtain⟨t',rfl⟩:=ry;exact rule i j t t' s _ _ ⟨.int (g i j),H,I.tok _,⟨_,rfl⟩,q⟩
theorem opB0{f:Value->Value->Sem Value}{g:Int->Int->Bool}
  (rule:∀(i j:Int) (t u:Tok) (s:Shared) (Q:Value->Shared->Prop) (E:Value->Shared->Prop),Q (.bool (g i j)) s->wpAny #[4] X.A (f (.int i t) (.int j u)) Q E s) :
  OpR X f (rI0 λi j=>.bl (g i j)):=by
 intro ac s σ H x y v u Q I rx ry h;obtain⟨i,j,rfl,rfl,q⟩:=h;obtain⟨t,rfl⟩:=rx;obtain⟨t',rfl⟩:=ry;exact rule i j t t' s _ _ ⟨.bl (g i j),H,I,rfl,q⟩
def CDiv(i j:Int):Prop:=0<j/\j<1073741824
def CPow(i j:Int):Prop:=0<=j/\j<=1000000/\i.natAbs<2^64
def CMul(i j:Int):Prop:=(-(2^64)<i/\i<2^64)∨(-(2^64)<j/\j<2^64)
theorem CMul.ok{i j:Int}(h:CMul i j):IntMulOk i j:=by
 rcases h with⟨h1,h2⟩ | ⟨h1,h2⟩
 ·exact .of_left (intBits_le_64 h1 h2)
 ·exact .of_right (intBits_le_64 h1 h2)
theorem qF:OpR X (binaryOp .Add) (rI0 λi j=>.int (i+j)):=opI0 λ_ _ _ _ _ _ _ q=>add_int q
theorem zX:OpR X (binaryOp .Sub) (rI0 λi j=>.int (i-j)):=opI0 λ_ _ _ _ _ _ _ q=>sub_int q
theorem uB:OpR X (binaryOp .Mult) (rI CMul λi j=>.int (i*j)):=opI λ_ _ _ _ _ _ _ hc q=>mul_int q hc.ok
theorem op_fdiv:OpR X (binaryOp .FloorDiv) (rI CDiv λi j=>.int (i/j)):=opI λi j _ _ _ _ _ hc q=>by
 have h1:(0:Int)<j:=hc.1;have h2:j<1073741824:=hc.2;exact floordiv_int #[1] (by rw[Int.fdiv_eq_ediv_of_nonneg i #[1]];exact q) (.inl (PyProof.noPylong_small #[1]))
theorem vX:OpR X (binaryOp .Mod) (rI (λ_ j=>0<j) λi j=>.int (i%j)):=opI λi j _ _ _ _ _ hc q=>by
 have h1:(0:Int)<j:=hc;exact mod_int' #[1] (by rw[Int.fmod_eq_emod_of_nonneg i #[1]];exact q)
theorem IW:OpR X (binaryOp .Pow) (rI CPow λi j=>.int (i^j.toNat)):=opI λ_ _ _ _ _ _ _ hc q=>pow_int_small hc.1 hc.2.1 hc.2.2 q
theorem unI{f:Value->Sem Value}{g:Int->Int}
  (rule:∀(i:Int) (t:Tok) (s:Shared) (Q:Value->Shared->Prop) (E:Value->Shared->Prop),Q (.int (g i) s.toks) { s with toks:=s.toks+1 }->wpAny #[4] X.A (f (.int i t)) Q E s) :
  UnR X f (rU λi=>.int (g i)):=by
 intro ac s σ H x v Q I rx h;obtain⟨i,rfl,q⟩:=h;obtain⟨t,rfl⟩:=rx;exact rule i t s _ _ ⟨.int (g i),H,I.tok _,⟨_,rfl⟩,q⟩
theorem AZ:UnR X (unaryOp .USub) (rU λi=>.int (-i)):=unI λ_ _ _ _ _ q=>neg_int q
end
def scal:V->V->Bool
 | .non,.non=>true | .non,.int _=>true | .int _,.non=>true | .non,.bl _=>true | .bl _,.non=>true | .non,.str _=>true | .str _,.non=>true
 | .int _,.int _=>true | .bl _,.bl _=>true | .str _,.str _=>true | .byt _,.byt _=>true
 | .int _,.str _=>true | .str _,.int _=>true | .bl _,.str _=>true | .str _,.bl _=>true
 | _,_=>false
def rEq:R2:=λx y H Q=>scal x y=true/\Q (.bl (decide (x=y))) H
def rNe:R2:=λx y H Q=>scal x y=true/\Q (.bl (!decide (x=y))) H
theorem JY{i j:Int} :decide (V.int i=V.int j)=(i==j):=by
 rw[Bool.eq_iff_iff];simp
theorem dec_bl :decide (V.bl i=V.bl j)=(i==j):=by
 rw[Bool.eq_iff_iff];simp
theorem TB :decide (V.str i=V.str j)=(i==j):=by
 rw[Bool.eq_iff_iff];simp
theorem TD{i j:Array UInt8} :decide (V.byt i=V.byt j)=(i.toList==j.toList):=by
 rw[Bool.eq_iff_iff];cases i;cases j;simp
section
variable{X:Cx}{a b c:Expr}{ta tb tc:TE}{pos:Pos}
theorem kM(I:Inv X ac σ H s)(q:Q (.bl k) H)(e:k=k'):EP X ac σ Q (.bool k') s:=by
 subst e;exact⟨.bl k,H,I,rfl,q⟩
theorem yU:OpR X (compareOp .Eq) rEq:=by
 intro ac s σ H x y v u Q I rx ry h;obtain⟨hs,q⟩:=h;cases x with
 | non=>
  cases rx;cases y with
  | non=>cases ry;exact PySem.EqNone.eq_none_none (kM I q #[14])
  | bl j=>cases ry;exact PySem.EqNone.eq_none_bool (kM I q #[14])
  | int j=>obtain⟨t',rfl⟩:=ry;exact PySem.EqNone.eq_none_int (kM I q #[14])
  | str j=>obtain⟨t',rfl⟩:=ry;exact PySem.EqNone.eq_none_str (kM I q #[14])
  | _=>exact absurd (show false=true from hs) hV
 | bl i=>
  cases rx;cases y with
  | non=>cases ry;exact PySem.EqNone.eq_bool_none (kM I q #[14])
  | bl j=>cases ry;exact eq_bool (kM I q dec_bl)
  | str j=>obtain⟨t',rfl⟩:=ry;exact PySem.EqMixed.eq_bool_str (kM I q #[14])
  | _=>exact absurd (show false=true from hs) hV
 | int i=>
  obtain⟨t,rfl⟩:=rx;cases y with
  | non=>cases ry;exact PySem.EqNone.eq_int_none (kM I q #[14])
  | int j=>obtain⟨t',rfl⟩:=ry;exact eq_int (kM I q JY)
  | str j=>obtain⟨t',rfl⟩:=ry;exact PySem.EqMixed.eq_int_str (kM I q #[14])
  | _=>exact absurd (show false=true from hs) hV
 | str i=>
  obtain⟨t,rfl⟩:=rx;cases y with
  | non=>cases ry;exact PySem.EqNone.eq_str_none (kM I q #[14])
  | bl j=>cases ry;exact PySem.EqMixed.eq_str_bool (kM I q #[14])
  | int j=>obtain⟨t',rfl⟩:=ry;exact PySem.EqMixed.eq_str_int (kM I q #[14])
  | str j=>obtain⟨t',rfl⟩:=ry;exact eq_str (kM I q TB)
  | _=>exact absurd (show false=true from hs) hV
 | byt i=>
  obtain⟨t,rfl⟩:=rx;cases y with
  | byt j=>obtain⟨t',rfl⟩:=ry;exact PySem.W.eq_bytes (kM I q TD)
  | _=>exact absurd (show false=true from hs) hV
 | _=>cases y<;>exact absurd (show false=true from hs) hV
theorem AD:OpR X (compareOp .NotEq) rNe:=by
 intro ac s σ H x y v u Q I rx ry h;obtain⟨hs,q⟩:=h;cases x with
 | non=>
  cases rx;cases y with
  | non=>cases ry;exact PySem.EqNone.ne_none_none (kM I q #[14])
  | bl j=>cases ry;exact PySem.EqNone.ne_none_bool (kM I q #[14])
  | int j=>obtain⟨t',rfl⟩:=ry;exact PySem.EqNone.ne_none_int (kM I q #[14])
  | str j=>obtain⟨t',rfl⟩:=ry;exact PySem.EqNone.ne_none_str (kM I q #[14])
  | _=>exact absurd (show false=true from hs) hV
 | bl i=>
  cases rx;cases y with
  | non=>cases ry;exact PySem.EqNone.ne_bool_none (kM I q #[14])
  | bl j=>cases ry;exact ne_bool (kM I q (congrArg not dec_bl))
  | str j=>obtain⟨t',rfl⟩:=ry;exact PySem.EqMixed.ne_bool_str (kM I q #[14])
  | _=>exact absurd (show false=true from hs) hV
 | int i=>
  obtain⟨t,rfl⟩:=rx;cases y with
  | non=>cases ry;exact PySem.EqNone.ne_int_none (kM I q #[14])
  | int j=>obtain⟨t',rfl⟩:=ry;exact ne_int (kM I q (congrArg not JY))
  | str j=>obtain⟨t',rfl⟩:=ry;exact PySem.EqMixed.ne_int_str (kM I q #[14])
  | _=>exact absurd (show false=true from hs) hV
 | str i=>
  obtain⟨t,rfl⟩:=rx;cases y with
  | non=>cases ry;exact PySem.EqNone.ne_str_none (kM I q #[14])
  | bl j=>cases ry;exact PySem.EqMixed.ne_str_bool (kM I q #[14])
  | int j=>obtain⟨t',rfl⟩:=ry;exact PySem.EqMixed.ne_str_int (kM I q #[14])
  | str j=>obtain⟨t',rfl⟩:=ry;exact ne_str (kM I q (congrArg not TB))
  | _=>exact absurd (show false=true from hs) hV
 | byt i=>
  obtain⟨t,rfl⟩:=rx;cases y with
  | byt j=>obtain⟨t',rfl⟩:=ry;exact PySem.W.ne_bytes (kM I q (congrArg not TD))
  | _=>exact absurd (show false=true from hs) hV
 | _=>cases y<;>exact absurd (show false=true from hs) hV
theorem GY:OpR X (compareOp .Lt) (rI0 λi j=>.bl (decide (i<j))):=opB0 λ_ _ _ _ _ _ _ q=>lt_int q
theorem op_le:OpR X (compareOp .LtE) (rI0 λi j=>.bl (decide (i<=j))):=opB0 λ_ _ _ _ _ _ _ q=>le_int q
theorem yT:OpR X (compareOp .Gt) (rI0 λi j=>.bl (decide (j<i))):=opB0 λ_ _ _ _ _ _ _ q=>gt_int q
theorem op_ge:OpR X (compareOp .GtE) (rI0 λi j=>.bl (decide (j<=i))):=opB0 λ_ _ _ _ _ _ _ q=>ge_int q
theorem jS(b:Expr)(h:op≠.In:=by decide)(h2:op≠.NotIn:=by decide):behindInMarks op b=false:=by
 have e1:(op==CmpOp.In)=false:=by cases op<;>first | rfl | exact absurd rfl h
 have e2:(op==CmpOp.NotIn)=false:=by cases op<;>first | rfl | exact absurd rfl h2
 cases b<;>simp [behindInMarks,e1,e2]
theorem zG(ho:OpR X (compareOp op) r)(ha:PE X a ta)(hb:PE X b tb)(hm:behindInMarks op b=false):PE X (.Compare a [op] [b] pos) (tOp r ta tb):=by
 intro ac s σ H Q I h;exact wpAny_Compare1 (binT ha hb I h λv u s2 x y H2 I2 rx ry q=>ho ac s2 σ H2 x y v u Q I2 rx ry q) hm
def KL(t:TE):TT:=fun σ H Q=>t σ H λx H'=>∃k,x=.bl k/\Q k H'
theorem jO(ho:OpR X (compareOp op) r)(ha:PE X a ta)(hb:PE X b tb)(hm:behindInMarks op b=false):PT X (.Compare a [op] [b] pos) (KL (tOp r ta tb)):=by
 intro ac s σ H Q I h;refine wpAny_isTrue_Compare1 (thn (ha ac s σ H _ I h) λv s1 ⟨x,H1,I1,r1,q1⟩=>thn (hb ac s1 σ H1 _ I1 q1) λu s2 ⟨y,H2,I2,r2,q2⟩=>
  thn (ho ac s2 σ H2 x y v u _ I2 r1 r2 q2) λc s3 ⟨z,H3,I3,r3,k,e,q3⟩=>?_) hm
 subst e;cases r3;exact wpAny_truthy_bool ⟨H3,I3,q3⟩
theorem BM:(sizeLine:Nat)<2^63:=by rw[sizeLine_eq];decide
theorem qW(r:Vals [x] us):∃u,us=[u]/\RelV x u:=by
 cases r with
 | cons r1 r2=>cases r2;exact⟨_,rfl,r1⟩
theorem vals2(r:Vals [x,y] us):∃u w',us=[u,w']/\RelV x u/\RelV y w':=by
 cases r with
 | cons r1 r2=>
  cases r2 with
  | cons r3 r4=>cases r4;exact⟨_,_,rfl,r1,r3⟩
theorem call_abs:CallR X (.builtin "abs") (λxs H Q=>∃i,xs=[.int i]/\Q (.int (if i<0 then -i else i)) H):=by
 intro ac s σ H xs us Q I r h;obtain⟨i,rfl,q⟩:=h;obtain⟨u,rfl,t,rfl⟩:=qW r;exact call_abs_int λu tk=>⟨.int (if i<0 then -i else i),H,I.tok _,⟨_,rfl⟩,q⟩
theorem KA:CallR X (.type "str") (λxs H Q=>∃i,xs=[.int i]/\i.natAbs.log2<1920/\Q (.str (toString i)) H):=by
 intro ac s σ H xs us Q I r h;obtain⟨i,rfl,hz,q⟩:=h;obtain⟨u,rfl,t,rfl⟩:=qW r;exact PySem.P.str_of_int hz ⟨.str _,H,I.tok _,⟨_,rfl⟩,q⟩
end
structure ObjM(h:Heap)(x dx C:Addr)(mA:Str->Option Value):Prop where
 obj:h.get? x=some (PySem.W.instObj C dx)
 ns:h.Ns1 dx mA
 ne:dx≠x
theorem VC{h:Heap}{mA:Str->Option Value}(n:h.Ns1 dx mA):∃od,h.get? dx=some od/\∀name,PySem.W.lookIn name od=some (mA name):=by
 obtain⟨o,es,ep,ho,hd,hk,_,hm⟩:=n;refine⟨o,ho,λname=>?_⟩;have e:=hm name;unfold nsFind findBy at e;rw[<-Array.find?_toList]at e;unfold PySem.W.lookIn;rw[hd];dsimp only;split
 ·rename_i y q;rw[q]at e;exact congrArg some e
 ·rename_i q;rw[q]at e;have a:es.toList.any (·.refKey)=false:=by
   rw[List.any_eq_false];intro y hy;obtain⟨z,t,hkey⟩:=hk y (Array.mem_toList_iff.mp hy);simp [DictEntry.refKey,hkey]
  have a':¬es.toList.any (·.refKey)=true:=by rw[a];exact hV
  rw[tT a'];exact congrArg some e
theorem ObjM.look{mA:Str->Option Value}(I:ObjM h x dx C mA):∃od,PySem.W.InstAt h x (PySem.W.instObj C dx) C (some od)/\∀name,PySem.W.lookIn name od=some (mA name):=
 let ⟨od,ho,hl⟩:=VC I.ns
 ⟨od,⟨I.obj,rfl,rfl,ho⟩,hl⟩
section
variable{prog:Program}{w:World}{A:Around}{E:Value->Shared->Prop}{s:Shared}{K:tV}{x dx C f:Addr}{mA:Str->Option Value}{name:Str}{v:Value}
end
theorem RelO.some_of(r:RelO (some v) o):∃u,o=some u/\RelV v u:=by
 cases o with
 | none=>exact(show False from r).elim
 | some u=>exact⟨u,rfl,r⟩
section
variable{P:Program}{w:World}{H H':Hp}{h h':Heap}{a C dx:Addr}{fs fs':List (Str×V)}
theorem ins_get(hok:HOk P w H h)(e:H a=some (.ins C dx fs)):∃mA,ObjM h a dx C mA/\(∀f,RelO (fs.lookup f) (mA f))/\PySem.Within mA (fs.map (·.1))/\fs.length<=1000/\H dx=some (.own a):=by
 obtain⟨d,z,ne,ob,mA,n,r,q⟩:=(show ObjOk P w H h a (.ins C dx fs)from hok a _ e);exact⟨mA,⟨ob,n,ne⟩,r,q,z,d⟩
end
structure Cls(K:tV)(C:Addr):Prop where
 pg:PySem.W.plainGet K C Str.empty=true
 hd:PySem.W.hasDictIn K C=true
 po:PySem.W.plainOver K C=true
 sa:PySem.W.findIn K (.ref C) "__setattr__" = some (some (.builtin "object.__setattr__"))
theorem Cls.get{K:tV}{C:Addr}(c:Cls K C)(f:Str):PySem.W.plainGet K C f=true:=c.pg
structure Con(K:tV)(C:Addr)(f:Str)(v:V)(u:Value):Prop where
 at_:PySem.W.findIn K (.ref C) f=some (some u)
 rel:RelV v u
 get:PySem.W.specialIn K u "__get__" = some none
 cp:PySem.W.copiedNames.contains f=false
structure Meth(K:tV)(C:Addr)(m:Str)(f:Addr):Prop where
 at_:PySem.W.findIn K (.ref C) m=some (some (.ref f))
 fn:PySem.W.isFn K (.ref f)=true
 kp:PySem.W.keepIn K (.ref f)=true
section
variable{X:Cx}{ac:List #[17]}{σ:St}{H:Hp}{s:Shared}{a C dx:Addr}{fs:List (Str×V)}{f:Str}{v:V}{A:Around}{E:Value->Shared->Prop}
end
section
variable{X:Cx}{o e value:Expr}{f:Str}{pos pos' tpos:Pos}{ta tv:TE}
end
section
variable{X:Cx}{ac:List #[17]}{σ:St}{H:Hp}{s:Shared}{A:Around}{E:Value->Shared->Prop}{Q:Value->Shared->Prop}{c:Value}{b:Bool}
inductive TyOf(K:tV)(H:Hp):V->Value->Prop where
 | non:TyOf K H .non (.type "NoneType")
 | bl (x:Bool):TyOf K H (.bl x) (.type "bool")
 | int (i:Int):TyOf K H (.int i) (.type "int")
 | str (x:Str):TyOf K H (.str x) (.type "str")
 | flt (x:UInt64):TyOf K H (.flt x) (.type "float")
 | lst {a:Addr} {xs:List V} (e:H a=some (.lst xs)):TyOf K H (.ref a) (.type "list")
 | frz {a:Addr} {o:Obj} {xs:List V} (e:H a=some (.frz o (.lst xs))):TyOf K H (.ref a) (.type "list")
 | tup {a:Addr} {xs:List V} (e:H a=some (.tup xs)):TyOf K H (.ref a) (.type "tuple")
 | dK {a:Addr} {ah:List (Key×V)} (e:H a=some (.dK ah)):TyOf K H (.ref a) (.type "dict")
 | dT {a:Addr} {ah:List (List Key×V)} (e:H a=some (.dT ah)):TyOf K H (.ref a) (.type "dict")
 | ins {a C dx:Addr} {fs:List (Str×V)} (e:H a=some (.ins C dx fs)) (cl:Cls K C) (ha:PySem.W.findIn K (.ref C) "__class__" = some (some (.builtin "object.__class__")))
   (hn:PySem.W.specialIn K (.builtin "object.__class__") "__get__" = some (some (.builtin "getset_descriptor.__get__"))) (htk:PySem.W.takesIn K (.builtin "object.__class__")=some true)
   (hm:PySem.W.mroIn K C (.type "object")=some true):TyOf K H (.ref a) (.ref C)
theorem VG(I:Inv X ac σ H s)(rx:RelV x u)(ty:TyOf X.K H x t)(e:PySem.W.kitOne X.K t c=some b)(h:∀tk,Q (.bool b) { s with toks:=tk }) :
  wpAny #[4] A (call (.builtin "isinstance") [u,c]) Q E s:=by
 cases ty with
 | non=>cases (show u=Value.none from rx);exact PySem.W.kia_one PySem.W.kitx_none I.kIn True.intro e (λz=>nomatch z) h
 | bl y=>cases (show u=Value.bool y from rx);exact PySem.W.kia_one PySem.W.kitx_bool I.kIn True.intro e (λz=>nomatch z) h
 | int i=>obtain⟨t,q⟩:=(show ∃t,u=Value.int i t from rx);cases q;exact PySem.W.kia_one PySem.W.kitx_int I.kIn True.intro e (λz=>nomatch z) h
 | str y=>obtain⟨t,q⟩:=(show ∃t,u=Value.str y t from rx);cases q;exact PySem.W.kia_one PySem.W.kitx_str I.kIn True.intro e (λz=>nomatch z) h
 | flt y=>obtain⟨t,q⟩:=(show ∃t,u=Value.float y t from rx);cases q;exact PySem.W.kia_one PySem.W.kitx_float I.kIn True.intro e (λz=>nomatch z) h
 | @lst a xs ea=>
  cases (show u=Value.ref a from rx);obtain⟨_,_,n,_,h1⟩:=(show ObjOk X.prog X.w H s.heap a (.lst xs)from I.hok a _ ea);exact PySem.W.kia_one PySem.W.kitx_list I.kIn ⟨_,h1,rfl⟩ e (λz=>nomatch z) h
 | @frz a ob xs ea=>
  cases (show u=Value.ref a from rx);obtain⟨_,_,_,n,_,h1⟩:=(show ObjOk X.prog X.w H s.heap a (.frz ob (.lst xs))from I.hok a _ ea);exact PySem.W.kia_one PySem.W.kitx_list I.kIn ⟨_,h1,rfl⟩ e (λz=>nomatch z) h
 | @tup a xs ea=>
  cases (show u=Value.ref a from rx);obtain⟨_,_,_,p⟩:=(show ObjOk X.prog X.w H s.heap a (.tup xs)from I.hok a _ ea);obtain⟨o,h1,h2,_⟩:=p.1;exact PySem.W.kia_one PySem.W.kitx_tuple I.kIn ⟨o,h1,h2⟩ e (λz=>nomatch z) h
 | @dK a ah ea=>
  cases (show u=Value.ref a from rx);obtain⟨_,_,vs,_,p⟩:=(show ObjOk X.prog X.w H s.heap a (.dK ah)from I.hok a _ ea);obtain⟨o,es,ep,h1,h2,_⟩:=p;exact PySem.W.kia_one PySem.W.kitx_dict I.kIn ⟨o,h1,h2.1⟩ e (λz=>nomatch z) h
 | @dT a ah ea=>
  cases (show u=Value.ref a from rx);obtain⟨_,_,xs,_,o,es,ep,h1,h2,_⟩:=(show ObjOk X.prog X.w H s.heap a (.dT ah)from I.hok a _ ea);exact PySem.W.kia_one PySem.W.kitx_dict I.kIn ⟨o,h1,h2.1⟩ e (λz=>nomatch z) h
 | @ins a C dx fs ea cl ha hn htk hm=>
  cases (show u=Value.ref a from rx);obtain⟨mA,O,_⟩:=ins_get I.hok ea;obtain⟨od,J,_⟩:=O.look;exact PySem.W.kia_one (PySem.W.kitx_own (cl.get _) cl.hd ha hn htk hm) I.kIn J e (λz=>nomatch z) h
end
structure Room(k:Nat)(A:Around):Prop where
 hd:A.handled=none
 dp:A.depth+3*k+5<recursionLimit
 un:A.units+16*k+200<cLine
theorem Room.mono{j k:Nat}(r:Room k A)(h:j<=k):Room j A:=⟨r.hd,by have:=r.dp;omega,by have:=r.un;omega⟩
theorem Room.deeper{k:Nat}{A:Around}(r:Room (k+1) A)(env:Env):Room k (A.deeper env):=
 ⟨r.hd,by have:=r.dp;show A.depth+1+3*k+5<_;omega,by have:=r.un;show A.units+3+16*k+200<_;omega⟩
theorem Room.depth{k:Nat}{A:Around}(r:Room k A):A.depth<recursionLimit:=by have:=r.dp;omega
theorem Room.units{k:Nat}{A:Around}(r:Room k A):A.units+64<cLine:=by have:=r.un;omega
theorem Room.units0{k:Nat}{A:Around}(r:Room k A):A.units<cLine:=by have:=r.un;omega
def tNil:TA:=λ_ H Q=>Q [] H
def xM(ta:TE)(tr:TA):TA:=fun σ H Q=>ta σ H λx H1=>tr σ H1 λxs H2=>Q (x::xs) H2
section
variable{X:Cx}{e:Expr}{es:List Expr}{te:TE}{t:TA}{pos:Pos}
theorem jB:PA X [] tNil:=λ_ _ _ _ H Q I h=>Calls.spliced_nil ⟨[],H,I,.nil,h⟩
theorem jA(ha:PE X e te)(hr:PA X es t)(hs:starEach (e::es) X.env=(false,eval e X.env)::starEach es X.env:=by rfl):PA X (e::es) (xM te t):=by
 intro pos ac s σ H Q I h;rw[hs];show wpAny _ _ (spliced ((false,eval e X.env)::backTo pos (starEach es X.env))) _ _ s;refine Calls.spliced_cons (thn (ha ac s σ H _ I h) λu s1 ⟨x,H1,I1,r1,q1⟩=>?_);exact thn (hr pos ac s1 σ H1 _ I1 q1) λus s2 ⟨xs,H2,I2,r2,q2⟩=>⟨x::xs,H2,I2,.cons r1 r2,q2⟩
def tTup(t:TA):TE:=fun σ H Q=>t σ H λxs H1=>xs.length<=sizeLine/\∀p,H1 p=none->Q (.ref p) (upd H1 p (.tup xs))
theorem pe_tup{x1}(h:PA X es t):PE X (.Tuple es x1 pos) (tTup t):=by
 intro ac s σ H Q I hq;refine wpAny_Tuple_spliced (thn (h pos ac s σ H _ I hq) λus s1 ⟨xs,H1,I1,r,z,q⟩=>⟨by rw[<-r.length];exact z, ?_⟩);have hf:H1 s1.heap.objs.size=none:=I1.hok.fresh uX ;refine⟨.ref s1.heap.objs.size,upd H1 s1.heap.objs.size (.tup xs),I1.laid (t':=s1.toks) (λb u e=>gJ _ e) uX ?_,rfl,q _ hf⟩;exact⟨z,us,r,⟨_,gY _ rfl,rfl,_,rfl⟩,.of (gY _ rfl) rfl⟩
end
abbrev Sp:=List V->Hp->VK->XK->Prop
abbrev CXT:=List Env->Hp->Shared->XK->Value->Shared->Prop
structure Env0(P:Program)(w:World)(K:tV)(mg:Str->Option Value)(base:Heap)(A:Around)(outer:List Env)(s:Shared)(H:Hp):Prop where
 frames:A.frames=some outer
 mod:Mod K mg base
 bs:∀b o,base.get? b=some o->s.heap.get? b=some o/\H b=none
 bsz:base.objs.size<=s.heap.objs.size
 funs:s.heap.FunFrames base outer
 frf:∀b∈frs outer,H b=none
 hok:HOk P w H s.heap
 bare:AllBare s.gens
def CE(outer:List Env)(P:Program)(w:World)(H:Hp)(s:Shared)(Q:VK)(u:Value)(s':Shared):Prop:=
 ∃v H',s'.os=s.os/\AllBare s'.gens/\Un (frs outer) [] H H' s.heap s'.heap/\HOk P w H' s'.heap/\RelV v u/\Q v H'
def CR(CX:CXT)(outer:List Env)(P:Program)(w:World)(H:Hp)(s:Shared)(Q:VK)(E:XK)(r:Result)(s':Shared):Prop:=
 match r with
 | .ok (.ret u)=>CE outer P w H s Q u s'
 | .ok _=>False
 | .error e=>CX outer H s E e s'
structure FnOk(P:Program)(w:World)(K:tV)(mg:Str->Option Value)(base:Heap)(CX:CXT)(k:Nat)(f:Addr)(fd:FuncData)(ps:List Str)(sp:Sp):Prop where
 len:∀vs H Q E,sp vs H Q E->vs.length=ps.length
 run:∀(A:Around) (outer:List Env) (s:Shared) (H:Hp) (args:Args) (us:List Value) (vs:List V) (Q:VK) (E:XK),Room k A->Env0 P w K mg base A outer s H->BindsTo s fd args (ps.zip us)->Vals vs us->sp vs H Q E->
  codeAny (model P w) A (.call (.ref f) args) (CR CX outer P w H s Q E) s
section
variable{X:Cx}{ac:List #[17]}{σ:St}{H:Hp}{s s':Shared}
theorem Inv.env0(I:Inv X ac σ H s):Env0 X.prog X.w X.K X.mg X.base X.A X.stack s H:=
 ⟨I.ok.frames,I.ok.mod,I.bs,nW I.ok.bsz I.sz,I.stack,I.stkFree,I.hok,I.bare⟩
theorem Inv.after(I:Inv X ac σ H s)(h:CE X.stack X.prog X.w H s Q u s'):EP X ac σ Q u s':=by
 obtain⟨v,H',os,bare,un,hok,r,q⟩:=h;obtain⟨hh,g,d,t,os'⟩:=s';obtain rfl:os'=s.os:=os;exact⟨v,H',I.call (h':=hh) (g':=g) (d':=d) (t':=t) (ch:=[]) un hok bare (λb z=>absurd z #[14]),r,q⟩
end
def XG(sp:Sp)(dvs:List V)(E:XK)(t:TA):TE:=fun σ H Q=>t σ H λvs H1=>sp (vs++dvs) H1 Q E
def Binds(K:tV)(fd:FuncData)(ps:List Str)(ds:List Value):Prop:=
 ∀(s:Shared) (us:List Value),K.In s.heap->(us++ds).length=ps.length->BindsTo s fd ⟨us,[]⟩ (ps.zip (us++ds))
theorem Binds.all{K:tV}{fd:FuncData}{ps:List Str}(h:∀us:List Value,us.length=ps.length->bindArgs fd ⟨us,[]⟩=pure (ps.zip us)):Binds K fd ps []:=λs us _ hl=>by
 rw[List.append_nil]at hl ⊢;exact .of_eq (h us hl)
def Passes(CX:CXT)(X:Cx)(E:XK):Prop:=∀(ac:List #[17]) (σ:St) (H:Hp) (s:Shared) (e:Value) (s':Shared),Inv X ac σ H s->CX X.stack H s E e s'->X.xe e s'
section
variable{X:Cx}{CX:CXT}{k:Nat}{f C:Addr}{fd:FuncData}{ps:List Str}{sp:Sp}{dvs:List V}{ds:List Value}{E:XK}{x m:Str}{p pos apos:Pos}{e o:Expr}{es:List Expr}{ta:TE}{t:TA}
theorem run_fn(F:FnOk X.prog X.w X.K X.mg X.base CX k f fd ps sp)(hr:Room k X.A)(hb:Binds X.K fd ps ds)(hd:Vals dvs ds)(hx:Passes CX X E)
  (I:Inv X ac σ H s) (r:Vals vs us) (h:sp (vs++dvs) H Q E):wpAny #[4] X.A (call (.ref f) us) (EP X ac σ Q) X.xe s:=by
 have r2:Vals (vs++dvs) (us++ds):=r.append hd;have hl:(us++ds).length=ps.length:=by rw[<-r2.length];exact F.len _ _ _ _ h
 refine wpAny_call (codeAny_mono (F.run X.A X.stack s H ⟨us,[]⟩ (us++ds) (vs++dvs) Q E hr I.env0 (hb s us I.kIn hl) r2 h) λr s' hq=>?_);cases r with
 | error e=>exact hx ac σ H s e s' I hq
 | ok fl=>
  cases fl with
  | ret u=>exact I.after hq
  | next=>exact False.elim hq
  | brk=>exact False.elim hq
  | cont=>exact False.elim hq
theorem jZ(F:FnOk X.prog X.w X.K X.mg X.base CX k f fd ps sp)(hr:Room k X.A)(hg:Gl X x)(hm:X.mg x=some (.ref f))(hk:PySem.W.keepIn X.K (.ref f)=true)(hb:Binds X.K fd ps ds)(hd:Vals dvs ds)(hx:Passes CX X E)
  (ha:PA X (e::es) t) (hdb:(x==("__debug__" :Str))=false:=by decide) (he:starEach (e::es) X.env=(false,eval e X.env)::starEach es X.env:=by rfl) (hpl:(backTo pos (starEach es X.env)).any (·.1)=false:=by rfl) :
  PE X (.Call (.Name x p) (e::es) [] pos) (XG sp dvs E t):=by
 intro ac s σ H Q I h;refine wpAny_Call_Name_kw (SK I hg hm ?_ hdb);refine PySem.W.callWith_K (h₀:=X.base) I.ok.mod.kin hk (thn (ha pos ac s σ H _ I h) λus s1 ⟨vs,H1,I1,r,q⟩=>⟨I1.kIn, ?_⟩) he hpl;exact run_fn F hr hb hd hx I1 r q
structure Mk(K:tV)(C f:Addr):Prop where
 makes:PySem.W.makesIn K C=true
 init:PySem.W.findIn K (.ref C) "__init__" = some (some (.ref f))
 fn:PySem.W.isFn K (.ref f)=true
 kp:PySem.W.keepIn K (.ref C)=true
end
def PK(X:Cx)(kws:List Keyword)(t:TA):Prop:=
 ∀(pos:Pos) (ac:List #[17]) (s:Shared) (σ:St) (H:Hp) (Q:List V->Hp->Prop),Inv X ac σ H s->t σ H Q->wpAny #[4] X.A (evalAll ((backToKw pos (keywordEach kws X.env)).map (·.2))) (AP X ac σ Q) X.xe s
section
variable{X:Cx}{CX:CXT}{k:Nat}{f C:Addr}{fd:FuncData}{ps ks:List Str}{sp:Sp}{E:XK}{x m:Str}{p pos apos kpos:Pos}{e o:Expr}{es:List Expr}{kws:List Keyword}{te ta:TE}{t tk:TA}{nm:Option Str}
theorem NT:PK X [] tNil:=λ_ _ _ _ H Q I h=>wpAny_evalAll_nil ⟨[],H,I,.nil,h⟩
theorem zE(ha:PE X e te)(hr:PK X kws t):PK X (⟨nm,e,kpos⟩::kws) (xM te t):=by
 intro pos ac s σ H Q I h;show wpAny _ _ (evalAll ((do let v<-eval e X.env;standAt pos;pure v)::(backToKw pos (keywordEach kws X.env)).map (·.2))) _ _ s;refine wpAny_evalAll_cons (tQ (thn (ha ac s σ H _ I h) λu s1 ⟨x,H1,I1,r1,q1⟩=>tQ (wpAny_standAt (tR ?_))));exact thn (hr pos ac s1 σ H1 _ I1 q1) λus s2 ⟨xs,H2,I2,r2,q2⟩=>⟨x::xs,H2,I2,.cons r1 r2,q2⟩
structure KBinds(K:tV)(fd:FuncData)(ps ks:List Str)(g:List Value->List Value->List Value)(gV:List V->List V->List V):Prop where
 to:∀(s:Shared) (us ws:List Value),K.In s.heap->(g us ws).length=ps.length->BindsTo s fd ⟨us,ks.zip ws⟩ (ps.zip (g us ws))
 rel:∀{vs:List V} {us:List Value} {zs:List V} {ws:List Value},Vals vs us->Vals zs ws->Vals (gV vs zs) (g us ws)
variable{g:List Value->List Value->List Value}{gV:List V->List V->List V}
end
structure FnScope(N P:List Str)(sc:Scope):Prop where
 kind:sc.kind=.function
 co:sc.isCoroutine=false
 gen:sc.isGenerator=false
 nd:N.Nodup
 pre:N.take P.length=P
 par:∀x∈P,sc.names.lookup x=some .local∨sc.names.lookup x=some .cell
 nofree:∀y∈sc.names,y.2≠.free
theorem HR{kindOf:Str->Option NameKind} :∀{binds:List (Str×Value)} {m:Str->Option Value},(∀v,(x,v)∉binds)->bindL kindOf binds m x=m x
 | [],_,_=>rfl
 | (n,v)::r,m,h=>by
  unfold bindL;rw[HR λw hw=>h w (gS _ hw)];split
  ·have:x≠n:=by rintro rfl;exact h v mD
   simp [this]
  ·rfl
theorem HU{kindOf:Str->Option NameKind} :∀{binds:List (Str×Value)} {m:Str->Option Value},(∀v,(x,v)∉binds)->bindC kindOf binds m x=m x
 | [],_,_=>rfl
 | (n,v)::r,m,h=>by
  unfold bindC;rw[HU λw hw=>h w (gS _ hw)];split
  ·rfl
  ·have:x≠n:=by rintro rfl;exact h v mD
   simp [this]
theorem HS{kindOf:Str->Option NameKind} :∀{P:List Str} {vs:List Value} {i:Nat} {m:Str->Option Value},P.Nodup->P[i]? = some x->vs[i]? = some v->kindOf x=some .local->
  bindL kindOf (P.zip vs) m x=some v
 | [],_,_,_,_,h,_,_=>by simp at h
 | _::_,[],_,_,_,_,h,_=>by simp at h
 | p::P,w::vs,0,m,nd,h1,h2,hk=>by
  simp at h1 h2;subst h1;subst h2;show bindL kindOf ((p,w)::P.zip vs) m p=_;unfold bindL;rw[HR λv hv=>(List.nodup_cons.mp nd).1 (List.of_mem_zip hv).1,tU hk];simp
 | p::P,w::vs,i+1,m,nd,h1,h2,hk=>by
  show bindL kindOf ((p,w)::P.zip vs) m x=_;unfold bindL;exact HS (i:=i) (List.nodup_cons.mp nd).2 (by simpa using h1) (by simpa using h2) hk
theorem HV{kindOf:Str->Option NameKind} :∀{P:List Str} {vs:List Value} {i:Nat} {m:Str->Option Value},P.Nodup->P[i]? = some x->vs[i]? = some v->kindOf x≠some .local->
  bindC kindOf (P.zip vs) m x=some v
 | [],_,_,_,_,h,_,_=>by simp at h
 | _::_,[],_,_,_,_,h,_=>by simp at h
 | p::P,w::vs,0,m,nd,h1,h2,hk=>by
  simp at h1 h2;subst h1;subst h2;show bindC kindOf ((p,w)::P.zip vs) m p=_;unfold bindC;rw[HU λv hv=>(List.nodup_cons.mp nd).1 (List.of_mem_zip hv).1,tT hk];simp
 | p::P,w::vs,i+1,m,nd,h1,h2,hk=>by
  show bindC kindOf ((p,w)::P.zip vs) m x=_;unfold bindC;exact HV (i:=i) (List.nodup_cons.mp nd).2 (by simpa using h1) (by simpa using h2) hk
def start(N:List Str)(vs:List V):St:=vs.map some++List.replicate (N.length-vs.length) none
def VT(CX:CXT)(P:Program)(w:World)(K:tV)(mg:Str->Option Value)(base:Heap)(N:List Str)(qual:Str)(scope:Scope)(f:Addr)(cd:Value)(A:Around)(outer:List Env)(s:Shared)(H:Hp)(E:XK):Cx where
 prog:=P
 w:=w
 K:=K
 mg:=mg
 base:=base
 A:=A.deeper (envOfC qual scope s.heap.objs.size f cd)
 N:=N
 s₀:=s
 H₀:=H
 env:=envOfC qual scope s.heap.objs.size f cd
 outer:=outer
 stack:=envOfC qual scope s.heap.objs.size f cd::outer
 ex:=[]
 calm:=true
 fn:=λ_=>true
 pn:=[]
 xe:=λe s'=>wpAny (model P w) (A.deeper (envOfC qual scope s.heap.objs.size f cd)) (leaving (envOfC qual scope s.heap.objs.size f cd) e) (λ_ s''=>CX outer H s E e s'') (λe' s''=>CX outer H s E e' s'') s'
theorem MW{sc:Scope}{n:Nat}(h:sc.names.lookup x=some .cell):∃c,(cellsFrom n sc.names []).lookup x=some c:=by
 have q:=PySem.W.cellsFrom_some sc.names n [] (.inl h);exact Option.isSome_iff_exists.mp q
theorem VH{CX:CXT}{P:Program}{w:World}{K:tV}{mg:Str->Option Value}{base:Heap}{N ps:List Str}{qual:Str}{scope:Scope}{f:Addr}{cd:Value}{A:Around}{outer:List Env}{s s1:Shared}{H:Hp}{E:XK}{us:List Value}{vs:List V}
  (S:FnScope N ps scope) (hd:A.handled=none) (e0:Env0 P w K mg base A outer s H) (hl:vs.length=ps.length) (r:Vals vs us)
  (x:InCallC s s.heap.objs.size (bindL (envOfC qual scope s.heap.objs.size f cd).kindOf (ps.zip us) λ_=>none) (cellsFrom (s.heap.objs.size+1) scope.names []) (bindC (envOfC qual scope s.heap.objs.size f cd).kindOf (ps.zip us) λ_=>none) s1) :
  Inv (VT CX P w K mg base N qual scope f cd A outer s H E) [] (start N vs) H s1:=by
 have hpl:ps.length<=N.length:=by have:=congrArg List.length S.pre;rw[mP]at this;omega
 obtain⟨h1,tk,rfl,hk⟩:=x.done;have noA:∀b:Addr,b∉(VT CX P w K mg base N qual scope f cd A outer s H E).ex:=λb z=>absurd (show b∈([]:List Addr)from z) #[14];refine⟨⟨e0.mod,S.kind,rfl,rfl,tK _,λy z c h1 h2=>?_,λy hy=>?_,λy c _ h=>?_,λ_=>hd,Around.frames_deeper e0.frames,.inr ⟨rfl,rfl⟩,λb z=>absurd z (noA b),e0.bs,e0.bsz,λb _ _=>noA b,λb z=>absurd z (noA b),e0.funs,e0.frf⟩,
  rfl,e0.bare,Un.kept hk,⟨_,x.toInCall.ns,λi y v h1 h2 h3=>?_⟩,λy c h=>⟨_,x.cell y c h⟩,e0.hok.fresh uX,λy c h=>?_,λp hp=>absurd (show p∈([]:List #[17])from hp) #[14],e0.hok.kept hk, ?_⟩
 ·exact name_of_addr x.apart (PySem.mem_of_lookup h1) (PySem.mem_of_lookup h2)
 ·have hy:scope.names.lookup y=some .cell∨scope.names.lookup y=some .free:=hy;rcases hy with hy | hy
  ·exact MW hy
  ·exact absurd rfl (S.nofree _ (PySem.mem_of_lookup hy))
 ·exact tH (x.above y c (PySem.mem_of_lookup h))
 ·have hi:i<vs.length:=by
   unfold start at h2;by_cases hi:i<vs.length
   ·exact hi
   ·rw[gC (by simpa using hi)]at h2;rw[List.getElem?_replicate]at h2;split at h2<;>cases h2
  have ha:vs[i]? = some v:=by
   unfold start at h2;rw[gF (by simpa using hi),mG]at h2;cases e:vs[i]? with
   | none=>rw[e]at h2;cases h2
   | some a=>rw[e]at h2;cases h2;rfl
  obtain⟨u,hu,rv⟩:=r.get ha;have hp:ps[i]? = some y:=by
   rw[<-S.pre,gH #[1]];exact h1
  have ndP:ps.Nodup:=by rw[<-S.pre];exact S.nd.sublist (List.take_sublist _ _)
  refine⟨u,rv, ?_⟩;rcases S.par y (gQ hp)with k | k
  ·exact .inl ⟨k,HS ndP hp hu k⟩
  ·obtain⟨c,e⟩:=MW (n:=s.heap.objs.size+1) k;refine .inr ⟨.inl k,c,e, ?_⟩;have q:=x.cell y c e;rw[HV ndP hp hu (by show scope.names.lookup y≠_;rw[k];decide)]at q;exact q
 ·exact e0.hok.fresh (tH (x.above y c (PySem.mem_of_lookup h)))
 ·unfold start;show _=N.length;rw[hJ,mY,gN];omega
theorem fn_of{CX:CXT}{P:Program}{w:World}{K:tV}{mg:Str->Option Value}{base:Heap}{k:Nat}{f:Addr}{name qual:Str}{params:Arguments}{body:List Stmt}{scope:Scope}{dV kV doc pm cdv ct oc:Value}{an od:Option Addr}
  {osl:Array (Option Value)} {N ps:List Str} {sp:Sp} (lk:K.lookup f=some ⟨oc,od,.func (PySem.W.fnOf name qual params body scope dV kV doc pm an cdv ct),osl⟩) (hcd:PySem.W.codeIn K cdv qual=true) (S:FnScope N ps scope)
  (len:∀vs H Q E,sp vs H Q E->vs.length=ps.length)
  (hbody:∀(A:Around) (outer:List Env) (s:Shared) (H:Hp) (vs:List V) (Q:VK) (E:XK),Room k (A.deeper (envOfC qual scope s.heap.objs.size f cdv))->sp vs H Q E->
   ∃t,PSs (VT CX P w K mg base N qual scope f cdv A outer s H E) body t/\t { nx:=λ_ H'=>Q .non H',rt:=Q } (start N vs) H) :
  FnOk P w K mg base CX (k+1) f (PySem.W.fnOf name qual params body scope dV kV doc pm an cdv ct) ps sp:=by
 refine⟨len,λA outer s H args us vs Q E hr e0 hb r hsp=>?_⟩;have hl:=len _ _ _ _ hsp;have KX:K.In s.heap:=e0.mod.kin.keeps λb o e=>(e0.bs b o e).1;have lim:s.heap.NoLimit:=e0.mod.nolimit.keeps λb o e=>(e0.bs b o e).1;have hkind:∀y∈ps.zip us,scope.names.lookup y.1=some .local∨(scope.names.lookup y.1=some .cell/\((cellsFrom (s.heap.objs.size+1) scope.names []).lookup y.1).isSome=true):=λ⟨n,v⟩ hy=>by
  rcases S.par n (List.of_mem_zip hy).1 with q | q
  ·exact .inl q
  ·exact .inr ⟨q,PySem.W.cellsFrom_some _ _ _ (.inl q)⟩
 refine codeAny_call_function hr.depth (KX _ _ lk) rfl S.co S.gen rfl (PySem.W.codeRec_of KX hcd) (hb _ _ _ _ ?_);refine wpAny_newFunctionEnv_cells S.kind hkind λenv he s1 x=>?_;subst he;refine⟨lim.keeps x.toInCall.keep,codeAny_func ?_⟩;obtain⟨t,ht,hq⟩:=hbody A outer s H vs Q E (hr.deeper _) hsp;have I:Inv (VT CX P w K mg base N qual scope f cdv A outer s H E) [] (start N vs) H s1:=VH S hr.hd e0 hl r x;refine tS (ht [] s1 (start N vs) H _ I hq) (λfl s' hs=>?_) λe s' hs=>hs;have fin:∀{σ':St} {H':Hp} {v:V} {u:Value},Inv (VT CX P w K mg base N qual scope f cdv A outer s H E) [] σ' H' s'->RelV v u->Q v H'->CE outer P w H s Q u s':=
  fun {σ' H' v u} J rv q=>⟨v,H',J.os,J.bare,J.base,J.hok,rv,q⟩
 cases fl with
 | ret u=>
  obtain⟨v,σ',H',J,rv,q⟩:=hs;exact fin J rv q
 | next=>
  obtain⟨σ',H',J,q⟩:=hs;exact fin (v:=V.non) (u:=Value.none) J rfl q
 | brk=>
  obtain⟨_,_,_,q⟩:=hs;exact False.elim q
 | cont=>
  obtain⟨_,_,_,q⟩:=hs;exact False.elim q
section
variable{X:Cx}{x:Str}{p pos:Pos}{e:Expr}{es:List Expr}{t:TA}{id T:String}{r:List V->Hp->VK->Prop}
def tCB(r:List V->Hp->VK->Prop)(t:TA):TE:=fun σ H Q=>t σ H λvs H1=>r vs H1 Q
theorem kF(hc:CallR X (.builtin id) r)(hg:Gl X x)(hm:X.mg x=none)(hv:bootBuiltins x=some (.builtin id))(ha:PA X (e::es) t)(hn:x≠"__name__":=by decide)(hdb:(x==("__debug__" :Str))=false:=by decide)
  (he:starEach (e::es) X.env=(false,eval e X.env)::starEach es X.env:=by rfl) (hpl:(backTo pos (starEach es X.env)).any (·.1)=false:=by rfl):PE X (.Call (.Name x p) (e::es) [] pos) (tCB r t):=by
 intro ac s σ H Q I h;refine wpAny_Call_Name_kw (yP I hg hm hv ?_ hn hdb);exact PyProof.Rows.callWith_builtin1 (thn (ha pos ac s σ H _ I h) λus s1 ⟨vs,H1,I1,r1,q1⟩=>hc ac s1 σ H1 vs us Q I1 r1 q1) he hpl
theorem qE(hc:CallR X (.type T) r)(hg:Gl X x)(hm:X.mg x=none)(hv:bootBuiltins x=some (.type T))(ha:PA X (e::es) t)(hn:x≠"__name__":=by decide)(hdb:(x==("__debug__" :Str))=false:=by decide)
  (he:starEach (e::es) X.env=(false,eval e X.env)::starEach es X.env:=by rfl) (hpl:(backTo pos (starEach es X.env)).any (·.1)=false:=by rfl):PE X (.Call (.Name x p) (e::es) [] pos) (tCB r t):=by
 intro ac s σ H Q I h;refine wpAny_Call_Name_kw (yP I hg hm hv ?_ hn hdb);exact PyProof.Rows.callWith_type1 (thn (ha pos ac s σ H _ I h) λus s1 ⟨vs,H1,I1,r1,q1⟩=>hc ac s1 σ H1 vs us Q I1 r1 q1) he hpl
end
end L2
namespace HT
open PySem PyProof.Rows
section
open PySem.SeqAt
open PySem.AutoSeq1 (wpAny_loadPart')
open PySem.MeetsSeq PySem.MeetsSeq2 PySem.MeetsSeq3
end
section
variable{prog:Program}{w:World}{A:Around}{E:Value->Shared->Prop}{s:Shared}
theorem cat_tup{vs ws:List Value}{Q:Value->Shared->Prop}(ht:IsTup s.heap t vs.toArray)(hb:IsTup s.heap b ws.toArray)(hv:vs≠[])
  (h1:ws=[]->Q (.ref t) s) (h2:ws≠[]->Q (.ref s.heap.objs.size) { s with heap:=s.heap.push { cls:=.type "tuple",data:=.seq (vs++ws).toArray } })
  (hsz:vs.length+ws.length<=sizeLine):wpAny #[7] A (binaryOp .Add (.ref t) (.ref b)) Q E s:=by
 obtain⟨⟨cls,dd,data,sl⟩,ho,hc,n,hd⟩:=id ht;obtain⟨⟨cls2,dd2,data2,sl2⟩,ho2,hc2,n2,hd2⟩:=id hb;simp only at hc hd hc2 hd2;subst hc hd hc2 hd2;have e:vs.toArray++ws.toArray=(vs++ws).toArray:=by simp
 by_cases hw:ws=[]
 ·exact concat_meets ⟨_,ho,rfl⟩ ⟨_,ho2,rfl⟩ noFill_tuple_add seq_tuple_add PySem.F.slot_tuple_add PySem.F.entry_tuple_add (PySem.F.args_tuple_add_2 _ _)
   (tuple_addW1 t b vs.toArray ws.toArray n n2 dd dd2 sl sl2 (by simpa using hv) (by simp [hw])) ⟨ho,ho2,h1 hw⟩
 ·refine concat_meets ⟨_,ho,rfl⟩ ⟨_,ho2,rfl⟩ noFill_tuple_add seq_tuple_add PySem.F.slot_tuple_add PySem.F.entry_tuple_add (PySem.F.args_tuple_add_2 _ _)
   (tuple_addW2 t b vs.toArray ws.toArray n n2 dd dd2 sl sl2 (by simpa using hv) (by simpa using hw) (by rw[mH,mH];exact hsz)) ⟨ho,ho2, ?_⟩
  rw[e];exact h2 hw
def sIx(n d:Nat):Option Int->Nat
 | none=>d
 | some v=>if v<0 then(v+(n:Int)).toNat else min v.toNat n
theorem sIx_none(n d:Nat):sIx n d none=d:=rfl
theorem sIx_nat(n d k:Nat):sIx n d (some (k:Int))=min k n:=by
 show(if (k:Int)<0 then((k:Int)+(n:Int)).toNat else min (k:Int).toNat n)=min k n;rw[tT #[1],mO]
theorem sIx_le(n d:Nat)(hd:d<=n)(o:Option Int):sIx n d o<=n:=by
 cases o with
 | none=>exact hd
 | some v=>
  show(if v<0 then(v+(n:Int)).toNat else min v.toNat n)<=n;by_cases hv:v<0
  ·rw[tU hv];omega
  ·rw[tT hv];exact Nat.min_le_right _ _
theorem TJ(v:Int)(n d:Nat):(if v<0 then max (v+(n:Int)) 0 else min v (n:Int))=((sIx n d (some v):Nat):Int):=by
 show(if v<0 then max (v+(n:Int)) 0 else min v (n:Int))=(((if v<0 then(v+(n:Int)).toNat else min v.toNat n):Nat):Int);by_cases hv:v<0
 ·simp only[tU hv];omega
 ·simp only[tT hv];omega
theorem OT(lo hi:Option Int)(n:Nat):Builtin.Slice.sliceAdjust lo hi 1 (n:Int)=(((sIx n 0 lo:Nat):Int),((sIx n n hi:Nat):Int)):=by
 have h1:¬((1:Int)<0):=by omega
 unfold Builtin.Slice.sliceAdjust;simp only[h1,if_false];refine Prod.ext ?_ ?_
 ·cases lo with
  | none=>rfl
  | some v=>exact TJ v n 0
 ·cases hi with
  | none=>rfl
  | some v=>exact TJ v n n
theorem NS(i j:Nat):Builtin.Slice.slicePlaces (i:Int) (j:Int) 1=j-i:=by
 unfold Builtin.Slice.slicePlaces;have h1:(1:Int)>0:=by omega
 simp only[h1,if_true,Int.ediv_one];split<;>omega
theorem DV{o:Option Int}{Q:Option Int->Shared->Prop}(p:IsPart v o)(h:Q o s):wpAny #[7] A (Builtin.Slice.slicePartIndex v) Q E s:=by
 cases p with
 | none=>exact slicePart_none h
 | int i t=>exact slicePart_int h
theorem yQ{lo hi:Option Int}{n:Nat}{Q:Int×Int×Nat->Shared->Prop}(hs:s.heap.IsSliceOf sl vl vu .none)(pl:IsPart vl lo)(pu:IsPart vu hi)
  (h:Q (((sIx n 0 lo:Nat):Int),1,sIx n n hi-sIx n 0 lo) s):wpAny #[7] A (Builtin.Slice.sliceApplied (.ref sl) (pure (n:Int))) Q E s:=by
 obtain⟨os,hos,hcs,hds⟩:=id hs;unfold Builtin.Slice.sliceApplied Builtin.Slice.sliceFields;refine tQ (tQ (wpAny_field hos hds (x:=vl) rfl (tQ (wpAny_field hos hds (x:=vu) rfl (tQ (wpAny_field hos hds (x:=.none) rfl (tR ?_)))))));refine tQ (slicePart_none ?_);show wpAny _ _ (if ((1:Int)==0)=true then _ else _) _ _ s;rw[tT #[0]];refine tQ (DV pl (tQ (DV pu (tQ (tR ?_)))));show wpAny _ _ (match Builtin.Slice.sliceAdjust lo hi 1 (n:Int)with | (lo,hi)=>pure (lo,(1:Int),Builtin.Slice.slicePlaces lo hi 1)) _ _ s;rw[OT lo hi n];show wpAny _ _ (pure (((sIx n 0 lo:Nat):Int),(1:Int),Builtin.Slice.slicePlaces ((sIx n 0 lo:Nat):Int) ((sIx n n hi:Nat):Int) 1)) _ _ s;rw[NS];exact tR h
theorem YN(xs:Array Value)(i k:Nat):((List.range k).filterMap λ(m:Nat)=>xs[((i:Int)+(m:Int)*1).toNat]?).toArray=((xs.toList.drop i).take k).toArray:=by
 have e:(λ(m:Nat)=>xs[((i:Int)+(m:Int)*1).toNat]?)=λm=>xs[i+m]? :=by
  funext m
  have:((i:Int)+(m:Int)*1).toNat=i+m:=by omega
  rw[this]
 rw[e];have:=pick_run xs i k;rw[List.filterMap_map]at this;have e2:((λx=>xs[x]?) ∘ λx=>i+x)=λm=>xs[i+m]? :=rfl;rw[e2]at this;rw[this]
theorem getItem_tuple_cut{items:Array Value}{lo hi:Option Int}{Q:Value->Shared->Prop}(ht:IsTup s.heap t items)(hs:s.heap.IsSliceOf sl vl vu .none)(pl:IsPart vl lo)(pu:IsPart vu hi)
  (hw:¬(sIx items.size 0 lo=0/\sIx items.size items.size hi=items.size))
  (h:Q (.ref s.heap.objs.size) { s with heap:=s.heap.push { cls:=.type "tuple",data:=.seq ((items.toList.drop (sIx items.size 0 lo)).take (sIx items.size items.size hi-sIx items.size 0 lo)).toArray } })
  (hsz:items.size<=sizeLine):wpAny #[7] A (getItem (.ref t) (.ref sl)) Q E s:=by
 have htake:sizeOk (.seq ((items.toList.drop (sIx items.size 0 lo)).take (sIx items.size items.size hi-sIx items.size 0 lo)).toArray):=by
  show((items.toList.drop (sIx items.size 0 lo)).take (sIx items.size items.size hi-sIx items.size 0 lo)).toArray.size<=sizeLine;rw[mH,mP,List.length_drop,Array.length_toList];omega
 have hj:sIx items.size items.size hi<=items.size:=sIx_le _ _ uX hi;obtain⟨os,hos,hcs,hds⟩:=id hs;have hTs:s.TypeIs (.ref sl) "slice":=⟨os,hos,hcs⟩;unfold getItem;try with_reducible refine wpAny_holding ?_
 first | refine tQ (tR ?_) | skip
 refine tQ (wpAny_sequenceKey ht.typeIs #[0] ?_);refine tQ (wpAny_callSpecial?_slot (name:=Str.ofString "__getitem__") ht.typeIs PyProof.Rows.slot_tuple_getitem
  (wpAny_call_entry PyProof.Rows.slot_tuple_getitem ht.typeIs entry_tuple_getitem ?_ (args_tuple_getitem _ _)))
 show wpAny _ _ (Builtin.Tuple.tupleItemsOf (.ref t) >>= _) _ _ s;refine tQ (tupleItemsOf_ ht ?_);refine tQ (wpAny_typeOf hTs ?_);rw[tU #[0]];refine tQ (yQ hs pl pu ?_);have hno:¬((((sIx items.size 0 lo:Nat):Int)==0&&(1:Int)==1&&(sIx items.size items.size hi-sIx items.size 0 lo)==items.size)=true):=by
  intro q;rw[mU,mU]at q;have q1:((sIx items.size 0 lo:Nat):Int)=0:=eq_of_beq q.1.1;have q2:sIx items.size items.size hi-sIx items.size 0 lo=items.size:=eq_of_beq q.2;exact hw ⟨by omega,by omega⟩
 show wpAny _ _ (if (((sIx items.size 0 lo:Nat):Int)==0&&(1:Int)==1&&(sIx items.size items.size hi-sIx items.size 0 lo)==items.size)=true then _ else _) _ _ s;rw[tT hno,YN];first
  | exact tQ (m:=Builtin.Tuple.tupleExact _) (wpAny_newObj_type (tR ⟨_,rfl,tR h⟩) htake)
  | exact tQ (m:=Builtin.Tuple.tupleExact _) (wpAny_newObj_type (tQ (tR (tR ⟨_,rfl,tR h⟩))) htake)
  | exact tQ (tQ (m:=Builtin.Tuple.tupleExact _) (wpAny_newObj_type (tR (tR ⟨_,rfl,tR h⟩)) htake))
  | exact tQ (tQ (m:=Builtin.Tuple.tupleExact _) (wpAny_newObj_type (tR ⟨_,rfl,tR h⟩) htake))
end
end HT
namespace L2
open PySem PySem.Spec PyProof.Rows
abbrev TO:=St->Hp->(Option Int->Hp->Prop)->Prop
def PO(X:Cx)(e:Option Expr)(t:TO):Prop:=
 ∀(ac:List #[17]) (s:Shared) (σ:St) (H:Hp) (Q:Option Int->Hp->Prop),Inv X ac σ H s->t σ H Q->
  wpAny #[4] X.A (evalPart e X.env) (λu s'=>∃o H',Inv X ac σ H' s'/\IsPart u o/\Q o H') X.xe s
def tNoPart:TO:=λ_ H Q=>Q none H
def tPart(t:TE):TO:=fun σ H Q=>t σ H λx H1=>∃i,x=.int i/\Q (some i) H1
theorem kY{ns:List Int} :∀{us:List Value},Vals #[15] us->IntsAre us ns:=by
 induction ns with
 | nil=>intro us r;rw[List.map_nil]at r;cases r;exact .nil
 | cons n ns ih=>
  intro us r;rw[nO]at r;cases r with
  | cons r1 r2=>
   obtain⟨t,e⟩:=r1;subst e;exact .cons n t (ih r2)
section
variable{X:Cx}{e:Expr}{te:TE}{lo hi:Option Expr}{tl th:TO}{pos p2:Pos}
theorem zD:PO X none tNoPart:=by
 intro ac s σ H Q I h;rw[evalPart_none];exact tR ⟨none,H,I,.none,h⟩
theorem xB(h:PE X e te):PO X (some e) (tPart te):=by
 intro ac s σ H Q I hw;rw[evalPart_some];refine thn (h ac s σ H _ I hw) λu s1 ⟨x,H1,I1,r1,q1⟩=>?_;obtain⟨i,rfl,q⟩:=q1;obtain⟨t,rfl⟩:=r1;exact⟨some i,H1,I1,.int i t,q⟩
def SlR(X:Cx)(r:V->Option Int->Option Int->Hp->VK->Prop):Prop:=
 ∀(ac:List #[17]) (s:Shared) (σ:St) (H:Hp) (x:V) (v vl vu:Value) (lo hi:Option Int) (sl:Addr) (Q:VK),Inv X ac σ H s->RelV x v->s.heap.IsSliceOf sl vl vu .none->IsPart vl lo->IsPart vu hi->r x lo hi H Q->
  ∃T id,typeLookup (.type T) "__getitem__" = pure (some (.builtin id))/\s.TypeIs v T/\wpAny #[4] X.A (getItem v (.ref sl)) (EP X ac σ Q) X.xe s
def tSl(r:V->Option Int->Option Int->Hp->VK->Prop)(te:TE)(tl th:TO):TE:=fun σ H Q=>te σ H λx H1=>tl σ H1 λl H2=>th σ H2 λu H3=>r x l u H3 Q
theorem yA{r:V->Option Int->Option Int->Hp->VK->Prop}(hr:SlR X r)(he:PE X e te)(hl:PO X lo tl)(hu:PO X hi th):PE X (.Subscript e (.Slice lo hi none p2) pos) (tSl r te tl th):=by
 intro ac s σ H Q I h;refine Subscript_ (thn (he ac s σ H _ I h) λv s1 ⟨x,H1,I1,r1,q1⟩=>?_);refine wpAny_Slice (thn (hl ac s1 σ H1 _ I1 q1) λvl s2 ⟨l,H2,I2,pl,q2⟩=>thn (hu ac s2 σ H2 _ I2 q2) λvu s3 ⟨u,H3,I3,pu,q3⟩=>?_);rw[evalPart_none];refine tR ?_;have I4:Inv X ac σ H3 { s3 with heap:=s3.heap.push { cls:=.type "slice",data:=.fields #[vl,vu,.none] } } :=I3.kept (t':=s3.toks) λb ob q=>gJ _ q;obtain⟨T,id,hT,ht,hg⟩:=hr ac { s3 with heap:=s3.heap.push { cls:=.type "slice",data:=.fields #[vl,vu,.none] } } σ H3 x v vl vu l u s3.heap.objs.size Q I4 r1 (Heap.IsSliceOf.new ..) pl pu q3;show wpAny #[4] X.A (subscriptTail e (.Slice lo hi none p2) v (.ref s3.heap.objs.size)) (EP X ac σ Q) X.xe { s3 with heap:=s3.heap.push { cls:=.type "slice",data:=.fields #[vl,vu,.none] } };exact tail_any (ops:=[.ref s3.heap.objs.size,v]) ht hT hg (by with_unfolding_all rfl)
def xK(xs:List V)(lo hi:Option Int):List V:=(xs.drop (HT.sIx xs.length 0 lo)).take (HT.sIx xs.length xs.length hi-HT.sIx xs.length 0 lo)
theorem BW(xs:List V)(lo hi:Option Int):(xK xs lo hi).length<=xs.length:=by
 unfold xK;rw[mP,List.length_drop];omega
def rSlT(K:tV):V->Option Int->Option Int->Hp->VK->Prop:=λx lo hi H Q=>∃a xs,x=.ref a/\SqT K H a xs/\
 ¬(HT.sIx xs.length 0 lo=0/\HT.sIx xs.length xs.length hi=xs.length)/\∀p,H p=none->Q (.ref p) (upd H p (.tup (xK xs lo hi)))
theorem XS:SlR X (rSlT X.K):=by
 intro ac s σ H x v vl vu lo hi sl Q I rx hs pl pu h;obtain⟨a,xs,rfl,hx,hw,q⟩:=h;cases rx;obtain⟨its,r,ht,hz⟩:=I.tuple hx;have hlen:its.toArray.size=xs.length:=by rw[mH];exact r.length.symm
 refine⟨"tuple",_,PyProof.Rows.slot_tuple_getitem.lookup,ht.typeIs, ?_⟩;refine HT.getItem_tuple_cut ht hs pl pu (by rw[hlen];exact hw) ?_ (by rw[hlen];exact hz);rw[hlen];refine⟨.ref s.heap.objs.size,_,I.laid (t':=s.toks) (o:=.tup (xK xs lo hi)) (λb ob q=>gJ _ q) uX ?_,rfl,q _ (I.hok.fresh uX)⟩;exact⟨nW (BW xs lo hi) hz,_,(r.drop (HT.sIx xs.length 0 lo)).take (HT.sIx xs.length xs.length hi-HT.sIx xs.length 0 lo),IsTup.new _ _,.of (gY _ rfl) rfl⟩
theorem Vals.nil_iff(r:Vals xs us):us=[]↔xs=[]:=by
 cases r with
 | nil=>simp
 | cons _ _=>simp
end
def ixN(n:Nat)(i:Int):Option Nat:=if 0<=i then(if i<n then some i.toNat else none)else if -(n:Int)<=i then some (i+n).toNat else none
def atI{α:Type}(xs:List α)(i:Int):Option α:=(ixN xs.length i).bind λj=>xs[j]?
theorem SN{n:Nat}{i:Int}{j:Nat}(h:ixN n i=some j):seqIndex? i n=some j/\j<n/\-(n:Int)<=i/\i<n:=by
 unfold ixN at h;by_cases h0:0<=i
 ·rw[tU h0]at h;by_cases h1:i<n
  ·rw[tU h1]at h;have e:i.toNat=j:=Option.some.inj h;exact⟨by rw[seqIndex_of h0 h1,e],by omega,by omega,h1⟩
  ·rw[tT h1]at h;cases h
 ·rw[tT h0]at h;by_cases h1: -(n:Int)<=i
  ·rw[tU h1]at h;have e:(i+n).toNat=j:=Option.some.inj h;exact⟨by rw[seqIndex_neg #[1] h1,e],by omega,h1,by omega⟩
  ·rw[tT h1]at h;cases h
theorem KF{α:Type}{xs:List α}{i:Int}{v:α}(h:atI xs i=some v):∃j,seqIndex? i xs.length=some j/\xs[j]? = some v/\j<xs.length/\-(xs.length:Int)<=i/\i<xs.length:=by
 unfold atI at h;cases e:ixN xs.length i with
 | none=>rw[e]at h;cases h
 | some j=>
  rw[e]at h;obtain⟨h1,h2,h3,h4⟩:=SN e;exact⟨j,h1,h,h2,h3,h4⟩
theorem qO{α:Type}{xs:List α}{j:Nat}{v:α}(h:xs[j]? = some v):atI xs (j:Int)=some v:=by
 have hj:j<xs.length:=(gE.mp h).1;have e:ixN xs.length (j:Int)=some j:=by
  unfold ixN;rw[tU #[1],tU #[1]];simp
 unfold atI;rw[e];exact h
theorem atI_last{α:Type}(xs:List α)(v:α):atI (xs++[v]) (-1)=some v:=by
 have hl:(xs++[v]).length=xs.length+1:=by simp
 have e:ixN (xs++[v]).length (-1)=some xs.length:=by
  unfold ixN;rw[hl,tT #[0],tU #[1]]
  congr 1
  omega
 unfold atI;rw[e];show(xs++[v])[xs.length]? = some v;simp
def PlainIx(b:Expr):Prop:=∀o i,subscripted b false o i=operate [o,i] (getItem o i)
def IxR(X:Cx)(r:R2):Prop:=
 ∀(value slice:Expr) (ac:List #[17]) (s:Shared) (σ:St) (H:Hp) (x y:V) (v u:Value) (Q:VK),Inv X ac σ H s->RelV x v->RelV y u->r x y H Q->
  subscripted slice false v u=operate [v,u] (getItem v u)->wpAny #[4] X.A (subscriptTail value slice v u) (EP X ac σ Q) X.xe s
def MtR(X:Cx)(id:String)(r:V->List V->Hp->VK->Prop):Prop:=
 ∀(ac:List #[17]) (s:Shared) (σ:St) (H:Hp) (x:V) (xs:List V) (v:Value) (us:List Value) (Q:VK),Inv X ac σ H s->RelV x v->Vals xs us->r x xs H Q->
  wpAny #[4] X.A (call (.builtin id) (v::us)) (EP X ac σ Q) X.xe s
section
variable{X:Cx}{a b:Expr}{ta tb:TE}{pos:Pos}
theorem jU(hr:IxR X r)(ha:PE X a ta)(hb:PE X b tb)(hs:PlainIx b):PE X (.Subscript a b pos) (tOp r ta tb):=by
 intro ac s σ H Q I h;exact Subscript_ (binT ha hb I h λv u s2 x y H2 I2 rx ry q=>hr a b ac s2 σ H2 x y v u Q I2 rx ry q (hs _ _))
def LC(K:tV):R2:=λx y H Q=>∃p xs i v,x=.ref p/\y=.int i/\SqL K H p xs/\atI xs i=some v/\Q v H
def LB(K:tV):R2:=λx y H Q=>∃p xs i v,x=.ref p/\y=.int i/\SqT K H p xs/\atI xs i=some v/\Q v H
theorem kX:IxR X (LC X.K):=by
 intro value slice ac s σ H x y v u Q I rx ry h hs;obtain⟨p,xs,i,z,rfl,rfl,hq,he,q⟩:=h;cases rx;obtain⟨t,rfl⟩:=ry;obtain⟨its,r,pl,hz⟩:=I.list hq;obtain⟨j,h1,h2,h3,h4,h5⟩:=KF he;obtain⟨w,ew,rw'⟩:=r.get h2;have hl:=r.length;have hn:=BM;have fin:EP X ac σ Q w s:=⟨z,H,I,rw',q⟩;by_cases h0:0<=i
 ·have hj:i.toNat=j:=by
   rw[seqIndex_of h0 h5]at h1;exact Option.some.inj h1
  exact item_listR pl.isList h0 #[1] (by rw[hj];simpa using ew) fin hs
 ·have hj:(i+(its.toArray.size:Int)).toNat=j:=by
   rw[seqIndex_neg #[1] h4]at h1;rw[mH,<-hl];exact Option.some.inj h1
  exact subscriptTail_builtinR (x:=w) pl.isList.typeIs slot_list_getitem.lookup
   (wpAny_getItem_list_neg (Q:=λr s'=>r=w/\EP X ac σ Q r s') pl.isList #[1] (by rw[mH]<;>omega) #[1] (by rw[hj];simpa using ew) ⟨rfl,fin⟩) hs
theorem jX:IxR X (LB X.K):=by
 intro value slice ac s σ H x y v u Q I rx ry h hs;obtain⟨p,xs,i,z,rfl,rfl,hq,he,q⟩:=h;cases rx;obtain⟨t,rfl⟩:=ry;obtain⟨its,r,pl,hz⟩:=I.tuple hq;obtain⟨j,h1,h2,h3,h4,h5⟩:=KF he;obtain⟨w,ew,rw'⟩:=r.get h2;have hl:=r.length;have hn:=BM;have fin:EP X ac σ Q w s:=⟨z,H,I,rw',q⟩;exact subscriptTail_builtinR (x:=w) pl.typeIs slot_tuple_getitem.lookup
  (getItem_tuple (j:=j) (Q:=λr s'=>r=w/\EP X ac σ Q r s') pl #[1] #[1] (by rw[mH,<-hl];exact h1) (by simpa using ew) ⟨rfl,fin⟩) hs
theorem NY(its:List Value)(n j:Nat)(u:Value):Obj.mapSeq (·.setIfInBounds j u) { cls:=.type "list",data:=.seq its.toArray n } = { cls:=.type "list",data:=.seq (its.set j u).toArray n } :=by
 simp [Obj.mapSeq]
theorem Inv.lst{s:Shared}{xs:List V}(I:Inv X ac σ H s)(h:H p=some (.lst xs)) :
  ∃(its:List Value) (n:Nat),Vals xs its/\s.heap.get? p=some { cls:=.type "list",data:=.seq its.toArray n }/\xs.length<=sizeLine:=by
 obtain⟨z,its,n,r,e⟩:=I.hok p _ h;exact⟨its,n,r,e,z⟩
theorem Inv.lstUpd{s:Shared}{xs ys:List V}{its its':List Value}{n n':Nat}{f:Obj->Obj}(I:Inv X ac σ H s)(h:H p=some (.lst xs))
  (ho:s.heap.get? p=some { cls:=.type "list",data:=.seq its.toArray n }) (hf:f { cls:=.type "list",data:=.seq its.toArray n } = { cls:=.type "list",data:=.seq its'.toArray n' }) (r:Vals ys its') (hz:ys.length<=sizeLine) (t:Nat) :
  Inv X ac σ (upd H p (.lst ys)) { s with heap:=s.heap.update p f,toks:=t } :=by
 have e:(s.heap.update p f).get? p=some { cls:=.type "list",data:=.seq its'.toArray n' } :=by
  rw[Heap.get?_update_self f ho (by rw[hf]<;>rfl),hf]
 refine I.write (x:=p) (e:=p) (by rw[h];trivial) (.inl rfl) (λb u hb q=>(Heap.get?_update_other _ _ (Ne.symm hb)).trans q) ⟨_,e⟩ ?_;exact⟨hz,its',n',r,e⟩
def rSetL:V->V->V->Hp->(Hp->Prop)->Prop:=λo i v H Q=>∃p xs k j,o=.ref p/\i=.int k/\H p=some (.lst xs)/\ixN xs.length k=some j/\Q (upd H p (.lst (xs.set j v)))
theorem xV:PSet X rSetL:=by
 intro ac s σ H o i v ov iv u Q I ro ri rv h;obtain⟨p,xs,k,j,rfl,rfl,hp,hj,q⟩:=h;cases ro;obtain⟨t,rfl⟩:=ri;obtain⟨its,n,r,ho,hz⟩:=I.lst hp;obtain⟨h1,h2,h3,h4⟩:=SN hj;have hl:=r.length;have hn:=BM;have I':Inv X ac σ (upd H p (.lst (xs.set j v))) { s with heap:=s.heap.update p (Obj.mapSeq (·.setIfInBounds j u)) } :=
  I.lstUpd hp ho (NY its n j u) (r.set rv j) (by rw[List.length_set];exact hz) s.toks
 by_cases h0:0<=k
 ·have hk:k.toNat=j:=by
   rw[seqIndex_of h0 h4]at h1;exact Option.some.inj h1
  exact PySem.W.ki_setAt ho h0 #[1] (by rw[mH,<-hl];exact h4) (by rw[hk];exact⟨_,I',q⟩)
 ·have hk:(k+(its.toArray.size:Int)).toNat=j:=by
   rw[seqIndex_neg #[1] h3]at h1;rw[mH,<-hl];exact Option.some.inj h1
  exact PySem.W.ki_setBack ho #[1] (by rw[mH,<-hl];exact h3) #[1] (by rw[hk];exact⟨_,I',q⟩)
theorem IH(lo hi:Option Int)(n:Nat):(sliceBounds lo hi none n).1=((HT.sIx n 0 lo:Nat):Int)/\(sliceBounds lo hi none n).2.1=((HT.sIx n n hi:Nat):Int)/\(sliceBounds lo hi none n).2.2=1:=by
 refine⟨?_, ?_,rfl⟩
 ·cases lo with
  | none=>simp [sliceBounds,HT.sIx]
  | some i=>
   simp only[sliceBounds,HT.sIx,Option.getD_none,show(1:Int)>0 by decide,if_true];by_cases h:i<0
   ·simp only[h,if_true]<;>omega
   ·simp only[h,if_false]<;>omega
 ·cases hi with
  | none=>simp [sliceBounds,HT.sIx]
  | some i=>
   simp only[sliceBounds,HT.sIx,Option.getD_none,show(1:Int)>0 by decide,if_true];by_cases h:i<0
   ·simp only[h,if_true]<;>omega
   ·simp only[h,if_false]<;>omega
theorem FM(its:List Value)(lo hi:Option Int):slicePick its.toArray lo hi none=((its.drop (HT.sIx its.length 0 lo)).take (HT.sIx its.length its.length hi-HT.sIx its.length 0 lo)).toArray:=by
 obtain⟨h1,h2,h3⟩:=IH lo hi its.toArray.size;unfold slicePick;rw[h1,h2,h3];simp only[sliceRange_one,pick_run,mH]<;>rfl
def rSlL(K:tV):V->Option Int->Option Int->Hp->VK->Prop:=λx lo hi H Q=>∃a xs,x=.ref a/\SqL K H a xs/\∀p,H p=none->Q (.ref p) (upd H p (.lst (xK xs lo hi)))
theorem QG:SlR X (rSlL X.K):=by
 intro ac s σ H x v vl vu lo hi sl Q I rx hs pl pu h;obtain⟨a,xs,rfl,hx,q⟩:=h;cases rx;obtain⟨its,r,ht,hz⟩:=I.list hx;have hlen:=r.length;refine⟨"list",_,slot_list_getitem.lookup,ht.isList.typeIs, ?_⟩;refine wpAny_getItem_list_slice ht.isList hs pl pu .none #[14] ?_ (by rw[mH]<;>omega);rw[FM,<-hlen];refine⟨.ref s.heap.objs.size,_,I.laid (t':=s.toks) (o:=.lst (xK xs lo hi)) (λb ob q=>gJ _ q) uX ?_,rfl,q _ (I.hok.fresh uX)⟩;exact⟨nW (BW xs lo hi) hz,_,0,(r.drop (HT.sIx xs.length 0 lo)).take (HT.sIx xs.length xs.length hi-HT.sIx xs.length 0 lo),gY _ rfl⟩
def zO:V->Bool
 | .non=>true
 | .bl _=>true
 | .int _=>true
 | .str _=>true
 | _=>false
def eqV:V->V->Bool
 | .non,.non=>true
 | .bl a,.bl b=>a==b
 | .bl a,.int b=>(if a then 1 else 0)==b
 | .int a,.bl b=>a==(if b then 1 else 0)
 | .int a,.int b=>a==b
 | .str a,.str b=>a==b
 | _,_=>false
theorem OH(ry:RelV y u)(rx:RelV x v)(fy:zO y=true)(fx:zO x=true):SeqAt.EqAt A s u v (eqV y x):=by
 cases y with
 | non=>
  cases ry;cases x with
  | non=>cases rx;exact SeqAt.EqAt.same _
  | bl b=>cases rx;exact SeqAt.EqAt.none_bool b
  | int b=>obtain⟨t,rfl⟩:=rx;exact SeqAt.EqAt.none_int b t
  | str b=>obtain⟨t,rfl⟩:=rx;exact SeqAt.EqAt.none_str b t
  | _=>exact absurd (show false=true from fx) hV
 | bl a=>
  cases ry;cases x with
  | non=>cases rx;exact SeqAt.EqAt.bool_none a
  | bl b=>cases rx;exact SeqAt.EqAt.bool_bool a b
  | int b=>obtain⟨t,rfl⟩:=rx;exact SeqAt.EqAt.bool_int a b t
  | str b=>obtain⟨t,rfl⟩:=rx;exact SeqAt.EqAt.bool_str a b t
  | _=>exact absurd (show false=true from fx) hV
 | int a=>
  obtain⟨t',rfl⟩:=ry;cases x with
  | non=>cases rx;exact SeqAt.EqAt.int_none a t'
  | bl b=>cases rx;exact SeqAt.EqAt.int_bool a t' b
  | int b=>obtain⟨t,rfl⟩:=rx;exact SeqAt.EqAt.int_int a t' b t
  | str b=>obtain⟨t,rfl⟩:=rx;exact SeqAt.EqAt.int_str a t' b t
  | _=>exact absurd (show false=true from fx) hV
 | str a=>
  obtain⟨t',rfl⟩:=ry;cases x with
  | non=>cases rx;exact SeqAt.EqAt.str_none a t'
  | bl b=>cases rx;exact SeqAt.EqAt.str_bool a t' b
  | int b=>obtain⟨t,rfl⟩:=rx;exact SeqAt.EqAt.str_int a t' b t
  | str b=>obtain⟨t,rfl⟩:=rx;exact SeqAt.EqAt.str_str a t' b t
  | _=>exact absurd (show false=true from fx) hV
 | _=>exact absurd (show false=true from fy) hV
def eqU(x:V)(u:Value):Bool:=match u with
 | .none=>eqV .non x
 | .bool b=>eqV (.bl b) x
 | .int i _=>eqV (.int i) x
 | .str z _=>eqV (.str z) x
 | _=>false
theorem eqU_of(r:RelV y u)(f:zO y=true):eqU x u=eqV y x:=by
 cases y with
 | non=>cases r;rfl
 | bl b=>cases r;rfl
 | int i=>obtain⟨t,rfl⟩:=r;rfl
 | str z=>obtain⟨t,rfl⟩:=r;rfl
 | _=>exact absurd (show false=true from f) hV
theorem AW :∀{xs:List V} {us:List Value},Vals xs us->xs.all zO=true->us.any (eqU x)=xs.any λy=>eqV y x
 | _,_,.nil,_=>rfl
 | y::xs,u::us,.cons r t,f=>by
  rw[List.all_cons,mU]at f;rw[List.any_cons,List.any_cons,eqU_of r f.1,AW t f.2]
theorem wA(rx:RelV x v)(fx:zO x=true):∀{xs:List V} {us:List Value},Vals xs us->xs.all zO=true->∀u∈us,SeqAt.EqAt A s u v (eqU x u)
 | _,_,.nil,_=>λu hu=>by cases hu
 | y::xs,u::us,.cons r t,f=>λu' hu=>by
  rw[List.all_cons,mU]at f;rcases nP.mp hu with rfl | hu
  ·rw[eqU_of r f.1];exact OH r rx f.1 fx
  ·exact wA rx fx t f.2 u' hu
def inV(x:V)(xs:List V):Bool:=xs.any λy=>eqV y x
def rIn(K:tV)(neg:Bool):R2:=λx y H Q=>∃p xs,y=.ref p/\(SqL K H p xs∨SqT K H p xs)/\zO x=true/\xs.all zO=true/\Q (.bl (if neg then !inV x xs else inV x xs)) H
theorem UO:OpR X (compareOp .In) (rIn X.K false):=by
 intro ac s σ H x y v u Q I rx ry h;obtain⟨p,xs,rfl,hq,fx,fs,q⟩:=h;cases ry;rcases hq with hq | hq
 ·obtain⟨its,r,pl,hz⟩:=I.list hq;refine SeqAt.in_listAt (eqU x) pl.isList (λw hw=>wA rx fx r fs w (by simpa using hw)) ⟨.bl _,H,I,rfl, ?_⟩;rw[show its.toArray.any (eqU x)=its.any (eqU x) by simp,AW r fs];exact q
 ·obtain⟨its,r,pl,hz⟩:=I.tuple hq;refine SeqAt.in_tupleAt (eqU x) pl (λw hw=>wA rx fx r fs w (by simpa using hw)) ⟨.bl _,H,I,rfl, ?_⟩;rw[show its.toArray.any (eqU x)=its.any (eqU x) by simp,AW r fs];exact q
theorem IY:OpR X (compareOp .NotIn) (rIn X.K true):=by
 intro ac s σ H x y v u Q I rx ry h;obtain⟨p,xs,rfl,hq,fx,fs,q⟩:=h;cases ry;rcases hq with hq | hq
 ·obtain⟨its,r,pl,hz⟩:=I.list hq;refine SeqAt.notIn_listAt (eqU x) pl.isList (λw hw=>wA rx fx r fs w (by simpa using hw)) ⟨.bl _,H,I,rfl, ?_⟩;rw[show its.toArray.any (eqU x)=its.any (eqU x) by simp,AW r fs];exact q
 ·obtain⟨its,r,pl,hz⟩:=I.tuple hq;refine SeqAt.notIn_tupleAt (eqU x) pl (λw hw=>wA rx fx r fs w (by simpa using hw)) ⟨.bl _,H,I,rfl, ?_⟩;rw[show its.toArray.any (eqU x)=its.any (eqU x) by simp,AW r fs];exact q
theorem kR:CallR X (.builtin "len") (λxs H Q=>∃p ys,xs=[.ref p]/\(SqL X.K H p ys∨SqT X.K H p ys)/\Q (.int ys.length) H):=by
 intro ac s σ H xs us Q I r h;obtain⟨p,ys,rfl,hq,q⟩:=h;obtain⟨u,rfl,rx⟩:=qW r;cases rx;have hn:=BM;rcases hq with hq | hq
 ·obtain⟨its,r',pl,hz⟩:=I.list hq;have hlen:=r'.length;exact Calls.call_len_list pl.isList (by simp only[mH]<;>omega) ⟨.int ys.length,H,I.tok _,⟨s.toks+1,by rw[mH,hlen]⟩,q⟩
 ·obtain⟨its,r',pl,hz⟩:=I.tuple hq;have hlen:=r'.length;exact len_tuple pl (by simp only[mH]<;>omega) ⟨.int ys.length,H,I.tok _,⟨s.toks+1,by rw[mH,hlen]⟩,q⟩
theorem AT:CallR X (.builtin "len") (λxs H Q=>∃z,xs=[.str z]/\z.length<=sizeLine/\Q (.int z.length) H):=by
 intro ac s σ H xs us Q I r h;obtain⟨z,rfl,hz,q⟩:=h;obtain⟨u,rfl,t,rfl⟩:=qW r;have hn:=BM;exact len_str #[1] ⟨.int z.length,H,I.tok _,⟨_,rfl⟩,q⟩
theorem KB:CallR X (.type "list") (λxs H Q=>∃p ys,xs=[.ref p]/\(SqL X.K H p ys∨SqT X.K H p ys)/\∀l,H l=none->Q (.ref l) (upd H l (.lst ys))):=by
 intro ac s σ H xs us Q I r h;obtain⟨p,ys,rfl,hq,q⟩:=h;obtain⟨u,rfl,rx⟩:=qW r;cases rx;have fin:∀(its:List Value),Vals ys its->ys.length<=sizeLine->∀(h':Heap) (c':Nat),(∀b o',s.heap.get? b=some o'->h'.get? b=some o')->
   h'.get? s.heap.objs.size=some { cls:=.type "list",dict:=none,data:=.seq its.toArray c',slots:=#[] }->EP X ac σ Q (.ref s.heap.objs.size) { s with heap:=h' } :=λits r' hz h' c' kp e=>
  ⟨.ref s.heap.objs.size,_,I.laid (t':=s.toks) kp uX (show ObjOk X.prog X.w _ h' _ (.lst ys)from⟨hz,its,c',r',e⟩),rfl,q _ (I.hok.fresh uX)⟩
 rcases hq with hq | hq
 ·obtain⟨its,r',pl,hz⟩:=I.list hq;have hlen:=r'.length;obtain⟨o,ho,hc,n,hd⟩:=pl.isList;exact call_list_seq p (.inl rfl) ho hc hd (λh' c' kp e=>fin its r' hz h' c' kp e) (by simp only[mH]<;>omega)
 ·obtain⟨its,r',pl,hz⟩:=I.tuple hq;have hlen:=r'.length;obtain⟨o,ho,hc,n,hd⟩:=pl;exact call_list_seq p (.inr rfl) ho hc hd (λh' c' kp e=>fin its r' hz h' c' kp e) (by simp only[mH]<;>omega)
theorem qC:CallR X (.type "tuple") (λxs H Q=>∃p ys,xs=[.ref p]/\((SqL X.K H p ys/\∀l,H l=none->Q (.ref l) (upd H l (.tup ys)))∨(SqT X.K H p ys/\Q (.ref p) H))):=by
 intro ac s σ H xs us Q I r h;obtain⟨p,ys,rfl,h⟩:=h;obtain⟨u,rfl,rx⟩:=qW r;cases rx;rcases h with⟨hq,q⟩ | ⟨hq,q⟩
 ·obtain⟨its,r',pl,hz⟩:=I.list hq;have hlen:=r'.length;refine call_tuple_list pl.isList (λh' kp=>?_) (by simp only[mH]<;>omega);have I1:Inv X ac σ H { s with heap:=h' } :=I.kept (t':=s.toks) kp;have I2:Inv X ac σ (upd H h'.objs.size (.tup ys)) { s with heap:=h'.push { cls:=.type "tuple",data:=.seq its.toArray } } :=
   I1.laid (t':=s.toks) (λb o e=>gJ _ e) uX (show ObjOk X.prog X.w _ _ _ (.tup ys)from⟨hz,its,r',IsTup.new _ _,.of (gY _ rfl) rfl⟩)
  exact⟨.ref h'.objs.size,_,I2,rfl,q _ (I1.hok.fresh uX)⟩
 ·obtain⟨its,r',pl,hz⟩:=I.tuple hq;exact call_tuple_same pl ⟨.ref p,H,I,rfl,q⟩
def tyV(K:tV)(T:String)(x:V)(H:Hp):Prop:=match x with
 | .str _=>T="str"
 | .int _=>T="int"
 | .ref p=>(T="list"/\∃xs,SqL K H p xs)∨(T="tuple"/\∃o,K.lookup p=some o/\o.cls=.type "tuple"/\o.dict=none)∨
   (T="dict"/\((∃ah,H p=some (.dK ah))∨∃ah,H p=some (.dT ah)))∨(T="set"/\∃S n,H p=some (.set S n))∨(T="tuple"/\∃xs,H p=some (.tup xs))
 | _=>False
theorem WL{s:Shared}(I:Inv X ac σ H s)(r:RelV x v)(ty:tyV X.K T x H) :
  s.TypeIs v T/\∀a,v=.ref a->∃ob,s.heap.get? a=some ob/\ob.dict=none:=by
 cases x with
 | str z=>
  obtain⟨t,rfl⟩:=r;cases (show T="str" from ty);exact⟨typeIs_str s z t,λ_ e=>nomatch e⟩
 | int i=>
  obtain⟨t,rfl⟩:=r;cases (show T="int" from ty);exact⟨typeIs_int s i t,λ_ e=>nomatch e⟩
 | ref p=>
  cases r;rcases ty with⟨rfl,xs,hq⟩ | ⟨rfl,o,hk,hc,hd⟩ | ⟨rfl,hk⟩ | ⟨rfl,S,n,hk⟩ | ⟨rfl,xs,hk⟩
  rotate_left 4
  ·obtain⟨_,its,_,⟨o,h1,h2,_⟩,nd⟩:=(show ObjOk X.prog X.w H s.heap p (.tup xs)from I.hok p _ hk);exact⟨⟨o,h1,h2⟩,λa e=>by cases e;exact⟨o,h1,nd _ h1⟩⟩
  ·obtain⟨its,_,pl,_⟩:=I.list hq;refine⟨pl.isList.typeIs,λa e=>?_⟩;cases e;obtain⟨o,n,e,c,hd,_⟩:=pl;exact⟨o,e,hd⟩
  ·refine⟨⟨o,I.kIn p o hk,hc⟩,λa e=>?_⟩;cases e;exact⟨o,I.kIn _ o hk,hd⟩
  ·have z:∃o,s.heap.get? p=some o/\o.ExactDict:=by
    rcases hk with⟨ah,hk⟩ | ⟨ah,hk⟩
    ·obtain⟨_,_,_,_,o,_,_,e,ex,_⟩:=I.hok p _ hk;exact⟨o,e,ex⟩
    ·obtain⟨_,_,_,_,o,_,_,e,ex,_⟩:=I.hok p _ hk;exact⟨o,e,ex⟩
   obtain⟨o,e,ex⟩:=z;refine⟨⟨o,e,ex.1⟩,λa e2=>?_⟩;cases e2;exact⟨o,e,ex.2.1⟩
  ·obtain⟨o,_,_,_,e,ex,_⟩:=I.hok p _ hk;refine⟨⟨o,e,ex.1⟩,λa e2=>?_⟩;cases e2;exact⟨o,e,ex.2.1⟩
 | _=>exact False.elim ty
def tBM0(K:tV)(T:String)(r:V->List V->Hp->VK->Prop)(to:TE):TE:=fun σ H Q=>to σ H λx H1=>tyV K T x H1/\r x [] H1 Q
def tBM(K:tV)(T:String)(r:V->List V->Hp->VK->Prop)(to:TE)(t:TA):TE:=fun σ H Q=>to σ H λx H1=>tyV K T x H1/\t σ H1 λxs H2=>r x xs H2 Q
variable{o e:Expr}{es:List Expr}{to:TE}{t:TA}{name:Str}{apos cpos:Pos}{T id:String}{r:V->List V->Hp->VK->Prop}
theorem YU(pa:PlainAttrs T)(slot:Slot T name id)(hty:typeOf (.builtin id)=pure (.type "method_descriptor"))(hm:MtR X id r)(ho:PE X o to)
  (hbase:attributeBase o name X.env (eval o X.env)=eval o X.env:=by rfl) (hline:(apos.endLine==cpos.line)=true:=by rfl):PE X (.Call (.Attribute o name apos) [] [] cpos) (tBM0 X.K T r to):=by
 intro ac s σ H Q I h;refine wpAny_Call_method0_late hbase hline (thn (ho ac s σ H _ I h) λv s1 ⟨x,H1,I1,r1,ty,q1⟩=>?_);obtain⟨h1,h2⟩:=WL I1 r1 ty;exact⟨T,id,pa,slot,hty,h1,h2,Calls.callWith_builtin rfl (PySem.evalArgs_none (hm ac s1 σ H1 x [] v [] Q I1 r1 .nil q1))⟩
theorem yK(pa:PlainAttrs T)(slot:Slot T name id)(hty:typeOf (.builtin id)=pure (.type "method_descriptor"))(hm:MtR X id r)(ho:PE X o to)(ha:PA X (e::es) t)
  (hbase:attributeBase o name X.env (eval o X.env)=eval o X.env:=by rfl)
  (hfew:((backTo cpos (starEach (e::es) X.env)).all (λx=>!x.1)&&(backToKw cpos (keywordEach [] X.env)).all (λx=>x.1.isSome)
   &&decide ((e::es).length+([]:List Keyword).length+(if ([]:List Keyword).isEmpty then 0 else 1)<30))=true:=by rfl)
  (hline:(apos.endLine==cpos.line)=true:=by rfl) (hs:starEach (e::es) X.env=(false,eval e X.env)::starEach es X.env:=by rfl) (hplain:(backTo cpos (starEach es X.env)).any (·.1)=false:=by rfl) :
  PE X (.Call (.Attribute o name apos) (e::es) [] cpos) (tBM X.K T r to t):=by
 intro ac s σ H Q I h;refine wpAny_Call_method_late hbase hfew hline rfl (thn (ho ac s σ H _ I h) λv s1 ⟨x,H1,I1,r1,ty,q1⟩=>?_);obtain⟨h1,h2⟩:=WL I1 r1 ty;refine⟨T,id,pa,slot,hty,h1,h2, ?_⟩;have hA:=ha cpos ac s1 σ H1 _ I1 q1;rw[hs]at hA ⊢;refine Calls.callWith_builtin (by show(false||(backTo cpos (starEach es X.env)).any (·.1))=false;rw[hplain]<;>rfl) (Calls.evalArgs_plain ?_);exact thn hA λus s2 ⟨vs,H2,I2,r2,q2⟩=>hm ac s2 σ H2 x vs v us Q I2 r1 r2 q2
end
def MtM(X:Cx)(id:String)(r:V->List V->Hp->VK->Prop):Prop:=
 ∀(ac:List #[17]) (s:Shared) (σ:St) (H:Hp) (x:V) (xs:List V) (v:Value) (us:List Value) (Q:VK),Inv X ac σ H s->RelV x v->Vals xs us->r x xs H Q->
  wpAny #[4] X.A (call (.builtin id) (v::us)) (EP X ac σ Q) X.xe s
theorem Vals.one:∀{x:V} {us:List Value},Vals [x] us->∃u,us=[u]/\RelV x u
 | _,_,.cons r .nil=>⟨_,rfl,r⟩
theorem Vals.rep(h:Vals xs us):∀k:Nat,Vals (List.replicate k xs).flatten (List.replicate k us).flatten
 | 0=>.nil
 | k+1=>by
  rw[List.replicate_succ,List.replicate_succ,List.flatten_cons,List.flatten_cons];exact Vals.append h (Vals.rep h k)
theorem HL(its:List Value):∀(k:Nat) (acc:List Value),
  List.foldl (λx1 x2=>x1++x2) acc.toArray (List.replicate k its.toArray)=(acc++(List.replicate k its).flatten).toArray
 | 0,acc=>by simp
 | k+1,acc=>by
  have e:acc.toArray++its.toArray=(acc++its).toArray:=by simp
  have e2:(acc++its)++(List.replicate k its).flatten=acc++(List.replicate (k+1) its).flatten:=by
   rw[List.replicate_succ,List.flatten_cons,mJ]
  rw[<-e2,<-HL its k (acc++its),<-e,List.replicate_succ,List.foldl_cons]
section
variable{X:Cx}{ac:List #[17]}{σ:St}{H:Hp}{s:Shared}{l b:Addr}{xs ys zs:List V}
theorem Inv.lset{its its':List Value}{n:Nat}{f:Array Value->Array Value}{t':Nat}(I:Inv X ac σ H s)(hH:H l=some (.lst xs))
  (e:s.heap.get? l=some { cls:=.type "list",data:=.seq its.toArray n }) (hf:f its.toArray=its'.toArray) (hv:Vals ys its') (hz:ys.length<=sizeLine) :
  Inv X ac σ (upd H l (.lst ys)) { s with heap:=s.heap.update l (Obj.mapSeq f),toks:=t' } :=by
 have q:=PySem.IsL.update e f;rw[hf]at q;refine I.write (x:=l) (e:=l) (by rw[hH];exact trivial) (.inl rfl) (λb' u hb hu=>(Heap.get?_update_other s.heap (Obj.mapSeq f) (Ne.symm hb)).trans hu) ⟨_,q⟩ ?_;exact⟨hz,its',_,hv,q⟩
theorem Inv.lnew{its:List Value}{t':Nat}(I:Inv X ac σ H s)(hv:Vals ys its)(hz:ys.length<=sizeLine) :
  Inv X ac σ (upd H s.heap.objs.size (.lst ys)) { s with heap:=s.heap.push { cls:=.type "list",data:=.seq its.toArray },toks:=t' } :=
 I.laid (λ_ _ q=>gJ _ q) uX ⟨hz,its,0,hv,gY _ rfl⟩
theorem Inv.fresh(I:Inv X ac σ H s):H s.heap.objs.size=none:=I.hok.fresh uX 
theorem Inv.lstM(I:Inv X ac σ H s)(hH:H l=some (.lst xs)):xs.length<=sizeLine/\∃(its:List Value) (n:Nat),Vals xs its/\xs.length=its.length/\s.heap.get? l=some { cls:=.type "list",data:=.seq its.toArray n } :=by
 obtain⟨z,its,n,r,e⟩:=I.hok l _ hH;exact⟨z,its,n,r,r.length,e⟩
theorem LQ{n:Nat}(h:n<=sizeLine):Builtin.List.listTooLong n=false:=by
 unfold Builtin.List.listTooLong;exact nC #[1]
end
section
variable{X:Cx}
def rAppend:V->List V->Hp->VK->Prop:=λx vs H Q=>∃l xs y,x=.ref l/\vs=[y]/\H l=some (.lst xs)/\xs.length<sizeLine/\Q .non (upd H l (.lst (xs++[y])))
theorem vA:MtM X "list.append" rAppend:=by
 intro ac s σ H x vs v us Q I rx rv h;obtain⟨l,xs,y,rfl,rfl,hH,hz,q⟩:=h;cases rx;obtain⟨u,rfl,ru⟩:=rv.one;obtain⟨z,its,n,r,hl,e⟩:=I.lstM hH;refine call_meets F.slot_list_append ⟨_,e,rfl⟩ F.entry_list_append (F.args_list_append_2 _ _) (PySem.list_append l its.toArray n u (by rw[mH];omega)) ⟨e, ?_⟩;refine⟨.non,_,I.lset (its':=its++[u]) hH e #[14] (r.append (.cons ru .nil)) ?_,rfl,q⟩;rw[hJ,List.length_singleton];omega
def rExtend:V->List V->Hp->VK->Prop:=λx vs H Q=>∃l b xs zs,x=.ref l/\vs=[.ref b]/\H l=some (.lst xs)/\H b=some (.lst zs)/\xs.length+zs.length<=sizeLine/\Q .non (upd H l (.lst (xs++zs)))
theorem mt_extend:MtM X "list.extend" rExtend:=by
 intro ac s σ H x vs v us Q I rx rv h;obtain⟨l,b,xs,zs,rfl,rfl,hH,hB,hz,q⟩:=h;cases rx;obtain⟨u,rfl,ru⟩:=rv.one;cases ru;obtain⟨z,its,n,r,hl,e⟩:=I.lstM hH;obtain⟨z2,its2,n2,r2,hl2,e2⟩:=I.lstM hB;have hsz:its.toArray.size+its2.toArray.size<=sizeLine:=by rw[mH,mH];omega
 have hlong:¬(!its.toArray.isEmpty&&Builtin.List.listTooLong (its.toArray.size+its2.toArray.size))=true:=by
  rw[LQ hsz,Bool.and_false];exact hV
 refine call_meets F.slot_list_extend ⟨_,e,rfl⟩ F.entry_list_extend (F.args_list_extend_2 _ _)
  (AutoSeq1.list_extend_list_list_0 l its.toArray n b its2.toArray n2 hlong (by rw[mH];omega) #[1]) ⟨e,e2, ?_⟩
 refine⟨.non,_,I.lset (its':=its++its2) hH e #[14] (r.append r2) ?_,rfl,q⟩;rw[hJ];omega
def rRep:R2:=λx y H Q=>∃l k xs,x=.ref l/\y=.int k/\H l=some (.lst xs)/\-(2^63)<=k/\k<2^63/\xs.length*k.toNat<=sizeLine/\
 ∀p,H p=none->Q (.ref p) (upd H p (.lst (List.replicate k.toNat xs).flatten))
theorem len_rep{α:Type}(xs:List α)(k:Nat):(List.replicate k xs).flatten.length=k*xs.length:=by
 induction k with
 | zero=>simp
 | succ k ih=>rw[List.replicate_succ,List.flatten_cons,hJ,ih,Nat.succ_mul,Nat.add_comm]
theorem ZD:OpR X (binaryOp .Mult) rRep:=by
 intro ac s σ H x y v u Q I rx ry h;obtain⟨l,k,xs,rfl,rfl,hH,h1,h2,hz,q⟩:=h;cases rx;obtain⟨t,rfl⟩:=ry;obtain⟨z,its,n,r,hl,e⟩:=I.lstM hH;have hlen:its.toArray.size*k.toNat<=sizeLine:=by rw[mH,<-hl];exact hz
 have hcap:¬its.toArray.size*k.toNat>(2^63-1)/8:=by
  have:(sizeLine:Nat)<=(2^63-1)/8:=by decide
  omega
 have hfit:¬(!Builtin.List.listFitsIndex k)=true:=by
  rw[fitsIndex_both h1 h2];exact hV
 have hlong:¬Builtin.List.listTooLong (its.toArray.size*k.toNat)=true:=by
  rw[LQ hlen];exact hV
 have hnew:List.foldl (λx1 x2=>x1++x2) #[] (List.replicate (if its.toArray.isEmpty=true then 0 else k.toNat) its.toArray)=(List.replicate k.toNat its).flatten.toArray:=by
  have f0:∀m:Nat,List.foldl (λx1 x2=>x1++x2) #[] (List.replicate m its.toArray)=(List.replicate m its).flatten.toArray:=λm=>by
   have:=HL its m [];rw[List.nil_append]at this;exact this
  rw[f0];cases its with
  | nil=>simp
  | cons a r'=>rw[tT #[14]]
 refine wpAny_binaryOp_repeat_ref (T:="list") (U:="int") #[0] ⟨_,e,rfl⟩ (λs'=>typeIs_int s' k t) noFill_list_mul F.fills_int_mul F.slot_int_rmul repeat_list F.slot_int_index.lookup
  (call_meets F.slot_int_rmul (typeIs_int s k t) F.entry_int_rmul (F.args_int_rmul_2 _ _) (int___rmul___int_list k t l its.toArray n)
   ⟨e,rfl,⟨_,e,rfl⟩,call_meets F.slot_list_mul ⟨_,e,rfl⟩ F.entry_list_mul (F.args_list_mul_2 _ _) (AutoListH.list___mul___list_int_3 l its.toArray n k t hfit hcap hlong) ⟨e, ?_⟩⟩)
 rw[hnew];exact⟨.ref _,_,I.lnew (t':=s.toks) (r.rep k.toNat) (by rw[len_rep,Nat.mul_comm];exact hz),rfl,q _ I.fresh⟩
end
section
variable{prog:Program}{w:World}{A:Around}{E:Value->Shared->Prop}{s:Shared}
set_option maxRecDepth 100000 in
end
section
variable{X:Cx}
end
end L2
namespace Att
open PySem PySem.W PySem.Calls PyProof.Rows
theorem BZ :∀(ns:List Int) (vs:List Value),WellAll P h vs (ns.map WData.int)->IntsAre vs ns:=by
 intro ns;induction ns with
 | nil=>
  intro vs w;rw[List.map_nil]at w;cases w;exact .nil
 | cons n ns ih=>
  intro vs w;rw[nO]at w;cases w with
  | cons a b=>
   cases a;exact .cons _ _ (ih _ b)
theorem UF{l:OpenLaw}{n:Nat}(hn:l.most=some n){h:Heap}
  (hpre:l.row.toRowW.claim.pre args=true) (hwl:WellAll P h vals args) :
  ∃a vs ns,vals=[Value.ref a]/\args=[WData.list (ns.map WData.int)]/\h.get? a=some { cls:=.type "list",data:=.seq vs.toArray }/\IntsAre vs ns/\ns.length<=n:=by
 have hsh:WShape.hasAll [] args [.list .int]=true:=(pre_splitW hpre).1;have hc:l.pre.holds [] { args:=args } = true:=(pre_splitW hpre).2;obtain⟨d,r,rfl,h1,h2⟩:=hasAllW_cons hsh;obtain rfl:=hasAllW_nil h2;obtain⟨xs,rfl,h3⟩:=hasW_list h1;obtain⟨ns,rfl⟩:=items_int h3;have hlen:ns.length<=n:=by
  unfold OpenLaw.pre at hc;have h4:(WTm.not (.lt (.lit (.int (n:Int))) (.len (.arg 0)))).holds [] { args:=[.list (ns.map .int)] } = true:=by
   have h4:=(holds_andW hc).1;rw[hn]at h4;exact h4
  have h5:=condW_of h4 (w_not (w_lt w_lit (w_len_list (w_arg rfl))));rw[mY]at h5;refine Nat.le_of_not_lt λq=>?_;have q':(n:Int)<((ns.length:Nat):Int):=by omega
  first
   | (rw[nG q']at h5;exact absurd h5 #[0])
   | (simp at h5;omega)
 cases hwl with
 | cons w1 w2=>
  cases w2;cases w1 with
  | list ho hall=>exact⟨_,_,ns,rfl,rfl,ho,BZ ns _ hall,hlen⟩
theorem UL(l:OpenLaw)(args:List WData):l.row.toRowW.claim.post args (.bool true) args=true:=
 postW_of (r:=l.row.toRowW) (X:=(true==true))
  (show WShape.has [] (.bool true) .bool=true by first | rfl | decide | simp [WShape.has,WShape.arms,WShape.armsAll])
  (show(WTm.eq .res (.lit (.bool true))).value [] { args:=args,res:=some (.bool true),after:=args } = some (.bool (true==true))from w_eq_bool (w_res rfl) w_lit) rfl
theorem attach_call{l:OpenLaw}{n:Nat}{XP:(Str->Option Value)->Heap->Prop}{YP:World->Heap->Prop}{d:DefRec}
  (hn:l.most=some n) (hdf:d.params.defaults=[])
  (call:∀(w:World) (s₀ s₁:Shared) (mg mb:Str->Option Value) (fa:Addr) (o:Obj) (pm cd doc:Value) (a:Addr) (vs:List Value) (ns:List Int),
   Ground q loose [] XP w s₀ mg mb s₁.heap->YP w s₁.heap->
   s₁.heap.get? fa=some o->o.data=.func (docDef d.name d.params d.body d.scope pm cd doc)->s₁.heap.CodeRec cd d.name->mg d.name=some (.ref fa)->
   s₁.heap.get? a=some { cls:=.type "list",data:=.seq vs.toArray }->IntsAre vs ns->ns.length<=n->s₁.gens = #[]->
   codeAny (model l.prog w) callerA (.call (.ref fa) ⟨[.ref a],[]⟩) (λr s'=>r=.ok (.ret (.bool true))/\OldK s₁.heap s'.heap/\s'.os=s₁.os/\AllBare s'.gens) s₁) :
  WalkO q loose XP YP l.row.toRowW d [] (λf vs=>PySem.call f vs):=by
 intro w s₀ s₁ mg mb G Y fa o pm cd doc dV kV ho hd hcd hD hmg hg args vals as hpre hlay hrd hwl hlo;obtain rfl:dV=.none:=Dflts.none hD hdf;obtain rfl:kV=.none:=Dflts.noKw hD;obtain⟨a,vs,ns,rfl,rfl,hobj,hints,hlen⟩:=UF hn hpre hwl;refine enter_call (codeAny_mono (call w s₀ s₁ mg mb fa o pm cd doc a vs ns G Y ho (fd_plain hd) hcd hmg hobj hints hlen hg) λr s' hq=>?_);obtain⟨rfl,h2,h3,h4⟩:=hq;exact⟨.inl ⟨.bool true,.bool true,[],rfl,λ_=>rfl,.bool true,UL l _,λ_=>⟨List.Pairwise.nil,λ_ hm=>(nomatch hm)⟩⟩,h2,h3,h4⟩
section
variable{prog:Program}{w:World}{A:Around}{E:Value->Shared->Prop}{s:Shared}{K:Frag}
end
end Att
namespace L2
open PySem PySem.Spec PyProof.Rows
theorem FS:∀{vs:List Value} {ns:List Int},IntsAre vs ns->Vals #[15] vs
 | _,_,.nil=>.nil
 | _,_,.cons n t h=>.cons ⟨t,rfl⟩ (FS h)
def Only(H:Hp):Prop:=∀b,H b=none∨∃o xs,H b=some (.frz o (.lst xs))
theorem law_call{K:tV}{mg mb:Str->Option Value}{k:Nat}{s₁:Shared}{vs:List Value}{ns:List Int}
  (KX:K.In s₁.heap) (hns:s₁.heap.Ns mainGlobals mg) (hb:s₁.heap.Ns builtinsNs mb) (hbb:∀x:Str,x≠"__name__"->mb x=bootBuiltins x) (hlim:s₁.heap.NoLimit) (hg:s₁.gens = #[])
  (ha:s₁.heap.get? a=some { cls:=.type "list",data:=.seq vs.toArray }) (hi:IntsAre vs ns) (hl:ns.length<=sizeLine) (hr:Room k callerA)
  (F:∀base:Heap,K.In base->base.Ns mainGlobals mg->FnOk P w K mg base CX k fa fd [x] sp) (hbind:∀(s:Shared) (u:Value),BindsTo s fd ⟨[u],[]⟩ [(x,u)])
  (hsp:∀H:Hp,Only H->SqL K H a #[15]->sp [.ref a] H (λv _=>v=.bl true) λ_ _ _=>False)
  (hCX:∀H e s',CX [] H s₁ (λ_ _ _=>False) e s'->False) :
  codeAny (model P w) callerA (.call (.ref fa) ⟨[.ref a],[]⟩) (λr s'=>r=.ok (.ret (.bool true))/\OldK s₁.heap s'.heap/\s'.os=s₁.os/\AllBare s'.gens) s₁:=by
 have rv:=FS hi;have lenV:=hi.length;have core:∀H:Hp,Only H->SqL K H a #[15]->HOk P w H s₁.heap->(∀b,H b≠none->b=a)->(H a≠none->K.lookup a=none)->
   codeAny (model P w) callerA (.call (.ref fa) ⟨[.ref a],[]⟩) (λr s'=>r=.ok (.ret (.bool true))/\OldK s₁.heap s'.heap/\s'.os=s₁.os/\AllBare s'.gens) s₁:=by
  intro H hO hS hok hA hK;have base_of:∀{b:Addr} {o:Obj},s₁.heap.get? b=some o->H b=none->(JQ s₁.heap H).get? b=some o:=λe n=>hidT_get e n;have noA:∀{b:Addr} {o:Obj} {es:Array DictEntry} {ep:Nat},s₁.heap.get? b=some o->o.data=.dict es ep->H b=none:=fun {b o es ep} e d=>by
   cases q:H b with
   | none=>rfl
   | some u=>
    have e':b=a:=hA b (by rw[q];simp);subst e';rw[ha]at e;cases e;have d':Data.seq vs.toArray _=Data.dict es ep:=d;cases d'
  have nsK:∀{b:Addr} {m:Str->Option Value},s₁.heap.Ns b m->(JQ s₁.heap H).Ns b m:=fun {b m} ⟨o,es,ep,e,d,r⟩=>⟨o,es,ep,base_of e (noA e d),d,r⟩;have hKb:K.In (JQ s₁.heap H):=λb o e=>base_of (KX b o e) (by
   cases q:H b with
   | none=>rfl
   | some u=>
    have e':b=a:=hA b (by rw[q];simp);subst e';rw[hK (by rw[q];simp)]at e;cases e)
  have hM:Mod K mg (JQ s₁.heap H):=⟨hKb,nsK hns,⟨mb,nsK hb,hbb⟩,let ⟨mc,h1,h2⟩:=hlim;⟨mc,nsK h1,h2⟩⟩;have e0:Env0 P w K mg (JQ s₁.heap H) callerA [] s₁ H:=⟨rfl,hM,λb o e=>of_hidT e,Nat.le_of_eq (VI _ _),trivial,λb hb=>absurd (show b∈([]:List Addr)from hb) #[14],hok,.of_eq hg⟩;refine codeAny_mono ((F _ hKb (nsK hns)).run callerA [] s₁ H ⟨[.ref a],[]⟩ [.ref a] [.ref a] _ _ hr e0 (hbind s₁ (.ref a)) (.cons rfl .nil) (hsp H hO hS)) λr s' h=>?_;cases r with
  | error e=>exact(hCX H e s' h).elim
  | ok fl=>
   cases fl with
   | next=>exact False.elim h
   | brk=>exact False.elim h
   | cont=>exact False.elim h
   | ret u=>
    obtain⟨v,H',os,bare,un,hok',r',q⟩:=h;have q':v=.bl true:=q;subst q';obtain rfl:u=Value.bool true:=r';refine⟨rfl,OldK.of_keep λb o e=>?_,os,bare⟩;cases q:H b with
    | none=>exact un.keep b o e q (by intro z;exact absurd (show b∈([]:List Addr)from z) #[14]) #[14]
    | some u=>
     rcases hO b with z | ⟨ob,xs,z⟩
     ·rw[q]at z;cases z
     ·have z2:=un.frzs b ob _ z;obtain⟨e1,_⟩:=hok b _ z;obtain⟨e2,_⟩:=hok' b _ z2;rw[e]at e1;cases e1;exact e2
 cases hk:K.lookup a with
 | some o=>
  have e:=KX a o hk;rw[ha]at e;cases e;refine core (λ_=>none) (λ_=>.inl rfl) (.inr ⟨_,vs.toArray,_,hk,rfl,rfl,rfl,by rw[mH,lenV];exact hl,by simpa using rv⟩) (λb u z=>by have z':(none:Option HO)=some u:=z;cases z') (λb z=>absurd rfl z) λz=>absurd rfl z
 | none=>
  refine core (λb=>if b=a then some (.frz { cls:=.type "list",data:=.seq vs.toArray } (.lst #[15]))else none) (λb=>?_) (.inl (.inr ⟨{ cls:=.type "list",data:=.seq vs.toArray },tU rfl⟩)) (λb u z=>?_) (λb z=>?_) λ_=>hk
  ·by_cases hb:b=a
   ·exact .inr ⟨_,_,tU hb⟩
   ·exact .inl (tT hb)
  ·by_cases hb:b=a
   ·have z':=(tU hb).symm.trans z;cases z';subst hb;exact⟨ha,by rw[mY];exact hl,vs,_,rv,ha⟩
   ·have z':=(tT hb).symm.trans z;cases z'
  ·by_cases hb:b=a
   ·exact hb
   ·exact absurd (tT hb) z
theorem walk_of{l:PySem.W.OpenLaw}{n k:Nat}{XP:(Str->Option Value)->Heap->Prop}{YP:World->Heap->Prop}{d:DefRec}{K:Params->tV}{CX:World->CXT}{sp:World->Sp}
  (hn:l.most=some n) (hn2:n<=sizeLine) (hdf:d.params.defaults=[]) (hr:Room k callerA)
  (hY:∀(w:World) (h:Heap),YP w h->(K w.params).In h)
  (F:∀(w:World) (mg:Str->Option Value) (fa:Addr) (h:Heap),(K w.params).In h->h.Ns mainGlobals mg->mg d.name=some (.ref fa)->
   ∃fd:FuncData,(∀(s:Shared) (u:Value),BindsTo s fd ⟨[u],[]⟩ [(x,u)])/\
    ∀base:Heap,(K w.params).In base->base.Ns mainGlobals mg->FnOk l.prog w (K w.params) mg base (CX w) k fa fd [x] (sp w))
  (hsp:∀(w:World) (H:Hp) (a:Addr) (ns:List Int),ns.length<=n->Only H->SqL (K w.params) H a #[15]->sp w [.ref a] H (λv _=>v=.bl true) λ_ _ _=>False)
  (hCX:∀(w:World) (H:Hp) (s:Shared) (e:Value) (s':Shared),CX w [] H s (λ_ _ _=>False) e s'->False) :
  PySem.W.WalkO q loose XP YP l.row.toRowW d [] (λf vs=>PySem.call f vs):=by
 refine Att.attach_call hn hdf λw s₀ s₁ mg mb fa o pm cd doc a vs ns G Y ho hd hcd hmg hobj hints hlen hg=>?_;have KX:=hY w _ Y;obtain⟨fd,hb,hF⟩:=F w mg fa _ KX G.T.g hmg;exact law_call KX G.T.g G.T.b G.T.builtins G.T.nolimit hg hobj hints (nW hlen hn2) hr hF hb (λH hO hS=>hsp w H a ns hlen hO hS) λH e s'=>hCX w H s₁ e s'
abbrev CX0:CXT:=λ_ _ _ _ _ _=>False
abbrev E0:XK:=λ_ _ _=>False
theorem kW :Passes CX0 X E0:=λ_ _ _ _ _ _ _ h=>h.elim
structure Fun(K:tV)(x qual:Str)(st:Stmt)(f:Addr)(fd:FuncData):Prop where
 ex:∃(oc:Value) (od:Option Addr) (kV doc pm:Value) (an:Option Addr) (cdv ct:Value) (osl:Array (Option Value)),
  fd=PySem.W.fnOf x qual (zI st) (yM st) (jJ st) .none kV doc pm an cdv ct/\K.lookup f=some ⟨oc,od,.func fd,osl⟩/\PySem.W.codeIn K cdv qual=true
 kp:PySem.W.keepIn K (.ref f)=true
section
variable{P:Program}{w:World}{K:tV}{mg:Str->Option Value}{base:Heap}
theorem Fun.ok{x qual:Str}{st:Stmt}{f:Addr}{fd:FuncData}{N ps:List Str}{k:Nat}{sp:Sp}(F:Fun K x qual st f fd)(S:FnScope N ps (jJ st))(len:∀vs H Q E,sp vs H Q E->vs.length=ps.length)
  (hbody:∀(cdv:Value) (A:Around) (outer:List Env) (s:Shared) (H:Hp) (vs:List V) (Q:VK) (E:XK),Room k (A.deeper (envOfC qual (jJ st) s.heap.objs.size f cdv))->sp vs H Q E->
   ∃t,PSs (VT CX0 P w K mg base N qual (jJ st) f cdv A outer s H E).nox (yM st) t/\t { nx:=λ_ H'=>Q .non H',rt:=Q } (start N vs) H):FnOk P w K mg base CX0 (k+1) f fd ps sp:=by
 obtain⟨oc,od,kV,doc,pm,an,cdv,ct,osl,rfl,lk,hcd⟩:=F.ex;refine fn_of lk hcd S len λA outer s H vs Q E hr hsp=>?_;obtain⟨t,h,q⟩:=hbody cdv A outer s H vs Q E hr hsp;exact⟨t,h.nox,q⟩
theorem Fun.binds{x qual:Str}{st:Stmt}{f:Addr}{fd:FuncData}{ps:List Str}(F:Fun K x qual st f fd)
  (h:∀(kV doc pm:Value) (an:Option Addr) (cdv ct:Value) (us:List Value),us.length=ps.length->bindArgs (PySem.W.fnOf x qual (zI st) (yM st) (jJ st) .none kV doc pm an cdv ct) ⟨us,[]⟩=pure (ps.zip us)):Binds K fd ps []:=by
 obtain⟨oc,od,kV,doc,pm,an,cdv,ct,osl,rfl,lk,hcd⟩:=F.ex;exact .all (h kV doc pm an cdv ct)
theorem OG{x qual:Str}{st:Stmt}{f:Addr}{oc:Value}{od an:Option Addr}{osl:Array (Option Value)}{kV doc pm cdv ct:Value}(l:K.lookup f=some ⟨oc,od,.func (PySem.W.fnOf x qual (zI st) (yM st) (jJ st) .none kV doc pm an cdv ct),osl⟩)
  (c:PySem.W.codeIn K cdv qual=true) (k:PySem.W.keepIn K (.ref f)=true):Fun K x qual st f (PySem.W.fnOf x qual (zI st) (yM st) (jJ st) .none kV doc pm an cdv ct):=⟨⟨oc,od,kV,doc,pm,an,cdv,ct,osl,rfl,l,c⟩,k⟩
end
section
variable{X:Cx}
theorem pv(i:Nat)(hN:X.N[i]? = some x:=by rfl)(hv:Vis X.env.scope x:=by first | exact Or.inl rfl | exact Or.inr #[5] | exact Or.inr (Or.inr rfl))(hd:(x==("__debug__" :Str))=false:=by decide)
  (hcd:(x==("__classdict__" :Str))=false:=by decide):PE X (.Name x pos) (kH i):=pe_var hN hv hd hcd
end
theorem vT{A B:Prop}(h:B):if false=true then A else B:=by
 rw[tT hV];exact h
theorem kI{A B:Prop}(h:A):if true=true then A else B:=by
 rw[tU rfl];exact h
theorem wU{c A B:Prop} [Decidable c](h1:c->A)(h2:¬c->B):if c then A else B:=by
 by_cases h:c
 ·rw[tU h];exact h1 h
 ·rw[tT h];exact h2 h
def Same(H H':Hp):Prop:=∀b o,H b=some o->H' b=some o
theorem Same.refl(H:Hp):Same H H:=λ_ _ h=>h
theorem Same.trans(a:Same H H1)(b:Same H1 H2):Same H H2:=λc o h=>b c o (a c o h)
theorem Same.free(e:Same H H')(h:H' l=Option.none):H l=Option.none:=by
 cases q:H l with
 | none=>rfl
 | some o=>
  rw[e l o q]at h;cases h
end L2
namespace LwM
theorem vE{a b c:Int}(h:Int.gcd a b=1)(d:c∣b):Int.gcd a c=1:=by
 have:=Int.gcd_dvd_gcd_of_dvd_right a d;rw[h]at this;exact Nat.eq_one_of_dvd_one this
theorem zN{a b c:Int}(h:Int.gcd a b=1)(d:c∣a):Int.gcd c b=1:=by
 rw[Int.gcd_comm]at h ⊢;exact vE h d
theorem add_low{t b o u:Int}(hb:0<b)(hu:0<u)(g1:Int.gcd t b=1)(g2:Int.gcd o u=1) :
  (t*(u/(Int.gcd b u:Int))+o*(b/(Int.gcd b u:Int)))/(Int.gcd (t*(u/(Int.gcd b u:Int))+o*(b/(Int.gcd b u:Int))) (Int.gcd b u):Int)=(t*u+o*b)/(Int.gcd (t*u+o*b) (b*u):Int)/\
  (b/(Int.gcd b u:Int))*(u/(Int.gcd (t*(u/(Int.gcd b u:Int))+o*(b/(Int.gcd b u:Int))) (Int.gcd b u):Int))=(b*u)/(Int.gcd (t*u+o*b) (b*u):Int):=by
 have sp:0<Int.gcd b u:=Int.gcd_pos_of_ne_zero_left _ #[1];have c1:Int.gcd (b/(Int.gcd b u:Int)) (u/(Int.gcd b u:Int))=1:=Int.gcd_ediv_gcd_ediv_gcd sp;have d1:(Int.gcd b u:Int)∣b:=mV ..;have d2:(Int.gcd b u:Int)∣u:=mN ..;have e1:(Int.gcd b u:Int)*(b/(Int.gcd b u:Int))=b:=Int.mul_ediv_cancel' d1;have e2:(Int.gcd b u:Int)*(u/(Int.gcd b u:Int))=u:=Int.mul_ediv_cancel' d2;have sp':(0:Int)<(Int.gcd b u:Int):=by omega
 generalize hs:(Int.gcd b u:Int)=s at *;generalize hb':b/s=b' at *;generalize hu':u/s=u' at *;generalize hT:t*u'+o*b'=T at *;have v1:b'∣b:=⟨s,by rw[tJ];exact e1.symm⟩;have v2:u'∣u:=⟨s,by rw[tJ];exact e2.symm⟩;have x1:t*u+o*b=s*T:=by
  rw[<-hT,Int.mul_add,<-nS,<-nS,tJ s t,tJ s o,nS,nS,e1,e2]
 have x2:b*u=s*(b'*u):=by rw[<-nS,e1]
 have x3:b'*u=s*b'*u':=by rw[tJ s b',nS,e2]
 have y1:Int.gcd T b'=1:=by
  rw[<-hT,Int.gcd_add_mul_right_left,Int.gcd_mul_right_left_of_gcd_eq_one (vE g1 v1),Int.gcd_comm];exact c1
 have y2:Int.gcd T u'=1:=by
  rw[<-hT,Int.add_comm,Int.gcd_add_mul_right_left,Int.gcd_mul_right_left_of_gcd_eq_one (vE g2 v2)];exact c1
 have z:Int.gcd T (b'*u)=Int.gcd T s:=by
  rw[x3,Int.gcd_mul_left_right_of_gcd_eq_one y2,Int.gcd_mul_left_right_of_gcd_eq_one y1]
 have g:(Int.gcd (t*u+o*b) (b*u):Int)=s*(Int.gcd T s:Int):=by
  rw[x1,x2,Int.gcd_mul_left,z,Int.natCast_mul,Int.natAbs_of_nonneg #[1]]
 rw[g];refine⟨?_, ?_⟩
 ·rw[x1,Int.mul_ediv_mul_of_pos _ _ sp']
 ·rw[x2,Int.mul_ediv_mul_of_pos _ _ sp'];exact(Int.mul_ediv_assoc _ (Int.dvd_trans (mN ..) d2)).symm
theorem mul_low{t b o u:Int}(hb:0<b)(hu:0<u)(g1:Int.gcd t b=1)(g2:Int.gcd o u=1) :
  (t/(Int.gcd t u:Int))*(o/(Int.gcd o b:Int))=(t*o)/(Int.gcd (t*o) (b*u):Int)/\
  (b/(Int.gcd o b:Int))*(u/(Int.gcd t u:Int))=(b*u)/(Int.gcd (t*o) (b*u):Int):=by
 have fp:0<Int.gcd t u:=Int.gcd_pos_of_ne_zero_right _ #[1];have sp:0<Int.gcd o b:=Int.gcd_pos_of_ne_zero_right _ #[1];have c1:=Int.gcd_ediv_gcd_ediv_gcd fp;have c2:=Int.gcd_ediv_gcd_ediv_gcd sp;have e1:(Int.gcd t u:Int)*(t/(Int.gcd t u:Int))=t:=Int.mul_ediv_cancel' (mV ..);have e2:(Int.gcd t u:Int)*(u/(Int.gcd t u:Int))=u:=Int.mul_ediv_cancel' (mN ..);have e3:(Int.gcd o b:Int)*(o/(Int.gcd o b:Int))=o:=Int.mul_ediv_cancel' (mV ..);have e4:(Int.gcd o b:Int)*(b/(Int.gcd o b:Int))=b:=Int.mul_ediv_cancel' (mN ..);have fp':(0:Int)<(Int.gcd t u:Int):=by omega
 have sp':(0:Int)<(Int.gcd o b:Int):=by omega
 generalize (Int.gcd t u:Int)=f at *;generalize (Int.gcd o b:Int)=s at *;generalize t/f=t' at *;generalize u/f=u' at *;generalize o/s=o' at *;generalize b/s=b' at *;have v1:t'∣t:=⟨f,by rw[tJ];exact e1.symm⟩;have v2:u'∣u:=⟨f,by rw[tJ];exact e2.symm⟩;have v3:o'∣o:=⟨s,by rw[tJ];exact e3.symm⟩;have v4:b'∣b:=⟨s,by rw[tJ];exact e4.symm⟩;have x1:t*o=(f*s)*(t'*o'):=by
  rw[<-e1,<-e3];simp only[nS,Int.mul_left_comm,tJ]
 have x2:b*u=(f*s)*(b'*u'):=by
  rw[<-e2,<-e4];simp only[nS,Int.mul_left_comm,tJ]
 have n1:Int.gcd (t'*o') b'=1:=by
  rw[Int.gcd_mul_right_left_of_gcd_eq_one (zN (vE g1 v4) v1)];exact c2
 have n2:Int.gcd (t'*o') u'=1:=by
  rw[Int.gcd_mul_right_left_of_gcd_eq_one c1];exact zN (vE g2 v2) v3
 have n3:Int.gcd (t'*o') (b'*u')=1:=by
  rw[Int.gcd_mul_right_right_of_gcd_eq_one n1];exact n2
 have fs:(0:Int)<f*s:=tM fp' sp';have g:(Int.gcd (t*o) (b*u):Int)=f*s:=by
  rw[x1,x2,Int.gcd_mul_left,n3,Nat.mul_one,Int.natAbs_of_nonneg #[1]]
 rw[g,x1,x2,Int.mul_ediv_cancel_left _ #[1],Int.mul_ediv_cancel_left _ #[1]];exact⟨rfl,rfl⟩
theorem MI(a b:Int):Int.gcd b (a%b)=Int.gcd a b:=by
 rw[Int.emod_def,tJ b,Int.gcd_sub_mul_right_right,Int.gcd_comm]
theorem vF(a b:Int)(h:0<b):(1:Int)<=(Int.gcd a b:Int):=by
 have:0<Int.gcd a b:=Int.gcd_pos_of_ne_zero_right _ #[1];omega
theorem gcd_le(a b:Int)(h:0<b):(Int.gcd a b:Int)<=b:=Int.le_of_dvd h (mN a b)
theorem AQ(t g:Int)(h:1<=g):(t/g).natAbs<=t.natAbs:=by
 rcases Int.lt_or_le t 0 with n | n
 ·have h1:t/g<0:=Int.ediv_neg_of_neg_of_pos n #[1];have h2:t<=t/g:=by
   rw[Int.le_ediv_iff_mul_le #[1]];have:=Int.mul_le_mul_of_nonpos_left (a:=t) (b:=g) (c:=1) #[1] h;omega
  omega
 ·have h1:0<=t/g:=Int.ediv_nonneg n #[1];have h2:t/g<=t:=Int.ediv_le_self g n;omega
theorem log2_lt{n:Nat}{k:Nat}(hk:0<k)(h:n<2^k):n.log2<k:=by
 by_cases e:n=0
 ·subst e;simpa using hk
 ·exact(Nat.log2_lt e).mpr h
end LwM
namespace Lw
open PySem PySem.Spec PyProof.Rows L2
inductive Kd where
 | non | bl | int | str | lst | tup
 deriving DecidableEq
def Kd.ty:Kd->String
 | .non=>"NoneType" | .bl=>"bool" | .int=>"int" | .str=>"str" | .lst=>"list" | .tup=>"tuple"
inductive KdOf(H:Hp):V->Kd->Prop where
 | non:KdOf H .non .non
 | bl (b:Bool):KdOf H (.bl b) .bl
 | int (i:Int):KdOf H (.int i) .int
 | str (x:Str):KdOf H (.str x) .str
 | lst {a:Addr} {xs:List V} (e:H a=some (.lst xs)):KdOf H (.ref a) .lst
 | tup {a:Addr} {xs:List V} (e:H a=some (.tup xs)):KdOf H (.ref a) .tup
theorem KdOf.ty{K:tV}{H:Hp}{v:V}{k:Kd}(h:KdOf H v k):TyOf K H v (.type k.ty):=by
 cases h with
 | non=>exact .non
 | bl b=>exact .bl b
 | int i=>exact .int i
 | str x=>exact .str x
 | lst e=>exact .lst e
 | tup e=>exact .tup e
def Kd.isInt:Kd->Bool
 | .int=>true | .bl=>true | _=>false
def Kd.isBool:Kd->Bool
 | .bl=>true | _=>false
def Kd.isTup:Kd->Bool
 | .tup=>true | _=>false
def Isi(T:String)(f:Kd->Bool):Prop:=∀(K:tV) (k:Kd),PySem.W.kitOne K (.type k.ty) (.type T)=some (f k)
theorem SR:Isi "int" Kd.isInt:=λK k=>by cases k<;>rfl
theorem MH:Isi "bool" Kd.isBool:=λK k=>by cases k<;>rfl
theorem AI:Isi "tuple" Kd.isTup:=λK k=>by cases k<;>rfl
section
variable{X:Cx}
def rIsi(T:String)(f:Kd->Bool):List V->Hp->VK->Prop:=λxs H Q=>match xs with
 | [x,y]=>y=.ty T/\∃k,KdOf H x k/\Q (.bl (f k)) H
 | _=>False
theorem call_isi{f:Kd->Bool}(hf:Isi T f):CallR X (.builtin "isinstance") (rIsi T f):=by
 intro ac s σ H xs us Q I r h
 match xs,h with
 | [x,y],h=>
  obtain⟨rfl,k,ty,q⟩:=h;obtain⟨u,w',rfl,ru,rw'⟩:=vals2 r;cases (show w'=Value.type T from rw');exact VG I ru (ty.ty) (hf X.K k) λtk=>⟨.bl (f k),H,I.tok tk,rfl,q⟩
theorem zF{f:Kd->Bool}(hf:Isi T f)(hm:X.mg "isinstance" = none)(hm2:X.mg x=none)(hb:bootBuiltins x=some (.type T))(he:PE X e te)
  (hg:Gl X "isinstance":=by rfl) (hg2:Gl X x:=by rfl) (hn:x≠"__name__":=by decide) (hd:(x==("__debug__" :Str))=false:=by decide)
  (hs:starEach [e,.Name x p2] X.env=(false,eval e X.env)::starEach [.Name x p2] X.env:=by rfl) (hs2:starEach [.Name x p2] X.env=(false,eval (.Name x p2) X.env)::starEach [] X.env:=by rfl)
  (hpl:(backTo pos (starEach [.Name x p2] X.env)).any (·.1)=false:=by rfl):PE X (.Call (.Name "isinstance" p) [e,.Name x p2] [] pos) (tCB (rIsi T f) (xM te (xM (tC (.ty T)) tNil))):=
 kF (X:=X) (p:=p) (pos:=pos) (call_isi hf) hg hm boot_isinstance (jA he (jA (pe_bltn (v:=.ty T) hg2 hm2 hb rfl hn hd) jB hs2) hs) #[0] #[0] hs hpl
theorem vU:∀{vs:List Value} {ns:List Int} {j:Nat} (_:IntsAre vs ns) (h:j<vs.length),∃n t,ns[j]? = some n/\vs[j]=.int n t
 | _,_,_,.nil,h=>absurd h (Nat.not_lt_zero _)
 | _,_,0,.cons n t _,_=>⟨n,t,rfl,rfl⟩
 | _,_,j+1,.cons _ _ r,h=>by
  obtain⟨n,t,e1,e2⟩:=vU (j:=j) r (by simpa using h);exact⟨n,t,by simpa using e1,by simpa using e2⟩
theorem qQ:∀{vs:List Value} {ns:List Int},IntsAre vs ns->vs.length=ns.length
 | _,_,.nil=>rfl
 | _,_,.cons _ _ r=>by simp [qQ r]
theorem all_eq(ns ms:List Int):((List.range (min ns.length ms.length)).all (λj=>decide (ns[j]? = ms[j]?))&&ns.length==ms.length)=decide (ns=ms):=by
 by_cases e:ns=ms
 ·subst e;simp
 ·rw[nC e];by_cases hl:ns.length=ms.length
  ·rw[Bool.and_eq_false_iff]
   left
   rw[<-Bool.not_eq_true];intro h;apply e;rw[List.all_eq_true]at h;apply List.ext_getElem?;intro j;by_cases hj:j<ns.length
   ·exact mK (h j (nI.mpr #[1]))
   ·rw[gO #[1],gO #[1]]
  ·simp [hl]
def rEqT(K:tV):R2:=λx y H Q=>∃(a b:Addr) (ns ms:List Int),x=.ref a/\y=.ref b/\SqT K H a #[15]/\SqT K H b (ms.map V.int)/\Q (.bl (decide (ns=ms))) H
theorem op_eqT(hu:X.A.units<cLine):OpR X (compareOp .Eq) (rEqT X.K):=by
 intro ac s σ H x y v u Q I rx ry h;obtain⟨a,b,ns,ms,rfl,rfl,ha,hb,q⟩:=h;cases rx;cases ry;obtain⟨its,r1,p1,_⟩:=I.tuple ha;obtain⟨its2,r2,p2,_⟩:=I.tuple hb;have i1:IntsAre its ns:=kY r1;have i2:IntsAre its2 ms:=kY r2;refine SeqAt.eq_tupleAt (e:=λj=>decide (ns[j]? = ms[j]?)) p1 p2 hu (λj h1 h2=>?_) ?_
 ·obtain⟨n,t,e1,e2⟩:=vU (j:=j) i1 (by simpa using h1);obtain⟨m,t',e3,e4⟩:=vU (j:=j) i2 (by simpa using h2);have e5:its.toArray[j]=.int n t:=by simpa using e2
  have e6:its2.toArray[j]=.int m t':=by simpa using e4
  rw[e5,e6];have e7:decide (ns[j]? = ms[j]?)=(n==m):=by
   rw[e1,e3];by_cases e:n=m<;>simp [e]
  rw[e7];exact SeqAt.EqAt.int_int _ _ _ _
 ·have e8:=all_eq ns ms;rw[mH,mH,qQ i1,qQ i2,e8];exact⟨.bl (decide (ns=ms)),H,I,rfl,q⟩
def CDivL(_ j:Int):Prop:=0<j/\j.natAbs<2^8000
theorem qX:OpR X (binaryOp .FloorDiv) (rI CDivL λi j=>.int (i/j)):=opI λi j _ _ _ _ _ hc q=>by
 refine floordiv_int (by have:=hc.1;omega) ?_ (.inl (PyProof.noPylong_of_log2 (hW (LwM.log2_lt #[0] hc.2) #[0])));rw[Int.fdiv_eq_ediv_of_nonneg _ (Int.le_of_lt hc.1)];exact q
def CMulL(i j:Int):Prop:=i.natAbs<2^100000/\j.natAbs<2^100000
theorem qA:OpR X (binaryOp .Mult) (rI CMulL λi j=>.int (i*j)):=opI λ_ _ _ _ _ _ _ hc q=>mul_int q (IntMulOk.of_bits (nW (PySem.intBits_le_iff.mpr hc.1) #[0]) (nW (PySem.intBits_le_iff.mpr hc.2) #[0]))
end
theorem xI{A B:Prop}(h:c=true)(a:A):if c=true then A else B:=by
 rw[tU h];exact a
theorem qT{A B:Prop}(h:c=false)(b:B):if c=true then A else B:=by
 subst h;exact vT b
def But(p:Addr)(H H':Hp):Prop:=∀c o,H c=some o->c≠p->H' c=some o
theorem But.refl(p:Addr)(H:Hp):But p H H:=λ_ _ h _=>h
theorem But.trans(a:But p H H1)(b:But p H1 H2):But p H H2:=λc o h n=>b c o (a c o h n) n
theorem But.upd(p:Addr)(H:Hp)(o:HO):But p H (upd H p o):=λc _ h n=>by
 rw[jI n];exact h
theorem But.of(s:Same H H'):But p H H':=λc o h _=>s c o h
theorem jQ(o:HO)(n:H p=none):Same H (upd H p o):=λb q e=>by
 rw[jI (kG e n)];exact e
theorem fresh{H:Hp}{o:HO}{Q:VK}(h:∀p H',H p=none->Same H H'->H' p=some o->Q (.ref p) H'):∀p,H p=none->Q (.ref p) (upd H p o):=
 λp n=>h p _ n (jQ o n) jE
def New(H:Hp)(o:HO)(Q:VK):Prop:=∀p H',H p=none->Same H H'->H' p=some o->Q (.ref p) H'
theorem New.at(h:New H o Q)(n:H p=none):Q (.ref p) (upd H p o):=h p _ n (jQ o n) jE
section
variable{X:Cx}{es:List Expr}{t:TA}{pos:Pos}
def tTupF(t:TA):TE:=fun σ H Q=>t σ H λxs H1=>xs.length<=sizeLine/\New H1 (.tup xs) Q
def tLstF(t:TA):TE:=fun σ H Q=>t σ H λxs H1=>xs.length<=sizeLine/\New H1 (.lst xs) Q
theorem kC{x1}(h:PA X es t):PE X (.Tuple es x1 pos) (tTupF t):=by
 intro ac s σ H Q I hq;refine wpAny_Tuple_spliced (thn (h pos ac s σ H _ I hq) λus s1 ⟨xs,H1,I1,r,z,q⟩=>⟨by rw[<-r.length];exact z, ?_⟩);have hf:H1 s1.heap.objs.size=none:=I1.hok.fresh uX ;refine⟨.ref s1.heap.objs.size,upd H1 s1.heap.objs.size (.tup xs),I1.laid (t':=s1.toks) (λb u e=>gJ _ e) uX ?_,rfl,q.at hf⟩;exact⟨z,us,r,⟨_,gY _ rfl,rfl,_,rfl⟩,.of (gY _ rfl) rfl⟩
theorem xQ(h:PA X es t):PE X (.List es pos) (tLstF t):=by
 intro ac s σ H Q I hq;refine wpAny_List_spliced (thn (h pos ac s σ H _ I hq) λus s1 ⟨xs,H1,I1,r,z,q⟩=>⟨by rw[<-r.length];exact z, ?_⟩);have hf:H1 s1.heap.objs.size=none:=I1.hok.fresh uX ;refine⟨.ref s1.heap.objs.size,upd H1 s1.heap.objs.size (.lst xs),I1.laid (t':=s1.toks) (λb u e=>gJ _ e) uX ?_,rfl,q.at hf⟩;exact⟨z,us,0,r,gY _ rfl⟩
theorem callr_of{r r':List V->Hp->VK->Prop}(h:CallR X f r)(i:∀xs H Q,r' xs H Q->r xs H Q):CallR X f r':=
 λac s σ H xs us Q I rv q=>h ac s σ H xs us Q I rv (i xs H Q q)
theorem slr_of{r r':V->Option Int->Option Int->Hp->VK->Prop}(h:SlR X r)(i:∀x a b H Q,r' x a b H Q->r x a b H Q):SlR X r':=
 λac s σ H x v vl vu lo hi sl Q I rx hs pl pu q=>h ac s σ H x v vl vu lo hi sl Q I rx hs pl pu (i x lo hi H Q q)
def rListF(K:tV):List V->Hp->VK->Prop:=λxs H Q=>∃p ys,xs=[.ref p]/\(SqL K H p ys∨SqT K H p ys)/\New H (.lst ys) Q
theorem OQ:CallR X (.type "list") (rListF X.K):=callr_of KB λxs H Q ⟨p,ys,e,h,q⟩=>⟨p,ys,e,h,λl n=>q.at n⟩
def rSlLF(K:tV):V->Option Int->Option Int->Hp->VK->Prop:=λx lo hi H Q=>∃a xs,x=.ref a/\SqL K H a xs/\New H (.lst (xK xs lo hi)) Q
theorem XT:SlR X (rSlLF X.K):=slr_of QG λx a b H Q ⟨p,xs,e,h1,q⟩=>⟨p,xs,e,h1,λp n=>q.at n⟩
end
section
variable{prog:Program}{w:World}{A:Around}{R:Result->Shared->Prop}{s:Shared}
theorem xR(I:Nat->Shared->Prop)
  (turn:∀n s,I n s->wpAny #[7] A (pyNext it) (λr s₁=>match r with
   | none=>R (.ok .next) s₁
   | some v=>wpAny #[7] A (letOwnedTupleGo target it v) (λ_ s₁'=>wpAny #[7] A (assign target env v) (λ_ s₂=>wpAny #[7] A (eval elt env) (λx s₃=>
     wpAny #[7] A (call (.builtin "list.append") [acc,x]) (λ_ s₄=>∃m,m<n/\I m s₄) #[6] s₃)
     #[6] s₂) #[6] s₁') #[6] s₁) #[6] s)
  (n:Nat) (h:I n s) :
  codeAny #[7] A (.compLoop (.ListComp elt [⟨target,iter,[],0⟩] scope pos) 0 it acc env) R s:=by
 refine codeAny_loop rfl I (λn s hI=>?_) n h;show wpAny _ _ ((compTurn (.ListComp elt [⟨target,iter,[],0⟩] scope pos) 0 it acc env).onRaise (λx=>do noteFrame x env;theTreesLotGoes x)) _ _ s;refine wpAny_noted ?_;rw[compTurn_list1];refine tQ (wpAny_standAt (tQ (tS (turn n s hI) (λr s₁ h₁=>?_) λ_ _ h'=>h')));cases r with
 | none=>exact tR h₁
 | some v=>
  refine tQ (tS h₁ (λ_ s₁' h₁'=>?_) λ_ _ h'=>h');exact tQ (tS h₁' (λ_ s₂ h₂=>tQ (tQ (tS h₂ (λx s₃ h₃=>tQ (tS h₃
   (λ_ s₄ h₄=>tR (tR ⟨rfl,h₄⟩)) λ_ _ h'=>h')) λ_ _ h'=>h'))) λ_ _ h'=>h')
end
def qV(X:Cx)(N:List Str)(scope:Scope)(C:Addr)(fp:List Addr)(s2:Shared)(H2:Hp):Cx:=
 { X with N:=N,s₀:=s2,H₀:=H2,env:=compEnv scope C X.env,outer:=X.stack,stack:=X.stack,ex:=fp,fn:=λ_=>true,pn:=[],xe:=λ_ _=>False }
def CompGo(n:Nat)(J:It)(g:TG)(te:TE)(Q:VK)(p:Addr)(H':Hp):Prop:=
 ∃W:Nat->Nat->List V->Hp->Prop,(∃m,W 0 m [] H')/\∀i m ys H2,W i m ys H2->H2 p=some (.lst ys)/\ys.length<sizeLine/\
  ((J.stop i H2/\Q (.ref p) H2)∨(J.go i H2/\∀x H3,J.yld i H2 x H3->g x (List.replicate n none) H3 fun σ4 H4=>te σ4 H4 λy H5=>H5 p=some (.lst ys)/\∃m',m'<m/\W (i+1) m' (ys++[y]) (upd H5 p (.lst (ys++[y])))))
def tComp(n:Nat)(wi:TI)(g:TG)(te:TE):TE:=fun σ H Q=>wi σ H λJ H1=>∀p H',H1 p=none->Same H1 H'->H' p=some (.lst [])->CompGo n J g te Q p H'
section
variable{X:Cx}
theorem VU{ac:List #[17]}{σ:L2.St}{H1:Hp}{s2:Shared}{N:List Str}{scope:Scope}{C:Addr}{fp:List Addr}(I:Inv X ac σ H1 s2)(hk:scope.kind=.function)
  (hn:∀x,scope.names.lookup x≠some .cell/\scope.names.lookup x≠some .free) (hC:s2.heap.objs.size<=C) (hf:∀b∈fp,FpOk X ac H1 b) (hlt:∀b∈fp,b<s2.heap.objs.size):(qV X N scope C fp s2 H1).Ok where
 mod:=I.ok.mod
 kind:=hk
 glob:=I.ok.glob
 blt:=I.ok.blt
 above:=hC
 inj:=λx y c h=>nomatch h
 has:=λx h=>h.elim (λz=>absurd z (hn x).1) (λz=>absurd z (hn x).2)
 cab:=λx c _ h=>nomatch h
 hd:=I.ok.hd
 frames:=I.ok.frames
 stk:=.inl rfl
 exf:=λb hb=>⟨nX (hW (hlt b hb) hC),λx c h=>nomatch h⟩
 bs:=I.bs
 bsz:=nW I.ok.bsz I.sz
 noex:=λb o e hb=>by
  rcases(hf b hb).2.2.2.1 with z | z
  ·exact I.ok.noex b o e z
  ·exact absurd (hW (nV e) (nW I.ok.bsz z)) (nQ _)
 exfs:=λb hb z=>(nP.mp (I.stkSub b z)).elim (hf b hb).2.1 (hf b hb).2.2.1
 funs:=I.stack
 frf:=I.stkFree
theorem pe_comp{N:List Str}{scope:Scope}(hc:X.calm=true)
  (hk:scope.kind=.function) (hn:∀x,scope.names.lookup x≠some .cell/\scope.names.lookup x≠some .free) (hfree:∀x∈scope.names,x.2≠.free) (hcell:∀x∈scope.names,x.2≠.cell) (hnames:∀x∈scope.names,x.2=.local->scope.names.lookup x.1=some .local)
  (hi:PI X target iter wi) (hg:∀C fp s2 H2,PG (qV X N scope C fp s2 H2) target g) (he:∀C fp s2 H2,PE (qV X N scope C fp s2 H2) elt te)
  (hs:∀x,foldedSetIterable iter X.env x=pure x:=by intro _;rfl):PE X (.ListComp elt [⟨target,iter,[],0⟩] scope pos) (tComp N.length wi g te):=by
 intro ac s σ H Q I h;refine wpAny_ListComp hfree hk hnames (thn (hi ac s σ H _ I h) λv s1 h1=>thn h1 λitv s2 h2=>?_) hs;obtain⟨it,fp,tn,J,H1,e,I2,T,st2,f2,hR⟩:=h2;subst e;have hlt:∀b∈fp,b<s2.heap.objs.size:=λb hb=>by
  obtain⟨o,ho,_⟩:=T.obj 0 _ st2 b hb;exact nV ho
 refine wpAny_newObj_type (wpAny_newFunctionEnv hcell (by intro y hy;simp at hy) (λh₁ hns₁ hsb₁=>?_) hk);dsimp only at hns₁ hsb₁ ⊢;generalize hHH:s2.heap.push { cls:=.type "list",dict:=none,data:=.seq ([]:List Value).toArray } = HH at hns₁ hsb₁ ⊢;have hCe:HH.objs.size=s2.heap.objs.size+1:=by rw[<-hHH,nN]
 have hDC:s2.heap.objs.size≠HH.objs.size:=by rw[hCe];exact nX (mW _)
 have hCle:s2.heap.objs.size<=HH.objs.size:=by rw[hCe];exact Nat.le_succ _
 have old:∀b o,s2.heap.get? b=some o->h₁.get? b=some o:=λb o e=>hsb₁.extBut b o (by rw[hCe];exact nX (Nat.lt_succ_of_lt (nV e))) (gJ _ (hHH▸gJ _ e));have hD:h₁.get? s2.heap.objs.size=some { cls:=.type "list",dict:=none,data:=.seq ([]:List Value).toArray } :=hsb₁.extBut _ _ hDC (gJ _ (hHH▸gY _ rfl));have nD:H1 s2.heap.objs.size=none:=I2.hok.fresh uX ;obtain⟨W,⟨m0,w0⟩,turn⟩:=hR s2.heap.objs.size _ nD (jQ (.lst []) nD) jE;have ok:=VU (N:=N) (C:=HH.objs.size) I2 hk hn hCle f2 hlt;have I4:Inv (qV X N scope HH.objs.size fp s2 H1) [] (List.replicate N.length none) (upd H1 s2.heap.objs.size (.lst [])) { s2 with heap:=h₁,toks:=s2.toks+([]:List (Str×Value)).length } :=by
  refine⟨ok,rfl,I2.bare,Un.laid old uX nD,⟨_,hns₁,λi x v _ e2 _=>?_⟩,(λx c z=>nomatch z), ?_,(λx c z=>nomatch z),(λp hp=>nomatch hp),I2.hok.laid old uX ?_,by rw[gN];rfl⟩
  ·rw[List.getElem?_replicate]at e2;split at e2<;>cases e2
  ·show(upd H1 s2.heap.objs.size (.lst [])) HH.objs.size=none;rw[jI (Ne.symm hDC)];exact I2.hok.fresh hCle
  ·exact⟨by show 0<=sizeLine;decide,[],0,.nil,hD⟩
 have stat:∀{H':Hp},(∀b∈fp,H' b=none)->∀b∈fp,FpOk (qV X N scope HH.objs.size fp s2 H1) [] H' b:=λhn b hb=>
  ⟨hn b hb,(ok.exf b hb).1,ok.exfs b hb,.inl hb,(ok.exf b hb).2,λp hp=>nomatch hp⟩
 have st4:tn 0 h₁:=T.keep _ _ _ st2 λb _ o e=>old b o e;have fr4:∀b∈fp,(upd H1 s2.heap.objs.size (.lst [])) b=none:=λb hb=>by
  rw[jI (nX (hlt b hb))];exact(f2 b hb).1
 have loop:codeAny #[4] X.A (.compLoop (.ListComp elt [⟨target,iter,[],0⟩] scope pos) 0 (.ref it) (.ref s2.heap.objs.size) (compEnv scope HH.objs.size X.env))
   (λr s'=>∃m,s'.heap.Ns HH.objs.size m/\∀h',Heap.SameBut HH.objs.size s'.heap h'->
      match r with | .ok _=>EP X ac σ Q (.ref s2.heap.objs.size) { s' with heap:=h' } | .error x=>wpAny #[4] X.A (passOn "comprehension.variables-let-go" x (compEnv scope HH.objs.size X.env)) (EP X ac σ Q) X.xe { s' with heap:=h' })
   { s2 with heap:=h₁,toks:=s2.toks+([]:List (Str×Value)).length } :=by
  refine xR (λn s'=>∃i ys H',Inv (qV X N scope HH.objs.size fp s2 H1) [] (List.replicate N.length none) H' s'/\tn i s'.heap/\(∀b∈fp,H' b=none)/\W i n ys H') ?_ m0 ⟨0,[],_,I4,st4,fr4,w0⟩;rintro n s3 ⟨i,ys,H3,I3,st3,fr3,w3⟩;obtain⟨hp3,hz3,hw⟩:=turn i n ys H3 w3;rcases hw with⟨stop,qn⟩ | ⟨go,step⟩
  ·refine thn (T.done (qV X N scope HH.objs.size fp s2 H1) rfl rfl rfl hc i [] s3 _ H3 _ I3 (stat fr3) st3 stop) λr s4 ⟨hr,I5⟩=>?_;subst hr;obtain⟨m,hm,_⟩:=id I5.loc;refine⟨m,hm,λh' sb=>⟨.ref s2.heap.objs.size,H3, ?_,rfl,qn⟩⟩;have k:∀b o,b≠HH.objs.size->s4.heap.get? b=some o->h'.get? b=some o:=λb o hb e=>sb.extBut b o hb e;have nb:∀b o,s2.heap.get? b=some o->b≠HH.objs.size:=λb o e=>by rw[hCe];exact nX (Nat.lt_succ_of_lt (nV e))
   have U:=I5.base;have fC:H3 HH.objs.size=none:=I5.free;refine I2.call' (ch:=fp) (s':={ s4 with heap:=h' }) I5.os ⟨λb o e n hb hx=>k b o (nb b o e) (U.keep b o e n hb hx),λb o e n hb hx=>?_,U.free,λb o e hx=>?_,U.tups,U.frzs,U.tbls⟩ (λb u e=>?_) I5.bare (λb hb=>⟨(f2 b hb).2.2.2.1,(f2 b hb).2.1,(f2 b hb).2.2.2.2.1,(f2 b hb).2.2.2.2.2⟩)
   ·obtain⟨sl,q⟩:=U.slot b o e n hb hx;exact⟨sl,k b _ (nb b o e) q⟩
   ·obtain⟨o',q⟩:=U.there b o e hx;exact⟨o',k b _ (nb b o e) q⟩
   ·refine(I5.hok b u e).stay (λc v hcc q=>k c v ?_ q) (λ_ q=>q) λ_ _ q=>q;rcases hcc with z | z
    ·rw[z];intro y;rw[y,fC]at e;cases e
    ·intro y;rw[y,fC]at z;cases z
  ·refine tS (T.item (qV X N scope HH.objs.size fp s2 H1) rfl rfl rfl hc i [] s3 _ H3 (λ_ _=>False) I3 (stat fr3) st3 go) (λr s4 ⟨u,hr,h4⟩=>?_) λ_ _ z=>z.elim;subst hr;refine tS h4 (λ_ s5 ⟨x,H5,I5,r5,y5,st5,fr5⟩=>?_) λ_ _ z=>z.elim;have I5':=I5.pinned (stat fr5) (T.obj _ _ st5);refine tS (hg _ _ _ _ _ s5 _ H5 x u _ I5' r5 (step x H5 y5)) (λ_ s6 ⟨σ6,H6,I6,q6⟩=>?_) λ_ _ z=>z.elim;refine tS (he _ _ _ _ _ s6 σ6 H6 _ I6 q6) (λy s7 ⟨yv,H7,I7,r7,q7⟩=>?_) λ_ _ z=>z.elim;obtain⟨e7,m',hm',w7⟩:=q7;refine tS (vA (X:=qV X N scope HH.objs.size fp s2 H1) _ s7 σ6 H7 (.ref s2.heap.objs.size) [yv] (.ref s2.heap.objs.size) [y] (λ_ H8=>H8=upd H7 s2.heap.objs.size (.lst (ys++[yv]))) I7 rfl (.cons r7 .nil) ⟨_,ys,yv,rfl,rfl,e7,hz3,rfl⟩) (λ_ s8 ⟨_,H8,I8,_,q8⟩=>?_) λ_ _ z=>z.elim;subst q8;refine⟨m',hm',i+1,_,_,(I8.unpinned).weak (by rw[gN,I8.len];rfl) (λj v ev=>?_),T.keep _ _ _ st5 λb hb o e=>(I8.pin (b,o) (gM _ (gM _ (vD hb e)))).1,λb hb=>?_,w7⟩
   ·rw[List.getElem?_replicate]at ev;split at ev<;>cases ev
   ·obtain⟨o,e,d⟩:=T.obj _ _ st5 b hb;exact(I8.pin (b,o) (gM _ (gM _ (vD hb e)))).2.1
 exact codeAny_compStart_list loop (T.self _ 0 _ _ _ st4 loop)
end
mutual
inductive DecV(H:Hp):V->PyData->Prop where
 | non:DecV H .non .none
 | bl (b:Bool):DecV H (.bl b) (.bool b)
 | int (i:Int):DecV H (.int i) (.int i)
 | str (x:Str):DecV H (.str x) (.str x)
 | lst {a:Addr} {xs:List V} {ds:List PyData} (e:H a=some (.lst xs)) (h:DecVs H xs ds):DecV H (.ref a) (.list ds)
 | tup {a:Addr} {xs:List V} {ds:List PyData} (e:H a=some (.tup xs)) (h:DecVs H xs ds):DecV H (.ref a) (.tuple ds)
inductive DecVs(H:Hp):List V->List PyData->Prop where
 | nil:DecVs H [] []
 | cons {x:V} {d:PyData} {xs:List V} {ds:List PyData} (h:DecV H x d) (t:DecVs H xs ds):DecVs H (x::xs) (d::ds)
end
section
variable{X:Cx}
mutual
theorem DecV.reads{s:Shared}(I:Inv X ac σ H s):∀{x:V} {d:PyData} {u:Value},DecV H x d->RelV x u->∃as,Reads s.heap u d as
 | _,_,_,.non,r=>by cases r;exact⟨_,.none⟩
 | _,_,_,.bl b,r=>by cases r;exact⟨_,.bool b⟩
 | _,_,_,.int i,r=>by obtain⟨t,rfl⟩:=r;exact⟨_,.int i t⟩
 | _,_,_,.str x,r=>by obtain⟨t,rfl⟩:=r;exact⟨_,.str x t⟩
 | _,_,_,.lst e h,r=>by
  cases r;obtain⟨its,rv,⟨o,n,ho,hc,_,hd⟩,_⟩:=I.list (SqL.of e);obtain⟨as,ra⟩:=DecVs.reads I h rv;exact⟨_,.list ho hc hd (by simpa using ra)⟩
 | _,_,_,.tup e h,r=>by
  cases r;obtain⟨its,rv,⟨o,ho,hc,n,hd⟩,_⟩:=I.tuple (SqT.of e);obtain⟨as,ra⟩:=DecVs.reads I h rv;exact⟨_,.tuple ho hc hd (by simpa using ra)⟩
theorem DecVs.reads{s:Shared}(I:Inv X ac σ H s):∀{xs:List V} {ds:List PyData} {us:List Value},DecVs H xs ds->Vals xs us->∃as,ReadsAll s.heap us ds as
 | _,_,_,.nil,r=>by cases r;exact⟨_,.nil⟩
 | _,_,_,.cons h t,r=>by
  cases r with
  | cons q r=>
   obtain⟨as,ra⟩:=DecV.reads I h q;obtain⟨bs,rb⟩:=DecVs.reads I t r;exact⟨_,.cons ra rb⟩
end
def DataOk(d:PyData):Prop:=d.canLay0=true/\d.depth<=60
def rEqD:R2:=λx y H Q=>∃da db,DecV H x da/\DecV H y db/\DataOk da/\DataOk db/\Q (.bl (PyData.eqv da db)) H
def rNeD:R2:=λx y H Q=>∃da db,DecV H x da/\DecV H y db/\DataOk da/\DataOk db/\Q (.bl (!PyData.eqv da db)) H
theorem op_eqD(hu:X.A.units+64<cLine):OpR X (compareOp .Eq) rEqD:=by
 intro ac s σ H x y v u Q I rx ry h;obtain⟨da,db,d1,d2,o1,o2,q⟩:=h;obtain⟨as,ra⟩:=d1.reads I rx;obtain⟨bs,rb⟩:=d2.reads I ry;exact SeqAt.rcAt_reads ra rb o1.1 o2.1 (by have:=o1.2;omega) _ _ _ _ ⟨.bl _,H,I,rfl,q⟩
theorem EM(hu:X.A.units+64<cLine):OpR X (compareOp .NotEq) rNeD:=by
 intro ac s σ H x y v u Q I rx ry h;obtain⟨da,db,d1,d2,o1,o2,q⟩:=h;obtain⟨as,ra⟩:=d1.reads I rx;obtain⟨bs,rb⟩:=d2.reads I ry;exact SeqAt.rcNeAt_reads ra rb o1.1 o2.1 (by have:=o1.2;omega) _ _ _ _ ⟨.bl _,H,I,rfl,q⟩
def rAll(K:tV):List V->Hp->VK->Prop:=λxs H Q=>∃(a:Addr) (bs:List Bool),xs=[.ref a]/\SqL K H a (bs.map V.bl)/\Q (.bl (bs.all id)) H
theorem TM:∀{bs:List Bool} {us:List Value} {i:Nat} {v:Value},Vals (bs.map V.bl) us->us[i]? = some v->v=.bool (bs.getD i true)
 | [],_,_,_,.nil,e=>by simp at e
 | b::_,_,0,_,.cons r _,e=>by
  cases r;simp at e;simp [<-e]
 | b::bs,_,i+1,_,.cons _ t,e=>by
  have:=TM (i:=i) t (by simpa using e);simpa using this
theorem WB(bs:List Bool):(List.range bs.length).all (λi=>bs.getD i true)=bs.all id:=by
 induction bs with
 | nil=>rfl
 | cons b r ih=>
  rw[mS,List.range_succ_eq_map,List.all_cons,List.all_map,List.all_cons,<-ih]
  rfl
theorem AU(hc:X.calm=true):CallR X (.builtin "all") (rAll X.K):=by
 intro ac s σ H xs us Q I r h;obtain⟨a,bs,rfl,hq,q⟩:=h;obtain⟨u,rfl,ru⟩:=qW r;cases ru;obtain⟨its,rv,p,hz⟩:=I.list hq;have hl:=rv.length;rw[mY]at hl;refine PySem.call_all_walk (wpAny_pyIter_list p.isList ?_);have ha:a<s.heap.objs.size:=by
  obtain⟨o,n,e,_⟩:=p;exact nV e
 refine⟨s.heap.objs.size,_,_,_,_,_,λi=>bs.getD i true,rfl,Walks.list (show X.A.in1.handled=none from I.ok.hd hc) s.heap.objs.size a (nX ha) its.toArray,⟨⟨_,gY _ rfl,rfl,rfl⟩,p.isList.at λo e=>gJ _ e⟩, ?_, ?_⟩
 ·intro i v s' Q' E' hv hq';obtain rfl:=TM rv (by simpa using hv);exact wpAny_truthy_bool hq'
 ·intro h' tk k;rw[mH,<-hl,WB];refine⟨.bl _,H,I.kept (t':=tk) (λb o e=>?_),rfl,q⟩;exact k b o (by simp;exact nX (nV e)) (gJ _ e)
theorem EG{N:List Str}{scope:Scope}(hc:X.calm=true)
  (hk:scope.kind=.function) (hfree:∀x∈scope.names,x.2≠.free) (hcell:∀x∈scope.names,x.2≠.cell) (hnames:∀x∈scope.names,x.2=.local->scope.names.lookup x.1=some .local)
  (hi:PI X target iter wi) (hg:∀C fp s2 H2,PG (qV X N scope C fp s2 H2) target g) (he:∀C fp s2 H2,PE (qV X N scope C fp s2 H2) elt te)
  (hs:∀x,foldedSetIterable iter X.env x=pure x:=by intro _;rfl):PE X (.ListComp elt [⟨target,iter,[],0⟩] scope pos) (tComp N.length wi g te):=
 pe_comp hc hk (λx=>⟨λz=>hcell _ (PySem.mem_of_lookup z) rfl,λz=>hfree _ (PySem.mem_of_lookup z) rfl⟩) hfree hcell hnames hi hg he hs
end
def CompW(xs:List V)(Pv:Nat->List V->Hp->Prop)(i m:Nat)(ys:List V)(H:Hp):Prop:=m=xs.length-i/\i<=xs.length/\ys.length=i/\Pv i ys H
theorem kJ{xs:List V}{Pv:Nat->List V->Hp->Prop}{i m:Nat}{ys:List V}(hx:xs[i]? = some x)(hm:m=xs.length-i)(hl:ys.length=i)(e:H5 p=some (.lst ys))(h:Pv (i+1) (ys++[y]) (upd H5 p (.lst (ys++[y])))) :
  H5 p=some (.lst ys)/\∃m',m'<m/\CompW xs Pv (i+1) m' (ys++[y]) (upd H5 p (.lst (ys++[y]))):=by
 have hi:i<xs.length:=(gE.mp hx).1;exact⟨e,xs.length-(i+1),by omega,rfl,by omega,by simp [hl],h⟩
section
end
def jK(X:Cx)(N:List Str)(scope:Scope)(cl:List (Str×Addr))(C:Addr)(fp:List Addr)(s2:Shared)(H2:Hp):Cx:=
 { X with N:=N,s₀:=s2,H₀:=H2,env:=compEnvC scope cl C X.env,outer:=X.stack,stack:=X.stack,ex:=fp,fn:=λ_=>false,pn:=[],xe:=λ_ _=>False }
def Keep(σ τ:L2.St):Prop:=∀(i:Nat) (v:V),σ[i]? = some (some v)->τ[i]? = some (some v)
theorem wE :Keep (none::r) (x::r):=λi v h=>by
 cases i with
 | zero=>cases h
 | succ j=>exact h
theorem BT :Keep (none::none::r) (x::y::r):=λi v h=>by
 cases i with
 | zero=>cases h
 | succ j=>cases j with
  | zero=>cases h
  | succ k=>exact h
def CompGoF(σ0:L2.St)(J:It)(g:TG)(te:TE)(Q:VK)(p:Addr)(H':Hp):Prop:=
 ∃W:Nat->Nat->List V->Hp->Prop,(∃m,W 0 m [] H')/\∀i m ys H2,W i m ys H2->H2 p=some (.lst ys)/\ys.length<sizeLine/\
  ((J.stop i H2/\Q (.ref p) H2)∨(J.go i H2/\∀x H3,J.yld i H2 x H3->g x σ0 H3 fun σ4 H4=>Keep σ0 σ4/\te σ4 H4 λy H5=>H5 p=some (.lst ys)/\∃m',m'<m/\W (i+1) m' (ys++[y]) (upd H5 p (.lst (ys++[y])))))
def ID(own:Nat)(idx:List Nat)(wi:TI)(g:TG)(te:TE):TE:=fun σ H Q=>wi σ H λJ H1=>∀p H',H1 p=none->Same H1 H'->H' p=some (.lst [])->
 CompGoF (List.replicate own none++idx.map λj=>(σ[j]?).getD none) J g te Q p H'
section
variable{X:Cx}
theorem OK{ac:List #[17]}{σ:L2.St}{H1:Hp}{s2:Shared}{N:List Str}{scope:Scope}{cl:List (Str×Addr)}{C:Addr}{fp:List Addr}(I:Inv X ac σ H1 s2)(hk:scope.kind=.function)
  (hsub:∀x c,cl.lookup x=some c->X.env.cells.lookup x=some c) (hhas:∀x,(#[11].names.lookup x=some .cell∨#[11].names.lookup x=some .free)->∃c,cl.lookup x=some c)
  (hC:s2.heap.objs.size<=C) (hf:∀b∈fp,FpOk X ac H1 b) (hlt:∀b∈fp,b<s2.heap.objs.size):(jK X N scope cl C fp s2 H1).Ok where
 mod:=I.ok.mod
 kind:=hk
 glob:=I.ok.glob
 blt:=I.ok.blt
 above:=hC
 inj:=λx y c h1 h2=>I.ok.inj x y c (hsub x c h1) (hsub y c h2)
 has:=hhas
 cab:=λx c h _=>by cases h
 hd:=I.ok.hd
 frames:=I.ok.frames
 stk:=.inl rfl
 exf:=λb hb=>⟨nX (hW (hlt b hb) hC),λx c h=>(hf b hb).2.2.2.2.1 x c (hsub x c h)⟩
 bs:=I.bs
 bsz:=nW I.ok.bsz I.sz
 noex:=λb o e hb=>by
  rcases(hf b hb).2.2.2.1 with z | z
  ·exact I.ok.noex b o e z
  ·exact absurd (hW (nV e) (nW I.ok.bsz z)) (nQ _)
 exfs:=λb hb z=>(nP.mp (I.stkSub b z)).elim (hf b hb).2.1 (hf b hb).2.2.1
 funs:=I.stack
 frf:=I.stkFree
structure CmpH(X:Cx)(own:Nat)(idx:List Nat)(N:List Str)(scope:Scope)(cl:List (Str×Addr)):Prop where
 k:scope.kind=.function
 clos:closureFor scope X.env=pure cl
 cell:∀x∈scope.names,x.2≠.cell
 names:∀x∈scope.names,x.2=.local->scope.names.lookup x.1=some .local
 sub:∀x c,cl.lookup x=some c->X.env.cells.lookup x=some c
 has:∀x,(#[11].names.lookup x=some .cell∨#[11].names.lookup x=some .free)->∃c,cl.lookup x=some c
 len:N.length=own+idx.length
 at':∀(k j:Nat) (x:Str),idx[k]? = some j->N[own+k]? = some x->X.N[j]? = some x/\X.env.kindOf x=some .cell/\#[11].names.lookup x=some .cell/\X.env.scope.names.lookup x=some .cell
def CGo(Y:Cx)(σ0:L2.St)(J:It)(B:Value->(Shared->Prop)->Shared->Prop)(Qn:Hp->Prop)(H':Hp):Prop:=
 ∃W:Nat->Nat->Hp->Prop,(∃m,W 0 m H')/\∀i m H2,W i m H2->(J.stop i H2/\Qn H2)∨(J.go i H2/\∀x H3,J.yld i H2 x H3->∀pns u s5 K,Inv Y pns σ0 H3 s5->RelV x u->
  (∀s8 σ6 H8 m',Inv Y pns σ6 H8 s8->Keep σ0 σ6->m'<m->W (i+1) m' H8->K s8)->B u K s5)
def LeaveOk(X:Cx)(ac:List #[17])(σ:L2.St)(use:Option (Value->Sem Unit))(Qc:Value->Shared->Prop)(Qn:Addr->Hp->Prop):Prop:=
 ∀N scope cl C fp s2 H1 σ0 H3 s4,Inv X ac σ H1 s2->(∀b∈fp,FpOk X ac H1 b)->C=s2.heap.objs.size+1->Inv (jK X N scope cl C fp s2 H1) [] σ0 H3 s4->Qn s2.heap.objs.size H3->
  compPost #[4] X.A X.xe use Qc (.ref s2.heap.objs.size) C (.ok .next) s4
theorem MT{N scope cl C fp s2 H1 σ0 H3 s4}(I2:Inv X ac σ H1 s2)(f2:∀b∈fp,FpOk X ac H1 b)(hC:C=s2.heap.objs.size+1)(I5:Inv (jK X N scope cl C fp s2 H1) [] σ0 H3 s4) :
  (∃m,s4.heap.Ns C m)/\Inv X ac σ H3 s4/\(∀b,b<s2.heap.objs.size->b≠C)/\∀σ' s5,Inv X ac σ' H3 s5->∀h',(∀b o,b≠C->s5.heap.get? b=some o->h'.get? b=some o)->Inv X ac σ' H3 { s5 with heap:=h' } :=by
 have lt:∀b,b<s2.heap.objs.size->b≠C:=λb hb=>by omega
 refine⟨I5.loc.imp λ_ h=>h.1,I2.call' (ch:=fp) (s':=s4) I5.os I5.base I5.hok I5.bare (λb hb=>⟨(f2 b hb).2.2.2.1,(f2 b hb).2.1,(f2 b hb).2.2.2.2.1,(f2 b hb).2.2.2.2.2⟩),lt,fun σ' s5 I6 h' k=>?_⟩;refine I6.turned (it:=C) (t':=s5.toks) k I5.free (Ne.symm (lt _ I2.lt)) (.inr (nW I2.sz (hC▸Nat.le_succ _))) (λx c hc=>?_) (λp hp=>lt _ (nV (I2.pin p hp).1));obtain⟨v,hv⟩:=I2.cell x c hc;exact lt _ hv.lt
theorem leaveE :LeaveOk X ac σ none (EP X ac σ Q) (λp H=>Q (.ref p) H):=by
 intro N scope cl C fp s2 H1 σ0 H3 s4 I2 f2 hC I5 qn;obtain⟨⟨m,hm⟩,IX,_,k⟩:=MT I2 f2 hC I5;exact⟨m,hm,λh' sb=>⟨.ref s2.heap.objs.size,H3,k _ _ IX h' (λb o hb e=>sb.extBut b o hb e),rfl,qn⟩⟩
theorem OE{σ:L2.St}{i:Nat}{Qx:L2.St->Hp->Prop}(hN:X.N.Nodup)(hi:X.N[i]? = some y)(hx:Loc X.env.scope y)(hfn:X.fn y=true∨X.env.scope.names.lookup y=some .local) :
  LeaveOk X ac σ (some (assign (.Name y py) X.env)) (λ_ s'=>∃σ' H',Inv X ac σ' H' s'/\Qx σ' H') (λp H=>Qx (σ.set i (some (.ref p))) H):=by
 intro N scope cl C fp s2 H1 σ0 H3 s4 I2 f2 hC I5 qn;obtain⟨⟨m,hm⟩,IX,lt,k⟩:=MT I2 f2 hC I5;show wpAny _ X.A (assign (.Name y py) X.env (.ref s2.heap.objs.size)) _ _ s4;refine wpAny_assign_Name (FW IX hN hi hx (v:=.ref s2.heap.objs.size) rfl (λs5 I6 ⟨a,sb,ha⟩=>?_) hfn);have aC:a≠C:=by
  rcases ha with ha | ha
  ·rw[ha];exact lt _ I2.lt
  ·obtain⟨v,hv⟩:=I2.cell y a ha;exact lt _ hv.lt
 exact⟨m,hm.sameBut sb (Ne.symm aC),λh' sb'=>⟨_,H3,k _ _ I6 h' (λb o hb e=>sb'.extBut b o hb e),qn⟩⟩
theorem yZ{own:Nat}{idx:List Nat}(M:CmpH X own idx N scope cl)(hc:X.calm=true){G:It->Addr->Hp->Prop}
  {B:Env->Addr->(Result->Shared->Prop)->Value->(Shared->Prop)->Shared->Prop} {use:Option (Value->Sem Unit)} {Qc:Value->Shared->Prop} {Qn:Addr->Hp->Prop}     (I:Inv X ac σ H s) (hi:PI X target iter wi)
  (h:wi σ H λJ H1=>∀p H',H1 p=none->Same H1 H'->H' p=some u0->G J p H') (hcl:clausesOf e=⟨target,iter,ifs,0⟩::gs) (hs:∀x,foldedSetIterable iter X.env x=pure x) (hd:sizeOk data) (hfr:({ cls:=.type T,dict:=none,data:=data } :Obj).isFreed=false)
  (hnew:∀s2 H1 h,Inv X ac σ H1 s2->h.get? s2.heap.objs.size=some { cls:=.type T,dict:=none,data:=data }->ObjOk X.prog X.w (upd H1 s2.heap.objs.size u0) h s2.heap.objs.size u0)
  (hloop:∀{it:Value} {a:Addr} {env:Env} {R:Result->Shared->Prop} {s:Shared} (V:Nat->Shared->Prop),(∀n s,V n s->wpAny #[4] X.A (pyNext it) (λr s₁=>match r with
   | none=>R (.ok .next) s₁
   | some v=>wpAny #[4] X.A (letOwnedTupleGo target it v) (λ_ s₁'=>B env a R v (λs₄=>∃m,m<n/\V m s₄) s₁') (notedBy #[4] X.A env λe s'=>R (.error e) s') s₁) (notedBy #[4] X.A env λe s'=>R (.error e) s') s)->
   ∀n,V n s->codeAny #[4] X.A (.compLoop e 0 it (.ref a) env) R s)
  (hstart:∀{it acc:Value} {env:Env} {R:Result->Shared->Prop} {s:Shared},codeAny #[4] X.A (.compLoop e 0 it acc env) R s->wpAny #[4] X.A (pyIter it) (λit' s'=>codeAny #[4] X.A (.compLoop e 0 it' acc env) R s') (notedBy #[4] X.A env λx s'=>R (.error x) s') s->codeAny #[4] X.A (.compStart e 0 it acc env) R s)
  (hG:∀C fp s2 H2 J p H' R,G J p H'->CGo #[9] (List.replicate own none++idx.map λj=>(σ[j]?).getD none) J (B (compEnvC scope cl C X.env) p R) (Qn p) H')
  (hL:LeaveOk X ac σ use Qc Qn):wpAny #[4] X.A (comprehension e scope X.env pos (newObj (.type T) data) false (eval iter X.env) use) Qc X.xe s:=by
 refine wpAny_comprehension_free hcl hs M.clos M.k M.names (thn (hi ac s σ H _ I h) λv s1 h1=>thn h1 λitv s2 h2=>?_);obtain⟨it,fp,tn,J,H1,e,I2,T,st2,f2,hR⟩:=h2;subst e;have hlt:∀b∈fp,b<s2.heap.objs.size:=λb hb=>by
  obtain⟨o,ho,_⟩:=T.obj 0 _ st2 b hb;exact nV ho
 refine wpAny_newObj_type (wpAny_newFunctionEnv M.cell (by intro y hy;simp at hy) (λh₁ hns₁ hsb₁=>?_) M.k) hd;dsimp only at hns₁ hsb₁ ⊢;generalize hHH:s2.heap.push _=HH at hns₁ hsb₁ ⊢;have hCe:HH.objs.size=s2.heap.objs.size+1:=by rw[<-hHH,nN]
 have hDC:s2.heap.objs.size≠HH.objs.size:=by rw[hCe];exact nX (mW _)
 have hCle:s2.heap.objs.size<=HH.objs.size:=by rw[hCe];exact Nat.le_succ _
 have old:∀b o,s2.heap.get? b=some o->h₁.get? b=some o:=λb o e=>hsb₁.extBut b o (by rw[hCe];exact nX (Nat.lt_succ_of_lt (nV e))) (gJ _ (hHH▸gJ _ e));have hD:=hsb₁.extBut _ _ hDC (gJ _ (hHH▸gY _ hfr));have nD:H1 s2.heap.objs.size=none:=I2.hok.fresh uX ;obtain⟨W,⟨m0,w0⟩,turn⟩:=hG HH.objs.size fp s2 H1 J _ _ (compPost #[4] X.A X.xe use Qc (.ref s2.heap.objs.size) HH.objs.size) (hR s2.heap.objs.size _ nD (jQ u0 nD) jE);generalize hσ:(List.replicate own none++idx.map λj=>(σ[j]?).getD none:L2.St)=σ0 at turn;have lσ:σ0.length=N.length:=by rw[<-hσ,hJ,gN,mY,M.len]
 have ok:=OK (N:=N) (cl:=cl) (C:=HH.objs.size) I2 M.k M.sub M.has hCle f2 hlt;have oldC:∀c v,s2.heap.IsCell c v->h₁.IsCell c v:=λc v ⟨o,ho,hd⟩=>⟨o,old c o ho,hd⟩;have I4:Inv (jK X N scope cl HH.objs.size fp s2 H1) [] σ0 (upd H1 s2.heap.objs.size u0) { s2 with heap:=h₁,toks:=s2.toks+([]:List (Str×Value)).length } :=by
  refine⟨ok,rfl,I2.bare,Un.laid old uX nD,⟨_,hns₁,λi x v e1 e2 _=>?_⟩,(λx c z=>?_), ?_,(λx c z=>?_),(λp hp=>nomatch hp),I2.hok.laid old uX (hnew _ _ _ I2 hD),lσ⟩
  ·
   rw[<-hσ]at e2;by_cases hi':i<own
   ·rw[gF (by rw[gN];exact hi'),List.getElem?_replicate]at e2;split at e2<;>cases e2
   ·obtain⟨k,rfl⟩:∃k,i=own+k:=⟨i-own,by omega⟩;rw[gC (by rw[gN];omega),gN,Nat.add_sub_cancel_left,mG]at e2;cases ej:idx[k]? with
    | none=>rw[ej]at e2;cases e2
    | some j=>
     rw[ej,Option.map_some]at e2;have e2:=Option.some.inj e2;obtain⟨n1,n2,n3,n4⟩:=M.at' k j x ej e1;have e3:σ[j]? = some (some v):=by
      cases q:σ[j]? with
      | none=>rw[q]at e2;cases e2
      | some y=>rw[q,Option.getD_some]at e2;rw[e2]
     obtain⟨m,hm,hl⟩:=I2.loc;obtain⟨u,ru,lk⟩:=hl j x v n1 e3 (.inr (.inl n4));refine⟨u,ru, ?_⟩;rcases lk with⟨kl,_⟩ | ⟨_,c,hcl,hic⟩
     ·rw[n2]at kl;cases kl
     ·obtain⟨c',hc'⟩:=M.has x (.inl n3);have:c'=c:=Option.some.inj ((M.sub x c' hc').symm.trans hcl);subst this;exact .inr ⟨.inl n3,c',hc',oldC _ _ hic⟩
  ·obtain⟨v,hv⟩:=I2.cell x c (M.sub x c z);exact⟨v,oldC _ _ hv⟩
  ·show(upd H1 s2.heap.objs.size u0) HH.objs.size=none;rw[jI (Ne.symm hDC)];exact I2.hok.fresh hCle
  ·obtain⟨v,hv⟩:=I2.cell x c (M.sub x c z);show(upd H1 s2.heap.objs.size u0) c=none;rw[jI (nX hv.lt)];exact I2.freeC x c (M.sub x c z)
 have stat:∀{H':Hp},(∀b∈fp,H' b=none)->∀b∈fp,FpOk (jK X N scope cl HH.objs.size fp s2 H1) [] H' b:=λhn b hb=>
  ⟨hn b hb,(ok.exf b hb).1,ok.exfs b hb,.inl hb,(ok.exf b hb).2,λp hp=>nomatch hp⟩
 have st4:tn 0 h₁:=T.keep _ _ _ st2 λb _ o e=>old b o e;have fr4:∀b∈fp,(upd H1 s2.heap.objs.size u0) b=none:=λb hb=>by
  rw[jI (nX (hlt b hb))];exact(f2 b hb).1
 have loop:=hloop (it:=.ref it) (a:=s2.heap.objs.size) (env:=compEnvC scope cl HH.objs.size X.env) (R:=compPost #[4] X.A X.xe use Qc (.ref s2.heap.objs.size) HH.objs.size) (s:={ s2 with heap:=h₁,toks:=s2.toks+([]:List (Str×Value)).length })
  (λn s'=>∃i H',Inv (jK X N scope cl HH.objs.size fp s2 H1) [] σ0 H' s'/\tn i s'.heap/\(∀b∈fp,H' b=none)/\W i n H') (by
  rintro n s3 ⟨i,H3,I3,st3,fr3,w3⟩;rcases turn i n H3 w3 with⟨stop,qn⟩ | ⟨go,step⟩
  ·refine thn (T.done (jK X N scope cl HH.objs.size fp s2 H1) rfl rfl rfl hc i [] s3 _ H3 _ I3 (stat fr3) st3 stop) λr s4 ⟨hr,I5⟩=>?_;subst hr;exact hL _ _ _ _ _ _ _ _ _ _ I2 f2 hCe I5 qn
  ·refine tS (T.item (jK X N scope cl HH.objs.size fp s2 H1) rfl rfl rfl hc i [] s3 _ H3 (λ_ _=>False) I3 (stat fr3) st3 go) (λr s4 ⟨u,hr,h4⟩=>?_) λ_ _ z=>z.elim;subst hr;refine tS h4 (λ_ s5 ⟨x,H5,I5,r5,y5,st5,fr5⟩=>?_) λ_ _ z=>z.elim;refine step x H5 y5 _ u s5 _ (I5.pinned (stat fr5) (T.obj _ _ st5)) r5 λs8 σ6 H8 m' I8 kp6 hm' w7=>?_;refine⟨m',hm',i+1,_,(I8.unpinned).weak (by rw[lσ,I8.len];rfl) kp6,T.keep _ _ _ st5 λb hb o e=>(I8.pin (b,o) (gM _ (gM _ (vD hb e)))).1,λb hb=>?_,w7⟩;obtain⟨o,e,d⟩:=T.obj _ _ st5 b hb;exact(I8.pin (b,o) (gM _ (gM _ (vD hb e)))).2.1) m0 ⟨0,_,I4,st4,fr4,w0⟩
 exact hstart loop (T.self _ 0 _ _ _ st4 loop)
theorem JE(s2:Shared)(H1:Hp)(h:Heap)(_:Inv X ac σ H1 s2)(hD:h.get? s2.heap.objs.size=some { cls:=.type "list",dict:=none,data:=.seq ([]:List Value).toArray }):ObjOk X.prog X.w (upd H1 s2.heap.objs.size (.lst [])) h s2.heap.objs.size (.lst []):=
 ⟨by show 0<=sizeLine;decide,[],0,.nil,hD⟩
abbrev BF(X:Cx)(target elt:Expr)(env:Env)(a:Addr)(R:Result->Shared->Prop)(v:Value)(K:Shared->Prop)(s:Shared):Prop:=
 wpAny #[4] X.A (assign target env v) (λ_ s₂=>wpAny #[4] X.A (eval elt env) (λx s₃=>
  wpAny #[4] X.A (call (.builtin "list.append") [.ref a,x]) (λ_ s₄=>K s₄) (notedBy #[4] X.A env λe s'=>R (.error e) s') s₃)
  (notedBy #[4] X.A env λe s'=>R (.error e) s') s₂) (notedBy #[4] X.A env λe s'=>R (.error e) s') s
theorem cgoF(hg:∀C fp s2 H2,PG #[9] target g)(he:∀C fp s2 H2,PE #[9] elt te)(C:Addr)(fp:List Addr)(s2:Shared)(H2:Hp)(J:It)(p:Addr)(H':Hp)(R:Result->Shared->Prop)
  (h:CompGoF σ0 J g te Q p H'):CGo #[9] σ0 J (BF X target elt (compEnvC scope cl C X.env) p R) (λH=>Q (.ref p) H) H':=by
 obtain⟨W,⟨m0,w0⟩,turn⟩:=h;refine⟨λi m H=>∃ys,W i m ys H,⟨m0,[],w0⟩, ?_⟩;rintro i m H3 ⟨ys,w⟩;obtain⟨hp3,hz3,hw⟩:=turn i m ys H3 w;refine hw.imp id λ⟨go,step⟩=>⟨go,λx H5 y5 pns u s5 K I5 r5 hK=>?_⟩;refine tS (hg _ _ _ _ _ s5 _ H5 x u _ I5 r5 (step x H5 y5)) (λ_ s6 ⟨σ6,H6,I6,kp6,q6⟩=>?_) λ_ _ z=>z.elim;refine tS (he _ _ _ _ _ s6 σ6 H6 _ I6 q6) (λy s7 ⟨yv,H7,I7,r7,e7,m',hm',w7⟩=>?_) λ_ _ z=>z.elim;refine tS (vA (X:=jK X N scope cl C fp s2 H2) _ s7 σ6 H7 (.ref p) [yv] (.ref p) [y] (λ_ H8=>H8=upd H7 p (.lst (ys++[yv]))) I7 rfl (.cons r7 .nil) ⟨_,ys,yv,rfl,rfl,e7,hz3,rfl⟩) (λ_ s8 ⟨_,H8,I8,_,q8⟩=>?_) λ_ _ z=>z.elim;subst q8;exact hK _ _ _ m' I8 kp6 hm' ⟨_,w7⟩
theorem vQ{own:Nat}{idx:List Nat}{N:List Str}{scope:Scope}{cl:List (Str×Addr)}(hc:X.calm=true)
  (hk:scope.kind=.function) (hclos:closureFor scope X.env=pure cl) (hcell:∀x∈scope.names,x.2≠.cell) (hnames:∀x∈scope.names,x.2=.local->scope.names.lookup x.1=some .local)
  (hsub:∀x c,cl.lookup x=some c->X.env.cells.lookup x=some c) (hhas:∀x,(#[11].names.lookup x=some .cell∨#[11].names.lookup x=some .free)->∃c,cl.lookup x=some c)
  (hlen:N.length=own+idx.length)
  (hidx:∀(k j:Nat) (x:Str),idx[k]? = some j->N[own+k]? = some x->X.N[j]? = some x/\X.env.kindOf x=some .cell/\#[11].names.lookup x=some .cell/\X.env.scope.names.lookup x=some .cell)
  (hi:PI X target iter wi) (hg:∀C fp s2 H2,PG #[9] target g) (he:∀C fp s2 H2,PE #[9] elt te)
  (hs:∀x,foldedSetIterable iter X.env x=pure x:=by intro _;rfl):PE X (.ListComp elt [⟨target,iter,[],0⟩] scope pos) (ID own idx wi g te):=by
 intro ac s σ H Q I h;rw[eval_ListComp];exact yZ ⟨hk,hclos,hcell,hnames,hsub,hhas,hlen,hidx⟩ hc I hi h rfl hs (data:=.seq ([]:List Value).toArray) (tL _) rfl JE (B:=BF X target elt) (λV=>xR V) codeAny_compStart_list (cgoF hg he) leaveE
def hasB(names:List (Str×NameKind))(cl:List (Str×Addr)):Bool:=names.all λy=>match y.2 with
 | .cell=>(cl.lookup y.1).isSome
 | .free=>(cl.lookup y.1).isSome
 | _=>true
theorem qU{names:List (Str×NameKind)}{cl:List (Str×Addr)}(h:hasB names cl=true):∀x,(names.lookup x=some .cell∨names.lookup x=some .free)->∃c,cl.lookup x=some c:=by
 intro x hx;have all:=List.all_eq_true.mp h;rcases hx with hx | hx
 ·have:=all _ (PySem.mem_of_lookup hx);exact Option.isSome_iff_exists.mp this
 ·have:=all _ (PySem.mem_of_lookup hx);exact Option.isSome_iff_exists.mp this
theorem yL{X:Cx}{scope:Scope}{own j0:Nat}{N:List Str}{x0:Str}(h0:N[own]? = some x0)(h:X.N[j0]? = some x0/\X.env.kindOf x0=some .cell/\#[11].names.lookup x0=some .cell/\X.env.scope.names.lookup x0=some .cell) :
  ∀(k j:Nat) (x:Str),[j0][k]? = some j->N[own+k]? = some x->X.N[j]? = some x/\X.env.kindOf x=some .cell/\#[11].names.lookup x=some .cell/\X.env.scope.names.lookup x=some .cell:=by
 intro k j x e1 e2
 match k,e1 with
 | 0,e1=>
  cases e1;rw[Nat.add_zero,h0]at e2;cases e2;exact h
 | k+1,e1=>cases e1
end
theorem CU{J:It}{xs:List V}(Pv:Nat->List V->Hp->Prop)(hz:xs.length<sizeLine)(h0:Pv 0 [] H')
  (hgo:∀i ys H2,Pv i ys H2->i<xs.length->J.go i H2/\∀x H3,J.yld i H2 x H3->H3=H2/\xs[i]? = some x) (hst:∀ys H2,Pv xs.length ys H2->J.stop xs.length H2) (hl:∀i ys H2,Pv i ys H2->H2 p=some (.lst ys))
  (hs:∀i m ys x H2,xs[i]? = some x->m=xs.length-i->ys.length=i->Pv i ys H2->g x σ0 H2 fun σ4 H4=>Keep σ0 σ4/\te σ4 H4 λy H5=>H5 p=some (.lst ys)/\∃m',m'<m/\CompW xs Pv (i+1) m' (ys++[y]) (upd H5 p (.lst (ys++[y]))))
  (hd:∀ys H2,ys.length=xs.length->Pv xs.length ys H2->Q (.ref p) H2):CompGoF σ0 J g te Q p H':=by
 unfold CompGoF;refine⟨CompW xs Pv,⟨_,rfl,tL _,rfl,h0⟩, ?_⟩;rintro i m ys H2 ⟨hm,hi,hy,hp⟩;refine⟨hl i ys H2 hp,by omega, ?_⟩;by_cases hlt:i<xs.length
 ·obtain⟨g1,g2⟩:=hgo i ys H2 hp hlt;refine .inr ⟨g1,λx H3 y=>?_⟩;obtain⟨e3,z⟩:=g2 x H3 y;subst e3;exact hs i m ys x _ z hm hy hp
 ·have ei:i=xs.length:=by omega
  subst ei;exact .inl ⟨hst ys H2 hp,hd ys H2 hy hp⟩
theorem yE{K:tV}{a:Addr}{xs:List V}{σ0:L2.St}{g:TG}{te:TE}{Q:VK}{p:Addr}{H':Hp}(Pv:Nat->List V->Hp->Prop)(hz:xs.length<sizeLine)(h0:Pv 0 [] H')
  (hl:∀i ys H2,Pv i ys H2->SqL K H2 a xs/\H2 p=some (.lst ys))
  (hs:∀i m ys x H2,xs[i]? = some x->m=xs.length-i->ys.length=i->Pv i ys H2->g x σ0 H2 fun σ4 H4=>Keep σ0 σ4/\te σ4 H4 λy H5=>H5 p=some (.lst ys)/\∃m',m'<m/\CompW xs Pv (i+1) m' (ys++[y]) (upd H5 p (.lst (ys++[y]))))
  (hd:∀ys H2,ys.length=xs.length->Pv xs.length ys H2->Q (.ref p) H2):CompGoF σ0 (Itl K a) g te Q p H':=
 CU Pv hz h0 (λi ys H2 h hi=>⟨⟨xs,xs[i],(hl i ys H2 h).1,by simp [hi]⟩,λx H3 y=>⟨y.1,y.2 xs (hl i ys H2 h).1⟩⟩) (λys H2 h=>⟨xs,(hl _ ys H2 h).1,tK _⟩) (λi ys H2 h=>(hl i ys H2 h).2) hs hd
theorem BQ{K:tV}{a:Addr}{xs:List V}{σ0:L2.St}{g:TG}{te:TE}{Q:VK}{p:Addr}{H':Hp}(Pv:Nat->List V->Hp->Prop)(hz:xs.length<sizeLine)(h0:Pv 0 [] H')
  (hl:∀i ys H2,Pv i ys H2->SqT K H2 a xs/\H2 p=some (.lst ys))
  (hs:∀i m ys x H2,xs[i]? = some x->m=xs.length-i->ys.length=i->Pv i ys H2->g x σ0 H2 fun σ4 H4=>Keep σ0 σ4/\te σ4 H4 λy H5=>H5 p=some (.lst ys)/\∃m',m'<m/\CompW xs Pv (i+1) m' (ys++[y]) (upd H5 p (.lst (ys++[y]))))
  (hd:∀ys H2,ys.length=xs.length->Pv xs.length ys H2->Q (.ref p) H2):CompGoF σ0 (Itt K a) g te Q p H':=
 CU Pv hz h0 (λi ys H2 h hi=>⟨⟨xs,xs[i],(hl i ys H2 h).1,by simp [hi]⟩,λx H3 y=>⟨y.1,y.2 xs (hl i ys H2 h).1⟩⟩) (λys H2 h=>⟨xs,(hl _ ys H2 h).1,tK _⟩) (λi ys H2 h=>(hl i ys H2 h).2) hs hd
section
theorem yJ(ns:List Int):∀j,j<=ns.length->preSum (λi=>ns.getD i 0) j=(ns.take j).sum
 | 0,_=>by simp [preSum]
 | j+1,h=>by
  have hj:j<ns.length:=h;show preSum (λi=>ns.getD i 0) j+ns.getD j 0=_;rw[yJ ns j #[1],List.take_succ_eq_append_getElem hj,List.sum_append,gB,gG hj];simp
theorem FU{M:Int} :∀(ns:List Int),(∀n∈ns,0<=n/\n<=M)->0<=ns.sum/\ns.sum<=ns.length*M
 | [],_=>by simp
 | n::r,h=>by
  have h1:=h n #[14];have h2:=FU r λm hm=>h m (by simp [hm]);rw[nT,mS,Int.natCast_succ,Int.add_mul];omega
def rSumT(K:tV):List V->Hp->VK->Prop:=λxs H Q=>∃(a:Addr) (ns:List Int),xs=[.ref a]/\SqT K H a #[15]/\(∀n∈ns,0<=n/\n<=2^40)/\ns.length<=1000/\Q (.int ns.sum) H
theorem HQ(hc:X.calm=true):CallR X (.builtin "sum") (rSumT X.K):=by
 intro ac s σ H xs us Q I r h;obtain⟨a,ns,rfl,hq,hb,hn,q⟩:=h;obtain⟨u,rfl,ru⟩:=qW r;cases ru;obtain⟨its,rv,p,hz⟩:=I.tuple hq;have i1:IntsAre its ns:=kY rv;have hl:=qQ i1;have ha:a<s.heap.objs.size:=by
  obtain⟨o,e,_⟩:=p;exact nV e
 refine PySem.call_sum_walk (wpAny_pyIter_tuple (t:=a) (items:=its.toArray) p ?_);refine⟨s.heap.objs.size,_,_,_,_,_,λi=>ns.getD i 0,rfl,Walks.tuple (show X.A.in1.handled=none from I.ok.hd hc) s.heap.objs.size a (nX ha) its.toArray,⟨⟨_,gY _ rfl,rfl,rfl⟩,p.keeps λb o e=>gJ _ e⟩, ?_, ?_, ?_, ?_⟩
 ·intro b hb;show b<(s.heap.push _).objs.size;rw[nN];simp only[nP,mQ,or_false]at hb;rcases hb with rfl | rfl
  ·exact mW _
  ·exact Nat.lt_succ_of_lt ha
 ·intro i v hv;have hv':its[i]? = some v:=by simpa using hv
  obtain⟨hi,e⟩:=gE.mp hv';obtain⟨n,t,e1,e2⟩:=vU i1 hi;exact⟨t,by dsimp only;rw[<-e,e2,gB,e1];rfl⟩
 ·intro j hj;have hj':j<ns.length:=by rw[<-hl];simpa using hj
  have b1:=hb ns[j] (mT hj');have b2:=FU (ns.take (j+1)) λn hn'=>hb n (gX hn');have e1:ns.getD j 0=ns[j]:=by rw[gB,gG hj'];rfl
  have l1:(ns.take (j+1)).length<=1000:=by rw[mP];omega
  dsimp only;rw[yJ ns (j+1) hj',e1];unfold InLong;refine⟨⟨by omega,by omega⟩,⟨by omega, ?_⟩⟩;have:((ns.take (j+1)).length:Int)*2^40<=1000*2^40:=Int.mul_le_mul_of_nonneg_right #[1] #[0];omega
 ·intro h' tk t' k;have e:preSum (λi=>ns.getD i 0) its.toArray.size=ns.sum:=by
   rw[mH,hl,yJ ns _ uX,mR]
  rw[e];refine⟨.int ns.sum,H,I.kept (t':=tk) (λb o q=>?_),⟨t',rfl⟩,q⟩;exact k b o (by simp;exact nX (nV q)) (gJ _ q)
end
end Lw
namespace LwT
open PySem PySem.Spec PyProof.Rows L2 Lw
def lexI(f:Int->Int->Bool)(g:Nat->Nat->Bool):List Int->List Int->Bool
 | x::xs,y::ys=>if x=y then lexI f g xs ys else f x y
 | xs,ys=>g xs.length ys.length
abbrev lexLt:List Int->List Int->Bool:=lexI (λi j=>decide (i<j)) (λm n=>decide (m<n))
abbrev lexNe:List Int->List Int->Bool:=lexI (λ_ _=>true) (λm n=>m != n)
abbrev lexGe:List Int->List Int->Bool:=lexI (λi j=>decide (j<=i)) (λm n=>decide (n<=m))
theorem xD{f g}{ys:List Int} :lexI f g [] ys=g 0 ys.length:=by cases ys<;>rfl
theorem vS{f g}{xs:List Int} :lexI f g xs []=g xs.length 0:=by cases xs<;>rfl
theorem lexGe_eq:∀(xs ys:List Int),lexGe xs ys = !lexLt xs ys
 | [],ys=>by
  show lexI _ _ _ _ = !lexI _ _ _ _;rw[xD,xD];cases ys<;>simp
 | x::xs,[]=>by
  show lexI _ _ _ _ = !lexI _ _ _ _;rw[vS,vS];simp
 | x::xs,y::ys=>by
  show(if x=y then lexGe xs ys else _) = !(if x=y then lexLt xs ys else _);by_cases h:x=y
  ·rw[tU h,tU h];exact lexGe_eq xs ys
  ·rw[tT h,tT h];by_cases h2:x<y
   ·simp [h2,show ¬y<=x by omega]
   ·simp [h2,show y<=x by omega]
theorem lexNe_eq:∀(xs ys:List Int),lexI (λ_ _=>true) (λm n=>m != n) xs ys = !decide (xs=ys)
 | [],ys=>by
  rw[xD];cases ys<;>simp
 | x::xs,[]=>by
  rw[vS];simp
 | x::xs,y::ys=>by
  show(if x=y then lexI _ _ xs ys else true)=_;by_cases h:x=y
  ·rw[tU h,lexNe_eq xs ys];simp [h]
  ·rw[tT h];simp [h]
theorem SF{f:Int->Int->Bool}{g:Nat->Nat->Bool}{xs ys:List Int}{i:Nat}(h:min xs.length ys.length<=i):lexI f g (xs.drop i) (ys.drop i)=g (xs.length-i) (ys.length-i):=by
 by_cases hx:xs.length<=i
 ·rw[gL hx,xD,List.length_drop];rw[show xs.length-i=0 by omega]
 ·have hy:ys.length<=i:=by omega
  rw[gL hy,vS,List.length_drop];rw[show ys.length-i=0 by omega]
theorem wS{vs:List Value}{ns:List Int}(r:IntsAre vs ns){i:Nat}(h:i<vs.length):∃n t,vs[i]=.int n t/\ns.drop i=n::ns.drop (i+1):=by
 obtain⟨n,t,e1,e2⟩:=vU r h;refine⟨n,t,e2, ?_⟩;obtain⟨hi,e⟩:=gE.mp e1;rw[List.drop_eq_getElem_cons hi,e]
section
variable{l b:Addr}{as bs:List Value}{xs ys:List Int}{n n2:Nat}{dd dd2:Option Addr}{sl sl2:Array (Option Value)}
theorem WW(ra:IntsAre as xs)(rb:IntsAre bs ys) :
  Meets (Builtin.«tuple.__lt__» ⟨[.ref l,.ref b],[]⟩)
   (λ_ R s=>s.heap.get? l=some { cls:=.type "tuple",dict:=dd,data:=.seq as.toArray n,slots:=sl }/\s.heap.get? b=some { cls:=.type "tuple",dict:=dd2,data:=.seq bs.toArray n2,slots:=sl2 }/\
    R (.ok (.ret (.bool (lexLt xs ys)))) s):=
 .of_wp λprog w A R s h=>by
  obtain⟨hp,g,d,tk,os⟩:=s;obtain⟨hl,hb,h⟩:=h;have f2:=AutoSeq1.sub_tuple_tuple;have la:=qQ ra;have lb:=qQ rb;have hZ:(as.zip bs).length=min as.length bs.length:=by simp
  wp_walk using wpAny_loadPart' hl,wpAny_loadPart' hb,wpAny_forIn_list _ (λrest b s'=>b.1=none/\s'=⟨hp,g,d,tk,os⟩/\∃i,i<=(as.zip bs).length/\rest=(as.zip bs).drop i/\
   R (.ok (.ret (.bool (lexLt (xs.drop i) (ys.drop i))))) ⟨hp,g,d,tk,os⟩) _
  case turn=>
   rintro⟨y,x⟩ rest b s' ⟨hb',rfl,i,hi,hz,hR⟩;have hlt:i<(as.zip bs).length:=by
    rcases Nat.lt_or_ge i (as.zip bs).length with h' | h'
    ·exact h'
    ·rw[gL h']at hz;cases hz
   have h1:i<as.length:=by omega
   have h2:i<bs.length:=by omega
   rw[List.drop_eq_getElem_cons hlt]at hz;injection hz with hyx hrest
   obtain⟨p,t1,e1,d1⟩:=wS ra h1;obtain⟨q,t2,e2,d2⟩:=wS rb h2;have hy:y=.int p t1:=by have:=congrArg Prod.fst hyx;rw[<-e1];simpa using this
   have hx:x=.int q t2:=by have:=congrArg Prod.snd hyx;rw[<-e2];simpa using this
   subst hy hx;rw[d1,d2]at hR;have hR:R (.ok (.ret (.bool (if p=q then lexLt (xs.drop (i+1)) (ys.drop (i+1))else decide (p<q))))) ⟨hp,g,d,tk,os⟩:=hR;refine tQ (SeqAt.EqAt.int_int _ _ _ _ prog w _ _ ?_);by_cases hpq:p=q
   ·rw[tU hpq]at hR;have e:(p==q)=true:=by simp [hpq]
    rw[e]
    wp_walk
    exact⟨rfl,rfl,i+1,hlt,hrest,hR⟩
   ·rw[tT hpq]at hR;have e:(p==q)=false:=by simp [hpq]
    rw[e];simp only[Bool.not_false,if_true];refine tQ (wpAny_rule ?_);refine tQ (lt_int (a:=p) (b:=q) ?_)
    wp_walk
    exact⟨_,rfl,hR⟩
  case fin=>
   rintro⟨b1,b2⟩ s' ⟨hb',rfl,i,hi,hz,hR⟩;simp only at hb';subst hb';have hge:min as.length bs.length<=i:=by
    rcases Nat.lt_or_ge i (as.zip bs).length with h' | h'
    ·rw[List.drop_eq_getElem_cons h']at hz;cases hz
    ·exact hZ▸h'
   have e:lexLt (xs.drop i) (ys.drop i)=decide (xs.length-i<ys.length-i):=SF (by rw[la,lb]at hge;exact hge);have e2:decide (xs.length-i<ys.length-i)=decide (as.length<bs.length):=by
    rw[hZ]at hi;by_cases q:as.length<bs.length
    ·rw[nG q,nG #[1]]
    ·rw[nC q,nC #[1]]
   rw[e,e2]at hR
   wp_walk
   exact⟨_,rfl,by simpa [Builtin.Tuple.tupleCompareSizes]using hR⟩
  case h=>
   exact⟨rfl,rfl,0,tL _,rfl,by simpa using h⟩
theorem WU(ra:IntsAre as xs)(rb:IntsAre bs ys) :
  Meets (Builtin.«tuple.__ne__» ⟨[.ref l,.ref b],[]⟩)
   (λ_ R s=>s.heap.get? l=some { cls:=.type "tuple",dict:=dd,data:=.seq as.toArray n,slots:=sl }/\s.heap.get? b=some { cls:=.type "tuple",dict:=dd2,data:=.seq bs.toArray n2,slots:=sl2 }/\
    R (.ok (.ret (.bool (lexNe xs ys)))) s):=
 .of_wp λprog w A R s h=>by
  obtain⟨hp,g,d,tk,os⟩:=s;obtain⟨hl,hb,h⟩:=h;have f2:=AutoSeq1.sub_tuple_tuple;have la:=qQ ra;have lb:=qQ rb;have hZ:(as.zip bs).length=min as.length bs.length:=by simp
  wp_walk using wpAny_loadPart' hl,wpAny_loadPart' hb,wpAny_forIn_list _ (λrest b s'=>b.1=none/\s'=⟨hp,g,d,tk,os⟩/\∃i,i<=(as.zip bs).length/\rest=(as.zip bs).drop i/\
   R (.ok (.ret (.bool (lexNe (xs.drop i) (ys.drop i))))) ⟨hp,g,d,tk,os⟩) _
  case turn=>
   rintro⟨y,x⟩ rest b s' ⟨hb',rfl,i,hi,hz,hR⟩;have hlt:i<(as.zip bs).length:=by
    rcases Nat.lt_or_ge i (as.zip bs).length with h' | h'
    ·exact h'
    ·rw[gL h']at hz;cases hz
   have h1:i<as.length:=by omega
   have h2:i<bs.length:=by omega
   rw[List.drop_eq_getElem_cons hlt]at hz;injection hz with hyx hrest
   obtain⟨p,t1,e1,d1⟩:=wS ra h1;obtain⟨q,t2,e2,d2⟩:=wS rb h2;have hy:y=.int p t1:=by have:=congrArg Prod.fst hyx;rw[<-e1];simpa using this
   have hx:x=.int q t2:=by have:=congrArg Prod.snd hyx;rw[<-e2];simpa using this
   subst hy hx;rw[d1,d2]at hR;have hR:R (.ok (.ret (.bool (if p=q then lexNe (xs.drop (i+1)) (ys.drop (i+1))else true)))) ⟨hp,g,d,tk,os⟩:=hR;refine tQ (SeqAt.EqAt.int_int _ _ _ _ prog w _ _ ?_);by_cases hpq:p=q
   ·rw[tU hpq]at hR;have e:(p==q)=true:=by simp [hpq]
    rw[e]
    wp_walk
    exact⟨rfl,rfl,i+1,hlt,hrest,hR⟩
   ·rw[tT hpq]at hR;have e:(p==q)=false:=by simp [hpq]
    rw[e]
    wp_walk
    exact⟨_,rfl,hR⟩
  case fin=>
   rintro⟨b1,b2⟩ s' ⟨hb',rfl,i,hi,hz,hR⟩;simp only at hb';subst hb';have hge:min as.length bs.length<=i:=by
    rcases Nat.lt_or_ge i (as.zip bs).length with h' | h'
    ·rw[List.drop_eq_getElem_cons h']at hz;cases hz
    ·exact hZ▸h'
   have e:lexNe (xs.drop i) (ys.drop i)=(xs.length-i != ys.length-i):=SF (by rw[la,lb]at hge;exact hge);have e2:(xs.length-i != ys.length-i)=(as.length != bs.length):=by
    rw[hZ]at hi;by_cases q:as.length=bs.length
    ·have q2:xs.length-i=ys.length-i:=by omega
     rw[bne,bne,q2,q,beq_self_eq_true,beq_self_eq_true]
    ·have q2:¬xs.length-i=ys.length-i:=by omega
     rw[bne,bne,beq_eq_false_iff_ne.mpr q2,beq_eq_false_iff_ne.mpr q]
   rw[e,e2]at hR
   wp_walk
   exact⟨_,rfl,by simpa [Builtin.Tuple.tupleCompareSizes]using hR⟩
  case h=>
   exact⟨rfl,rfl,0,tL _,rfl,by simpa using h⟩
end
section
variable{X:Cx}
def rOrdT(K:tV)(f:List Int->List Int->Bool):R2:=λx y H Q=>∃(a b:Addr) (ns ms:List Int),x=.ref a/\y=.ref b/\SqT K H a #[15]/\SqT K H b (ms.map V.int)/\Q (.bl (f ns ms)) H
theorem op_ltT(hu:X.A.units<cLine):OpR X (compareOp .Lt) (rOrdT X.K lexLt):=by
 intro ac s σ H x y v u Q I rx ry h;obtain⟨a,b,ns,ms,rfl,rfl,ha,hb,q⟩:=h;cases rx;cases ry;obtain⟨its,r1,p1,_⟩:=I.tuple ha;obtain⟨its2,r2,p2,_⟩:=I.tuple hb;obtain⟨⟨cls,dd,data,sl⟩,ho,hc,n,hd⟩:=id p1;obtain⟨⟨cls2,dd2,data2,sl2⟩,ho2,hc2,n2,hd2⟩:=id p2;simp only at hc hd hc2 hd2;subst hc hd hc2 hd2;exact richCompare_meets_room (op:=.Lt) ⟨_,ho,rfl⟩ ⟨_,ho2,rfl⟩ PySem.F.slot_tuple_lt PySem.F.entry_tuple_lt (PySem.F.args_tuple_lt_2 _ _) (WW (kY r1) (kY r2)) ⟨ho,ho2,show Value.bool _≠Value.notImplemented/\_ from⟨(λz=>nomatch z),⟨.bl _,H,I,rfl,q⟩⟩⟩ hu
theorem op_neT(hu:X.A.units<cLine):OpR X (compareOp .NotEq) (rOrdT X.K lexNe):=by
 intro ac s σ H x y v u Q I rx ry h;obtain⟨a,b,ns,ms,rfl,rfl,ha,hb,q⟩:=h;cases rx;cases ry;obtain⟨its,r1,p1,_⟩:=I.tuple ha;obtain⟨its2,r2,p2,_⟩:=I.tuple hb;obtain⟨⟨cls,dd,data,sl⟩,ho,hc,n,hd⟩:=id p1;obtain⟨⟨cls2,dd2,data2,sl2⟩,ho2,hc2,n2,hd2⟩:=id p2;simp only at hc hd hc2 hd2;subst hc hd hc2 hd2;exact richCompare_meets_room (op:=.NotEq) ⟨_,ho,rfl⟩ ⟨_,ho2,rfl⟩ PySem.F.slot_tuple_ne PySem.F.entry_tuple_ne (PySem.F.args_tuple_ne_2 _ _) (WU (kY r1) (kY r2)) ⟨ho,ho2,show Value.bool _≠Value.notImplemented/\_ from⟨(λz=>nomatch z),⟨.bl _,H,I,rfl,q⟩⟩⟩ hu
end
end LwT
namespace L2
open PySem PySem.Spec PyProof.Rows
section
variable{κ:Type} [DecidableEq κ]
def kK(ah:List (κ×V))(k:κ):Option V:=(ah.find? λkv=>decide (kv.1=k)).map (·.2)
def qD(ah:List (κ×V))(k:κ)(v:V):List (κ×V):=
 if (ah.any λkv=>decide (kv.1=k))=true then ah.map (λkv=>if kv.1=k then(kv.1,v)else kv)else ah++[(k,v)]
def BV(ah:List (κ×V))(k:κ):List (κ×V):=ah.filter λkv=>decide (kv.1≠k)
theorem qH{p:κ×V}{r:List (κ×V)}{k:κ}(e:p.1=k):kK (p::r) k=some p.2:=by simp [kK,List.find?_cons,e]
theorem vC{p:κ×V}{r:List (κ×V)}{k:κ}(e:¬p.1=k):kK (p::r) k=kK r k:=by simp [kK,List.find?_cons,e]
theorem xT(k:κ):∀ah:List (κ×V),(ah.any λkv=>decide (kv.1=k))=(kK ah k).isSome
 | []=>rfl
 | p::r=>by
  rw[List.any_cons];by_cases e:p.1=k
  ·simp only[qH e,nG e,Bool.true_or,Option.isSome_some]
  ·rw[vC e,nC e,Bool.false_or];exact xT k r
theorem KH(k j:κ)(y:V):∀ah:List (κ×V),kK (ah.map λkv=>if kv.1=k then(kv.1,y)else kv) j=(kK ah j).map λx=>if j=k then y else x
 | []=>rfl
 | p::r=>by
  have ih:=KH k j y r;rw[nO];by_cases h:p.1=k
  ·rw[tU h];by_cases e:p.1=j
   ·rw[qH (p:=(p.1,y)) e,qH e,Option.map_some,tU (e.symm.trans h)]
   ·rw[vC (p:=(p.1,y)) e,vC e,ih]
  ·rw[tT h];by_cases e:p.1=j
   ·rw[qH (p:=p) e,qH e,Option.map_some,tT (λz=>h (e.trans z))]
   ·rw[vC (p:=p) e,vC e,ih]
theorem FT(k j:κ)(y:V):∀ah:List (κ×V),kK ah k=none->kK (ah++[(k,y)]) j=if j=k then some y else kK ah j
 | [],_=>by
  by_cases e:k=j
  ·rw[tU e.symm];exact qH (p:=(k,y)) e
  ·rw[tT (λz=>e z.symm)];exact vC (p:=(k,y)) e
 | p::r,hn=>by
  rw[List.cons_append];have hk:¬p.1=k:=λz=>by rw[qH z]at hn;cases hn
  rw[vC hk]at hn;have ih:=FT k j y r hn;by_cases e:p.1=j
  ·rw[qH e,qH e,tT (λz=>hk (e.trans z))]
  ·rw[vC e,vC e,ih]
theorem WJ(ah:List (κ×V))(k j:κ)(y:V):kK (qD ah k y) j=if j=k then some y else kK ah j:=by
 unfold qD;by_cases a:(ah.any λkv=>decide (kv.1=k))=true
 ·rw[tU a,KH];rw[xT]at a;by_cases e:j=k
  ·obtain⟨x,hx⟩:=Option.isSome_iff_exists.mp a;rw[tU e,e,hx,Option.map_some,tU rfl]
  ·rw[tT e];cases kK ah j with
   | none=>rfl
   | some x=>rw[Option.map_some,tT e]
 ·rw[tT a];refine FT k j y ah ?_;rw[xT]at a;cases q:kK ah k with
  | none=>rfl
  | some x=>rw[q]at a;exact(a rfl).elim
theorem vO(ah:List (κ×V))(k:κ)(v:V):(qD ah k v).length<=ah.length+1:=by
 unfold qD;split
 ·rw[mY];omega
 ·rw[hJ,mS,List.length_nil];omega
theorem YH{ah:List (κ×V)}{k:κ}(v:V)(h:kK ah k=none):qD ah k v=ah++[(k,v)]:=by
 unfold qD;rw[xT,h];exact tT #[0]
theorem RelO.isSome_eq{o:Option V}{u:Option Value}(r:RelO o u):o.isSome=u.isSome:=by
 cases o with
 | none=>cases u with
  | none=>rfl
  | some _=>exact(show False from r).elim
 | some _=>cases u with
  | none=>exact(show False from r).elim
  | some _=>rfl
theorem RelO.getD{o:Option V}{u:Option Value}(r:RelO o u)(rd:RelV d d'):RelV (o.getD d) (u.getD d'):=by
 cases o with
 | none=>cases u with
  | none=>exact rd
  | some _=>exact(show False from r).elim
 | some _=>cases u with
  | none=>exact(show False from r).elim
  | some _=>exact r
theorem KV.val{ah:List (κ×V)}{vs:List (κ×Value)}(r:KV ah vs)(k:κ):RelO (kK ah k) (valueAt vs k):=by
 unfold KV at r;induction r with
 | nil=>exact True.intro
 | @cons p q ps qs h t ih=>
  obtain⟨h1,h2⟩:=h;by_cases e:p.1=k
  ·have e':q.1=k:=h1.symm.trans e;have b:valueAt (q::qs) k=some q.2:=by simp [valueAt,List.find?_cons,e']
   rw[qH e,b];exact h2
  ·have e':¬q.1=k:=λz=>e (h1.trans z);have b:valueAt (q::qs) k=valueAt qs k:=by simp [valueAt,List.find?_cons,e']
   rw[vC e,b];exact ih
theorem KV.any{ah:List (κ×V)}{vs:List (κ×Value)}(r:KV ah vs)(k:κ):(ah.any λkv=>decide (kv.1=k))=vs.any λkv=>decide (kv.1=k):=by
 unfold KV at r;induction r with
 | nil=>rfl
 | cons h t ih=>rw[List.any_cons,List.any_cons,ih,h.1]
theorem KV.repl{ah:List (κ×V)}{vs:List (κ×Value)}(r:KV ah vs)(k:κ)(ry:RelV y u) :
  KV (ah.map λkv=>if kv.1=k then(kv.1,y)else kv) (vs.map λkv=>if kv.1=k then(kv.1,u)else kv):=by
 unfold KV at r ⊢;induction r with
 | nil=>exact .nil
 | @cons p q ps qs h t ih=>
  rw[nO,nO];refine .cons ?_ ih;obtain⟨h1,h2⟩:=h;by_cases e:p.1=k
  ·rw[tU e,tU (h1.symm.trans e)];exact⟨h1,ry⟩
  ·rw[tT e,tT (λz=>e (h1.trans z))];exact⟨h1,h2⟩
theorem KV.put{ah:List (κ×V)}{vs:List (κ×Value)}(r:KV ah vs)(k:κ)(ry:RelV y u):KV (qD ah k y) (stored vs k u):=by
 unfold qD stored;rw[r.any k];by_cases e:(vs.any λkv=>decide (kv.1=k))=true
 ·rw[tU e,tU e];exact r.repl k ry
 ·rw[tT e,tT e];exact Paired.snoc r ⟨rfl,ry⟩
theorem KV.length{ah:List (κ×V)}{vs:List (κ×Value)}(r:KV ah vs):ah.length=vs.length:=Paired.length r
theorem dropK_le(ah:List (κ×V))(k:κ):(BV ah k).length<=ah.length:=List.length_filter_le _ _
end
theorem BU(r:RelV (kV k) u):(kB P w).is k u=true:=by
 cases k with
 | inl i=>obtain⟨t,e⟩:=(show ∃t,u=Value.int i t from r);subst e;exact LZ P w i t
 | inr x=>obtain⟨t,e⟩:=(show ∃t,u=Value.str x t from r);subst e;exact LY P w x t
theorem HI :∀{ks:List Key} {us:List Value},Vals (ks.map kV) us->ItemsAre (kB P w) ks us
 | [],_,r=>by rw[List.map_nil]at r;cases r;exact .nil
 | k::ks,_,r=>by
  rw[nO]at r;cases r with
  | cons h t=>exact .cons (BU h) (HI t)
abbrev KT(H:Hp):List (List Key×V)->List (List Key×Addr×Value)->Prop:=Paired λp q=>p.1=q.1/\H q.2.1=some (.tup (p.1.map kV))/\RelV p.2 q.2.2
theorem KT.val(r:KT H ah xs)(k:List Key):RelO (kK ah k) ((atKey xs k).map (·.2)):=by
 induction r with
 | nil=>exact True.intro
 | @cons p q ps qs h t ih=>
  obtain⟨h1,_,h2⟩:=h;by_cases e:p.1=k
  ·have e':q.1=k:=h1.symm.trans e;have b:atKey (q::qs) k=some q.2:=by simp [atKey,List.find?_cons,e']
   rw[qH e,b];exact h2
  ·have e':¬q.1=k:=λz=>e (h1.trans z);have b:atKey (q::qs) k=atKey qs k:=by simp [atKey,List.find?_cons,e']
   rw[vC e,b];exact ih
theorem KT.repl{ah:List (List Key×V)}{xs:List (List Key×Addr×Value)}(r:KT H ah xs)(k:List Key)(ry:RelV y u) :
  KT H (ah.map λkv=>if kv.1=k then(kv.1,y)else kv) (xs.map (putAt k u)):=by
 induction r with
 | nil=>exact .nil
 | @cons p q ps qs h t ih=>
  rw[nO,nO];refine .cons ?_ ih;obtain⟨h1,h2,h3⟩:=h;unfold putAt;by_cases e:p.1=k
  ·rw[tU e,tU (h1.symm.trans e)];exact⟨h1,h2,ry⟩
  ·rw[tT e,tT (λz=>e (h1.trans z))];exact⟨h1,h2,h3⟩
theorem KT.put(r:KT H ah xs)(k:List Key)(hb:H b=some (.tup (k.map kV)))(ry:RelV y u) :
  KT H (qD ah k y) (storedH xs k b u):=by
 have e:(ah.any λkv=>decide (kv.1=k))=(atKey xs k).isSome:=by
  rw[xT,(r.val k).isSome_eq,Option.isSome_map]
 unfold qD storedH;rw[e];by_cases q:(atKey xs k).isSome=true
 ·rw[tU q,tU q];exact r.repl k ry
 ·rw[tT q,tT q];exact Paired.snoc r ⟨rfl,hb,ry⟩
theorem KT.keeps(r:KT H ah xs)(ht:∀b ys,H b=some (.tup ys)->H' b=some (.tup ys)):KT H' ah xs:=
 Paired.mapP r λ_ _ z=>⟨z.1,ht _ _ z.2.1,z.2.2⟩
section
variable{P:Program}{w:World}{H:Hp}{h:Heap}{a:Addr}
theorem rd_of(ok:HOk P w H h)(e:Rd H a u):ObjOk P w H h a u:=e.ok ok
theorem AS{ah:List (Key×V)}(ok:HOk P w H h)(e:Rd H a (.dK ah)):ah.length<=sizeLine/\(a==sysModules)=false/\∃vs,KV ah vs/\h.DictOf (kB P w) a vs:=
 show ObjOk P w H h a (.dK ah)from rd_of ok e
theorem SX{ah:List (Key×V)}(ok:HOk P w H h)(e:H a=some (.dK ah)):ah.length<=sizeLine/\(a==sysModules)=false/\∃vs,KV ah vs/\h.DictOf (kB P w) a vs:=AS ok (.inl e)
theorem BN{ks:List Key}(ok:HOk P w H h)(e:H a=some (.tup (ks.map kV))):(tupleKind (kB P w)).is h ks a:=by
 obtain⟨_,its,r,⟨o,h1,h2,n,h3⟩,_⟩:=(show ObjOk P w H h a (.tup (ks.map kV))from ok a _ e);exact⟨o,its.toArray,n,h1,h2,h3,by simpa using HI r⟩
theorem FB{ah:List (List Key×V)}(ok:HOk P w H h)(e:Rd H a (.dT ah)):ah.length<=sizeLine/\(a==sysModules)=false/\
  ∃xs,KT H ah xs/\h.DictOfH (tupleKind (kB P w)) a xs:=by
 obtain⟨z,y,xs,r,o,es,ep,h1,h2,h3,h4,h5⟩:=(show ObjOk P w H h a (.dT ah)from rd_of ok e);refine⟨z,y,xs,r,o,es,ep,h1,h2,h3,h4,λx hx=>?_,h5⟩;have all:∀{l:List (List Key×V)} {m:List (List Key×Addr×Value)},KT H l m->∀x∈m,(tupleKind (kB P w)).is h x.1 x.2.1:=by
  intro l m q;induction q with
  | nil=>intro x hx;exact nomatch hx
  | @cons p q ps qs hq t ih=>
   intro x hx;rcases nP.mp hx with e | hx
   ·subst e;exact BN ok (by rw[<-hq.1];exact hq.2.1)
   ·exact ih x hx
 exact all r x hx
theorem dt_of{ah:List (List Key×V)}(ok:HOk P w H h)(e:H a=some (.dT ah)):ah.length<=sizeLine/\(a==sysModules)=false/\
  ∃xs,KT H ah xs/\h.DictOfH (tupleKind (kB P w)) a xs:=FB ok (.inl e)
end
def DGet(H:Hp)(a:Addr)(y:V)(r:Option V):Prop:=
 (∃ah k,Rd H a (.dK ah)/\y=kV k/\r=kK ah k)∨∃ah k b,Rd H a (.dT ah)/\y=.ref b/\H b=some (.tup (k.map kV))/\r=kK ah k
def DPut(H:Hp)(a:Addr)(y v:V)(H':Hp):Prop:=
 (∃ah k,H a=some (.dK ah)/\y=kV k/\ah.length<sizeLine/\H'=upd H a (.dK (qD ah k v)))∨
 ∃ah k b,H a=some (.dT ah)/\y=.ref b/\H b=some (.tup (k.map kV))/\ah.length<sizeLine/\H'=upd H a (.dT (qD ah k v))
theorem DGet.k{H:Hp}{a:Addr}{ah:List (Key×V)}{k:Key}(e:H a=some (.dK ah)):DGet H a (kV k) (kK ah k):=.inl ⟨ah,k,.inl e,rfl,rfl⟩
theorem DGet.t{k:List Key}(e:H a=some (.dT ah))(eb:H b=some (.tup (k.map kV))):DGet H a (.ref b) (kK ah k):=.inr ⟨ah,k,b,.inl e,rfl,eb,rfl⟩
theorem DPut.k{H:Hp}{a:Addr}{ah:List (Key×V)}{k:Key}{v:V}(e:H a=some (.dK ah))(hl:ah.length<sizeLine):DPut H a (kV k) v (upd H a (.dK (qD ah k v))):=.inl ⟨ah,k,e,rfl,hl,rfl⟩
theorem DPut.t{ah:List (List Key×V)}{k:List Key}(e:H a=some (.dT ah))(eb:H b=some (.tup (k.map kV)))(hl:ah.length<sizeLine) :
  DPut H a (.ref b) v (upd H a (.dT (qD ah k v))):=.inr ⟨ah,k,b,e,rfl,eb,hl,rfl⟩
section
variable{X:Cx}{ac:List #[17]}{σ:St}{H:Hp}{s:Shared}{a:Addr}{y v:V}{u r:Value}{o:Option V}{A:Around}{E:Value->Shared->Prop}
theorem Inv.big(I:Inv X ac σ H s):sysModules<s.heap.objs.size:=by
 have h:mainGlobals<s.heap.objs.size:=(I.mod.glob.keeps I.bk).lt;exact Nat.lt_trans #[0] h
theorem VS{Q:Value->Shared->Prop}(hu:A.units+1<cLine)(I:Inv X ac σ H s)(g:DGet H a y (some v))(ry:RelV y u)(h:∀w' s',Inv X ac σ H s'->RelV v w'->Q w' s') :
  wpAny #[4] A (getItem (.ref a) u) Q E s:=by
 rcases g with⟨ah,k,e,ey,l⟩ | ⟨ah,k,b,e,ey,eb,l⟩
 ·subst ey;obtain⟨z,hd,vs,rel,dd⟩:=AS I.hok e;obtain⟨w',hw,rw'⟩:=RelO.some_of (v:=v) (o:=valueAt vs k) (by rw[l];exact rel.val k);exact wpAny_getItem_of (BU ry) dd.mapOf hw (h w' _ (I.tok _) rw')
 ·subst ey;cases (show u=Value.ref b from ry);obtain⟨z,hd,xs,rel,dd⟩:=FB I.hok e;obtain⟨w',hw,rw'⟩:=RelO.some_of (v:=v) (o:=(atKey xs k).map (·.2)) (by rw[l];exact rel.val k);obtain⟨p,hp,hp2⟩:=Option.map_eq_some_iff.mp hw;refine wpAny_getItem_heap (tupleKind_room_in1 hu) (BN I.hok eb) dd hp ?_;rw[hp2];exact h w' _ (I.tok _) rw'
theorem d_in{Q:Value->Shared->Prop}(hu:A.units+1<cLine)(I:Inv X ac σ H s)(g:DGet H a y o)(ry:RelV y u)(h:∀s',Inv X ac σ H s'->Q (.bool o.isSome) s') :
  wpAny #[4] A (compareOp .In u (.ref a)) Q E s:=by
 rcases g with⟨ah,k,e,ey,l⟩ | ⟨ah,k,b,e,ey,eb,l⟩
 ·subst ey;obtain⟨z,hd,vs,rel,dd⟩:=AS I.hok e;refine wpAny_in_of (BU ry) hd dd.mapOf ?_;rw[<-(rel.val k).isSome_eq,<-l];exact h _ (I.tok _)
 ·subst ey;cases (show u=Value.ref b from ry);obtain⟨z,hd,xs,rel,dd⟩:=FB I.hok e;refine wpAny_in_heap (tupleKind_room_in1 hu) (BN I.hok eb) hd dd ?_;have q:=(rel.val k).isSome_eq;rw[Option.isSome_map]at q;rw[<-q,<-l];exact h _ (I.tok _)
theorem wT{h':Heap}{t':Nat}(I:Inv X ac σ H s)(mu:Mut (H a))(hs:Heap.SameBut a s.heap h')(he:∃q,h'.get? a=some q)(new:ObjOk X.prog X.w (upd H a ob) h' a ob) :
  Inv X ac σ (upd H a ob) { s with heap:=h',toks:=t' } :=
 I.write (x:=a) (e:=a) mu (.inl rfl) (λb q hb z=>(hs.2 b hb).trans z) he new
theorem FC{h':Heap}{ah:List (Key×V)}(z:ah.length<=sizeLine)(hd:(a==sysModules)=false)(rel:KV ah vs)(dd:h'.DictOf (kB P w) a vs) :
  ObjOk P w H' h' a (.dK ah):=⟨z,hd,vs,rel,dd⟩
theorem VR{Q:Unit->Shared->Prop}(hu:A.units+1<cLine)(I:Inv X ac σ H s)(g:DPut H a y v H')(ry:RelV y u)(rv:RelV v r)(h:∀s',Inv X ac σ H' s'->Q () s') :
  wpAny #[4] A (setItem (.ref a) u r) Q E s:=by
 rcases g with⟨ah,k,e,ey,l,eH⟩ | ⟨ah,k,b,e,ey,eb,l,eH⟩
 ·subst ey eH;obtain⟨z,hd,vs,rel,dd⟩:=SX I.hok e;have hz:vs.length<=sizeLine:=by rw[<-rel.length];exact z
  have hl:(qD ah k v).length<=sizeLine:=by have:=vO ah k v;omega
  refine wpAny_setItem_pairs (hsz:=hz) (BU ry) dd λh' dd' hs=>h _ ?_;have he:∃q,h'.get? a=some q:=let ⟨q,_,_,hq,_⟩:=dd';⟨q,hq⟩;exact wT I (by rw[e];exact True.intro) hs he (FC hl hd (rel.put k rv) dd')
 ·subst ey eH;cases (show u=Value.ref b from ry);obtain⟨z,hd,xs,rel,dd⟩:=dt_of I.hok e;have hz:xs.length<=sizeLine:=by rw[<-Paired.length rel];exact z
  have hl:(qD ah k v).length<=sizeLine:=by have:=vO ah k v;omega
  refine wpAny_setItem_heap (hsz:=hz) (tupleKind_room_in1 hu) (BN I.hok eb) dd λh' dd' hs=>h _ ?_;obtain⟨q,es,ep,hq,h2,h3,h4,_,h5⟩:=dd';refine wT I (by rw[e];exact True.intro) hs ⟨q,hq⟩ ⟨hl,hd,_,(rel.put k eb rv).keeps λc ys ec=>?_,q,es,ep,hq,h2,h3,h4,h5⟩;rw[jI (ne_of ec e (λz=>nomatch z))];exact ec
end
section
variable{X:Cx}{ac:List #[17]}{σ:St}{H:Hp}{s:Shared}{a:Addr}{ah:List (Key×V)}{k:Key}{u:Value}{A:Around}{E:Value->Shared->Prop}
end
def NoSl(i:Expr):Prop:=∀ov iv,subscripted i false ov iv=operate [ov,iv] (getItem ov iv)
theorem subD_of{prog:Program}{w:World}{A:Around}{E:Value->Shared->Prop}{s:Shared}{env:Env}{value slice:Expr}{pos:Pos}{T id:String}{Q:Value->Shared->Prop}
  (hl:typeLookup (.type T) "__getitem__" = pure (some (.builtin id))) (hs:NoSl slice)
  (h:wpAny #[7] A (eval value env) (λo s₁=>wpAny #[7] A (eval slice env) (λi s₂=>s₂.TypeIs o T/\wpAny #[7] A (getItem o i) Q E s₂) E s₁) E s) :
  wpAny #[7] A (eval (.Subscript value slice pos) env) Q E s:=by
 refine Subscript_ (tS h (λo s₁ h₁=>tS h₁ (λi s₂ h₂=>?_) λ_ _ x=>x) λ_ _ x=>x);obtain⟨hT,h₂⟩:=h₂;unfold subscriptTail;refine tQ ?_;rw[getitemInPython_of_ne hT.not_modules];refine tQ (wpAny_specialOf hT hl ?_);have fin:wpAny #[7] A (subscripted slice false o i) (λr s₃=>wpAny #[7] A (letTemporaryGo value o r >>= λ_=>pure r) Q E s₃) E s₂:=by
  rw[hs o i];exact wpAny_operating (tS h₂ (λr s₃ h₃=>tQ (wpAny_letTemporaryGo (tR h₃))) λ_ _ x=>x)
 first
  | exact tR (tQ fin)
  | exact tQ (tR (tQ fin))
  | exact tQ fin
theorem MO{s:Shared}(I:Inv X ac σ H s)(g:DGet H a y o):s.TypeIs (.ref a) "dict":=by
 rcases g with⟨ah,k,e,_,_⟩ | ⟨ah,k,b,e,_,_,_⟩
 ·obtain⟨_,_,vs,_,dd⟩:=AS I.hok e;exact dd.typeIs
 ·obtain⟨_,_,xs,_,dd⟩:=FB I.hok e;exact dd.typeIs
def tDGet(td ty:TE):TE:=fun σ H Q=>td σ H λx H1=>ty σ H1 λy H2=>∃a v,x=.ref a/\DGet H2 a y (some v)/\Q v H2
def tDIn(ty td:TE):TE:=fun σ H Q=>ty σ H λy H1=>td σ H1 λx H2=>∃a o,x=.ref a/\DGet H2 a y o/\Q (.bl o.isSome) H2
def sDPut(td ty tv:TE):TS:=λD σ H=>tv σ H λv H1=>td σ H1 λx H2=>ty σ H2 λy H3=>∃a H4,x=.ref a/\DPut H3 a y v H4/\D.nx σ H4
section
variable{X:Cx}{o i e value:Expr}{pos pos' tpos:Pos}{td ty tv:TE}
theorem wN(hu:X.A.units+1<cLine)(ho:PE X o td)(hi:PE X i ty)(hs:NoSl i):PE X (.Subscript o i pos) (tDGet td ty):=by
 intro ac s σ H Q I h;refine subD_of PySem.F.slot_dict_getitem.lookup hs (thn (ho ac s σ H _ I h) λu s1 ⟨x,H1,I1,rx,q1⟩=>thn (hi ac s1 σ H1 _ I1 q1) λiv s2 ⟨y,H2,I2,ry,a,v,ex,g,q2⟩=>?_);subst ex;obtain rfl:u=Value.ref a:=rx;exact⟨MO I2 g,VS hu I2 g ry λw' s3 I3 rw'=>⟨v,H2,I3,rw',q2⟩⟩
theorem YW(hu:X.A.units+1<cLine)(hi:PE X i ty)(ho:PE X o td):PC X .In i o (tDIn ty td):=by
 intro ac s σ H Q I h;refine thn (hi ac s σ H _ I h) λiv s1 ⟨y,H1,I1,ry,q1⟩=>thn (ho ac s1 σ H1 _ I1 q1) λu s2 ⟨x,H2,I2,rx,a,ov,ex,g,q2⟩=>?_;subst ex;obtain rfl:u=Value.ref a:=rx;exact d_in hu I2 g ry λs3 I3=>⟨.bl ov.isSome,H2,I3,rfl,q2⟩
theorem CJ(hu:X.A.units+1<cLine)(ho:PE X o td)(hi:PE X i ty)(hv:PE X value tv)(hs:swapsWith value (some (.Subscript o i pos')) pos.line X.env=pure false) :
  PS X (.Assign [.Subscript o i pos'] value pos) (sDPut td ty tv):=by
 intro ac s σ H D I h;refine wpAny_Assign_Subscript (thn (hv ac s σ H _ I h) λr s1 ⟨v,H1,I1,rv,q1⟩=>thn (ho ac s1 σ H1 _ I1 q1) λu s2 ⟨x,H2,I2,rx,q2⟩=>thn (hi ac s2 σ H2 _ I2 q2) λiv s3 ⟨y,H3,I3,ry,a,H4,ex,g,q3⟩=>?_) hs;subst ex;obtain rfl:u=Value.ref a:=rx;exact VR hu I3 g ry rv λs4 I4=>⟨σ,H4,I4,q3⟩
end
theorem MN(h:Heap)(hb:sysModules<h.objs.size):ObjOk P w H (h.push { cls:=.type "dict",data:=.dict #[] }) h.objs.size (.dK []):=
 ⟨tL _,beq_eq_false_iff_ne.mpr (Ne.symm (nX hb)),[],.nil,Heap.DictOf.new h⟩
theorem dt_empty(h:Heap)(hb:sysModules<h.objs.size):ObjOk P w H (h.push { cls:=.type "dict",data:=.dict #[] }) h.objs.size (.dT []):=
 ⟨tL _,beq_eq_false_iff_ne.mpr (Ne.symm (nX hb)),[],.nil,_,#[],0,gY _ rfl,⟨rfl,rfl,rfl⟩,rfl,rfl,nM⟩
def tDNewK:TE:=λ_ H Q=>∀p,H p=none->Q (.ref p) (upd H p (.dK []))
def tDNewT:TE:=λ_ H Q=>∀p,H p=none->Q (.ref p) (upd H p (.dT []))
section
variable{X:Cx}{pos:Pos}
theorem zU:PE X (.Dict [] [] pos) tDNewK:=λac s σ H Q I h=>
 wpAny_Dict_empty ⟨.ref s.heap.objs.size,_,I.laid (a:=s.heap.objs.size) (o:=.dK []) (t':=s.toks) (λ_ _ q=>gJ _ q) uX (MN s.heap I.big),rfl,h _ (I.hok.fresh uX)⟩
theorem YS:PE X (.Dict [] [] pos) tDNewT:=λac s σ H Q I h=>
 wpAny_Dict_empty ⟨.ref s.heap.objs.size,_,I.laid (a:=s.heap.objs.size) (o:=.dT []) (t':=s.toks) (λ_ _ q=>gJ _ q) uX (dt_empty s.heap I.big),rfl,h _ (I.hok.fresh uX)⟩
end
def NG:List (TE×TE)->St->Hp->(List (V×V)->Hp->Prop)->Prop
 | [],_,H,Q=>Q [] H
 | (tk,tv)::r,σ,H,Q=>tk σ H λx H1=>tv σ H1 λy H2=>NG r σ H2 λps H3=>Q ((x,y)::ps) H3
abbrev VV:List (V×V)->List (Value×Value)->Prop:=Paired λp q=>RelV p.1 q.1/\RelV p.2 q.2
def PPs(X:Cx)(pos:Pos)(keys:List (Option Expr))(values:List Expr)(trs:List (TE×TE)):Prop:=
 ∀(ac:List #[17]) (s:Shared) (σ:St) (H:Hp) (Q:List (V×V)->Hp->Prop),Inv X ac σ H s->NG trs σ H Q->
  wpAny #[4] X.A (evalPairs (pairTrees keys values X.env pos)) (λvs s'=>∃ps H',Inv X ac σ H' s'/\VV ps vs/\Q ps H') X.xe s
theorem pps_nil :PPs X pos [] [] []:=λac s σ H Q I h=>pairTrees_nil_walk ⟨[],H,I,.nil,h⟩
theorem YK(hk:PE X k tk)(hv:PE X v tv)(hr:PPs X pos ks vs trs) :
  PPs X pos (some k::ks) (v::vs) ((tk,tv)::trs):=λac s σ H Q I h=>
 pairTrees_cons_walk (thn (hk ac s σ H _ I h) λu s1 ⟨x,H1,I1,rx,q1⟩=>thn (hv ac s1 σ H1 _ I1 q1) λw2 s2 ⟨y,H2,I2,ry,q2⟩=>
  thn (hr ac s2 σ H2 _ I2 q2) λws s3 ⟨ps,H3,I3,rel,q3⟩=>⟨(x,y)::ps,H3,I3,.cons ⟨rx,ry⟩ rel,q3⟩)
def ER(ah more:List (Key×V)):List (Key×V):=more.foldl (λacc kv=>qD acc kv.1 kv.2) ah
theorem KV.merge:∀{more:List (Key×V)} {rs:List (Key×Value)} {ah:List (Key×V)} {vs:List (Key×Value)},KV more rs->KV ah vs->KV (ER ah more) (merged vs rs):=by
 intro more rs ah vs r;unfold KV at r;induction r generalizing ah vs with
 | nil=>intro q;exact q
 | @cons p q ps qs h t ih=>
  intro r0;have e:KV (qD ah p.1 p.2) (stored vs q.1 q.2):=by
   have:=r0.put p.1 h.2;rw[<-h.1];exact this
  exact ih e
theorem wX:∀(more ah:List (Key×V)),(ER ah more).length<=ah.length+more.length
 | [],ah=>by show ah.length<=ah.length+0;omega
 | p::r,ah=>by
  have h1:=wX r (qD ah p.1 p.2);have h2:=vO ah p.1 p.2;show(ER (qD ah p.1 p.2) r).length<=_;rw[mS];omega
theorem FI :∀{ah:List (Key×V)} {ws:List (Value×Value)},VV (ah.map λkv=>(kV kv.1,kv.2)) ws->∃rs,Carries (kB P w) ws rs/\KV ah rs
 | [],_,r=>by rw[List.map_nil]at r;cases r;exact⟨[],True.intro,.nil⟩
 | p::ah,_,r=>by
  rw[nO]at r;cases r with
  | @cons a b as bs h t=>
   obtain⟨rs,c,q⟩:=FI (P:=P) (w:=w) t;obtain⟨b1,b2⟩:=b;exact⟨(p.1,b2)::rs,⟨BU h.1,rfl,c⟩,.cons ⟨rfl,h.2⟩ q⟩
def tDisp(trs:List (TE×TE)):TE:=fun σ H Q=>∀p,H p=none->NG trs σ (upd H p (.dK [])) λps H2=>H2 p=some (.dK [])/\∃ah:List (Key×V),ps=ah.map (λkv=>(kV kv.1,kv.2))/\ah.length<=15/\Q (.ref p) (upd H2 p (.dK (ER [] ah)))
theorem pe_disp{keys:List (Option Expr)}{values:List Expr}(h:PPs X pos keys values trs)(hall:keys.all (·.isSome)=true)(hl:keys.length=values.length)(h0:keys≠[])
  (h15:keys.length<=15):PE X (.Dict keys values pos) (tDisp trs):=by
 intro ac s σ H Q I q;have hn:=I.hok.fresh (tK s.heap.objs.size);have I1:=I.laid (a:=s.heap.objs.size) (o:=.dK []) (h':=s.heap.push { cls:=.type "dict",data:=.dict #[] }) (t':=s.toks) (λ_ _ q=>gJ _ q) uX (MN s.heap I.big);refine wpAny_Dict_walk (knd:=kB X.prog X.w) hall hl h0 h15 (thn (h ac _ σ _ _ I1 (q _ hn)) λws s2 ⟨ps,H2,I2,rel,e,ah,ep,lk,q2⟩=>?_);subst ep;obtain⟨rs,c,rk⟩:=FI (P:=X.prog) (w:=X.w) rel;obtain⟨z,hd,vs0,r0,dd⟩:=SX I2.hok e;cases r0;refine⟨rs,c,dd,λh' dd' hs=>⟨.ref s.heap.objs.size,_, ?_,rfl,q2⟩⟩;have hz:(ER [] ah).length<=sizeLine:=by
  have h1:=wX ah [];rw[List.length_nil]at h1;rw[sizeLine_eq];omega
 have he:∃q,h'.get? s.heap.objs.size=some q:=let ⟨q,_,_,hq,_⟩:=dd';⟨q,hq⟩;exact wT I2 (by rw[e];exact True.intro) hs he (FC hz hd (rk.merge .nil) dd')
structure M1(X:Cx)(o:Expr)(m:Str)(apos:Pos)(e:Expr)(cpos:Pos):Prop where
 base:attributeBase o m X.env (eval o X.env)=eval o X.env
 few:((backTo cpos (starEach [e] X.env)).all (λx=>!x.1)&&(backToKw cpos (keywordEach [] X.env)).all (λx=>x.1.isSome)
  &&decide (([e]:List Expr).length+([]:List Keyword).length+(if ([]:List Keyword).isEmpty then 0 else 1)<30))=true
 line:(apos.endLine==cpos.line)=true
 trees:backTo cpos (starEach [e] X.env)=[(false,eval e X.env)]
structure M2(X:Cx)(o:Expr)(m:Str)(apos:Pos)(e f:Expr)(cpos:Pos):Prop where
 base:attributeBase o m X.env (eval o X.env)=eval o X.env
 few:((backTo cpos (starEach [e,f] X.env)).all (λx=>!x.1)&&(backToKw cpos (keywordEach [] X.env)).all (λx=>x.1.isSome)
  &&decide (([e,f]:List Expr).length+([]:List Keyword).length+(if ([]:List Keyword).isEmpty then 0 else 1)<30))=true
 line:(apos.endLine==cpos.line)=true
 trees:backTo cpos (starEach [e,f] X.env)=[(false,eval e X.env),(false,eval f X.env)]
def IsD(H:Hp)(a:Addr):Prop:=(∃ah,Rd H a (.dK ah))∨∃ah,Rd H a (.dT ah)
theorem OF{s:Shared}(I:Inv X ac σ H s)(d:IsD H a) :
  s.TypeIs (.ref a) "dict"/\(∀b,Value.ref a=.ref b->∃ob,s.heap.get? b=some ob/\ob.dict=none)/\(a==sysModules)=false:=by
 rcases d with⟨ah,e⟩ | ⟨ah,e⟩
 ·obtain⟨_,hd,vs,_,dd⟩:=AS I.hok e;refine⟨dd.typeIs,λb q=>?_,hd⟩;cases q;obtain⟨ob,_,_,h1,h2,_⟩:=dd;exact⟨ob,h1,h2.2.1⟩
 ·obtain⟨_,hd,xs,_,dd⟩:=FB I.hok e;refine⟨dd.typeIs,λb q=>?_,hd⟩;cases q;obtain⟨ob,_,_,h1,h2,_⟩:=dd;exact⟨ob,h1,h2.2.1⟩
section
variable{X:Cx}{ac:List #[17]}{σ:St}{H:Hp}{s:Shared}{a:Addr}{y d:V}{u r:Value}{o:Option V}{A:Around}{E:Value->Shared->Prop}
theorem d_get2{Q:Value->Shared->Prop}(hu:A.units+1<cLine)(I:Inv X ac σ H s)(g:DGet H a y o)(ry:RelV y u)(rd:RelV d r)(h:∀w' s',Inv X ac σ H s'->RelV (o.getD d) w'->Q w' s') :
  wpAny #[4] A (call (.builtin "dict.get") [.ref a,u,r]) Q E s:=by
 rcases g with⟨ah,k,e,ey,l⟩ | ⟨ah,k,b,e,ey,eb,l⟩
 ·subst ey;obtain⟨z,hd,vs,rel,dd⟩:=AS I.hok e;refine call_meetsIn PySem.F.slot_dict_get dd.typeIs PySem.F.entry_dict_get (PySem.F.args_dict_get_3 _ _ _) (meets_dict_get_default (kB X.prog X.w) a (BU ry) hd r) ⟨_,dd.mapOf,h _ _ (I.tok _) ?_⟩;rw[l];exact(rel.val k).getD rd
 ·subst ey;cases (show u=Value.ref b from ry);obtain⟨z,hd,xs,rel,dd⟩:=FB I.hok e;refine call_meetsIn PySem.F.slot_dict_get dd.typeIs PySem.F.entry_dict_get (PySem.F.args_dict_get_3 _ _ _) (meetsH_dict_get_default (tupleKind (kB X.prog X.w)) a b hd r) ⟨tupleKind_room_in1 hu,k,xs,BN I.hok eb,dd,h _ _ (I.tok _) ?_⟩;rw[l];exact(rel.val k).getD rd
end
def tDGet2(td ty tx:TE):TE:=fun σ H Q=>td σ H λx H1=>∃a,x=.ref a/\IsD H1 a/\ty σ H1 λy H2=>tx σ H2 λz H3=>∃o,DGet H3 a y o/\Q (o.getD z) H3
section
variable{X:Cx}{o e f:Expr}{apos cpos:Pos}{td ty tx:TE}
theorem EF(hu:X.A.units+1<cLine)(ho:PE X o td)(he:PE X e ty)(hf:PE X f tx)(m:M2 X o "get" apos e f cpos):PE X (.Call (.Attribute o "get" apos) [e,f] [] cpos) (tDGet2 td ty tx):=by
 intro ac s σ H Q I h;refine wpAny_Call_method m.base m.few m.line PySem.F.plainAttrs_dict PySem.F.slot_dict_get PySem.F.type_dict_get (thn (ho ac s σ H _ I h) λu s1 ⟨x,H1,I1,rx,a,ex,d,q1⟩=>?_);subst ex;obtain rfl:u=Value.ref a:=rx;obtain⟨t1,t2,_⟩:=OF I1 d;refine⟨t1,t2, ?_⟩;rw[m.trees];refine Calls.callWith_builtin rfl (Calls.evalArgs_plain (Calls.spliced_cons (thn (he ac s1 σ H1 _ I1 q1) λiv s2 ⟨y,H2,I2,ry,q2⟩=>
  Calls.spliced_cons (thn (hf ac s2 σ H2 _ I2 q2) λfv s3 ⟨z,H3,I3,rz,ov,g,q3⟩=>Calls.spliced_nil ?_))))
 exact d_get2 hu I3 g ry rz λw' s4 I4 rw'=>⟨_,H3,I4,rw',q3⟩
end
section
variable{X:Cx}{ac:List #[17]}{σ:St}{H:Hp}{s:Shared}{a:Addr}{ah:List (Key×V)}{A:Around}{E:Value->Shared->Prop}
theorem d_copyOf{Q:Value->Shared->Prop}(I:Inv X ac σ H s)(e:Rd H a (.dK ah))(h:∀p s',H p=none->Inv X ac σ (upd H p (.dK ah)) s'->Q (.ref p) s'):wpAny #[4] A (call (.type "dict") [.ref a]) Q E s:=by
 obtain⟨z,hd,vs,rel,dd⟩:=AS I.hok e;refine kt_call_dict hd dd (by rw[<-rel.length];exact z) λh' dd' hs=>?_;refine h _ _ (I.hok.fresh uX) (I.laid (a:=s.heap.objs.size) (o:=.dK ah) (t':=s.toks) (λb q hq=>?_) uX (FC z (beq_eq_false_iff_ne.mpr (Ne.symm (nX I.big))) rel dd'));exact(hs.2 b (nX (nV hq))).trans (gJ _ hq)
end
section
variable{X:Cx}{ac:List #[17]}{σ:St}{H:Hp}{s:Shared}{a:Addr}{y:V}{u:Value}{A:Around}{E:Value->Shared->Prop}
end
section
variable{X:Cx}
end
end L2
namespace L2
section
variable{κ:Type} [DecidableEq κ]
theorem WK{ah:List (κ×V)}{k:κ}(h:kK ah k=none):¬k∈ah.map (·.1):=by
 intro m;obtain⟨p,hp,e⟩:=nY.mp m;have q:(ah.any λkv=>decide (kv.1=k))=true:=List.any_eq_true.mpr ⟨p,hp,nG e⟩;rw[xT,h]at q;exact absurd q #[14]
theorem valV_in{ah:List (κ×V)}{k:κ}(h:kK ah k=some v):k∈ah.map (·.1):=by
 have q:(ah.any λkv=>decide (kv.1=k))=true:=by
  rw[xT,h];all_goals rfl
 obtain⟨p,hp,e⟩:=List.any_eq_true.mp q;exact nY.mpr ⟨p,hp,mK e⟩
end
end L2
namespace LwD
open PySem PySem.Spec PyProof.Rows L2
theorem KTdrop{xs:List (List Key×Addr×Value)}(r:KT H ah xs)(k:List Key):KT H (BV ah k) (xs.filter λx=>decide (x.1≠k)):=by
 induction r with
 | nil=>exact .nil
 | @cons p q ps qs h t ih=>
  unfold BV at ih ⊢;rw[mX,mX];by_cases e:p.1=k
  ·rw[tT (by simp [e]),tT (by rw[h.1]at e;simp [e])];exact ih
  ·rw[tU (by simp [e]),tU (by rw[h.1]at e;simp [e])];exact .cons h ih
theorem HF{α β:Type}(f:α->β):∀(xs:List α) (j:Nat),(xs.map f).eraseIdx j=(xs.eraseIdx j).map f
 | [],_=>rfl
 | _::_,0=>rfl
 | x::r,j+1=>by rw[nO,List.eraseIdx_cons_succ,List.eraseIdx_cons_succ,nO,HF f r j]
theorem AM{K:Type} [DecidableEq K]{k:K} :∀{xs:List (K×Addr×Value)} {j:Nat} {p:Addr×Value},(xs.map (·.1)).Nodup->xs[j]? = some (k,p)->xs.eraseIdx j=xs.filter λx=>decide (x.1≠k)
 | [],_,_,_,e=>by simp at e
 | x::r,0,p,hn,e=>by
  simp only[List.getElem?_cons_zero,Option.some.injEq]at e;subst e;rw[nO,List.nodup_cons]at hn;rw[List.eraseIdx_zero,List.tail_cons,mX,tT #[14]]
  symm
  rw[List.filter_eq_self];intro y hy;have:y.1≠k:=λz=>hn.1 (nY.mpr ⟨y,hy,z⟩);simp [this]
 | x::r,j+1,p,hn,e=>by
  rw[nO,List.nodup_cons]at hn;have e':r[j]? = some (k,p):=by simpa using e
  have hx:x.1≠k:=λz=>hn.1 (z▸nY.mpr ⟨(k,p),gQ e',rfl⟩);rw[List.eraseIdx_cons_succ,mX,tU (by simp [hx]),AM hn.2 e']
section
variable{prog:Program}{w:World}{K:Type} [DecidableEq K]{knd:HeapKind prog w K}{A:Around}{E:Value->Shared->Prop}{s:Shared}
theorem IC{xs:List (K×Addr×Value)}{Q:Option DictEntry->Shared->Prop}(hu:knd.room A)(hkey:knd.is s.heap k a)(hm:s.heap.DictOfH knd d xs)(hz:xs.length<=sizeLine)(hp:atKey xs k=some p)
  (hs:∀h',h'.DictOfH knd d (xs.filter λx=>decide (x.1≠k))->Heap.SameBut d s.heap h'->Q (some (entryOfKey knd (k,p))) { s with heap:=h',toks:=s.toks+knd.draws k }) :
  wpAny #[7] A (Builtin.Dict.takeOut d (.ref a)) Q E s:=by
 obtain⟨o,es,ep,ho,hc,hd,he,his,hn⟩:=hm;have hes:es.size<=sizeLine:=by rw[size_of_entries he];exact hz
 unfold Builtin.Dict.takeOut;try with_reducible refine wpAny_holding ?_
 refine tQ (knd.pyHash hu hkey (tQ (wpAny_dictFind_heap (s:={ s with toks:=s.toks+knd.draws k }) hu hkey ho hd he his hn ?_ ?_)))
 ·intro hno;rw[atKey_none_of_get hno]at hp;cases hp
 ·intro j p' hj;rw[atKey_of_get hn hj]at hp;cases hp;refine tQ (wpAny_dictEntries (s:={ s with toks:=s.toks+knd.draws k }) ho hd ?_);rw[entry_at he j,hj];refine tQ (wpAny_updateDictKeys (hz:=hes) (s:={ s with toks:=s.toks+knd.draws k }) ho hd (tR (hs _ ⟨_,_,ep+1,Heap.get?_update_self _ ho (Obj.isFreed_of_dict (Obj.data_mapDictKeys hd _)),hc.mapDictKeys _,Obj.data_mapDictKeys hd _, ?_, ?_, ?_⟩ (Heap.SameBut.update ..))))
  ·rw[<-AM hn hj];obtain⟨l⟩:=es;simp only at he;subst he;show((List.map (entryOfKey knd) xs).toArray.eraseIdxIfInBounds j).toList=_;rw[List.eraseIdxIfInBounds_toArray];exact HF _ xs j
  ·intro x hx;exact knd.keeps (his x (List.mem_filter.mp hx).1) ho hd (Heap.SameBut.update ..)
  ·exact hn.sublist (List.filter_sublist.map _)
theorem NX :
  MeetsIn prog w (Builtin.«dict.pop» ⟨[.ref d,.ref a],[]⟩) (λA R s=>∃xs p,knd.room A.in1/\knd.is s.heap k a/\s.heap.DictOfH knd d xs/\xs.length<=sizeLine/\atKey xs k=some p/\
   ∀h',h'.DictOfH knd d (xs.filter λx=>decide (x.1≠k))->Heap.SameBut d s.heap h'->R (.ok (.ret p.2)) { s with heap:=h',toks:=s.toks+knd.draws k }):=
 .of_wp λA R s ⟨xs,p,hu,hkey,hm,hz,hp,h⟩=>by
  unfold Builtin.«dict.pop»;refine tQ ?_;unfold Builtin.Dict.keyAndDefault;refine tQ (wpAny_notOrdered_dict hm.typeIs ?_);show wpAny _ _ (pure (d,Value.ref a,none)) _ _ s;refine tR ?_;obtain⟨o,es,ep,ho,hc,hd,he,his,hn⟩:=id hm;have ne:es.isEmpty=false:=by
   have e1:=size_of_entries he;have e2:xs≠[]:=λz=>by subst z;cases hp
   have e3:0<xs.length:=List.length_pos_iff.mpr e2;rw[Array.isEmpty_eq_false_iff_exists_mem];exact⟨es[0]'#[1],Array.getElem_mem _⟩
  have go:wpAny #[7] A.in1 (Builtin.Dict.takeOut d (.ref a)) (λold s'=>old=some (entryOfKey knd (k,p))/\R (.ok (.ret p.2)) s') (λ_ _=>False) s:=
   IC hu hkey hm hz hp λh' hm' hs'=>⟨rfl,h h' hm' hs'⟩
  have kp:(keyPart (Value.ref a)).isSome=false:=rfl;simp only[kp,Bool.false_eq_true,if_false];refine tQ (wpAny_dictEntries ho hd ?_);rw[ne];refine tQ (tR ?_);simp only[Bool.false_eq_true,if_false];refine tQ (tS go (λold s' ⟨e1,hR⟩=>?_) λ_ _ z=>z.elim);subst e1;simp only[Option.isNone_some,Bool.false_eq_true,if_false];exact tQ (wpAny_letGo (tR ⟨p.2,rfl,hR⟩))
end
section
variable{X:Cx}{ac:List #[17]}{σ:L2.St}{H:Hp}{s:Shared}{a b:Addr}{ah:List (List Key×V)}{k:List Key}{E:Value->Shared->Prop}
theorem d_popT{Q:Value->Shared->Prop}(hu:X.A.units+1<cLine)(I:Inv X ac σ H s)(e:H a=some (.dT ah))(eb:H b=some (.tup (k.map kV)))(l:kK ah k=some v)
  (h:∀w' s',Inv X ac σ (upd H a (.dT (BV ah k))) s'->RelV v w'->Q w' s'):wpAny #[4] X.A (call (.builtin "dict.pop") [.ref a,.ref b]) Q E s:=by
 obtain⟨z,hd,xs,rel,dd⟩:=dt_of I.hok e;have hz:xs.length<=sizeLine:=by rw[<-Paired.length rel];exact z
 have rv:=rel.val k;rw[l]at rv;cases hp:atKey xs k with
 | none=>rw[hp]at rv;exact rv.elim
 | some p=>
  rw[hp]at rv;refine call_meetsIn PySem.F.slot_dict_pop dd.typeIs PySem.F.entry_dict_pop (PySem.F.args_dict_pop_2 _ _) (NX (knd:=tupleKind (kB X.prog X.w)) (k:=k)) ⟨xs,p,tupleKind_room_in1 hu,BN I.hok eb,dd,hz,hp,λh' dd' hs=>h p.2 _ ?_ rv⟩;obtain⟨q,es,ep,hq,h2,h3,h4,_,h5⟩:=dd';have hl:(BV ah k).length<=sizeLine:=nW (dropK_le ah k) z;refine wT I (by rw[e];exact True.intro) hs ⟨q,hq⟩ ⟨hl,hd,_,(KTdrop rel k).keeps λc ys ec=>?_,q,es,ep,hq,h2,h3,h4,h5⟩;rw[jI (ne_of ec e (λz=>nomatch z))];exact ec
variable{o e:Expr}{td ty:TE}{apos cpos:Pos}
def tDPopT(td ty:TE):TE:=fun σ H Q=>td σ H λx H1=>∃a,x=.ref a/\IsD H1 a/\ty σ H1 λy H2=>∃ah k v b,H2 a=some (.dT ah)/\y=.ref b/\H2 b=some (.tup (k.map kV))/\kK ah k=some v/\Q v (upd H2 a (.dT (BV ah k)))
theorem YR(hu:X.A.units+1<cLine)(ho:PE X o td)(he:PE X e ty)(m:M1 X o "pop" apos e cpos):PE X (.Call (.Attribute o "pop" apos) [e] [] cpos) (tDPopT td ty):=by
 intro ac s σ H Q I h;refine wpAny_Call_method m.base m.few m.line PySem.F.plainAttrs_dict PySem.F.slot_dict_pop PySem.F.type_dict_pop (thn (ho ac s σ H _ I h) λu s1 ⟨x,H1,I1,rx,a,ex,d,q1⟩=>?_);subst ex;obtain rfl:u=Value.ref a:=rx;obtain⟨t1,t2,_⟩:=OF I1 d;refine⟨t1,t2, ?_⟩;rw[m.trees];refine Calls.callWith_builtin rfl (Calls.evalArgs_plain (Calls.spliced_cons (thn (he ac s1 σ H1 _ I1 q1) λiv s2 ⟨y,H2,I2,ry,ah,k,v,b,ea,ey,eb,l,q2⟩=>Calls.spliced_nil ?_)));subst ey;cases ry;exact d_popT hu I2 ea eb l λw' s3 I3 rw'=>⟨v,_,I3,rw',q2⟩
end
def Raw(h:Heap)(d:Addr)(es:Array DictEntry)(ep:Nat):Prop:=∃o,h.get? d=some o/\o.ExactDict/\o.data=.dict es ep
theorem Raw.lt{h:Heap}{ep:Nat}(r:Raw h d es ep):d<h.objs.size:=let ⟨_,e,_⟩:=r;nV e
theorem Raw.keep{h h':Heap}{ep:Nat}(r:Raw h d es ep)(k:∀o,h.get? d=some o->h'.get? d=some o):Raw h' d es ep:=let ⟨o,e,x⟩:=r;⟨o,k o e,x⟩
theorem Raw.ty{s:Shared}{ep:Nat}(r:Raw s.heap d es ep):s.TypeIs (.ref d) "dict":=let ⟨o,e,c,_⟩:=r;⟨o,e,c.1⟩
section
variable{prog:Program}{w:World}{A:Around}{E:Value->Shared->Prop}{s:Shared}{d it:Addr}{es:Array DictEntry}{ep i:Nat}
theorem LA{Q:Value->Shared->Prop}(lo:(d==sysModules)=false)(r:Raw s.heap d es ep)
  (q:Q (.ref s.heap.objs.size) { s with heap:=s.heap.push { cls:=.type "dict_keyiterator",data:=.fields #[.ref d,.int 0 0,.int es.size 0,.int ep 0] } }):wpAny #[7] A (pyIter (.ref d)) Q E s:=by
 have ty:=r.ty;obtain⟨o,ho,hc,hdat⟩:=r;refine wpAny_pyIter_slot ty PySem.F.slot_dict_iter (wpAny_call_entry PySem.F.slot_dict_iter ty PySem.F.entry_dict_iter ?_ (PySem.F.args_dict_iter_1 _));unfold Builtin.«dict.__iter__»;refine tQ (show wpAny _ _ (Builtin.Dict.dictSlotNone _ _) _ _ s from ?_);unfold Builtin.Dict.dictSlotNone;refine tQ (wpAny_notOrdered_dict ty (show wpAny _ _ (pure (Value.ref d)) _ _ s from tR ?_));show wpAny _ _ (Builtin.Dict.showsAll d >>= _) _ _ s;unfold Builtin.Dict.showsAll;rw[tT (by rw[lo];exact hV)];refine tQ (tR (tQ (wpAny_dictEntries ho hdat (tQ (wpAny_dictEpoch ho hdat ?_)))));refine tQ (wpAny_newObj_type (tR ⟨_,rfl,"dict_keyiterator",_,⟨_,gY _ rfl,rfl⟩,PySem.F.slot_dict_keyiterator_next.lookup, ?_⟩));simpa [rawInt]using q
theorem YC{Q:Option Value->Shared->Prop}(k:s.heap.IsKeyIter it d i es.size ep)(r:Raw s.heap d es ep)(hi:i<es.size)
  (q:∀h',h'.IsKeyIter it d (i+1) es.size ep->Heap.SameBut it s.heap h'->Q (some es[i].key) { s with heap:=h' }):wpAny #[7] A (pyNext (.ref it)) Q E s:=by
 have ty:=k.typeIs;obtain⟨o,ho,hc,hd⟩:=id k;obtain⟨od,hod,hcd,hdd⟩:=id r;have own:Builtin.Dict_items.ownsTuple "dict_keyiterator" = false:=by decide
 unfold pyNext;refine tQ (wpAny_attempt (wpAny_callSpecial?_slot (name:=Str.ofString "__next__") ty PySem.F.slot_dict_keyiterator_next (wpAny_call_entry PySem.F.slot_dict_keyiterator_next ty PySem.F.entry_dict_keyiterator_next ?_ (PySem.F.args_dict_keyiterator_next_1 _))));refine tQ (tR (tQ (tQ ?_)));first | refine tQ (wpAny_typeNameOfWhole_keyiter ty (tR (tQ (wpAny_fieldsOf ho hd ?_)))) | refine tQ (wpAny_typeNameOf_keyiter ty (tR (tQ (wpAny_fieldsOf ho hd ?_))))
 simp only[own,Bool.false_eq_true,if_false];show wpAny _ _ (if (Value.ref d==Value.none)=true then _ else _) _ _ s;rw[tT (show ¬((Value.ref d==Value.none)=true)from hV)];refine tQ (tR (tQ (wpAny_dictEntries hod hdd ?_)));rw[tT #[14]];refine tQ (tR (tQ (wpAny_dictEpoch hod hdd ?_)));rw[tT #[14]];refine tR ?_;simp only[show ¬((i:Int)<0)from by omega,if_false,mO,Array.getElem?_eq_getElem hi];refine tQ ?_;first | refine tQ (wpAny_typeNameOfWhole_keyiter ty (tR (tQ (wpAny_isOneOf_keyiter ty ?_)))) | refine tQ (wpAny_typeNameOf_keyiter ty (tR (tQ (wpAny_isOneOf_keyiter ty ?_))))
 show wpAny _ _ (setField (.ref it) 1 (rawInt ((i:Int)+1)) >>= _) _ _ s;have k':(s.heap.update it (Obj.mapFields (·.setIfInBounds 1 (rawInt ((i:Int)+1))))).IsKeyIter it d (i+1) es.size ep:=
  ⟨_,Heap.get?_update_self _ ho (Obj.isFreed_of_fields (Obj.data_mapFields hd _)),(Obj.cls_mapFields ..).trans hc,by rw[Obj.data_mapFields hd];simp [rawInt]⟩
 refine tQ (wpAny_setField ho hd #[14] (tQ (wpAny_holding ?_)));refine tQ (wpAny_isOneOf_keyiter (s:={ s with heap:=s.heap.update it (Obj.mapFields (·.setIfInBounds 1 (rawInt ((i:Int)+1)))) }) k'.typeIs ?_);show wpAny _ _ (pure es[i].key) _ _ _;exact tR (tR ⟨_,rfl,tR (q _ k' (Heap.SameBut.update ..))⟩)
theorem raw_end{Q:Option Value->Shared->Prop}(hh:A.handled=none)(k:s.heap.IsKeyIter it d es.size es.size ep)(r:Raw s.heap d es ep)(q:∀h',Heap.ExtBut it s.heap h'->Q none { s with heap:=h' }):wpAny #[7] A (pyNext (.ref it)) Q E s:=by
 have ty:=k.typeIs;obtain⟨o,ho,hc,hd⟩:=id k;obtain⟨od,hod,hcd,hdd⟩:=id r;have own:Builtin.Dict_items.ownsTuple "dict_keyiterator" = false:=by decide
 unfold pyNext;refine tQ (wpAny_attempt (wpAny_callSpecial?_slot (name:=Str.ofString "__next__") ty PySem.F.slot_dict_keyiterator_next (wpAny_call_entry PySem.F.slot_dict_keyiterator_next ty PySem.F.entry_dict_keyiterator_next ?_ (PySem.F.args_dict_keyiterator_next_1 _))));refine tQ (tR (tQ (tQ ?_)));first | refine tQ (wpAny_typeNameOfWhole_keyiter ty (tR (tQ (wpAny_fieldsOf ho hd ?_)))) | refine tQ (wpAny_typeNameOf_keyiter ty (tR (tQ (wpAny_fieldsOf ho hd ?_))))
 simp only[own,Bool.false_eq_true,if_false];show wpAny _ _ (if (Value.ref d==Value.none)=true then _ else _) _ _ s;rw[tT (show ¬((Value.ref d==Value.none)=true)from hV)];refine tQ (tR (tQ (wpAny_dictEntries hod hdd ?_)));rw[tT #[14]];refine tQ (tR (tQ (wpAny_dictEpoch hod hdd ?_)));rw[tT #[14]];refine tR ?_;simp only[show ¬((es.size:Int)<0)from by omega,if_false,mO,Array.getElem?_eq_none (tK es.size)];refine tQ ?_;first | refine tQ (wpAny_typeNameOfWhole_keyiter ty (tR ?_)) | refine tQ (wpAny_typeNameOf_keyiter ty (tR ?_))
 show wpAny _ _ (setField (.ref it) 0 .none >>= _) _ _ s;refine tQ (wpAny_setField ho hd #[14] (show wpAny _ _ (newExc (.type "StopIteration") [] >>= _) _ _ _ from tQ ?_));simp only[newExc,newTuple];refine tQ (wpAny_newObj_type (tQ (m:=firstArgMember _ _) (wpAny_of_eq (a:=Value.none) (by first | rfl | (simp only[firstArgMember];rfl)) (wpAny_newObj_type ?_ (by size_fits)))) (by size_fits));simp only[raiseNew];refine tQ (wpAny_handled ?_);rw[show A.in1.handled=none from hh];refine tQ (tR (wpAny_throw ?_));refine tQ (wpAny_isInstance (b:=true) (T:="StopIteration") ⟨_,gY _ rfl,rfl⟩ isSubtype_stop ?_);exact tR (q _ (((Heap.SameBut.update ..).extBut.push _).push _))
theorem GF(hh:A.handled=none)(hne:d≠it):Walks prog w A it [it,d] [it] es.size (λi v=>∃h:i<es.size,v=es[i].key) (λi h=>h.IsKeyIter it d i es.size ep/\Raw h d es ep) where
 sub:=λb hb=>by simp at hb;simp [hb]
 frame:=λ_ _ _ st hk=>⟨st.1.at λo e=>hk it #[14] o e,st.2.keep λo e=>hk d #[14] o e⟩
 item:=λi s Q E hi st hQ=>YC st.1 st.2 hi λh' k' hs'=>hQ _ h' s.toks ⟨hi,rfl⟩ ⟨k',st.2.keep λo e=>hs'.extBut d o hne e⟩ λb o hb e=>hs'.extBut b o (λh=>hb (by simp [h])) e
 done:=λs Q E st hQ=>raw_end hh st.1 st.2 λh' he'=>hQ h' s.toks λb o hb e=>he' b o (λh=>hb (by simp [h])) e
 self:=λ_ _ _ _ st hQ=>wpAny_pyIter_keyiter st.1 hQ
theorem QR(lo:(d==sysModules)=false):PySem.W.KdlSrc prog w "dict" d d es.size (λi v=>∃h:i<es.size,v=es[i].key) (λh=>Raw h d es ep) where
 type:=λ_ hm=>hm.ty
 there:=λ_ hm=>⟨hm.lt,hm.lt⟩
 keep:=λ_ _ hm hk=>hm.keep λo e=>hk d (.inl rfl) o e
 notList:=by decide
 notTuple:=by decide
 hint:=λ_ _ _ _ hm hq=>PySem.W.kdl_hint_dict hm.ty hq
 iter:=λ_ _ hh hm=>⟨_,_,(λ_ _ hq=>LA lo hm hq),GF hh (nX hm.lt),⟨⟨_,gY _ rfl,rfl,rfl⟩,hm.keep λo e=>gJ _ e⟩⟩
end
end LwD
namespace LwD
open PySem PySem.W PySem.Spec PyProof.Rows
def Pm(n:Nat)(p:Array Nat):Prop:=p.toList.Perm (List.range n)
theorem Pm.size{n:Nat}{p:Array Nat}(h:Pm n p):p.size=n:=by have:=h.length_eq;simpa using this
theorem Pm.lt{n:Nat}{p:Array Nat}(h:Pm n p){i:Nat}(hn:0<n):p.getD i 0<n:=by
 by_cases hi:i<p.size
 ·have:p.getD i 0∈p.toList:=by simp [Array.getD,hi]
  exact nI.mp (h.mem_iff.mp this)
 ·simp [Array.getD,hi,hn]
theorem Pm.rev{n:Nat}{p:Array Nat}(h:Pm n p)(i j:Nat):Pm n (kas_rev p i j):=(Array.perm_iff_toList_perm.mp (mirror_perm p i j _)).trans h
theorem Pm.bub{n:Nat}{p:Array Nat}(h:Pm n p)(i j:Nat):Pm n (bubble p i j):=(Array.perm_iff_toList_perm.mp (bubble_perm p i j)).trans h
section
variable{prog:Program}{w:World}{A:Around}{E:Value->Shared->Prop}{s:Shared}
end
end LwD
namespace LwD
open PySem PySem.Spec PyProof.Rows L2 Lw
theorem ns_uniq{h:Heap}{m m':Str->Option Value}(x:h.Ns a m)(y:h.Ns a m'):m=m':=by
 obtain⟨o,es,ep,ho,hd,hk,hm⟩:=x;obtain⟨o',es',ep',ho',hd',hk',hm'⟩:=y;rw[ho]at ho';cases ho';rw[hd]at hd';cases hd'
 funext z
 rw[<-hm z,<-hm' z]
theorem ZW{h:Heap}(x:ObjOk P w H h a o):∃q,h.get? a=some q:=by
 cases o with
 | lst xs=>obtain⟨_,_,_,_,e⟩:=x;exact⟨_,e⟩
 | tup xs=>obtain⟨_,_,_,⟨q,e,_⟩,_⟩:=x;exact⟨_,e⟩
 | dK ah=>obtain⟨_,_,_,_,o,_,_,e,_⟩:=x;exact⟨_,e⟩
 | dT ah=>obtain⟨_,_,_,_,o,_,_,e,_⟩:=x;exact⟨_,e⟩
 | set S n=>obtain⟨o,_,_,_,e,_⟩:=x;exact⟨_,e⟩
 | ins C dx fs=>obtain⟨_,_,_,e,_⟩:=x;exact⟨_,e⟩
 | own y=>exact x
 | xd fs=>obtain⟨_,⟨_,_,_,e,_⟩,_⟩:=x;exact⟨_,e⟩
 | rng lo hi=>obtain⟨_,_,_,e⟩:=x;exact⟨_,e⟩
 | frz ob u=>exact⟨_,x.1⟩
 | tbl ps=>exact⟨_,x⟩
 | met f y=>exact⟨_,x⟩
 | ext φ=>exact x.2.1
section
variable{X:Cx}{ac:List #[17]}{σ:L2.St}{H:Hp}{s:Shared}
theorem BS{h3:Heap}{m:Str->Option Value}{tk:Nat}(I:Inv X ac σ H s)(F:Fr X.base X.env.locals s.heap m)(F3:Fr X.base X.env.locals h3 m)(N3:News X.base X.env.locals h3 ((D,o)::yO X.base s.heap X.env.locals))
  (lt:∀q∈yO X.base s.heap X.env.locals,q.1<D) (new:h3.get? D=some o->ObjOk X.prog X.w (upd H D ho) h3 D ho):H D=none/\Inv X ac σ (upd H D ho) { s with heap:=h3,toks:=tk } :=by
 have n1:=N3 (D,o) (mD ..);have dn:s.heap.get? D=none:=by
  cases q:s.heap.get? D with
  | none=>rfl
  | some u=>exact absurd (lt _ (wB n1.2.1 n1.2.2 q)) (nQ _)
 have Hn:H D=none:=by
  cases q:H D with
  | none=>rfl
  | some u=>
   obtain⟨z,e⟩:=ZW (I.hok D u q);rw[dn]at e;cases e
 have kp:∀b u,b≠X.env.locals->s.heap.get? b=some u->h3.get? b=some u:=λb u hb e=>by
  cases q:X.base.get? b with
  | some z=>
   have y:=I.bk b z q;rw[e]at y;cases y;exact F3.keep b _ q
  | none=>exact(N3 (b,u) (gS _ (wB hb q e))).1
 have ne:∀b u,s.heap.get? b=some u->b≠D:=λb u e z=>by rw[z,dn]at e;cases e
 have thr:∀b u,s.heap.get? b=some u->∃u',h3.get? b=some u':=λb u e=>by
  by_cases hb:b=X.env.locals
  ·obtain⟨u',_,_,e',_⟩:=F3.ns;exact⟨u',by rw[hb];exact e'⟩
  ·exact⟨u,kp b u hb e⟩
 refine⟨Hn,I.step (g':=s.gens) (d':=s.drawn) (ch:=[]) (λ_ z=>nomatch z) (λb u hb _ _ e _=>kp b u hb e) (λb u hb _ _ e _=>⟨u.slots,kp b u hb e⟩) (λb u _ e n=>?_) (λb u _ e=>thr b u e) (λb xs e=>?_) (λb u v e=>?_) (λb ps e=>?_) (λm' hm=>?_) (λb u e=>?_) I.bare⟩
 ·rw[jI (ne b u e)];exact n
 ·rw[jI (kG e Hn)];exact e
 ·rw[jI (kG e Hn)];exact e
 ·exact⟨#[],by rw[jI (kG e Hn),e];simp⟩
 ·rw[ns_uniq hm F.ns];exact F3.ns
 ·by_cases hb:b=D
  ·subst hb;rw[jE]at e;cases e;exact new n1.1
  ·rw[jI hb]at e;refine(I.hok b u e).stay (λc v hc q=>kp c v (λz=>?_) q) (λc q=>by rw[jI (kG q Hn)];exact q) λc xs q=>by rw[jI (kG q Hn)];exact q
   rcases hc with y | y
   ·rw[<-y,z,I.free]at e;cases e
   ·rw[z,I.free]at y;cases y
end
section
variable{prog:Program}{w:World}{A:Around}{E:Value->Shared->Prop}{s:Shared}
theorem NK{vs:List Value}{n:Nat}{Q:Value->Shared->Prop}(ho:s.heap.get? a=some (seqObj "list" vs.toArray n))(h2:vs.length<2)(q:Q .none { s with heap:=sortedHeap s.heap a vs vs.toArray }):wpAny #[7] A (call (.builtin "list.sort") [.ref a]) Q E s:=by
 refine wpAny_call_entry slot_list_sort ⟨_,ho,rfl⟩ entry_list_sort ?_ (args_list_sort _);rw[list_sort_plain];have ha:a<s.heap.objs.size:=nV ho;obtain⟨e1,ho1⟩:∃e1,(s.heap.update a (Obj.mapSeq λ_=>#[])).get? a=some (seqObj "list" #[] e1):=⟨_,get?_update_seq ho (λ_=>#[])⟩;have ho6:(((s.heap.update a (Obj.mapSeq λ_=>#[])).push (seqObj "tuple" vs.toArray 0)).push (seqObj "list" #[] 0)).get? a=some (seqObj "list" #[] e1):=gJ _ (gJ _ ho1);have hz:vs.toArray.size<2:=by simpa using h2
 refine tQ (listItems_at ho rfl (tQ (listUpdate_at ho rfl (tQ (seqEpoch_at ho1 rfl (tQ (wpAny_newTuple (tQ (wpAny_newList (wpAny_holding ?_))))))))));show wpAny #[7] _ _ _ E { s with heap:=((s.heap.update a (Obj.mapSeq λ_=>#[])).push (seqObj "tuple" vs.toArray 0)).push (seqObj "list" #[] 0) };dsimp only;rw[tU hz,tU hz];refine tQ (tR ?_);rw[StateT.run_pure];refine tQ (tR ?_);dsimp only;have hm:(arrOf (SortSt.mk' general' (vs.toArray.zip vs.toArray) #[] 7 none)).map (·.2)=vs.toArray:=by
  show(vs.toArray.zip vs.toArray).map (·.2)=vs.toArray;apply Array.ext';simp [List.map_snd_zip]
 refine tQ (seqEpoch_at ho6 rfl (tQ (listUpdate_at ho6 rfl ?_ (hsz2:=by rw[hm,sizeLine_eq];omega))));rw[hm];simp only[bne_self_eq_false,Bool.false_eq_true,if_false];exact tR ⟨_,rfl,q⟩
end
abbrev ik(ns:List Int):List Key:=ns.map Sum.inl
theorem EW(ns:List Int):(ik ns).map kV=ns.map V.int:=by
 unfold ik;rw[tG]
 rfl
section
variable{X:Cx}
end
theorem KTgetI(r:KT H ah xs):∀{j:Nat} {q:List Key×Addr×Value},xs[j]? = some q->∃v,ah[j]? = some (q.1,v)/\H q.2.1=some (.tup (q.1.map kV)):=by
 induction r with
 | nil=>intro j q e;simp at e
 | @cons p q' ps qs h t ih=>
  intro j q e;cases j with
  | zero=>
   simp only[List.getElem?_cons_zero,Option.some.injEq]at e;subst e;exact⟨p.2,by rw[<-h.1];rfl,by rw[<-h.1];exact h.2.1⟩
  | succ j=>
   simp only[List.getElem?_cons_succ]at e ⊢;exact ih e
def Keyed(H:Hp)(ys:List V)(zs:List (List Key×V)):Prop:=ys.length=zs.length/\∀(i:Nat) (y:V) (p:List Key×V),ys[i]? = some y->zs[i]? = some p->∃(b:Addr) (ns:List Int),y=.ref b/\H b=some (.tup #[15])/\p.1=ik ns
theorem EX{α:Type}(l:List α)(d:α):(List.range l.length).map (λi=>l.getD i d)=l:=by
 apply List.ext_getElem
 ·simp
 ·intro i h1 h2;simp at h1;simp [h1]
end LwD
namespace L2
open PySem PySem.Spec PyProof.Rows
section
variable{prog:Program}{w:World}{A:Around}{E:Value->Shared->Prop}{s:Shared}
theorem nextT{k:Nat}{Q:Value->Shared->Prop}(st:s.heap.IsTupleIter it t k)(tu:s.heap.IsTuple t its)(hv:its[k]? = some v)
  (q:∀g,g.IsTupleIter it t (k+1)->Heap.SameBut it s.heap g->Q v { s with heap:=g }):wpAny #[7] A (Builtin.SmallTypes.nextOf (.ref it)) Q E s:=by
 obtain⟨oi,gi,ci,di⟩:=id st;obtain⟨ot,gt,_,nt,dt⟩:=tu;unfold Builtin.SmallTypes.nextOf;refine tQ (wpAny_callSpecial?_slot (name:=Str.ofString "__next__") st.typeIs F.slot_tuple_iterator_next (wpAny_call_entry F.slot_tuple_iterator_next st.typeIs F.entry_tuple_iterator_next ?_ (F.args_tuple_iterator_next_1 _)));show wpAny _ _ (field (.ref it) 0 >>= _) _ _ _;refine tQ (wpAny_field gi di (x:=.ref t) rfl ?_);show wpAny _ _ (if (Value.ref t==Value.none)=true then _ else _) _ _ _;rw[tT (show ¬(Value.ref t==Value.none)=true from hV)];show wpAny _ _ (field (.ref it) 1 >>= _) _ _ _;refine tQ (wpAny_field gi di (x:=.int k 0) rfl ?_);show wpAny _ _ (seqItems? (.ref t) >>= _) _ _ _;refine tQ (wpAny_seqItems gt dt ?_);simp only[mO,hv];refine tQ (wpAny_setField gi di #[14] (tR ⟨v,rfl,tR (q _ ⟨_,Heap.get?_update_self _ gi (Obj.isFreed_of_fields (Obj.data_mapFields di _)),(Obj.cls_mapFields ..).trans ci,by rw[Obj.data_mapFields di];simp [rawInt]⟩ (Heap.SameBut.update ..))⟩))
theorem HC{k:Nat}{Q:Value->Shared->Prop}(hh:A.handled=none)(st:s.heap.IsTupleIter it t k)(tu:s.heap.IsTuple t its)(hv:its[k]? = none)
  (q:∀g e,Heap.ExtBut it s.heap g->(∃o,g.get? e=some o/\o.cls=.type "StopIteration")->E (.ref e) { s with heap:=g }):wpAny #[7] A (Builtin.SmallTypes.nextOf (.ref it)) Q E s:=by
 obtain⟨oi,gi,ci,di⟩:=id st;obtain⟨ot,gt,_,nt,dt⟩:=tu;unfold Builtin.SmallTypes.nextOf;refine tQ (wpAny_callSpecial?_slot (name:=Str.ofString "__next__") st.typeIs F.slot_tuple_iterator_next (wpAny_call_entry F.slot_tuple_iterator_next st.typeIs F.entry_tuple_iterator_next ?_ (F.args_tuple_iterator_next_1 _)));show wpAny _ _ (field (.ref it) 0 >>= _) _ _ _;refine tQ (wpAny_field gi di (x:=.ref t) rfl ?_);show wpAny _ _ (if (Value.ref t==Value.none)=true then _ else _) _ _ _;rw[tT (show ¬(Value.ref t==Value.none)=true from hV)];show wpAny _ _ (field (.ref it) 1 >>= _) _ _ _;refine tQ (wpAny_field gi di (x:=.int k 0) rfl ?_);show wpAny _ _ (seqItems? (.ref t) >>= _) _ _ _;refine tQ (wpAny_seqItems gt dt ?_);simp only[mO,hv];refine tQ (wpAny_rule (tQ (wpAny_setField gi di #[14] ?_)));show wpAny _ _ (newExc (.type "StopIteration") [] >>= _) _ _ _;refine tQ ?_;simp only[newExc,newTuple];refine tQ (wpAny_newObj_type ?_ (by size_fits));refine tQ (m:=firstArgMember _ _) (wpAny_of_eq (a:=Value.none) (by first | rfl | (simp only[firstArgMember];rfl)) ?_);refine wpAny_newObj_type ?_ (by size_fits);simp only[raiseNew];refine tQ (wpAny_handled ?_);first | rw[show A.in1.handled=none from hh] | rw[hh]
 exact tQ (tR (wpAny_throw (q _ _ (((Heap.SameBut.update ..).extBut.push _).push _) ⟨_,gY _ rfl,rfl⟩)))
theorem IsTupleIter.as{h h':Heap}{k:Nat}(x:h.IsTupleIter a t k)(f:∀o,h.get? a=some o->h'.get? a=some o):h'.IsTupleIter a t k:=let ⟨o,ho,r⟩:=x;⟨o,f o ho,r⟩
structure Src(prog:Program)(w:World)(i:Addr) where
 at_:Nat->Heap->Prop
 has:List V->Heap->Prop
 dep:List Addr
 next:∀{xs:List V} {A:Around} {E:Value->Shared->Prop} {s:Shared} {k:Nat} {x:V} {Q:Value->Shared->Prop},at_ k s.heap->has xs s.heap->xs[k]? = some x->(∀g (t:Nat) u,RelV x u->at_ (k+1) g->Heap.SameBut i s.heap g->Q u { s with heap:=g,toks:=t })->wpAny #[7] A (Builtin.SmallTypes.nextOf (.ref i)) Q E s
 stop:∀{xs:List V} {A:Around} {E:Value->Shared->Prop} {s:Shared} {k:Nat} {Q:Value->Shared->Prop},A.handled=none->at_ k s.heap->has xs s.heap->xs[k]? = none->(∀g e,Heap.ExtBut i s.heap g->(∃o,g.get? e=some o/\o.cls=.type "StopIteration")->E (.ref e) { s with heap:=g })->wpAny #[7] A (Builtin.SmallTypes.nextOf (.ref i)) Q E s
 atk:∀{k:Nat} {h h':Heap},at_ k h->(∀o,h.get? i=some o->h'.get? i=some o)->at_ k h'
 hask:∀{xs:List V} {h h':Heap},has xs h->(∀c∈dep,∀o,h.get? c=some o->h'.get? c=some o)->has xs h'
 obj:∀{k:Nat} {h:Heap},at_ k h->∃o,h.get? i=some o/\∀v,o.data≠.cell v
structure Five(z TI TO i1 i2:Addr):Prop where
 nd:[z,TI,TO,i1,i2].Nodup
structure ZG(z TI TO:Addr){i1 i2:Addr}(S1:Src prog w i1)(S2:Src prog w i2)(k:Nat)(h:Heap):Prop where
 zz:IsZip h z TI TO .none
 ti:IsPair h TI (.ref i1) (.ref i2)
 to:∃a b,IsPair h TO a b
 one:S1.at_ k h
 two:S2.at_ k h
structure ZA(z TI TO i1 i2:Addr)(d:List Addr):Prop where
 TIz:TI≠z
 TOz:TO≠z
 i1z:i1≠z
 i2z:i2≠z
 TITO:TI≠TO
 TIi1:TI≠i1
 TIi2:TI≠i2
 TOi1:TO≠i1
 TOi2:TO≠i2
 i12:i1≠i2
 dz:∀l∈d,l≠z/\l≠TO/\l≠i1
theorem Five.za{z TI TO i1 i2:Addr}{d:List Addr}(F:Five z TI TO i1 i2)(h:∀b∈[z,TI,TO,i1,i2],b∉d):ZA z TI TO i1 i2 d:=by
 have nd:=F.nd;simp only[List.nodup_cons,nP,not_or,mQ]at nd;obtain⟨⟨a1,a2,a3,a4,_⟩,⟨b1,b2,b3,_⟩,⟨c1,c2,_⟩,⟨d1,_⟩,_⟩:=nd;exact⟨Ne.symm a1,Ne.symm a2,Ne.symm a3,Ne.symm a4,b1,b2,b3,c1,c2,d1,λl hl=>⟨λe=>h z #[14] (e▸hl),λe=>h TO #[14] (e▸hl),λe=>h i1 #[14] (e▸hl)⟩⟩
variable{z TI TO i1 i2:Addr}{S1:Src prog w i1}{S2:Src prog w i2}{k:Nat}{xs ys:List V}
theorem TU{Q:Option Value->Shared->Prop}(D:ZA z TI TO i1 i2 (S1.dep++S2.dep))(Z:ZG z TI TO S1 S2 k s.heap)(t1:S1.has xs s.heap)(t2:S2.has ys s.heap)(hx:xs[k]? = some x)(hy:ys[k]? = some y)
  (q:∀g (t:Nat) u v,RelV x u->RelV y v->IsZip g z TI TO (rawInt s.heap.objs.size)->IsPair g TO u v->S1.at_ (k+1) g->S2.at_ (k+1) g->IsPair g s.heap.objs.size u v->
   (∀c o,c∉[z,TO,i1,i2]->s.heap.get? c=some o->g.get? c=some o)->Q (some (.ref s.heap.objs.size)) { s with heap:=g,toks:=t }):wpAny #[7] A (pyNext (.ref z)) Q E s:=by
 obtain⟨hz,hti,⟨a,b,hto⟩,s1,s2⟩:=Z;have T:s.TypeIs (.ref z) "zip":=⟨_,hz,rfl⟩;have D1:∀c∈S1.dep,c≠z/\c≠TO/\c≠i1:=λc hc=>D.dz c (List.mem_append_left _ hc);have D2:∀c∈S2.dep,c≠z/\c≠TO/\c≠i1:=λc hc=>D.dz c (gM _ hc);unfold pyNext;refine tQ (wpAny_attempt (wpAny_callSpecial?_slot (name:=Str.ofString "__next__") T F.slot_zip_next (wpAny_call_entry F.slot_zip_next T F.entry_zip_next ?_ (F.args_zip_next_1 _))));show wpAny _ _ (field (.ref z) 2 >>= _) _ _ _;refine tQ (wpAny_field hz rfl (x:=.bool false) rfl ?_);show wpAny _ _ (field (.ref z) 3 >>= _) _ _ _;refine tQ (wpAny_field hz rfl (x:=.ref TI) rfl (tQ (wpAny_seqItems hti rfl ?_)));show wpAny _ _ (Builtin.SmallTypes.ownedTupleIsFree (.ref z) >>= _) _ _ _;refine tQ ?_;unfold Builtin.SmallTypes.ownedTupleIsFree;refine tQ (wpAny_field hz rfl (x:=.none) rfl (tR ?_));simp only[if_true];refine tQ (wpAny_rule (tQ (wpAny_field hz rfl (x:=.ref TO) rfl (tQ (wpAny_setField_rec hz #[14] λg1 z1 b1=>?_)))))
 replace z1:IsZip g1 z TI TO .ellipsis:=z1
 refine tQ ?_;simp only[List.zipIdx_cons,List.zipIdx_nil,List.forIn_cons,List.forIn_nil];refine tQ (tQ (wpAny_onRaise ?_));show wpAny _ _ (Builtin.SmallTypes.nextOf (.ref i1) >>= _) _ _ _;refine tQ (S1.next (S1.atk s1 λo e=>b1.extBut _ _ D.i1z e) (S1.hask t1 λc hc o e=>b1.extBut _ _ (D1 c hc).1 e) hx λg2 tk2 u ru n2 b2=>tR ?_);have o2:IsPair g2 TO a b:=b2.extBut _ _ D.TOi1 (b1.extBut _ _ D.TOz hto);refine tQ (wpAny_seqItems o2 rfl (tQ (wpAny_updateSeq_pair o2 λg3 o3 b3=>?_)))
 replace o3:IsPair g3 TO u b:=o3
 refine tQ (wpAny_letGo (tR (tQ (tQ (wpAny_onRaise ?_)))));show wpAny _ _ (Builtin.SmallTypes.nextOf (.ref i2) >>= _) _ _ _;refine tQ (S2.next (S2.atk s2 λo e=>b3.extBut _ _ D.TOi2.symm (b2.extBut _ _ D.i12.symm (b1.extBut _ _ D.i2z e))) (S2.hask t2 λc hc o e=>b3.extBut _ _ (D2 c hc).2.1 (b2.extBut _ _ (D2 c hc).2.2 (b1.extBut _ _ (D2 c hc).1 e))) hy λg4 tk4 v rv n4 b4=>tR ?_);have o4:IsPair g4 TO u b:=b4.extBut _ _ D.TOi2 o3;refine tQ (wpAny_seqItems o4 rfl (tQ (wpAny_updateSeq_pair o4 λg5 o5 b5=>?_)))
 replace o5:IsPair g5 TO u v:=o5
 refine tQ (wpAny_letGo (tR (tR (tQ (wpAny_seqItems o5 rfl (tQ (wpAny_newTuple ?_)))))));have sz:g5.objs.size=s.heap.objs.size:=by rw[b5.1,b4.1,b3.1,b2.1,b1.1]
 have z5:IsZip g5 z TI TO .ellipsis:=b5.extBut _ _ D.TOz.symm (b4.extBut _ _ D.i2z.symm (b3.extBut _ _ D.TOz.symm (b2.extBut _ _ D.i1z.symm z1)));have k5:∀c o,c∉[z,TO,i1,i2]->s.heap.get? c=some o->g5.get? c=some o:=λc o hc e=>by
  simp only[nP,not_or]at hc;exact b5.extBut _ _ hc.2.1 (b4.extBut _ _ hc.2.2.2.1 (b3.extBut _ _ hc.2.1 (b2.extBut _ _ hc.2.2.1 (b1.extBut _ _ hc.1 e))))
 have zl:z<g5.objs.size:=nV z5;show wpAny _ _ (Builtin.SmallTypes.ownedTupleHandOut (.ref z) (.ref g5.objs.size) >>= _) _ _ _;refine tQ ?_;unfold Builtin.SmallTypes.ownedTupleHandOut;have z6:IsZip (g5.push { cls:=.type "tuple",data:=.seq #[u,v] }) z TI TO .ellipsis:=gJ _ z5;refine tQ (wpAny_setField_rec z6 #[14] λg7 z7 b7=>?_)
 replace z7:IsZip g7 z TI TO (rawInt g5.objs.size):=z7
 refine wpAny_setField_rec z7 #[14] λg8 z8 b8=>?_
 replace z8:IsZip g8 z TI TO (rawInt g5.objs.size):=z8
 have up:∀c o,c≠z->g5.get? c=some o->g8.get? c=some o:=λc o cz e=>b8.extBut _ _ cz (b7.extBut _ _ cz (gJ _ e));have nu:IsPair g8 g5.objs.size u v:=b8.extBut _ _ (Nat.ne_of_gt zl) (b7.extBut _ _ (Nat.ne_of_gt zl) (gY _ rfl));rw[sz]at z8 nu;refine tR ⟨_,rfl,tR ?_⟩;show Q (some (.ref g5.objs.size)) _;rw[sz];exact q g8 tk4 u v ru rv z8 (up _ _ D.TOz o5) (S1.atk n2 λo e=>up _ o D.i1z (b5.extBut _ _ D.TOi1.symm (b4.extBut _ _ D.i12 (b3.extBut _ _ D.TOi1.symm e)))) (S2.atk n4 λo e=>up _ o D.i2z (b5.extBut _ _ D.TOi2.symm e)) nu λc o hc e=>up c o (λh=>hc (by simp [h])) (k5 c o hc e)
theorem WE{Q:Option Value->Shared->Prop}(hh:A.handled=none)(D:ZA z TI TO i1 i2 (S1.dep++S2.dep))(Z:ZG z TI TO S1 S2 k s.heap)(t1:S1.has xs s.heap)(t2:S2.has ys s.heap)(he:xs[k]? = none∨ys[k]? = none)
  (q:∀g (tk:Nat),(∀c o,c∉[z,TO,i1,i2]->s.heap.get? c=some o->g.get? c=some o)->Q none { s with heap:=g,toks:=tk }):wpAny #[7] A (pyNext (.ref z)) Q E s:=by
 obtain⟨hz,hti,⟨a,b,hto⟩,s1,s2⟩:=Z;have T:s.TypeIs (.ref z) "zip":=⟨_,hz,rfl⟩;have D1:∀c∈S1.dep,c≠z/\c≠TO/\c≠i1:=λc hc=>D.dz c (List.mem_append_left _ hc);have D2:∀c∈S2.dep,c≠z/\c≠TO/\c≠i1:=λc hc=>D.dz c (gM _ hc);unfold pyNext;refine tQ (wpAny_attempt (wpAny_callSpecial?_slot (name:=Str.ofString "__next__") T F.slot_zip_next (wpAny_call_entry F.slot_zip_next T F.entry_zip_next ?_ (F.args_zip_next_1 _))));have fin:∀g (tk:Nat) (e:Addr),(∀c o,c∉[z,TO,i1,i2]->s.heap.get? c=some o->g.get? c=some o)->(∃o,g.get? e=some o/\o.cls=.type "StopIteration")->
   wpAny #[7] A (do if (<-isInstance (.ref e) (.type "StopIteration"))then pure none else throw (.ref e)) Q E { s with heap:=g,toks:=tk } :=λg tk e hk ⟨o,ho,hc⟩=>
  tQ (wpAny_isInstance (T:="StopIteration") (b:=true) ⟨o,ho,hc⟩ isSubtype_stop (tR (q _ tk hk)))
 show wpAny _ _ (field (.ref z) 2 >>= _) _ _ _;refine tQ (wpAny_field hz rfl (x:=.bool false) rfl ?_);show wpAny _ _ (field (.ref z) 3 >>= _) _ _ _;refine tQ (wpAny_field hz rfl (x:=.ref TI) rfl (tQ (wpAny_seqItems hti rfl ?_)));show wpAny _ _ (Builtin.SmallTypes.ownedTupleIsFree (.ref z) >>= _) _ _ _;refine tQ ?_;unfold Builtin.SmallTypes.ownedTupleIsFree;refine tQ (wpAny_field hz rfl (x:=.none) rfl (tR ?_));simp only[if_true];refine tQ (wpAny_rule (tQ (wpAny_field hz rfl (x:=.ref TO) rfl (tQ (wpAny_setField_rec hz #[14] λg1 z1 b1=>?_)))))
 replace z1:IsZip g1 z TI TO .ellipsis:=z1
 refine tQ ?_;simp only[List.zipIdx_cons,List.zipIdx_nil,List.forIn_cons,List.forIn_nil];refine tQ (tQ (wpAny_onRaise ?_));show wpAny _ _ (Builtin.SmallTypes.nextOf (.ref i1) >>= _) _ _ _;have h1:=S1.atk s1 λo e=>b1.extBut _ _ D.i1z e;have h2:=S1.hask t1 λc hc o e=>b1.extBut _ _ (D1 c hc).1 e;cases hx:xs[k]? with
 | none=>
  refine tQ (S1.stop hh h1 h2 hx λg2 e b2 ⟨oe,he,ce⟩=>?_);have z2:IsZip g2 z TI TO .ellipsis:=b2 _ _ D.i1z.symm z1;have ez:e≠z:=λh=>by subst h;rw[z2]at he;cases he;simp at ce
  refine wpAny_setField_rec z2 #[14] λg3 _ b3=>fin g3 _ e (λc o hc h=>?_) ⟨oe,b3.extBut _ _ ez he,ce⟩;simp only[nP,not_or]at hc;exact b3.extBut _ _ hc.1 (b2 _ _ hc.2.2.1 (b1.extBut _ _ hc.1 h))
 | some x=>
  have hy:ys[k]? = none:=he.resolve_left (by rw[hx];simp);refine tQ (S1.next h1 h2 hx λg2 tk2 u ru n2 b2=>tR ?_);have o2:IsPair g2 TO a b:=b2.extBut _ _ D.TOi1 (b1.extBut _ _ D.TOz hto);refine tQ (wpAny_seqItems o2 rfl (tQ (wpAny_updateSeq_pair o2 λg3 o3 b3=>?_)));refine tQ (wpAny_letGo (tR (tQ (tQ (wpAny_onRaise ?_)))));show wpAny _ _ (Builtin.SmallTypes.nextOf (.ref i2) >>= _) _ _ _;refine tQ (S2.stop hh (S2.atk s2 λo e=>b3.extBut _ _ D.TOi2.symm (b2.extBut _ _ D.i12.symm (b1.extBut _ _ D.i2z e))) (S2.hask t2 λc hc o e=>b3.extBut _ _ (D2 c hc).2.1 (b2.extBut _ _ (D2 c hc).2.2 (b1.extBut _ _ (D2 c hc).1 e))) hy λg4 e b4 ⟨oe,he,ce⟩=>?_);have z4:IsZip g4 z TI TO .ellipsis:=b4 _ _ D.i2z.symm (b3.extBut _ _ D.TOz.symm (b2.extBut _ _ D.i1z.symm z1));have ez:e≠z:=λh=>by subst h;rw[z4]at he;cases he;simp at ce
  refine wpAny_setField_rec z4 #[14] λg5 _ b5=>fin g5 _ e (λc o hc h=>?_) ⟨oe,b5.extBut _ _ ez he,ce⟩;simp only[nP,not_or]at hc;exact b5.extBut _ _ hc.1 (b4 _ _ hc.2.2.2.1 (b3.extBut _ _ hc.2.1 (b2.extBut _ _ hc.2.2.1 (b1.extBut _ _ hc.1 h))))
def Itr0(prog:Program)(w:World)(v:Value)(o:Obj)(h:Heap):Prop:=∀{A:Around} {E:Value->Shared->Prop} {s:Shared} {Q:Value->Shared->Prop},s.heap=h->Q (.ref h.objs.size) { s with heap:=h.push o }->wpAny #[7] A (pyIter v) Q E s
theorem VW{o1 o2:Obj}{Q:Value->Shared->Prop}(p1:Itr0 prog w v1 o1 s.heap)(p2:Itr0 prog w v2 o2 (s.heap.push o1))(f1:o1.isFreed=false)(f2:o2.isFreed=false)
  (q:∀g,(∀c o,s.heap.get? c=some o->g.get? c=some o)->IsZip g (s.heap.objs.size+4) (s.heap.objs.size+2) (s.heap.objs.size+3) .none->IsPair g (s.heap.objs.size+2) (.ref s.heap.objs.size) (.ref (s.heap.objs.size+1))->(∃a b,IsPair g (s.heap.objs.size+3) a b)->g.get? s.heap.objs.size=some o1->g.get? (s.heap.objs.size+1)=some o2->Q (.ref (s.heap.objs.size+4)) { s with heap:=g }) :
  wpAny #[7] A (call (.type "zip") [v1,v2]) Q E s:=by
 refine callType_newIn (S:=λ_ R s'=>s'=s/\∀g,(∀c o,s.heap.get? c=some o->g.get? c=some o)->IsZip g (s.heap.objs.size+4) (s.heap.objs.size+2) (s.heap.objs.size+3) .none->IsPair g (s.heap.objs.size+2) (.ref s.heap.objs.size) (.ref (s.heap.objs.size+1))->(∃a b,IsPair g (s.heap.objs.size+3) a b)->g.get? s.heap.objs.size=some o1->g.get? (s.heap.objs.size+1)=some o2->R (.ok (.ret (.ref (s.heap.objs.size+4)))) { s with heap:=g }) F.called_zip #[0] (F.typeCall_zip_2 _ _) (F.newCall_zip_2 _ _) (λobj=>F.args_object_init_3 obj _ _) F.entry_zip_new (λA R s' h=>?_) ⟨rfl,λg k zz ti to e1 e2=>⟨⟨_,zz,rfl⟩,q g k zz ti to e1 e2⟩⟩;obtain⟨rfl,h⟩:=h;refine tS (Q:=λfin s'=>∃v,fin=.done (.ret v)/\R (.ok (.ret v)) s') ?_ (λfin s' h'=>by obtain⟨v,rfl,hv⟩:=h';exact hv) λ_ _ x=>x;obtain⟨hp,gs,d,tk,os⟩:=s';have hsub:=sub_zip;have P1:∀{A:Around} {E:Value->Shared->Prop} {Q:Value->Shared->Prop},Q (.ref hp.objs.size) ⟨hp.push o1,gs,d,tk,os⟩->wpAny #[7] A (pyIter v1) Q E ⟨hp,gs,d,tk,os⟩:=λq=>p1 rfl q;have P2:∀{A:Around} {E:Value->Shared->Prop} {Q:Value->Shared->Prop},Q (.ref (hp.push o1).objs.size) ⟨(hp.push o1).push o2,gs,d,tk,os⟩->wpAny #[7] A (pyIter v2) Q E ⟨hp.push o1,gs,d,tk,os⟩:=λq=>p2 rfl q
 wp_walk using P1,P2
 have e1:=λo=>nN hp (o:=o);refine⟨_,rfl, ?_⟩;simp only[nN]at h ⊢;refine h _ (λc o e=>gJ _ (gJ _ (gJ _ (gJ _ (gJ _ e))))) ?_ ?_ ?_ ?_ ?_
 ·have e:=gY ((((hp.push o1).push o2).push { cls:=.type "tuple",data:=.seq #[.ref hp.objs.size,.ref (hp.objs.size+1)] }).push { cls:=.type "tuple",data:=.seq #[.none,.none] }) (o:={ cls:=.type "zip",data:=.fields #[.none,.bool false,.bool false,.ref (hp.objs.size+2),.ref (hp.objs.size+3)] }) rfl;simp only[nN]at e;exact e
 ·have e:=gY ((hp.push o1).push o2) (o:={ cls:=.type "tuple",data:=.seq #[.ref hp.objs.size,.ref (hp.objs.size+1)] }) rfl;simp only[nN]at e;exact gJ _ (gJ _ e)
 ·have e:=gY (((hp.push o1).push o2).push { cls:=.type "tuple",data:=.seq #[.ref hp.objs.size,.ref (hp.objs.size+1)] }) (o:={ cls:=.type "tuple",data:=.seq #[.none,.none] }) rfl;simp only[nN]at e;exact⟨_,_,gJ _ e⟩
 ·exact gJ _ (gJ _ (gJ _ (gJ _ (gY hp f1))))
 ·have e:=gY (hp.push o1) (o:=o2) f2;simp only[nN]at e;exact gJ _ (gJ _ (gJ _ e))
end
section
variable{X:Cx}{ac:List #[17]}{σ:St}{H:Hp}{s:Shared}{h':Heap}
theorem Inv.turnedL{t':Nat}{fp:List Addr}(I:Inv X ac σ H s)(hf:∀b∈fp,FpOk X ac H b)(k:∀b o,b∉fp->s.heap.get? b=some o->h'.get? b=some o):Inv X ac σ H { s with heap:=h',toks:=t' } :=by
 have nit:∀b u,H b=some u->b∉fp:=λb u e z=>by rw[(hf b z).1]at e;cases e
 refine I.step (g':=s.gens) (d':=s.drawn) (ch:=fp) (λb hb=>⟨(hf b hb).2.2.2.1,(hf b hb).2.1,(hf b hb).2.2.2.2.1,(hf b hb).2.2.2.2.2⟩) (λb o _ _ hc e _=>k b o hc e) (λb o _ _ hc e _=>⟨o.slots,k b o hc e⟩) (λ_ _ _ _ n=>n)
  (λb o hc e=>⟨o,k b o hc e⟩) (λ_ _ e=>e) (λ_ _ _ e=>e) (λb ps e=>⟨#[],by rw[e];simp⟩) (λm ⟨o,es,ep,ho,r⟩=>⟨o,es,ep,k _ o (λz=>(hf _ z).2.1 rfl) ho,r⟩) (λb u e=>?_) I.bare
 refine(I.hok b u e).stay (λc v hc q=>k c v ?_ q) (λ_ q=>q) λ_ _ q=>q;rcases hc with z | z
 ·rw[z];exact nit b u e
 ·exact nit c _ z
theorem FpOk.apart(I:Inv X ac σ H s)(f:FpOk X ac H b)(h:SqT X.K H a xs):a≠b:=by
 rintro rfl;rcases h with(h | ⟨o,h⟩) | ⟨o,its,n,hk,hc,hs,hz,r⟩
 ·rw[f.1]at h;cases h
 ·rw[f.1]at h;cases h
 ·have hb:X.base.get? a=some o:=I.ok.mod.kin a o hk;rcases f.2.2.2.1 with z | z
  ·exact I.ok.noex a o hb z
  ·exact absurd (hW (nV hb) (nW I.ok.bsz z)) (nQ _)
end
structure SrcJ(P:Program)(w:World)(K:tV){i1 i2:Addr}(S1:Src P w i1)(S2:Src P w i2)(J:It):Prop where
 go:∀(X:Cx),X.prog=P->X.w=w->X.K=K->∀{i:Nat} {ac:List #[17]} {s:Shared} {σ:St} {H:Hp},Inv X ac σ H s->J.go i H->∃xs ys x y,S1.has xs s.heap/\S2.has ys s.heap/\xs[i]? = some x/\ys[i]? = some y/\(∀b,FpOk X ac H b->b∉S1.dep++S2.dep)/\∀p,H p=none->J.yld i H (.ref p) (upd H p (.tup [x,y]))
 stop:∀(X:Cx),X.prog=P->X.w=w->X.K=K->∀{i:Nat} {ac:List #[17]} {s:Shared} {σ:St} {H:Hp},Inv X ac σ H s->J.stop i H->∃xs ys,S1.has xs s.heap/\S2.has ys s.heap/\(xs[i]? = none∨ys[i]? = none)/\∀b,FpOk X ac H b->b∉S1.dep++S2.dep
theorem ZG.objs{P:Program}{w:World}{z TI TO i1 i2:Addr}{S1:Src P w i1}{S2:Src P w i2}{i:Nat}{h:Heap}(Z:ZG z TI TO S1 S2 i h):∀b∈[z,TI,TO,i1,i2],∃o,h.get? b=some o/\∀v,o.data≠.cell v:=λb hb=>by
 simp only[nP,mQ,or_false]at hb;obtain⟨hz,hti,⟨a,c,hto⟩,s1,s2⟩:=Z;rcases hb with rfl | rfl | rfl | rfl | rfl
 ·exact⟨_,hz,λv q=>by cases (show Data.fields _=Data.cell v from q)⟩
 ·exact⟨_,hti,λv q=>by cases (show Data.seq _ _=Data.cell v from q)⟩
 ·exact⟨_,hto,λv q=>by cases (show Data.seq _ _=Data.cell v from q)⟩
 ·exact S1.obj s1
 ·exact S2.obj s2
theorem TY{P:Program}{w:World}{K:tV}{es:List Expr}{x1}{pos:Pos}{z TI TO i1 i2:Addr}{S1:Src P w i1}{S2:Src P w i2}{J:It}(SJ:SrcJ P w K S1 S2 J)(F:Five z TI TO i1 i2):Turn P w K (.Tuple es x1 pos) J [z,TI,TO,i1,i2] z (λi h=>ZG z TI TO S1 S2 i h) where
 mem:=by simp
 obj:=λi h Z=>Z.objs
 keep:=λi h h' Z k=>by
  obtain⟨hz,hti,⟨a,c,hto⟩,s1,s2⟩:=Z;exact⟨k z #[14] _ hz,k TI #[14] _ hti,⟨a,c,k TO #[14] _ hto⟩,S1.atk s1 λo e=>k i1 #[14] o e,S2.atk s2 λo e=>k i2 #[14] o e⟩
 item:=by
  intro X hP hw hK hc i ac s σ H E I hf Z hg;obtain⟨xs,ys,x,y,t1,t2,hx,hy,dp,yl⟩:=SJ.go X hP hw hK I hg;subst hP hw hK;have D:=F.za (λb hb=>dp b (hf b hb));refine TU D Z t1 t2 hx hy λg t u1 u2 ru1 ru2 z1 to1 n1 n2 nu kk=>⟨_,rfl, ?_⟩;refine wpAny_letOwnedTupleGo_zip z1 λg2 z2 sb=>?_;have fr:H s.heap.objs.size=none:=I.hok.fresh uX ;have fp:∀b∈[z,TI,TO,i1,i2],FpOk X ac (upd H s.heap.objs.size (.tup [x,y])) b:=λb hb=>by
   obtain⟨o,ho,_⟩:=Z.objs b hb;exact⟨by rw[jI (nX (nV ho))];exact(hf b hb).1,(hf b hb).2⟩
  have I1:Inv X ac σ (upd H s.heap.objs.size (.tup [x,y])) { s with heap:=s.heap.push { cls:=.type "tuple",data:=.seq #[u1,u2] },toks:=t } :=I.laid (t':=t) (λb u e=>gJ _ e) uX ⟨by simp [sizeLine],[u1,u2],.cons ru1 (.cons ru2 .nil),⟨_,gY _ rfl,rfl,_,rfl⟩,.of (gY _ rfl) rfl⟩;have up:∀c o,c≠z->g.get? c=some o->g2.get? c=some o:=λc o cz e=>sb.extBut _ _ cz e;have zs:z≠s.heap.objs.size:=nX (nV Z.zz);have I2:Inv X ac σ (upd H s.heap.objs.size (.tup [x,y])) { s with heap:=g2,toks:=t } :=by
   refine Inv.turnedL (s:={ s with heap:=s.heap.push { cls:=.type "tuple",data:=.seq #[u1,u2] },toks:=t }) (h':=g2) (t':=t) I1 fp λb o hb e=>?_;have bz:b≠z:=λh=>hb (by simp [h]);rcases Heap.get?_push_cases e with⟨e1,e2⟩ | e1
   ·rw[e1,e2];exact up _ _ (Ne.symm zs) nu
   ·exact up _ _ bz (kk b o (λh=>hb (by simp only[nP,mQ,or_false]at h ⊢;rcases h with h | h | h | h<;>simp [h])) e1)
  exact⟨.ref s.heap.objs.size,_,I2,rfl,yl _ fr,⟨z2,up _ _ D.TIz (kk _ _ (by simp [D.TIz,D.TITO,D.TIi1,D.TIi2]) Z.ti),⟨_,_,up _ _ D.TOz to1⟩,S1.atk n1 λo e=>up _ o D.i1z e,S2.atk n2 λo e=>up _ o D.i2z e⟩,λb hb=>(fp b hb).1⟩
 done:=by
  intro X hP hw hK hc i ac s σ H E I hf Z hg;obtain⟨xs,ys,t1,t2,he,dp⟩:=SJ.stop X hP hw hK I hg;subst hP hw hK;exact WE (I.ok.hd hc) (F.za (λb hb=>dp b (hf b hb))) Z t1 t2 he λg tk kk=>⟨rfl,Inv.turnedL (t':=tk) I hf λb o hb e=>kk b o (λh=>hb (by simp only[nP,mQ,or_false]at h ⊢;rcases h with h | h | h | h<;>simp [h])) e⟩
 self:=λ_ _ _ _ _ Z h=>wpAny_pyIter_zip Z.zz h
section
variable{X:Cx}
theorem QX{x1}{o1 o2:Obj}{s:Shared}{R:It->Hp->Prop}{E:Value->Shared->Prop}(I:Inv X ac σ H s)(p1:Itr0 X.prog X.w v1 o1 s.heap)(p2:Itr0 X.prog X.w v2 o2 (s.heap.push o1))(f1:o1.isFreed=false)(f2:o2.isFreed=false)
  (S1:Src X.prog X.w s.heap.objs.size) (S2:Src X.prog X.w (s.heap.objs.size+1)) (a1:∀g,g.get? s.heap.objs.size=some o1->S1.at_ 0 g) (a2:∀g,g.get? (s.heap.objs.size+1)=some o2->S2.at_ 0 g) (SJ:SrcJ X.prog X.w X.K S1 S2 J) (q:R J H):wpAny #[4] A (call (.type "zip") [v1,v2]) (λv s2=>wpAny #[4] A (pyIter v) (PIE X ac σ (.Tuple es x1 tp) R) E s2) E s:=by
 refine VW p1 p2 f1 f2 λg k zz ti to e1 e2=>wpAny_pyIter_zip zz ?_;refine⟨_,_,_,_,H,rfl,I.kept (t':=s.toks) k,TY SJ ⟨by simp⟩,⟨zz,ti,to,a1 g e1,a2 g e2⟩,λb hb=>?_,q⟩;have hb':s.heap.objs.size<=b:=by
  simp only[nP,mQ,or_false]at hb;rcases hb with rfl | rfl | rfl | rfl | rfl<;>first | exact Nat.le_add_right _ _ | exact tK _
 exact I.fpOk hb' (I.hok.fresh hb')
end
def WX(a:Addr):Obj:={ cls:=.type "tuple_iterator",data:=.fields #[.ref a,.int 0 0] }
def KO(prog:Program)(w:World)(i l:Addr):Src prog w i where
 at_ k h:=h.IsTupleIter i l k
 has xs h:=∃its,h.IsTuple l (List.toArray its)/\Vals xs its
 dep:=[l]
 next st hs hx q:=by
  obtain⟨its,t,r⟩:=hs;obtain⟨u,hu,ru⟩:=r.get hx;exact nextT st t (by simpa using hu) λg n b=>q g _ u ru n b
 stop hh st hs hx q:=by
  obtain⟨its,t,r⟩:=hs;exact HC hh st t (by have:=r.length;have:=List.getElem?_eq_none_iff.mp hx;simp;omega) q
 atk x f:=IsTupleIter.as x f
 hask x f:=let ⟨its,⟨o,h1,h2⟩,r⟩:=x;⟨its,⟨o,f l (mB.mpr rfl) o h1,h2⟩,r⟩
 obj x:=let ⟨o,h1,_,d⟩:=x;⟨o,h1,λv q=>by rw[d]at q;cases q⟩
theorem Inv.hasT{X:Cx}{s:Shared}(I:Inv X ac σ H s)(h:SqT X.K H a xs):(KO X.prog X.w i a).has xs s.heap:=by
 obtain⟨its,r,p,_⟩:=I.tuple h;exact⟨its,p,r⟩
theorem it0T{h:Heap}(t:h.IsTuple a its):Itr0 prog w (.ref a) (WX a) h:=λe q=>by
 subst e;exact wpAny_pyIter_tuple t q
theorem at0T(g:Heap)(e:g.get? i=some (WX a)):(KO prog w i a).at_ 0 g:=⟨_,e,rfl,rfl⟩
def Itz(K:tV)(a b:Addr):It:=
 ⟨λi H=>∃xs ys x y,SqT K H a xs/\SqT K H b ys/\xs[i]? = some x/\ys[i]? = some y,
  λi H v H'=>∃p x y,H p=none/\v=.ref p/\H'=upd H p (.tup [x,y])/\(∀xs,SqT K H a xs->xs[i]? = some x)/\(∀ys,SqT K H b ys->ys[i]? = some y),
  λi H=>∃xs ys,SqT K H a xs/\SqT K H b ys/\(xs.length<=i∨ys.length<=i)⟩
theorem srcJ_T{P:Program}{w:World}{K:tV}{i1 i2 a b:Addr} :SrcJ P w K (KO P w i1 a) (KO P w i2 b) (Itz K a b):=by
 refine⟨λX hP hw hK {i ac s σ H} I hg=>?_,λX hP hw hK {i ac s σ H} I hg=>?_⟩<;>subst hP hw hK
 ·obtain⟨xs,ys,x,y,q1,q2,hx,hy⟩:=hg;exact⟨xs,ys,x,y,I.hasT q1,I.hasT q2,hx,hy,λb' f=>by rintro z;rcases nE.mp z with z | z;exact(f.apart I q1) (mB.mp z).symm;exact(f.apart I q2) (mB.mp z).symm,λp n=>⟨p,x,y,n,rfl,rfl,λxs' h=>by rw[I.tuple_inj h q1];exact hx,λys' h=>by rw[I.tuple_inj h q2];exact hy⟩⟩
 ·obtain⟨xs,ys,q1,q2,he⟩:=hg;exact⟨xs,ys,I.hasT q1,I.hasT q2,he.imp gO gO,λb' f=>by rintro z;rcases nE.mp z with z | z;exact(f.apart I q1) (mB.mp z).symm;exact(f.apart I q2) (mB.mp z).symm⟩
section
variable{X:Cx}
def iZipT(K:tV)(ta:TA):TI:=fun σ H R=>ta σ H λvs H1=>∃a b,vs=[.ref a,.ref b]/\(∃xs,SqT K H1 a xs)/\(∃ys,SqT K H1 b ys)/\R (Itz K a b) H1
theorem QY{x1}(hg:Gl X "zip")(hm:X.mg "zip" = none)(ha:PA X [a,b] ta)(hs:starEach [a,b] X.env=[(false,eval a X.env),(false,eval b X.env)]:=by rfl)(hs2:starEach [b] X.env=[(false,eval b X.env)]:=by rfl) :
  PI X (.Tuple es x1 tp) (.Call (.Name "zip" p) [a,b] [] pos) (iZipT X.K ta):=by
 intro ac s σ H R I h;refine Call_ (yP I hg hm boot_zip (PyProof.Rows.callWith_type1 (thn (ha pos ac s σ H _ I h) λus s1 ⟨vs,H1,I1,r1,q1⟩=>?_) (by rw[hs,hs2]) (by rw[hs2];rfl)));obtain⟨l1,l2,e,⟨xs,q1⟩,⟨ys,q2⟩,q⟩:=q1;subst e;cases r1 with
 | cons r rr=>
  cases rr with
  | cons r' rr=>
   cases rr;cases r;cases r';obtain⟨its1,_,p1,_⟩:=I1.tuple q1;obtain⟨its2,_,p2,_⟩:=I1.tuple q2;exact QX I1 (it0T p1) (it0T (Heap.IsTuple.push p2 _)) rfl rfl (KO _ _ _ l1) (KO _ _ _ l2) (λg=>at0T g) (λg=>at0T g) srcJ_T q
end
end L2
namespace HT
open PySem PySem.Spec PyProof.Rows
section
variable{prog:Program}{w:World}{A:Around}{E:Value->Shared->Prop}{s:Shared}
theorem cut_whole{items:Array Value}{lo hi:Option Int}{Q:Value->Shared->Prop}(ht:IsTup s.heap t items)(hs:s.heap.IsSliceOf sl vl vu .none)(pl:IsPart vl lo)(pu:IsPart vu hi)
  (hw:sIx items.size 0 lo=0/\sIx items.size items.size hi=items.size) (h:Q (.ref t) s):wpAny #[7] A (getItem (.ref t) (.ref sl)) Q E s:=by
 obtain⟨os,hos,hcs,hds⟩:=id hs;have hTs:s.TypeIs (.ref sl) "slice":=⟨os,hos,hcs⟩;unfold getItem;try with_reducible refine wpAny_holding ?_
 first | refine tQ (tR ?_) | skip
 refine tQ (wpAny_sequenceKey ht.typeIs #[0] ?_);refine tQ (wpAny_callSpecial?_slot (name:=Str.ofString "__getitem__") ht.typeIs PyProof.Rows.slot_tuple_getitem (wpAny_call_entry PyProof.Rows.slot_tuple_getitem ht.typeIs entry_tuple_getitem ?_ (args_tuple_getitem _ _)));show wpAny _ _ (Builtin.Tuple.tupleItemsOf (.ref t) >>= _) _ _ s;refine tQ (tupleItemsOf_ ht (tQ (wpAny_typeOf hTs ?_)));rw[tU #[0]];refine tQ (yQ hs pl pu ?_);have hy:(((sIx items.size 0 lo:Nat):Int)==0&&(1:Int)==1&&(sIx items.size items.size hi-sIx items.size 0 lo)==items.size)=true:=by
  rw[hw.1,hw.2];simp
 show wpAny _ _ (if (((sIx items.size 0 lo:Nat):Int)==0&&(1:Int)==1&&(sIx items.size items.size hi-sIx items.size 0 lo)==items.size)=true then _ else _) _ _ s;rw[tU hy];refine tQ (m:=Builtin.Tuple.tupleIsExact _) (tQ (wpAny_typeOf ht.typeIs (tR ?_)));rw[tU #[0]];refine tQ (wpAny_rule ?_);first
  | exact tQ (tR (tR ⟨_,rfl,tR h⟩))
  | exact tR ⟨_,rfl,tR h⟩
  | exact tQ (tR ⟨_,rfl,tR h⟩)
theorem cat_any{vs ws:List Value}{Q:Value->Shared->Prop}(ht:IsTup s.heap t vs.toArray)(hb:IsTup s.heap b ws.toArray)(h0:vs=[]->Q (.ref b) s)
  (h1:ws=[]->Q (.ref t) s) (h2:Q (.ref s.heap.objs.size) { s with heap:=s.heap.push { cls:=.type "tuple",data:=.seq (vs++ws).toArray } })
  (hz:vs.length+ws.length<=sizeLine):wpAny #[7] A (binaryOp .Add (.ref t) (.ref b)) Q E s:=by
 by_cases hv:vs=[]
 ·obtain⟨⟨c1,x1,y1,z1⟩,g1,rfl,n1,rfl⟩:=id ht;obtain⟨⟨c2,x2,y2,z2⟩,g2,rfl,n2,rfl⟩:=id hb;exact concat_meets ⟨_,g1,rfl⟩ ⟨_,g2,rfl⟩ noFill_tuple_add seq_tuple_add PySem.F.slot_tuple_add PySem.F.entry_tuple_add (PySem.F.args_tuple_add_2 _ _) (tuple_addW0 t b vs.toArray ws.toArray n1 n2 x1 x2 z1 z2 (by simp [hv])) ⟨g1,g2,h0 hv⟩
 ·exact cat_tup ht hb hv h1 (λ_=>h2) hz
theorem KD{n:Nat}{Q:Int×Int×Nat->Shared->Prop}(hs:s.heap.IsSliceOf sl .none .none (.int (-1) u))(h:Q ((n:Int)-1,-1,n) s):wpAny #[7] A (Builtin.Slice.sliceApplied (.ref sl) (pure (n:Int))) Q E s:=by
 obtain⟨os,hos,hcs,hds⟩:=id hs;unfold Builtin.Slice.sliceApplied Builtin.Slice.sliceFields;refine tQ (tQ (wpAny_field hos hds (x:=.none) rfl (tQ (wpAny_field hos hds (x:=.none) rfl (tQ (wpAny_field hos hds (x:=.int (-1) u) rfl (tR ?_)))))));refine tQ (slicePart_int ?_);show wpAny _ _ (if ((-1:Int)==0)=true then _ else _) _ _ s;rw[tT #[0]];refine tQ (slicePart_none (tQ (slicePart_none (tQ (tR ?_)))));show wpAny _ _ (pure ((n:Int)-1,(-1:Int),Builtin.Slice.slicePlaces ((n:Int)-1) (-1) (-1))) _ _ s;have e:Builtin.Slice.slicePlaces ((n:Int)-1) (-1) (-1)=n:=by
  unfold Builtin.Slice.slicePlaces;rw[tT #[1]];split
  ·rw[show(- (-1:Int))=1 by omega,Int.ediv_one];omega
  ·omega
 rw[e];exact tR h
theorem UM(xs:Array Value):(((List.range xs.size).filterMap λ(m:Nat)=>xs[(((xs.size:Int)-1)+(m:Int)*(-1)).toNat]?).toArray)=xs.toList.reverse.toArray:=by
 have go:∀k,k<=xs.size->((List.range k).filterMap λ(m:Nat)=>xs[(((xs.size:Int)-1)+(m:Int)*(-1)).toNat]?)=xs.toList.reverse.take k:=by
  intro k;induction k with
  | zero=>intro _;rfl
  | succ k ih=>
   intro h;have hr:k<xs.toList.reverse.length:=by rw[List.length_reverse,Array.length_toList];omega
   have e1:(((xs.size:Int)-1)+(k:Int)*(-1)).toNat=xs.size-1-k:=by omega
   have e2:xs[xs.size-1-k]? = some (xs[xs.size-1-k]'#[1]):=Array.getElem?_eq_getElem #[1];rw[List.range_succ,List.filterMap_append,ih #[1],List.take_succ_eq_append_getElem hr]
   congr 1
   rw[List.filterMap_cons,List.filterMap_nil];simp only[e1,e2];rw[List.getElem_reverse];simp
 rw[go _ uX,gK #[14]]
theorem cut_back{items:Array Value}{Q:Value->Shared->Prop}(ht:IsTup s.heap t items)(hs:s.heap.IsSliceOf sl .none .none (.int (-1) u))(hz:items.size<=sizeLine)
  (h:Q (.ref s.heap.objs.size) { s with heap:=s.heap.push { cls:=.type "tuple",data:=.seq items.toList.reverse.toArray } }):wpAny #[7] A (getItem (.ref t) (.ref sl)) Q E s:=by
 have fits:sizeOk (.seq items.toList.reverse.toArray):=by
  show items.toList.reverse.toArray.size<=sizeLine;rw[mH,List.length_reverse,Array.length_toList];exact hz
 obtain⟨os,hos,hcs,hds⟩:=id hs;have hTs:s.TypeIs (.ref sl) "slice":=⟨os,hos,hcs⟩;unfold getItem;try with_reducible refine wpAny_holding ?_
 first | refine tQ (tR ?_) | skip
 refine tQ (wpAny_sequenceKey ht.typeIs #[0] ?_);refine tQ (wpAny_callSpecial?_slot (name:=Str.ofString "__getitem__") ht.typeIs PyProof.Rows.slot_tuple_getitem (wpAny_call_entry PyProof.Rows.slot_tuple_getitem ht.typeIs entry_tuple_getitem ?_ (args_tuple_getitem _ _)));show wpAny _ _ (Builtin.Tuple.tupleItemsOf (.ref t) >>= _) _ _ s;refine tQ (tupleItemsOf_ ht (tQ (wpAny_typeOf hTs ?_)));rw[tU #[0]];refine tQ (KD hs ?_);show wpAny _ _ (if (((items.size:Int)-1)==0&&(-1:Int)==1&&items.size==items.size)=true then _ else _) _ _ s;rw[tT (by rw[show((-1:Int)==1)=false from rfl];simp),UM];first
  | exact tQ (m:=Builtin.Tuple.tupleExact _) (wpAny_newObj_type (tR ⟨_,rfl,tR h⟩) fits)
  | exact tQ (m:=Builtin.Tuple.tupleExact _) (wpAny_newObj_type (tQ (tR (tR ⟨_,rfl,tR h⟩))) fits)
  | exact tQ (tQ (m:=Builtin.Tuple.tupleExact _) (wpAny_newObj_type (tR (tR ⟨_,rfl,tR h⟩)) fits))
  | exact tQ (tQ (m:=Builtin.Tuple.tupleExact _) (wpAny_newObj_type (tR ⟨_,rfl,tR h⟩) fits))
end
end HT
namespace L2
open PySem PySem.Spec PyProof.Rows
section
variable{X:Cx}
def Gets(H:Hp)(xs:List V)(Q:VK):Prop:=∀p H',Same H H'->H' p=some (.tup xs)->Q (.ref p) H'
def rSlH:V->Option Int->Option Int->Hp->VK->Prop:=λx lo hi H Q=>∃a xs,x=.ref a/\H a=some (.tup xs)/\Gets H (xK xs lo hi) Q
theorem II:SlR X rSlH:=by
 intro ac s σ H x v vl vu lo hi sl Q I rx hs pl pu h;obtain⟨a,xs,rfl,hx,q⟩:=h;by_cases hw:HT.sIx xs.length 0 lo=0/\HT.sIx xs.length xs.length hi=xs.length
 ·cases rx;obtain⟨its,r,ht,hz⟩:=I.tuple (SqT.of hx);have hl:its.toArray.size=xs.length:=by rw[mH];exact r.length.symm
  refine⟨"tuple",_,PyProof.Rows.slot_tuple_getitem.lookup,ht.typeIs,HT.cut_whole ht hs pl pu (by rw[hl];exact hw) ⟨.ref a,H,I,rfl,q a H (λ_ _ e=>e) ?_⟩⟩;rw[hx,xK,hw.1,hw.2];simp
 ·exact XS ac s σ H _ v vl vu lo hi sl Q I rx hs pl pu ⟨a,xs,rfl,SqT.of hx,hw,λp n=>q p _ (Lw.jQ _ n) jE⟩
def rCatH:R2:=λx y H Q=>∃a b xs ys,x=.ref a/\y=.ref b/\H a=some (.tup xs)/\H b=some (.tup ys)/\xs.length+ys.length<=sizeLine/\Gets H (xs++ys) Q
theorem RC:OpR X (binaryOp .Add) rCatH:=by
 intro ac s σ H x y v u Q I rx ry h;obtain⟨a,b,xs,ys,rfl,rfl,ha,hb,hz,q⟩:=h;cases rx;cases ry;obtain⟨its,r1,p1,_⟩:=I.tuple (SqT.of ha);obtain⟨its2,r2,p2,_⟩:=I.tuple (SqT.of hb);refine HT.cat_any p1 p2 (λz=>⟨.ref b,H,I,rfl,q b H (λ_ _ e=>e) ?_⟩) (λz=>⟨.ref a,H,I,rfl,q a H (λ_ _ e=>e) ?_⟩) ?_ (by rw[<-r1.length,<-r2.length];exact hz)
 ·rw[r1.nil_iff.mp z];exact hb
 ·rw[r2.nil_iff.mp z,List.append_nil];exact ha
 ·have n:=I.hok.fresh (tK s.heap.objs.size);refine⟨.ref s.heap.objs.size,_,I.laid (t':=s.toks) (o:=.tup (xs++ys)) (λb ob q=>gJ _ q) uX ?_,rfl,q _ _ (Lw.jQ _ n) jE⟩;exact⟨by rw[hJ];exact hz,_,r1.append r2,IsTup.new _ _,.of (gY _ rfl) rfl⟩
theorem uV:∀{xs:List V} {us:List Value},Vals xs us->Vals xs.reverse us.reverse
 | _,_,.nil=>.nil
 | _,_,.cons h t=>by
  rw[List.reverse_cons,List.reverse_cons];exact(uV t).append (.cons h .nil)
def tBack(te:TE)(ts:TO):TE:=fun σ H Q=>te σ H λx H1=>ts σ H1 λo H2=>o=some (-1)/\∃a xs,x=.ref a/\H2 a=some (.tup xs)/\Gets H2 xs.reverse Q
theorem pe_back{e st:Expr}{te:TE}{ts:TO}{pos p2:Pos}(he:PE X e te)(hs:PO X (some st) ts):PE X (.Subscript e (.Slice none none (some st) p2) pos) (tBack te ts):=by
 intro ac s σ H Q I h;refine Subscript_ (thn (he ac s σ H _ I h) λv s1 ⟨x,H1,I1,r1,q1⟩=>?_);refine wpAny_Slice ?_;rw[evalPart_none];refine tR (tR (thn (hs ac s1 σ H1 _ I1 q1) λvs s2 ⟨o,H2,I2,po,eo,a,xs,ex,hx,q⟩=>?_));subst eo ex;cases r1;cases po with
 | int i u=>
 have I3:Inv X ac σ H2 { s2 with heap:=s2.heap.push { cls:=.type "slice",data:=.fields #[.none,.none,.int (-1) u] } } :=I2.kept (t':=s2.toks) λb ob q=>gJ _ q;obtain⟨its,r,ht,hz⟩:=I3.tuple (SqT.of hx);have hl:its.toArray.size=xs.length:=by rw[mH];exact r.length.symm
 show wpAny #[4] X.A (subscriptTail e (.Slice none none (some st) p2) (.ref a) (.ref s2.heap.objs.size)) (EP X ac σ Q) X.xe { s2 with heap:=s2.heap.push { cls:=.type "slice",data:=.fields #[.none,.none,.int (-1) u] } };refine tail_any (ops:=[.ref a,.ref s2.heap.objs.size]) ht.typeIs PyProof.Rows.slot_tuple_getitem.lookup ?_ (by with_unfolding_all rfl);have n:=I3.hok.fresh (tK (s2.heap.push { cls:=.type "slice",data:=.fields #[.none,.none,.int (-1) u] }).objs.size);refine HT.cut_back ht (Heap.IsSliceOf.new ..) (by rw[hl];exact hz) ⟨.ref _,_,I3.laid (t':=s2.toks) (o:=.tup xs.reverse) (λb ob q=>gJ _ q) uX ?_,rfl,q _ _ (Lw.jQ _ n) jE⟩;exact⟨by rw[List.length_reverse];exact hz,_,uV r,IsTup.new _ _,.of (gY _ rfl) rfl⟩
end
end L2
namespace LwMx
open PySem PySem.Spec PyProof.Rows L2 Lw
section
variable{prog:Program}{w:World}{A:Around}{R:Result->Shared->Prop}{J:Addr}{fp wr:List Addr}{n:Nat}{Pv:Nat->Value->Prop}{St:Nat->Heap->Prop}
theorem JF:(toString "max"++toString ".loop" :String)="max.loop":=by decide
theorem mx_turns(Wk:Walks prog w A.in1 J fp wr n Pv St)(gt:Nat->Nat->Bool)(cmp:CmpOf prog w A.in1 .Gt Pv gt)(B:Addr)(out:B∉fp)(kws:List (Str×Value)) :
  ∀(k j:Nat) (s:Shared) (x:Value) (c:Nat),n-(j+1)=k->j+1<=n->St (j+1) s.heap->Pv (argBest gt j) x->
  s.heap.get? B=some { cls:=.type "list",dict:=none,data:=.seq #[x,x] c,slots:=#[] }->
  (∀y h' tk,Pv (argBest gt (n-1)) y->(∀b o,b∉wr->b≠B->s.heap.get? b=some o->h'.get? b=some o)->R (.ok (.ret y)) { s with heap:=h',toks:=tk })->
  codeAny #[7] A (.builtin "max.loop" ⟨[.ref J,.none,.ref B],kws⟩) R s:=by
 have outw:B∉wr:=λz=>out (Wk.sub _ z);intro k;induction k with
 | zero=>
  intro j s x c hk hj st px hB hR;have jn:j+1=n:=by omega
  refine codeAny_builtin PySem.F.entry_max_loop ?_;rw[Around.under_plainId PySem.F.plain_max_loop _];show wpAny _ A.in1 (seqItems? (.ref B) >>= _) _ _ s;refine tQ (wpAny_seqItems hB rfl ?_);show wpAny _ A.in1 (tryCatch (pyNext (.ref J)) _ >>= _) _ _ s;refine tQ (wpAny_tryCatch (Wk.done s _ _ (jn▸st) λh1 t1 k1=>?_));have hB1:=k1 B _ outw hB;show wpAny _ A.in1 (updateSeq B (λ_=>#[]) >>= _) _ _ _;refine tQ (wpAny_updateSeq hB1 rfl (tQ (wpAny_letGo (tR ?_))));exact hR x _ t1 (by rw[<-jn];exact px) λb o n1 n2 e=>(Heap.get?_update_other _ _ (Ne.symm n2)).trans (k1 b o n1 e)
 | succ k ih=>
  intro j s x c hk hj st px hB hR;have jn:j+1<n:=by omega
  refine codeAny_builtin PySem.F.entry_max_loop ?_;rw[Around.under_plainId PySem.F.plain_max_loop _];show wpAny _ A.in1 (seqItems? (.ref B) >>= _) _ _ s;refine tQ (wpAny_seqItems hB rfl ?_);show wpAny _ A.in1 (tryCatch (pyNext (.ref J)) _ >>= _) _ _ s;refine tQ (wpAny_tryCatch (Wk.item (j+1) s _ _ jn st λy h1 t1 py st1 k1=>?_));have hB1:=k1 B _ outw hB;show wpAny _ A.in1 (tryCatch (holding [y,y] (richCompare .Gt y x >>= _)) _ >>= _) _ _ _;refine tQ (wpAny_tryCatch (wpAny_holding (tQ (cmp (j+1) (argBest gt j) y x _ _ _ py px ?_))));refine tQ (wpAny_holding (wpAny_truthy_bool (tQ (wpAny_letGo (tR ?_)))));cases hb:gt (j+1) (argBest gt j)with
  | true=>
   simp only[if_true];refine tQ (wpAny_updateSeq hB1 rfl (tQ (wpAny_letGo ?_)));rw[JF];refine tR ⟨plainId_quiet PySem.F.plain_max_loop _,ih (j+1) _ y _ #[1] jn (Wk.frame _ _ _ st1 λb hb' o e=>?_) (by simp only[argBest,hb,if_true];exact py) (Heap.get?_update_self _ hB1 rfl) λy' h2 t2 p2 k2=>?_⟩
   ·exact(Heap.get?_update_other _ _ (λz:B=b=>out (by rw[z];exact hb'))).trans e
   ·exact hR y' h2 t2 p2 λb o n1 n2 e=>k2 b o n1 n2 ((Heap.get?_update_other _ _ (Ne.symm n2)).trans (k1 b o n1 e))
  | false=>
   simp only[Bool.false_eq_true,if_false];refine tQ (wpAny_letGo ?_);rw[JF];refine tR ⟨plainId_quiet PySem.F.plain_max_loop _,ih (j+1) _ x c #[1] jn st1 (by simp only[argBest,hb,Bool.false_eq_true,if_false];exact px) hB1 λy' h2 t2 p2 k2=>?_⟩;exact hR y' h2 t2 p2 λb o n1 n2 e=>k2 b o n1 n2 (k1 b o n1 e)
theorem mx_start(Wk:Walks prog w A.in1 J fp wr n Pv St)(gt:Nat->Nat->Bool)(cmp:CmpOf prog w A.in1 .Gt Pv gt)(B:Addr)(out:B∉fp)(d:Value){s:Shared}{c:Nat}(st:St 0 s.heap)
  (hB:s.heap.get? B=some { cls:=.type "list",dict:=none,data:=.seq #[] c,slots:=#[] })
  (h0:n=0->∀h' tk,(∀b o,b∉wr->b≠B->s.heap.get? b=some o->h'.get? b=some o)->R (.ok (.ret d)) { s with heap:=h',toks:=tk })
  (hR:0<n->∀y h' tk,Pv (argBest gt (n-1)) y->(∀b o,b∉wr->b≠B->s.heap.get? b=some o->h'.get? b=some o)->R (.ok (.ret y)) { s with heap:=h',toks:=tk }) :
  codeAny #[7] A (.builtin "max.loop" ⟨[.ref J,.none,.ref B],[("default",d)]⟩) R s:=by
 have outw:B∉wr:=λz=>out (Wk.sub _ z);refine codeAny_builtin PySem.F.entry_max_loop ?_;rw[Around.under_plainId PySem.F.plain_max_loop _];show wpAny _ A.in1 (seqItems? (.ref B) >>= _) _ _ s;refine tQ (wpAny_seqItems hB rfl ?_);show wpAny _ A.in1 (tryCatch (pyNext (.ref J)) _ >>= _) _ _ s;by_cases hn:0<n
 ·refine tQ (wpAny_tryCatch (Wk.item 0 s _ _ hn st λy h1 t1 py st1 k1=>?_));have hB1:=k1 B _ outw hB;show wpAny _ A.in1 (updateSeq B (λ_=>#[y,y]) >>= _) _ _ _;refine tQ (wpAny_updateSeq hB1 rfl ?_);rw[JF];refine tR ⟨plainId_quiet PySem.F.plain_max_loop _,mx_turns Wk gt cmp B out _ _ 0 _ y _ rfl hn (Wk.frame _ _ _ st1 λb hb' o e=>?_) py (Heap.get?_update_self _ hB1 rfl) λy' h2 t2 p2 k2=>?_⟩
  ·exact(Heap.get?_update_other _ _ (λz:B=b=>out (by rw[z];exact hb'))).trans e
  ·exact hR hn y' h2 t2 p2 λb o n1 n2 e=>k2 b o n1 n2 ((Heap.get?_update_other _ _ (Ne.symm n2)).trans (k1 b o n1 e))
 ·have z:n=0:=by omega
  subst z;refine tQ (wpAny_tryCatch (Wk.done s _ _ st λh1 t1 k1=>?_));refine tQ (wpAny_rule (tR ?_));exact h0 rfl _ t1 λb o n1 n2 e=>k1 b o n1 e
end
theorem mx_args(a v:Value):argsOk "max" ⟨[a],[(Str.ofString "default",v)]⟩:=by unfold argsOk;kernel_rfl
section
variable{prog:Program}{w:World}{A:Around}{E:Value->Shared->Prop}{s:Shared}
theorem mx_call{Q:Value->Shared->Prop}
  (h:wpAny #[7] A.in1 (pyIter x) (λit s₂=>∃J fp wr n Pv St gt,it=.ref J/\Walks prog w A.in1 J fp wr n Pv St/\St 0 s₂.heap/\(∀b∈fp,b<s₂.heap.objs.size)/\CmpOf prog w A.in1 .Gt Pv gt/\
   (n=0->∀h' tk,(∀b o,b∉wr->s₂.heap.get? b=some o->h'.get? b=some o)->Q d { s₂ with heap:=h',toks:=tk })/\
   (0<n->∀v h' tk,Pv (argBest gt (n-1)) v->(∀b o,b∉wr->s₂.heap.get? b=some o->h'.get? b=some o)->Q v { s₂ with heap:=h',toks:=tk })) E s) :
  wpAny #[7] A (call (.builtin "max") [x] [(Str.ofString "default",d)]) Q E s:=by
 refine kmb_tree PySem.F.kind_max PySem.F.plain_max PySem.F.entry_max (mx_args _ _) ?_;show wpAny _ A.in1 (Builtin.Builtins.bindParams "max" ["key","default"] 0 ⟨[],[(Str.ofString "default",d)]⟩ >>= _) _ _ s;refine tQ (wpAny_of_eq (show Builtin.Builtins.bindParams "max" ["key","default"] 0 ⟨[],[(Str.ofString "default",d)]⟩=pure [none,some d]from rfl) ?_);refine tQ (tR (tQ (tS h (λit s₂ h₂=>?_) λ_ _ e=>e)));obtain⟨J,fp,wr,n,Pv,St,gt,rfl,Wk,st,lt,cmp,q0,q1⟩:=h₂;refine tQ (wpAny_newObj_type ?_);have out:s₂.heap.objs.size∉fp:=λz=>nQ _ (lt _ z);rw[JF];have up:∀(h':Heap),(∀b o,b∉wr->b≠s₂.heap.objs.size->(s₂.heap.push { cls:=.type "list",data:=.seq ([]:List Value).toArray }).get? b=some o->h'.get? b=some o)->∀b o,b∉wr->s₂.heap.get? b=some o->h'.get? b=some o:=λh' k b o n1 e=>
  k b o n1 (nX (nV e)) (gJ _ e)
 refine tR ⟨plainId_quiet PySem.F.plain_max_loop _,mx_start Wk gt cmp s₂.heap.objs.size out d (Wk.frame _ _ _ st λb _ o e=>gJ _ e) (gY _ rfl) (λz h' tk k=>q0 z h' tk (up h' k)) λz v h' tk p k=>q1 z v h' tk p (up h' k)⟩
end
theorem best_is(ns:List Int):∀k,k<ns.length->(argBest (λi j=>decide (ns.getD i 0>ns.getD j 0)) k)<=k/\∀j,j<=k->ns.getD j 0<=ns.getD (argBest (λi j=>decide (ns.getD i 0>ns.getD j 0)) k) 0
 | 0,_=>⟨tK _,λj hj=>by have:j=0:=#[1];subst this;exact tP _⟩
 | k+1,h=>by
  obtain⟨h1,h2⟩:=best_is ns k #[1];simp only[argBest];split
  ·rename_i hb;have hb:=mK hb;refine⟨tK _,λj hj=>?_⟩;rcases Nat.lt_or_ge j (k+1)with z | z
   ·have:=h2 j #[1];omega
   ·have:j=k+1:=by omega
    subst this;exact tP _
  ·rename_i hb;refine⟨by omega,λj hj=>?_⟩;rcases Nat.lt_or_ge j (k+1)with z | z
   ·exact h2 j #[1]
   ·have e:j=k+1:=by omega
    have:¬ns.getD (k+1) 0>ns.getD (argBest (λi j=>decide (ns.getD i 0>ns.getD j 0)) k) 0:=λy=>hb (nG y);rw[e];omega
section
variable{X:Cx}
def rMaxD(d:Int):List V->Hp->VK->Prop:=λxs H Q=>∃(l:Addr) (ns:List Int),xs=[.ref l]/\H l=some (.lst #[15])/\(ns=[]->Q (.int d) H)/\∀m,m∈ns->(∀x∈ns,x<=m)->Q (.int m) H
theorem VZ{ns:List Int}{d:Int}(hc:X.calm=true)(I:Inv X ac σ H s)(hl:H l=some (.lst #[15]))
  (q0:ns=[]->Q (.int d) H) (q1:∀m,m∈ns->(∀x∈ns,x<=m)->Q (.int m) H):wpAny #[4] X.A (call (.builtin "max") [.ref l] [(Str.ofString "default",.int d t)]) (EP X ac σ Q) X.xe s:=by
 obtain⟨its,rv,p,_⟩:=I.list (SqL.of hl);have i1:IntsAre its ns:=kY rv;have il:=qQ i1;have ha:l<s.heap.objs.size:=by
  obtain⟨o,_,e,_⟩:=p;exact nV e
 have p':s.heap.IsList l its.toArray:=by
  obtain⟨o,n,e,e2,_,e3⟩:=p;exact⟨o,e,e2,⟨n,e3⟩⟩
 refine mx_call (wpAny_pyIter_list p' ?_);refine⟨s.heap.objs.size,_,_,_,_,_,λi j=>decide (ns.getD i 0>ns.getD j 0),rfl,Walks.list (show X.A.in1.handled=none from I.ok.hd hc) s.heap.objs.size l (nX ha) its.toArray,⟨⟨_,gY _ rfl,rfl,rfl⟩,p'.push _⟩, ?_, ?_, ?_, ?_⟩
 ·intro b hb;show b<(s.heap.push _).objs.size;rw[nN];simp only[nP,mQ,or_false]at hb;rcases hb with rfl | rfl
  ·exact mW _
  ·exact Nat.lt_succ_of_lt ha
 ·refine CmpOf.ints_gt (λi=>ns.getD i 0) λi v hv=>?_;have hv':its[i]? = some v:=by simpa using hv
  obtain⟨hi,e⟩:=gE.mp hv';obtain⟨n,t,e1,e2⟩:=vU i1 hi;exact⟨t,by rw[<-e,e2,gB,e1];rfl⟩
 ·intro z h' tk k;have z':ns=[]:=by
   have:its.length=0:=by simpa using z
   exact List.length_eq_zero_iff.mp #[1]
  refine⟨.int d,H,I.kept (t':=tk) (λb o e=>k b o ?_ (gJ _ e)),⟨t,rfl⟩,q0 z'⟩;simp;exact nX (nV e)
 ·intro z v h' tk hv k;have z':0<ns.length:=by
   have:0<its.length:=by simpa using z
   omega
  have sz:its.toArray.size=ns.length:=by rw[mH,il]
  rw[sz]at hv;obtain⟨b1,b2⟩:=best_is ns (ns.length-1) #[1];generalize argBest (λi j=>decide (ns.getD i 0>ns.getD j 0)) (ns.length-1)=i at hv b1 b2;have hv':its[i]? = some v:=by simpa using hv
  obtain⟨hi,e⟩:=gE.mp hv';obtain⟨n,t,e1,e2⟩:=vU i1 hi;have en:ns.getD i 0=n:=by rw[gB,e1];rfl
  refine⟨.int n,H,I.kept (t':=tk) (λb o e=>k b o ?_ (gJ _ e)),⟨t,by rw[<-e,e2]⟩,q1 n (gQ e1) λx hx=>?_⟩
  ·simp;exact nX (nV e)
  ·obtain⟨j,hj⟩:=gP.mp hx;have hjl:=(gE.mp hj).1;have:=b2 j #[1];rw[en,gB,hj]at this;exact this
variable{p pos kpos:Pos}{e e2:Expr}{es:List Expr}{t tk:TA}
def tMaxD(t tk:TA):TE:=fun σ H Q=>t σ H λvs H1=>tk σ H1 λzs H2=>∃d,zs=[.int d]/\rMaxD d vs H2 Q
theorem pe_maxD(hc:X.calm=true)(hg:Gl X "max")(hm:X.mg "max" = none)(ha:PA X [e] t)(hk:PK X [⟨some "default",e2,kpos⟩] tk)
  (hall:(backToKw pos (keywordEach [⟨some "default",e2,kpos⟩] X.env)).all (·.1.isSome)=true:=by rfl) (hks:(backToKw pos (keywordEach [⟨some "default",e2,kpos⟩] X.env)).filterMap (·.1)=[Str.ofString "default"]:=by rfl)
  (he:starEach [e] X.env=[(false,eval e X.env)]:=by rfl)
  (hpl:((backTo pos (starEach [e] X.env)).any (·.1)||(backToKw pos (keywordEach [⟨some "default",e2,kpos⟩] X.env)).any (·.1.isNone))=false:=by rfl) :
  PE X (.Call (.Name "max" p) [e] [⟨some "default",e2,kpos⟩] pos) (tMaxD t tk):=by
 intro ac s σ H Q I h;refine wpAny_Call_Name_kw (yP I hg hm (show bootBuiltins "max" = some (.builtin "max") by decide +kernel) ?_ #[0] #[0]);refine PySem.W.callWith_of (P:=λ_=>True) hpl (λ_ _=>⟨_,.inr (.inl rfl),PySem.W.Looks.of_pure rfl⟩) (evalArgs_kw2 hall (thn (ha pos ac s σ H _ I h) λus s1 ⟨vs,H1,I1,r,q⟩=>?_) he);refine thn (hk pos ac s1 σ H1 _ I1 q) λws s2 ⟨zs,H2,I2,rz,q2⟩=>⟨trivial, ?_⟩;rw[hks];obtain⟨d,rfl,l,ns,rfl,hl,q0,q1⟩:=q2;obtain⟨u,rfl,ru⟩:=qW r;cases ru;obtain⟨u,rfl,⟨t,rfl⟩⟩:=qW rz;exact VZ hc I2 hl q0 q1
end
end LwMx
namespace L2
open PySem PySem.Spec PyProof.Rows
section
variable{X:Cx}{ac:List #[17]}{σ:St}{H:Hp}{s:Shared}
theorem FpOk.apartL(I:Inv X ac σ H s)(f:FpOk X ac H b)(h:SqL X.K H a xs):a≠b:=by
 rintro rfl;rcases h with(h | ⟨o,h⟩) | ⟨o,its,n,hk,hc,hs,hz,r⟩
 ·rw[f.1]at h;cases h
 ·rw[f.1]at h;cases h
 ·have hb:X.base.get? a=some o:=I.ok.mod.kin a o hk;rcases f.2.2.2.1 with z | z
  ·exact I.ok.noex a o hb z
  ·exact absurd (hW (nV hb) (nW I.ok.bsz z)) (nQ _)
end
def lstObj(a:Addr):Obj:={ cls:=.type "list_iterator",data:=.fields #[.ref a,.int 0 0] }
def srcL(prog:Program)(w:World)(i l:Addr):Src prog w i where
 at_ k h:=h.IsListIter i l k
 has xs h:=∃its,h.IsList l (List.toArray its)/\Vals xs its
 dep:=[l]
 next st hs hx q:=by
  obtain⟨its,t,r⟩:=hs;obtain⟨u,hu,ru⟩:=r.get hx;exact wpAny_nextOf_list_item st t (by simpa using hu) λg n b=>q g _ u ru n b
 stop hh st hs hx q:=by
  obtain⟨its,t,r⟩:=hs;exact wpAny_nextOf_list_end hh st t (by have:=r.length;have:=List.getElem?_eq_none_iff.mp hx;simp;omega) q
 atk x f:=x.at f
 hask x f:=let ⟨its,t,r⟩:=x;⟨its,let ⟨o,h1,h2⟩:=t;⟨o,f l (mB.mpr rfl) o h1,h2⟩,r⟩
 obj x:=let ⟨o,h1,_,d⟩:=x;⟨o,h1,λv q=>by rw[d]at q;cases q⟩
theorem it0L{h:Heap}(t:h.IsList a its):Itr0 prog w (.ref a) (lstObj a) h:=λe q=>by
 subst e;exact wpAny_pyIter_list t q
theorem Inv.hasL{X:Cx}{s:Shared}(I:Inv X ac σ H s)(h:SqL X.K H a xs):(srcL X.prog X.w i a).has xs s.heap:=by
 obtain⟨its,r,p,_⟩:=I.list h;exact⟨its,p.isList,r⟩
def Itu(K:tV)(a b:Addr):It:=
 ⟨λi H=>∃xs ys x y,SqT K H a xs/\SqL K H b ys/\xs[i]? = some x/\ys[i]? = some y,
  λi H v H'=>∃p x y,H p=none/\v=.ref p/\H'=upd H p (.tup [x,y])/\(∀xs,SqT K H a xs->xs[i]? = some x)/\(∀ys,SqL K H b ys->ys[i]? = some y),
  λi H=>∃xs ys,SqT K H a xs/\SqL K H b ys/\(xs.length<=i∨ys.length<=i)⟩
theorem srcJ_U{P:Program}{w:World}{K:tV}{i1 i2 a b:Addr} :SrcJ P w K (KO P w i1 a) (srcL P w i2 b) (Itu K a b):=by
 refine⟨λX hP hw hK {i ac s σ H} I hg=>?_,λX hP hw hK {i ac s σ H} I hg=>?_⟩<;>subst hP hw hK
 ·obtain⟨xs,ys,x,y,q1,q2,hx,hy⟩:=hg;exact⟨xs,ys,x,y,I.hasT q1,I.hasL q2,hx,hy,λb' f=>by rintro z;rcases nE.mp z with z | z;exact(f.apart I q1) (mB.mp z).symm;exact(f.apartL I q2) (mB.mp z).symm,λp n=>⟨p,x,y,n,rfl,rfl,λxs' h=>by rw[I.tuple_inj h q1];exact hx,λys' h=>by rw[I.list_inj h q2];exact hy⟩⟩
 ·obtain⟨xs,ys,q1,q2,he⟩:=hg;exact⟨xs,ys,I.hasT q1,I.hasL q2,he.imp gO gO,λb' f=>by rintro z;rcases nE.mp z with z | z;exact(f.apart I q1) (mB.mp z).symm;exact(f.apartL I q2) (mB.mp z).symm⟩
section
variable{X:Cx}
def iZipU(K:tV)(ta:TA):TI:=fun σ H R=>ta σ H λvs H1=>∃a b,vs=[.ref a,.ref b]/\(∃xs,SqT K H1 a xs)/\(∃ys,SqL K H1 b ys)/\R (Itu K a b) H1
theorem CL{x1}(hg:Gl X "zip")(hm:X.mg "zip" = none)(ha:PA X [a,b] ta)(hs:starEach [a,b] X.env=[(false,eval a X.env),(false,eval b X.env)]:=by rfl)(hs2:starEach [b] X.env=[(false,eval b X.env)]:=by rfl) :
  PI X (.Tuple es x1 tp) (.Call (.Name "zip" p) [a,b] [] pos) (iZipU X.K ta):=by
 intro ac s σ H R I h;refine Call_ (yP I hg hm boot_zip (PyProof.Rows.callWith_type1 (thn (ha pos ac s σ H _ I h) λus s1 ⟨vs,H1,I1,r1,q1⟩=>?_) (by rw[hs,hs2]) (by rw[hs2];rfl)));obtain⟨l1,l2,e,⟨xs,q1⟩,⟨ys,q2⟩,q⟩:=q1;subst e;cases r1 with
 | cons r rr=>
  cases rr with
  | cons r' rr=>
   cases rr;cases r;cases r';obtain⟨its1,_,p1,_⟩:=I1.tuple q1;obtain⟨its2,_,p2,_⟩:=I1.list q2;exact QX I1 (it0T p1) (it0L (Heap.IsList.push p2.isList _)) rfl rfl (KO _ _ _ l1) (srcL _ _ _ l2) (λg=>at0T g) (λg e=>⟨_,e,rfl,rfl⟩) srcJ_U q
end
section
open AutoSeq1 (wpAny_loadPart')
theorem MA(l:Addr)(items:Array Value)(o:Obj)(hcl:o.cls=.type "tuple")(n:Nat)(hdt:o.data=.seq items n) :
  Meets (Builtin.«enumerate.__new__» ⟨[.type "enumerate",.ref l],[]⟩) (λ_ R s=>s.heap.get? l=some o/\
   R (.ok (.ret (.ref (s.heap.push { cls:=.type "tuple_iterator",data:=.fields #[.ref l,.int 0 0] }).objs.size)))
    { s with heap:=(s.heap.push { cls:=.type "tuple_iterator",data:=.fields #[.ref l,.int 0 0] }).push { cls:=.type "enumerate",data:=.fields #[.none,.bool false,.ref s.heap.objs.size,rawInt 0,.none,.none] } }):=
 .of_wp λprog w A R s h=>by
  obtain⟨hp,g,d,tk,os⟩:=s;obtain⟨hl,h⟩:=h;have hsub:=sub_enumerate;have TL:Heap.IsTuple (Shared.heap ⟨hp,g,d,tk,os⟩) l items:=⟨_,hl,hcl,n,hdt⟩;obtain⟨c,dct,dt,sl⟩:=o
  replace hcl:c=.type "tuple":=hcl
  replace hdt:dt=.seq items n:=hdt
  subst hcl hdt
  wp_walk using wpAny_loadPart' hl
  refine wpAny_stack_any λst=>tR ?_;split
  ·rename_i c _ _ _ _ _;cases (c==Value.type "enumerate")<;>
   ·wp_walk using wpAny_loadPart' hl,wpAny_pyIter_tuple TL
    exact⟨_,rfl,h⟩
  ·wp_walk using wpAny_loadPart' hl,wpAny_pyIter_tuple TL
   exact⟨_,rfl,h⟩
end
section
variable{prog:Program}{w:World}{A:Around}{E:Value->Shared->Prop}{s:Shared}
theorem OR{Q:Value->Shared->Prop}(tl:s.heap.IsTuple l items)
  (q:∀g,IsEnum g (s.heap.objs.size+1) s.heap.objs.size 0 .none->g.IsTupleIter s.heap.objs.size l 0->(∀b o,s.heap.get? b=some o->g.get? b=some o)->Q (.ref (s.heap.objs.size+1)) { s with heap:=g }) :
  wpAny #[7] A (call (.type "enumerate") [.ref l]) Q E s:=by
 obtain⟨o,hl,hc,n,hd⟩:=tl;refine callType_new F.called_enumerate #[0] (F.typeCall_enumerate_1 _) (F.newCall_enumerate_1 _) (λobj=>F.args_object_init_2 obj _) F.entry_enumerate_new (MA l items o hc n hd) ⟨hl, ?_⟩;have hz:(s.heap.push { cls:=.type "tuple_iterator",data:=.fields #[.ref l,.int 0 0] }).objs.size=s.heap.objs.size+1:=nN ..;show _/\_;rw[hz];have he:IsEnum ((s.heap.push { cls:=.type "tuple_iterator",data:=.fields #[.ref l,.int 0 0] }).push { cls:=.type "enumerate",data:=.fields #[.none,.bool false,.ref s.heap.objs.size,rawInt 0,.none,.none] }) (s.heap.objs.size+1) s.heap.objs.size 0 .none:=by
  have z:=gY (s.heap.push { cls:=.type "tuple_iterator",data:=.fields #[.ref l,.int 0 0] }) (o:={ cls:=.type "enumerate",data:=.fields #[.none,.bool false,.ref s.heap.objs.size,rawInt 0,.none,.none] }) rfl;rw[hz]at z;exact z
 exact⟨⟨_,he,rfl⟩,q _ he ⟨_,gJ _ (gY _ rfl),rfl,rfl⟩ λb o y=>gJ _ (gJ _ y)⟩
theorem OI{i:Nat}{Q:Option Value->Shared->Prop}
  (he:IsEnum s.heap e it i old) (hit:s.heap.IsTupleIter it l i) (tl:s.heap.IsTuple l items) (hx:items[i]? = some x) (hne:e≠it)
  (q:∀g,IsEnumOut g e it ((i:Int)+1) x s.heap.objs.size->g.IsTupleIter it l (i+1)->g.get? s.heap.objs.size=some { cls:=.type "tuple",data:=.seq #[.int i s.toks,x] }->
   (∀b o,b≠e->b≠it->s.heap.get? b=some o->g.get? b=some o)->Q (some (.ref s.heap.objs.size)) { s with heap:=g,toks:=s.toks+1 }) :
  wpAny #[7] A (pyNext (.ref e)) Q E s:=by
 have T:s.TypeIs (.ref e) "enumerate":=⟨_,he,rfl⟩;unfold pyNext;refine tQ (wpAny_attempt (wpAny_callSpecial?_slot (name:=Str.ofString "__next__") T F.slot_enumerate_next (wpAny_call_entry F.slot_enumerate_next T F.entry_enumerate_next ?_ (F.args_enumerate_next_1 _))));obtain⟨hp,gs,d,tk,os⟩:=s;show wpAny _ _ (field (.ref e) 2 >>= _) _ _ _;refine tQ (wpAny_field he rfl (x:=.ref it) rfl (tQ (nextT hit tl hx λg1 n1 b1=>?_)))
 replace b1:Heap.SameBut it hp g1:=b1
 have e1:IsEnum g1 e it i old:=(b1.2 e hne).trans he;show wpAny _ _ (field (.ref e) 3 >>= _) _ _ ⟨g1,gs,d,tk,os⟩;refine tQ (wpAny_field e1 rfl (x:=rawInt i) rfl ?_);show wpAny _ _ (field (.ref e) 4 >>= _) _ _ ⟨g1,gs,d,tk,os⟩;refine tQ (wpAny_field e1 rfl (x:=.none) rfl ?_);show wpAny _ _ (mkInt i >>= _) _ _ ⟨g1,gs,d,tk,os⟩;refine tQ (wpAny_mkInt ?_);show wpAny _ _ (setField (.ref e) 3 (rawInt ((i:Int)+1)) >>= _) _ _ ⟨g1,gs,d,tk+1,os⟩;refine tQ (wpAny_setField_rec e1 #[14] λg2 e2 b2=>?_)
 replace b2:Heap.SameBut e g1 g2:=b2
 replace e2:IsEnum g2 e it ((i:Int)+1) old:=e2
 show wpAny _ _ (setField (.ref e) 4 .none >>= _) _ _ ⟨g2,gs,d,tk+1,os⟩;refine tQ (wpAny_setField_rec e2 #[14] λg3 e3 b3=>?_)
 replace b3:Heap.SameBut e g2 g3:=b3
 replace e3:IsEnum g3 e it ((i:Int)+1) old:=e3
 show wpAny _ _ (newTuple [.int i tk,x] >>= _) _ _ ⟨g3,gs,d,tk+1,os⟩;refine tQ (wpAny_newTuple ?_);have e4:IsEnum (g3.push { cls:=.type "tuple",data:=.seq #[.int i tk,x] }) e it ((i:Int)+1) old:=gJ _ e3;generalize q4:g3.push { cls:=.type "tuple",data:=.seq #[.int i tk,x] } = g4 at e4;have zs:g3.objs.size=hp.objs.size:=by rw[b3.1,b2.1,b1.1]
 have el:e<hp.objs.size:=nV he;have t4:g4.get? hp.objs.size=some { cls:=.type "tuple",data:=.seq #[.int i tk,x] } :=by rw[<-q4,<-zs];exact gY _ rfl
 have k4:∀b o,b≠e->b≠it->hp.get? b=some o->g4.get? b=some o:=λb o y1 y2 y=>by
  rw[<-q4];exact gJ _ (b3.extBut b o y1 (b2.extBut b o y1 (b1.extBut b o y2 y)))
 have n4:g4.IsTupleIter it l (i+1):=by
  rw[<-q4];exact IsTupleIter.as ((n1.extBut b2.extBut (Ne.symm hne)).extBut b3.extBut (Ne.symm hne)) λo y=>gJ _ y
 show wpAny _ _ (Builtin.SmallTypes.ownedTupleIsFree (.ref e) >>= _) _ _ ⟨g4,gs,d,tk+1,os⟩;rw[zs];clear q4 e3 b3 e2 b2 e1 b1 n1 zs g3 g2 g1;refine tQ ?_;unfold Builtin.SmallTypes.ownedTupleIsFree;refine tQ (wpAny_field e4 rfl (x:=.none) rfl (tR ?_));simp only[if_true];refine tQ (wpAny_rule (tQ (wpAny_field e4 rfl (x:=old) rfl (tQ (wpAny_setField_rec e4 #[14] λg5 e5 b5=>?_)))))
 replace b5:Heap.SameBut e g4 g5:=b5
 replace e5:IsEnum g5 e it ((i:Int)+1) x:=e5
 show wpAny _ _ (Builtin.SmallTypes.ownedTupleHandOut (.ref e) (.ref hp.objs.size) >>= _) _ _ ⟨g5,gs,d,tk+1,os⟩;refine tQ ?_;unfold Builtin.SmallTypes.ownedTupleHandOut;refine tQ (wpAny_setField_rec e5 #[14] λg6 e6 b6=>?_)
 replace b6:Heap.SameBut e g5 g6:=b6
 replace e6:IsEnumOut g6 e it ((i:Int)+1) x hp.objs.size:=e6
 refine wpAny_setField_rec e6 #[14] λg7 e7 b7=>?_
 replace b7:Heap.SameBut e g6 g7:=b7
 replace e7:IsEnumOut g7 e it ((i:Int)+1) x hp.objs.size:=e7
 refine tQ (wpAny_letGo (tR ⟨_,rfl,tR (q g7 e7 ?_ ?_ ?_)⟩))
 ·exact((n4.extBut b5.extBut (Ne.symm hne)).extBut b6.extBut (Ne.symm hne)).extBut b7.extBut (Ne.symm hne)
 ·exact b7.extBut _ _ (Nat.ne_of_gt el) (b6.extBut _ _ (Nat.ne_of_gt el) (b5.extBut _ _ (Nat.ne_of_gt el) t4))
 ·exact λb o y1 y2 y=>b7.extBut b o y1 (b6.extBut b o y1 (b5.extBut b o y1 (k4 b o y1 y2 y)))
theorem VO{i:Nat}{Q:Option Value->Shared->Prop}(hh:A.handled=none)
  (he:IsEnum s.heap e it i old) (hit:s.heap.IsTupleIter it l i) (tl:s.heap.IsTuple l items) (hx:items[i]? = none)
  (q:∀g,Heap.ExtBut it s.heap g->Q none { s with heap:=g }):wpAny #[7] A (pyNext (.ref e)) Q E s:=by
 have T:s.TypeIs (.ref e) "enumerate":=⟨_,he,rfl⟩;unfold pyNext;refine tQ (wpAny_attempt (wpAny_callSpecial?_slot (name:=Str.ofString "__next__") T F.slot_enumerate_next (wpAny_call_entry F.slot_enumerate_next T F.entry_enumerate_next ?_ (F.args_enumerate_next_1 _))));show wpAny _ _ (field (.ref e) 2 >>= _) _ _ _;refine tQ (wpAny_field he rfl (x:=.ref it) rfl (tQ (HC hh hit tl hx λg y b1 ⟨o,ho,hc⟩=>?_)));exact tQ (wpAny_isInstance (T:="StopIteration") (b:=true) ⟨o,ho,hc⟩ isSubtype_stop (tR (q _ b1)))
end
def Ite(K:tV)(a:Addr):It:=
 ⟨λi H=>∃xs x,SqT K H a xs/\xs[i]? = some x,
  λi H v H'=>∃p x,H p=none/\v=.ref p/\H'=upd H p (.tup [.int i,x])/\(∀xs,SqT K H a xs->xs[i]? = some x),
  λi H=>∃xs,SqT K H a xs/\xs.length<=i⟩
theorem NE{P:Program}{w:World}{K:tV}{es:List Expr}{x1}{pos:Pos}(l:Addr){e it:Addr}(hne:e≠it):Turn P w K (.Tuple es x1 pos) (Ite K l) [e,it] e (λi h=>(∃old,IsEnum h e it i old)/\h.IsTupleIter it l i) where
 mem:=by simp
 obj:=λi h Z b hb=>by
  simp only[nP,mQ,or_false]at hb;obtain⟨⟨old,he⟩,⟨o1,g1,c1,d1⟩⟩:=Z;rcases hb with rfl | rfl
  ·exact⟨_,he,λv q=>by cases (show Data.fields _=Data.cell v from q)⟩
  ·exact⟨_,g1,λv q=>by rw[d1]at q;cases q⟩
 keep:=λi h h' Z k=>by
  obtain⟨⟨old,he⟩,s1⟩:=Z;exact⟨⟨old,k e #[14] _ he⟩,IsTupleIter.as s1 λo y=>k it #[14] o y⟩
 item:=by
  intro X hP hw hK hc i ac s σ H E I hf Z hg;subst hP hw hK;obtain⟨xs,x,q1,hx⟩:=hg;obtain⟨its1,r1,p1,_⟩:=I.tuple q1;obtain⟨u1,hu1,ru1⟩:=r1.get hx;obtain⟨⟨old,he⟩,hit⟩:=id Z;have ae:l≠e:=FpOk.apart I (hf e #[14]) q1;have ai:l≠it:=FpOk.apart I (hf it #[14]) q1;refine OI he hit (show s.heap.IsTuple l its1.toArray from p1) (x:=u1) (by simpa using hu1) hne λg out n1 nu kk=>⟨_,rfl, ?_⟩;refine wpAny_letOwnedTupleGo_enum out λg2 z2 sb=>?_;have fr:H s.heap.objs.size=none:=I.hok.fresh uX ;have el:e<s.heap.objs.size:=nV he;have il:it<s.heap.objs.size:=by obtain⟨_,y,_⟩:=hit;exact nV y
  have fp:∀b∈[e,it],FpOk X ac (upd H s.heap.objs.size (.tup [.int i,x])) b:=λb hb=>by
   have lt:b≠s.heap.objs.size:=by
    simp only[nP,mQ,or_false]at hb;rcases hb with rfl | rfl
    ·exact nX el
    ·exact nX il
   exact⟨by rw[jI lt];exact(hf b hb).1,(hf b hb).2⟩
  have I1:Inv X ac σ (upd H s.heap.objs.size (.tup [.int i,x])) { s with heap:=s.heap.push { cls:=.type "tuple",data:=.seq #[.int i s.toks,u1] } } :=I.laid (t':=s.toks) (λb u e=>gJ _ e) uX ⟨by simp [sizeLine],[.int i s.toks,u1],.cons ⟨_,rfl⟩ (.cons ru1 .nil),⟨_,gY _ rfl,rfl,_,rfl⟩,.of (gY _ rfl) rfl⟩;have up:∀c o,c≠e->g.get? c=some o->g2.get? c=some o:=λc o cz y=>sb.extBut _ _ cz y;have I2:Inv X ac σ (upd H s.heap.objs.size (.tup [.int i,x])) { s with heap:=g2,toks:=s.toks+1 } :=by
   refine Inv.turnedL (s:={ s with heap:=s.heap.push { cls:=.type "tuple",data:=.seq #[.int i s.toks,u1] } }) (h':=g2) (t':=s.toks+1) I1 fp λb o hb y=>?_;simp only[nP,mQ,or_false,not_or]at hb;rcases Heap.get?_push_cases y with⟨e1,e2⟩ | e1
   ·rw[e1,e2];exact up _ _ (Nat.ne_of_gt el) nu
   ·exact up _ _ hb.1 (kk b o hb.1 hb.2 e1)
  exact⟨.ref s.heap.objs.size,_,I2,rfl,⟨_,x,fr,rfl,rfl,λxs' h=>by rw[I.tuple_inj h q1];exact hx⟩,⟨⟨_,by simpa using z2⟩,IsTupleIter.as n1 λo y=>up _ o (Ne.symm hne) y⟩,λb hb=>(fp b hb).1⟩
 done:=by
  intro X hP hw hK hc i ac s σ H E I hf Z hg;subst hP hw hK;obtain⟨xs,q1,hl⟩:=hg;obtain⟨its1,r1,p1,_⟩:=I.tuple q1;obtain⟨⟨old,he⟩,hit⟩:=id Z;have e1:=r1.length;refine VO (I.ok.hd hc) he hit (show s.heap.IsTuple l its1.toArray from p1) (by simp;omega) λg eb=>⟨rfl,Inv.turnedL (t':=s.toks) I hf λb o hb y=>eb b o (λz=>hb (by simp [z])) y⟩
 self:=λ_ _ _ _ _ Z h=>by
  obtain⟨⟨old,he⟩,_⟩:=Z;exact wpAny_pyIter_enum he h
section
variable{X:Cx}
def iEnumT(K:tV)(ta:TA):TI:=fun σ H R=>ta σ H λvs H1=>∃a,vs=[.ref a]/\(∃xs,SqT K H1 a xs)/\R (Ite K a) H1
theorem YO{x1}(hg:Gl X "enumerate")(hm:X.mg "enumerate" = none)(ha:PA X [a] ta)(hs:starEach [a] X.env=[(false,eval a X.env)]:=by rfl) :
  PI X (.Tuple es x1 tp) (.Call (.Name "enumerate" p) [a] [] pos) (iEnumT X.K ta):=by
 intro ac s σ H R I h;refine Call_ (yP I hg hm (show bootBuiltins "enumerate" = some (.type "enumerate") by decide +kernel) (PyProof.Rows.callWith_type1 (thn (ha pos ac s σ H _ I h) λus s1 ⟨vs,H1,I1,r1,q1⟩=>?_) hs rfl));obtain⟨l1,e,⟨xs,q1⟩,q⟩:=q1;subst e;obtain⟨u,rfl,ru⟩:=qW r1;cases ru;obtain⟨its1,_,p1,_⟩:=I1.tuple q1;refine OR (show s1.heap.IsTuple l1 its1.toArray from p1) λg he hit k=>wpAny_pyIter_enum he ?_;refine⟨_,[s1.heap.objs.size+1,s1.heap.objs.size],_,_,H1,rfl,I1.kept (t':=s1.toks) k,NE l1 (Nat.ne_of_gt (mW _)),⟨⟨_,he⟩,hit⟩,λb hb=>?_,q⟩;have hb':s1.heap.objs.size<=b:=by
  simp only[nP,mQ,or_false]at hb;rcases hb with rfl | rfl<;>first | exact Nat.le_add_right _ _ | exact tK _
 exact I1.fpOk hb' (I1.hok.fresh hb')
end
theorem for_enum{K:tV}{a:Addr}{xs:List V}{g:TG}{tb:TS}{D:Ends}{σ:St}{H:Hp}(Pv:Nat->St->Hp->Prop)(h0:Pv 0 σ H)(hl:∀i σ H,i<=xs.length->Pv i σ H->SqT K H a xs)
  (hs:∀i x p σ H,xs[i]? = some x->H p=none->Pv i σ H->g (.ref p) σ (upd H p (.tup [.int i,x])) fun σ2 H2=>tb { D with nx:=Pv (i+1),ct:=Pv (i+1),bk:=D.nx } σ2 H2) (hd:∀σ H,Pv xs.length σ H->D.nx σ H) :
  ∃W:Nat->Nat->St->Hp->Prop,(∃m,W 0 m σ H)/\∀i m σ H,W i m σ H->
   ((Ite K a).stop i H/\D.nx σ H)∨((Ite K a).go i H/\∃N:St->Hp->Prop,(∀σ' H',N σ' H'->∃m',m'<m/\W (i+1) m' σ' H')/\∀x H',(Ite K a).yld i H x H'->g x σ H' fun σ2 H2=>tb { D with nx:=N,ct:=N,bk:=D.nx } σ2 H2):=by
 refine⟨λi m σ H=>m=xs.length-i/\i<=xs.length/\Pv i σ H,⟨xs.length,by simp,tL _,h0⟩, ?_⟩;rintro i m σ H ⟨rfl,hi,p⟩;have q:=hl i σ H hi p;by_cases hlt:i<xs.length
 ·refine .inr ⟨⟨xs,xs[i],q,by simp [hlt]⟩,Pv (i+1),fun σ' H' p'=>⟨xs.length-(i+1),by omega,rfl,hlt,p'⟩,λv H' y=>?_⟩;obtain⟨r,x,hr,rfl,rfl,hx⟩:=y;exact hs i x r σ H (hx xs q) hr p
 ·have ei:i=xs.length:=by omega
  subst ei;exact .inl ⟨⟨xs,q,tK _⟩,hd σ H p⟩
theorem for_zipT{K:tV}{a b:Addr}{xs ys:List V}{g:TG}{tb:TS}{D:Ends}{σ:St}{H:Hp}(Pv:Nat->St->Hp->Prop)(le:xs.length=ys.length)(h0:Pv 0 σ H)(hl:∀i σ H,i<=xs.length->Pv i σ H->SqT K H a xs/\SqT K H b ys)
  (hs:∀i x y p σ H,xs[i]? = some x->ys[i]? = some y->H p=none->Pv i σ H->g (.ref p) σ (upd H p (.tup [x,y])) fun σ2 H2=>tb { D with nx:=Pv (i+1),ct:=Pv (i+1),bk:=D.nx } σ2 H2) (hd:∀σ H,Pv xs.length σ H->D.nx σ H) :
  ∃W:Nat->Nat->St->Hp->Prop,(∃m,W 0 m σ H)/\∀i m σ H,W i m σ H->
   ((Itz K a b).stop i H/\D.nx σ H)∨((Itz K a b).go i H/\∃N:St->Hp->Prop,(∀σ' H',N σ' H'->∃m',m'<m/\W (i+1) m' σ' H')/\∀x H',(Itz K a b).yld i H x H'->g x σ H' fun σ2 H2=>tb { D with nx:=N,ct:=N,bk:=D.nx } σ2 H2):=by
 refine⟨λi m σ H=>m=xs.length-i/\i<=xs.length/\Pv i σ H,⟨xs.length,by simp,tL _,h0⟩, ?_⟩;rintro i m σ H ⟨rfl,hi,p⟩;obtain⟨q1,q2⟩:=hl i σ H hi p;by_cases hlt:i<xs.length
 ·refine .inr ⟨⟨xs,ys,xs[i],ys[i]'#[1],q1,q2,by simp [hlt],by simp [le▸hlt]⟩,Pv (i+1),fun σ' H' p'=>⟨xs.length-(i+1),by omega,rfl,hlt,p'⟩,λv H' y=>?_⟩;obtain⟨r,x,y,hr,rfl,rfl,hx,hy⟩:=y;exact hs i x y r σ H (hx xs q1) (hy ys q2) hr p
 ·have ei:i=xs.length:=by omega
  subst ei;exact .inl ⟨⟨xs,ys,q1,q2,.inl uX⟩,hd σ H p⟩
theorem for_zipU{K:tV}{a b:Addr}{xs ys:List V}{g:TG}{tb:TS}{D:Ends}{σ:St}{H:Hp}(Pv:Nat->St->Hp->Prop)(le:xs.length=ys.length)(h0:Pv 0 σ H)(hl:∀i σ H,i<=xs.length->Pv i σ H->SqT K H a xs/\SqL K H b ys)
  (hs:∀i x y p σ H,xs[i]? = some x->ys[i]? = some y->H p=none->Pv i σ H->g (.ref p) σ (upd H p (.tup [x,y])) fun σ2 H2=>tb { D with nx:=Pv (i+1),ct:=Pv (i+1),bk:=D.nx } σ2 H2) (hd:∀σ H,Pv xs.length σ H->D.nx σ H) :
  ∃W:Nat->Nat->St->Hp->Prop,(∃m,W 0 m σ H)/\∀i m σ H,W i m σ H->
   ((Itu K a b).stop i H/\D.nx σ H)∨((Itu K a b).go i H/\∃N:St->Hp->Prop,(∀σ' H',N σ' H'->∃m',m'<m/\W (i+1) m' σ' H')/\∀x H',(Itu K a b).yld i H x H'->g x σ H' fun σ2 H2=>tb { D with nx:=N,ct:=N,bk:=D.nx } σ2 H2):=by
 refine⟨λi m σ H=>m=xs.length-i/\i<=xs.length/\Pv i σ H,⟨xs.length,by simp,tL _,h0⟩, ?_⟩;rintro i m σ H ⟨rfl,hi,p⟩;obtain⟨q1,q2⟩:=hl i σ H hi p;by_cases hlt:i<xs.length
 ·refine .inr ⟨⟨xs,ys,xs[i],ys[i]'#[1],q1,q2,by simp [hlt],by simp [le▸hlt]⟩,Pv (i+1),fun σ' H' p'=>⟨xs.length-(i+1),by omega,rfl,hlt,p'⟩,λv H' y=>?_⟩;obtain⟨r,x,y,hr,rfl,rfl,hx,hy⟩:=y;exact hs i x y r σ H (hx xs q1) (hy ys q2) hr p
 ·have ei:i=xs.length:=by omega
  subst ei;exact .inl ⟨⟨xs,ys,q1,q2,.inl uX⟩,hd σ H p⟩
end L2
namespace LwD
open PySem PySem.Spec PyProof.Rows L2 Lw
section
variable{X:Cx}
end
section
variable{X:Cx}{ac:List #[17]}{σ:L2.St}{H:Hp}{s:Shared}
end
section
variable{X:Cx}
end
section
variable{X:Cx}
end
section
variable{X:Cx}
def CDivP(i j:Int):Prop:=0<j/\Builtin.divisionGoesByPylong i j=false
theorem AE:OpR X (binaryOp .FloorDiv) (rI CDivP λi j=>.int (i/j)):=opI λi j _ _ _ _ _ hc q=>by
 refine floordiv_int (by have:=hc.1;omega) ?_ (.inl hc.2);rw[Int.fdiv_eq_ediv_of_nonneg _ (Int.le_of_lt hc.1)];exact q
theorem MX{i j:Int}(h:CDivL i j):CDivP i j:=⟨h.1,PyProof.noPylong_of_log2 (hW (LwM.log2_lt #[0] h.2) #[0])⟩
theorem zK{i j:Int}{m:Nat}(hj:0<j)(hm:m<=13400)(hi:i.natAbs<2^m):CDivP i j:=by
 refine⟨hj, ?_⟩;by_cases h9:j.natAbs.log2<9000
 ·exact PyProof.noPylong_of_log2 h9
 ·show(decide ((if j==0 then 0 else j.natAbs.log2/30+1)>300)&&decide ((if i==0 then 0 else i.natAbs.log2/30+1)>(if j==0 then 0 else j.natAbs.log2/30+1)+150))=false;rw[Bool.and_eq_false_iff]
  right
  refine nC ?_;have j0:(j==0)=false:=by
   rw[beq_eq_false_iff_ne];omega
  rw[j0];simp only[Bool.false_eq_true,if_false];have:i.natAbs.log2<13440:=by
   by_cases z:i.natAbs=0
   ·rw[z];decide +kernel
   ·exact(Nat.log2_lt z).mpr (hW hi (gT #[0] #[1]))
  split<;>omega
end
end LwD
namespace LwD
open PySem PySem.W PySem.Spec PyProof.Rows
def TruT{α:Type}(lt:Nat->Nat->Bool)(n:Nat):KasT α->(α->Prop)->Prop
 | .ret a,P=>P a
 | .ask i j k,P=>i<n/\j<n/\TruT lt n (k (lt i j)) P
theorem TruT.bind{α β:Type}{lt:Nat->Nat->Bool}{n:Nat}{f:α->KasT β}{P:α->Prop}{R:β->Prop} :∀{t:KasT α},TruT lt n t P->(∀a,P a->TruT lt n (f a) R)->TruT lt n (t.bind f) R
 | .ret a,h,g=>g a h
 | .ask _ _ _,h,g=>⟨h.1,h.2.1,TruT.bind h.2.2 g⟩
theorem TruT.mono{α:Type}{lt:Nat->Nat->Bool}{n:Nat}{P R:α->Prop}(g:∀a,P a->R a):∀{t:KasT α},TruT lt n t P->TruT lt n t R
 | .ret a,h=>g a h
 | .ask _ _ _,h=>⟨h.1,h.2.1,TruT.mono g h.2.2⟩
structure Strict(lt:Nat->Nat->Bool)(n:Nat):Prop where
 tr:∀a b c,lt a b=true->lt b c=true->lt a c=true
 as:∀a b,lt a b=true->lt b a=false
 tot:∀a b,a<n->b<n->a≠b->lt a b=false->lt b a=true
def Up(lt:Nat->Nat->Bool)(p:Array Nat)(m:Nat):Prop:=∀a b,a<b->b<m->lt (p.getD a 0) (p.getD b 0)=true
def Dn(lt:Nat->Nat->Bool)(p:Array Nat)(m:Nat):Prop:=∀a b,a<b->b<m->lt (p.getD b 0) (p.getD a 0)=true
theorem Pm.ne{n:Nat}{p:Array Nat}(h:Pm n p){a b:Nat}(hab:a<b)(hb:b<n):p.getD a 0≠p.getD b 0:=by
 have sz:=h.size;have nd:p.toList.Nodup:=h.nodup_iff.mpr List.nodup_range;have ha':a<p.toList.length:=by simp [sz];omega
 have hb':b<p.toList.length:=by simp [sz];omega
 intro e;have e1:p.toList[a]=p.toList[b]:=by
  have h1:p.getD a 0=p.toList[a]:=by simp [Array.getD,show a<p.size by omega]
  have h2:p.getD b 0=p.toList[b]:=by simp [Array.getD,show b<p.size by omega]
  rw[<-h1,<-h2,e]
 have:=(List.getElem_inj nd).mp e1;omega
section
variable{lt:Nat->Nat->Bool}{n:Nat}
theorem Up.snoc(O:Strict lt n){p:Array Nat}{m:Nat}(u:Up lt p m)(h:0<m->lt (p.getD (m-1) 0) (p.getD m 0)=true):Up lt p (m+1):=by
 intro a b hab hb;by_cases hbm:b<m
 ·exact u a b hab hbm
 ·have:b=m:=by omega
  subst this;by_cases ha:a=b-1
  ·rw[ha];exact h #[1]
  ·exact O.tr _ _ _ (u a (b-1) #[1] #[1]) (h #[1])
theorem Dn.snoc(O:Strict lt n){p:Array Nat}{m:Nat}(u:Dn lt p m)(h:0<m->lt (p.getD m 0) (p.getD (m-1) 0)=true):Dn lt p (m+1):=by
 intro a b hab hb;by_cases hbm:b<m
 ·exact u a b hab hbm
 ·have:b=m:=by omega
  subst this;by_cases ha:a=b-1
  ·rw[ha];exact h #[1]
  ·exact O.tr _ _ _ (h #[1]) (u a (b-1) #[1] #[1])
theorem IA(O:Strict lt n){p:Array Nat}(h:Pm n p)(hn:0<n):∀(f k:Nat),1<=k->k+f=n->Up lt p k->TruT lt n (kas_asc p f k) λm=>k<=m/\m<=n/\Up lt p m/\(m<n->lt (p.getD m 0) (p.getD (m-1) 0)=true)
 | 0,k,h1,h2,u=>⟨tK _,by omega,u,λz=>by omega⟩
 | f+1,k,h1,h2,u=>by
  refine⟨h.lt hn,h.lt hn, ?_⟩;cases hb:lt (p.getD k 0) (p.getD (k-1) 0)with
  | true=>exact⟨tK _,by omega,u,λ_=>hb⟩
  | false=>
   have up:Up lt p (k+1):=u.snoc O λ_=>O.tot _ _ (h.lt hn) (h.lt hn) (Ne.symm (h.ne #[1] #[1])) hb;refine(IA O h hn f (k+1) #[1] #[1] up).mono λm hm=>⟨by omega,hm.2⟩
theorem KI(O:Strict lt n)(hn:0<n){p:Array Nat}(h:Pm n p):∀(f k:Nat),1<=k->k+f=n->Dn lt p k->TruT lt n (kas_desc f p k 0) λr=>r.1=p/\r.2.2=0/\k<=r.2.1/\r.2.1<=n/\Dn lt p r.2.1
 | 0,k,_,h2,d=>⟨rfl,rfl,tK _,(show k<=n by omega),d⟩
 | f+1,k,h1,h2,d=>by
  refine⟨h.lt hn,h.lt hn, ?_⟩;cases hb:lt (p.getD k 0) (p.getD (k-1) 0)with
  | true=>
   have dn:Dn lt p (k+1):=d.snoc O λ_=>hb;exact(KI O hn h f (k+1) #[1] #[1] dn).mono λr hr=>⟨hr.1,hr.2.1,by omega,hr.2.2.2⟩
  | false=>
   refine⟨h.lt hn,h.lt hn, ?_⟩;have:lt (p.getD (k-1) 0) (p.getD k 0)=true:=O.tot _ _ (h.lt hn) (h.lt hn) (Ne.symm (h.ne #[1] #[1])) hb;rw[this];exact⟨rfl,rfl,tK _,(show k<=n by omega),d⟩
theorem getD_of?{p:Array Nat}{i:Nat}{q:Array Nat}{j:Nat}(h:p[i]? = q[j]?):p.getD i 0=q.getD j 0:=by
 rw[Array.getD_eq_getD_getElem?,Array.getD_eq_getD_getElem?,h]
theorem rev_up{p:Array Nat}(sz:p.size=n){k:Nat}(hk:k<=n)(d:Dn lt p k):Up lt (kas_rev p 0 k) k:=by
 intro a b hab hb;have e:∀c,c<k->(kas_rev p 0 k).getD c 0=p.getD (k-1-c) 0:=λc hc=>by
  refine getD_of? ?_;unfold kas_rev;rw[getElem?_mirror_all #[1],tU ⟨tL _,hc⟩,Nat.zero_add]
 rw[e a #[1],e b hb];exact d (k-1-b) (k-1-a) #[1] #[1]
theorem UD(O:Strict lt n)(hn:0<n):TruT lt n (kas_count n (List.toArray (List.range n))) λr=>Pm n r.2/\1<=r.1/\r.1<=n/\Up lt r.2 r.1:=by
 have h:Pm n (List.toArray (List.range n)):=by unfold Pm;simp
 generalize List.toArray (List.range n)=p at h;have u1:Up lt p 1:=λa b h1 h2=>by omega
 refine(IA O h hn (n-1) 1 #[1] #[1] u1).bind λm hm=>?_;obtain⟨m1,m2,um,hlt⟩:=hm;by_cases e:m=n
 ·rw[tU (by simp [e])];exact⟨h,m1,m2,um⟩
 ·rw[tT (by simp [e])];by_cases m3:m>1
  ·rw[tU m3];refine⟨h.lt hn,h.lt hn, ?_⟩;rw[um 0 (m-1) #[1] #[1]];exact⟨h,m1,m2,um⟩
  ·rw[tT m3];have m4:m=1:=by omega
   subst m4;have d2:Dn lt p 2:=by
    intro a b hab hb;have hl:=hlt #[1];have:a=0/\b=1:=by omega
    rw[this.1,this.2];exact hl
   unfold kas_descPart;refine(KI O hn h (n-(1+1)) (1+1) #[1] #[1] d2).bind λr hr=>?_;obtain⟨r1,r2,r3,r4,r5⟩:=hr;rw[tT (by rw[r2];decide),r1];unfold kas_tail3;have hv:Pm n (kas_rev p 0 r.2.1):=h.rev _ _;refine(IA O hv hn (n-r.2.1) r.2.1 #[1] #[1] (rev_up h.size r4 r5)).bind λk hk=>?_;exact⟨hv,by omega,hk.2.1,hk.2.2.1⟩
theorem BA(O:Strict lt n)(hn:0<n){p:Array Nat}(h:Pm n p){k:Nat}(hk:k<n)(u:Up lt p k):∀(f l r:Nat),l<=r->r<=k->r-l<=f->(∀a,a<l->lt (p.getD a 0) (p.getD k 0)=true)->(∀a,r<=a->a<k->lt (p.getD k 0) (p.getD a 0)=true)->
  TruT lt n (kas_place p k f l r) λx=>x<=k/\(∀a,a<x->lt (p.getD a 0) (p.getD k 0)=true)/\∀a,x<=a->a<k->lt (p.getD k 0) (p.getD a 0)=true
 | 0,l,r,h1,h2,h3,hl,hr=>⟨by omega,hl,λa ha=>hr a #[1]⟩
 | f+1,l,r,h1,h2,h3,hl,hr=>by
  show TruT lt n (if l ≥ r then _ else _) _;split
  ·exact⟨by omega,hl,λa ha=>hr a #[1]⟩
  ·refine⟨h.lt hn,h.lt hn, ?_⟩;have mk:(l+r)/2<k:=by omega
   cases hb:lt (p.getD k 0) (p.getD ((l+r)/2) 0)with
   | true=>
    refine BA O hn h hk u f l ((l+r)/2) #[1] #[1] #[1] hl λa ha hak=>?_;by_cases e:a=(l+r)/2
    ·rw[e];exact hb
    ·exact O.tr _ _ _ hb (u _ _ #[1] hak)
   | false=>
    have hm:lt (p.getD ((l+r)/2) 0) (p.getD k 0)=true:=O.tot _ _ (h.lt hn) (h.lt hn) (Ne.symm (h.ne mk hk)) hb;refine BA O hn h hk u f ((l+r)/2+1) r #[1] h2 #[1] (λa ha=>?_) hr;by_cases e:a=(l+r)/2
    ·rw[e];exact hm
    ·exact O.tr _ _ _ (u a _ #[1] mk) hm
theorem bub_up{p:Array Nat}(sz:p.size=n){k l:Nat}(hk:k<n)(hl:l<=k)(u:Up lt p k)(h1:∀a,a<l->lt (p.getD a 0) (p.getD k 0)=true)(h2:∀a,l<=a->a<k->lt (p.getD k 0) (p.getD a 0)=true):Up lt (bubble p k (k-l)) (k+1):=by
 have e:∀c,(bubble p k (k-l)).getD c 0=if c=l then p.getD k 0 else if l<c/\c<=k then p.getD (c-1) 0 else p.getD c 0:=λc=>by
  have:=getElem?_bubble (xs:=p) (src:=k) #[1] (k-l) #[1] c;have z:k-(k-l)=l:=by omega
  rw[z]at this;split
  ·rename_i hc;rw[tU hc]at this;exact getD_of? this
  ·rename_i hc;rw[tT hc]at this;split
   ·rename_i hc2;rw[tU hc2]at this;exact getD_of? this
   ·rename_i hc2;rw[tT hc2]at this;exact getD_of? this
 intro a b hab hb;rw[e a,e b];by_cases a1:a=l
 ·rw[tU a1,tT #[1],tU ⟨by omega,by omega⟩];exact h2 _ #[1] #[1]
 ·rw[tT a1];by_cases a2:l<a/\a<=k
  ·rw[tU a2,tT #[1],tU ⟨by omega,by omega⟩];exact u _ _ #[1] #[1]
  ·rw[tT a2];by_cases b1:b=l
   ·rw[tU b1];exact h1 a #[1]
   ·rw[tT b1];by_cases b2:l<b/\b<=k
    ·rw[tU b2];by_cases ab:a=b-1
     ·omega
     ·exact u _ _ #[1] #[1]
    ·rw[tT b2];exact u _ _ hab #[1]
theorem PJ(O:Strict lt n)(hn:0<n):∀(f:Nat) {p:Array Nat} (_:Pm n p) (k:Nat),k+f=n->Up lt p k->TruT lt n (kas_bin f p k) λq=>Pm n q/\Up lt q n
 | 0,p,h,k,hk,u=>⟨h,by have:k=n:=#[1];rw[<-this];exact u⟩
 | f+1,p,h,k,hk,u=>by
  refine(BA O hn h #[1] u k 0 k (tL _) uX #[1] (λa ha=>by omega) (λa h1 h2=>by omega)).bind λl hl=>?_;exact PJ O hn f (h.bub _ _) (k+1) #[1] (bub_up h.size #[1] hl.1 u hl.2.1 hl.2.2)
theorem WY(O:Strict lt n)(hn:0<n):TruT lt n (kas_sort n) λq=>Pm n q/\Up lt q n:=by
 refine(UD O hn).bind λr hr=>?_;obtain⟨h1,h2,h3,h4⟩:=hr;split
 ·rw[show max r.1 1=r.1 by omega];exact PJ O hn _ h1 _ #[1] h4
 ·have:r.1=n:=by omega
  exact⟨h1,this▸h4⟩
theorem WH{α:Type}{cmp:Nat->Nat->(Bool->Shared->Prop)->Shared->Prop}(hc:∀i j C,i<n->j<n->C (lt i j) s->cmp i j C s){P:α->Prop}{Q:α->Shared->Prop}(hq:∀a,P a->Q a s):∀{t:KasT α},TruT lt n t P->t.kasWp cmp Q s
 | .ret a,h=>hq a h
 | .ask i j k,h=>hc i j _ h.1 h.2.1 (WH hc hq h.2.2)
end
end LwD
namespace LwD
open PySem PySem.Spec PyProof.Rows L2 Lw
def lexI:List Int->List Int->Bool
 | x::xs,y::ys=>if x=y then lexI xs ys else decide (x<y)
 | [],_::_=>true
 | _,[]=>false
theorem SG:∀a b c:List Int,lexI a b=true->lexI b c=true->lexI a c=true
 | [],[],_,h,_=>by simp [lexI]at h
 | [],_::_,[],_,h=>by simp [lexI]at h
 | [],_::_,_::_,_,_=>by simp [lexI]
 | _::_,[],_,h,_=>by simp [lexI]at h
 | _::_,_::_,[],_,h=>by simp [lexI]at h
 | x::xs,y::ys,z::zs,h1,h2=>by
  have ih:=SG xs ys zs;simp only[lexI]at h1 h2 ⊢;by_cases e1:x=y
  ·subst e1;rw[tU rfl]at h1;by_cases e2:x=z
   ·rw[tU e2]at h2 ⊢;exact ih h1 h2
   ·rw[tT e2]at h2 ⊢;exact h2
  ·rw[tT e1]at h1;have h1:=mK h1;by_cases e2:y=z
   ·subst e2;rw[tT e1];exact nG h1
   ·rw[tT e2]at h2;have h2:=mK h2;rw[tT #[1]];exact nG #[1]
theorem SH:∀a b:List Int,lexI a b=true->lexI b a=false
 | [],[],h=>by simp [lexI]at h
 | [],_::_,_=>by simp [lexI]
 | _::_,[],h=>by simp [lexI]at h
 | x::xs,y::ys,h=>by
  have ih:=SH xs ys;simp only[lexI]at h ⊢;by_cases e1:x=y
  ·subst e1;rw[tU rfl]at h ⊢;exact ih h
  ·rw[tT e1]at h;have h:=mK h;rw[tT #[1]];exact nC #[1]
theorem ME:∀a b:List Int,a≠b->lexI a b=false->lexI b a=true
 | [],[],n,_=>absurd rfl n
 | [],_::_,_,h=>by simp [lexI]at h
 | _::_,[],_,_=>by simp [lexI]
 | x::xs,y::ys,n,h=>by
  have ih:=ME xs ys;simp only[lexI]at h ⊢;by_cases e1:x=y
  ·subst e1;rw[tU rfl]at h ⊢;exact ih (λz=>n (by rw[z])) h
  ·rw[tT e1]at h;have h:=of_decide_eq_false h;rw[tT #[1]];exact nG #[1]
def JK(fin:Bool):List Int->List Int->Bool
 | x::xs,y::ys=>if x=y then JK fin xs ys else decide (x<y)
 | _,_=>fin
theorem SI:∀a b:List Int,JK (decide (a.length<b.length)) a b=lexI a b
 | [],[]=>rfl
 | [],_::_=>by simp [JK,lexI]
 | _::_,[]=>by simp [JK,lexI]
 | x::xs,y::ys=>by
  have ih:=SI xs ys;simp only[JK,lexI,mS,Nat.add_lt_add_iff_right];rw[ih]
def yD(k:List Key):List Int:=k.filterMap fun | .inl i=>some i | .inr _=>none
theorem EU(ns:List Int):yD (ik ns)=ns:=by
 unfold yD ik;induction ns with
 | nil=>rfl
 | cons n r ih=>simp [ih]
theorem KTkeys{ah:List (List Key×V)}{xs:List (List Key×Addr×Value)}(r:KT H ah xs):ah.map (·.1)=xs.map (·.1):=by
 induction r with
 | nil=>rfl
 | cons h _ ih=>rw[nO,nO,ih,h.1]
section
variable{prog:Program}{w:World}{A:Around}{E:Value->Shared->Prop}{s:Shared}
theorem MD{Q:Bool->Shared->Prop} :∀{as bs:List Value} {xs ys:List Int} (_:IntsAre as xs) (_:IntsAre bs ys) (_:Q (JK fin xs ys) s) (i:Nat),PySem.W.KatLex prog w A b fin Q (as.zip bs) i s
 | _,_,_,_,.nil,_,h,_=>by
  rw[List.zip_nil_left];exact PySem.W.kat_nil (by simpa [JK]using h)
 | _,_,_,_,.cons _ _ _,.nil,h,_=>by
  rw[List.zip_nil_right];exact PySem.W.kat_nil (by simpa [JK]using h)
 | _,_,_,_,.cons n t r,.cons m u r2,h,i=>by
  rw[List.zip_cons_cons];simp only[JK]at h;refine PySem.W.kat_cons (SeqAt.EqAt.int_int _ _ _ _ prog w _ _ ?_);refine PySem.W.kat_go (λe=>PySem.W.kat_yes (MD r r2 (by rwa [tU (by simpa using e)]at h) (i+1))) λe=>PySem.W.kat_no ?_;rw[tT (by simpa using e)]at h;cases hb:(b&&i==0)with
  | true=>exact oneLt_int h
  | false=>exact PySem.W.kat_one _ _ (lt_int h)
end
section
variable{X:Cx}
def rSortS:List V->Hp->VK->Prop:=λxs H Q=>∃(a:Addr) (ah:List (List Key×V)),xs=[.ref a]/\Rd H a (.dT ah)/\ah.length<64/\(∀p∈ah,∃ns:List Int,p.1=ik ns/\ns≠[])/\
 ∀(ys:List V) (zs:List (List Key×V)),zs.Perm ah->Keyed H ys zs->zs.Pairwise (λp q=>lexI (yD p.1) (yD q.1)=true)->New H (.lst ys) Q
theorem ON(hc:X.calm=true):CallR X (.builtin "sorted") rSortS:=by
 intro ac s σ H xs us Q I r h;obtain⟨a,ah,rfl,ha,h64,hk,q⟩:=h;obtain⟨u,rfl,ru⟩:=qW r;cases ru;obtain⟨z,lo,ks,rel,dd⟩:=FB I.hok ha;obtain⟨o,es,ep,hd1,hd2,hd3,he,his,hn⟩:=id dd;have raw:Raw s.heap a es ep:=⟨o,hd1,hd2,hd3⟩;have esz:es.size=ah.length:=by rw[size_of_entries he,<-Paired.length rel]
 obtain⟨m,F⟩:=I.fr;have kn:(ah.map (·.1)).Nodup:=by rw[KTkeys rel];exact hn
 have itup:∀(j:Nat) (h:j<es.size),∃(b:Addr) (ns:List Int) (v:V),es[j].key=.ref b/\H b=some (.tup #[15])/\ah[j]? = some (ik ns,v)/\ns≠[]:=λj hj=>by
  have e1:=entry_at he j;rw[Array.getElem?_eq_getElem hj]at e1;cases e2:ks[j]? with
  | none=>rw[e2]at e1;cases e1
  | some x=>
   rw[e2]at e1;have e3:es[j]=entryOfKey _ x:=Option.some.inj e1;obtain⟨v,m1,m2⟩:=KTgetI rel e2;obtain⟨ns,n1,n2⟩:=hk _ (gQ m1);dsimp only at n1;rw[n1]at m1 m2;rw[EW]at m2;exact⟨x.2.1,ns,v,by rw[e3];rfl,m2,m1,n2⟩
 refine PySem.W.kdu_sorted (QR lo) (I.ok.hd hc) F LS raw (by rw[esz];exact z) λD h' tk vs F' N' lt hlen hP=>?_;have vtup:∀(j:Nat) (hj:j<vs.length),∃(b:Addr) (ns:List Int) (v:V),vs[j]=.ref b/\H b=some (.tup #[15])/\ah[j]? = some (ik ns,v)/\ns≠[]:=λj hj=>by
  obtain⟨h1,h2⟩:=hP j vs[j] (by simp [hj]);rw[h2];exact itup j h1
 have vl:vs.length=ah.length:=by rw[hlen,esz]
 have kvI:∀(j:Nat) (ns:List Int) (v:V),ah[j]? = some (ik ns,v)->yD (ah.getD j ([],.non)).1=ns:=λj ns v e=>by rw[gB,e];exact EU ns
 have O:Strict (λi j=>lexI (yD (ah.getD i ([],.non)).1) (yD (ah.getD j ([],.non)).1)) vs.length:=by
  refine⟨λa b c=>SG _ _ _,λa b=>SH _ _,λa b ha hb hab hf=>?_⟩;obtain⟨_,ns,v,_,_,e3,_⟩:=vtup a ha;obtain⟨_,ms,v',_,_,e3',_⟩:=vtup b hb;rw[kvI _ _ _ e3,kvI _ _ _ e3']at hf;show lexI (yD (ah.getD b ([],.non)).1) (yD (ah.getD a ([],.non)).1)=true;rw[kvI _ _ _ e3,kvI _ _ _ e3'];refine ME _ _ (λz=>hab ?_) hf;have i1:(ah.map (·.1))[a]? = some (ik ns):=by rw[mG,e3];rfl
  have i2:(ah.map (·.1))[b]? = some (ik ns):=by rw[mG,e3',z];rfl
  exact(List.getElem?_inj (by rw[mY];omega) kn).mp (i1.trans i2.symm)
 have fin:∀(idx:List Nat) (h3:Heap) (c tk3:Nat),idx.Perm (List.range ah.length)->idx.Pairwise (λi j=>lexI (yD (ah.getD i ([],.non)).1) (yD (ah.getD j ([],.non)).1)=true)->Fr X.base X.env.locals h3 m->News X.base X.env.locals h3 ((D,PySem.W.listOf (idx.map λi=>vs.getD i Value.none).toArray c)::yO X.base s.heap X.env.locals)->
   EP X ac σ Q (.ref D) { s with heap:=h3,toks:=tk3 } :=λidx h3 c tk3 pm pw F3 N3=>by
  have il:idx.length=ah.length:=by rw[pm.length_eq,List.length_range]
  have im:∀i∈idx,i<ah.length:=λi hi=>nI.mp (pm.mem_iff.mp hi);have tr:∀js:List Nat,(∀i∈js,i<ah.length)->∃ys:List V,Vals ys (js.map λi=>vs.getD i Value.none)/\Keyed H ys (js.map λi=>ah.getD i ([],.non)):=by
   intro js;induction js with
   | nil=>exact λ_=>⟨[],.nil,rfl,λi y p e=>by simp at e⟩
   | cons j js ih=>
    intro hj;obtain⟨ys,r1,r2,r3⟩:=ih λi hi=>hj i (gS _ hi);have hj1:=hj j (mD ..);obtain⟨b,ns,x,e1,e2,e3,_⟩:=vtup j (by rw[vl];exact hj1);refine⟨.ref b::ys, ?_,by simp [r2],λi y p ey ep=>?_⟩
    ·rw[nO];refine .cons ?_ r1;rw[gB,gG (by rw[vl];exact hj1),e1]
     rfl
    ·cases i with
     | zero=>
      simp only[nO,List.getElem?_cons_zero,Option.some.injEq]at ey ep;rw[gB,e3]at ep;subst ey;subst ep;exact⟨b,ns,rfl,e2,rfl⟩
     | succ i=>
      simp only[nO,List.getElem?_cons_succ]at ey ep;exact r3 i y p ey ep
  obtain⟨ys,rv,hy⟩:=tr idx im;have yl:ys.length=ah.length:=by rw[hy.1,mY];exact il
  have nb:=BS (ho:=.lst ys) (tk:=tk3) I F F3 N3 lt λe=>⟨by rw[yl];exact z,_,c,rv,e⟩;have pz:(idx.map λi=>ah.getD i ([],.non)).Perm ah:=by
   have:=pm.map λi=>ah.getD i ([],V.non);rw[EX]at this;exact this
  exact⟨.ref D,_,nb.2,rfl,(q ys _ pz hy (List.pairwise_map.mpr pw)).at nb.1⟩
 have nD:=N' (D,PySem.W.listOf vs.toArray 0) (mD ..);by_cases h2:vs.length<2
 ·refine NK (n:=0) nD.1 h2 ?_;obtain⟨c,hat⟩:=sortedHeap_at (vs:=vs) (n:=0) (out:=vs.toArray) nD.1;have old:∀b u,b≠D->h'.get? b=some u->(sortedHeap h' D vs vs.toArray).get? b=some u:=λb u hb e=>by
   rw[sortedHeap_old hb (nV e)];exact e
  have er:(List.range ah.length).map (λi=>vs.getD i Value.none)=vs:=by rw[<-vl];exact EX vs _
  refine fin (List.range ah.length) _ c tk (List.Perm.refl _) (by
   rw[<-vl];have:vs.length=0∨vs.length=1:=by omega
   rcases this with z | z<;>rw[z]<;>simp) ⟨?_,λb u e=>old b u (λy=>by rw[y,nD.2.2]at e;cases e) (F'.keep b u e),F'.above⟩ (λp hp=>?_)
  ·obtain⟨ob,es',ep',e1,e2⟩:=F'.ns;exact⟨ob,es',ep',old _ _ (Ne.symm nD.2.1) e1,e2⟩
  ·rw[er]at hp;rcases nP.mp hp with rfl | hp
   ·exact⟨hat,nD.2⟩
   ·have y:=N' p (gS _ hp);exact⟨old _ _ (nX (lt p hp)) y.1,y.2⟩
 ·have hd:∀q∈yO X.base s.heap X.env.locals,q.1≠D:=λq hq=>nX (lt q hq);refine PySem.W.kat_lsort (vs:=vs) (its:=vs.toArray) F' N' (.head hd) rfl #[1] #[1] λe1 h4 F4 N4=>?_;have in4:∀b xs,H b=some (.tup xs)->∃its:List Value,Vals xs its/\IsTup h4 b its.toArray:=λb xs e=>by
   obtain⟨_,its,rv,⟨ob,ho,hc2⟩,_⟩:=(show ObjOk X.prog X.w H s.heap b (.tup xs)from I.hok b _ e);refine⟨its,rv,ob, ?_,hc2⟩;cases y:X.base.get? b with
   | some u=>
    have y2:=I.bk b u y;rw[ho]at y2;cases y2;exact F4.keep b _ y
   | none=>exact(N4 (b,ob) (gS _ (wB (λy2=>by rw[y2,I.free]at e;cases e) y ho))).1
  have tups:∀l:List Value,(∀v∈l,v∈vs)->∃fs:List Value,PySem.W.KatTups h4 l fs/\fs.length=l.length/\∀f∈fs,∃n t,f=Value.int n t:=by
   intro l;induction l with
   | nil=>exact λ_=>⟨[],.nil,rfl,λ_ y=>nomatch y⟩
   | cons v r ih=>
    intro hm;obtain⟨fs,t1,t2,t3⟩:=ih λv' hv'=>hm v' (gS _ hv');obtain⟨j,hj,ev⟩:=List.getElem_of_mem (hm v (mD ..));obtain⟨b,ns,x,g1,g2,g3,g4⟩:=vtup j hj;obtain⟨its,rv,ob,ho,hc2,nn,hdt⟩:=in4 b _ g2
    match ns,g4,rv with
    | n::nr,_,.cons (b:=iv) (l₂:=ir) rr rt=>
     obtain⟨tt,rfl⟩:=rr;rw[<-ev,g1];exact⟨.int n tt::fs,.cons ho hc2 hdt #[14] t1,by simp [t2],λf hf=>(nP.mp hf).elim (λy=>⟨n,tt,y⟩) (t3 f)⟩
  obtain⟨fs,t1,t2,t3⟩:=tups vs λ_ y=>y;refine PySem.W.kat_kind (T:=.type "int") t1 #[1] (λf hf=>?_) #[0] ?_
  ·obtain⟨n,t,rfl⟩:=t3 f hf;exact PySem.W.Looks.of_pure rfl
  ·refine WH (n:=vs.length) (P:=λq=>Pm vs.length q/\Up (λi j=>lexI (yD (ah.getD i ([],.non)).1) (yD (ah.getD j ([],.non)).1)) q vs.length) (λi j C hi hj hC=>?_) (λp hp=>?_) (WY O #[1])
   ·obtain⟨b,ns,x,g1,g2,g3,_⟩:=vtup i hi;obtain⟨b',ns',x',g1',g2',g3',_⟩:=vtup j hj;obtain⟨its,rv,ob,ho,hc2,nn,hdt⟩:=in4 b _ g2;obtain⟨its',rv',ob',ho',hc2',nn',hdt'⟩:=in4 b' _ g2';unfold PySem.W.kas_ask;rw[show vs.getD i Value.none=.ref b by rw[gB,gG hi,g1];rfl,show vs.getD j Value.none=.ref b' by rw[gB,gG hj,g1'];rfl];rw[kvI _ _ _ g3,kvI _ _ _ g3']at hC;have i1:=kY rv;have i2:=kY rv';refine PySem.W.kat_lt ho hdt ho' hdt' (MD i1 i2 ?_ 0);rw[mH,mH,qQ i1,qQ i2,SI];exact hC
   ·refine PySem.W.KasFin.intro F4 N4 (.head hd) λh5 c F5 N5=>fin p.toList h5 c tk ?_ ?_ F5 N5
    ·rw[<-vl];exact hp.1
    ·have sz:=hp.1.size;refine List.pairwise_iff_getElem.mpr λa b ha hb hab=>?_;have ha':a<p.size:=by simpa using ha
     have hb':b<p.size:=by simpa using hb
     have:=hp.2 a b hab #[1];simpa [Array.getD,ha',hb']using this
end
end LwD
namespace LwI
open PySem PySem.Spec PyProof.Rows
open Sem (wp)
theorem st_int:typeLookup (.type "str") "__int__" = pure none:=by rw[typeLookup_type,builtinLookup_eq_fast];kernel_rfl
theorem XJ:typeLookup (.type "str") "__index__" = pure none:=by rw[typeLookup_type,builtinLookup_eq_fast];kernel_rfl
theorem XI:typeLookup (.type "str") "__trunc__" = pure none:=by rw[typeLookup_type,builtinLookup_eq_fast];kernel_rfl
section
local macro_rules | `(panic! $s:str)=>return Lean.mkIdent ((Lean.Name.str (.str (.num (.str (.str (.str (.str (.str .anonymous "_private") "PySem") "Builtin") "Int") "W0All") 0) "PySem") "Builtin")++s.getString.toName)
local macro_rules | `(tactic| trivial)=>do
 let n (s:String):=Lean.mkIdent (.str (.str (.str (.num (.str (.str (.str (.str (.str .anonymous "_private") "PySem") "Builtin") "Int") "W0All") 0) "PySem") "Builtin") s)
 `(tactic| first | unfold $(n "intFromObject") | unfold $(n "numeralText?") | unfold $(n "intFromText") | unfold $(n "readNumeral") | unfold $(n "prefixBase?") | unfold $(n "numeralDigits?") | unfold $(n "digitValue?"))
def Dig(D:List Nat):Prop:=∀c∈D,48<=c/\c<=57
def valD(D:List Nat):Nat:=D.foldl (λacc c=>acc*10+(c-48)) 0
theorem FK{c:Nat}(h:45<=c):(panic! "isBlank") c=false:=by
 show((c==32)||(decide (9<=c)&&decide (c<=13)))=false;have h1:(c==32)=false:=by simp;omega
 have h2:decide (c<=13)=false:=by simp;omega
 rw[h1,h2];simp
theorem digit_is{c:Nat}(h:48<=c/\c<=57):(panic! "digitValue?") c=some (c-48):=by
 trivial
 have h1:(decide (48<=c)&&decide (c<=57))=true:=by simp;omega
 rw[tU h1]
theorem YJ:∀(D:List Nat),Dig D->(panic! "prefixBase?") D=none
 | [],_=>by trivial;rfl
 | [c],_=>by
  trivial
  split
  ·rename_i h;cases h
  ·rfl
 | c::e::r,h=>by
  have he:=h e #[14]
  trivial
  split
  ·rename_i q;injection q with q1 q2
   injection q2 with q2 q3
   subst q2;have n:∀k,57<k->(e==k)=false:=λk hk=>by simp;omega
   rw[n 120 #[0],n 88 #[0],n 111 #[0],n 79 #[0],n 98 #[0],n 66 #[0]]
   rfl
  ·rfl
theorem HM{F:Array Nat×Bool->Nat->Option (Array Nat×Bool)}(hF:∀ds b c,48<=c/\c<=57->F (ds,b) c=some (ds.push (c-48),true)):∀(D:List Nat) (ds:Array Nat) (b:Bool),Dig D->D≠[]->D.foldlM F (ds,b)=some (ds++(D.map (· - 48)).toArray,true)
 | [],_,_,_,h=>absurd rfl h
 | [c],ds,b,h,_=>by
  rw[List.foldlM_cons,hF ds b c (h c #[14])];simp
 | c::e::r,ds,b,h,_=>by
  rw[List.foldlM_cons,hF ds b c (h c #[14])];show(e::r).foldlM F _=_;rw[HM hF (e::r) _ _ (λx hx=>h x (gS _ hx)) #[14]];simp
theorem digs_are{D:List Nat}(h:Dig D)(n:D≠[]):(panic! "numeralDigits?") 10 D=some (D.map (· - 48)).toArray:=by
 trivial
 rw[HM (λds b c hc=>?_) D #[] false h n]
 ·simp
 ·have h1:(c==95)=false:=by simp;omega
  have h2:c-48<10:=by omega
  dsimp only;rw[h1,digit_is hc];simp [h2]
theorem WI(D:List Nat):(D.map (· - 48)).toArray.foldl (λacc d=>acc*10+d) 0=valD D:=by
 rw[List.foldl_toArray,List.foldl_map]
 rfl
theorem JV{p:Nat->Bool}{a:Nat}{l:List Nat}(h:p a=false):List.dropWhile p (a::l)=a::l:=by simp [List.dropWhile,h]
theorem KY{D:List Nat}(h:Dig D)(n:D≠[])(l:D.length<=640):(panic! "readNumeral") 0 10 D=(panic! "Numeral.value") (valD D)/\(panic! "readNumeral") 0 10 (45::D)=(panic! "Numeral.value") (-(valD D:Int)):=by
 have sz:decide ((D.map (· - 48)).toArray.size>6000)=false:=by simp;omega
 have rv:(List.dropWhile (panic! "isBlank") D.reverse).reverse=D:=by
  cases e:D.reverse with
  | nil=>rw[List.reverse_eq_nil_iff]at e;exact absurd e n
  | cons a r=>
   have ha:a∈D:=List.mem_reverse.mp (by rw[e];simp);rw[JV (FK (by have:=h a ha;omega)),<-e,List.reverse_reverse]
 have core:∀neg:Bool,(match (panic! "numeralDigits?") 10 (List.dropWhile (panic! "isBlank") D.reverse).reverse with
   | none=>(panic! "Numeral.invalid")
   | some ds=>if (![2,4,8,16,32].contains 10&&0 != 0&&decide (ds.size>0))=true then(panic! "Numeral.tooLong") ds.size else
     if (10==10&&decide (ds.size>6000))=true then(panic! "Numeral.byTheLibrary")else
      if (false&&ds.foldl (λacc d=>acc*10+d) 0 != 0)=true then(panic! "Numeral.invalid")else(panic! "Numeral.value") (if neg=true then -((ds.foldl (λacc d=>acc*10+d) 0:Nat):Int)else((ds.foldl (λacc d=>acc*10+d) 0:Nat):Int)))=(panic! "Numeral.value") (if neg=true then -(valD D:Int)else(valD D:Int)):=λneg=>by
  rw[rv,digs_are h n];dsimp only;rw[tT #[14],sz,tT #[14],tT #[14],WI]
 obtain⟨d,r,e⟩:∃d r,D=d::r:=by
  cases D with
  | nil=>exact absurd rfl n
  | cons d r=>exact⟨d,r,rfl⟩
 have hd:=h d (by rw[e];simp);refine⟨?_, ?_⟩
 ·have c0:=core false;have p0:=YJ D h;clear core rv sz;subst e
  trivial
  rw[JV (FK #[1])]
  extract_lets t
  split
  rename_i neg tt hq;have hq':(neg,tt)=(false,d::r):=by
   rw[<-hq];show(match d::r with | 45::r=>(true,r) | 43::r=>(false,r) | _=>(false,d::r))=_;split
   ·rename_i q;injection q with q _;omega
   ·rename_i q;injection q with q _;omega
   ·rfl
  cases hq';dsimp only;rw[p0];exact c0
 ·trivial
  rw[JV (FK (tK 45))]
  extract_lets t
  split
  rename_i neg tt hq;have hq':(neg,tt)=(true,D):=hq.symm;cases hq';dsimp only;rw[YJ D h];exact core true
def Nml(L:List Nat)(i:Int):Prop:=∃D,Dig D/\D≠[]/\D.length<=600/\((L=D/\i=valD D)∨(L=45::D/\i = -(valD D:Int)))
theorem Nml.low{L:List Nat}{i:Int}(h:Nml L i):(∀c∈L,45<=c/\c<=57)/\L.length<=640:=by
 obtain⟨D,h1,h2,h3,h4⟩:=h;rcases h4 with⟨rfl,_⟩ | ⟨rfl,_⟩
 ·exact⟨λc hc=>by have:=h1 c hc;omega,by omega⟩
 ·refine⟨λc hc=>?_,by simp;omega⟩;rcases nP.mp hc with rfl | hc
  ·omega
  ·have:=h1 c hc;omega
theorem KK{p:Nat->Bool} :∀{L:List Nat},(∀c∈L,p c=true)->L.takeWhile p=L
 | [],_=>rfl
 | c::r,h=>by rw[List.takeWhile_cons,tU (h c #[14]),KK λx hx=>h x (gS _ hx)]
theorem new_str{x:Str}{i:Int}(hx:Nml x.cps.toList i):Meets (Builtin.«int.__new__» ⟨[.type "int",.str x t],[]⟩) (Made.int i).spec:=
 Meets.of_wp λprog w A R s hs=>by
  obtain⟨hp,g,d,tk,os⟩:=s;have f1:=F.conv_sub_int;have f2:=F.madeHere_int;have h128:x.cps.all (· < 128)=true:=by
   rw[<-Array.all_toList];exact List.all_eq_true.mpr λc hc=>nG (by have:=hx.low.1 c hc;omega)
  have hnz:x.cps.toList.takeWhile (· != 0)=x.cps.toList:=KK λc hc=>by
   have:=hx.low.1 c hc;simp;omega
  have rd:(panic! "readNumeral") 0 10 x.cps.toList=(panic! "Numeral.value") i:=by
   obtain⟨D,h1,h2,h3,⟨e,rfl⟩ | ⟨e,rfl⟩⟩:=hx
   ·rw[e];exact(KY h1 h2 #[1]).1
   ·rw[e];exact(KY h1 h2 #[1]).2
  iterate 16 (any_goals (first | assumption | wp_step))
  refine tR ?_;refine tQ ?_
  trivial
  refine tQ (wpAny_callSpecial?_none (T:="str") (typeIs_str _ _ _) st_int ?_);refine tQ (wpAny_specialOf (T:="str") (typeIs_str _ _ _) XJ ?_);refine tQ (wpAny_specialOf (T:="str") (typeIs_str _ _ _) XI ?_);refine tQ ?_
  trivial
  refine tQ (tR ?_);refine tR ?_;dsimp only;rw[tU h128]
  trivial
  rw[hnz,tU hx.low.2];refine tQ (tR ?_);dsimp only;rw[rd];dsimp only;rw[tU (beq_self_eq_true _)];refine wpAny_mkInt ?_
  iterate 4 (try any_goals (first | assumption | wp_step))
  exact⟨_,rfl,hs⟩
end
theorem call_int_str{E:Value->Shared->Prop}{s:Shared}{x:Str}{i:Int}{Q:Value->Shared->Prop}(hx:Nml x.cps.toList i)(h:Q (.int i s.toks) { s with toks:=s.toks+1 }):wpAny #[7] A (call (.type "int") [.str x t]) Q E s:=
 call_int_1 (new_str hx) (show(Made.int i).post _ s from⟨rfl,h⟩)
end LwI
namespace L2
open PySem PySem.Spec PyProof.Rows Lw
section
variable{X:Cx}
theorem WA:CallR X (.type "int") (λxs H Q=>∃(x:Str) (i:Int),xs=[.str x]/\LwI.Nml x.cps.toList i/\Q (.int i) H):=by
 intro ac s σ H xs us Q I r h;obtain⟨x,i,rfl,hx,q⟩:=h;obtain⟨u,rfl,t,rfl⟩:=qW r;exact LwI.call_int_str hx ⟨.int i,H,I.tok _,⟨_,rfl⟩,q⟩
theorem VA:MtR X "str.startswith" (λx xs H Q=>∃z y:Str,x=.str z/\xs=[.str y]/\Q (.bl (Txt.startswith z y)) H):=by
 intro ac s σ H x xs v us Q I rx rs q;obtain⟨z,y,rfl,rfl,q⟩:=q;obtain⟨t,rfl⟩:=rx;obtain⟨u,rfl,t',rfl⟩:=qW rs;exact PySem.SC.startswith ⟨.bl _,H,I,rfl,q⟩
theorem FV:∀{ss:List Str} {us:List Value},Vals (ss.map V.str) us->∃l:List (Str×Tok),us=strValues l/\l.map (·.1)=ss
 | [],_,h=>by cases h;exact⟨[],rfl,rfl⟩
 | x::r,_,.cons (b:=b) (l₂:=l₂) h1 h2=>by
  obtain⟨l,e1,e2⟩:=FV (ss:=r) h2;obtain⟨t,rfl⟩:=h1;exact⟨(x,t)::l,by rw[e1];rfl,by rw[nO,e2]⟩
theorem FR:∀(l:List (Str×Tok)),Vals ((l.map (·.1)).map V.str) (strValues l)
 | []=>.nil
 | (x,t)::r=>.cons ⟨t,rfl⟩ (FR r)
def rJoin(K:tV):V->List V->Hp->VK->Prop:=λx xs H Q=>∃(z:Str) (p:Addr) (ss:List Str),x=.str z/\xs=[.ref p]/\SqL K H p (ss.map V.str)/\JoinOk z ss=true/\Q (.str (Str.join z ss)) H
theorem RL:MtR X "str.join" (rJoin X.K):=by
 intro ac s σ H x xs v us Q I rx rs q;obtain⟨z,p,ss,rfl,rfl,hp,hk,q⟩:=q;obtain⟨t,rfl⟩:=rx;obtain⟨u,rfl,ru⟩:=qW rs;cases ru;obtain⟨its,rv,pl,_⟩:=I.list hp;obtain⟨l,rfl,e⟩:=FV rv;refine PySem.SC.join pl.isList e hk λt' k=>?_;rw[show Txt.join z ss=Str.join z ss from StrLaws.glued_eq_join z ss];exact⟨.str _,H,I.tok _,⟨_,rfl⟩,q⟩
theorem HG{s:Shared}{l:List (Str×Tok)}{tk:Nat}(I:Inv X ac σ H s)(hz:l.length<=sizeLine)(q:New H (.lst ((l.map (·.1)).map V.str)) Q) :
  EP X ac σ Q (.ref s.heap.objs.size) { s with toks:=tk,heap:=s.heap.push { cls:=.type "list",data:=.seq (strValues l).toArray } } :=
 ⟨.ref s.heap.objs.size,_,I.laid (o:=.lst ((l.map (·.1)).map V.str)) (t':=tk) (λb o e=>gJ _ e) uX ⟨by simpa using hz,strValues l,0,FR l,gY _ rfl⟩,rfl,q.at (I.hok.fresh uX)⟩
theorem LX:MtR X "str.split" (λx xs H Q=>∃z y:Str,x=.str z/\xs=[.str y]/\(y.length==0)=false/\z.length+2<=sizeLine/\New H (.lst ((Txt.split z y).map V.str)) Q):=by
 intro ac s σ H x xs v us Q I rx rs q;obtain⟨z,y,rfl,rfl,hy,hz,q⟩:=q;obtain⟨t,rfl⟩:=rx;obtain⟨_,rfl,u,rfl⟩:=qW rs;have hn:(Builtin.Str.partsBetween z (Builtin.Str.occurrences z y 0 z.length (z.length+1)) y.length).length<=sizeLine:=by
  have e1:=StrLaws.occ_length_le z y 0 z.length (z.length+1);rw[length_partsBetween];omega
 have one:Txt.split z y=[z]->EP X ac σ Q (.ref s.heap.objs.size) { s with heap:=s.heap.push { cls:=.type "list",data:=.seq (strValues [(z,t)]).toArray } } :=λe=>by
  rw[e]at q;exact HG (tk:=s.toks) (l:=[(z,t)]) I uZ q
 cases h1:(decide (z.length<y.length)||decide (Builtin.Str.strKind z<Builtin.Str.strKind y))
 ·cases hf:(Builtin.Str.occurrences z y 0 z.length (z.length+1)).isEmpty
  ·refine call_meets F.slot_str_split (typeIs_str _ _ _) F.entry_str_split (F.args_str_split_2 _ _) (meets_str_split_sep z y t u h1 hy hf #[1] hn) ?_;show EP X ac σ Q _ { s with toks:=_,heap:=s.heap.push { cls:=.type "list",data:=.seq (strsFrom s.toks (Builtin.Str.partsBetween z (Builtin.Str.occurrences z y 0 z.length (z.length+1)) y.length)).toArray } };rw[strsFrom_eq];have e:Txt.split z y=(numbered s.toks (Builtin.Str.partsBetween z (Builtin.Str.occurrences z y 0 z.length (z.length+1)) y.length)).map (·.1):=((numbered_texts _ _).trans ((tT (ne_true_of_eq_false h1)).trans (tT (ne_true_of_eq_false hf))).symm).symm;rw[e]at q;refine HG I ?_ q;have:=congrArg List.length (numbered_texts s.toks (Builtin.Str.partsBetween z (Builtin.Str.occurrences z y 0 z.length (z.length+1)) y.length));rw[mY]at this;omega
  ·exact call_meets F.slot_str_split (typeIs_str _ _ _) F.entry_str_split (F.args_str_split_2 _ _) (meets_str_split_not_found z y t u h1 hy hf) (one ((tT (ne_true_of_eq_false h1)).trans (tU hf)))
 ·exact call_meets F.slot_str_split (typeIs_str _ _ _) F.entry_str_split (F.args_str_split_2 _ _) (meets_str_split_cannot_occur z y t u h1) (one (tU h1))
theorem RK:MtR X "str.partition" (λx xs H Q=>∃z y:Str,x=.str z/\xs=[.str y]/\(y.length==0)=false/\z.length<=sizeLine/\New H (.tup [.str (Txt.partition z y).1,.str (Txt.partition z y).2.1,.str (Txt.partition z y).2.2]) Q):=by
 intro ac s σ H x xs v us Q I rx rs q;obtain⟨z,y,rfl,rfl,hy,hz,q⟩:=q;obtain⟨t,rfl⟩:=rx;obtain⟨_,rfl,u,rfl⟩:=qW rs;have fin:∀(a b c:Str) (ta tb tc:Tok) (tk:Nat),New H (.tup [.str a,.str b,.str c]) Q->EP X ac σ Q (.ref s.heap.objs.size) { s with toks:=tk,heap:=s.heap.push { cls:=.type "tuple",data:=.seq [.str a ta,.str b tb,.str c tc].toArray } } :=λa b c ta tb tc tk q=>
  ⟨.ref s.heap.objs.size,_,I.laid (o:=.tup [.str a,.str b,.str c]) (t':=tk) (λb o e=>gJ _ e) uX ⟨by show 3<=sizeLine;decide,[.str a ta,.str b tb,.str c tc],.cons ⟨_,rfl⟩ (.cons ⟨_,rfl⟩ (.cons ⟨_,rfl⟩ .nil)),⟨_,gY _ rfl,rfl,0,rfl⟩,.of (gY _ rfl) rfl⟩,rfl,q.at (I.hok.fresh uX)⟩
 refine call_meets F.slot_str_partition (typeIs_str _ _ _) F.entry_str_partition (F.args_str_partition_2 _ _) (meets_str_partition z y t u hy hz) ?_;unfold Txt.partition at q;revert q;cases Builtin.Str.occurrences z y 0 z.length 1 with
 | nil=>intro q;exact fin _ _ _ _ _ _ _ q
 | cons i r=>intro q;exact fin _ _ _ _ _ _ _ q
def rSlS:V->Option Int->Option Int->Hp->VK->Prop:=λx lo hi H Q=>∃z:Str,x=.str z/\z.length<=sizeLine/\Q (.str (Txt.slice z lo hi)) H
theorem sl_str:SlR X rSlS:=by
 intro ac s σ H x v vl vu lo hi sl Q I rx hs pl pu h;obtain⟨z,rfl,hz,q⟩:=h;obtain⟨t,rfl⟩:=rx;refine⟨"str",_,F.slot_str_getitem.lookup,typeIs_str _ _ _, ?_⟩;cases pl<;>cases pu
 ·exact wpAny_getItem_str_slice (l:=none) (u:=none) (st:=none) hs rfl (post_val_or_str ⟨nW (Txt.slice_le z _ _) hz,λt' k=>⟨.str _,H,I.tok _,⟨_,rfl⟩,q⟩⟩)
 ·rename_i j tj;exact wpAny_getItem_str_slice (l:=none) (u:=some (j,tj)) (st:=none) hs rfl (post_val_or_str ⟨nW (Txt.slice_le z _ _) hz,λt' k=>⟨.str _,H,I.tok _,⟨_,rfl⟩,q⟩⟩)
 ·rename_i j tj;exact wpAny_getItem_str_slice (l:=some (j,tj)) (u:=none) (st:=none) hs rfl (post_val_or_str ⟨nW (Txt.slice_le z _ _) hz,λt' k=>⟨.str _,H,I.tok _,⟨_,rfl⟩,q⟩⟩)
 ·rename_i i ti j tj;exact wpAny_getItem_str_slice (l:=some (i,ti)) (u:=some (j,tj)) (st:=none) hs rfl (post_val_or_str ⟨nW (Txt.slice_le z _ _) hz,λt' k=>⟨.str _,H,I.tok _,⟨_,rfl⟩,q⟩⟩)
def FmtV:V->Str->Prop
 | .int i,y=>i.natAbs.log2<1920/\y=toString i
 | .str x,y=>x.length<=sizeLine/\y=x
 | _,_=>False
theorem fmt_ok{Q:Value->Shared->Prop}{E:Value->Shared->Prop}(I:Inv X ac σ H s)(r:RelV x v)(f:FmtV x y)(q:∀t tk,Inv X ac σ H { s with toks:=tk }->Q (.str y t) { s with toks:=tk }) :
  wpAny #[4] X.A (formatField v Str.empty) Q E s:=by
 cases x with
 | int i=>
  obtain⟨t,rfl⟩:=r;obtain⟨f1,rfl⟩:=f;exact formatField_int_small f1 (q _ _ (I.tok _))
 | str z=>
  obtain⟨t,rfl⟩:=r;obtain⟨f1,rfl⟩:=f;exact formatField_str (λt' tk=>q _ _ (I.tok _)) f1
 | _=>exact f.elim
theorem fmt_le{y:Str}(f:FmtV x y):y.length<=sizeLine:=by
 cases x with
 | int i=>rw[f.2];exact int_text_fits f.1
 | str z=>rw[f.2];exact f.1
 | _=>exact f.elim
def tF3(ta:TE)(m:Str)(tb:TE):TE:=fun σ H Q=>ta σ H λx H1=>∃x',FmtV x x'/\x'.length+m.length<=sizeLine/\tb σ H1 λy H2=>∃y',FmtV y y'/\x'.length+m.length+y'.length<=sizeLine/\Q (.str (x'++m++y')) H2
theorem pe_f3{k:Nat}(ha:PE X a ta)(hb:PE X b tb):PE X (.JoinedStr [.FormattedValue a (-1) none p1,.Constant (.str m) k p2,.FormattedValue b (-1) none p3] pos) (tF3 ta m tb):=by
 intro ac s σ H Q I h;refine JoinedStr_many (joinParts_cons (FormattedValue_plain (thn (ha ac s σ H _ I h) λv s1 ⟨x,H1,I1,r1,x',f1,hm,q1⟩=>?_)));refine fmt_ok I1 r1 f1 λt tk I2=>?_;have e1:Str.empty++x'=x':=Str.empty_append x';refine⟨by rw[e1];exact fmt_le f1, ?_⟩;rw[e1];refine joinParts_cons (Calls.Constant_str ?_);have I3:Inv X ac σ H1 { s1 with toks:=tk+1 } :=I2.tok _;show(x'++m).length<=sizeLine/\wpAny _ _ (joinParts (x'++m) _) _ _ { s1 with toks:=tk+1 };refine⟨?_,joinParts_consE (joinParts_cons (FormattedValue_plain (thn (hb ac _ σ H1 _ I3 q1) λv s2 ⟨y,H2,I4,r2,y',f2,hl,q2⟩=>?_)))⟩
 ·rw[Str.length_append];exact hm
 refine fmt_ok I4 r2 f2 λt tk I5=>⟨?_,joinParts_nilE (joinParts_nil ⟨.str _,H2,I5.tok _,⟨_,rfl⟩,q2⟩ ?_)⟩
 ·rw[Str.length_append,Str.length_append];exact hl
 ·rw[Str.length_append,Str.length_append];exact hl
def Its(z:Str):It:=⟨λi _=>i<z.length,λi H x H'=>H'=H/\∃c,z.cps.toList[i]? = some c/\x=.str ⟨#[c]⟩,λi _=>z.length<=i⟩
theorem WT{P:Program}{w:World}{K:tV}{tg:Expr}(z:Str)(t:Tok)(it:Addr):Turn P w K tg (Its z) [it] it (λi h=>h.IsStrIter it "str_ascii_iterator" z t i) where
 mem:=by simp
 obj:=λi h st b hb=>by
  have e:b=it:=by simpa using hb
  subst e;obtain⟨o,e,c,d⟩:=st;exact⟨o,e,λv z=>by rw[d]at z;cases z⟩
 keep:=λi h h' st k=>by
  obtain⟨o,e,r⟩:=st;exact⟨o,k it #[14] o e,r⟩
 item:=by
  intro X hP hw hK hc i ac s σ H E I hf st hg;subst hP hw hK;obtain⟨f0,f1,f2,f3,f4,f5⟩:=hf it #[14];have hg':i<z.cps.size:=hg;refine wpAny_pyNext_ascii_item st (c:=z.cps[i]) (by simp [hg']) λh' st' sb=>?_;have I1:Inv X ac σ H { s with heap:=h',toks:=s.toks+1 } :=I.turned (λb o hb e=>(sb.2 b hb).trans e) f0 f1 f3 f4 f5;obtain⟨o,e,c,d⟩:=id st';exact⟨_,rfl,HJ (s:={ s with heap:=h',toks:=s.toks+1 }) e c d #[0] ⟨.str ⟨#[z.cps[i]]⟩,H,I1,⟨_,rfl⟩,⟨rfl,_,by simp [hg'],rfl⟩,st',λb hb=>(hf b hb).1⟩⟩
 done:=by
  intro X hP hw hK hc i ac s σ H E I hf st hg;subst hP hw hK;obtain⟨f0,f1,f2,f3,f4,f5⟩:=hf it #[14];have hg':z.cps.size<=i:=hg;exact wpAny_pyNext_ascii_end (I.ok.hd hc) st (by simp [hg']) λh' eb=>⟨rfl,I.turned (t':=s.toks) (λb o hb e=>eb b o hb e) f0 f1 f3 f4 f5⟩
 self:=λ_ _ _ _ _ st h=>wpAny_pyIter_striter_ascii st h
def iStr(tl:TE):TI:=fun σ H R=>tl σ H λx H1=>∃z:Str,x=.str z/\z.cps.all (· < 128)=true/\R (Its z) H1
theorem pi_str(hl:PE X l tl):PI X tg l (iStr tl):=by
 intro ac s σ H R I h;refine thn (hl ac s σ H _ I h) λv s1 ⟨x,H1,I1,r1,q1⟩=>?_;obtain⟨z,rfl,ha,q⟩:=q1;obtain⟨t,rfl⟩:=r1;refine wpAny_pyIter_ascii ha ?_;refine⟨s1.heap.objs.size,[s1.heap.objs.size],_,_,H1,rfl,I1.kept (t':=s1.toks) λb o e=>gJ _ e,WT z t _,⟨_,gY _ rfl,rfl,rfl⟩,λb hb=>?_,q⟩;have e:b=s1.heap.objs.size:=by simpa using hb
 subst e;exact I1.fpOk uX (I1.hok.fresh uX)
theorem VN{α:Type}{E:Value->Shared->Prop}{F:Nat->Option α×Unit->Sem (ForInStep (Option α×Unit))}{R:Option α×Unit->Shared->Prop}{j:Nat}
  (h1:∀i (Q:ForInStep (Option α×Unit)->Shared->Prop),i<j->Q (.yield (none,())) s->wpAny M A (F i (none,())) Q E s) (h2:wpAny M A (F j (none,())) (λr s'=>∃a,r=.done (some a,())/\R (some a,()) s') E s) :
  ∀m a:Nat,a<=j->j<a+m->wpAny M A (forIn (List.range' a m) (none,()) F) R E s:=by
 intro m;induction m with
 | zero=>intro a h3 h4;omega
 | succ m ih=>
  intro a h3 h4;rw[List.range'_succ,List.forIn_cons];by_cases e:a=j
  ·subst e;refine tQ (tS h2 (λr s' h=>?_) λ_ _ e=>e);obtain⟨a,rfl,h⟩:=h;exact tR h
  ·exact tQ (h1 a _ #[1] (ih (a+1) #[1] #[1]))
def rIndex(K:tV):V->List V->Hp->VK->Prop:=λx xs H Q=>∃(p:Addr) (ys:List V) (y:V) (j:Nat),x=.ref p/\xs=[y]/\SqT K H p ys/\zO y=true/\ys.all zO=true/\j<ys.length/\(∀i z,i<j->ys[i]? = some z->eqV z y=false)/\(∀z,ys[j]? = some z->eqV z y=true)/\Q (.int j) H
theorem mt_index:MtR X "tuple.index" (rIndex X.K):=by
 intro ac s σ H x xs v us Q I rx rs q;obtain⟨p,ys,y,j,rfl,rfl,hp,fy,fa,hj,hn,hy,q⟩:=q;cases rx;obtain⟨u,rfl,ru⟩:=qW rs;obtain⟨its,rv,pl,hz⟩:=I.tuple hp;have hT:s.TypeIs (.ref p) "tuple":=by
  obtain⟨o,ho,hc,_⟩:=pl;exact⟨o,ho,hc⟩
 refine wpAny_call_entry F.slot_tuple_index hT F.entry_tuple_index ?_ (F.args_tuple_index_2 _ _);unfold Builtin.«tuple.index»;refine tQ (m:=selfAndSome "tuple.index" "index" 1 3 _) (tR ?_);refine tQ (tupleItemsOf_ pl ?_);refine tQ (tR ?_);refine tQ (tR ?_);refine tQ ?_;rw[Std.Legacy.Range.forIn_eq_forIn_range'];have hl:=rv.length;have esz:([0:min its.toArray.size its.toArray.size]:Std.Legacy.Range).size=its.length:=by
  simp [Std.Legacy.Range.size]
 rw[esz];have e0:List.range' ([0:min its.toArray.size its.toArray.size]:Std.Legacy.Range).start its.length ([0:min its.toArray.size its.toArray.size]:Std.Legacy.Range).step=List.range' 0 its.length:=rfl;rw[e0];have at':∀a,a<ys.length->∃z v,ys[a]? = some z/\its.toArray[a]? = some v/\RelV z v/\zO z=true:=λa ha=>by
  obtain⟨z,hzz⟩:∃z,ys[a]? = some z:=⟨ys[a],by simp [ha]⟩;obtain⟨v,hv,rz⟩:=rv.get hzz;exact⟨z,v,hzz,by simpa using hv,rz,List.all_eq_true.mp fa z (gQ hzz)⟩
 refine VN (j:=j) (λi R hi hR=>?_) ?_ _ 0 (tL _) #[1]
 ·obtain⟨z,v,h1,h2,h3,h4⟩:=at' i #[1];rw[h2];refine tQ (OH h3 ru h4 fy _ _ _ _ ?_);rw[hn i z hi h1,tT hV];exact tR hR
 ·obtain⟨z,v,h1,h2,h3,h4⟩:=at' j hj;rw[h2];refine tQ (OH h3 ru h4 fy _ _ _ _ ?_);rw[hy z h1,tU rfl];refine tQ (m:=retInt (j:Int)) ?_;unfold retInt;refine tQ (wpAny_mkInt ?_);exact tR (tR ⟨_,rfl,tR ⟨_,rfl,.int j,H,I.tok _,⟨_,rfl⟩,q⟩⟩)
end
end L2
namespace L2
open PySem PySem.Spec PyProof.Rows
section
variable{X:Cx}
end
theorem for_zipL{K:tV}{a b:Addr}{xs ys:List V}{g:TG}{tb:TS}{D:Ends}{σ:St}{H:Hp}(Pv:Nat->St->Hp->Prop)(le:ys.length<=xs.length)(h0:Pv 0 σ H)(hl:∀i σ H,i<=ys.length->Pv i σ H->SqT K H a xs/\SqT K H b ys)
  (hs:∀i x y p σ H,xs[i]? = some x->ys[i]? = some y->H p=none->Pv i σ H->g (.ref p) σ (upd H p (.tup [x,y])) fun σ2 H2=>tb { D with nx:=Pv (i+1),ct:=Pv (i+1),bk:=D.nx } σ2 H2) (hd:∀σ H,Pv ys.length σ H->D.nx σ H) :
  ∃W:Nat->Nat->St->Hp->Prop,(∃m,W 0 m σ H)/\∀i m σ H,W i m σ H->
   ((Itz K a b).stop i H/\D.nx σ H)∨((Itz K a b).go i H/\∃N:St->Hp->Prop,(∀σ' H',N σ' H'->∃m',m'<m/\W (i+1) m' σ' H')/\∀x H',(Itz K a b).yld i H x H'->g x σ H' fun σ2 H2=>tb { D with nx:=N,ct:=N,bk:=D.nx } σ2 H2):=by
 refine⟨λi m σ H=>m=ys.length-i/\i<=ys.length/\Pv i σ H,⟨ys.length,by simp,tL _,h0⟩, ?_⟩;rintro i m σ H ⟨rfl,hi,p⟩;obtain⟨q1,q2⟩:=hl i σ H hi p;by_cases hlt:i<ys.length
 ·have hw:i<xs.length:=hW hlt le;refine .inr ⟨⟨xs,ys,xs[i],ys[i],q1,q2,by simp [hw],by simp [hlt]⟩,Pv (i+1),fun σ' H' p'=>⟨ys.length-(i+1),by omega,rfl,hlt,p'⟩,λv H' y=>?_⟩;obtain⟨r,x,y,hr,rfl,rfl,hx,hy⟩:=y;exact hs i x y r σ H (hx xs q1) (hy ys q2) hr p
 ·have ei:i=ys.length:=by omega
  subst ei;exact .inl ⟨⟨xs,ys,q1,q2,.inr uX⟩,hd σ H p⟩
end L2
namespace LwD
open PySem PySem.Spec PyProof.Rows L2 Lw PySem.W
section
variable{prog:Program}{w:World}{A:Around}{E:Value->Shared->Prop}{s:Shared}{h₀:Heap}{L:Addr}{m:Str->Option Value}{news:List #[17]}
end
section
variable{X:Cx}
end
section
variable{X:Cx}{e e2:Expr}{kpos p pos:Pos}{t:TA}
end
end LwD
namespace LwS
open PySem PySem.Builtin.Str
structure Mark(sep:Str)(k c:Nat):Prop where
 one:sep.cps.toList[k]? = some c
 only:∀j,j<k->sep.cps.toList[j]?≠some c
 kind:strKind sep=1
theorem jW(x:Str):x.cps.toList.length=x.length:=by simp [Str.length]
theorem TQ{x y:Str}{i k c:Nat}(h:StrLaws.At x y x.length i)(hk:y.cps.toList[k]? = some c):x.cps.toList[i+k]? = some c:=by
 have h2:=h.2;rw[StrLaws.subAt_eq]at h2;have e:(x.cps.toList.drop i).take y.length=y.cps.toList:=eq_of_beq h2;rw[<-e]at hk;have hl:k<y.length:=by
  have:=(gE.mp hk).1;rw[mP]at this;omega
 rw[gH hl,List.getElem?_drop]at hk;exact hk
theorem uE(y a b:Str)(r:List Str):Str.join y (a::b::r)=a++y++Str.join y (b::r):=rfl
theorem xF(a b:Str):(a++b).cps.toList=a.cps.toList++b.cps.toList:=by rw[Str.cps_append,Array.toList_append]
theorem LL{x y:Str}{k c:Nat}(M:Mark y k c):∀(ps:List Str) (p:Str) (cuts:List Nat) (a f:Nat),(∀q∈p::ps,c∉q.cps.toList)->x.cps.toList.drop a=(Str.join y (p::ps)).cps.toList->a<=x.length->
  StrLaws.ChainG x y x.length a cuts f->(∀i,f<=i->¬StrLaws.At x y x.length i)->StrLaws.partsFrom x y.length a cuts=p::ps
 | [],p,cuts,a,f,hf,hx,ha,hG,hn=>by
  have no:∀i,a<=i->¬StrLaws.At x y x.length i:=λi hi hA=>by
   have h1:=TQ hA M.one;have h2:(x.cps.toList.drop a)[i-a+k]? = some c:=by rw[List.getElem?_drop,show a+(i-a+k)=i+k by omega];exact h1
   rw[hx]at h2;exact hf p #[14] (gQ h2)
  cases cuts with
  | cons d r=>exact absurd hG.2.1 (no d hG.1)
  | nil=>
   show [strSub x a x.length]=[p]
   congr 1
   apply Str.ext';apply Array.toList_inj.mp;rw[StrLaws.strSub_toList,hx];exact gK (by rw[<-hx,List.length_drop,jW];exact tK _)
 | q::ps,p,cuts,a,f,hf,hx,ha,hG,hn=>by
  rw[uE,xF,xF,mJ]at hx;have lx:x.length-a=p.length+(y.length+(Str.join y (q::ps)).length):=by
   have:=congrArg List.length hx;simp only[List.length_drop,hJ,jW]at this;exact this
  have ky:k<y.length:=by
   have:=(gE.mp M.one).1
   rwa [jW]at this
  have hA:StrLaws.At x y x.length (a+p.length):=by
   refine⟨by omega, ?_⟩;rw[StrLaws.subAt_eq,<-List.drop_drop,hx,<-jW p,List.drop_left,<-jW y,List.take_left];exact beq_self_eq_true _
  have no:∀i,a<=i->i<a+p.length->¬StrLaws.At x y x.length i:=λi h1 h2 hB=>by
   have h3:=TQ hB M.one;have h4:(x.cps.toList.drop a)[i-a+k]? = some c:=by rw[List.getElem?_drop,show a+(i-a+k)=i+k by omega];exact h3
   rw[hx]at h4;by_cases hk:i-a+k<p.length
   ·rw[gF (by rw[jW];exact hk)]at h4;exact hf p #[14] (gQ h4)
   ·rw[gC (by rw[jW];omega),jW,gF (by rw[jW];omega)]at h4;exact M.only _ #[1] h4
  cases cuts with
  | nil=>
   have e:f=a:=hG;exact absurd hA (hn _ #[1])
  | cons d r=>
   obtain⟨g1,g2,g3,g4⟩:=hG;have ed:d=a+p.length:=by
    have h1:¬d<a+p.length:=λh=>no d g1 h g2;have h2:¬a+p.length<d:=λh=>g3 _ #[1] h hA;omega
   subst ed;show strSub x a (a+p.length)::StrLaws.partsFrom x y.length (a+p.length+y.length) r=_
   congr 1
   ·apply Str.ext';apply Array.toList_inj.mp;rw[StrLaws.strSub_toList,hx,show a+p.length-a=p.cps.toList.length by rw[jW];omega,List.take_left]
   ·refine LL M ps q r _ f (λz hz=>hf z (gS _ hz)) ?_ #[1] g4 hn;rw[Nat.add_assoc,<-List.drop_drop,hx,<-List.drop_drop,<-jW p,List.drop_left,<-jW y,List.drop_left]
theorem kind_pos(x:Str):1<=strKind x:=by
 unfold Builtin.Str.strKind;split
 ·exact tK _
 ·split<;>decide
theorem wZ{k c:Nat}(M:Mark y k c)(hf:∀q∈p::ps,c∉q.cps.toList):Txt.split (Str.join y (p::ps)) y=p::ps:=by
 have ky:k<y.length:=by
  have:=(gE.mp M.one).1
  rwa [jW]at this
 obtain⟨f,hG,hn⟩:=StrLaws.occ_tight (Str.join y (p::ps)) y #[1];have key:=LL (x:=Str.join y (p::ps)) M ps p _ 0 f hf (by rw[List.drop_zero]) (tL _) hG hn;unfold Txt.split;split
 ·rename_i h;have hk:decide (strKind (Str.join y (p::ps))<strKind y)=false:=by
   rw[M.kind];exact nC (by have:=kind_pos (Str.join y (p::ps));omega)
  rw[hk,Bool.or_false,decide_eq_true_eq]at h;cases ps with
  | nil=>rfl
  | cons q r=>
   rw[uE,Str.length_append,Str.length_append]at h;omega
 ·split
  ·rename_i h;rw[List.isEmpty_iff.mp h]at key;have k2:[strSub (Str.join y (p::ps)) 0 (Str.join y (p::ps)).length]=p::ps:=key;rw[StrLaws.sub_whole]at k2;exact k2
  ·rw[StrLaws.partsBetween_eq];exact key
theorem RA{x:Str}{c:Nat}(h:c∉x.cps.toList):Txt.partition x ⟨#[c]⟩=(x,Str.empty,Str.empty):=by
 unfold Txt.partition;rcases StrLaws.occ_head x ⟨#[c]⟩ 1 uX with⟨h0,_⟩ | ⟨i,r,_,hA,_⟩
 ·rw[h0]
 ·exact absurd (gQ (TQ (k:=0) (c:=c) hA rfl)) h
theorem RB{p q:Str}{c:Nat}(h:c∉p.cps.toList):Txt.partition (p++⟨#[c]⟩++q) ⟨#[c]⟩=(p,⟨#[c]⟩,q):=by
 have hx:(p++(⟨#[c]⟩:Str)++q).cps.toList=p.cps.toList++c::q.cps.toList:=by rw[xF,xF,mJ];rfl
 have hl:(p++(⟨#[c]⟩:Str)++q).length=p.length+1+q.length:=by rw[Str.length_append,Str.length_append];rfl
 have hA:StrLaws.At (p++(⟨#[c]⟩:Str)++q) ⟨#[c]⟩ (p++(⟨#[c]⟩:Str)++q).length p.length:=by
  refine⟨by rw[hl];show p.length+1<=_;omega, ?_⟩;rw[StrLaws.subAt_eq,hx,<-jW p,List.drop_left];show([c]==[c])=true;exact beq_self_eq_true _
 have no:∀i,i<p.length->¬StrLaws.At (p++(⟨#[c]⟩:Str)++q) ⟨#[c]⟩ (p++(⟨#[c]⟩:Str)++q).length i:=λi hi hB=>by
  have h1:=TQ (k:=0) (c:=c) hB rfl;rw[hx,Nat.add_zero,gF (by rw[jW];exact hi)]at h1;exact h (gQ h1)
 unfold Txt.partition;rcases StrLaws.occ_head (p++(⟨#[c]⟩:Str)++q) ⟨#[c]⟩ 1 uX with⟨_,h0⟩ | ⟨i,r,e,hB,hn⟩
 ·exact absurd hA (h0 _)
 ·have ei:i=p.length:=by
   have h1:¬i<p.length:=λz=>no i z hB;have h2:¬p.length<i:=λz=>hn _ z hA;omega
  rw[e,ei];have e1:strSub (p++(⟨#[c]⟩:Str)++q) 0 p.length=p:=by
   apply Str.ext';apply Array.toList_inj.mp;rw[StrLaws.strSub_toList,hx,List.drop_zero,Nat.sub_zero,<-jW p,List.take_left]
  have e2:strSub (p++(⟨#[c]⟩:Str)++q) (p.length+(⟨#[c]⟩:Str).length) (p++(⟨#[c]⟩:Str)++q).length=q:=by
   apply Str.ext';apply Array.toList_inj.mp;rw[StrLaws.strSub_toList,hx,hl];show List.take (p.length+1+q.length-(p.length+1)) (List.drop (p.length+1) _)=_;rw[<-List.drop_drop,<-jW p,List.drop_left,List.drop_one,List.tail_cons];exact gK (by rw[jW];omega)
  show(strSub _ 0 p.length,(⟨#[c]⟩:Str),strSub _ (p.length+_) _)=_;rw[e1,e2]
open LwI
def itx(i:Int):Str:=Str.ofString (toString i)
def dg(n:Nat):List Nat:=(Nat.toDigits 10 n).map Char.toNat
theorem itx_nat(n:Nat):(itx (n:Int)).cps.toList=dg n:=by
 unfold itx;rw[Str.ofString_eq_toList];show((toString (n:Int)).toList.map Char.toNat)=_;rw[show(toString (n:Int))=String.ofList (Nat.toDigits 10 n)from rfl,String.toList_ofList]
 rfl
theorem itx_neg(n:Nat)(h:0<n):(itx (-(n:Int))).cps.toList=45::dg n:=by
 obtain⟨m,rfl⟩:∃m,n=m+1:=⟨n-1,by omega⟩;unfold itx;rw[Str.ofString_eq_toList];show((toString (Int.negSucc m)).toList.map Char.toNat)=_;rw[show(toString (Int.negSucc m))="-"++String.ofList (Nat.toDigits 10 (m+1))from rfl,String.toList_append,mZ];show [45]++_=_;rw[String.toList_ofList]
 rfl
theorem BP(n:Nat):Dig (dg n):=λc hc=>by
 obtain⟨ch,h1,rfl⟩:=nY.mp hc;have:=Nat.isDigit_of_mem_toDigits #[0] #[0] h1;simp only[Char.isDigit,mU,decide_eq_true_eq]at this;exact⟨UInt32.le_iff_toNat_le.mp this.1,UInt32.le_iff_toNat_le.mp this.2⟩
theorem SY(n:Nat):dg n≠[]:=λh=>Nat.toDigits_ne_nil (List.map_eq_nil_iff.mp h)
theorem dg_val(n:Nat):valD (dg n)=n:=by
 have h:=Nat.ofDigitChars_ten_toDigits (n:=n);unfold Nat.ofDigitChars at h;unfold valD dg;rw[List.foldl_map];rw[<-h]
 conv=>lhs;rw[h]
 refine congrFun (congrFun (congrArg _ ?_) _) _
 funext a c
 rw[Nat.mul_comm]
 rfl
theorem JW{n k:Nat}(hk:0<k)(h:n<10^k):(dg n).length<=k:=by
 unfold dg;rw[mY];exact(Nat.length_toDigits_le_iff #[0] hk).mpr h
theorem vY(i:Int):(0<=i/\(itx i).cps.toList=dg i.natAbs)∨(i<0/\(itx i).cps.toList=45::dg i.natAbs):=by
 by_cases h:0<=i
 ·obtain⟨n,rfl⟩:=gI h;exact .inl ⟨h,by rw[itx_nat];rfl⟩
 ·have e:i = -(i.natAbs:Int):=by omega
  refine .inr ⟨by omega, ?_⟩
  conv=>lhs;rw[e]
  exact itx_neg _ #[1]
theorem SO{i:Int}(h:i.natAbs<10^600):Nml (itx i).cps.toList i:=by
 refine⟨dg i.natAbs,BP _,SY _,JW #[0] h, ?_⟩;rw[dg_val];rcases vY i with⟨h1,h2⟩ | ⟨h1,h2⟩
 ·exact .inl ⟨h2,by omega⟩
 ·exact .inr ⟨h2,by omega⟩
theorem yX{i:Int}{c:Nat}(hc:c∈(itx i).cps.toList):c=45∨(48<=c/\c<=57):=by
 rcases vY i with⟨_,h⟩ | ⟨_,h⟩
 ·rw[h]at hc;exact .inr (BP _ c hc)
 ·rw[h]at hc;rcases nP.mp hc with rfl | hc
  ·exact .inl rfl
  ·exact .inr (BP _ c hc)
theorem zH{i:Int}{k:Nat}(hk:0<k)(h:i.natAbs<10^k):(itx i).length<=k+1:=by
 rw[<-jW];have:=JW hk h;rcases vY i with⟨_,h⟩ | ⟨_,h⟩<;>rw[h]
 ·omega
 ·rw[mS];omega
def ntx(t b:Int):Str:=if b=1 then itx t else itx t++⟨#[47]⟩++itx b
def wl:Nat->List Int->List (Nat×Int)
 | _,[]=>[]
 | j,p::r=>(if 1<=p then [(j,p)]else [])++wl (j+1) r
def ltr(j:Nat):Str:=⟨#[97+j]⟩
def wtx(q:Nat×Int):Str:=if q.2=1 then ltr q.1 else ltr q.1++⟨#[94]⟩++itx q.2
structure Trm where
 ns:List Int
 t:Int
 b:Int
def ttx(x:Trm):Str:=Str.join ⟨#[32]⟩ (ntx x.t x.b::(wl 0 x.ns).map wtx)
def stx(ts:List Trm):Str:=match ts with
 | []=>⟨#[48]⟩
 | x::r=>Str.join ⟨#[32,43,32]⟩ ((x::r).reverse.map ttx)
theorem HY(p:Int):∀(a:List Int) (j:Nat),wl j (a++[p])=wl j a++(if 1<=p then [(j+a.length,p)]else [])
 | [],j=>by simp [wl]
 | q::r,j=>by
  show _++wl (j+1) (r++[p])=(_++wl (j+1) r)++_;rw[HY p r (j+1),mJ,mS,show j+1+r.length=j+(r.length+1) by omega]
theorem MY:∀{ns:List Int} {j:Nat} {q:Nat×Int},q∈wl j ns->j<=q.1/\q.1<j+ns.length/\1<=q.2/\q.2∈ns
 | [],_,_,h=>nomatch h
 | p::r,j,q,h=>by
  rcases nE.mp h with h | h
  ·by_cases hp:1<=p
   ·rw[tU hp,mB]at h;subst h;exact⟨tK _,by simp,hp,mD ..⟩
   ·rw[tT hp]at h;cases h
  ·obtain⟨h1,h2,h3,h4⟩:=MY h;exact⟨by omega,by rw[mS];omega,h3,gS _ h4⟩
def OU(l:List Int)(q:Nat×Int):List Int:=l.set q.1 (l.getD q.1 0+q.2)
theorem SU(aa:Nat):∀(n:Nat) (ns:List Int),ns.length=n->n<=aa->(∀p∈ns,0<=p)->(wl 0 ns).foldl OU (List.replicate aa 0)=ns++List.replicate (aa-n) 0
 | 0,ns,h,_,_=>by rw[List.length_eq_zero_iff.mp h];rfl
 | n+1,ns,h,hm,hp=>by
  have hne:ns≠[]:=λz=>by rw[z]at h;cases h
  obtain⟨a,p,rfl⟩:∃a p,ns=a++[p]:=⟨ns.dropLast,ns.getLast hne,(List.dropLast_concat_getLast hne).symm⟩;have ha:a.length=n:=by simpa using h
  rw[HY,mM,SU aa n a ha #[1] (λx hx=>hp x (List.mem_append_left _ hx)),Nat.zero_add,ha];have em:aa-n=(aa-(n+1))+1:=by omega
  have e1:List.replicate (aa-n) (0:Int)=0::List.replicate (aa-(n+1)) 0:=by rw[em,List.replicate_succ]
  have p0:0<=p:=hp p #[14];by_cases h1:1<=p
  ·rw[tU h1,e1];show OU _ _=_;unfold OU;rw[<-ha];simp [gB]
  ·rw[tT h1,e1,show p=0 by omega];simp
theorem HB{t b:Int}{c:Nat}(hc:c∈(ntx t b).cps.toList):45<=c/\c<=57:=by
 unfold ntx at hc;split at hc
 ·have:=yX hc;omega
 ·rw[xF,xF,mJ]at hc;rcases nE.mp hc with h | h
  ·have:=yX h;omega
  ·rcases nE.mp h with h | h
   ·have:c=47:=by simpa using h
    omega
   ·have:=yX h;omega
theorem FN{q:Nat×Int}{c:Nat}(hc:c∈(wtx q).cps.toList):45<=c:=by
 unfold wtx at hc;split at hc
 ·have:c=97+q.1:=by simpa [ltr]using hc
  omega
 ·rw[xF,xF,mJ]at hc;rcases nE.mp hc with h | h
  ·have:c=97+q.1:=by simpa [ltr]using h
   omega
  ·rcases nE.mp h with h | h
   ·have:c=94:=by simpa using h
    omega
   ·have:=yX h;omega
theorem EV{sep:Str}{c:Nat} :∀{l:List Str},c∈(Str.join sep l).cps.toList->c∈sep.cps.toList∨∃x∈l,c∈x.cps.toList
 | [],h=>by cases h
 | [x],h=>.inr ⟨x,by simp,h⟩
 | x::y::r,h=>by
  rw[uE,xF,xF,mJ]at h;rcases nE.mp h with h | h
  ·exact .inr ⟨x,by simp,h⟩
  ·rcases nE.mp h with h | h
   ·exact .inl h
   ·rcases EV h with h | ⟨z,hz,h⟩
    ·exact .inl h
    ·exact .inr ⟨z,gS _ hz,h⟩
theorem UC{c:Nat}(hc:c∈(ttx x).cps.toList):c=32∨45<=c:=by
 rcases EV hc with h | ⟨y,hy,h⟩
 ·exact .inl (by simpa using h)
 ·rcases nP.mp hy with rfl | hy
  ·have:=HB h;omega
  ·obtain⟨q,_,rfl⟩:=nY.mp hy;exact .inr (FN h)
theorem FX(x:Trm):Txt.split (ttx x) ⟨#[32]⟩=ntx x.t x.b::(wl 0 x.ns).map wtx:=by
 refine wZ (k:=0) (c:=32) ⟨rfl,λj hj=>by omega,by decide +kernel⟩ λq hq hm=>?_;rcases nP.mp hq with rfl | hq
 ·have:=HB hm;omega
 ·obtain⟨q,_,rfl⟩:=nY.mp hq;have:=FN hm;omega
theorem FY(x:Trm)(r:List Trm):Txt.split (stx (x::r)) ⟨#[32,43,32]⟩=(x::r).reverse.map ttx:=by
 show Txt.split (Str.join ⟨#[32,43,32]⟩ ((x::r).reverse.map ttx)) ⟨#[32,43,32]⟩=_;cases e:(x::r).reverse with
 | nil=>simp at e
 | cons y s=>
  rw[nO];refine wZ (k:=1) (c:=43) ⟨rfl,λj hj=>?_,by decide +kernel⟩ λq hq hm=>?_
  ·have:j=0:=by omega
   subst this
   decide
  ·have:∃z,q=ttx z:=by
    rcases nP.mp hq with rfl | hq
    ·exact⟨y,rfl⟩
    ·obtain⟨z,_,rfl⟩:=nY.mp hq;exact⟨z,rfl⟩
   obtain⟨z,rfl⟩:=this;have:=UC hm;omega
structure TmOk(aa:Nat)(x:Trm):Prop where
 len:x.ns.length=aa
 nn:∀n∈x.ns,0<=n
 deg:x.ns.sum<=16
 pos:0<x.b
 low:Int.gcd x.t x.b=1
 nz:x.t≠0
 st:x.t.natAbs<2^782
 sb:x.b.natAbs<2^680
theorem XH:∀{ns:List Int},(∀n∈ns,0<=n)->0<=ns.sum
 | [],_=>tP _
 | a::r,h=>by
  have h1:=h a #[14];have h2:=XH λn hn=>h n (gS _ hn);rw[nT];omega
theorem RP:∀{ns:List Int} {n:Int},(∀n∈ns,0<=n)->n∈ns->n<=ns.sum
 | a::r,n,h,hn=>by
  have h1:=h a #[14];have h2:=XH λn hn=>h n (gS _ hn);rw[nT];rcases nP.mp hn with rfl | hn
  ·omega
  ·have:=RP (λn hn=>h n (gS _ hn)) hn;omega
theorem TmOk.le{aa:Nat}{x:Trm}(h:TmOk aa x){n:Int}(hn:n∈x.ns):0<=n/\n<=16:=⟨h.nn n hn,Int.le_trans (RP h.nn hn) h.deg⟩
theorem OA{i:Int}{k:Nat}(h:i.natAbs<2^k)(hk:k<=1920)(hk0:0<k):i.natAbs.log2<1920:=by
 by_cases e:i.natAbs=0
 ·rw[e];decide
 ·exact hW ((Nat.log2_lt e).mpr h) hk
theorem TmOk.t10{aa:Nat}{x:Trm}(h:TmOk aa x):x.t.natAbs<10^236:=hW h.st #[3]
theorem TmOk.b10{aa:Nat}{x:Trm}(h:TmOk aa x):x.b.natAbs<10^205:=hW h.sb #[3]
theorem JD{aa:Nat}{x:Trm}(h:TmOk aa x):(ntx x.t x.b).length<=444:=by
 have h1:=zH #[0] h.t10;have h2:=zH #[0] h.b10;unfold ntx;split
 ·omega
 ·rw[Str.length_append,Str.length_append];show(itx x.t).length+1+(itx x.b).length<=444;omega
theorem IG{p:Int}(h0:0<=p)(h:p<=16):p.natAbs<10^2:=by omega
theorem OW{q:Nat×Int}(h0:0<=q.2)(h:q.2<=16):(wtx q).length<=5:=by
 have h2:=zH #[0] (IG h0 h);unfold wtx;split
 ·show 1<=5;decide
 ·rw[Str.length_append,Str.length_append];show 1+1+(itx q.2).length<=5;omega
theorem HZ:∀(ns:List Int) (j:Nat),(wl j ns).length<=ns.length
 | [],_=>tK _
 | p::r,j=>by
  show((if 1<=p then [(j,p)]else [])++wl (j+1) r).length<=_;have:=HZ r (j+1);rw[hJ,mS];split
  ·rw[List.length_singleton];omega
  ·rw[List.length_nil];omega
theorem sum_le{B:Nat}{l:List Str}(h:∀y∈l,y.length<=B):(l.map (·.length)).sum<=l.length*B:=StrLaws.sumLen_le l h
theorem FP{aa:Nat}{x:Trm}(h:TmOk aa x):∀y∈(wl 0 x.ns).map wtx,y.length<=5:=λy hy=>by
 obtain⟨q,hq,rfl⟩:=nY.mp hy;have:=h.le (MY hq).2.2.2;exact OW this.1 this.2
theorem ttx_len{aa:Nat}(h:TmOk aa x)(hm:aa<=4):(ttx x).length<=469:=by
 have h1:=StrLaws.join_length_le ⟨#[32]⟩ (ntx x.t x.b::(wl 0 x.ns).map wtx);have h2:=sum_le (FP h);have h3:=HZ x.ns 0;have h4:=JD h;have h5:=h.len;simp only[nO,nT,mS,mY]at h1 h2;have e:(⟨#[32]⟩:Str).length=1:=rfl;rw[e]at h1;exact nW h1 #[1]
theorem SM{sep:Str}{l:List Str}{B:Nat}(hB:∀y∈l,y.length<=B)(h:l.length*B+l.length*sep.length<=16777216):JoinOk sep l=true:=by
 unfold JoinOk;rw[StrLaws.joinFits hB h]
 rfl
theorem NI(i:Int):Txt.startswith (itx i) ⟨#[45]⟩=decide (i<0):=by
 unfold Txt.startswith;rw[StrLaws.subAt_eq,List.drop_zero,<-jW (itx i)];have e:(⟨#[45]⟩:Str).length=1:=rfl;rw[e];rcases vY i with⟨h1,h2⟩ | ⟨h1,h2⟩
 ·rw[h2,nC (show ¬i<0 by omega)];have hd:=BP i.natAbs;cases e2:dg i.natAbs with
  | nil=>exact absurd e2 (SY _)
  | cons c r=>
   rw[e2]at hd;have hc:=hd c #[14];have e3:(List.take 1 (c::r)==((⟨#[45]⟩:Str).cps.toList))=false:=by
    show([c]==[45])=false;simp;omega
   rw[e3,Bool.and_false]
 ·rw[h2,nG h1];show(decide (0+1<=(45::dg i.natAbs).length)&&([45]==[45]))=true;simp
theorem slice1{x:Str}(h:1<=x.length):(Txt.slice x (some 1) none).cps.toList=x.cps.toList.drop 1:=by
 have e:Txt.slice x (some 1) none=StrLaws.sliceText x (some ((1:Nat):Int)) (some (x.length:Int)):=by
  unfold Txt.slice StrLaws.sliceText;rw[StrLaws.sliceIdx_none_hi]
  rfl
 rw[e,StrLaws.sliceText_nat x h uX];exact gK (by rw[List.length_drop,jW];exact tK _)
end LwS
namespace LwD
open PySem PySem.Spec PyProof.Rows L2 Lw
section
variable{prog:Program}{w:World}{A:Around}{E:Value->Shared->Prop}{h:Heap}{g:Array GenState}{d:Drawn}{t:Nat}{os:OsState}{a:Addr}{o:Obj}
end
section
variable{prog:Program}{w:World}{A:Around}{E:Value->Shared->Prop}
end
section
variable{prog:Program}{w:World}{A:Around}{E:Value->Shared->Prop}{s:Shared}
end
section
variable{X:Cx}
end
section
variable{prog:Program}{w:World}{A:Around}{E:Value->Shared->Prop}{s:Shared}
end
section
variable{X:Cx}
end
structure PwS(aa:Nat)(ns:List Int):Prop where
 len:ns.length=aa
 nn:∀n∈ns,0<=n
 deg:ns.sum<=8
section
variable{X:Cx}
end
section
variable{prog:Program}{w:World}{A:Around}{E:Value->Shared->Prop}{s:Shared}
end
section
variable{X:Cx}
end
section
variable{prog:Program}{w:World}{A:Around}{E:Value->Shared->Prop}{s:Shared}{d it:Addr}{es:Array DictEntry}{ep i:Nat}
end
section
variable{X:Cx}
end
end LwD
namespace Lw
open PySem PySem.Spec PyProof.Rows L2
def xE(X:Cx)(N:List Str)(scope:Scope)(x0:Str)(cl:List (Str×Addr))(C:Addr)(fp:List Addr)(s2:Shared)(H2:Hp):Cx:=
 { X with N:=N,s₀:=s2,H₀:=H2,env:=compEnvC scope ((x0,C+1)::cl) C X.env,outer:=X.stack,stack:=X.stack,ex:=fp,fn:=λx=>decide (x=x0),pn:=[],xe:=λ_ _=>False }
theorem JH{x0:Str}{c:Addr}{cl:List (Str×Addr)} :((x0,c)::cl).lookup x0=some c:=by rw[List.lookup_cons,beq_self_eq_true]
theorem wO{cl:List (Str×Addr)}(h:((x0,c)::cl).lookup x=some c'):(x=x0/\c'=c)∨cl.lookup x=some c':=by
 rw[List.lookup_cons]at h;cases q:x==x0 with
 | true=>
  rw[q]at h;exact .inl ⟨beq_iff_eq.mp q,(Option.some.inj h).symm⟩
 | false=>
  rw[q]at h;exact .inr h
theorem lk_old{cl:List (Str×Addr)}(n:x≠x0)(h:cl.lookup x=some c'):((x0,c)::cl).lookup x=some c':=by
 rw[List.lookup_cons,beq_false_of_ne n];exact h
theorem LU{E:Value->Shared->Prop}{s:Shared}{scope:Scope}{Q:Env->Shared->Prop}(hcf:∀a l,cellsFrom a scope.names l=(x0,a)::l)(hpc:∀h,pushCells h scope.names=h.push { cls:=.type "cell",data:=.cell none })
  (hQ:Q (newEnv scope s.heap.objs.size globals ((x0,s.heap.objs.size+1)::cl) qual none .none (some env) builtinsNs) { s with heap:=(s.heap.push { cls:=.type "dict",data:=.dict #[] }).push { cls:=.type "cell",data:=.cell none } }) :
  wpAny M A (newFunctionEnv scope globals cl [] qual none .none (some env)) Q E s:=by
 simp only[newFunctionEnv,Option.isSome_some,if_true];refine tQ (wpAny_alloc (tQ (wpAny_layCells _ (λname kind cells=>by cases hkc:kind==NameKind.cell<;>simp [hkc]) _ _ _ _ ?_)));rw[hcf,hpc,nN];exact tQ (tR (tR hQ))
section
variable{X:Cx}
theorem OL{ac:List #[17]}{σ:L2.St}{H1:Hp}{s2:Shared}{N:List Str}{scope:Scope}{x0:Str}{cl:List (Str×Addr)}{C:Addr}{fp:List Addr}(I:Inv X ac σ H1 s2)(hk:scope.kind=.function)
  (hsub:∀x c,cl.lookup x=some c->X.env.cells.lookup x=some c) (hhas:∀x,(#[11].names.lookup x=some .cell∨#[11].names.lookup x=some .free)->x=x0∨∃c,cl.lookup x=some c)
  (hC:s2.heap.objs.size<=C) (hf:∀b∈fp,FpOk X ac H1 b) (hlt:∀b∈fp,b<s2.heap.objs.size):(xE X N scope x0 cl C fp s2 H1).Ok where
 mod:=I.ok.mod
 kind:=hk
 glob:=I.ok.glob
 blt:=I.ok.blt
 above:=hC
 inj:=λx y c h1 h2=>by
  have old:∀z,cl.lookup z=some c->c≠C+1:=λz hz e=>by
   obtain⟨v,hv⟩:=I.cell z c (hsub z c hz);exact absurd e (nX (hW hv.lt (Nat.le_succ_of_le hC)))
  rcases wO h1 with⟨e1,e2⟩ | e1<;>rcases wO h2 with⟨e3,e4⟩ | e3
  ·rw[e1,e3]
  ·exact absurd e2 (old y e3)
  ·exact absurd e4 (old x e1)
  ·exact I.ok.inj x y c (hsub x c e1) (hsub y c e3)
 has:=λx h=>by
  rcases hhas x h with e | ⟨c,e⟩
  ·exact⟨C+1,by rw[e];exact JH⟩
  ·by_cases z:x=x0
   ·exact⟨C+1,by rw[z];exact JH⟩
   ·exact⟨c,lk_old z e⟩
 cab:=λx c h e=>by
  have z:x=x0:=mK h;rcases wO e with⟨_,e2⟩ | e2
  ·rw[e2];exact Nat.le_succ_of_le hC
  ·rw[z]at e;have e':((x0,C+1)::cl).lookup x0=some c:=e;rw[JH]at e';cases e';exact Nat.le_succ_of_le hC
 hd:=I.ok.hd
 frames:=I.ok.frames
 stk:=.inl rfl
 exf:=λb hb=>⟨nX (hW (hlt b hb) hC),λx c h=>by
  rcases wO h with⟨_,e2⟩ | e2
  ·rw[e2];exact Nat.ne_of_gt (hW (hlt b hb) (Nat.le_succ_of_le hC))
  ·exact(hf b hb).2.2.2.2.1 x c (hsub x c e2)⟩
 bs:=I.bs
 bsz:=nW I.ok.bsz I.sz
 noex:=λb o e hb=>by
  rcases(hf b hb).2.2.2.1 with z | z
  ·exact I.ok.noex b o e z
  ·exact absurd (hW (nV e) (nW I.ok.bsz z)) (nQ _)
 exfs:=λb hb z=>(nP.mp (I.stkSub b z)).elim (hf b hb).2.1 (hf b hb).2.2.1
 funs:=I.stack
 frf:=I.stkFree
theorem YT{idx:List Nat}{N:List Str}{scope:Scope}{cl:List (Str×Addr)}(hc:X.calm=true)
  (hk:scope.kind=.function) (hclos:closureFor scope X.env=pure cl) (hcf:∀a l,cellsFrom a scope.names l=(x0,a)::l) (hpc:∀h,pushCells h scope.names=h.push { cls:=.type "cell",data:=.cell none }) (hnames:∀x∈scope.names,x.2=.local->scope.names.lookup x.1=some .local)
  (hsub:∀x c,cl.lookup x=some c->X.env.cells.lookup x=some c) (hhas:∀x,(#[11].names.lookup x=some .cell∨#[11].names.lookup x=some .free)->x=x0∨∃c,cl.lookup x=some c)
  (hlen:N.length=1+idx.length)
  (hidx:∀(k j:Nat) (x:Str),idx[k]? = some j->N[1+k]? = some x->x≠x0/\X.N[j]? = some x/\X.env.kindOf x=some .cell/\#[11].names.lookup x=some .cell/\X.env.scope.names.lookup x=some .cell)
  (hi:PI X target iter wi) (hg:∀C fp s2 H2,PG (xE X N scope x0 cl C fp s2 H2) target g) (he:∀C fp s2 H2,PE (xE X N scope x0 cl C fp s2 H2) elt te)
  (hs:∀x,foldedSetIterable iter X.env x=pure x:=by intro _;rfl):PE X (.ListComp elt [⟨target,iter,[],0⟩] scope pos) (ID 1 idx wi g te):=by
 intro ac s σ H Q I h;rw[eval_ListComp];refine wpAny_comprehension_free (use:=none) rfl hs hclos hk hnames (thn (hi ac s σ H _ I h) λv s1 h1=>thn h1 λitv s2 h2=>?_);obtain⟨it,fp,tn,J,H1,e,I2,T,st2,f2,hR⟩:=h2;subst e;have hlt:∀b∈fp,b<s2.heap.objs.size:=λb hb=>by
  obtain⟨o,ho,_⟩:=T.obj 0 _ st2 b hb;exact nV ho
 refine wpAny_newObj_type (LU hcf hpc ?_);dsimp only;generalize hHH:s2.heap.push { cls:=.type "list",dict:=none,data:=.seq ([]:List Value).toArray } = HH;generalize h1e:((HH.push { cls:=.type "dict",data:=.dict #[] }).push { cls:=.type "cell",data:=.cell none })=h₁;have hCe:HH.objs.size=s2.heap.objs.size+1:=by rw[<-hHH,nN]
 have hDC:s2.heap.objs.size≠HH.objs.size:=by rw[hCe];exact nX (mW _)
 have hCle:s2.heap.objs.size<=HH.objs.size:=by rw[hCe];exact Nat.le_succ _
 have old:∀b o,s2.heap.get? b=some o->h₁.get? b=some o:=λb o e=>h1e▸gJ _ (gJ _ (hHH▸gJ _ e));have hD:h₁.get? s2.heap.objs.size=some { cls:=.type "list",dict:=none,data:=.seq ([]:List Value).toArray } :=h1e▸gJ _ (gJ _ (hHH▸gY _ rfl));have hns₁:h₁.Ns HH.objs.size (λ_=>none):=h1e▸(Heap.Ns.new HH (.type "dict")).keeps λb o e=>gJ _ e;have hcell0:h₁.IsCell (HH.objs.size+1) none:=by
  refine⟨{ cls:=.type "cell",data:=.cell none }, ?_,rfl⟩;rw[<-h1e,<-nN HH (o:={ cls:=.type "dict",data:=.dict #[] })];exact gY _ rfl
 have nD:H1 s2.heap.objs.size=none:=I2.hok.fresh uX ;obtain⟨W,⟨m0,w0⟩,turn⟩:=hR s2.heap.objs.size _ nD (jQ (.lst []) nD) jE;generalize hσ:(List.replicate 1 none++idx.map λj=>(σ[j]?).getD none:L2.St)=σ0 at turn;have lσ:σ0.length=N.length:=by rw[<-hσ,hJ,gN,mY,hlen]
 have ok:=OL (N:=N) (x0:=x0) (cl:=cl) (C:=HH.objs.size) I2 hk hsub hhas hCle f2 hlt;have oldC:∀c v,s2.heap.IsCell c v->h₁.IsCell c v:=λc v ⟨o,ho,hd⟩=>⟨o,old c o ho,hd⟩;have I4:Inv (xE X N scope x0 cl HH.objs.size fp s2 H1) [] σ0 (upd H1 s2.heap.objs.size (.lst [])) { s2 with heap:=h₁ } :=by
  refine⟨ok,rfl,I2.bare,Un.laid old uX nD,⟨_,hns₁,λi x v e1 e2 _=>?_⟩,(λx c z=>?_), ?_,(λx c z=>?_),(λp hp=>nomatch hp),I2.hok.laid old uX ?_,lσ⟩
  ·
   rw[<-hσ]at e2;by_cases hi':i<1
   ·rw[gF (by rw[gN];exact hi'),List.getElem?_replicate]at e2;split at e2<;>cases e2
   ·obtain⟨k,rfl⟩:∃k,i=1+k:=⟨i-1,by omega⟩;rw[gC (by rw[gN];omega),gN,Nat.add_sub_cancel_left,mG]at e2;cases ej:idx[k]? with
    | none=>rw[ej]at e2;cases e2
    | some j=>
     rw[ej,Option.map_some]at e2;have e2:=Option.some.inj e2;obtain⟨n0,n1,n2,n3,n4⟩:=hidx k j x ej e1;have e3:σ[j]? = some (some v):=by
      cases q:σ[j]? with
      | none=>rw[q]at e2;cases e2
      | some y=>rw[q,Option.getD_some]at e2;rw[e2]
     obtain⟨m,hm,hl⟩:=I2.loc;obtain⟨u,ru,lk⟩:=hl j x v n1 e3 (.inr (.inl n4));refine⟨u,ru, ?_⟩;rcases lk with⟨kl,_⟩ | ⟨_,c,hcl,hic⟩
     ·rw[n2]at kl;cases kl
     ·obtain⟨c',hc'⟩:=(hhas x (.inl n3)).resolve_left n0;have:c'=c:=Option.some.inj ((hsub x c' hc').symm.trans hcl);subst this;exact .inr ⟨.inl n3,c',lk_old n0 hc',oldC _ _ hic⟩
  ·rcases wO z with⟨_,e2⟩ | e2
   ·rw[e2];exact⟨_,hcell0⟩
   ·obtain⟨v,hv⟩:=I2.cell x c (hsub x c e2);exact⟨v,oldC _ _ hv⟩
  ·show(upd H1 s2.heap.objs.size (.lst [])) HH.objs.size=none;rw[jI (Ne.symm hDC)];exact I2.hok.fresh hCle
  ·show(upd H1 s2.heap.objs.size (.lst [])) c=none;rcases wO z with⟨_,e2⟩ | e2
   ·rw[e2,jI (Nat.ne_of_gt (Nat.lt_succ_of_le hCle))];exact I2.hok.fresh (Nat.le_succ_of_le hCle)
   ·obtain⟨v,hv⟩:=I2.cell x c (hsub x c e2);rw[jI (nX hv.lt)];exact I2.freeC x c (hsub x c e2)
  ·exact⟨by show 0<=sizeLine;decide,[],0,.nil,hD⟩
 have stat:∀{H':Hp},(∀b∈fp,H' b=none)->∀b∈fp,FpOk (xE X N scope x0 cl HH.objs.size fp s2 H1) [] H' b:=λhn b hb=>
  ⟨hn b hb,(ok.exf b hb).1,ok.exfs b hb,.inl hb,(ok.exf b hb).2,λp hp=>nomatch hp⟩
 have st4:tn 0 h₁:=T.keep _ _ _ st2 λb _ o e=>old b o e;have fr4:∀b∈fp,(upd H1 s2.heap.objs.size (.lst [])) b=none:=λb hb=>by
  rw[jI (nX (hlt b hb))];exact(f2 b hb).1
 have loop:codeAny #[4] X.A (.compLoop (.ListComp elt [⟨target,iter,[],0⟩] scope pos) 0 (.ref it) (.ref s2.heap.objs.size) (compEnvC scope ((x0,HH.objs.size+1)::cl) HH.objs.size X.env))
   (compPost #[4] X.A X.xe none (EP X ac σ Q) (.ref s2.heap.objs.size) HH.objs.size) { s2 with heap:=h₁ } :=by
  refine xR (λn s'=>∃i ys H',Inv (xE X N scope x0 cl HH.objs.size fp s2 H1) [] σ0 H' s'/\tn i s'.heap/\(∀b∈fp,H' b=none)/\W i n ys H') ?_ m0 ⟨0,[],_,I4,st4,fr4,w0⟩;rintro n s3 ⟨i,ys,H3,I3,st3,fr3,w3⟩;obtain⟨hp3,hz3,hw⟩:=turn i n ys H3 w3;rcases hw with⟨stop,qn⟩ | ⟨go,step⟩
  ·refine thn (T.done (xE X N scope x0 cl HH.objs.size fp s2 H1) rfl rfl rfl hc i [] s3 _ H3 _ I3 (stat fr3) st3 stop) λr s4 ⟨hr,I5⟩=>?_;subst hr;obtain⟨m,hm,_⟩:=id I5.loc;refine⟨m,hm,λh' sb=>⟨.ref s2.heap.objs.size,H3, ?_,rfl,qn⟩⟩;have k:∀b o,b≠HH.objs.size->s4.heap.get? b=some o->h'.get? b=some o:=λb o hb e=>sb.extBut b o hb e;have nb:∀b o,s2.heap.get? b=some o->b≠HH.objs.size:=λb o e=>by rw[hCe];exact nX (Nat.lt_succ_of_lt (nV e))
   have U:=I5.base;have fC:H3 HH.objs.size=none:=I5.free;refine I2.call' (ch:=fp) (s':={ s4 with heap:=h' }) I5.os ⟨λb o e n hb hx=>k b o (nb b o e) (U.keep b o e n hb hx),λb o e n hb hx=>?_,U.free,λb o e hx=>?_,U.tups,U.frzs,U.tbls⟩ (λb u e=>?_) I5.bare (λb hb=>⟨(f2 b hb).2.2.2.1,(f2 b hb).2.1,(f2 b hb).2.2.2.2.1,(f2 b hb).2.2.2.2.2⟩)
   ·obtain⟨sl,q⟩:=U.slot b o e n hb hx;exact⟨sl,k b _ (nb b o e) q⟩
   ·obtain⟨o',q⟩:=U.there b o e hx;exact⟨o',k b _ (nb b o e) q⟩
   ·refine(I5.hok b u e).stay (λc v hcc q=>k c v ?_ q) (λ_ q=>q) λ_ _ q=>q;rcases hcc with z | z
    ·rw[z];intro y;rw[y,fC]at e;cases e
    ·intro y;rw[y,fC]at z;cases z
  ·refine tS (T.item (xE X N scope x0 cl HH.objs.size fp s2 H1) rfl rfl rfl hc i [] s3 _ H3 (λ_ _=>False) I3 (stat fr3) st3 go) (λr s4 ⟨u,hr,h4⟩=>?_) λ_ _ z=>z.elim;subst hr;refine tS h4 (λ_ s5 ⟨x,H5,I5,r5,y5,st5,fr5⟩=>?_) λ_ _ z=>z.elim;have I5':=I5.pinned (stat fr5) (T.obj _ _ st5);refine tS (hg _ _ _ _ _ s5 _ H5 x u _ I5' r5 (step x H5 y5)) (λ_ s6 ⟨σ6,H6,I6,kp6,q6⟩=>?_) λ_ _ z=>z.elim;refine tS (he _ _ _ _ _ s6 σ6 H6 _ I6 q6) (λy s7 ⟨yv,H7,I7,r7,q7⟩=>?_) λ_ _ z=>z.elim;obtain⟨e7,m',hm',w7⟩:=q7;refine tS (vA (X:=xE X N scope x0 cl HH.objs.size fp s2 H1) _ s7 σ6 H7 (.ref s2.heap.objs.size) [yv] (.ref s2.heap.objs.size) [y] (λ_ H8=>H8=upd H7 s2.heap.objs.size (.lst (ys++[yv]))) I7 rfl (.cons r7 .nil) ⟨_,ys,yv,rfl,rfl,e7,hz3,rfl⟩) (λ_ s8 ⟨_,H8,I8,_,q8⟩=>?_) λ_ _ z=>z.elim;subst q8;refine⟨m',hm',i+1,_,_,(I8.unpinned).weak (by rw[lσ,I8.len];rfl) kp6,T.keep _ _ _ st5 λb hb o e=>(I8.pin (b,o) (gM _ (gM _ (vD hb e)))).1,λb hb=>?_,w7⟩;obtain⟨o,e,d⟩:=T.obj _ _ st5 b hb;exact(I8.pin (b,o) (gM _ (gM _ (vD hb e)))).2.1
 exact codeAny_compStart_list loop (T.self _ 0 _ _ _ st4 loop)
end
section
variable{X:Cx}
theorem xX{i:Nat}{py spos:Pos}(hN:X.N.Nodup)(hi:X.N[i]? = some y)(hx:Loc X.env.scope y){own:Nat}{idx:List Nat}{N:List Str}{scope:Scope}{cl:List (Str×Addr)}(hc:X.calm=true)
  (hk:scope.kind=.function) (hclos:closureFor scope X.env=pure cl) (hcell:∀x∈scope.names,x.2≠.cell) (hnames:∀x∈scope.names,x.2=.local->scope.names.lookup x.1=some .local)
  (hsub:∀x c,cl.lookup x=some c->X.env.cells.lookup x=some c) (hhas:∀x,(#[11].names.lookup x=some .cell∨#[11].names.lookup x=some .free)->∃c,cl.lookup x=some c)
  (hlen:N.length=own+idx.length)
  (hidx:∀(k j:Nat) (x:Str),idx[k]? = some j->N[own+k]? = some x->X.N[j]? = some x/\X.env.kindOf x=some .cell/\#[11].names.lookup x=some .cell/\X.env.scope.names.lookup x=some .cell)
  (hit:PI X target iter wi) (hg:∀C fp s2 H2,PG #[9] target g) (he:∀C fp s2 H2,PE #[9] elt te)
  (hsw:swapsWith (.ListComp elt [⟨target,iter,[],0⟩] scope pos) (some (.Name y py)) spos.line X.env=pure true:=by rfl)
  (hs:∀x,foldedSetIterable iter X.env x=pure x:=by intro _;rfl) (hfn:X.fn y=true∨X.env.scope.names.lookup y=some .local:=by first | exact .inl rfl | exact .inr rfl | assumption):PS X (.Assign [.Name y py] (.ListComp elt [⟨target,iter,[],0⟩] scope pos) spos) (zB (ID own idx wi g te) (jV i)):=by
 intro ac s σ H D I h;rw[exec_Assign_Name_used _ _ _ _ hsw];refine tQ (wpAny_standAt (tQ ?_));show wpAny _ X.A (do let _<-comprehension (.ListComp elt [⟨target,iter,[],0⟩] scope pos) scope X.env _ (newList []) false (eval iter X.env) (some (assign (.Name y py) X.env))) _ _ s;exact tQ (tS (yZ ⟨hk,hclos,hcell,hnames,hsub,hhas,hlen,hidx⟩ hc I hit h rfl hs (data:=.seq ([]:List Value).toArray) (tL _) rfl JE (B:=BF X target elt) (λV=>xR V) codeAny_compStart_list (cgoF hg he) (OE hN hi hx hfn)) (λ_ s' hq=>tR (tR hq)) λ_ _ e=>e)
end
section
variable{prog:Program}{w:World}{A:Around}{R:Result->Shared->Prop}{s:Shared}
theorem MU(I:Nat->Shared->Prop)
  (turn:∀n s,I n s->wpAny #[7] A (pyNext it) (λr s₁=>match r with
   | none=>R (.ok .next) s₁
   | some v=>wpAny #[7] A (letOwnedTupleGo target it v) (λ_ s₁'=>wpAny #[7] A (assign target env v) (λ_ s₂=>wpAny #[7] A (isTrue c env (eval c env)) (λb s₂'=>if b=true then wpAny #[7] A (eval elt env) (λx s₃=>
     wpAny #[7] A (call (.builtin "list.append") [acc,x]) (λ_ s₄=>∃m,m<n/\I m s₄) #[6] s₃)
     #[6] s₂' else ∃m,m<n/\I m s₂') #[6] s₂) #[6] s₁') #[6] s₁) #[6] s)
  (n:Nat) (h:I n s) :
  codeAny #[7] A (.compLoop (.ListComp elt [⟨target,iter,[c],0⟩] scope pos) 0 it acc env) R s:=by
 refine codeAny_loop rfl I (λn s hI=>?_) n h;show wpAny _ _ ((compTurn (.ListComp elt [⟨target,iter,[c],0⟩] scope pos) 0 it acc env).onRaise (λx=>do noteFrame x env;theTreesLotGoes x)) _ _ s;refine wpAny_noted ?_;rw[compTurn_list];refine tQ (wpAny_standAt (tQ (tS (turn n s hI) (λr s₁ h₁=>?_) λ_ _ h'=>h')));cases r with
 | none=>exact tR h₁
 | some v=>
  refine tQ (tS h₁ (λ_ s₁' h₁'=>?_) λ_ _ h'=>h');refine tQ (tS h₁' (λ_ s₂ h₂=>?_) λ_ _ h'=>h');refine tQ ?_;rw[List.forIn_cons];dsimp only;rw[tU rfl];refine tQ (tQ (tS h₂ (λb s₂' hb=>tR ?_) λ_ _ h'=>h'));dsimp only;rw[List.forIn_nil];refine tR ?_;cases b with
  | true=>
   rw[tU rfl]at hb ⊢;refine tQ ?_;exact(tQ (tS hb (λx s₃ h₃=>tQ (tS h₃
    (λ_ s₄ h₄=>tR (tR ⟨rfl,h₄⟩)) λ_ _ h'=>h')) λ_ _ h'=>h'))
  | false=>
   rw[tT hV]at hb ⊢;exact tR ⟨rfl,hb⟩
end
section
variable{X:Cx}
end
end Lw
namespace LwD
open PySem PySem.Spec PyProof.Rows L2 Lw
section
variable{prog:Program}{w:World}{A:Around}{E:Value->Shared->Prop}{s:Shared}
end
section
variable{X:Cx}
end
section
variable{X:Cx}{k v:Expr}{tk tv:TE}{pos:Pos}
end
end LwD
namespace L2
open PySem PySem.Spec PyProof.Rows
section
variable{X:Cx}
end
end L2
namespace Lw
open PySem PySem.Spec PyProof.Rows L2
theorem SL{κ:Type}{ah:List (κ×V)}{vs:List (κ×Value)}(r:KV ah vs){i:Nat}{k:κ}(h:ah[i]? = some (k,x)):∃u,vs[i]? = some (k,u)/\RelV x u:=by
 unfold KV at r;induction r generalizing i with
 | nil=>simp at h
 | cons p t ih=>
  cases i with
  | zero=>
   cases (Option.some.inj h);rename_i b bs _;exact⟨b.2,by have e:k=b.1:=p.1;show some b=some (k,b.2);rw[e],p.2⟩
  | succ i=>exact ih (i:=i) h
theorem IQ(h:(kB P w).is k u=true):RelV (kV k) u:=by
 rcases qB (show ET k u=true from h)with⟨i,t,rfl,rfl⟩ | ⟨x,t,rfl,rfl⟩
 ·exact⟨t,rfl⟩
 ·exact⟨t,rfl⟩
def Iti(d:Addr)(o:Obj)(ah:List (Key×V)):It:=
 ⟨λi H=>H d=some (.frz o (.dK ah))/\i<ah.length,
  λi H v H'=>∃p k x,H p=none/\v=.ref p/\ah[i]? = some (k,x)/\H'=upd H p (.tup [kV k,x]),
  λi H=>H d=some (.frz o (.dK ah))/\i=ah.length⟩
theorem ND{P:Program}{w:World}{K:tV}{es:List Expr}{x1}{pos:Pos}(d it:Addr){o:Obj}{ens:Array DictEntry}{ep:Nat}{ah:List (Key×V)}(ho:o.data=.dict ens ep):Turn P w K (.Tuple es x1 pos) (Iti d o ah) [it] it (λi h=>∃ok ov,IsItemIter h it d i ah.length ep ok ov) where
 mem:=by simp
 obj:=λi h st b hb=>by
  have e:b=it:=by simpa using hb
  subst e;obtain⟨ok,ov,st⟩:=st;exact⟨_,st,λv q=>by cases (show Data.fields _=Data.cell v from q)⟩
 keep:=λi h h' st k=>by
  obtain⟨ok,ov,st⟩:=st;exact⟨ok,ov,k it #[14] _ st⟩
 item:=by
  intro X hP hw hK hc i ac s σ H E I hf st hg;subst hP hw hK;obtain⟨hd,hi⟩:=hg;obtain⟨go,ob⟩:=I.hok d _ hd;obtain⟨z,lo,vs,rel,o',es',ep',g',xo,hdat,hk,hp,hn⟩:=(show ObjOk X.prog X.w H s.heap d (.dK ah)from ob);rw[go]at g';cases g';rw[ho]at hdat;cases hdat;have hlen:vs.length=ah.length:=rel.length.symm;have at':s.heap.DictAt (kB X.prog X.w) d vs ep:=⟨o,ens,go,xo,ho,hk,hp,hn⟩;obtain⟨⟨k,x⟩,hkx⟩:∃kx,ah[i]? = some kx:=⟨ah[i],by simp [hi]⟩;obtain⟨u,hu,ru⟩:=SL rel hkx;obtain⟨ok,ov,st⟩:=st;rw[<-hlen]at st;refine wpAny_pyNext_items_item st at' hu λkey g hkey out new _ kk=>⟨_,rfl, ?_⟩;refine wpAny_letOwnedTupleGo_items out λg2 z2 sb=>?_;have il:it<s.heap.objs.size:=nV st;have fr:H s.heap.objs.size=none:=I.hok.fresh uX ;have fp:∀b∈[it],FpOk X ac (upd H s.heap.objs.size (.tup [kV k,x])) b:=λb hb=>by
   have e:b=it:=by simpa using hb
   subst e;exact⟨by rw[jI (nX il)];exact(hf b hb).1,(hf b hb).2⟩
  have I1:Inv X ac σ (upd H s.heap.objs.size (.tup [kV k,x])) { s with heap:=s.heap.push { cls:=.type "tuple",data:=.seq #[key,u] } } :=I.laid (t':=s.toks) (λb u e=>gJ _ e) uX ⟨by simp [sizeLine],[key,u],.cons (IQ hkey) (.cons ru .nil),⟨_,gY _ rfl,rfl,_,rfl⟩,.of (gY _ rfl) rfl⟩;have I2:Inv X ac σ (upd H s.heap.objs.size (.tup [kV k,x])) { s with heap:=g2 } :=by
   refine Inv.turnedL (s:={ s with heap:=s.heap.push { cls:=.type "tuple",data:=.seq #[key,u] } }) (h':=g2) (t':=s.toks) I1 fp λb o hb y=>?_;have hb:b≠it:=λz=>hb (by simp [z]);rcases Heap.get?_push_cases y with⟨e1,e2⟩ | e1
   ·rw[e1,e2];exact sb.extBut _ _ (Nat.ne_of_gt il) new
   ·exact sb.extBut _ _ hb (kk b o hb e1)
  rw[hlen]at z2;exact⟨.ref s.heap.objs.size,_,I2,rfl,⟨_,k,x,fr,rfl,hkx,rfl⟩,⟨_,_,z2⟩,λb hb=>(fp b hb).1⟩
 done:=by
  intro X hP hw hK hc i ac s σ H E I hf st hg;subst hP hw hK;obtain⟨hd,hi⟩:=hg;obtain⟨go,ob⟩:=I.hok d _ hd;obtain⟨z,lo,vs,rel,o',es',ep',g',xo,hdat,hk,hp,hn⟩:=(show ObjOk X.prog X.w H s.heap d (.dK ah)from ob);rw[go]at g';cases g';rw[ho]at hdat;cases hdat;have hlen:vs.length=ah.length:=rel.length.symm;have at':s.heap.DictAt (kB X.prog X.w) d vs ep:=⟨o,ens,go,xo,ho,hk,hp,hn⟩;obtain⟨ok,ov,st⟩:=st;rw[<-hlen]at st;exact wpAny_pyNext_items_end (I.ok.hd hc) st at' (by rw[gO];omega) λg eb=>⟨rfl,Inv.turnedL (t':=s.toks) I hf λb o hb y=>eb b o (λz=>hb (by simp [z])) y⟩
 self:=λ_ _ _ _ _ st h=>by
  obtain⟨ok,ov,st⟩:=st;exact PySem.W.kcp_self st h
section
variable{X:Cx}
theorem UI{E:Value->Shared->Prop}{s:Shared}{Q:Value->Shared->Prop}(lo:(d==sysModules)=false)(hm:s.heap.DictOf (kB prog w) d vs)(q:Q (.ref s.heap.objs.size) { s with heap:=s.heap.push { cls:=.type "dict_items",data:=.fields #[.ref d] } }) :
  wpAny #[7] A (call (.builtin "dict.items") [.ref d]) Q E s:=
 call_meetsIn PySem.F.slot_dict_items hm.typeIs PySem.F.entry_dict_items (PySem.F.args_dict_items_1 _) (meets_dict_items (kB prog w) d lo) ⟨⟨vs,hm⟩,q⟩
def iItems(te:TE):TI:=fun σ H R=>te σ H λv H1=>∃d o ah,v=.ref d/\H1 d=some (.frz o (.dK ah))/\R (Iti d o ah) H1
theorem xZ{x1}{apos cpos:Pos}(ho:PE X o to)(hbase:attributeBase o "items" X.env (eval o X.env)=eval o X.env:=by rfl)(hline:(apos.endLine==cpos.line)=true:=by rfl) :
  PI X (.Tuple es x1 tp) (.Call (.Attribute o "items" apos) [] [] cpos) (iItems to):=by
 intro ac s σ H R I h;refine wpAny_Call_method0_late hbase hline (thn (ho ac s σ H _ I h) λv s1 ⟨x,H1,I1,r1,q1⟩=>?_);obtain⟨d,ob,ah,rfl,hd,q⟩:=q1;cases r1;obtain⟨go,ok⟩:=I1.hok d _ hd;obtain⟨z,lo,vs,rel,dd⟩:=(show ObjOk X.prog X.w H1 s1.heap d (.dK ah)from ok);obtain⟨o',es',ep,g',xo,hdat,hk,hp,hn⟩:=id dd;rw[go]at g';cases g';have hlen:vs.length=ah.length:=rel.length.symm;refine⟨"dict","dict.items",PySem.F.plainAttrs_dict,PySem.F.slot_dict_items,PySem.F.type_dict_items,⟨_,go,xo.1⟩,(λa e=>by cases e;exact⟨_,go,xo.2.1⟩),Calls.callWith_builtin rfl (PySem.evalArgs_none ?_)⟩;refine UI lo dd ?_;have at1:(s1.heap.push { cls:=.type "dict_items",data:=.fields #[.ref d] }).DictAt (kB X.prog X.w) d vs ep:=⟨ob,es',gJ _ go,xo,hdat,hk,hp,hn⟩;refine wpAny_pyIter_items (s:={ s1 with heap:=s1.heap.push { cls:=.type "dict_items",data:=.fields #[.ref d] } }) ⟨_,gY _ rfl,rfl,rfl⟩ at1 ?_;have psz:(s1.heap.push { cls:=.type "dict_items",data:=.fields #[.ref d] }).objs.size=s1.heap.objs.size+1:=nN ..;refine⟨_,[(s1.heap.push { cls:=.type "dict_items",data:=.fields #[.ref d] }).objs.size],_,_,H1,rfl,I1.kept (t':=s1.toks) λb o e=>gJ _ (gJ _ e),ND d _ hdat,⟨_,_,by rw[<-hlen];exact gY _ rfl⟩,λb hb=>?_,q⟩;have e:b=(s1.heap.push { cls:=.type "dict_items",data:=.fields #[.ref d] }).objs.size:=by simpa using hb
 have hb':s1.heap.objs.size<=b:=by rw[e,psz];exact Nat.le_succ _
 exact I1.fpOk hb' (I1.hok.fresh hb')
end
theorem wQ{d:Addr}{o:Obj}{ah:List (Key×V)}{g:TG}{tb:TS}{D:Ends}{σ:L2.St}{H:Hp}(Pv:Nat->L2.St->Hp->Prop)(h0:Pv 0 σ H)(hl:∀i σ H,i<=ah.length->Pv i σ H->H d=some (.frz o (.dK ah)))
  (hs:∀i k x p σ H,ah[i]? = some (k,x)->H p=none->Pv i σ H->g (.ref p) σ (upd H p (.tup [kV k,x])) fun σ2 H2=>tb { D with nx:=Pv (i+1),ct:=Pv (i+1),bk:=D.nx } σ2 H2) (hd:∀σ H,Pv ah.length σ H->D.nx σ H) :
  ∃W:Nat->Nat->L2.St->Hp->Prop,(∃m,W 0 m σ H)/\∀i m σ H,W i m σ H->
   ((Iti d o ah).stop i H/\D.nx σ H)∨((Iti d o ah).go i H/\∃N:L2.St->Hp->Prop,(∀σ' H',N σ' H'->∃m',m'<m/\W (i+1) m' σ' H')/\∀x H',(Iti d o ah).yld i H x H'->g x σ H' fun σ2 H2=>tb { D with nx:=N,ct:=N,bk:=D.nx } σ2 H2):=by
 refine⟨λi m σ H=>m=ah.length-i/\i<=ah.length/\Pv i σ H,⟨ah.length,by simp,tL _,h0⟩, ?_⟩;rintro i m σ H ⟨rfl,hi,p⟩;have q:=hl i σ H hi p;by_cases hlt:i<ah.length
 ·refine .inr ⟨⟨q,hlt⟩,Pv (i+1),fun σ' H' p'=>⟨ah.length-(i+1),by omega,rfl,hlt,p'⟩,λv H' y=>?_⟩;obtain⟨r,k,x,hr,rfl,hx,rfl⟩:=y;exact hs i k x r σ H hx hr p
 ·have ei:i=ah.length:=by omega
  subst ei;exact .inl ⟨⟨q,rfl⟩,hd σ H p⟩
section
variable{X:Cx}{ac:List #[17]}{σ:L2.St}{H:Hp}{s:Shared}
theorem Inv.freezeK(I:Inv X ac σ H s)(e:H d=some (.dK ah)):∃o,Inv X ac σ (upd H d (.frz o (.dK ah))) s:=by
 have ob:ObjOk X.prog X.w H s.heap d (.dK ah):=I.hok d _ e;obtain⟨z,lo,xs,rel,o,es,ep,ho,r⟩:=id ob;refine⟨o, ?_⟩;have ne:∀{b:Addr} {u:HO},H b=some u->(∀k,u≠.dK k)->upd H d (.frz o (.dK ah)) b=some u:=fun {b u} q n=>by
  rw[jI (λy=>by rw[y,e]at q;cases q;exact n _ rfl)];exact q
 refine I.step (h':=s.heap) (g':=s.gens) (t':=s.toks) (d':=s.drawn) (ch:=[]) (λ_ y=>nomatch y) (λb u _ _ _ q _=>q) (λb u _ _ _ q _=>⟨u.slots,q⟩) (λb u _ _ q=>?_) (λb u _ q=>⟨u,q⟩) (λb xs q=>ne q λ_ y=>by cases y) (λb u v q=>ne q λ_ y=>by cases y)
  (λb ps q=>⟨#[],by rw[ne q λ_ y=>by cases y];simp⟩) (λm hm=>hm) ?_ I.bare
 ·rw[jI (λy=>by rw[y,e]at q;cases q)];exact q
 ·intro b u q;by_cases hb:b=d
  ·subst hb;rw[jE]at q;cases q;exact⟨ho,ob.stay (λc v _ q=>q) (λc q=>ne q λ_ y=>by cases y) λc xs q=>ne q λ_ y=>by cases y⟩
  ·rw[jI hb]at q;exact(I.hok b u q).stay (λc v _ q=>q) (λc q=>ne q λ_ y=>by cases y) λc xs q=>ne q λ_ y=>by cases y
end
section
variable{X:Cx}
def tFrzK(te:TE):TE:=fun σ H Q=>te σ H λv H1=>∃d ah,v=.ref d/\H1 d=some (.dK ah)/\∀o,Q v (upd H1 d (.frz o (.dK ah)))
theorem IU(h:PE X e te):PE X e (tFrzK te):=by
 intro ac s σ H Q I hq;refine thn (h ac s σ H _ I hq) λu s1 ⟨x,H1,I1,r1,q1⟩=>?_;obtain⟨d,ah,rfl,hd,k⟩:=q1;obtain⟨o,I2⟩:=Inv.freezeK I1 hd;exact⟨.ref d,_,I2,r1,k o⟩
end
open LwD
section
variable{X:Cx}
def kL(ah:List (Key×V)):List Int:=ah.map λp=>match p.1 with | .inl i=>i | .inr _=>0
def rSortK:List V->Hp->VK->Prop:=λxs H Q=>∃(a:Addr) (ah:List (Key×V)),xs=[.ref a]/\Rd H a (.dK ah)/\ah.length<64/\(∀p∈ah,∃i:Int,p.1=.inl i)/\
 ∀ns:List Int,ns.Perm (kL ah)->ns.Pairwise (λx y=>x<=y)->New H (.lst #[15]) Q
theorem GV :∀{es:List DictEntry} {vs:List (Key×Value)},Pairs (kB prog w) es vs->∀(j:Nat) (h:j<es.length),∃k u,vs[j]? = some (k,u)/\(kB prog w).is k es[j].key=true:=by
 intro es vs h;induction h with
 | nil=>intro j h;exact absurd h (Nat.not_lt_zero _)
 | cons h1 h2 t ih=>
  intro j hj;cases j with
  | zero=>exact⟨_,_,rfl,h1⟩
  | succ j=>exact ih j (by simpa using hj)
theorem DC:∀{xs:List V} {us:List Value},xs.length=us.length->(∀(j:Nat) (x:V) (u:Value),xs[j]? = some x->us[j]? = some u->RelV x u)->Vals xs us
 | [],[],_,_=>.nil
 | [],_::_,h,_=>by simp at h
 | _::_,[],h,_=>by simp at h
 | x::xs,u::us,h,f=>.cons (f 0 x u rfl rfl) (DC (by simpa using h) λj y v hy hv=>f (j+1) y v (by simpa using hy) (by simpa using hv))
theorem OO(hc:X.calm=true):CallR X (.builtin "sorted") rSortK:=by
 intro ac s σ H xs us Q I r h;obtain⟨a,ah,rfl,ha,h64,hk,q⟩:=h;obtain⟨u,rfl,ru⟩:=qW r;cases ru;obtain⟨z,lo,ks,rel,dd⟩:=AS I.hok ha;obtain⟨o,es,ep,hd1,hd2,hd3,he,hp,hn⟩:=id dd;have raw:Raw s.heap a es ep:=⟨o,hd1,hd2,hd3⟩;have esz:es.size=ah.length:=by rw[rel.length,<-hp.length];simp
 obtain⟨m,F⟩:=I.fr;refine PySem.W.kdu_sorted (QR lo) (I.ok.hd hc) F LS raw (by rw[esz];exact z) λD h' tk vs F' N' lt hlen hP=>?_;have vl:vs.length=ah.length:=by rw[hlen,esz]
 have kl:(kL ah).length=ah.length:=by unfold kL;rw[mY]
 have vv:Vals ((kL ah).map V.int) vs:=by
  refine DC (by rw[mY,kl,vl]) λj x u hx hu=>?_;obtain⟨hj,e⟩:=hP j u hu;have hj':j<es.toList.length:=by simpa using hj
  obtain⟨k,u',h1,h2⟩:=GV hp j hj';have jk:j<ah.length:=by rw[<-esz];exact hj
  obtain⟨u2,g1,_⟩:=SL rel (i:=j) (k:=ah[j].1) (x:=ah[j].2) (by rw[gG jk]);rw[h1]at g1;cases g1;obtain⟨i,hi⟩:=hk ah[j] (mT jk);have ex:x=.int i:=by
   unfold kL at hx;rw[tG,mG,gG jk]at hx;have hx:=Option.some.inj hx;rw[<-hx];show V.int (match ah[j].1 with | .inl i=>i | .inr _=>0)=_;rw[hi]
  rw[hi]at h2;have r2:=IQ h2;rw[ex,e];have r2:RelV (V.int i) (es.toList[j]).key:=r2;simpa using r2
 have ia:IntsAre vs (kL ah):=kY vv;have hd:∀q∈yO X.base s.heap X.env.locals,q.1≠D:=λq hq=>nX (lt q hq);refine PySem.W.ksk_lsort (its:=vs.toArray) (vs:=vs) (ns:=kL ah) F' N' (λo=>.head hd) #[14] ia (by rw[kl];exact h64) λvs' ns' c h3 F3 N3 ia' hl hpm hpw _=>?_;have rv:Vals (ns'.map V.int) vs':=by
  have e1:=qQ ia';refine DC (by rw[mY,e1]) λj x u hx hu=>?_;obtain⟨hj,e⟩:=gE.mp hu;obtain⟨n,t,g1,g2⟩:=vU ia' hj;rw[mG,g1]at hx;cases hx;exact⟨t,by rw[<-e,g2]⟩
 have nb:=BS (ho:=.lst (ns'.map V.int)) (tk:=tk) I F F3 N3 lt λe=>⟨by rw[mY,hl,kl];exact z,_,c,rv,e⟩;exact⟨.ref D,_,nb.2,rfl,(q ns' hpm hpw).at nb.1⟩
end
end Lw
namespace Lw
open PySem PySem.Spec PyProof.Rows L2
section
variable{X:Cx}
def tFrzB(te:TE):TE:=fun σ H Q=>te σ H λv H1=>∃d ah,v=.ref d/\Rd H1 d (.dK ah)/\∀(o:Obj) (H2:Hp),H2 d=some (.frz o (.dK ah))->But d H1 H2->(∀c,H2 c=none->H1 c=none)->Q v H2
theorem CM(h:PE X e te):PE X e (tFrzB te):=by
 intro ac s σ H Q I hq;refine thn (h ac s σ H _ I hq) λu s1 ⟨v,H1,I1,r,d,ah,ev,rd,q⟩=>?_;rcases rd with e | ⟨o,e⟩
 ·obtain⟨o,I2⟩:=Inv.freezeK I1 e;refine⟨v,_,I2,r,q o _ jE (λc u h n=>by rw[jI n];exact h) λc n=>?_⟩;by_cases z:c=d
  ·rw[z,jE]at n;cases n
  ·rw[jI z]at n;exact n
 ·exact⟨v,H1,I1,r,q o H1 e (λ_ _ h _=>h) λ_ n=>n⟩
end
def Itw(d:Addr)(o:Obj)(ah:List (Key×V)):It:=
 ⟨λi H=>H d=some (.frz o (.dK ah))/\i<ah.length,
  λi H v H'=>H'=H/\∃k,ah[i]? = some (k,v),
  λi H=>H d=some (.frz o (.dK ah))/\i=ah.length⟩
theorem TZ{P:Program}{w:World}{K:tV}{tg:Expr}(d it:Addr){o:Obj}{ens:Array DictEntry}{ep:Nat}{ah:List (Key×V)}(ho:o.data=.dict ens ep):Turn P w K tg (Itw d o ah) [it] it (λi h=>h.IsValIter it d i ah.length ep) where
 mem:=by simp
 obj:=λi h st b hb=>by
  have e:b=it:=by simpa using hb
  subst e;obtain⟨o,e,_,dd⟩:=st;exact⟨_,e,λv q=>by rw[dd]at q;cases q⟩
 keep:=λi h h' st k=>st.at λo e=>k it #[14] o e
 item:=by
  intro X hP hw hK hc i ac s σ H E I hf st hg;subst hP hw hK;obtain⟨hd,hi⟩:=hg;obtain⟨go,ob⟩:=I.hok d _ hd;obtain⟨z,lo,vs,rel,o',es',ep',g',xo,hdat,hk,hp,hn⟩:=(show ObjOk X.prog X.w H s.heap d (.dK ah)from ob);rw[go]at g';cases g';rw[ho]at hdat;cases hdat;have hlen:vs.length=ah.length:=rel.length.symm;have at':s.heap.DictAt (kB X.prog X.w) d vs ep:=⟨o,ens,go,xo,ho,hk,hp,hn⟩;obtain⟨⟨k,x⟩,hkx⟩:∃kx,ah[i]? = some kx:=⟨ah[i],by simp [hi]⟩;obtain⟨u,hu,ru⟩:=SL rel hkx;rw[<-hlen]at st;refine wpAny_pyNext_values_item st at' hu λh' st' sb=>⟨_,rfl, ?_⟩;obtain⟨o9,e9,c9,d9⟩:=id st';refine HJ (s:={ s with heap:=h' }) e9 c9 d9 #[0] ?_;rw[hlen]at st';exact⟨x,H,Inv.turnedL (t':=s.toks) I hf λb o hb y=>sb.extBut b o (λz=>hb (by simp [z])) y,ru,⟨rfl,k,hkx⟩,st',λb hb=>(hf b hb).1⟩
 done:=by
  intro X hP hw hK hc i ac s σ H E I hf st hg;subst hP hw hK;obtain⟨hd,hi⟩:=hg;obtain⟨go,ob⟩:=I.hok d _ hd;obtain⟨z,lo,vs,rel,o',es',ep',g',xo,hdat,hk,hp,hn⟩:=(show ObjOk X.prog X.w H s.heap d (.dK ah)from ob);rw[go]at g';cases g';rw[ho]at hdat;cases hdat;have hlen:vs.length=ah.length:=rel.length.symm;have at':s.heap.DictAt (kB X.prog X.w) d vs ep:=⟨o,ens,go,xo,ho,hk,hp,hn⟩;rw[<-hlen]at st;exact wpAny_pyNext_values_end (I.ok.hd hc) st at' (by rw[gO];omega) λg eb=>⟨rfl,Inv.turnedL (t':=s.toks) I hf λb o hb y=>eb b o (λz=>hb (by simp [z])) y⟩
 self:=λ_ _ _ _ _ st h=>wpAny_pyIter_valiter st h
section
variable{X:Cx}
theorem UH{E:Value->Shared->Prop}{s:Shared}{Q:Value->Shared->Prop}(lo:(d==sysModules)=false)(hm:s.heap.DictOf (kB prog w) d vs)(q:Q (.ref s.heap.objs.size) { s with heap:=s.heap.push { cls:=.type "dict_values",data:=.fields #[.ref d] } }) :
  wpAny #[7] A (call (.builtin "dict.values") [.ref d]) Q E s:=
 call_meetsIn PySem.F.slot_dict_values hm.typeIs PySem.F.entry_dict_values (PySem.F.args_dict_values_1 _) (meets_dict_values (kB prog w) d lo) ⟨⟨vs,hm⟩,q⟩
def iVals(te:TE):TI:=fun σ H R=>te σ H λv H1=>∃d o ah,v=.ref d/\H1 d=some (.frz o (.dK ah))/\R (Itw d o ah) H1
theorem pi_vals{apos cpos:Pos}(ho:PE X o to)(hbase:attributeBase o "values" X.env (eval o X.env)=eval o X.env:=by rfl)(hline:(apos.endLine==cpos.line)=true:=by rfl) :
  PI X tg (.Call (.Attribute o "values" apos) [] [] cpos) (iVals to):=by
 intro ac s σ H R I h;refine wpAny_Call_method0_late hbase hline (thn (ho ac s σ H _ I h) λv s1 ⟨x,H1,I1,r1,q1⟩=>?_);obtain⟨d,ob,ah,rfl,hd,q⟩:=q1;cases r1;obtain⟨go,ok⟩:=I1.hok d _ hd;obtain⟨z,lo,vs,rel,dd⟩:=(show ObjOk X.prog X.w H1 s1.heap d (.dK ah)from ok);obtain⟨o',es',ep,g',xo,hdat,hk,hp,hn⟩:=id dd;rw[go]at g';cases g';have hlen:vs.length=ah.length:=rel.length.symm;refine⟨"dict","dict.values",PySem.F.plainAttrs_dict,PySem.F.slot_dict_values,PySem.F.type_dict_values,⟨_,go,xo.1⟩,(λa e=>by cases e;exact⟨_,go,xo.2.1⟩),Calls.callWith_builtin rfl (PySem.evalArgs_none ?_)⟩;refine UH lo dd ?_;have at1:(s1.heap.push { cls:=.type "dict_values",data:=.fields #[.ref d] }).DictAt (kB X.prog X.w) d vs ep:=⟨ob,es',gJ _ go,xo,hdat,hk,hp,hn⟩;refine wpAny_pyIter_values (s:={ s1 with heap:=s1.heap.push { cls:=.type "dict_values",data:=.fields #[.ref d] } }) ⟨_,gY _ rfl,rfl,rfl⟩ at1 ?_;have psz:(s1.heap.push { cls:=.type "dict_values",data:=.fields #[.ref d] }).objs.size=s1.heap.objs.size+1:=nN ..;refine⟨_,[(s1.heap.push { cls:=.type "dict_values",data:=.fields #[.ref d] }).objs.size],_,_,H1,rfl,I1.kept (t':=s1.toks) λb o e=>gJ _ (gJ _ e),TZ d _ hdat,by rw[<-hlen];exact⟨_,gY _ rfl,rfl,rfl⟩,λb hb=>?_,q⟩;have e:b=(s1.heap.push { cls:=.type "dict_values",data:=.fields #[.ref d] }).objs.size:=by simpa using hb
 have hb':s1.heap.objs.size<=b:=by rw[e,psz];exact Nat.le_succ _
 exact I1.fpOk hb' (I1.hok.fresh hb')
end
theorem for_vals{d:Addr}{o:Obj}{ah:List (Key×V)}{g:TG}{tb:TS}{D:Ends}{σ:L2.St}{H:Hp}(Pv:Nat->L2.St->Hp->Prop)(h0:Pv 0 σ H)(hl:∀i σ H,i<=ah.length->Pv i σ H->H d=some (.frz o (.dK ah)))
  (hs:∀i k x σ H,ah[i]? = some (k,x)->Pv i σ H->g x σ H fun σ2 H2=>tb { D with nx:=Pv (i+1),ct:=Pv (i+1),bk:=D.nx } σ2 H2) (hd:∀σ H,Pv ah.length σ H->D.nx σ H) :
  ∃W:Nat->Nat->L2.St->Hp->Prop,(∃m,W 0 m σ H)/\∀i m σ H,W i m σ H->
   ((Itw d o ah).stop i H/\D.nx σ H)∨((Itw d o ah).go i H/\∃N:L2.St->Hp->Prop,(∀σ' H',N σ' H'->∃m',m'<m/\W (i+1) m' σ' H')/\∀x H',(Itw d o ah).yld i H x H'->g x σ H' fun σ2 H2=>tb { D with nx:=N,ct:=N,bk:=D.nx } σ2 H2):=by
 refine⟨λi m σ H=>m=ah.length-i/\i<=ah.length/\Pv i σ H,⟨ah.length,by simp,tL _,h0⟩, ?_⟩;rintro i m σ H ⟨rfl,hi,p⟩;have q:=hl i σ H hi p;by_cases hlt:i<ah.length
 ·refine .inr ⟨⟨q,hlt⟩,Pv (i+1),fun σ' H' p'=>⟨ah.length-(i+1),by omega,rfl,hlt,p'⟩,λv H' y=>?_⟩;obtain⟨rfl,k,hx⟩:=y;exact hs i k v σ H' hx p
 ·have ei:i=ah.length:=by omega
  subst ei;exact .inl ⟨⟨q,rfl⟩,hd σ H p⟩
def XF(td ty tx:TE):TE:=fun σ H Q=>td σ H λx H1=>∃a,x=.ref a/\IsD H1 a/\ty σ H1 λy H2=>tx σ H2 λz H3=>∃ah k,H3 a=some (.dK ah)/\y=kV k/\ah.length<sizeLine/\(∀v,kK ah k=some v->Q v H3)/\(kK ah k=none->Q z (upd H3 a (.dK (qD ah k z))))
section
variable{X:Cx}{o e f:Expr}{td ty tx:TE}{apos cpos:Pos}
theorem d_setdef{ah:List (Key×V)}{E:Value->Shared->Prop}{Q:Value->Shared->Prop}(I:Inv X ac σ H s)(ea:H a=some (.dK ah))(l:ah.length<sizeLine)(ry:RelV (kV k) u)(rz:RelV z r)
  (h1:∀v w' s',kK ah k=some v->Inv X ac σ H s'->RelV v w'->Q w' s') (h2:kK ah k=none->∀s',Inv X ac σ (upd H a (.dK (qD ah k z))) s'->Q r s'):wpAny #[4] A (call (.builtin "dict.setdefault") [.ref a,u,r]) Q E s:=by
 obtain⟨zl,hd,vs,rel,dd⟩:=SX I.hok ea;have hz:vs.length<=sizeLine:=by rw[<-rel.length];exact zl
 have hl:(qD ah k z).length<=sizeLine:=by have:=vO ah k z;omega
 have rv:=rel.val k;refine call_meetsIn PySem.F.slot_dict_setdefault dd.typeIs PySem.F.entry_dict_setdefault (PySem.F.args_dict_setdefault_3 _ _ _) (kt_meets_setdefault (kB X.prog X.w) a (BU ry) hd r) ⟨vs,dd,hz,λv hv=>?_,λhn h' dd' hs=>?_⟩
 ·cases q:kK ah k with
  | none=>rw[q,hv]at rv;exact absurd rv (λz=>by cases z)
  | some v'=>
   rw[q,hv]at rv;exact h1 v' v _ q (I.tok _) rv
 ·cases q:kK ah k with
  | some v'=>rw[q,hn]at rv;exact absurd rv (λz=>by cases z)
  | none=>
   have he:∃q,h'.get? a=some q:=let ⟨q,_,_,hq,_⟩:=dd';⟨q,hq⟩;exact h2 q _ (wT I (by rw[ea];exact True.intro) hs he (FC hl hd (rel.put k rz) dd'))
theorem LJ(ho:PE X o td)(he:PE X e ty)(hf:PE X f tx)(m:M2 X o "setdefault" apos e f cpos):PE X (.Call (.Attribute o "setdefault" apos) [e,f] [] cpos) (XF td ty tx):=by
 intro ac s σ H Q I h;refine wpAny_Call_method m.base m.few m.line PySem.F.plainAttrs_dict PySem.F.slot_dict_setdefault PySem.F.type_dict_setdefault (thn (ho ac s σ H _ I h) λu s1 ⟨x,H1,I1,rx,a,ex,d,q1⟩=>?_);subst ex;obtain rfl:u=Value.ref a:=rx;obtain⟨t1,t2,_⟩:=OF I1 d;refine⟨t1,t2, ?_⟩;rw[m.trees];refine Calls.callWith_builtin rfl (Calls.evalArgs_plain (Calls.spliced_cons (thn (he ac s1 σ H1 _ I1 q1) λiv s2 ⟨y,H2,I2,ry,q2⟩=>
  Calls.spliced_cons (thn (hf ac s2 σ H2 _ I2 q2) λfv s3 ⟨z,H3,I3,rz,ah,k,ea,ey,lz,q3,q4⟩=>Calls.spliced_nil ?_))))
 subst ey;exact d_setdef I3 ea lz ry rz (λv w' s4 l I4 rw'=>⟨v,_,I4,rw',q3 v l⟩) λn s4 I4=>⟨z,_,I4,rz,q4 n⟩
end
open LwD
section
variable{X:Cx}
def rMaxK(d:Int):List V->Hp->VK->Prop:=λxs H Q=>∃(a:Addr) (ah:List (Key×V)),xs=[.ref a]/\Rd H a (.dK ah)/\(∀p∈ah,∃i:Int,p.1=.inl i)/\(ah=[]->Q (.int d) H)/\∀m,m∈kL ah->(∀x∈kL ah,x<=m)->Q (.int m) H
theorem VY{d:Int}(hc:X.calm=true)(I:Inv X ac σ H s)(ha:Rd H a (.dK ah))(hk:∀p∈ah,∃i:Int,p.1=.inl i)
  (q0:ah=[]->Q (.int d) H) (q1:∀m,m∈kL ah->(∀x∈kL ah,x<=m)->Q (.int m) H):wpAny #[4] X.A (call (.builtin "max") [.ref a] [(Str.ofString "default",.int d t)]) (EP X ac σ Q) X.xe s:=by
 obtain⟨z,lo,ks,rel,dd⟩:=AS I.hok ha;obtain⟨o,es,ep,hd1,hd2,hd3,he,hp,hn⟩:=id dd;have raw:Raw s.heap a es ep:=⟨o,hd1,hd2,hd3⟩;have esz:es.size=ah.length:=by rw[rel.length,<-hp.length];simp
 have al:a<s.heap.objs.size:=raw.lt;have kl:(kL ah).length=ah.length:=by unfold kL;rw[mY]
 generalize hns:kL ah=ns at q1 kl;have key:∀(j:Nat) (h:j<es.size),∃t,es[j].key=.int (ns.getD j 0) t:=λj h=>by
  have hj':j<es.toList.length:=by simpa using h
  obtain⟨k,u',h1,h2⟩:=GV hp j hj';have jk:j<ah.length:=by rw[<-esz];exact h
  obtain⟨u2,g1,_⟩:=SL rel (i:=j) (k:=ah[j].1) (x:=ah[j].2) (by rw[gG jk]);rw[h1]at g1;cases g1;obtain⟨i,hi⟩:=hk ah[j] (mT jk);rw[hi]at h2;have r2:RelV (V.int i) (es.toList[j]).key:=IQ h2;have en:ns.getD j 0=i:=by
   rw[<-hns];unfold kL;rw[gB,mG,gG jk];show(match ah[j].1 with | .inl i=>i | .inr _=>0)=i;rw[hi]
  rw[en];obtain⟨t,ht⟩:=r2;exact⟨t,by simpa using ht⟩
 refine LwMx.mx_call (LA lo raw ?_);refine⟨s.heap.objs.size,_,_,_,_,_,λi j=>decide (ns.getD i 0>ns.getD j 0),rfl,GF (show X.A.in1.handled=none from I.ok.hd hc) (nX al),⟨⟨_,gY _ rfl,rfl,rfl⟩,raw.keep λo e=>gJ _ e⟩, ?_, ?_, ?_, ?_⟩
 ·intro b hb;show b<(s.heap.push _).objs.size;rw[nN];simp only[nP,mQ,or_false]at hb;rcases hb with rfl | rfl
  ·exact mW _
  ·exact Nat.lt_succ_of_lt al
 ·refine CmpOf.ints_gt (λi=>ns.getD i 0) λi v hv=>?_;obtain⟨hi,e⟩:=hv;obtain⟨t,ht⟩:=key i hi;exact⟨t,by rw[e,ht]⟩
 ·intro zz h' tk k;have z':ah=[]:=List.length_eq_zero_iff.mp #[1];refine⟨.int d,H,I.kept (t':=tk) (λb o e=>k b o ?_ (gJ _ e)),⟨t,rfl⟩,q0 z'⟩;simp;exact nX (nV e)
 ·intro zz v h' tk hv k;obtain⟨b1,b2⟩:=LwMx.best_is ns (es.size-1) #[1];generalize argBest (λi j=>decide (ns.getD i 0>ns.getD j 0)) (es.size-1)=i at hv b1 b2;obtain⟨hi,e⟩:=hv;obtain⟨t,ht⟩:=key i hi;have il:i<ns.length:=by omega
  have gi:ns[i]? = some (ns.getD i 0):=by rw[gB,gG il];rfl
  refine⟨.int (ns.getD i 0),H,I.kept (t':=tk) (λb o e=>k b o ?_ (gJ _ e)),⟨t,by rw[e,ht]⟩,q1 _ (gQ gi) λx hx=>?_⟩
  ·simp;exact nX (nV e)
  ·obtain⟨j,hj⟩:=gP.mp hx;have hjl:=(gE.mp hj).1;have:=b2 j #[1];rw[gB (l:=ns) (i:=j),hj]at this;exact this
variable{p pos kpos:Pos}{e e2:Expr}{es:List Expr}{t tk:TA}
def tMaxK(t tk:TA):TE:=fun σ H Q=>t σ H λvs H1=>tk σ H1 λzs H2=>∃d,zs=[.int d]/\rMaxK d vs H2 Q
theorem pe_maxK(hc:X.calm=true)(hg:Gl X "max")(hm:X.mg "max" = none)(ha:PA X [e] t)(hk:PK X [⟨some "default",e2,kpos⟩] tk)
  (hall:(backToKw pos (keywordEach [⟨some "default",e2,kpos⟩] X.env)).all (·.1.isSome)=true:=by rfl) (hks:(backToKw pos (keywordEach [⟨some "default",e2,kpos⟩] X.env)).filterMap (·.1)=[Str.ofString "default"]:=by rfl)
  (he:starEach [e] X.env=[(false,eval e X.env)]:=by rfl)
  (hpl:((backTo pos (starEach [e] X.env)).any (·.1)||(backToKw pos (keywordEach [⟨some "default",e2,kpos⟩] X.env)).any (·.1.isNone))=false:=by rfl) :
  PE X (.Call (.Name "max" p) [e] [⟨some "default",e2,kpos⟩] pos) (tMaxK t tk):=by
 intro ac s σ H Q I h;refine wpAny_Call_Name_kw (yP I hg hm (show bootBuiltins "max" = some (.builtin "max") by decide +kernel) ?_ #[0] #[0]);refine PySem.W.callWith_of (P:=λ_=>True) hpl (λ_ _=>⟨_,.inr (.inl rfl),PySem.W.Looks.of_pure rfl⟩) (evalArgs_kw2 hall (thn (ha pos ac s σ H _ I h) λus s1 ⟨vs,H1,I1,r,q⟩=>?_) he);refine thn (hk pos ac s1 σ H1 _ I1 q) λws s2 ⟨zs,H2,I2,rz,q2⟩=>⟨trivial, ?_⟩;rw[hks];obtain⟨d,rfl,a,ah,rfl,ra,hk',q0,q1⟩:=q2;obtain⟨u,rfl,ru⟩:=qW r;cases ru;obtain⟨u,rfl,⟨t,rfl⟩⟩:=qW rz;exact VY hc I2 ra hk' q0 q1
end
end Lw
namespace L2
open PySem PySem.Spec PyProof.Rows
section
variable{prog:Program}{w:World}{A:Around}{E:Value->Shared->Prop}{s:Shared}
theorem UK{n:Int}{Q:Value->Shared->Prop}(hr:IsRange s.heap r 0 n 1 t u v)(h0:0<=n)(h1:n<2^62)
  (h:Q (.ref s.heap.objs.size) { s with heap:=s.heap.push { cls:=.type "range_iterator",data:=.fields #[rawInt (n-1),rawInt n,rawInt (-1)] } }) :
  wpAny #[7] A (call (.builtin "range.__reversed__") [.ref r]) Q E s:=by
 have hT:s.TypeIs (.ref r) "range":=⟨_,hr,rfl⟩;refine wpAny_call_entry F.slot_range_reversed hT F.entry_range_reversed ?_ (F.args_range_reversed_1 _);unfold Builtin.«range.__reversed__»;refine tQ (wpAny_of_eq (a:=Value.ref r) rfl ?_);have rf:∀{Q':Int×Int×Int->Shared->Prop} {E':Value->Shared->Prop},Q' (0,n,1) s->wpAny #[7] A.in1 (Builtin.Range.rangeFields (.ref r)) Q' E' s:=fun {Q' E'} hq=>by
  unfold Builtin.Range.rangeFields;refine tQ (wpAny_field hr rfl (x:=.int 0 t) rfl (tQ (tR ?_)));refine tQ (wpAny_field hr rfl (x:=.int n u) rfl (tQ (tR ?_)));refine tQ (wpAny_field hr rfl (x:=.int 1 v) rfl (tQ (tR ?_)));exact tR hq
 refine tQ (rf ?_);have sz:Builtin.Range.rangeSize 0 n 1=n:=by rw[rangeSize_one];split<;>omega
 have sm:(Builtin.Range.rangeFitsLong 0&&Builtin.Range.rangeFitsLong n&&Builtin.Range.rangeFitsLong 1&&Builtin.Range.rangeFitsLong (-1)&&Builtin.Range.rangeFitsLong (0-1)&&Builtin.Range.rangeFitsLong n)=true:=by
  simp only[Builtin.Range.rangeFitsLong,mU,decide_eq_true_eq];omega
 dsimp only;rw[sz,sm];rw[tT #[0]];have e:0+(n-1)*1=n-1:=by omega
 rw[e];exact tQ (wpAny_newObj_type (tR ⟨_,rfl,h⟩))
theorem code_rev{n:Int}{Q₁:Value->Shared->Prop}(hr:IsRange s.heap r 0 n 1 t u v)(h0:0<=n)(h1:n<2^62)
  (h:Q₁ (.ref s.heap.objs.size) { s with heap:=s.heap.push { cls:=.type "range_iterator",data:=.fields #[rawInt (n-1),rawInt n,rawInt (-1)] } }) :
  codeAny #[7] A (.call (.builtin "reversed.__new__") ⟨[.type "reversed",.ref r],[]⟩) (wants Q₁ E) s:=by
 have hT:s.TypeIs (.ref r) "range":=⟨_,hr,rfl⟩;refine codeAny_of_tree ?_;show wpAny _ A.in1 (do checkBuiltinCall "reversed.__new__" ⟨[.type "reversed",.ref r],[]⟩;again (.builtin "reversed.__new__" ⟨[.type "reversed",.ref r],[]⟩)) _ _ s;refine tQ (wpAny_of_eq (F.newCall_reversed_1 _) (tR ⟨plainId_quiet F.plain_reversed_new _,codeAny_builtin F.entry_reversed_new ?_⟩));rw[Around.under_plainId F.plain_reversed_new _];unfold Builtin.«reversed.__new__»;refine tQ (wpAny_of_eq (newClass_reversed _) ?_);try dsimp only
 refine tQ (wpAny_of_eq (a:=()) (by first | rfl | kernel_rfl) ?_);refine tQ (wpAny_of_eq (a:=()) (by first | rfl | kernel_rfl) ?_);try dsimp only
 refine tQ (wpAny_specialOf hT F.slot_range_reversed.lookup ?_);try dsimp only
 refine tQ (wpAny_of_eq (F.slot_range_reversed.bind _) ?_);try dsimp only
 first
 | rw[tT (show ¬((Value.builtin "range.__reversed__"==Value.none)=true)from hV)]
 | (show wpAny _ _ (if (Value.builtin "range.__reversed__"==Value.none)=true then _ else _) _ _ _;rw[tT (show ¬((Value.builtin "range.__reversed__"==Value.none)=true)from hV)])
 refine tQ (wpAny_rule ?_);refine tQ (m:=runValue (.call (.builtin "range.__reversed__") ⟨[.ref r],[]⟩)) (show wpAny _ _ (call (.builtin "range.__reversed__") [.ref r]) _ _ _ from UK hr h0 h1 ?_);first
 | exact tR h
 | exact tQ (tR (tR h))
theorem BY:isSubtype (.type "range_iterator") (.type "reversed")=pure false:=by rw[isSubtype_type];kernel_rfl
theorem call_rev{n:Int}{Q:Value->Shared->Prop}(hr:IsRange s.heap r 0 n 1 t u v)(h0:0<=n)(h1:n<2^62)
  (h:Q (.ref s.heap.objs.size) { s with heap:=s.heap.push { cls:=.type "range_iterator",data:=.fields #[rawInt (n-1),rawInt n,rawInt (-1)] } }) :
  wpAny #[7] A (call (.type "reversed") [.ref r]) Q E s:=by
 refine callType_other (U:="range_iterator") (Q₁:=λobj s₁=>obj=.ref s.heap.objs.size/\s₁ = { s with heap:=s.heap.push { cls:=.type "range_iterator",data:=.fields #[rawInt (n-1),rawInt n,rawInt (-1)] } }) #[3] F.create_reversed ⟨_,_,F.mro_reversed⟩ F.made_reversed BY (F.typeCall_reversed_1 _) (code_rev hr h0 h1 ⟨rfl,rfl⟩) ?_;rintro obj s₁ ⟨rfl,rfl⟩;exact⟨⟨_,gY _ rfl,rfl⟩,h⟩
end
def Itd(n:Nat):It:=⟨λi _=>i<n,λi H x H'=>H'=H/\x=.int ((n:Int)-1-i),λi _=>n<=i⟩
theorem UB{P:Program}{w:World}{K:tV}{tg:Expr}(it:Addr)(n:Nat):Turn P w K tg (Itd n) [it] it (λi h=>IsRangeIter h it (((n:Int)-1)+(i:Nat)*(-1)) ((n:Int)-(i:Nat)) (-1)) where
 mem:=by simp
 obj:=λi h st b hb=>by
  have e:b=it:=by simpa using hb
  subst e;exact⟨_,st,λv z=>by
   have z':Data.fields _=Data.cell v:=z;cases z'⟩
 keep:=λi h h' st k=>k it #[14] _ st
 item:=by
  intro X hP hw hK hc i ac s σ H E I hf st hg;subst hP hw hK;obtain⟨f0,f1,f2,f3,f4,f5⟩:=hf it #[14];have W:=Walks.range (prog:=X.prog) (w:=X.w) (I.ok.hd hc) it ((n:Int)-1) (-1) n;refine W.item i s _ _ hg st λv h' tk hv st' kk=>?_;obtain⟨t,rfl⟩:=hv;have I1:Inv X ac σ H { s with heap:=h',toks:=tk } :=I.turned (λb o hb e=>kk b o (by simpa using hb) e) f0 f1 f3 f4 f5;refine⟨_,rfl,HJ (s:={ s with heap:=h',toks:=tk }) (n:="range_iterator") st' rfl rfl #[0] ⟨.int ((n:Int)-1-i),H,I1,⟨t, ?_⟩,⟨rfl,rfl⟩,st',λb hb=>(hf b hb).1⟩⟩;rw[show(n:Int)-1+(i:Int)*(-1)=(n:Int)-1-i by omega]
 done:=by
  intro X hP hw hK hc i ac s σ H E I hf st hg;subst hP hw hK;obtain⟨f0,f1,f2,f3,f4,f5⟩:=hf it #[14];exact wpAny_pyNext_range_end (I.ok.hd hc) st (by have:n<=i:=hg;omega) λh' eb=>⟨rfl,I.turned (t':=s.toks) (λb o hb e=>eb b o hb e) f0 f1 f3 f4 f5⟩
 self:=λ_ _ _ _ _ st h=>wpAny_pyIter_rangeiter st h
section
variable{X:Cx}{tg:Expr}
def rRange:List V->Hp->VK->Prop:=λxs H Q=>∃n:Int,xs=[.int n]/\∀p,H p=none->Q (.ref p) (upd H p (.rng 0 n))
theorem OP:CallR X (.type "range") rRange:=by
 intro ac s σ H xs us Q I r h;obtain⟨n,rfl,q⟩:=h;obtain⟨u,rfl,t,rfl⟩:=qW r;refine call_range_1 ⟨.ref s.heap.objs.size,_,I.laid (a:=s.heap.objs.size) (o:=.rng 0 n) (λb u e=>gJ _ e) uX ⟨_,_,_,gY _ rfl⟩,rfl,q _ (I.hok.fresh uX)⟩
def iRev(ta:TA):TI:=fun σ H R=>ta σ H λvs H1=>∃(r:Addr) (n:Nat),vs=[.ref r]/\H1 r=some (.rng 0 n)/\n<2^62/\R (Itd n) H1
theorem pi_rev(hg:Gl X "reversed")(hm:X.mg "reversed" = none)(ha:PA X [a] ta)(hs:starEach [a] X.env=[(false,eval a X.env)]:=by rfl):PI X tg (.Call (.Name "reversed" p) [a] [] pos) (iRev ta):=by
 intro ac s σ H R I h;refine Call_ (yP I hg hm (show bootBuiltins "reversed" = some (.type "reversed") by decide +kernel) (PyProof.Rows.callWith_type1 (thn (ha pos ac s σ H _ I h) λus s1 ⟨vs,H1,I1,r1,q1⟩=>?_) hs rfl));obtain⟨r,n,e,hr,hn,q⟩:=q1;subst e;obtain⟨u,rfl,ru⟩:=qW r1;cases ru;obtain⟨t,u,v,ho⟩:=(show ObjOk X.prog X.w H1 s1.heap r (.rng 0 n)from I1.hok r _ hr);refine call_rev ho #[1] #[1] (wpAny_pyIter_rangeiter (gY _ rfl) ?_);refine⟨s1.heap.objs.size,[s1.heap.objs.size],_,_,H1,rfl,I1.kept (t':=s1.toks) λb o e=>gJ _ e,UB _ n, ?_,λb hb=>?_,q⟩
 ·show IsRangeIter _ _ _ _ _;rw[show(n:Int)-1+((0:Nat):Int)*(-1)=n-1 by omega,show(n:Int)-((0:Nat):Int)=n by omega];exact gY _ rfl
 ·have e:b=s1.heap.objs.size:=by simpa using hb
  subst e;exact I1.fpOk uX (I1.hok.fresh uX)
end
open Lw
section
variable{X:Cx}{pos:Pos}
theorem wW:∀{xs:List V} {us:List Value},Vals xs us->Vals xs.reverse us.reverse
 | _,_,.nil=>.nil
 | _,_,.cons h t=>by rw[List.reverse_cons,List.reverse_cons];exact(wW t).append (.cons h .nil)
def tBackL(K:tV)(te:TE)(ts:TO):TE:=fun σ H Q=>te σ H λx H1=>ts σ H1 λo H2=>o=some (-1)/\∃a xs,x=.ref a/\SqL K H2 a xs/\New H2 (.lst xs.reverse) Q
theorem LK{e st:Expr}{te:TE}{ts:TO}{p2:Pos}(he:PE X e te)(hs:PO X (some st) ts):PE X (.Subscript e (.Slice none none (some st) p2) pos) (tBackL X.K te ts):=by
 intro ac s σ H Q I h;refine Subscript_ (thn (he ac s σ H _ I h) λv s1 ⟨x,H1,I1,r1,q1⟩=>?_);refine wpAny_Slice ?_;rw[evalPart_none];refine tR (tR (thn (hs ac s1 σ H1 _ I1 q1) λvs s2 ⟨o,H2,I2,po,eo,a,xs,ex,hx,q⟩=>?_));subst eo ex;cases r1;cases po with
 | int i u=>
 have I3:Inv X ac σ H2 { s2 with heap:=s2.heap.push { cls:=.type "slice",data:=.fields #[.none,.none,.int (-1) u] } } :=I2.kept (t':=s2.toks) λb ob q=>gJ _ q;obtain⟨its,r,ht,hz⟩:=I3.list hx;have hl:its.toArray.size=xs.length:=by rw[mH];exact r.length.symm
 show wpAny #[4] X.A (subscriptTail e (.Slice none none (some st) p2) (.ref a) (.ref s2.heap.objs.size)) (EP X ac σ Q) X.xe { s2 with heap:=s2.heap.push { cls:=.type "slice",data:=.fields #[.none,.none,.int (-1) u] } };refine tail_any (ops:=[.ref a,.ref s2.heap.objs.size]) ht.isList.typeIs slot_list_getitem.lookup ?_ (by with_unfolding_all rfl);refine wpAny_getItem_list_slice ht.isList (Heap.IsSliceOf.new ..) .none .none (.int (-1) u) #[0] ?_ (by rw[hl];exact hz);rw[PySem.W.krv_pick];have n:=I3.hok.fresh (tK (s2.heap.push { cls:=.type "slice",data:=.fields #[.none,.none,.int (-1) u] }).objs.size);refine⟨.ref _,_,I3.laid (t':=s2.toks) (o:=.lst xs.reverse) (λb ob q=>gJ _ q) uX ?_,rfl,q _ _ n (Lw.jQ _ n) jE⟩;exact⟨by rw[List.length_reverse];exact hz,_,0,wW r,gY _ rfl⟩
end
section
variable{prog:Program}{w:World}{A:Around}{E:Value->Shared->Prop}{s:Shared}
end
section
variable{X:Cx}{pos:Pos}
end
structure ZL(z TI TO i1 i2 l1 l2:Addr)(k:Nat)(h:Heap):Prop where
 zz:IsZip h z TI TO .none
 ti:IsPair h TI (.ref i1) (.ref i2)
 to:∃a b,IsPair h TO a b
 one:h.IsListIter i1 l1 k
 two:h.IsListIter i2 l2 k
section
variable{X:Cx}
end
end L2
namespace L2
open PySem PySem.Spec PyProof.Rows
section
variable{prog:Program}{w:World}{A:Around}{E:Value->Shared->Prop}{s:Shared}
end
section
variable{X:Cx}{tg:Expr}
end
end L2
namespace Lw
open PySem PySem.Spec PyProof.Rows L2
section
variable{X:Cx}
end
section
variable{prog:Program}{w:World}{A:Around}{E:Value->Shared->Prop}{s:Shared}
end
section
variable{X:Cx}
end
section
variable{prog:Program}{w:World}{A:Around}{R:Result->Shared->Prop}{s:Shared}
theorem wY(I:Nat->Shared->Prop)
  (turn:∀n s,I n s->wpAny #[7] A (pyNext it) (λr s₁=>match r with
   | none=>R (.ok .next) s₁
   | some v=>wpAny #[7] A (letOwnedTupleGo target it v) (λ_ s₁'=>wpAny #[7] A (assign target env v) (λ_ s₂=>wpAny #[7] A (eval kx env) (λx s₃=>wpAny #[7] A (eval vx env) (λy s₃'=>
     wpAny #[7] A (dictSet D x y) (λ_ s₄=>∃m,m<n/\I m s₄) #[6] s₃') #[6] s₃)
     #[6] s₂) #[6] s₁') #[6] s₁) #[6] s)
  (n:Nat) (h:I n s) :
  codeAny #[7] A (.compLoop (.DictComp kx vx [⟨target,iter,[],0⟩] scope pos) 0 it (.ref D) env) R s:=by
 refine codeAny_loop rfl I (λn s hI=>?_) n h;show wpAny _ _ ((compTurn (.DictComp kx vx [⟨target,iter,[],0⟩] scope pos) 0 it (.ref D) env).onRaise (λx=>do noteFrame x env;theTreesLotGoes x)) _ _ s;refine wpAny_noted ?_;rw[compTurn_dict];refine tQ (wpAny_standAt (tQ (tS (turn n s hI) (λr s₁ h₁=>?_) λ_ _ h'=>h')));cases r with
 | none=>exact tR h₁
 | some v=>
  refine tQ (tS h₁ (λ_ s₁' h₁'=>?_) λ_ _ h'=>h');refine tQ (tS h₁' (λ_ s₂ h₂=>?_) λ_ _ h'=>h');refine tQ ?_;rw[List.forIn_nil];refine tR ?_;dsimp only;rw[tU rfl];refine tQ (tQ (tS h₂ (λx s₃ h₃=>tQ (wpAny_holding (tS h₃ (λy s₃' h₃'=>tQ (wpAny_standAt (wpAny_holding (tS h₃' (λ_ s₄ h₄=>tR ⟨rfl,h₄⟩) λ_ _ h'=>h')))) λ_ _ h'=>h'))) λ_ _ h'=>h'))
end
section
variable{X:Cx}
abbrev BD(X:Cx)(target kx vx:Expr)(env:Env)(a:Addr)(R:Result->Shared->Prop)(v:Value)(K:Shared->Prop)(s:Shared):Prop:=
 wpAny #[4] X.A (assign target env v) (λ_ s₂=>wpAny #[4] X.A (eval kx env) (λx s₃=>wpAny #[4] X.A (eval vx env) (λy s₃'=>
  wpAny #[4] X.A (dictSet a x y) (λ_ s₄=>K s₄) (notedBy #[4] X.A env λe s'=>R (.error e) s') s₃') (notedBy #[4] X.A env λe s'=>R (.error e) s') s₃) (notedBy #[4] X.A env λe s'=>R (.error e) s') s₂) (notedBy #[4] X.A env λe s'=>R (.error e) s') s
end
def DCompGoK(σ0:L2.St)(J:It)(g:TG)(tk tv:TE)(Q:VK)(p:Addr)(H':Hp):Prop:=
 ∃W:Nat->Nat->List (Key×V)->Hp->Prop,(∃m,W 0 m [] H')/\∀i m ys H2,W i m ys H2->H2 p=some (.dK ys)/\ys.length<sizeLine/\
  ((J.stop i H2/\Q (.ref p) H2)∨(J.go i H2/\∀x H3,J.yld i H2 x H3->g x σ0 H3 fun σ4 H4=>Keep σ0 σ4/\tk σ4 H4 λy H5=>tv σ4 H5 λv H6=>∃(k:Key),y=kV k/\H6 p=some (.dK ys)/\∃m',m'<m/\W (i+1) m' (qD ys k v) (upd H6 p (.dK (qD ys k v)))))
def PN(own:Nat)(idx:List Nat)(wi:TI)(g:TG)(tk tv:TE):TE:=fun σ H Q=>wi σ H λJ H1=>∀p H',H1 p=none->Same H1 H'->H' p=some (.dK [])->
 DCompGoK (List.replicate own none++idx.map λj=>(σ[j]?).getD none) J g tk tv Q p H'
section
variable{X:Cx}
theorem d_setK{E:Value->Shared->Prop}{ah:List (Key×V)}{Q:Unit->Shared->Prop}(I:Inv X ac σ H s)(e:H a=some (.dK ah))(l:ah.length<sizeLine)(ry:RelV (kV k) u)(rv:RelV v r)
  (h:∀s',Inv X ac σ (upd H a (.dK (qD ah k v))) s'->Q () s'):wpAny #[4] A (dictSet a u r) Q E s:=by
 obtain⟨z,hd,vs,rel,dd⟩:=SX I.hok e;have hz:vs.length<=sizeLine:=by rw[<-rel.length];exact z
 have hl:(qD ah k v).length<=sizeLine:=by have:=vO ah k v;omega
 refine wpAny_dictSet_pairs (hsz:=hz) (BU ry) dd λh' dd' hs=>h _ ?_;have he:∃q,h'.get? a=some q:=let ⟨q,_,_,hq,_⟩:=dd';⟨q,hq⟩;exact wT I (by rw[e];exact True.intro) hs he (FC hl hd (rel.put k rv) dd')
theorem ZZ(s2:Shared)(H1:Hp)(h:Heap)(I2:Inv X ac σ H1 s2)(hD:h.get? s2.heap.objs.size=some { cls:=.type "dict",dict:=none,data:=.dict #[] 0 }):ObjOk X.prog X.w (upd H1 s2.heap.objs.size (.dK [])) h s2.heap.objs.size (.dK []):=
 ⟨tL _,beq_eq_false_iff_ne.mpr (Ne.symm (nX I2.big)),[],.nil,_,#[],0,hD,⟨rfl,rfl,rfl⟩,rfl,(λ_ he=>by simp at he),Pairs.nil,nM⟩
theorem cgoK(hg:∀C fp s2 H2,PG #[9] target g)(hkx:∀C fp s2 H2,PE #[9] kx tk)(hvx:∀C fp s2 H2,PE #[9] vx tv)(C:Addr)(fp:List Addr)(s2:Shared)(H2:Hp)(J:It)(p:Addr)(H':Hp)(R:Result->Shared->Prop)
  (h:DCompGoK σ0 J g tk tv Q p H'):CGo #[9] σ0 J (BD X target kx vx (compEnvC scope cl C X.env) p R) (λH=>Q (.ref p) H) H':=by
 obtain⟨W,⟨m0,w0⟩,turn⟩:=h;refine⟨λi m H=>∃ys,W i m ys H,⟨m0,[],w0⟩, ?_⟩;rintro i m H3 ⟨ys,w⟩;obtain⟨hp3,hz3,hw⟩:=turn i m ys H3 w;refine hw.imp id λ⟨go,step⟩=>⟨go,λx H5 y5 pns u s5 K I5 r5 hK=>?_⟩;refine tS (hg _ _ _ _ _ s5 _ H5 x u _ I5 r5 (step x H5 y5)) (λ_ s6 ⟨σ6,H6,I6,kp6,q6⟩=>?_) λ_ _ z=>z.elim;refine tS (hkx _ _ _ _ _ s6 σ6 H6 _ I6 q6) (λy s7 ⟨yv,H7,I7,r7,q7⟩=>?_) λ_ _ z=>z.elim;refine tS (hvx _ _ _ _ _ s7 σ6 H7 _ I7 q7) (λv' s7' ⟨vv,H7',I7',r7',q7'⟩=>?_) λ_ _ z=>z.elim;obtain⟨k',ey,e7,m',hm',w7⟩:=q7';subst ey;exact d_setK (X:=jK X N scope cl C fp s2 H2) (A:=X.A) I7' e7 hz3 r7 r7' λs8 I8=>hK _ _ _ m' I8 kp6 hm' ⟨_,w7⟩
theorem BK{own:Nat}{idx:List Nat}{N:List Str}{scope:Scope}{cl:List (Str×Addr)}(hc:X.calm=true)
  (hk:scope.kind=.function) (hclos:closureFor scope X.env=pure cl) (hcell:∀x∈scope.names,x.2≠.cell) (hnames:∀x∈scope.names,x.2=.local->scope.names.lookup x.1=some .local)
  (hsub:∀x c,cl.lookup x=some c->X.env.cells.lookup x=some c) (hhas:∀x,(#[11].names.lookup x=some .cell∨#[11].names.lookup x=some .free)->∃c,cl.lookup x=some c)
  (hlen:N.length=own+idx.length)
  (hidx:∀(k j:Nat) (x:Str),idx[k]? = some j->N[own+k]? = some x->X.N[j]? = some x/\X.env.kindOf x=some .cell/\#[11].names.lookup x=some .cell/\X.env.scope.names.lookup x=some .cell)
  (hi:PI X target iter wi) (hg:∀C fp s2 H2,PG #[9] target g) (hkx:∀C fp s2 H2,PE #[9] kx tk) (hvx:∀C fp s2 H2,PE #[9] vx tv)
  (hs:∀x,foldedSetIterable iter X.env x=pure x:=by intro _;rfl):PE X (.DictComp kx vx [⟨target,iter,[],0⟩] scope pos) (PN own idx wi g tk tv):=by
 intro ac s σ H Q I h;rw[arm_eval_DictComp];exact yZ ⟨hk,hclos,hcell,hnames,hsub,hhas,hlen,hidx⟩ hc I hi h rfl hs (data:=.dict #[] 0) (tL _) rfl ZZ (B:=BD X target kx vx) (λV=>wY V) codeAny_compStart_dict (cgoK hg hkx hvx) leaveE
end
section
variable{X:Cx}
end
section
variable{X:Cx}
def rSumL(K:tV):List V->Hp->VK->Prop:=λxs H Q=>∃(a:Addr) (ns:List Int),xs=[.ref a]/\SqL K H a #[15]/\Q (.int ns.sum) H
theorem VX(hc:X.calm=true):CallR X (.builtin "sum") (rSumL X.K):=by
 intro ac s σ H xs us Q I r h;obtain⟨a,ns,rfl,hq,q⟩:=h;obtain⟨u,rfl,ru⟩:=qW r;cases ru;obtain⟨its,rv,p,hz⟩:=I.list hq;have i1:IntsAre its ns:=kY rv;have hl:=qQ i1;have ha:a<s.heap.objs.size:=by
  obtain⟨o,n,e,_⟩:=p;exact nV e
 refine PySem.call_sum_walkG (wpAny_pyIter_list p.isList ?_);refine⟨s.heap.objs.size,_,_,_,_,_,λi=>ns.getD i 0,rfl,Walks.list (show X.A.in1.handled=none from I.ok.hd hc) s.heap.objs.size a (nX ha) its.toArray,⟨⟨_,gY _ rfl,rfl,rfl⟩,p.isList.at λo e=>gJ _ e⟩, ?_, ?_, ?_⟩
 ·intro b hb;show b<(s.heap.push _).objs.size;rw[nN];simp only[nP,mQ,or_false]at hb;rcases hb with rfl | rfl
  ·exact mW _
  ·exact Nat.lt_succ_of_lt ha
 ·intro i v hv;have hv':its[i]? = some v:=by simpa using hv
  obtain⟨hi,e⟩:=gE.mp hv';obtain⟨n,t,e1,e2⟩:=vU i1 hi;exact⟨t,by dsimp only;rw[<-e,e2,gB,e1];rfl⟩
 ·intro h' tk t' k;have e:preSum (λi=>ns.getD i 0) its.toArray.size=ns.sum:=by
   rw[mH,hl,yJ ns _ uX,mR]
  rw[e];refine⟨.int ns.sum,H,I.kept (t':=tk) (λb o q=>?_),⟨t',rfl⟩,q⟩;exact k b o (by simp;exact nX (nV q)) (gJ _ q)
end
section
variable{prog:Program}{w:World}{A:Around}{R:Result->Shared->Prop}{s:Shared}
end
def CompGoFI(σ0:L2.St)(J:It)(g:TG)(tt:TT)(te:TE)(Q:VK)(p:Addr)(H':Hp):Prop:=
 ∃W:Nat->Nat->List V->Hp->Prop,(∃m,W 0 m [] H')/\∀i m ys H2,W i m ys H2->H2 p=some (.lst ys)/\ys.length<sizeLine/\
  ((J.stop i H2/\Q (.ref p) H2)∨(J.go i H2/\∀x H3,J.yld i H2 x H3->g x σ0 H3 fun σ4 H4=>Keep σ0 σ4/\tt σ4 H4 λb H5=>if b=true then te σ4 H5 λy H6=>H6 p=some (.lst ys)/\∃m',m'<m/\W (i+1) m' (ys++[y]) (upd H6 p (.lst (ys++[y])))else ∃m',m'<m/\W (i+1) m' ys H5))
def tCompFI(own:Nat)(idx:List Nat)(wi:TI)(g:TG)(tt:TT)(te:TE):TE:=fun σ H Q=>wi σ H λJ H1=>∀p H',H1 p=none->Same H1 H'->H' p=some (.lst [])->
 CompGoFI (List.replicate own none++idx.map λj=>(σ[j]?).getD none) J g tt te Q p H'
section
variable{X:Cx}
abbrev BI(X:Cx)(target c elt:Expr)(env:Env)(a:Addr)(R:Result->Shared->Prop)(v:Value)(K:Shared->Prop)(s:Shared):Prop:=
 wpAny #[4] X.A (assign target env v) (λ_ s₂=>wpAny #[4] X.A (isTrue c env (eval c env)) (λb s₂'=>if b=true then wpAny #[4] X.A (eval elt env) (λx s₃=>
  wpAny #[4] X.A (call (.builtin "list.append") [.ref a,x]) (λ_ s₄=>K s₄) (notedBy #[4] X.A env λe s'=>R (.error e) s') s₃) (notedBy #[4] X.A env λe s'=>R (.error e) s') s₂' else K s₂') (notedBy #[4] X.A env λe s'=>R (.error e) s') s₂) (notedBy #[4] X.A env λe s'=>R (.error e) s') s
theorem cgoFI(hg:∀C fp s2 H2,PG #[9] target g)(ht:∀C fp s2 H2,PT #[9] c tt)(he:∀C fp s2 H2,PE #[9] elt te)(C:Addr)(fp:List Addr)(s2:Shared)(H2:Hp)(J:It)(p:Addr)(H':Hp)(R:Result->Shared->Prop)
  (h:CompGoFI σ0 J g tt te Q p H'):CGo #[9] σ0 J (BI X target c elt (compEnvC scope cl C X.env) p R) (λH=>Q (.ref p) H) H':=by
 obtain⟨W,⟨m0,w0⟩,turn⟩:=h;refine⟨λi m H=>∃ys,W i m ys H,⟨m0,[],w0⟩, ?_⟩;rintro i m H3 ⟨ys,w⟩;obtain⟨hp3,hz3,hw⟩:=turn i m ys H3 w;refine hw.imp id λ⟨go,step⟩=>⟨go,λx H5 y5 pns u s5 K I5 r5 hK=>?_⟩;refine tS (hg _ _ _ _ _ s5 _ H5 x u _ I5 r5 (step x H5 y5)) (λ_ s6 ⟨σ6,H6,I6,kp6,q6⟩=>?_) λ_ _ z=>z.elim;refine tS (ht _ _ _ _ _ s6 σ6 H6 _ I6 q6) (λb s6' ⟨H6',I6',q6'⟩=>?_) λ_ _ z=>z.elim;cases b with
 | false=>
  rw[tT hV]at q6' ⊢;obtain⟨m',hm',w7⟩:=q6';exact hK _ _ _ m' I6' kp6 hm' ⟨_,w7⟩
 | true=>
  rw[tU rfl]at q6' ⊢;refine tS (he _ _ _ _ _ s6' σ6 H6' _ I6' q6') (λy s7 ⟨yv,H7,I7,r7,e7,m',hm',w7⟩=>?_) λ_ _ z=>z.elim;refine tS (vA (X:=jK X N scope cl C fp s2 H2) _ s7 σ6 H7 (.ref p) [yv] (.ref p) [y] (λ_ H8=>H8=upd H7 p (.lst (ys++[yv]))) I7 rfl (.cons r7 .nil) ⟨_,ys,yv,rfl,rfl,e7,hz3,rfl⟩) (λ_ s8 ⟨_,H8,I8,_,q8⟩=>?_) λ_ _ z=>z.elim;subst q8;exact hK _ _ _ m' I8 kp6 hm' ⟨_,w7⟩
end
end Lw
namespace LwD
open PySem PySem.Spec PyProof.Rows L2
section
variable{prog:Program}{w:World}{A:Around}{E:Value->Shared->Prop}{s:Shared}{d it vw:Addr}{es:Array DictEntry}{ep i:Nat}
end
section
variable{X:Cx}
end
end LwD
namespace Lw
open PySem PySem.Spec PyProof.Rows L2
section
variable{X:Cx}
theorem LG{i:Nat}{py spos:Pos}(hN:X.N.Nodup)(hi:X.N[i]? = some y)(hx:Loc X.env.scope y){own:Nat}{idx:List Nat}{N:List Str}{scope:Scope}{cl:List (Str×Addr)}(hc:X.calm=true)
  (hk:scope.kind=.function) (hclos:closureFor scope X.env=pure cl) (hcell:∀x∈scope.names,x.2≠.cell) (hnames:∀x∈scope.names,x.2=.local->scope.names.lookup x.1=some .local)
  (hsub:∀x c,cl.lookup x=some c->X.env.cells.lookup x=some c) (hhas:∀x,(#[11].names.lookup x=some .cell∨#[11].names.lookup x=some .free)->∃c,cl.lookup x=some c)
  (hlen:N.length=own+idx.length)
  (hidx:∀(k j:Nat) (x:Str),idx[k]? = some j->N[own+k]? = some x->X.N[j]? = some x/\X.env.kindOf x=some .cell/\#[11].names.lookup x=some .cell/\X.env.scope.names.lookup x=some .cell)
  (hit:PI X target iter wi) (hg:∀C fp s2 H2,PG #[9] target g) (ht:∀C fp s2 H2,PT #[9] c tt) (he:∀C fp s2 H2,PE #[9] elt te)
  (hsw:swapsWith (.ListComp elt [⟨target,iter,[c],0⟩] scope pos) (some (.Name y py)) spos.line X.env=pure true:=by rfl)
  (hs:∀x,foldedSetIterable iter X.env x=pure x:=by intro _;rfl) (hfn:X.fn y=true∨X.env.scope.names.lookup y=some .local:=by first | exact .inl rfl | exact .inr rfl | assumption):PS X (.Assign [.Name y py] (.ListComp elt [⟨target,iter,[c],0⟩] scope pos) spos) (zB (tCompFI own idx wi g tt te) (jV i)):=by
 intro ac s σ H D I h;rw[exec_Assign_Name_used _ _ _ _ hsw];refine tQ (wpAny_standAt (tQ ?_));show wpAny _ X.A (do let _<-comprehension (.ListComp elt [⟨target,iter,[c],0⟩] scope pos) scope X.env _ (newList []) false (eval iter X.env) (some (assign (.Name y py) X.env))) _ _ s;exact tQ (tS (yZ ⟨hk,hclos,hcell,hnames,hsub,hhas,hlen,hidx⟩ hc I hit h rfl hs (data:=.seq ([]:List Value).toArray) (tL _) rfl JE (B:=BI X target c elt) (λV=>MU V) codeAny_compStart_list (cgoFI hg ht he) (OE hN hi hx hfn)) (λ_ s' hq=>tR (tR hq)) λ_ _ e=>e)
end
section
variable{X:Cx}{CX:CXT}{k:Nat}{f:Addr}{fd:FuncData}{ps ks:List Str}{sp:Sp}{E:XK}{x:Str}{p pos:Pos}{kws:List Keyword}{tk:TA}{g:List Value->List Value->List Value}{gV:List V->List V->List V}
end
mutual
inductive DecK(K:tV)(H:Hp):V->PyData->Prop where
 | bl (b:Bool):DecK K H (.bl b) (.bool b)
 | int (i:Int):DecK K H (.int i) (.int i)
 | tup {a:Addr} {xs:List V} {ds:List PyData} (e:SqT K H a xs) (h:DecKs K H xs ds):DecK K H (.ref a) (.tuple ds)
inductive DecKs(K:tV)(H:Hp):List V->List PyData->Prop where
 | nil:DecKs K H [] []
 | cons {x:V} {d:PyData} {xs:List V} {ds:List PyData} (h:DecK K H x d) (t:DecKs K H xs ds):DecKs K H (x::xs) (d::ds)
end
section
variable{X:Cx}
mutual
theorem DecK.reads{s:Shared}(I:Inv X ac σ H s):∀{x:V} {d:PyData} {u:Value},DecK X.K H x d->RelV x u->∃as,Reads s.heap u d as
 | _,_,_,.bl b,r=>by cases r;exact⟨_,.bool b⟩
 | _,_,_,.int i,r=>by obtain⟨t,rfl⟩:=r;exact⟨_,.int i t⟩
 | _,_,_,.tup e h,r=>by
  cases r;obtain⟨its,rv,⟨o,ho,hc,n,hd⟩,_⟩:=I.tuple e;obtain⟨as,ra⟩:=DecKs.reads I h rv;exact⟨_,.tuple ho hc hd (by simpa using ra)⟩
theorem DecKs.reads{s:Shared}(I:Inv X ac σ H s):∀{xs:List V} {ds:List PyData} {us:List Value},DecKs X.K H xs ds->Vals xs us->∃as,ReadsAll s.heap us ds as
 | _,_,_,.nil,r=>by cases r;exact⟨_,.nil⟩
 | _,_,_,.cons h t,r=>by
  cases r with
  | cons q r=>
   obtain⟨as,ra⟩:=DecK.reads I h q;obtain⟨bs,rb⟩:=DecKs.reads I t r;exact⟨_,.cons ra rb⟩
end
end
section
variable{X:Cx}
theorem IS{i:Nat}{py spos:Pos}(hN:X.N.Nodup)(hi:X.N[i]? = some y)(hx:Loc X.env.scope y){own:Nat}{idx:List Nat}{N:List Str}{scope:Scope}{cl:List (Str×Addr)}(hc:X.calm=true)
  (hk:scope.kind=.function) (hclos:closureFor scope X.env=pure cl) (hcell:∀x∈scope.names,x.2≠.cell) (hnames:∀x∈scope.names,x.2=.local->scope.names.lookup x.1=some .local)
  (hsub:∀x c,cl.lookup x=some c->X.env.cells.lookup x=some c) (hhas:∀x,(#[11].names.lookup x=some .cell∨#[11].names.lookup x=some .free)->∃c,cl.lookup x=some c)
  (hlen:N.length=own+idx.length)
  (hidx:∀(k j:Nat) (x:Str),idx[k]? = some j->N[own+k]? = some x->X.N[j]? = some x/\X.env.kindOf x=some .cell/\#[11].names.lookup x=some .cell/\X.env.scope.names.lookup x=some .cell)
  (hit:PI X target iter wi) (hg:∀C fp s2 H2,PG #[9] target g) (hkx:∀C fp s2 H2,PE #[9] kx tk) (hvx:∀C fp s2 H2,PE #[9] vx tv)
  (hsw:swapsWith (.DictComp kx vx [⟨target,iter,[],0⟩] scope pos) (some (.Name y py)) spos.line X.env=pure true:=by rfl)
  (hs:∀x,foldedSetIterable iter X.env x=pure x:=by intro _;rfl) (hfn:X.fn y=true∨X.env.scope.names.lookup y=some .local:=by first | exact .inl rfl | exact .inr rfl | assumption):PS X (.Assign [.Name y py] (.DictComp kx vx [⟨target,iter,[],0⟩] scope pos) spos) (zB (PN own idx wi g tk tv) (jV i)):=by
 intro ac s σ H D I h;rw[exec_Assign_Name_used _ _ _ _ hsw];refine tQ (wpAny_standAt (tQ ?_));show wpAny _ X.A (do let _<-comprehension (.DictComp kx vx [⟨target,iter,[],0⟩] scope pos) scope X.env _ newDict false (eval iter X.env) (some (assign (.Name y py) X.env))) _ _ s;exact tQ (tS (yZ ⟨hk,hclos,hcell,hnames,hsub,hhas,hlen,hidx⟩ hc I hit h rfl hs (data:=.dict #[] 0) (tL _) rfl ZZ (B:=BD X target kx vx) (λV=>wY V) codeAny_compStart_dict (cgoK hg hkx hvx) (OE hN hi hx hfn)) (λ_ s' hq=>tR (tR hq)) λ_ _ e=>e)
end
theorem rvL{K:tV}{H:Hp}{p:Addr}{xs:List V}{i:Int}{v:V}{Q:VK}{σ:L2.St}{a:Nat}(e1:σ[a]? = some (some (.ref p)))(h:SqL K H p xs)(e:atI xs i=some v)(q:Q v H):tOp (LC K) (kH a) (tC (.int i)) σ H Q:=⟨_,e1,p,xs,i,v,rfl,rfl,h,e,q⟩
theorem gT2{K:tV}{H:Hp}{a:Addr}{x y:V}{i j n:Nat}{σ:L2.St}{Q:L2.St->Hp->Prop}(h:SqT K H a [x,y])(hn:2=n)(q:Q ((σ.set i (some x)).set j (some y)) H):AJ K n (qS (jV i) (qS (jV j) gNil)) (.ref a) σ H Q:=⟨a,_,rfl,h,hn,_,_,rfl,_,_,rfl,rfl,q⟩
theorem oVV{C:Int->Int->Prop}{g:Int->Int->V}{a b:Nat}{x y:Int}(e1:σ[a]? = some (some (.int x)))(e2:σ[b]? = some (some (.int y)))(c:C x y)(q:Q (g x y) H):tOp (rI C g) (kH a) (kH b) σ H Q:=⟨_,e1,_,e2,_,_,rfl,rfl,c,q⟩
theorem gSet{xs:List V}{i:Int}{j a:Nat}{Q:L2.St->Hp->Prop}(e:σ[a]? = some (some (.ref p)))(h:H p=some (.lst xs))(hj:ixN xs.length i=some j)(q:Q σ (upd H p (.lst (xs.set j v)))):MJ (kH a) (tC (.int i)) rSetL v σ H Q:=⟨_,e,p,xs,i,j,rfl,rfl,h,hj,q⟩
def Sm:V->Prop
 | .int i=>i.natAbs<2^1000
 | _=>True
inductive Thing(H:Hp):V->Prop where
 | sc {v:V} {k:Kd} (h:KdOf H v k) (n:k≠.tup):Thing H v
 | tup {a:Addr} {xs:List V} (e:H a=some (.tup xs)) (h:∀x∈xs,Sm x/\∃k,KdOf H x k):Thing H (.ref a)
def zW:List V->Bool
 | [.int t,.int b]=>decide (1<=b)&&decide (Int.gcd t b=1)
 | _=>false
def EY(H:Hp):V->Bool
 | .ref a=>match H a with
  | some (.tup xs)=>zW xs
  | _=>false
 | _=>false
theorem frac_sc(h:KdOf H v k)(n:k≠.tup):EY H v=false:=by
 cases h with
 | tup e=>exact absurd rfl n
 | lst e=>simp only[EY,e]
 | _=>rfl
theorem MK(e:H a=some (.tup xs)):EY H (.ref a)=zW xs:=by simp only[EY,e]
theorem EK{xs:List V}(h:xs.length≠2):zW xs=false:=by
 match xs,h with
 | [],_=>rfl
 | [_],_=>unfold zW;split<;>simp_all
 | [_,_],h=>exact absurd rfl h
 | _::_::_::_,_=>unfold zW;split<;>simp_all
theorem YZ(h:∀n,x≠.int n):zW [x,y]=false:=by
 unfold zW;split
 ·rename_i t b e;injection e with e1 _
  exact absurd e1 (h t)
 ·rfl
theorem YY(h:∀n,y≠.int n):zW [x,y]=false:=by
 unfold zW;split
 ·rename_i t b e;injection e with _ e2
  injection e2 with e2 _
  exact absurd e2 (h b)
 ·rfl
def spWhole:Sp:=λvs H Q _=>∃v k,vs=[v]/\KdOf H v k/\Q (.bl (decide (k=.int))) H
def spIsf:Sp:=λvs H Q _=>∃v,vs=[v]/\Thing H v/\Q (.bl (EY H v)) H
def Tape(cl:Addr)(H:Hp)(tp:Addr)(B:Int):Prop:=∃(ns:List Int) (spot rest left:Int),H tp=some (.lst [.ref cl,.int spot,.int rest,.int left])/\H cl=some (.lst #[15])/\ns.length<=63/\0<=spot/\spot<=B
theorem Tape.mono{B B':Int}(e:Same H H')(hB:B<=B')(h:Tape cl H tp B):Tape cl H' tp B':=by
 obtain⟨ns,spot,rest,left,h1,h2,h3,h4,h5⟩:=h;exact⟨ns,spot,rest,left,e _ _ h1,e _ _ h2,h3,h4,by omega⟩
def spDraw:Sp:=λvs H Q _=>∃(tp:Addr) (aa B:Int),vs=[.ref tp,.int aa]/\∃cl,Tape cl H tp B/\B<2^40/\0<aa/\aa<2^100/\
 ∀(r:Int) (H':Hp),0<=r->r<aa->Tape cl H' tp (B+1)->But tp H H'->Q (.int r) H'
theorem dDraw{aa B:Int}{a:Nat}(e:σ[a]? = some (some (.ref tp)))(hT:Tape cl H tp B)(h1:B<2^40)(h2:0<aa)(h3:aa<2^100)(k:∀(r:Int) (H':Hp),0<=r->r<aa->Tape cl H' tp (B+1)->But tp H H'->Q (.int r) H'):XG spDraw [] E0 (xM (kH a) (xM (tC (.int aa)) tNil)) σ H Q:=⟨_,e,tp,aa,B,rfl,cl,hT,h1,h2,h3,k⟩
def spGcd:Sp:=λvs H Q _=>∃a b:Int,vs=[.int a,.int b]/\0<b/\b.natAbs<2^8000/\Q (.int (Int.gcd a b)) H
def yG(t b:Int):Int:=(if b<0 then 0-t else t)/(Int.gcd t b:Int)
def yV(t b:Int):Int:=(if b<0 then 0-b else b)/(Int.gcd t b:Int)
def LowFit(t b:Int):Prop:=b.natAbs<2^8000∨(t.natAbs<2^13400/\b.natAbs<2^13400)
def spLow:Sp:=λvs H Q _=>∃t b:Int,vs=[.int t,.int b]/\b≠0/\LowFit t b/\
 ∀(p:Addr) (H':Hp),H p=none->Same H H'->H' p=some (.tup [.int (yG t b),.int (yV t b)])->Q (.ref p) H'
def QC(K:tV):Sp:=λvs H Q _=>∃(a:Addr) (ns:List Int),vs=[.ref a]/\SqL K H a #[15]/\ns.length<=63/\∀H',Q (.bl true) H'
structure Txt(mg:Str->Option Value):Prop where
 isi:mg "isinstance" = none
 len:mg "len" = none
 int:mg "int" = none
 bool:mg "bool" = none
 tup:mg "tuple" = none
 lst:mg "list" = none
 str:mg "str" = none
 abs:mg "abs" = none
 rng:mg "range" = none
 lbits:∃t,mg "LONG_BITS" = some (.int 8000 t)
 all:mg "all" = none
 sum:mg "sum" = none
 zip:mg "zip" = none
 sorted:mg "sorted" = none
 letters:∃t,mg "MOST_LETTERS" = some (.int 4 t)
 degree:∃t,mg "MOST_DEGREE" = some (.int 16 t)
 terms:∃t,mg "MOST_TERMS" = some (.int 500 t)
 signs:∃t,mg "MOST_SIGNS" = some (.int 4000 t)
 pack:∃t,mg "PACK" = some (.int 256 t)
 short:∃t,mg "SHORT_BITS" = some (.int 1500 t)
 enum:mg "enumerate" = none
 dct:mg "dict" = none
 max:mg "max" = none
 rev:mg "reversed" = none
structure Df(K:tV)(mg:Str->Option Value)(x:Str)(st:Stmt)(ps:List Str)(f:Addr)(fd:FuncData):Prop where
 F:Fun K x x st f fd
 b:Binds K fd ps []
 m:mg x=some (.ref f)
structure DG(P:Program)(w:World)(K:tV)(mg:Str->Option Value)(base:Heap)(n:Nat)(x:Str)(st:Stmt)(ps:List Str)(sp:Sp):Prop where
 ex:∃f fd,Df K mg x st ps f fd/\FnOk P w K mg base CX0 n f fd ps sp
theorem mkD{P:Program}{w:World}{K:tV}{mg:Str->Option Value}{base:Heap}{n:Nat}{x:Str}{st:Stmt}{ps:List Str}{sp:Sp}{f:Addr}{fd:FuncData}(D:Df K mg x st ps f fd)(G:FnOk P w K mg base CX0 n f fd ps sp):DG P w K mg base n x st ps sp:=⟨_,_,D,G⟩
theorem cal{X:Cx}{n:Nat}{x:Str}{st:Stmt}{ps:List Str}{sp:Sp}{e:Expr}{es:List Expr}{t:TA}{p pos:Pos}(G:DG X.prog X.w X.K X.mg X.base n x st ps sp)(hr:Room n X.A)(ha:PA X (e::es) t)(hg:Gl X x:=by exact rfl)(hdb:(x==("__debug__" :Str))=false:=by decide)(he:starEach (e::es) X.env=(false,eval e X.env)::starEach es X.env:=by rfl)(hpl:(backTo pos (starEach es X.env)).any (·.1)=false:=by rfl) :
  PE X (.Call (.Name x p) (e::es) [] pos) (XG sp [] E0 t):=by
 obtain⟨f,fd,D,F⟩:=G.ex;exact jZ F hr hg D.m D.F.kp D.b .nil kW ha hdb he hpl
theorem scK{N P:List Str}{sc:Scope}(h:sc.kind=.function/\sc.isCoroutine=false/\sc.isGenerator=false/\N.Nodup/\N.take P.length=P/\(∀x∈P,sc.names.lookup x=some .local∨sc.names.lookup x=some .cell)/\∀y∈sc.names,y.2≠.free):FnScope N P sc:=⟨h.1,h.2.1,h.2.2.1,h.2.2.2.1,h.2.2.2.2.1,h.2.2.2.2.2.1,h.2.2.2.2.2.2⟩
variable{P:Program}{w:World}{K:tV}{mg:Str->Option Value}{base:Heap}{f fd:_}
theorem scWhole:FnScope ["thing"] ["thing"] (jJ BC):=scK #[3]
theorem LN(F:Fun K "is_whole" "is_whole" BC f fd)(T:Txt mg):FnOk P w K mg base CX0 1 f fd ["thing"] spWhole:=by
 refine F.ok scWhole #[8] #[2]
 ·obtain⟨v,k,rfl,_⟩:=h
  rfl
 ·obtain⟨v,k,rfl,hk,q⟩:=h;refine⟨_,jF (jP (EH (zF SR T.isi T.int boot_int (pv 0)) (NU (YQ (zF MH T.isi T.bool boot_bool (pv 0)))))), ?_⟩;refine⟨_,rfl,rfl,k,hk,_,rfl, ?_⟩;refine wU (λe=>?_) (λe=>?_)
  ·refine⟨_,rfl,rfl,k,hk,_,rfl, ?_⟩;cases k<;>first | exact q | exact absurd e #[0]
  ·cases k<;>first | exact q | exact absurd rfl e
theorem scGcd:FnScope ["one","other"] ["one","other"] (jJ IO):=scK #[3]
theorem RM :MtR X "int.bit_length" (λx xs H Q=>∃i:Int,x=.int i/\xs=[]/\Q (.int (Builtin.Int.intBits i:Nat)) H):=by
 intro ac s σ H x xs v us Q I rx rs q;obtain⟨i,rfl,rfl,q⟩:=q;obtain⟨t,rfl⟩:=rx;cases rs;exact call_int_bit_length ⟨.int (Builtin.Int.intBits i:Nat),H,I.tok _,⟨_,rfl⟩,q⟩
theorem IZ(F:Fun K "greatest_divisor" "greatest_divisor" IO f fd)(T:Txt mg):FnOk P w K mg base CX0 1 f fd ["one","other"] spGcd:=by
 obtain⟨tl,hl⟩:=T.lbits;refine F.ok scGcd #[8] #[2]
 ·obtain⟨a,b,rfl,_⟩:=h
  rfl
 ·obtain⟨a,b,rfl,hb,hs,k⟩:=h;refine⟨_,jC (LF PassesOwn.never (jO AD (pv 1) jD (jS _))
    (jF (kE (jO yT (YU PySem.F.plainAttrs_int slot_int_bit_length type_int_bit_length RM (pv 1)) (kT (v:=.int 8000) (by rfl) hl ⟨_,rfl⟩) (jS _)) GJ
     (jF (NR (i:=0) (j:=1) rfl scGcd.nd rfl rfl #[0] rfl rfl (jA (pv 1) (jA (jM vX (pv 0) (pv 1)) jB)) rfl)))))
   (jF (jP (pv 0))), ?_⟩
  refine KG (fun σ H1=>H1=H/\∃p q:Int,σ=[some (.int p),some (.int q)]/\0<=q/\(0<q∨0<=p)/\q.natAbs<2^8000/\Int.gcd p q=Int.gcd a b)
   (fun σ _=>match σ with | [_,some (.int q)]=>q.toNat | _=>0) ⟨rfl,a,b,rfl,by omega,.inl hb,hs,rfl⟩ ?_ ?_
  ·rintro σ H1 ⟨rfl,p,q,rfl,h0,h1,hq8,h2⟩;refine⟨_,rfl,rfl,_,rfl, ?_⟩;refine wU (λe=>?_) (λe=>?_)
   ·have hq:0<q:=by
     have:q≠0:=λz=>by simp [z]at e
     omega
    have hbits:(Builtin.Int.intBits q)<=8000:=PySem.intBits_le_iff.mpr hq8;refine⟨_,rfl,rfl,_,rfl,rfl,_,_,rfl,rfl,_,rfl,qT (nC #[1]) ?_⟩;refine⟨_,rfl,_,rfl,_,rfl,_,_,rfl,rfl,hq,_,_,rfl, ?_⟩;have m1:=Int.emod_nonneg p (b:=q) #[1];have m2:=Int.emod_lt_of_pos p hq;have m3:(p%q).natAbs<=q.natAbs:=by omega
    refine⟨⟨rfl,q,p%q,rfl,m1,.inr h0,gZ m3 hq8,(LwM.MI p q).trans h2⟩, ?_⟩;show(p%q).toNat<q.toNat;omega
   ·have hq:q=0:=by
     by_cases z:q=0
     ·exact z
     ·exact absurd (by simp [z]) e
    subst hq;refine⟨_,rfl, ?_⟩;have:p=((Int.gcd a b:Nat):Int):=by
     rw[<-h2,Int.gcd_zero_right];omega
    rw[this];exact k
  ·rintro σ H1 Q1 Q2 hQ ⟨v,e,hs,k',ek,q⟩;exact⟨v,e,hs,k',ek,hQ _ _ q⟩
theorem scIsf:FnScope ["thing","top","bottom"] ["thing"] (jJ XZ):=scK #[3]
theorem ZT(F:Fun K "is_fraction" "is_fraction" XZ f fd)(T:Txt mg)(DW:Df K mg "is_whole" BC ["thing"] fW fdW)(DG:Df K mg "greatest_divisor" IO ["one","other"] fG fdG) :
 FnOk P w K mg base CX0 2 f fd ["thing"] spIsf:=by
 have GW:FnOk P w K mg base CX0 1 fW fdW ["thing"] spWhole:=LN DW.F T;have GG:FnOk P w K mg base CX0 1 fG fdG ["one","other"] spGcd:=IZ DG.F T;refine F.ok scIsf #[8] #[2]
 ·obtain⟨v,rfl,_⟩:=h
  rfl
 ·obtain⟨v,rfl,hv,q⟩:=h;refine⟨_,jC (kE (PW.pt (zM (vW (vP (zF AI T.isi T.tup boot_tuple (pv 0)))) (xW (jO AD (kF kR (by rfl) T.len PySem.boot_len (jA (pv 0) jB)) jD (jS _))))) (jF (jP zV)) jR)
   (jC (qP (pv 0) (kD rfl (jH (jG (i:=1) scIsf.nd rfl #[5]) (jH (jG (i:=2) scIsf.nd rfl #[5]) jY))))
   (jC (kE (PW.pt (zM (vW (vP (jZ GW hr rfl DW.m DW.F.kp DW.b .nil kW (jA (pv 1) jB)))) (zM (vW (vP (jZ GW hr rfl DW.m DW.F.kp DW.b .nil kW (jA (pv 2) jB)))) (xW (jO GY (pv 2) jD (jS _)))))) (jF (jP zV)) jR)
   (jF (jP (zG yU (jZ GG hr rfl DG.m DG.F.kp DG.b .nil kW (jA (pv 1) (jA (pv 2) jB))) jD (jS _)))))), ?_⟩
  cases hv with
  | @sc _ k hk n=>
   refine⟨_,rfl,rfl,k,hk,_,rfl, ?_⟩;refine xI (by cases k<;>first | rfl | exact absurd rfl n) (kI ?_);show Q (.bl false) H;rw[frac_sc hk n]at q;exact q
  | @tup a xs e hx=>
   rw[MK e]at q;refine⟨_,rfl,rfl,.tup,.tup e,_,rfl,vT ?_⟩;refine⟨_,rfl,a,xs,rfl,.inr (SqT.of e),rfl,_,rfl, ?_⟩;by_cases hl:xs.length=2
   ·match xs,hl,hx,e,q with
    | [x,y],_,hx,e,q=>
     refine vT ?_;obtain⟨_,k1,h1⟩:=hx x #[14];obtain⟨_,k2,h2⟩:=hx y #[14];refine⟨_,rfl,a,[x,y],rfl,SqT.of e,rfl,x,[y],rfl,y,[],rfl,rfl, ?_⟩;refine⟨_,rfl,x,k1,rfl,h1,_,rfl, ?_⟩;by_cases e1:k1=.int
     ·subst e1;cases h1 with
      | int t=>
      refine vT ?_;refine⟨_,rfl,y,k2,rfl,h2,_,rfl, ?_⟩;by_cases e2:k2=.int
      ·subst e2;cases h2 with
       | int b=>
       refine vT ?_;refine⟨_,rfl,_,_,rfl,rfl,_,rfl, ?_⟩;by_cases hb:b<1
       ·refine xI (nG hb) ?_;have z:zW [.int t,.int b]=false:=by
         show(decide (1<=b)&&_)=false;rw[nC #[1]]
         rfl
        rw[z]at q;exact q
       ·refine qT (nC hb) ?_;refine⟨_,rfl,_,rfl,t,b,rfl,by omega,hW (hx (.int b) #[14]).1 (gT #[0] #[0]),rfl, ?_⟩;have z:zW [.int t,.int b]=decide (V.int (Int.gcd t b:Int)=V.int 1):=by
         show(decide (1<=b)&&decide (Int.gcd t b=1))=_;rw[nG (by omega:1<=b),JY];by_cases g:Int.gcd t b=1
         ·simp [g]
         ·have:¬((Int.gcd t b:Int)=1):=by omega
          simp [g,this]
        rw[z]at q;exact q
      ·refine xI (by simp [e2]) ?_;refine kI ?_;rw[YY (by cases h2<;>first | exact absurd rfl e2 | (intro n z;cases z))]at q;exact q
     ·refine xI (by simp [e1]) ?_;refine kI ?_;rw[YZ (by cases h1<;>first | exact absurd rfl e1 | (intro n z;cases z))]at q;exact q
   ·refine xI ?_ ?_
    ·rw[nC]
     ·rfl
     ·intro z;injection z with z
      omega
    ·rw[EK hl]at q;exact q
theorem RT{t b:Int}(h:0<b):yG t b=t/(Int.gcd t b:Int)/\yV t b=b/(Int.gcd t b:Int):=by
 unfold yG yV;rw[tT #[1],tT #[1]];exact⟨rfl,rfl⟩
theorem at_ints{ns:List Int}{i:Int}(h0:0<=i)(h1:i<ns.length):∃c:Int,atI #[15] i=some (.int c):=by
 obtain⟨j,rfl⟩:=gI h0;have hj:j<ns.length:=by omega
 exact⟨ns[j],qO (by simp [hj])⟩
theorem scLow:FnScope ["top","bottom","one","other"] ["top","bottom"] (jJ XY):=scK #[3]
theorem ZS(F:Fun K "_law_low" "_law_low" XY f fd)(T:Txt mg):FnOk P w K mg base CX0 1 f fd ["top","bottom"] spLow:=by
 refine F.ok scLow #[8] #[2]
 ·obtain⟨t,b,rfl,_⟩:=h
  rfl
 ·obtain⟨t,b,rfl,hb,hs,k⟩:=h;refine⟨_,jC (kE (jO GY (pv 1) jD (jS _)) (jF (NR (i:=0) (j:=1) rfl scLow.nd rfl rfl #[0] rfl rfl (jA (jM zX jD (pv 0)) (jA (jM zX jD (pv 1)) jB)) rfl)) jR)
   (jC (jN (i:=2) scLow.nd rfl #[5] (kF call_abs (by rfl) T.abs boot_abs (jA (pv 0) jB)))
   (jC (jN (i:=3) scLow.nd rfl #[5] (pv 1))
   (jC (LF PassesOwn.never (jO yT (pv 2) jD (jS _)) (jF (NR (i:=2) (j:=3) rfl scLow.nd rfl rfl #[0] rfl rfl (jA (jM vX (pv 3) (pv 2)) (jA (pv 2) jB)) rfl)))
   (jF (jP (pe_tup (jA (jM LwD.AE (pv 0) (pv 3)) (jA (jM LwD.AE (pv 1) (pv 3)) jB)))))))), ?_⟩
  try dsimp only[cxK]
  refine⟨_,rfl,_,_,rfl,rfl,_,rfl, ?_⟩;have fin:∀t' b':Int,0<b'->(∀q:Int,0<q->q<=b'->LwD.CDivP t' q/\LwD.CDivP b' q)->t'=(if b<0 then 0-t else t)->b'=(if b<0 then 0-b else b)->Int.gcd t' b'=Int.gcd t b->
    (vM (zB (tCB (λxs H Q=>∃i,xs=[V.int i]/\Q (.int (if i<0 then -i else i)) H) (xM (kH 0) tNil)) (jV 2)) (vM (zB (kH 1) (jV 3)) (vM (NF (KL (tOp (rI0 λi j=>V.bl (decide (j<i))) (kH 2) (tC (.int 0)))) (tPar 2 3 (xM (tOp (rI (λ_ j=>0<j) λi j=>.int (i%j)) (kH 3) (kH 2)) (xM (kH 2) tNil)))) (KM (tTup (xM (tOp (rI LwD.CDivP λi j=>.int (i/j)) (kH 0) (kH 3)) (xM (tOp (rI LwD.CDivP λi j=>.int (i/j)) (kH 1) (kH 3)) tNil))))))) { nx:=λ_ H'=>Q .non H',rt:=Q } [some (.int t'),some (.int b'),none,none] H:=by
   intro t' b' hb' hs' et eb hg;refine⟨_,rfl,_,rfl,_,rfl, ?_⟩;refine KG (fun σ H1=>H1=H/\∃p q:Int,σ=[some (.int t'),some (.int b'),some (.int p),some (.int q)]/\0<=p/\0<q/\Int.gcd q p=Int.gcd t b)
    (fun σ _=>match σ with | [_,_,some (.int p),_]=>p.toNat | _=>0) ⟨rfl,_,b',rfl,by split<;>omega,hb', ?_⟩ ?_ ?_
   ·rw[<-hg,Int.gcd_comm t'];split
    ·exact Int.gcd_neg
    ·rfl
   ·rintro σ H1 ⟨rfl,p,q,rfl,h0,h1,h2⟩;refine⟨_,rfl,_,_,rfl,rfl,_,rfl, ?_⟩;refine wU (λe=>?_) (λe=>?_)
    ·have hp:0<p:=mK e;refine⟨_,rfl,_,rfl,_,_,rfl,rfl,hp,_,rfl,_,_,rfl, ?_⟩;have m1:=Int.emod_nonneg q (b:=p) #[1];have m2:=Int.emod_lt_of_pos q hp;refine⟨⟨rfl,q%p,p,rfl,m1,hp,(LwM.MI q p).trans h2⟩, ?_⟩;show(q%p).toNat<p.toNat;omega
    ·have hp:p=0:=by
      have:¬0<p:=λz=>e (nG z);omega
     subst hp;have hq:q=((Int.gcd t b:Nat):Int):=by
      rw[<-h2,Int.gcd_zero_right];omega
     have gb:q<=b':=by
      rw[hq,<-hg];exact LwM.gcd_le t' b' hb'
     obtain⟨c1,c2⟩:=hs' q h1 gb;refine⟨_,rfl,_,rfl,_,_,rfl,rfl,c1,_,rfl,_,rfl,_,_,rfl,rfl,c2,gA, ?_⟩;refine fresh λp H' n s1 e1=>k p H' n s1 ?_;rw[e1,hq,et,eb]
     rfl
   ·rintro σ H1 Q1 Q2 hQ ⟨v,e,i,j,e1,e2,k',ek,q⟩;exact⟨v,e,i,j,e1,e2,k',ek,hQ _ _ q⟩
  have hs2:∀t' b':Int,t'.natAbs=t.natAbs->b'.natAbs=b.natAbs->0<b'->∀q:Int,0<q->q<=b'->LwD.CDivP t' q/\LwD.CDivP b' q:=λt' b' e1 e2 h0 q h1 h2=>by
   rcases hs with hs | ⟨ha,hb2⟩
   ·have hq:q.natAbs<2^8000:=gZ #[1] hs;exact⟨LwD.MX ⟨h1,hq⟩,LwD.MX ⟨h1,hq⟩⟩
   ·exact⟨LwD.zK h1 uX (by rw[e1];exact ha),LwD.zK h1 uX (by rw[e2];exact hb2)⟩
  by_cases n:b<0
  ·refine xI (nG n) ?_;refine⟨_,rfl,_,_,rfl,rfl,_,rfl,_,_,rfl,rfl,_,_,rfl, ?_⟩;refine fin (0-t) (0-b) #[1] (hs2 _ _ #[1] #[1] #[1]) (by rw[tU n]) (by rw[tU n]) ?_;rw[Int.zero_sub,Int.zero_sub,Int.neg_gcd,Int.gcd_neg]
  ·refine qT (nC n) ?_;exact fin t b #[1] (hs2 _ _ rfl rfl #[1]) (by rw[tT n]) (by rw[tT n]) rfl
theorem scDraw:FnScope ["tape","many","spot","cell","some","rest"] ["tape","many"] (jJ GB):=scK #[3]
theorem RG(F:Fun K "_law_draw" "_law_draw" GB f fd)(T:Txt mg):FnOk P w K mg base CX0 1 f fd ["tape","many"] spDraw:=by
 refine F.ok scDraw #[8] #[2]
 ·obtain⟨tp,aa,B,rfl,_⟩:=h
  rfl
 ·obtain⟨tp,aa,B,rfl,cl,⟨ns,spot,rest,left,h1,h2,h3,h4,h5⟩,hB,hm,hm2,k⟩:=h;have hne:cl≠tp:=by
   rintro rfl;rw[h1]at h2;injection h2 with h2
   injection h2 with h2
   cases ns with
   | nil=>cases h2
   | cons n r=>injection h2 with z;cases z
  refine⟨_,jC (kE (jO yU (jU kX (pv 0) jD (λ_ _=>rfl)) jD (jS _))
    (jC (jN (i:=2) scDraw.nd rfl #[5] (jU kX (pv 0) jD (λ_ _=>rfl)))
    (jC (qP (jM qF (pv 2) jD) (BJ (pv 0) jD xV))
    (jC (jN (i:=3) scDraw.nd rfl #[5] jD)
    (jC (kE (jO yT (kF kR (by rfl) T.len PySem.boot_len (jA (jU kX (pv 0) jD (λ_ _=>rfl)) jB)) jD (jS _))
     (jF (jN (i:=3) scDraw.nd rfl #[5] (jU kX (jU kX (pv 0) jD (λ_ _=>rfl)) (jM vX (pv 2) (kF kR (by rfl) T.len PySem.boot_len (jA (jU kX (pv 0) jD (λ_ _=>rfl)) jB))) (λ_ _=>rfl)))) jR)
    (jC (kE (PW.pt (zM (jO op_ge (pv 2) (kF kR (by rfl) T.len PySem.boot_len (jA (jU kX (pv 0) jD (λ_ _=>rfl)) jB)) (jS _)) (xW (jO GY (pv 3) (jM IW jD jD) (jS _)))))
     (jC (jN (i:=4) scDraw.nd rfl #[5] (jM qF (jM qF (jM vX (jM uB (pv 2) (pv 2)) jD) (jM uB jD (pv 2))) jD))
     (jC (jN (i:=4) scDraw.nd rfl #[5] (jM vX (jM uB (jM qF (jM vX (pv 3) jD) jD) (pv 4)) jD))
     (jF (jP (jM vX (jM vX (jM qF (jM op_fdiv (jM vX (jM uB (pv 4) (pv 4)) jD) jD) (jM uB jD (pv 2))) jD) (pv 1)))))) jR)
    (jC (qP (jM zX (pv 3) (jM IW jD jD)) (BJ (pv 0) jD xV))
    (jF (qP jD (BJ (pv 0) jD xV))))))))) jR)
   (jC (qP (jM zX (jU kX (pv 0) jD (λ_ _=>rfl)) jD) (BJ (pv 0) jD xV))
   (jC (jN (i:=5) scDraw.nd rfl #[5] (jU kX (pv 0) jD (λ_ _=>rfl)))
   (jC (qP (jM qX (pv 5) (pv 1)) (BJ (pv 0) jD xV))
   (jF (jP (jM vX (pv 5) (pv 1))))))), ?_⟩
  try dsimp only[cxK]
  have hmd:aa.natAbs<2^8000:=by
   have:aa.natAbs<2^100:=by
    have h:((2^100:Nat):Int)=2^100:=by decide
    omega
   exact hW this (gT #[0] #[0])
  have tail:∀(spot' rest' left':Int) (a b c d:Option V) (H1:Hp),H1 tp=some (.lst [.ref cl,.int spot',.int rest',.int left'])->But tp H H1->0<=spot'->spot'<=B+1->
    (vM (zB (tOp (rI0 λi j=>V.int (i-j)) (tOp (LC K) (kH 0) (tC (.int 3))) (tC (.int 1))) (MJ (kH 0) (tC (.int 3)) rSetL))
     (vM (zB (tOp (LC K) (kH 0) (tC (.int 2))) (jV 5))
     (vM (zB (tOp (rI CDivL λi j=>.int (i/j)) (kH 5) (kH 1)) (MJ (kH 0) (tC (.int 2)) rSetL))
     (KM (tOp (rI (λ_ j=>0<j) λi j=>.int (i%j)) (kH 5) (kH 1)))))) { nx:=λ_ H'=>Q .non H',rt:=Q } [some (.ref tp),some (.int aa),a,b,c,d] H1:=by
   intro spot' rest' left' a b c d H1 g1 g2 g3 g4;refine(rvL rfl (SqL.of g1) rfl ⟨_,_,rfl,rfl, ?_⟩);refine gSet rfl g1 rfl ?_;refine(rvL rfl (SqL.of jE) rfl ?_);refine oVV rfl rfl ⟨hm,hmd⟩ (gSet rfl jE rfl ?_);refine⟨_,rfl,_,rfl,_,_,rfl,rfl,hm, ?_⟩;refine k _ _ (Int.emod_nonneg _ #[1]) (Int.emod_lt_of_pos _ hm) ⟨ns,spot',_,_,jE, ?_,h3,g3,g4⟩ ?_
   ·rw[jI hne,jI hne];exact g2 _ _ h2 hne
   ·exact(g2.trans (But.upd _ _ _)).trans (But.upd _ _ _)
  refine(rvL rfl (SqL.of h1) rfl ⟨rfl,_,rfl, ?_⟩);by_cases hl:left=0
  ·subst hl;refine xI #[0] ?_;refine(rvL rfl (SqL.of h1) rfl ?_);refine⟨_,rfl,_,_,rfl,rfl,gSet rfl h1 rfl ?_⟩;have T1:∀o,(upd H tp o) cl=some (.lst #[15]):=λo=>by
    rw[jI hne];exact h2
   have mid:∀(cell:Int) (b c:Option V),(vM (tIfS (tOr (KL (tOp (rI0 λi j=>V.bl (decide (j<=i))) (kH 2) (tCB (λxs H Q=>∃p ys,xs=[V.ref p]/\(SqL K H p ys∨SqT K H p ys)/\Q (.int ys.length) H) (xM (tOp (LC K) (kH 0) (tC (.int 0))) tNil))))
      (KL (tOp (rI0 λi j=>V.bl (decide (i<j))) (kH 3) (tOp (rI CPow λi j=>.int (i^j.toNat)) (tC (.int 10)) (tC (.int 18))))))
     (vM (zB (tOp (rI0 λi j=>V.int (i+j)) (tOp (rI0 λi j=>V.int (i+j)) (tOp (rI (λ_ j=>0<j) λi j=>.int (i%j)) (tOp (rI CMul λi j=>.int (i*j)) (kH 2) (kH 2)) (tC (.int 10007))) (tOp (rI CMul λi j=>.int (i*j)) (tC (.int 61)) (kH 2))) (tC (.int 7))) (jV 4))
     (vM (zB (tOp (rI (λ_ j=>0<j) λi j=>.int (i%j)) (tOp (rI CMul λi j=>.int (i*j)) (tOp (rI0 λi j=>V.int (i+j)) (tOp (rI (λ_ j=>0<j) λi j=>.int (i%j)) (kH 3) (tC (.int 999983))) (tC (.int 3))) (kH 4)) (tC (.int 1000003))) (jV 4))
     (KM (tOp (rI (λ_ j=>0<j) λi j=>.int (i%j)) (tOp (rI (λ_ j=>0<j) λi j=>.int (i%j)) (tOp (rI0 λi j=>V.int (i+j)) (tOp (rI CDiv λi j=>.int (i/j)) (tOp (rI (λ_ j=>0<j) λi j=>.int (i%j)) (tOp (rI CMul λi j=>.int (i*j)) (kH 4) (kH 4)) (tC (.int 999979))) (tC (.int 3))) (tOp (rI CMul λi j=>.int (i*j)) (tC (.int 131)) (kH 2))) (tC (.int 99991))) (kH 1)))))
     tNext)
     (vM (zB (tOp (rI0 λi j=>V.int (i-j)) (kH 3) (tOp (rI CPow λi j=>.int (i^j.toNat)) (tC (.int 10)) (tC (.int 18)))) (MJ (kH 0) (tC (.int 2)) rSetL))
     (zB (tC (.int 40)) (MJ (kH 0) (tC (.int 3)) rSetL))))
     { nx:=(vM (zB (tOp (rI0 λi j=>V.int (i-j)) (tOp (LC K) (kH 0) (tC (.int 3))) (tC (.int 1))) (MJ (kH 0) (tC (.int 3)) rSetL))
     (vM (zB (tOp (LC K) (kH 0) (tC (.int 2))) (jV 5))
     (vM (zB (tOp (rI CDivL λi j=>.int (i/j)) (kH 5) (kH 1)) (MJ (kH 0) (tC (.int 2)) rSetL))
     (KM (tOp (rI (λ_ j=>0<j) λi j=>.int (i%j)) (kH 5) (kH 1)))))) { nx:=λ_ H'=>Q .non H',rt:=Q },rt:=Q } [some (.ref tp),some (.int aa),some (.int spot),some (.int cell),b,c] (upd H tp (.lst [.ref cl,.int (spot+1),.int rest,.int 0])):=by
    intro cell b c;have pw:CPow 10 18:=⟨by decide,by decide,by decide⟩;have drawn:(vM (zB (tOp (rI0 λi j=>V.int (i+j)) (tOp (rI0 λi j=>V.int (i+j)) (tOp (rI (λ_ j=>0<j) λi j=>.int (i%j)) (tOp (rI CMul λi j=>.int (i*j)) (kH 2) (kH 2)) (tC (.int 10007))) (tOp (rI CMul λi j=>.int (i*j)) (tC (.int 61)) (kH 2))) (tC (.int 7))) (jV 4))
     (vM (zB (tOp (rI (λ_ j=>0<j) λi j=>.int (i%j)) (tOp (rI CMul λi j=>.int (i*j)) (tOp (rI0 λi j=>V.int (i+j)) (tOp (rI (λ_ j=>0<j) λi j=>.int (i%j)) (kH 3) (tC (.int 999983))) (tC (.int 3))) (kH 4)) (tC (.int 1000003))) (jV 4))
     (KM (tOp (rI (λ_ j=>0<j) λi j=>.int (i%j)) (tOp (rI (λ_ j=>0<j) λi j=>.int (i%j)) (tOp (rI0 λi j=>V.int (i+j)) (tOp (rI CDiv λi j=>.int (i/j)) (tOp (rI (λ_ j=>0<j) λi j=>.int (i%j)) (tOp (rI CMul λi j=>.int (i*j)) (kH 4) (kH 4)) (tC (.int 999979))) (tC (.int 3))) (tOp (rI CMul λi j=>.int (i*j)) (tC (.int 131)) (kH 2))) (tC (.int 99991))) (kH 1))))) { nx:=λ_ _=>False,rt:=Q } [some (.ref tp),some (.int aa),some (.int spot),some (.int cell),b,c] (upd H tp (.lst [.ref cl,.int (spot+1),.int rest,.int 0])):=by
     refine⟨_,rfl,_,rfl,_,_,rfl,rfl,.inl ⟨by omega,by omega⟩,_,_,rfl,rfl,(by show(0:Int)<_;decide), ?_⟩;refine⟨_,rfl,_,_,rfl,rfl,.inl ⟨by omega,by omega⟩,_,_,rfl,rfl,_,_,rfl,rfl, ?_⟩;have c1:=Int.emod_nonneg cell (b:=999983) #[0];have c2:=Int.emod_lt_of_pos cell (b:=999983) #[0];refine⟨_,rfl,_,_,rfl,rfl,(by show(0:Int)<_;decide),_,_,rfl,rfl,_,rfl,_,_,rfl,rfl,.inl ⟨by omega,by omega⟩,_,_,rfl,rfl,(by show(0:Int)<_;decide), ?_⟩;generalize hx:((cell%999983+3)*(spot*spot%10007+61*spot+7))=x;have d1:=Int.emod_nonneg x (b:=1000003) #[0];have d2:=Int.emod_lt_of_pos x (b:=1000003) #[0];refine⟨_,rfl,_,rfl,_,_,rfl,rfl,.inl ⟨by omega,by omega⟩,_,_,rfl,rfl,(by show(0:Int)<_;decide),_,_,rfl,rfl,⟨by decide,by decide⟩, ?_⟩;refine⟨_,rfl,_,_,rfl,rfl,.inl ⟨by decide,by decide⟩,_,_,rfl,rfl,_,_,rfl,rfl,(by show(0:Int)<_;decide),_,rfl,_,_,rfl,rfl,hm, ?_⟩;exact k _ _ (Int.emod_nonneg _ #[1]) (Int.emod_lt_of_pos _ hm) ⟨ns,spot+1,_,_,jE,T1 _,h3,by omega,by omega⟩ (But.upd _ _ _)
    refine⟨_,rfl,rvL rfl (SqL.of jE) rfl ⟨cl,_,rfl,.inl (SqL.of (T1 _)),_,_,rfl,rfl,_,rfl, ?_⟩⟩;by_cases z1:(#[15].length:Int)<=spot
    ·refine xI (nG z1) (kI ?_);exact drawn
    ·refine qT (nC z1) ?_;refine⟨_,rfl,_,_,rfl,rfl,pw,_,_,rfl,rfl,_,rfl, ?_⟩;by_cases z2:cell<(10:Int)^(18:Int).toNat
     ·refine xI (nG z2) ?_;exact drawn
     ·refine qT (nC z2) ?_;refine⟨_,rfl,_,_,rfl,rfl,pw,_,_,rfl,rfl,gSet rfl jE rfl ?_⟩;refine gSet rfl jE rfl ?_;exact tail (spot+1) _ 40 _ _ _ _ _ jE (((But.upd _ _ _).trans (But.upd _ _ _)).trans (But.upd _ _ _)) #[1] #[1]
   refine(rvL rfl (SqL.of jE) rfl ⟨cl,_,rfl,.inl (SqL.of (T1 _)),_,_,rfl,rfl,_,rfl, ?_⟩);by_cases hn:(0:Int)<(#[15].length:Int)
   ·refine xI (nG hn) ?_;obtain⟨c,hc⟩:=at_ints (ns:=ns) (i:=spot%(#[15].length:Int)) (Int.emod_nonneg _ #[1]) (by have:=Int.emod_lt_of_pos spot hn;rw[mY]at this ⊢;exact this);refine(rvL rfl (SqL.of jE) rfl ⟨_,rfl,rvL rfl (SqL.of jE) rfl ⟨cl,_,rfl,.inl (SqL.of (T1 _)),_,_,rfl,rfl,hn,cl,_,_,_,rfl,rfl,SqL.of (T1 _),hc, ?_⟩⟩);exact mid c _ _
   ·refine qT (nC hn) ?_;exact mid 0 _ _
  ·refine qT (nC (by intro z;injection z with z;exact hl z)) ?_;exact tail spot rest left _ _ _ _ H h1 (But.refl _ _) h4 #[1]
end Lw
namespace LwV
abbrev Pl:=List (List Int×Rat)
def cf:Pl->List Int->Rat
 | [],_=>0
 | x::P,m=>(if x.1=m then x.2 else 0)+cf P m
theorem yN(x:List Int×Rat)(P:Pl)(m:List Int):cf (x::P) m=(if x.1=m then x.2 else 0)+cf P m:=rfl
theorem FH:∀(P Q:Pl) (m:List Int),cf (P++Q) m=cf P m+cf Q m
 | [],Q,m=>by show cf Q m=0+cf Q m;grind
 | x::P,Q,m=>by rw[List.cons_append,yN,yN,FH P Q m];grind
theorem JZ{m:List Int}(h:∀x∈P,x.1≠m):cf P m=0:=by
 induction P with
 | nil=>rfl
 | cons x P ih=>
  rw[yN,tT (h x #[14]),ih λy hy=>h y (by simp [hy])]
  grind
theorem TK{P:Pl}{m:List Int}(h:cf P m≠0):m∈P.map (·.1):=by
 refine gD λn=>h (JZ λx hx e=>n ?_);exact nY.mpr ⟨x,hx,e⟩
theorem FF{P:Pl}(nd:(P.map (·.1)).Nodup){x:List Int×Rat}(hx:x∈P):cf P x.1=x.2:=by
 induction P with
 | nil=>cases hx
 | cons y P ih=>
  rw[nO,List.nodup_cons]at nd;rw[yN];rcases nP.mp hx with rfl | h
  ·rw[tU rfl,JZ λz hz e=>nd.1 (nY.mpr ⟨z,hz,e⟩)]
   grind
  ·rw[tT λe=>nd.1 (nY.mpr ⟨x,h,e.symm⟩),ih nd.2 h]
   grind
end LwV
namespace LwQ
theorem NP{t b o u t' b':Int}{R1 R2:Nat}(hb:0<b)(hu:0<u)(h:t'*(b*u)=(t*u+o*b)*b')(h1:t.natAbs<=R1*b.natAbs)(h2:o.natAbs<=R2*u.natAbs):t'.natAbs<=(R1+R2)*b'.natAbs:=by
 have e:=congrArg Int.natAbs h;rw[nH,nH,nH]at e;have k:(t*u+o*b).natAbs<=(R1+R2)*(b.natAbs*u.natAbs):=by
  refine nW (Int.natAbs_add_le _ _) ?_;rw[nH,nH,Nat.add_mul];refine Nat.add_le_add ?_ ?_
  ·calc t.natAbs*u.natAbs<=R1*b.natAbs*u.natAbs:=gW _ h1
    _=R1*(b.natAbs*u.natAbs):=Nat.mul_assoc ..
  ·calc o.natAbs*b.natAbs<=R2*u.natAbs*b.natAbs:=gW _ h2
    _=R2*(b.natAbs*u.natAbs):=by rw[Nat.mul_assoc,Nat.mul_comm u.natAbs]
 have p:0<b.natAbs*u.natAbs:=Nat.mul_pos #[1] #[1];refine Nat.le_of_mul_le_mul_right ?_ p;rw[e]
 calc (t*u+o*b).natAbs*b'.natAbs<=(R1+R2)*(b.natAbs*u.natAbs)*b'.natAbs:=gW _ k
  _=(R1+R2)*b'.natAbs*(b.natAbs*u.natAbs):=by grind
theorem xN{a:Int}{m n:Nat}(ha:a.natAbs<=2^m)(h:m<=n):a.natAbs<=2^n:=nW ha (gT #[0] h)
end LwQ
namespace Lw
open PySem PySem.Spec PyProof.Rows L2
structure FrOk(n:Nat)(t b:Int):Prop where
 pos:0<b
 low:Int.gcd t b=1
 st:t.natAbs<2^n
 sb:b.natAbs<2^n
def At2(H:Hp)(p:Addr)(t b:Int):Prop:=H p=some (.tup [.int t,.int b])
theorem AX{a b:Int}{m n:Nat}(ha:a.natAbs<2^m)(hb:b.natAbs<2^n):(a*b).natAbs<2^(m+n):=by
 rw[nH,tO];exact Nat.mul_lt_mul'' ha hb
theorem abs_add{a b:Int}{n:Nat}(ha:a.natAbs<2^n)(hb:b.natAbs<2^n):(a+b).natAbs<2^(n+1):=by
 rw[Nat.pow_succ];omega
theorem jT{a:Int}{m n:Nat}(ha:a.natAbs<2^m)(h:m<=n):a.natAbs<2^n:=hW ha (gT #[0] h)
theorem vB{a g:Int}{n:Nat}(ha:a.natAbs<2^n)(hg:1<=g):(a/g).natAbs<2^n:=gZ (LwM.AQ a g hg) ha
theorem CO{a b:Int}{n:Nat}(hb:0<b)(hs:b.natAbs<2^n):((Int.gcd a b:Nat):Int).natAbs<2^n:=by
 have:=LwM.gcd_le a b hb;have:=LwM.vF a b hb;omega
theorem vK{t b:Int}(h:0<b):yG t b=t/(Int.gcd t b:Int):=(RT h).1
theorem yB{t b:Int}(h:0<b):yV t b=b/(Int.gcd t b:Int):=(RT h).2
def spTwo(K:tV)(nt nb:Int->Int->Int->Int->Int):Sp:=λvs H Q _=>∃(p q:Addr) (t b o u:Int),vs=[.ref p,.ref q]/\SqT K H p [.int t,.int b]/\SqT K H q [.int o,.int u]/\FrOk 7900 t b/\FrOk 7900 o u/\
 ∀(r:Addr) (H':Hp),H r=none->Same H H'->At2 H' r (yG (nt t b o u) (nb t b o u)) (yV (nt t b o u) (nb t b o u))->Q (.ref r) H'
abbrev DS(K:tV):Sp:=spTwo K (λt _ o _=>t*o) (λ_ b _ u=>b*u)
theorem vJ{K:tV}{H H':Hp}{a:Addr}{xs:List V}(s:Same H H')(h:SqT K H a xs):SqT K H' a xs:=by
 rcases h with(h | ⟨o,h⟩) | h
 ·exact .inl (.inl (s _ _ h))
 ·exact .inl (.inr ⟨o,s _ _ h⟩)
 ·exact .inr h
variable{P:Program}{w:World}{K:tV}{mg:Str->Option Value}{base:Heap}{f fd:_}
theorem scMul:FnScope ["one","other","top","bottom","over","under","first","second"] ["one","other"] (jJ KU):=scK #[3]
theorem ZR(F:Fun K "multiplied" "multiplied" KU f fd)(T:Txt mg)(DG:Df K mg "greatest_divisor" IO ["one","other"] fG fdG):FnOk P w K mg base CX0 2 f fd ["one","other"] (DS K):=by
 have GG:FnOk P w K mg base CX0 1 fG fdG ["one","other"] spGcd:=IZ DG.F T;refine F.ok scMul #[8] #[2]
 ·obtain⟨p,q,t,b,o,u,rfl,_⟩:=h
  rfl
 ·obtain⟨p,q,t,b,o,u,rfl,hp,hq,f1,f2,k⟩:=h;refine⟨_,jC (qP (pv 0) (kD rfl (jH (jG (i:=2) scMul.nd rfl #[5]) (jH (jG (i:=3) scMul.nd rfl #[5]) jY))))
   (jC (qP (pv 1) (kD rfl (jH (jG (i:=4) scMul.nd rfl #[5]) (jH (jG (i:=5) scMul.nd rfl #[5]) jY))))
   (jC (jN (i:=6) scMul.nd rfl #[5] (jZ GG hr rfl DG.m DG.F.kp DG.b .nil kW (jA (pv 2) (jA (pv 5) jB))))
   (jC (jN (i:=7) scMul.nd rfl #[5] (jZ GG hr rfl DG.m DG.F.kp DG.b .nil kW (jA (pv 4) (jA (pv 3) jB))))
   (jF (jP (kC (jA (jM qA (jM qX (pv 2) (pv 6)) (jM qX (pv 4) (pv 7))) (jA (jM qA (jM qX (pv 3) (pv 7)) (jM qX (pv 5) (pv 6))) jB)))))))), ?_⟩
  try dsimp only[cxK]
  refine⟨_,rfl,p,_,rfl,hp,rfl,_,_,rfl,_,_,rfl,rfl, ?_⟩;refine⟨_,rfl,q,_,rfl,hq,rfl,_,_,rfl,_,_,rfl,rfl, ?_⟩;refine⟨_,rfl,_,rfl,t,u,rfl,f2.pos,jT f2.sb #[0], ?_⟩;refine⟨_,rfl,_,rfl,o,b,rfl,f1.pos,jT f1.sb #[0], ?_⟩;have a1:=LwM.vF t u f2.pos;have a2:=LwM.vF o b f1.pos;have d1:CDivL t (Int.gcd t u:Int):=⟨by omega,jT (CO f2.pos f2.sb) #[0]⟩;have d2:CDivL t (Int.gcd o b:Int):=⟨by omega,jT (CO f1.pos f1.sb) #[0]⟩;have m:=LwM.mul_low f1.pos f2.pos f1.low f2.low;refine⟨_,rfl,_,rfl,_,_,rfl,rfl,d1,_,rfl,_,rfl,_,_,rfl,rfl,d2,_,_,rfl,rfl,⟨jT (vB f1.st a1) #[0],jT (vB f2.st a2) #[0]⟩, ?_⟩;refine⟨_,rfl,_,rfl,_,_,rfl,rfl,d2,_,rfl,_,rfl,_,_,rfl,rfl,d1,_,_,rfl,rfl,⟨jT (vB f1.sb a2) #[0],jT (vB f2.sb a1) #[0]⟩,gA,λr H' n s e=>?_⟩;refine k r H' n s ?_;have bu:=tM f1.pos f2.pos;show H' r=_;rw[e,vK bu,yB bu];dsimp only;rw[m.1,m.2]
def NJ(K:tV):Sp:=λvs H Q _=>∃(p q:Addr) (t b o u:Int),vs=[.ref p,.ref q]/\SqT K H p [.int t,.int b]/\SqT K H q [.int o,.int u]/\FrOk 7900 t b/\FrOk 7900 o u/\o≠0/\
 ∀(r:Addr) (H':Hp),H r=none->Same H H'->At2 H' r (yG (t*u) (b*o)) (yV (t*u) (b*o))->Q (.ref r) H'
theorem CN{t b:Int}(h:b<0):yG (-t) (-b)=yG t b/\yV (-t) (-b)=yV t b:=by
 unfold yG yV;simp only[tT (show ¬(-b<0) by omega),tU h,Int.neg_gcd,Int.gcd_neg,Int.zero_sub];exact⟨trivial,trivial⟩
theorem scDiv:FnScope ["one","other","over","under"] ["one","other"] (jJ YA):=scK #[3]
theorem ok_divN(F:Fun K "divided" "divided" YA f fd)(T:Txt mg)(DM:Df K mg "multiplied" KU ["one","other"] fM fdM)(DG:Df K mg "greatest_divisor" IO ["one","other"] fG fdG):FnOk P w K mg base CX0 3 f fd ["one","other"] (NJ K):=by
 have GM:FnOk P w K mg base CX0 2 fM fdM ["one","other"] (DS K):=ZR DM.F T DG;refine F.ok scDiv #[8] #[2]
 ·obtain⟨p,q,t,b,o,u,rfl,_⟩:=h
  rfl
 ·obtain⟨p,q,t,b,o,u,rfl,hp,hq,f1,f2,ho,k⟩:=h;refine⟨_,jC (qP (pv 1) (kD rfl (jH (jG (i:=2) scDiv.nd rfl #[5]) (jH (jG (i:=3) scDiv.nd rfl #[5]) jY))))
   (jC (kE (jO yU (pv 2) jD (jS _)) (jF kP) jR)
   (jC (kE (jO GY (pv 2) jD (jS _)) (jF (jP (jZ GM hr rfl DM.m DM.F.kp DM.b .nil kW (jA (pv 0) (jA (kC (jA (GQ AZ (pv 3)) (jA (GQ AZ (pv 2)) jB))) jB))))) jR)
   (jF (jP (jZ GM hr rfl DM.m DM.F.kp DM.b .nil kW (jA (pv 0) (jA (kC (jA (pv 3) (jA (pv 2) jB))) jB))))))), ?_⟩
  try dsimp only[cxK]
  refine⟨_,rfl,q,_,rfl,hq,rfl,_,_,rfl,_,_,rfl,rfl, ?_⟩;refine⟨_,rfl,rfl,_,rfl,qT (nC (by intro z;injection z with z;exact ho z)) ?_⟩;refine⟨_,rfl,_,_,rfl,rfl,_,rfl, ?_⟩;have gc:Int.gcd u o=1:=by rw[Int.gcd_comm];exact f2.low
  by_cases hn:o<0
  ·refine xI (nG hn) ?_;refine⟨_,rfl,_,rfl,_,rfl,_,rfl,_,rfl,gA,λz H1 n1 s1 e1=>?_⟩;refine⟨p,z,t,b,-u,-o,rfl,vJ s1 hp,SqT.of e1,f1,⟨by omega,by rw[Int.neg_gcd,Int.gcd_neg];exact gc,by rw[Int.natAbs_neg];exact f2.sb,by rw[Int.natAbs_neg];exact f2.st⟩,λr H' n s e=>?_⟩;refine k r H' (s1.free n) (s1.trans s) ?_;dsimp only at e;rw[Int.mul_neg,Int.mul_neg,(CN (Int.mul_neg_of_pos_of_neg f1.pos hn)).1,(CN (Int.mul_neg_of_pos_of_neg f1.pos hn)).2]at e;exact e
  ·refine qT (nC hn) ?_;refine⟨_,rfl,_,rfl,_,rfl,gA,λz H1 n1 s1 e1=>?_⟩;refine⟨p,z,t,b,u,o,rfl,vJ s1 hp,SqT.of e1,f1,⟨by omega,gc,f2.sb,f2.st⟩,λr H' n s e=>?_⟩;exact k r H' (s1.free n) (s1.trans s) e
abbrev BB(K:tV):Sp:=spTwo K (λt b o u=>t*u+o*b) (λ_ b _ u=>b*u)
theorem scAddF:FnScope ["one","other","top","bottom","over","under","shared","total","left"] ["one","other"] (jJ EB):=scK #[3]
theorem ok_addF(F:Fun K "added" "added" EB f fd)(T:Txt mg)(DG:Df K mg "greatest_divisor" IO ["one","other"] fG fdG):FnOk P w K mg base CX0 2 f fd ["one","other"] (BB K):=by
 have GG:FnOk P w K mg base CX0 1 fG fdG ["one","other"] spGcd:=IZ DG.F T;refine F.ok scAddF #[8] #[2]
 ·obtain⟨p,q,t,b,o,u,rfl,_⟩:=h
  rfl
 ·obtain⟨p,q,t,b,o,u,rfl,hp,hq,f1,f2,k⟩:=h;refine⟨_,jC (qP (pv 0) (kD rfl (jH (jG (i:=2) scAddF.nd rfl #[5]) (jH (jG (i:=3) scAddF.nd rfl #[5]) jY))))
   (jC (qP (pv 1) (kD rfl (jH (jG (i:=4) scAddF.nd rfl #[5]) (jH (jG (i:=5) scAddF.nd rfl #[5]) jY))))
   (jC (jN (i:=6) scAddF.nd rfl #[5] (jZ GG hr rfl DG.m DG.F.kp DG.b .nil kW (jA (pv 3) (jA (pv 5) jB))))
   (jC (jN (i:=7) scAddF.nd rfl #[5] (jM qF (jM qA (pv 2) (jM qX (pv 5) (pv 6))) (jM qA (pv 4) (jM qX (pv 3) (pv 6)))))
   (jC (jN (i:=8) scAddF.nd rfl #[5] (jZ GG hr rfl DG.m DG.F.kp DG.b .nil kW (jA (pv 7) (jA (pv 6) jB))))
   (jF (jP (kC (jA (jM qX (pv 7) (pv 8)) (jA (jM qA (jM qX (pv 3) (pv 6)) (jM qX (pv 5) (pv 8))) jB))))))))), ?_⟩
  refine⟨_,rfl,p,_,rfl,hp,rfl,_,_,rfl,_,_,rfl,rfl, ?_⟩;refine⟨_,rfl,q,_,rfl,hq,rfl,_,_,rfl,_,_,rfl,rfl, ?_⟩;have s1:=LwM.vF b u f2.pos;have sA:((Int.gcd b u:Nat):Int).natAbs<2^7900:=CO f2.pos f2.sb;have sD:CDivL u (Int.gcd b u:Int):=⟨by omega,jT sA #[0]⟩;refine⟨_,rfl,_,rfl,b,u,rfl,f2.pos,jT f2.sb #[0], ?_⟩;refine⟨_,rfl,_,rfl,_,rfl,_,_,rfl,rfl,sD,_,_,rfl,rfl,⟨jT f1.st #[0],jT (vB f2.sb s1) #[0]⟩, ?_⟩;refine⟨_,rfl,_,rfl,_,rfl,_,_,rfl,rfl,sD,_,_,rfl,rfl,⟨jT f2.st #[0],jT (vB f1.sb s1) #[0]⟩,_,_,rfl,rfl, ?_⟩;have tA:(t*(u/(Int.gcd b u:Int))+o*(b/(Int.gcd b u:Int))).natAbs<2^15801:=abs_add (n:=15800) (AX (m:=7900) (n:=7900) f1.st (vB f2.sb s1)) (AX (m:=7900) (n:=7900) f2.st (vB f1.sb s1));refine⟨_,rfl,_,rfl,_,_,rfl,by omega,jT sA #[0], ?_⟩;have m:=LwM.add_low f1.pos f2.pos f1.low f2.low;have l1:=LwM.vF (t*(u/(Int.gcd b u:Int))+o*(b/(Int.gcd b u:Int))) (Int.gcd b u:Int) #[1];have lA:((Int.gcd (t*(u/(Int.gcd b u:Int))+o*(b/(Int.gcd b u:Int))) (Int.gcd b u:Int):Nat):Int).natAbs<2^7900:=CO #[1] sA;generalize hT:t*(u/(Int.gcd b u:Int))+o*(b/(Int.gcd b u:Int))=T at *;generalize hl:(Int.gcd T (Int.gcd b u:Int):Int)=l at *;have lD:CDivL u l:=⟨by omega,jT lA #[0]⟩;refine⟨_,rfl,_,rfl,_,_,rfl,rfl,lD,_,rfl,_,rfl,_,_,rfl,rfl,sD,_,rfl,_,rfl,_,_,rfl,rfl,lD,_,_,rfl,rfl,⟨jT (vB f1.sb s1) #[0],jT (vB f2.sb #[1]) #[0]⟩,gA,λr H' n s e=>?_⟩
  refine k r H' n s ?_;have bu:=tM f1.pos f2.pos;show H' r=_;rw[e,vK bu,yB bu];dsimp only;rw[hT,m.1,m.2]
open LwQ LwV
end Lw
namespace LwQ
def fv(t b:Int):Rat:=(t:Rat)/(b:Rat)
theorem cne{b:Int}(h:0<b):(b:Rat)≠0:=by
 intro z;have:b=0:=Rat.intCast_inj.mp (by rw[z];rfl);omega
theorem fv_eq{t b o u:Int}(hb:0<b)(hu:0<u)(h:t*u=o*b):fv t b=fv o u:=by
 have h1:=cne hb;have h2:=cne hu;have h3:(t:Rat)*(u:Rat)=(o:Rat)*(b:Rat):=by rw[<-nF,<-nF,h]
 unfold fv
 grind
theorem fv_inj{t b o u:Int}(hb:0<b)(hu:0<u)(h:fv t b=fv o u):t*u=o*b:=by
 have h1:=cne hb;have h2:=cne hu;unfold fv at h;have h3:(t:Rat)*(u:Rat)=(o:Rat)*(b:Rat):=by grind
 rw[<-nF,<-nF]at h3;exact Rat.intCast_inj.mp h3
theorem fv_add{t b o u:Int}(hb:0<b)(hu:0<u):fv (t*u+o*b) (b*u)=fv t b+fv o u:=by
 have h1:=cne hb;have h2:=cne hu;unfold fv;rw[Rat.intCast_add,nF,nF,nF]
 grind
theorem fv_mul{t b o u:Int}(hb:0<b)(hu:0<u):fv (t*o) (b*u)=fv t b*fv o u:=by
 have h1:=cne hb;have h2:=cne hu;unfold fv;rw[nF,nF]
 grind
theorem CT{b t u:Int}(g:Int.gcd t b=1)(h:b∣t*u):b∣u:=by
 have h:=Int.natAbs_dvd_natAbs.mpr h;rw[nH]at h;have c:Nat.Coprime b.natAbs t.natAbs:=by
  have:Nat.gcd t.natAbs b.natAbs=1:=g;rw[Nat.gcd_comm]at this;exact this
 exact Int.natAbs_dvd_natAbs.mp (c.dvd_of_dvd_mul_left h)
theorem low_uniq{t b o u:Int}(hb:0<b)(hu:0<u)(g1:Int.gcd t b=1)(g2:Int.gcd o u=1)(h:t*u=o*b):t=o/\b=u:=by
 have d1:b∣u:=by
  have:b∣t*u:=⟨o,by rw[h,tJ]⟩;exact CT g1 this
 have d2:u∣b:=by
  have:u∣o*b:=⟨t,by rw[<-h,tJ]⟩;exact CT g2 this
 have e:b=u:=Int.dvd_antisymm #[1] #[1] d1 d2;subst e;exact⟨Int.eq_of_mul_eq_mul_right #[1] h,rfl⟩
theorem vV(x:Rat):fv x.num x.den=x:=by
 unfold fv;have:=Rat.num_divInt_den x;rw[Rat.divInt_eq_div]at this;exact this
theorem kU(x:Rat):0<(x.den:Int)/\Int.gcd x.num x.den=1:=⟨by have:=x.den_pos;omega,x.reduced⟩
theorem ZX{t b:Int}(hb:0<b)(g:Int.gcd t b=1):(fv t b).num=t/\((fv t b).den:Int)=b:=by
 have n:=kU (fv t b);have e:=fv_inj n.1 hb (vV (fv t b));exact low_uniq n.1 hb n.2 g e
def Wh(D:Int)(x:Rat):Prop:=∃z:Int,x*(D:Rat)=(z:Rat)
theorem Wh.dvd{D t b:Int}(hb:0<b)(g:Int.gcd t b=1)(h:Wh D (fv t b)):b∣D:=by
 obtain⟨z,hz⟩:=h;have h1:=cne hb;have e:(t:Rat)*(D:Rat)=(z:Rat)*(b:Rat):=by unfold fv at hz;grind
 rw[<-nF,<-nF]at e;have e:=Rat.intCast_inj.mp e;have:b∣t*D:=⟨z,by rw[e,tJ]⟩;exact CT g this
theorem Wh.of{t b:Int}(hb:0<b):Wh b (fv t b):=⟨t,by have h1:=cne hb;unfold fv;grind⟩
end LwQ
namespace Lw
open PySem PySem.Spec PyProof.Rows L2 LwQ
theorem VB{n d:Int}(hd:0<d):yG n d*d=n*yV n d:=by
 rw[vK hd,yB hd];obtain⟨a,ha⟩:=mV (a:=n) (b:=d);obtain⟨b,hb⟩:=mN (a:=n) (b:=d);have g1:=LwM.vF n d hd;generalize (Int.gcd n d:Int)=g at ha hb g1;subst ha hb;rw[Int.mul_ediv_cancel_left _ #[1],Int.mul_ediv_cancel_left _ #[1]]
 grind
theorem MB{n d:Int}(hd:0<d):0<yV n d:=by
 have g1:=LwM.vF n d hd;rw[yB hd];exact Int.ediv_pos_of_pos_of_dvd hd #[1] (mN ..)
theorem RU{n d:Int}(hd:0<d):Int.gcd (yG n d) (yV n d)=1:=by
 have g1:=LwM.vF n d hd;rw[vK hd,yB hd];exact Int.gcd_ediv_gcd_ediv_gcd #[1]
theorem lowT_le{n d:Int}(hd:0<d):(yG n d).natAbs<=n.natAbs:=by
 rw[vK hd];exact LwM.AQ _ _ (LwM.vF n d hd)
theorem fv_low{n d:Int}(hd:0<d):fv (yG n d) (yV n d)=fv n d:=fv_eq (MB hd) hd (VB hd)
theorem cross{x:Rat}{t b:Int}(hb:0<b)(h:x=fv t b):x.num*b=t*x.den:=by
 have n:=kU x;exact fv_inj n.1 hb (by rw[vV,h])
def SzR(n:Nat)(x:Rat):Prop:=x.num.natAbs<2^n/\x.den<2^n
theorem SzR.fr{n:Nat}{x:Rat}(h:SzR n x)(k:n<=7900):FrOk 7900 x.num x.den:=
 ⟨(kU x).1,(kU x).2,jT h.1 k,jT (by rw[mC];exact h.2) k⟩
theorem BR{N D:Int}{z:Rat}(h:At2 H r (yG N D) (yV N D))(hD:0<D)(e:fv N D=z):At2 H r z.num z.den:=by
 have nm:=ZX (MB (n:=N) hD) (RU hD);rw[fv_low hD,e]at nm;unfold At2;rw[nm.1,nm.2];exact h
theorem at_lowN{N D:Int}{z:Rat}(h:At2 H r (yG N D) (yV N D))(hD:D≠0)(e:fv N D=z):At2 H r z.num z.den:=by
 by_cases p:0<D
 ·exact BR h p e
 ·have q:D<0:=by omega
  rw[<-(CN q).1,<-(CN q).2]at h;refine BR h #[1] ?_;rw[<-e];unfold fv;rw[Rat.intCast_neg,Rat.intCast_neg];have:(D:Rat)≠0:=λz=>hD (Rat.intCast_inj.mp (by rw[z];rfl))
  grind
theorem SZ{x:Rat}{t b:Int}(hb:0<b)(h:x=fv t b):(x.den:Int)∣b/\x.num.natAbs<=t.natAbs:=by
 have n:=kU x;have d:(x.den:Int)∣b:=Wh.dvd n.1 n.2 (by rw[vV,h];exact Wh.of hb);refine⟨d, ?_⟩;obtain⟨k,hk⟩:=d;have c:=cross hb h;have k0:k≠0:=λz=>by rw[z,Int.mul_zero]at hk;omega
 have:x.num*k=t:=by
  have e:x.den*(x.num*k)=x.den*t:=by rw[hk]at c;grind
  exact Int.eq_of_mul_eq_mul_left #[1] e
 rw[<-this,nH];exact Nat.le_mul_of_pos_right _ #[1]
structure Ov(D:Int)(n:Nat)(x:Rat):Prop where
 ex:∃z:Int,x=fv z D/\z.natAbs<=2^n
theorem Ov.sz{D:Int}{n d k:Nat}{x:Rat}(h:Ov D n x)(hD:0<D)(hd:D.natAbs<=2^d)(h1:n<k)(h2:d<k):SzR k x:=by
 obtain⟨z,e,hz⟩:=h.ex;have q:=SZ hD e;have l:x.den<=D.natAbs:=by
  have:=Int.natAbs_dvd_natAbs.mpr q.1;rw[mC]at this;exact Nat.le_of_dvd #[1] this
 exact⟨gZ (nW q.2 hz) (gU #[0] h1),gZ (nW l hd) (gU #[0] h2)⟩
theorem Ov.up{D:Int}{n m:Nat}{x:Rat}(h:Ov D n x)(k:n<=m):Ov D m x:=let ⟨z,e,hz⟩:=h.ex;⟨z,e,nW hz (gT #[0] k)⟩
theorem Ov.zero(D:Int)(n:Nat):Ov D n 0:=⟨0,by unfold fv;rw[show((0:Int):Rat)=0 from rfl,tN,tF],tL _⟩
theorem Ov.scale{D c:Int}{n b:Nat}{x:Rat}(h:Ov D n x)(hD:0<D)(hc:0<c)(hb:c.natAbs<=2^b):Ov (D*c) (n+b) x:=by
 obtain⟨z,e,hz⟩:=h.ex;refine⟨z*c, ?_, ?_⟩
 ·rw[e];exact fv_eq hD (tM hD hc) (by grind)
 ·rw[nH,tO];exact nJ hz hb
theorem SS{z y D:Int}(hD:0<D):fv z D+fv y D=fv (z+y) D:=by
 have h1:=cne hD;unfold fv;rw[Rat.intCast_add]
 grind
theorem Ov.add{D:Int}{n:Nat}{x y:Rat}(h:Ov D n x)(k:Ov D n y)(hD:0<D):Ov D (n+1) (x+y):=by
 obtain⟨z,e,hz⟩:=h.ex;obtain⟨z',e',hz'⟩:=k.ex;refine⟨z+z',by rw[e,e',SS hD], ?_⟩;rw[Nat.pow_succ];omega
theorem Ov.imul{D i:Int}{n b:Nat}{x:Rat}(h:Ov D n x)(hi:i.natAbs<=2^b):Ov D (n+b) ((i:Rat)*x):=by
 obtain⟨z,e,hz⟩:=h.ex;refine⟨i*z, ?_, ?_⟩
 ·rw[e];unfold fv;rw[nF,tN,tN,Rat.mul_assoc]
 ·rw[nH,Nat.add_comm,tO];exact nJ hi hz
theorem Ov.div{D c:Int}{n:Nat}{x:Rat}(h:Ov D n x)(hD:0<D)(hc:c≠0):Ov (D*(c.natAbs:Int)) n (x/((c:Int):Rat)):=by
 obtain⟨z,e,hz⟩:=h.ex;have h1:=cne hD;have h2:(c:Rat)≠0:=λy=>hc (Rat.intCast_inj.mp (by rw[y];rfl));by_cases p:0<c
 ·refine⟨z, ?_,hz⟩;rw[show(c.natAbs:Int)=c by omega,e];unfold fv;rw[nF]
  grind
 ·refine⟨-z, ?_,by rw[Int.natAbs_neg];exact hz⟩;rw[show(c.natAbs:Int) = -c by omega,e];unfold fv;rw[nF,Rat.intCast_neg,Rat.intCast_neg]
  grind
theorem JP(i:Int):((i:Int):Rat).num=i/\(((i:Int):Rat).den:Int)=1:=⟨Rat.num_intCast i,by rw[Rat.den_intCast];rfl⟩
theorem JO{i:Int}{n:Nat}(h:i.natAbs<2^n)(hn:0<n):SzR n ((i:Int):Rat):=⟨by rw[(JP i).1];exact h,by rw[Rat.den_intCast];exact Nat.one_lt_two_pow #[1]⟩
def NumK(K:tV)(H:Hp)(v:V)(x:Rat):Prop:=∃p,v=.ref p/\SqT K H p [.int x.num,.int x.den]
theorem NumK.same{K:tV}{H H':Hp}{v:V}{x:Rat}(h:NumK K H v x)(s:Same H H'):NumK K H' v x:=let ⟨p,e,q⟩:=h;⟨p,e,vJ s q⟩
theorem NumK.of{K:tV}{H:Hp}{p:Addr}{x:Rat}(h:At2 H p x.num x.den):NumK K H (.ref p) x:=⟨p,rfl,SqT.of h⟩
theorem IE{K:tV}{H:Hp}{p:Addr}{i:Int}(h:SqT K H p [.int i,.int 1]):SqT K H p [.int ((i:Int):Rat).num,.int ((i:Int):Rat).den]:=by rw[(JP i).1,(JP i).2];exact h
theorem TR{x y:Rat}(e:At2 H r (yG (x.num*y.den+y.num*x.den) (x.den*y.den)) (yV (x.num*y.den+y.num*x.den) (x.den*y.den))):At2 H r (x+y).num (x+y).den:=
 BR e (tM (kU x).1 (kU y).1) (by rw[fv_add (kU x).1 (kU y).1,vV,vV])
theorem RJ{x y:Rat}(e:At2 H r (yG (x.num*y.num) (x.den*y.den)) (yV (x.num*y.num) (x.den*y.den))):At2 H r (x*y).num (x*y).den:=
 BR e (tM (kU x).1 (kU y).1) (by rw[fv_mul (kU x).1 (kU y).1,vV,vV])
theorem ZY{y:Rat}(ny:y≠0):y.num≠0:=λz=>ny (by rw[<-vV y,z];unfold fv;rw[show((0:Int):Rat)=0 from rfl,tN,tF])
theorem divAt{x y:Rat}(ny:y≠0)(e:At2 H r (yG (x.num*y.den) (x.den*y.num)) (yV (x.num*y.den) (x.den*y.num))):At2 H r (x/y).num (x/y).den:=by
 have yn:=ZY ny;refine at_lowN e (Int.mul_ne_zero (by have:=(kU x).1;omega) yn) ?_;have h1:=cne (kU x).1;have h2:=cne (kU y).1;have h3:((y.num:Int):Rat)≠0:=λz=>yn (Rat.intCast_inj.mp (by rw[z];rfl))
 conv=>rhs;rw[<-vV x,<-vV y]
 unfold fv;rw[nF,nF]
 grind
end Lw
namespace Lw
open PySem PySem.Spec PyProof.Rows L2
theorem kA(s:Same H H')(n:H l=none):Same H (upd H' l o):=λc u h=>by
 rw[jI (kG h n)];exact s c u h
mutual
theorem DecV.mono(e:Same H H'):∀{x:V} {d:PyData},DecV H x d->DecV H' x d
 | _,_,.non=>.non
 | _,_,.bl b=>.bl b
 | _,_,.int i=>.int i
 | _,_,.str x=>.str x
 | _,_,.lst q h=>.lst (e _ _ q) (DecVs.mono e h)
 | _,_,.tup q h=>.tup (e _ _ q) (DecVs.mono e h)
theorem DecVs.mono(e:Same H H'):∀{xs:List V} {ds:List PyData},DecVs H xs ds->DecVs H' xs ds
 | _,_,.nil=>.nil
 | _,_,.cons h t=>.cons (DecV.mono e h) (DecVs.mono e t)
end
theorem DecVs.length :∀{xs:List V} {ds:List PyData},DecVs H xs ds->xs.length=ds.length
 | _,_,.nil=>rfl
 | _,_,.cons _ t=>by simp [DecVs.length t]
theorem DecVs.get :∀{xs:List V} {ds:List PyData} {i:Nat} {x:V},DecVs H xs ds->xs[i]? = some x->∃d,ds[i]? = some d/\DecV H x d
 | _,_,_,_,.nil,e=>by simp at e
 | _,_,0,_,.cons h _,e=>by
  simp only[List.getElem?_cons_zero,Option.some.injEq]at e;subst e;exact⟨_,rfl,h⟩
 | _,_,i+1,_,.cons _ t,e=>by
  simp only[List.getElem?_cons_succ]at e ⊢;exact DecVs.get t e
def kdD:PyData->Kd
 | .none=>.non | .bool _=>.bl | .int _=>.int | .str _=>.str | .list _=>.lst | .tuple _=>.tup | .dict _=>.non
theorem DecV.kd(h:DecV H v d):KdOf H v (kdD d):=by
 cases h with
 | non=>exact .non
 | bl b=>exact .bl b
 | int i=>exact .int i
 | str x=>exact .str x
 | lst e _=>exact .lst e
 | tup e _=>exact .tup e
theorem MS{K:tV}{a:Addr}{xs:List V}{n:Nat}{g:TG}{te:TE}{Q:VK}{p:Addr}{H':Hp}(Pv:Nat->List V->Hp->Prop)(hz:xs.length<sizeLine)(h0:Pv 0 [] H')
  (hl:∀i ys H2,Pv i ys H2->SqT K H2 a xs/\H2 p=some (.lst ys))
  (hs:∀i m ys x H2,xs[i]? = some x->m=xs.length-i->ys.length=i->Pv i ys H2->g x (List.replicate n none) H2 fun σ4 H4=>te σ4 H4 λy H5=>H5 p=some (.lst ys)/\∃m',m'<m/\CompW xs Pv (i+1) m' (ys++[y]) (upd H5 p (.lst (ys++[y]))))
  (hd:∀ys H2,ys.length=xs.length->Pv xs.length ys H2->Q (.ref p) H2):CompGo n (Itt K a) g te Q p H':=by
 refine⟨CompW xs Pv,⟨_,rfl,tL _,rfl,h0⟩, ?_⟩;rintro i m ys H2 ⟨hm,hi,hy,hp⟩;obtain⟨q,e⟩:=hl i ys H2 hp;refine⟨e,by omega, ?_⟩;by_cases hlt:i<xs.length
 ·refine .inr ⟨⟨xs,xs[i],q,by simp [hlt]⟩, ?_⟩;rintro x H3 ⟨rfl,y⟩;exact hs i m ys x _ (y xs q) hm hy hp
 ·obtain rfl:i=xs.length:=by omega
  exact .inl ⟨⟨xs,q,tK _⟩,hd ys H2 hy hp⟩
theorem comp_zip{K:tV}{a b:Addr}{ts us:List V}{n:Nat}{g:TG}{te:TE}{Q:VK}{p:Addr}{H':Hp}(Pv:Nat->List V->Hp->Prop)(hle:us.length<=ts.length)(hz:us.length<sizeLine)(h0:Pv 0 [] H')
  (hl:∀i ys H2,Pv i ys H2->SqT K H2 a ts/\SqT K H2 b us/\H2 p=some (.lst ys))
  (hs:∀i m ys x y c H2,ts[i]? = some x->us[i]? = some y->m=us.length-i->ys.length=i->Pv i ys H2->H2 c=none->g (.ref c) (List.replicate n none) (upd H2 c (.tup [x,y])) fun σ4 H4=>te σ4 H4 λy H5=>H5 p=some (.lst ys)/\∃m',m'<m/\CompW us Pv (i+1) m' (ys++[y]) (upd H5 p (.lst (ys++[y]))))
  (hd:∀ys H2,ys.length=us.length->Pv us.length ys H2->Q (.ref p) H2):CompGo n (Itz K a b) g te Q p H':=by
 refine⟨CompW us Pv,⟨_,rfl,tL _,rfl,h0⟩, ?_⟩;rintro i m ys H2 ⟨hm,hi,hy,hp⟩;obtain⟨q1,q2,e⟩:=hl i ys H2 hp;refine⟨e,by omega, ?_⟩;by_cases hlt:i<us.length
 ·have h2:i<ts.length:=by omega
  refine .inr ⟨⟨ts,us,ts[i],us[i],q1,q2,by simp [h2],by simp [hlt]⟩, ?_⟩;rintro _ _ ⟨c,x,y,hc,rfl,rfl,h1,h2⟩;exact hs i m ys x y c H2 (h1 _ q1) (h2 _ q2) hm hy hp hc
 ·obtain rfl:i=us.length:=by omega
  exact .inl ⟨⟨ts,us,q1,q2,.inr uX⟩,hd ys H2 hy hp⟩
def whF:PyData->Int->Bool
 | .int i,low=>decide (low<=i)
 | _,_=>false
def spWF:Sp:=λvs H Q _=>∃(v:V) (d:PyData) (low:Int),vs=[v,.int low]/\DecV H v d/\Q (.bl (whF d low)) H
def xJ:List PyData->List Int
 | []=>[]
 | .int i::r=>i::xJ r
 | _::r=>xJ r
def pwB:PyData->Int->Bool
 | .tuple ds,aa=>decide ((ds.length:Int)=aa)&&(ds.all λd=>whF d 0)&&decide ((xJ ds).sum<=16)
 | _,_=>false
def pwOk:PyData->Prop
 | .tuple ds=>ds.length<=1000/\∀i,PyData.int i∈ds->i<=2^40
 | _=>True
theorem JN :∀{xs:List V} {ds:List PyData},DecVs H xs ds->(ds.all λd=>whF d 0)=true->xs=(xJ ds).map V.int/\(∀n∈xJ ds,0<=n/\PyData.int n∈ds)/\(xJ ds).length=ds.length
 | _,_,.nil,_=>⟨rfl,λn h=>(by cases h),rfl⟩
 | _,_,.cons (d:=d) (ds:=ds) h t,a=>by
  rw[List.all_cons,mU]at a;obtain⟨e,k,l⟩:=JN t a.2;cases h with
  | int i=>
   refine⟨by rw[e];rfl,λn hn=>?_,by simp [xJ,l]⟩;rcases nP.mp hn with rfl | hn
   ·exact⟨mK a.1,mD ..⟩
   ·exact⟨(k n hn).1,gS _ (k n hn).2⟩
  | non=>exact absurd a.1 #[0]
  | bl b=>exact absurd a.1 (by simp [whF])
  | str x=>exact absurd a.1 (by simp [whF])
  | lst e _=>exact absurd a.1 (by simp [whF])
  | tup e _=>exact absurd a.1 (by simp [whF])
def spPw:Sp:=λvs H Q _=>∃(v:V) (d:PyData) (aa:Int),vs=[v,.int aa]/\DecV H v d/\pwOk d/\∀H',Same H H'->Q (.bl (pwB d aa)) H'
variable{P:Program}{w:World}{K:tV}{mg:Str->Option Value}{base:Heap}{f fd:_}
theorem scWF:FnScope ["thing","low"] ["thing","low"] (jJ sWF):=scK #[3]
theorem ZH(F:Fun K "is_whole_from" "is_whole_from" sWF f fd)(T:Txt mg):FnOk P w K mg base CX0 1 f fd ["thing","low"] spWF:=by
 refine F.ok scWF #[8] #[2]
 ·obtain⟨v,d,low,rfl,_⟩:=h
  rfl
 ·obtain⟨v,d,low,rfl,hd,q⟩:=h;refine⟨_,jF (jP (EH (zF SR T.isi T.int boot_int (pv 0)) (EH (YQ (zF MH T.isi T.bool boot_bool (pv 0))) (NU (zG op_ge (pv 0) (pv 1) (jS _)))))), ?_⟩;refine⟨_,rfl,rfl,_,hd.kd,_,rfl, ?_⟩;cases hd with
  | int i=>
   refine kI ⟨_,rfl,rfl,_,.int i,_,rfl,_,rfl,kI ?_⟩;exact⟨_,rfl,_,rfl,_,_,rfl,rfl,q⟩
  | bl b=>
   refine kI ⟨_,rfl,rfl,_,.bl b,_,rfl,_,rfl,vT ?_⟩;exact q
  | non=>exact vT q
  | str x=>exact vT q
  | lst e _=>exact vT q
  | tup e _=>exact vT q
theorem scPw:FnScope ["thing","many"] ["thing","many"] (jJ sPw):=scK #[3]
theorem ok_pw(F:Fun K "are_powers" "are_powers" sPw f fd)(T:Txt mg)(DW:Df K mg "is_whole_from" sWF ["thing","low"] fW fdW):FnOk P w K mg base CX0 3 f fd ["thing","many"] spPw:=by
 have GW:FnOk P w K mg base CX0 1 fW fdW ["thing","low"] spWF:=ZH DW.F T;obtain⟨td,hdg⟩:=T.degree;refine F.ok scPw #[8] #[2]
 ·obtain⟨v,d,aa,rfl,_⟩:=h
  rfl
 ·obtain⟨v,d,aa,rfl,hd,hp,q⟩:=h;have hr1:Room 1 _:=hr.mono #[0];refine⟨_,jC (kE (PW.pt (zM (vW (vP (zF AI T.isi T.tup boot_tuple (pv 0)))) (xW (jO AD (kF kR (by rfl) T.len PySem.boot_len (jA (pv 0) jB)) (pv 1) (jS _))))) (jF (jP zV)) jR)
   (jC (kE (vW (vP (kF (AU rfl) (by rfl) T.all boot_all (jA (EG (N:=["power"]) rfl rfl #[3] #[3] #[3] (xY (pv 0)) (λC fp s2 H2=>jG (i:=0) (show List.Nodup (["power"]:List Str) by decide +kernel) rfl #[5]) (λC fp s2 H2=>jZ GW hr1 rfl DW.m DW.F.kp DW.b .nil kW (jA (pv 0) (jA jD jB)))) jB)))) (jF (jP zV)) jR)
   (jF (jP (zG op_le (kF (HQ rfl) (by rfl) T.sum boot_sum (jA (pv 0) jB)) (kT (v:=.int 16) (by rfl) hdg ⟨_,rfl⟩) (jS _))))), ?_⟩
  refine⟨_,rfl,rfl,_,hd.kd,_,rfl, ?_⟩;cases hd with
  | non=>exact kI (kI (q _ (Same.refl _)))
  | bl b=>exact kI (kI (q _ (Same.refl _)))
  | int i=>exact kI (kI (q _ (Same.refl _)))
  | str x=>exact kI (kI (q _ (Same.refl _)))
  | lst e _=>exact kI (kI (q _ (Same.refl _)))
  | @tup a xs ds e hx=>
   refine vT ⟨_,rfl,a,xs,rfl,.inr (SqT.of e),_,rfl,rfl,_,rfl, ?_⟩;have hlen:=hx.length;by_cases hl:(ds.length:Int)=aa
   ·refine qT (by rw[hlen,hl];simp) ?_;refine⟨_,rfl,a,rfl,⟨xs,SqT.of e⟩,λp H1 n1 s1 e1=>?_⟩;refine MS (xs:=xs) (λi ys H2=>(∀c o,H c=some o->H2 c=some o)/\H2 p=some (.lst ys)/\ys=(ds.take i).map λd=>V.bl (whF d 0)) (by rw[hlen];exact gZ hp.1 #[0]) ⟨s1,e1,rfl⟩ (λi ys H2 h=>⟨SqT.of (h.1 _ _ e),h.2.1⟩) ?_ ?_
    ·rintro i m ys x H2 hx' hm hl' ⟨k1,k2,rfl⟩;obtain⟨d,hd1,hd2⟩:=(hx.mono k1).get hx';refine⟨_,rfl,x,d,0,rfl,hd2, ?_⟩;refine kJ hx' hm hl' k2 ⟨λc o h=>?_,jE, ?_⟩
     ·rw[jI (kG h n1)];exact k1 _ _ h
     ·rw[mI,hd1,mZ]
      rfl
    ·rintro ys H2 hl' ⟨k1,k2,rfl⟩;rw[hlen,mR]at k2;refine⟨p,ds.map λd=>whF d 0,rfl,SqL.of (by rw[k2,tG];rfl),_,rfl, ?_⟩;have ea:(ds.map λd=>whF d 0).all id=ds.all λd=>whF d 0:=by rw[List.all_map];rfl
     rw[ea];by_cases al:(ds.all λd=>whF d 0)=true
     ·obtain⟨ex,kx,lx⟩:=JN hx al;refine qT (by rw[al];rfl) ?_;refine⟨_,rfl,a,xJ ds,rfl,SqT.of (by rw[<-ex];exact k1 _ _ e),λn hn=>⟨(kx n hn).1,hp.2 n (kx n hn).2⟩,by rw[lx];exact hp.1,_,_,rfl,rfl, ?_⟩;have z:pwB (.tuple ds) aa=decide ((xJ ds).sum<=16):=by simp only[pwB,hl,al,decide_true,Bool.true_and]
      rw[z]at q;exact q _ k1
     ·have al':(ds.all λd=>whF d 0)=false:=by simpa using al
      refine xI (by rw[al'];rfl) ?_;have z:pwB (.tuple ds) aa=false:=by simp only[pwB,al',Bool.and_false,Bool.false_and]
      rw[z]at q;exact q _ k1
   ·refine xI (by rw[hlen];simp [hl]) ?_;have z:pwB (.tuple ds) aa=false:=by simp [pwB,hl]
    rw[z]at q;exact q _ (Same.refl _)
def HK:PyData->Bool
 | .tuple [.int t,.int b]=>decide (1<=b)&&decide (Int.gcd t b=1)
 | _=>false
def smD:PyData->Prop
 | .int i=>i.natAbs<2^1000
 | _=>True
def frOk:PyData->Prop
 | .tuple ds=>∀x∈ds,smD x
 | _=>True
def nzD:PyData->Bool
 | .tuple [.int t,.int b]=>!decide ([t,b]=[0,1])
 | _=>true
def vN:PyData->Int->Bool
 | .tuple [p,f],aa=>pwB p aa&&(HK f&&nzD f)
 | _,_=>false
def tmOk:PyData->Prop
 | .tuple [p,f]=>pwOk p/\frOk f
 | _=>True
def spTerm:Sp:=λvs H Q _=>∃(v:V) (d:PyData) (aa:Int),vs=[v,.int aa]/\DecV H v d/\tmOk d/\∀H',Same H H'->Q (.bl (vN d aa)) H'
theorem DecVs.sm :∀{xs:List V} {ds:List PyData},DecVs H xs ds->(∀x∈ds,smD x)->∀x∈xs,Sm x/\∃k,KdOf H x k
 | _,_,.nil,_=>λx h=>(by cases h)
 | _,_,.cons h t,k=>λx hx=>by
  rcases nP.mp hx with rfl | hx
  ·refine⟨?_,_,h.kd⟩;have:=k _ (mD ..);cases h<;>first | exact this | exact trivial
  ·exact DecVs.sm t (λy hy=>k y (gS _ hy)) x hx
theorem frac_dec(h:DecV H v d)(o:frOk d):Thing H v/\EY H v=HK d:=by
 cases h with
 | non=>exact⟨.sc .non #[0],rfl⟩
 | bl b=>exact⟨.sc (.bl b) #[0],rfl⟩
 | int i=>exact⟨.sc (.int i) #[0],rfl⟩
 | str x=>exact⟨.sc (.str x) #[0],rfl⟩
 | lst e _=>exact⟨.sc (.lst e) #[0],by simp only[EY,e];rfl⟩
 | @tup a xs ds e h=>
  refine⟨.tup e (h.sm o), ?_⟩;rw[MK e]
  match xs,ds,h with
  | [],[],_=>rfl
  | [_],[_],.cons h1 .nil=>rw[EK #[14]];cases h1<;>rfl
  | [_,_],[_,_],.cons h1 (.cons h2 .nil)=>cases h1<;>cases h2<;>rfl
  | _::_::_::_,_::_::_::_,_=>
   rw[EK #[14]];unfold HK;split
   ·rename_i e;injection e with e
    injection e with _ e
    injection e with _ e
    cases e
   ·rfl
theorem VL(h:HK g=true):∃t b,g=.tuple [.int t,.int b]:=by
 unfold HK at h;split at h
 ·exact⟨_,_,rfl⟩
 ·cases h
theorem dec_pair{t b:Int}(h:DecV H y (.tuple [.int t,.int b])):∃c,y=.ref c/\H c=some (.tup [.int t,.int b]):=by
 cases h with
 | tup e h=>
  cases h with
  | cons h1 h=>
   cases h with
   | cons h2 h=>
    cases h;cases h1;cases h2;exact⟨_,rfl,e⟩
def Ngt(K:tV)(mg:Str->Option Value):Prop:=∃a,mg "NOUGHT" = some (.ref a)/\∀H,SqT K H a (([0,1]:List Int).map V.int)
theorem scTerm:FnScope ["thing","many","powers","fraction"] ["thing","many"] (jJ QK):=scK #[3]
theorem RD(F:Fun K "is_term" "is_term" QK f fd)(T:Txt mg)(N:Ngt K mg)(DW:Df K mg "is_whole_from" sWF ["thing","low"] fW fdW)(DP:Df K mg "are_powers" sPw ["thing","many"] fP fdP)(DI:Df K mg "is_fraction" XZ ["thing"] fI fdI)
 (DH:Df K mg "is_whole" BC ["thing"] fH fdH) (DG:Df K mg "greatest_divisor" IO ["one","other"] fG fdG):FnOk P w K mg base CX0 4 f fd ["thing","many"] spTerm:=by
 have GP:FnOk P w K mg base CX0 3 fP fdP ["thing","many"] spPw:=ok_pw DP.F T DW;have GI:FnOk P w K mg base CX0 2 fI fdI ["thing"] spIsf:=ZT DI.F T DH DG;obtain⟨nA,hn,hN⟩:=N;refine F.ok scTerm #[8] #[2]
 ·obtain⟨v,d,aa,rfl,_⟩:=h
  rfl
 ·obtain⟨v,d,aa,rfl,hd,ho,q⟩:=h;have hr2:Room 2 _:=hr.mono #[0];refine⟨_,jC (kE (PW.pt (zM (vW (vP (zF AI T.isi T.tup boot_tuple (pv 0)))) (xW (jO AD (kF kR (by rfl) T.len PySem.boot_len (jA (pv 0) jB)) jD (jS _))))) (jF (jP zV)) jR)
   (jC (qP (pv 0) (kD rfl (jH (jG (i:=2) scTerm.nd rfl #[5]) (jH (jG (i:=3) scTerm.nd rfl #[5]) jY))))
   (jF (jP (EH (jZ GP hr rfl DP.m DP.F.kp DP.b .nil kW (jA (pv 2) (jA (pv 1) jB))) (EH (jZ GI hr2 rfl DI.m DI.F.kp DI.b .nil kW (jA (pv 3) jB)) (NU (zG (LwT.op_neT hr.units0) (pv 3) (kT (v:=.ref nA) (by rfl) hn rfl) (jS _)))))))), ?_⟩
  refine⟨_,rfl,rfl,_,hd.kd,_,rfl, ?_⟩;cases hd with
  | non=>exact kI (kI (q _ (Same.refl _)))
  | bl b=>exact kI (kI (q _ (Same.refl _)))
  | int i=>exact kI (kI (q _ (Same.refl _)))
  | str x=>exact kI (kI (q _ (Same.refl _)))
  | lst e _=>exact kI (kI (q _ (Same.refl _)))
  | @tup a xs ds e hx=>
   refine vT ⟨_,rfl,a,xs,rfl,.inr (SqT.of e),rfl,_,rfl, ?_⟩
   match xs,ds,hx,e,ho,q with
   | [],[],_,e,ho,q=>exact kI (q _ (Same.refl _))
   | [_],[_],_,e,ho,q=>exact kI (q _ (Same.refl _))
   | [x,y],[p,g],.cons h1 (.cons h2 .nil),e,ho,q=>
    refine vT ?_;refine⟨_,rfl,a,[x,y],rfl,SqT.of e,rfl,x,[y],rfl,y,[],rfl,rfl, ?_⟩;refine⟨_,rfl,_,rfl,x,p,aa,rfl,h1,ho.1,λH1 s1=>⟨_,rfl, ?_⟩⟩;cases e1:pwB p aa with
    | false=>
     have z:vN (.tuple [p,g]) aa=false:=by simp only[vN,e1,Bool.false_and]
     rw[z]at q;exact vT (q _ s1)
    | true=>
     obtain⟨t1,t2⟩:=frac_dec (h2.mono s1) ho.2;refine kI ⟨_,rfl,y,rfl,t1,_,rfl, ?_⟩;rw[t2];cases e2:HK g with
     | false=>
      have z:vN (.tuple [p,g]) aa=false:=by simp only[vN,e2,Bool.false_and,Bool.and_false]
      rw[z]at q;exact vT (q _ s1)
     | true=>
      refine kI ?_;have z:vN (.tuple [p,g]) aa=nzD g:=by simp only[vN,e1,e2,Bool.true_and]
      rw[z]at q;obtain⟨t,b,rfl⟩:=VL e2;obtain⟨c,rfl,ec⟩:=dec_pair (h2.mono s1);refine⟨_,rfl,c,nA,[t,b],[0,1],rfl,rfl,SqT.of ec,hN _, ?_⟩;show Q (V.bl (LwT.lexNe [t,b] [0,1])) H1;rw[show LwT.lexNe [t,b] [0,1]=nzD (.tuple [.int t,.int b])from LwT.lexNe_eq [t,b] [0,1]];exact q _ s1
   | x1::x2::x3::xs,d1::d2::d3::ds,hx,e,ho,q=>
    refine xI ?_ (q _ (Same.refl _));rw[nC]
    ·rfl
    ·intro z;injection z with z
     simp only[mS]at z;omega
def uW:PyData->List Int
 | .tuple (.tuple ds::_)=>xJ ds
 | _=>[]
def GE(ts:List PyData):Bool:=(ts.zip (ts.drop 1)).all λq=>LwT.lexLt (uW q.1) (uW q.2)
def KN:PyData->Bool
 | .tuple [.int n,.tuple ts]=>(decide (1<=n)&&decide (n<=4))&&(decide (ts.length<=500)&&((ts.all λt=>vN t n)&&GE ts))
 | _=>false
def suOk:PyData->Prop
 | .tuple [_,.tuple ts]=>∀t∈ts,tmOk t
 | _=>True
def spSum:Sp:=λvs H Q _=>∃(v:V) (d:PyData),vs=[v]/\DecV H v d/\suOk d/\∀H',Same H H'->Q (.bl (KN d)) H'
theorem KJ{n:Int}(h:DecV H x d)(e:vN d n=true):∃a b y ns,x=.ref a/\H a=some (.tup [.ref b,y])/\H b=some (.tup #[15])/\uW d=ns:=by
 unfold vN at e;split at e
 ·rename_i p g;rw[mU]at e;have e1:=e.1;unfold pwB at e1;split at e1
  ·rename_i ds';rw[mU,mU]at e1;cases h with
   | tup q h=>
    cases h with
    | cons h1 h=>
     cases h with
     | cons h2 h=>
      cases h;cases h1 with
      | tup q1 h1=>
       obtain⟨ex,_⟩:=JN h1 e1.1.2;exact⟨_,_,_,xJ ds',rfl,q,by rw[q1,ex],rfl⟩
  ·cases e1
 ·cases e
theorem zip_all{ts:List PyData}{i:Nat}(h1:ts[i]? = some a)(h2:(ts.drop 1)[i]? = some b):((ts.zip (ts.drop 1)).take (i+1))=(ts.zip (ts.drop 1)).take i++[(a,b)]:=by
 rw[mI,List.getElem?_zip_eq_some (z:=(a,b)) |>.mpr ⟨h1,h2⟩]
 rfl
theorem MR(xs:List V):xK xs (some 1) none=xs.drop 1:=by
 unfold xK;have e1:HT.sIx xs.length 0 (some 1)=min 1 xs.length:=HT.sIx_nat xs.length 0 1;have e2:HT.sIx xs.length xs.length none=xs.length:=rfl;rw[e1,e2];cases xs with
 | nil=>rfl
 | cons x xs=>
  have:min 1 (x::xs).length=1:=by simp
  rw[this,gK #[14]]
theorem DecVs.drop1{xs:List V}{ds:List PyData}(h:DecVs H xs ds):DecVs H (xs.drop 1) (ds.drop 1):=by
 cases h with
 | nil=>exact .nil
 | cons _ t=>exact t
theorem scSum:FnScope ["thing","many","terms"] ["thing"] (jJ XX):=scK #[3]
theorem ok_sum(F:Fun K "is_sum" "is_sum" XX f fd)(T:Txt mg)(N:Ngt K mg)(DW:Df K mg "is_whole_from" sWF ["thing","low"] fW fdW)(DP:Df K mg "are_powers" sPw ["thing","many"] fP fdP)(DI:Df K mg "is_fraction" XZ ["thing"] fI fdI)
 (DH:Df K mg "is_whole" BC ["thing"] fH fdH) (DG:Df K mg "greatest_divisor" IO ["one","other"] fG fdG) (DT:Df K mg "is_term" QK ["thing","many"] fT fdT):FnOk P w K mg base CX0 5 f fd ["thing"] spSum:=by
 have GW:FnOk P w K mg base CX0 1 fW fdW ["thing","low"] spWF:=ZH DW.F T;have GT:FnOk P w K mg base CX0 4 fT fdT ["thing","many"] spTerm:=RD DT.F T N DW DP DI DH DG;obtain⟨tl,hlt⟩:=T.letters;obtain⟨tt,htt⟩:=T.terms;refine F.ok scSum #[8] #[2]
 ·obtain⟨v,d,rfl,_⟩:=h
  rfl
 ·obtain⟨v,d,rfl,hd,ho,q⟩:=h;have hr1:Room 1 _:=hr.mono #[0];refine⟨_,jC (kE (PW.pt (zM (vW (vP (zF AI T.isi T.tup boot_tuple (pv 0)))) (xW (jO AD (kF kR (by rfl) T.len PySem.boot_len (jA (pv 0) jB)) jD (jS _))))) (jF (jP zV)) jR)
   (jC (qP (pv 0) (kD rfl (jH (jG (i:=1) scSum.nd rfl (Or.inr rfl)) (jH (jG (i:=2) scSum.nd rfl #[5]) jY))))
   (jC (kE (PW.pt (zM (vW (vP (jZ GW hr1 rfl DW.m DW.F.kp DW.b .nil kW (jA (pv 1) (jA jD jB))))) (xW (jO yT (pv 1) (kT (v:=.int 4) (by rfl) hlt ⟨_,rfl⟩) (jS _))))) (jF (jP zV)) jR)
   (jC (kE (PW.pt (zM (vW (vP (zF AI T.isi T.tup boot_tuple (pv 2)))) (xW (jO yT (kF kR (by rfl) T.len PySem.boot_len (jA (pv 2) jB)) (kT (v:=.int 500) (by rfl) htt ⟨_,rfl⟩) (jS _))))) (jF (jP zV)) jR)
   (jC (kE (vW (vP (kF (AU rfl) (by rfl) T.all boot_all (jA
     (vQ (own:=1) (idx:=[1]) (N:=["term","many"]) rfl rfl rfl #[3] #[3] (λ_ _ h=>h) (qU rfl) rfl (yL rfl ⟨rfl,rfl,rfl,rfl⟩) (xY (pv 2)) (λC fp s2 H2=>jG (i:=0) (show List.Nodup (["term","many"]:List Str) by decide +kernel) rfl #[5]) (λC fp s2 H2=>jZ GT hr rfl DT.m DT.F.kp DT.b .nil kW (jA (pv 0) (jA (pv 1) jB)))) jB)))) (jF (jP zV)) jR)
   (jF (jP (kF (AU rfl) (by rfl) T.all boot_all (jA
     (EG (N:=["before","behind"]) rfl rfl #[3] #[3] #[3] (QY (by rfl) T.zip (jA (pv 2) (jA (yA II (pv 2) (xB jD) zD) jB))) (λC fp s2 H2=>show PG (qV _ ["before","behind"] _ C fp s2 H2) _ (AJ K 2 (qS (jV 0) (qS (jV 1) gNil)))from kD (X:=qV _ ["before","behind"] _ C fp s2 H2) rfl (jH (jG (i:=0) (show List.Nodup (["before","behind"]:List Str) by decide +kernel) rfl #[5] #[5]) (jH (jG (i:=1) (show List.Nodup (["before","behind"]:List Str) by decide +kernel) rfl #[5] #[5]) jY)))
      (λC fp s2 H2=>zG (show OpR (qV _ ["before","behind"] _ C fp s2 H2) (compareOp .Lt) (LwT.rOrdT K LwT.lexLt)from LwT.op_ltT hr.units0) (jU (show IxR (qV _ ["before","behind"] _ C fp s2 H2) (LB K)from jX) (pv 0) jD (λ_ _=>rfl)) (jU (show IxR (qV _ ["before","behind"] _ C fp s2 H2) (LB K)from jX) (pv 1) jD (λ_ _=>rfl)) (jS _))) jB)))))))), ?_⟩
  have no:KN d=false->Q (.bl false) H:=λz=>by have:=q H (Same.refl _);rwa [z]at this
  refine⟨_,rfl,rfl,_,hd.kd,_,rfl, ?_⟩;cases hd with
  | non=>exact kI (kI (no rfl))
  | bl b=>exact kI (kI (no rfl))
  | int i=>exact kI (kI (no rfl))
  | str x=>exact kI (kI (no rfl))
  | lst e _=>exact kI (kI (no rfl))
  | @tup a xs ds e hx=>
   refine vT ⟨_,rfl,a,xs,rfl,.inr (SqT.of e),rfl,_,rfl, ?_⟩
   match xs,ds,hx,e,ho,q,no with
   | [],[],_,e,ho,q,no=>exact kI (no rfl)
   | [_],[d1],_,e,ho,q,no=>exact kI (no (by cases d1<;>rfl))
   | x1::x2::x3::xs,d1::d2::d3::ds,hx,e,ho,q,no=>
    refine xI ?_ (no (by cases d1<;>cases d2<;>rfl));rw[nC]
    ·rfl
    ·intro z;injection z with z
     simp only[mS]at z;omega
   | [x,y],[dm,dt],.cons h1 (.cons h2 .nil),e,ho,q,no=>
    refine vT ?_;refine⟨_,rfl,a,[x,y],rfl,SqT.of e,rfl,x,[y],rfl,y,[],rfl,rfl, ?_⟩;refine⟨_,rfl,x,dm,1,rfl,h1,_,rfl, ?_⟩;cases h1 with
    | non=>exact kI (kI (no rfl))
    | bl b=>exact kI (kI (no rfl))
    | str x=>exact kI (kI (no rfl))
    | lst e _=>exact kI (kI (no rfl))
    | tup e _=>exact kI (kI (no rfl))
    | int n=>
    by_cases n1:1<=n
    case neg=>
     refine xI (by show(!decide (1<=n))=true;rw[nC n1];rfl) (kI (no ?_));cases dt<;>first | rfl | (simp only[KN,nC n1,Bool.false_and])
    refine qT (by show(!decide (1<=n))=false;rw[nG n1];rfl) ?_;refine⟨_,rfl,_,_,rfl,rfl,_,rfl, ?_⟩;by_cases n4:4<n
    case pos=>
     refine xI (nG n4) (no ?_);have:¬n<=4:=by omega
     cases dt<;>first | rfl | (simp only[KN,nC this,Bool.false_and,Bool.and_false])
    refine qT (nC n4) ?_;have n4':n<=4:=by omega
    refine⟨_,rfl,rfl,_,h2.kd,_,rfl, ?_⟩;cases h2 with
    | non=>exact kI (kI (no rfl))
    | bl b=>exact kI (kI (no rfl))
    | int i=>exact kI (kI (no rfl))
    | str x=>exact kI (kI (no rfl))
    | lst e _=>exact kI (kI (no rfl))
    | @tup a2 ts dts e2 ht=>
    have hlen:=ht.length;refine vT ⟨_,rfl,a2,ts,rfl,.inr (SqT.of e2),_,_,rfl,rfl,_,rfl, ?_⟩;by_cases n5:dts.length<=500
    case neg=>
     refine xI (nG (by rw[hlen];omega)) (no ?_);simp only[KN,nC n5,Bool.false_and,Bool.and_false]
    refine qT (nC (by rw[hlen];omega)) ?_;have zs:KN (.tuple [.int n,.tuple dts])=((dts.all λt=>vN t n)&&GE dts):=by
     simp only[KN,nG n1,nG n4',nG n5,Bool.true_and]
    rw[zs]at q;clear no zs;have tsz:ts.length<sizeLine:=by rw[hlen];exact gZ n5 #[0]
    refine⟨_,rfl,a2,rfl,⟨ts,SqT.of e2⟩,λp H1 n1' s1 e1=>?_⟩;refine BQ (xs:=ts) (λi ys H2=>Same H H2/\H2 p=some (.lst ys)/\ys=(dts.take i).map λd=>V.bl (vN d n)) tsz ⟨s1,e1,rfl⟩ (λi ys H2 h=>⟨SqT.of (h.1 _ _ e2),h.2.1⟩) ?_ ?_
    ·rintro i m ys x H2 hx' hm hl' ⟨k1,k2,rfl⟩;obtain⟨d,hd1,hd2⟩:=(ht.mono k1).get hx';refine⟨wE,_,rfl,_,rfl,x,d,n,rfl,hd2,ho d (gQ hd1),λH3 s3=>?_⟩;refine kJ hx' hm hl' (s3 _ _ k2) ⟨kA (k1.trans s3) n1',jE, ?_⟩;rw[mI,hd1,mZ]
     rfl
    ·rintro ys H2 hl' ⟨k1,k2,rfl⟩;rw[hlen,mR]at k2;refine⟨p,dts.map λd=>vN d n,rfl,SqL.of (by rw[k2,tG];rfl),_,rfl, ?_⟩;have ea:(dts.map λd=>vN d n).all id=dts.all λd=>vN d n:=by rw[List.all_map];rfl
     rw[ea];cases al:dts.all λd=>vN d n with
     | false=>
      rw[al]at q;exact kI (q _ k1)
     | true=>
      rw[al,Bool.true_and]at q;refine vT ?_;have alt:∀d∈dts,vN d n=true:=List.all_eq_true.mp al;have d1:=ht.drop1;refine⟨_,rfl,_,rfl,1,rfl,a2,ts,rfl,k1 _ _ e2,λp2 H3 s3 e3=>?_⟩;rw[MR]at e3;have k3:Same H H3:=k1.trans s3;refine⟨a2,p2,rfl,⟨ts,SqT.of (k3 _ _ e2)⟩,⟨_,SqT.of e3⟩,λp3 H4 n4 s4 e4=>?_⟩;refine comp_zip (ts:=ts) (us:=ts.drop 1) (λi ys H5=>Same H3 H5/\H5 p3=some (.lst ys)/\ys=((dts.zip (dts.drop 1)).take i).map λq=>V.bl (LwT.lexLt (uW q.1) (uW q.2))) #[14] (by simp;omega) ⟨s4,e4,rfl⟩
       (λi ys H5 h=>⟨SqT.of ((k3.trans h.1) _ _ e2),SqT.of (h.1 _ _ e3),h.2.1⟩) ?_ ?_
      ·rintro i m ys x y c H5 hx' hy' hm hl' ⟨j1,j2,rfl⟩ hc;obtain⟨dx,ex1,ex2⟩:=(ht.mono (k3.trans j1)).get hx';obtain⟨dy,ey1,ey2⟩:=(d1.mono (k3.trans j1)).get hy';obtain⟨ax,bx,wx,ns,rfl,hax,hbx,rfl⟩:=KJ ex2 (alt _ (gQ ex1));obtain⟨ay,by',wy,ms,rfl,hay,hby,rfl⟩:=KJ ey2 (alt _ (List.mem_of_mem_drop (gQ ey1)));have su:Same H5 (upd H5 c (.tup [.ref ax,.ref ay])):=jQ _ hc;refine⟨c,[.ref ax,.ref ay],rfl,SqT.of jE,rfl,_,_,rfl,_,_,rfl,rfl, ?_⟩;refine⟨_,rfl,ax,_,_,_,rfl,rfl,SqT.of (su _ _ hax),rfl,_,rfl,ay,_,_,_,rfl,rfl,SqT.of (su _ _ hay),rfl,bx,by',_,_,rfl,rfl,SqT.of (su _ _ hbx),SqT.of (su _ _ hby), ?_⟩;refine kJ hy' hm hl' (su _ _ j2) ⟨kA (j1.trans su) n4,jE, ?_⟩;rw[zip_all ex1 ey1,mZ]
       rfl
      ·rintro ys H5 hl' ⟨j1,j2,rfl⟩;have el:(dts.zip (dts.drop 1)).length=(ts.drop 1).length:=by rw[List.length_zip,List.length_drop,List.length_drop,hlen];omega
       rw[<-el,mR]at j2;refine⟨p3,(dts.zip (dts.drop 1)).map λq=>LwT.lexLt (uW q.1) (uW q.2),rfl,SqL.of (by rw[j2,tG];rfl), ?_⟩;have ez:((dts.zip (dts.drop 1)).map λq=>LwT.lexLt (uW q.1) (uW q.2)).all id=GE dts:=by rw[List.all_map];rfl
       rw[ez];exact q _ (k3.trans j1)
open LwS
def Ltr(K:tV)(mg:Str->Option Value):Prop:=∃a,mg "LETTERS" = some (.ref a)/\(∀H,SqT K H a [.str (ltr 0),.str (ltr 1),.str (ltr 2),.str (ltr 3)])/\∃o,K.lookup a=some o/\o.cls=.type "tuple"/\o.dict=none
theorem TC(b:Int):decide (V.int b=V.int 1)=decide (b=1):=by
 by_cases h:b=1
 ·rw[h];rfl
 ·rw[nC h,nC];intro z;injection z with z
  exact h z
structure TAt(H:Hp)(b c:Addr)(x:Trm):Prop where
 pw:H b=some (.tup (x.ns.map V.int))
 nb:At2 H c x.t x.b
theorem TAt.map(h:TAt H b c x)(k:∀a xs,H a=some (.tup xs)->H' a=some (.tup xs)):TAt H' b c x:=⟨k _ _ h.pw,k _ _ h.nb⟩
def spShNum:Sp:=λvs H Q _=>∃(c:Addr) (aa:Nat) (x:Trm),vs=[.ref c]/\At2 H c x.t x.b/\TmOk aa x/\Q (.str (ntx x.t x.b)) H
def spShTerm:Sp:=λvs H Q _=>∃(b c:Addr) (aa:Nat) (x:Trm),vs=[.ref b,.ref c]/\TAt H b c x/\TmOk aa x/\aa<=4/\∀H',Same H H'->Q (.str (ttx x)) H'
theorem scShNum:FnScope ["number","top","bottom"] ["number"] (jJ DZ):=scK #[3]
theorem LO(F:Fun K "shown_number" "shown_number" DZ f fd)(T:Txt mg):FnOk P w K mg base CX0 1 f fd ["number"] spShNum:=by
 refine F.ok scShNum #[8] #[2]
 ·obtain⟨c,aa,x,rfl,_⟩:=h
  rfl
 ·obtain⟨c,aa,x,rfl,hc,ok,q⟩:=h;refine⟨_,jC (qP (pv 0) (kD rfl (jH (jG (i:=1) scShNum.nd rfl #[5]) (jH (jG (i:=2) scShNum.nd rfl #[5]) jY))))
   (jC (kE (jO yU (pv 2) jD (jS _)) (jF (jP (qE KA (by rfl) T.str boot_str (jA (pv 1) jB)))) jR)
   (jF (jP (pe_f3 (pv 1) (pv 2))))), ?_⟩
  have l1:=OA ok.st #[0] #[0];have l2:=OA ok.sb #[0] #[0];have e1:=zH #[0] ok.t10;have e2:=zH #[0] ok.b10;refine⟨_,rfl,c,_,rfl,SqT.of hc,rfl,_,_,rfl,_,_,rfl,rfl, ?_⟩;refine⟨_,rfl,rfl,_,rfl, ?_⟩;rw[TC];refine wU (λe=>?_) (λe=>?_)
  ·refine⟨_,rfl,_,rfl,l1, ?_⟩;have:ntx x.t x.b=itx x.t:=tU (mK e);rw[this]at q;exact q
  ·have:ntx x.t x.b=itx x.t++⟨#[47]⟩++itx x.b:=tT λz=>e (nG z);rw[this]at q;refine⟨_,rfl,itx x.t,⟨l1,rfl⟩, ?_,_,rfl,itx x.b,⟨l2,rfl⟩, ?_,q⟩
   ·show(itx x.t).length+1<=sizeLine;exact nW (show _<=1000 by omega) #[0]
   ·show(itx x.t).length+1+(itx x.b).length<=sizeLine;exact nW (show _<=1000 by omega) #[0]
theorem VD{i:Nat}(hi:i<4∨True)(hu:([.str (ltr 0),.str (ltr 1),.str (ltr 2),.str (ltr 3)]:List V)[i]? = some u):u=.str (ltr i):=by
 match i,hu with
 | 0,h=>exact(Option.some.inj h).symm
 | 1,h=>exact(Option.some.inj h).symm
 | 2,h=>exact(Option.some.inj h).symm
 | 3,h=>exact(Option.some.inj h).symm
 | n+4,h=>simp at h
inductive ShI(K:tV)(H:Hp)(b c l:Addr)(x:Trm)(i:Nat):L2.St->Hp->Prop where
 | mk {u v:Option V} {H':Hp} (s:Same H H') (e:H' l=some (.lst ((ntx x.t x.b::(wl 0 (x.ns.take i)).map wtx).map V.str))) (n:H l=none):ShI K H b c l x i [some (.ref b),some (.ref c),some (.ref l),u,v] H'
theorem scShTerm:FnScope ["powers","number","words","letter","power"] ["powers","number"] (jJ CG):=scK #[3]
theorem HA(F:Fun K "shown_term" "shown_term" CG f fd)(T:Txt mg)(L:Ltr K mg)(DN:Df K mg "shown_number" DZ ["number"] fN fdN):FnOk P w K mg base CX0 2 f fd ["powers","number"] spShTerm:=by
 have GN:FnOk P w K mg base CX0 1 fN fdN ["number"] spShNum:=LO DN.F T;obtain⟨la,lm,ls,_⟩:=L;refine F.ok scShTerm #[8] #[2]
 ·obtain⟨b,c,aa,x,rfl,_⟩:=h
  rfl
 ·obtain⟨b,c,aa,x,rfl,hx,ok,hm,q⟩:=h;have hr1:Room 1 _:=hr.mono #[0];refine⟨_,jC (jN (i:=2) scShTerm.nd rfl #[5] (xQ (jA (jZ GN hr1 rfl DN.m DN.F.kp DN.b .nil kW (jA (pv 1) jB)) jB)))
   (jC (kZ PassesOwn.never rfl (QY (by rfl) T.zip (jA (kT (v:=.ref la) (by rfl) lm rfl) (jA (pv 0) jB))) (kD rfl (jH (jG (i:=3) scShTerm.nd rfl #[5]) (jH (jG (i:=4) scShTerm.nd rfl #[5]) jY)))
    (jC (kE (jO yU (pv 4) jD (jS _)) (jF (yI (yK PySem.F.plainAttrs_list PySem.F.slot_list_append PySem.F.type_list_append vA (pv 2) (jA (pv 3) jB)))) jR)
    (jF (kE (jO yT (pv 4) jD (jS _)) (jF (yI (yK PySem.F.plainAttrs_list PySem.F.slot_list_append PySem.F.type_list_append vA (pv 2) (jA (pe_f3 (pv 3) (pv 4)) jB)))) jR))))
   (jF (jP (yK PySem.F.plainAttrs_str PySem.F.slot_str_join PySem.F.type_str_join RL xL (jA (pv 2) jB))))), ?_⟩
  refine⟨_,rfl,c,aa,x,rfl,hx.nb,ok,uZ,λl H1 n1 s1 e1=>?_⟩;refine⟨_,rfl,la,b,rfl,⟨_,ls H1⟩,⟨_,SqT.of (s1 _ _ hx.pw)⟩, ?_⟩;have nl:(x.ns.map V.int).length=aa:=by rw[mY,ok.len]
  refine L2.for_zipL (xs:=[.str (ltr 0),.str (ltr 1),.str (ltr 2),.str (ltr 3)]) (ys:=x.ns.map V.int) (ShI K H b c l x) (by rw[nl];exact hm) (.mk s1 (by rw[List.take_zero];exact e1) n1) (λi σ H2 _ h=>?_) (λi u v p σ H2 hu hv hp h=>?_) (fun σ H2 h=>?_)
  ·obtain⟨s2,e2,_⟩:=h;exact⟨ls H2,SqT.of (s2 _ _ hx.pw)⟩
  ·obtain⟨s2,e2,_⟩:=h;have hi:i<x.ns.length:=by
    have:=(gE.mp hv).1
    rwa [mY]at this
   obtain⟨n,hn⟩:∃n,x.ns[i]? = some n:=⟨x.ns[i],by simp [hi]⟩;have ev:v=.int n:=by rw[mG,hn]at hv;exact(Option.some.inj hv).symm
   have eu:u=.str (ltr i):=VD (.inr True.intro) hu;subst ev eu;have nb:=ok.le (gQ hn);have et:x.ns.take (i+1)=x.ns.take i++[n]:=by rw[mI,hn];rfl
   have ti:(x.ns.take i).length=i:=by rw[mP];omega
   have s3:Same H2 (upd H2 p (.tup [.str (ltr i),.int n])):=jQ _ hp;have e3:=s3 _ _ e2;have pl:p≠l:=λz=>by rw[z,e2]at hp;cases hp
   have few:((ntx x.t x.b::(wl 0 (x.ns.take i)).map wtx).map V.str).length<sizeLine:=by
    have:=HZ (x.ns.take i) 0;simp only[mY,mS];exact gZ (show _<=5 by have:=ok.len;omega) #[0]
   refine⟨p,_,rfl,SqT.of jE,rfl,_,_,rfl,_,_,rfl,rfl, ?_⟩;refine⟨_,rfl,rfl,_,rfl, ?_⟩;rw[TC];have go:∀(y:List Str) (H4:Hp),Same H H4->wl 0 (x.ns.take (i+1))=wl 0 (x.ns.take i)++(if 1<=n then [(i,n)]else [])->(if 1<=n then [(i,n)]else []).map wtx=y->H4 l=some (.lst ((ntx x.t x.b::(wl 0 (x.ns.take i)).map wtx).map V.str++y.map V.str))->ShI K H b c l x (i+1) [some (.ref b),some (.ref c),some (.ref l),some (.str (ltr i)),some (.int n)] H4:=λy H4 s4 ew ey e4=>
    .mk s4 (by rw[e4,ew,mZ,ey,<-List.cons_append,mZ]) n1
   have ew:wl 0 (x.ns.take (i+1))=wl 0 (x.ns.take i)++(if 1<=n then [(i,n)]else []):=by rw[et,HY,ti,Nat.zero_add]
   have put:∀z:V,Same H (upd (upd H2 p (.tup [.str (ltr i),.int n])) l (.lst ((ntx x.t x.b::(wl 0 (x.ns.take i)).map wtx).map V.str++[z]))):=λz=>kA (s2.trans s3) n1;rcases Int.lt_trichotomy n 1 with h | h | h
   ·refine qT (nC #[1]) ⟨_,rfl,_,_,rfl,rfl,_,rfl,qT (nC #[1]) ?_⟩;exact go [] _ (s2.trans s3) ew (by rw[tT #[1]];rfl) (by rw[List.map_nil,List.append_nil];exact e3)
   ·refine xI (nG h) ⟨_,rfl,.inl ⟨rfl,_,SqL.of e3⟩,_,rfl,l,_,_,rfl,rfl,e3,few, ?_⟩;refine⟨_,rfl,_,_,rfl,rfl,_,rfl,qT (nC #[1]) ?_⟩;exact go [ltr i] _ (put _) ew (by rw[tU #[1],h];rfl) jE
   ·refine qT (nC #[1]) ⟨_,rfl,_,_,rfl,rfl,_,rfl,xI (nG h) ?_⟩;have li:=zH #[0] (IG nb.1 nb.2);refine⟨_,rfl,.inl ⟨rfl,_,SqL.of e3⟩,_,rfl,ltr i,⟨uZ,rfl⟩,(by show 1+1<=sizeLine;decide),_,rfl,itx n,⟨OA (k:=10) #[1] #[0] #[0],rfl⟩, ?_,l,_,_,rfl,rfl,e3,few, ?_⟩
    ·show 1+1+(itx n).length<=sizeLine;exact nW (show _<=5 by omega) #[0]
    ·exact go [wtx (i,n)] _ (put _) ew (by rw[tU #[1]];rfl) (by
      have:wtx (i,n)=ltr i++⟨#[94]⟩++itx n:=tT (by show ¬n=1;omega);rw[this];exact jE)
  ·obtain⟨s2,e2,_⟩:=h;rw[nl,<-ok.len,mR]at e2;refine⟨rfl,_,rfl,⟨#[32]⟩,l,_,rfl,rfl,SqL.of e2, ?_,q _ s2⟩;refine SM (B:=444) (λy hy=>?_) ?_
   ·rcases nP.mp hy with rfl | hy
    ·exact JD ok
    ·exact nW (FP ok y hy) #[0]
   ·have:=HZ x.ns 0;have:=ok.len;have e:(⟨#[32]⟩:Str).length=1:=rfl;rw[e,mS,mY];omega
structure TrmV(H:Hp)(v:V)(x:Trm):Prop where
 ex:∃r b c:Addr,v=.ref r/\H r=some (.tup [.ref b,.ref c])/\TAt H b c x
theorem TrmV.map(h:TrmV H v x)(k:∀a xs,H a=some (.tup xs)->H' a=some (.tup xs)):TrmV H' v x:=by
 obtain⟨r,b,c,e1,e2,e3⟩:=h.ex;exact⟨r,b,c,e1,k _ _ e2,e3.map k⟩
structure Poly(H:Hp)(p:Addr)(aa:Nat)(ts:List Trm):Prop where
 ex:∃(q:Addr) (xs:List V),H p=some (.tup [.int aa,.ref q])/\H q=some (.tup xs)/\Paired (TrmV H) xs ts
theorem Paired.to{α β:Type}{F G:α->β->Prop}(f:∀a b,F a b->G a b):∀{l₁:List α} {l₂:List β},Paired F l₁ l₂->Paired G l₁ l₂
 | _,_,.nil=>.nil
 | _,_,.cons h t=>.cons (f _ _ h) (Paired.to f t)
theorem Poly.map{aa:Nat}(h:Poly H p aa ts)(k:∀a xs,H a=some (.tup xs)->H' a=some (.tup xs)):Poly H' p aa ts:=by
 obtain⟨q,xs,e1,e2,e3⟩:=h.ex;exact⟨q,xs,k _ _ e1,k _ _ e2,Paired.to (λ_ _ h=>h.map k) e3⟩
theorem Poly.same{aa:Nat}(h:Poly H p aa ts)(s:Same H H'):Poly H' p aa ts:=h.map λ_ _ e=>s _ _ e
theorem Paired.rev{α β:Type}{F:α->β->Prop} :∀{l₁:List α} {l₂:List β},Paired F l₁ l₂->Paired F l₁.reverse l₂.reverse
 | _,_,.nil=>.nil
 | _,_,.cons h t=>by
  rw[List.reverse_cons,List.reverse_cons];exact pair_app (Paired.rev t) (.cons h .nil)
where pair_app {α β:Type} {F:α->β->Prop} :∀{a b:List α} {c d:List β},Paired F a c->Paired F b d->Paired F (a++b) (c++d)
 | _,_,_,_,.nil,h=>h
 | _,_,_,_,.cons h t,k=>.cons h (pair_app t k)
theorem Paired.at{α β:Type}{F:α->β->Prop} :∀{l₁:List α} {l₂:List β} {i:Nat} {x:α},Paired F l₁ l₂->l₁[i]? = some x->∃y,l₂[i]? = some y/\F x y
 | _,_,_,_,.nil,h=>by simp at h
 | _,_,0,_,.cons h t,e=>by
  cases (Option.some.inj e);exact⟨_,rfl,h⟩
 | _,_,i+1,_,.cons h t,e=>Paired.at t (i:=i) e
def zA(x:Trm):PyData:=.tuple [.tuple (x.ns.map PyData.int),.tuple [.int x.t,.int x.b]]
def GK(aa:Nat)(ts:List Trm):PyData:=.tuple [.int aa,.tuple (ts.map zA)]
theorem MP :∀ns:List Int,DecVs H #[15] (ns.map PyData.int)
 | []=>.nil
 | n::r=>.cons (.int n) (MP r)
theorem TrmV.dec(h:TrmV H v x):DecV H v (zA x):=by
 obtain⟨r,b,c,rfl,e2,e3⟩:=h.ex;exact .tup e2 (.cons (.tup e3.pw (MP _)) (.cons (.tup e3.nb (.cons (.int _) (.cons (.int _) .nil))) .nil))
theorem wH :∀{xs:List V} {ts:List Trm},Paired (TrmV H) xs ts->DecVs H xs (ts.map zA)
 | _,_,.nil=>.nil
 | _,_,.cons h t=>.cons h.dec (wH t)
theorem Poly.dec{aa:Nat}(h:Poly H p aa ts):DecV H (.ref p) (GK aa ts):=by
 obtain⟨q,xs,e1,e2,e3⟩:=h.ex;exact .tup e1 (.cons (.int _) (.cons (.tup e2 (wH e3)) .nil))
theorem MF:∀ns:List Int,PyData.canLayAll0 (ns.map PyData.int)=true/\PyData.depthAll (ns.map PyData.int)<=5
 | []=>⟨by simp [PyData.canLayAll0],by simp [PyData.depthAll]⟩
 | n::r=>by
  have:=MF r;exact⟨by simp [PyData.canLayAll0,PyData.canLay0,this.1],by simp [PyData.depthAll,PyData.depth];omega⟩
theorem ES:∀ts:List Trm,PyData.canLayAll0 (ts.map zA)=true/\PyData.depthAll (ts.map zA)<=20
 | []=>⟨by simp [PyData.canLayAll0],by simp [PyData.depthAll]⟩
 | x::r=>by
  have h1:=ES r;have h2:=MF x.ns;exact⟨by simp [PyData.canLayAll0,PyData.canLay0,zA,h1.1,h2.1],by simp [PyData.depthAll,PyData.depth,zA];omega⟩
theorem IB(ts:List Trm):DataOk (.tuple (ts.map zA)):=by
 have h1:=ES ts;exact⟨by simp [PyData.canLay0,h1.1],by simp [PyData.depth];omega⟩
theorem wM(aa:Nat)(ts:List Trm):DataOk (GK aa ts):=by
 have h1:=ES ts;exact⟨by simp [GK,PyData.canLay0,PyData.canLayAll0,h1.1],by simp [GK,PyData.depth,PyData.depthAll];omega⟩
theorem NW:DataOk (.tuple []):=⟨by simp [PyData.canLay0,PyData.canLayAll0],by simp [PyData.depth,PyData.depthAll]⟩
theorem JS(ts:List Trm):PyData.eqv (.tuple (ts.map zA)) (.tuple [])=ts.isEmpty:=by
 cases ts with
 | nil=>simp [PyData.eqv,PyData.eqvAll]
 | cons x r=>simp [PyData.eqv,PyData.eqvAll]
structure Good(aa:Nat)(ts:List Trm):Prop where
 each:∀x∈ts,TmOk aa x
 few:ts.length<=60
 m1:1<=aa
 m4:aa<=4
 up:ts.Pairwise λx y=>LwD.lexI x.ns y.ns=true
def spShown:Sp:=λvs H Q _=>∃(p:Addr) (aa:Nat) (ts:List Trm),vs=[.ref p]/\Poly H p aa ts/\Good aa ts/\∀H',Same H H'->Q (.str (stx ts)) H'
structure CmI(F:Nat->List V)(q:Addr)(H1:Hp)(i:Nat)(ys:List V)(H2:Hp):Prop where
 s:Same H1 H2
 e:H2 q=some (.lst ys)
 y:ys=F i
theorem scShown:FnScope ["one"] ["one"] (jJ DY):=scK #[3]
theorem ZO(F:Fun K "shown" "shown" DY f fd)(T:Txt mg)(L:Ltr K mg)(DN:Df K mg "shown_number" DZ ["number"] fN fdN)(DT:Df K mg "shown_term" CG ["powers","number"] fT fdT):FnOk P w K mg base CX0 3 f fd ["one"] spShown:=by
 have GT:FnOk P w K mg base CX0 2 fT fdT ["powers","number"] spShTerm:=HA DT.F T L DN;refine F.ok scShown #[8] #[2]
 ·obtain⟨p,aa,ts,rfl,_⟩:=h
  rfl
 ·obtain⟨p,aa,ts,rfl,hp,ok,go⟩:=h;have hr2:Room 2 _:=hr.mono #[0];refine⟨_,jC (kE (jO (op_eqD hr.units) #[10] (kC jB) (jS _)) (jF (jP xL)) jR)
   (jF (jP (yK PySem.F.plainAttrs_str PySem.F.slot_str_join PySem.F.type_str_join RL xL (jA
    (vQ (own:=2) (idx:=[]) (N:=["powers","number"]) rfl rfl rfl #[3] #[3] (λ_ _ h=>nomatch h) (qU rfl) rfl (λ_ _ _ h=>nomatch h) (xY (pe_back #[10] (xB (GQ AZ jD))))
     (λC fp s2 H2=>show PG (jK _ ["powers","number"] _ _ C fp s2 H2) _ (AJ K 2 (qS (jV 0) (qS (jV 1) gNil)))from kD (X:=jK _ ["powers","number"] _ _ C fp s2 H2) rfl (jH (jG (i:=0) (show List.Nodup (["powers","number"]:List Str) by decide +kernel) rfl #[5] (Or.inr rfl)) (jH (jG (i:=1) (show List.Nodup (["powers","number"]:List Str) by decide +kernel) rfl #[5] (Or.inr rfl)) jY)))
     (λC fp s2 H2=>jZ GT hr2 rfl DT.m DT.F.kp DT.b .nil kW (jA (pv 0) (jA (pv 1) jB)))) jB)))), ?_⟩
  try dsimp only[cxK]
  obtain⟨q,xs,e1,e2,e3⟩:=hp.ex;refine⟨_,rfl,p,_,_,_,rfl,rfl,SqT.of e1,rfl,uY,λz H1 n1 s1 e4=>?_⟩;refine⟨_,_,.tup (s1 _ _ e2) (wH (Paired.to (λ_ _ h=>h.map λ_ _ e=>s1 _ _ e) e3)),.tup e4 .nil,IB ts,NW,_,rfl, ?_⟩;rw[JS];cases ts with
  | nil=>exact kI (go H1 s1)
  | cons x r=>
   refine vT ⟨rfl,_,rfl,p,_,_,_,rfl,rfl,SqT.of (s1 _ _ e1),rfl,1,rfl,_,rfl,rfl,q,xs,rfl,s1 _ _ e2,λq2 H2 s2 e5=>⟨q2,rfl,⟨_,SqT.of e5⟩,λl H3 n3 s3 e6=>?_⟩⟩;have s13:=s1.trans s2;have e7:=Paired.rev (Paired.to (λ_ _ h=>h.map λ_ _ e=>s13 _ _ e) e3);have lx:=Paired.length e7;rw[List.length_reverse (as:=x::r)]at lx;have few:=ok.few;refine BQ (K:=K) (a:=q2) (xs:=xs.reverse) (CmI (λi=>(((x::r).reverse.take i).map ttx).map V.str) l H2) (gZ (show xs.reverse.length<=60 by omega) #[0]) ⟨s3,e6,rfl⟩ (λi ys H4 h=>⟨SqT.of (h.s _ _ e5),h.e⟩) ?_ ?_
   ·rintro i m ys v H4 hv hm hy ⟨s4,e8,hys⟩;obtain⟨y,hy2,⟨r1,b,c,rfl,t1,t2⟩⟩:=Paired.at e7 hv;have ym:y∈x::r:=List.mem_reverse.mp (gQ hy2);refine⟨r1,_,rfl,SqT.of (s4 _ _ t1),rfl,_,_,rfl,_,_,rfl,rfl,BT, ?_⟩;refine⟨_,rfl,_,rfl,b,c,aa,y,rfl,t2.map (λ_ _ e=>s4 _ _ e),ok.each y ym,ok.m4,λH5 s5=>?_⟩;refine kJ hv hm hy (s5 _ _ e8) ⟨kA (s4.trans s5) ?_,jE, ?_⟩
    ·exact n3
    ·rw[hys,mI,hy2,mZ,mZ]
     rfl
   ·rintro ys H4 hl ⟨s4,e8,hys⟩;rw[lx,gK (by rw[List.length_reverse];exact tK _)]at hys;rw[hys]at e8;refine⟨⟨#[32,43,32]⟩,l,_,rfl,rfl,SqL.of e8, ?_,go H4 (s13.trans s4)⟩;refine SM (B:=469) (λy hy=>?_) ?_
    ·obtain⟨z,hz,rfl⟩:=nY.mp hy;exact ttx_len (ok.each z (List.mem_reverse.mp hz)) ok.m4
    ·have e:(⟨#[32,43,32]⟩:Str).length=3:=rfl;rw[e,mY,List.length_reverse];omega
def figs:List V:=[.str ⟨#[48]⟩,.str ⟨#[49]⟩,.str ⟨#[50]⟩,.str ⟨#[51]⟩,.str ⟨#[52]⟩,.str ⟨#[53]⟩,.str ⟨#[54]⟩,.str ⟨#[55]⟩,.str ⟨#[56]⟩,.str ⟨#[57]⟩]
def Fig(K:tV)(mg:Str->Option Value):Prop:=∃a,mg "FIGURES" = some (.ref a)/\∀H,SqT K H a figs
theorem in_figs{c:Nat}(h:48<=c/\c<=57):inV (.str ⟨#[c]⟩) figs=true:=by
 have:c=48∨c=49∨c=50∨c=51∨c=52∨c=53∨c=54∨c=55∨c=56∨c=57:=by omega
 rcases this with rfl | rfl | rfl | rfl | rfl | rfl | rfl | rfl | rfl | rfl<;>decide
def spRdWhole:Sp:=λvs H Q _=>∃i:Int,vs=[.str (itx i)]/\i.natAbs<10^600/\∀H',Same H H'->Q (.int i) H'
def spRdNum:Sp:=λvs H Q _=>∃(aa:Nat) (x:Trm),vs=[.str (ntx x.t x.b)]/\TmOk aa x/\∀p H',H p=none->Same H H'->At2 H' p x.t x.b->Q (.ref p) H'
theorem all_true(n:Nat):(List.replicate n true).all id=true:=by
 rw[List.all_eq_true];intro b hb;rw[(List.mem_replicate.mp hb).2]
 rfl
theorem NH{z:Str}(h:z.cps.toList≠[]):decide (V.str z=V.str (Str.ofString ""))=false:=by
 refine nC λe=>h ?_;injection e with e
 rw[e]
 rfl
theorem KZ{i:Int}{z:Str}(hz:z.cps.toList=dg i.natAbs)(hi:i.natAbs<10^600)(q:∀H',Same H H'->Q (.int i) H')(fs:∀H,SqT K H fa figs) :
  vM (tIfS (tOr (KL (tOp rEq (kH 1) (tC (V.str (Str.ofString ""))))) (tNot (tB (tCB (rAll K) (xM (ID 1 [] (iStr (kH 1)) (jV 0) (tOp (rIn K false) (kH 0) (tC (V.ref fa)))) tNil))))) tNever tNext)
   (KM (tCB (λxs H Q=>∃(x:Str) (i:Int),xs=[V.str x]/\LwI.Nml x.cps.toList i/\Q (V.int i) H) (xM (kH 0) tNil))) { nx:=λx H'=>Q V.non H',rt:=Q } [some (.str (itx i)),some (.str z)] H:=by
 have dl:=JW #[0] hi;have ec:∀c∈dg i.natAbs,48<=c/\c<=57:=BP _;refine⟨_,rfl,rfl,_,rfl,qT (NH (by rw[hz];exact SY _)) ?_⟩;have a128:z.cps.all (· < 128)=true:=by
  rw[<-Array.all_toList,hz];exact List.all_eq_true.mpr λc hc=>nG (by have:=ec c hc;omega)
 refine⟨_,rfl,z,rfl,a128,λl H1 n1 s1 e1=>?_⟩;have zl:z.length=(dg i.natAbs).length:=by rw[<-hz,jW]
 refine CU (J:=Its z) (xs:=(dg i.natAbs).map λc=>V.str ⟨#[c]⟩) (CmI (λk=>List.replicate k (V.bl true)) l H) (by rw[mY];exact gZ dl #[0]) ⟨s1,e1,rfl⟩ (λk ys H2 h hk=>?_) (λys H2 h=>?_) (λk ys H2 h=>h.e) ?_ ?_
 ·rw[mY]at hk;refine⟨by show k<z.length;omega,λx H3 y=>?_⟩;obtain⟨e,c,hc,rfl⟩:=y;rw[hz]at hc;exact⟨e,by rw[mG,hc];rfl⟩
 ·show z.length<=_;rw[mY];omega
 ·rintro k m ys x H2 hx hm hy ⟨s2,e2,hys⟩;rw[mG]at hx;have hx':=hx;obtain⟨c,hc,rfl⟩:∃c,(dg i.natAbs)[k]? = some c/\V.str ⟨#[c]⟩=x:=by
   cases e:(dg i.natAbs)[k]? with
   | none=>rw[e]at hx;cases hx
   | some c=>rw[e]at hx;exact⟨c,rfl,Option.some.inj hx⟩
  refine⟨wE,_,rfl,fa,figs,rfl,.inr (fs H2),rfl,rfl, ?_⟩;rw[in_figs (ec c (gQ hc))];refine kJ (by rw[mG];exact hx') hm hy e2 ⟨kA s2 n1,jE, ?_⟩;rw[hys,List.replicate_succ']
  rfl
 ·rintro ys H2 hl ⟨s2,e2,hys⟩;rw[mY]at hys;refine⟨l,List.replicate (dg i.natAbs).length true,rfl,SqL.of (by rw[e2,hys,List.map_replicate]),_,rfl, ?_⟩;rw[all_true];refine vT ⟨_,rfl,_,_,rfl,SO hi,q H2 s2⟩
theorem scRdWhole:FnScope ["word","figures"] ["word"] (jJ yR):=scK #[3]
theorem uC(F:Fun K "read_whole" "read_whole" yR f fd)(T:Txt mg)(G:Fig K mg):FnOk P w K mg base CX0 1 f fd ["word"] spRdWhole:=by
 obtain⟨fa,fm,fs⟩:=G;refine F.ok scRdWhole #[8] #[2]
 ·obtain⟨i,rfl,_⟩:=h
  rfl
 ·obtain⟨i,rfl,hi,q⟩:=h;refine⟨_,jC (jN (i:=1) scRdWhole.nd rfl #[5] (LI (vP (yK PySem.F.plainAttrs_str PySem.F.slot_str_startswith PySem.F.type_str_startswith VA (pv 0) (jA xL jB))) (yA sl_str (pv 0) (xB jD) zD) (pv 0)))
   (jC (kE (PW.pt (zM (jO yU (pv 1) xL (jS _)) (xW (vW (vP (kF (AU rfl) (by rfl) T.all boot_all (jA
    (vQ (own:=1) (idx:=[]) (N:=["sign"]) rfl rfl rfl #[3] #[3] (λ_ _ h=>nomatch h) (qU rfl) rfl (λ_ _ _ h=>nomatch h) (pi_str (pv 1)) (λC fp s2 H2=>jG (i:=0) (show List.Nodup (["sign"]:List Str) by decide +kernel) rfl #[5])
     (λC fp s2 H2=>zG (show OpR (jK _ ["sign"] _ _ C fp s2 H2) (compareOp .In) (rIn K false)from UO) (pv 0) (kT (v:=.ref fa) (by rfl) fm rfl) rfl)) jB))))))) (jF kP) jR)
   (jF (jP (qE WA (by rfl) T.int boot_int (jA (pv 0) jB))))), ?_⟩
  try dsimp only[cxK]
  have nm:=SO hi;have dl:=JW #[0] hi;have ln:(itx i).length<=601:=zH #[0] hi;have ec:∀c∈dg i.natAbs,48<=c/\c<=57:=BP _;refine⟨_,rfl,rfl,_,_,rfl,rfl,_,rfl, ?_⟩;have hc:=vY i;rw[show Txt.startswith (itx i) (Str.ofString "-")=decide (i<0)from NI i];by_cases h0:i<0
  all_goals first | refine xI (nG h0) ?_ | refine qT (nC h0) ?_
  ·have hz:(Txt.slice (itx i) (some 1) none).cps.toList=dg i.natAbs:=by
    have e:(itx i).cps.toList=45::dg i.natAbs:=by
     rcases hc with h | h
     ·omega
     ·exact h.2
    rw[slice1 (by rw[<-jW,e,mS];omega),e]
    rfl
   refine⟨_,rfl,_,rfl,_,rfl,nW ln #[0], ?_⟩;exact KZ hz hi q fs
  ·have hz:(itx i).cps.toList=dg i.natAbs:=by
    rcases hc with h | h
    ·exact h.2
    ·omega
   refine⟨_,rfl, ?_⟩;exact KZ hz hi q fs
theorem scRdNum:FnScope ["word","top","stroke","bottom"] ["word"] (jJ IM):=scK #[3]
theorem LP(F:Fun K "read_number" "read_number" IM f fd)(T:Txt mg)(G:Fig K mg)(DW:Df K mg "read_whole" yR ["word"] fW fdW):FnOk P w K mg base CX0 2 f fd ["word"] spRdNum:=by
 have GW:FnOk P w K mg base CX0 1 fW fdW ["word"] spRdWhole:=uC DW.F T G;refine F.ok scRdNum #[8] #[2]
 ·obtain⟨aa,x,rfl,_⟩:=h
  rfl
 ·obtain⟨aa,x,rfl,ok,go⟩:=h;refine⟨_,jC (qP (yK PySem.F.plainAttrs_str PySem.F.slot_str_partition PySem.F.type_str_partition RK (pv 0) (jA xL jB)) (kD rfl (jH (jG (i:=1) scRdNum.nd rfl #[5]) (jH (jG (i:=2) scRdNum.nd rfl #[5]) (jH (jG (i:=3) scRdNum.nd rfl #[5]) jY)))))
   (jC (kE (jO yU (pv 2) xL (jS _)) (jF (jP (kC (jA (jZ GW hr rfl DW.m DW.F.kp DW.b .nil kW (jA (pv 1) jB)) (jA jD jB))))) jR)
   (jF (jP (kC (jA (jZ GW hr rfl DW.m DW.F.kp DW.b .nil kW (jA (pv 1) jB)) (jA (jZ GW hr rfl DW.m DW.F.kp DW.b .nil kW (jA (pv 3) jB)) jB)))))), ?_⟩
  try dsimp only[cxK]
  have t6:x.t.natAbs<10^600:=Nat.lt_trans ok.t10 #[3];have b6:x.b.natAbs<10^600:=Nat.lt_trans ok.b10 #[3];have no:∀i:Int,47∉(itx i).cps.toList:=λi h=>by have:=yX h;omega
  refine⟨_,rfl,rfl,_,_,rfl,rfl,rfl,nW (JD ok) #[0],λp H1 n1 s1 e1=>⟨p,_,rfl,SqT.of e1,rfl,_,_,rfl,_,_,rfl,_,_,rfl,rfl, ?_⟩⟩;by_cases hb:x.b=1
  ·have e:Txt.partition (ntx x.t x.b) (Str.ofString "/")=(itx x.t,Str.empty,Str.empty):=by
    rw[show ntx x.t x.b=itx x.t from tU hb];exact RA (no _)
   rw[e];refine⟨_,rfl,rfl,_,rfl,xI (nG rfl) ?_⟩;refine⟨_,rfl,_,rfl,t6,λH2 s2=>⟨gA,λp2 H3 n3 s3 e3=>?_⟩⟩;have s13:=s1.trans (s2.trans s3);refine go p2 H3 ((s1.trans s2).free n3) s13 ?_;rw[At2,hb];exact e3
  ·have e:Txt.partition (ntx x.t x.b) (Str.ofString "/")=(itx x.t,⟨#[47]⟩,itx x.b):=by
    rw[show ntx x.t x.b=itx x.t++⟨#[47]⟩++itx x.b from tT hb];exact RB (no _)
   rw[e];refine⟨_,rfl,rfl,_,rfl,qT (NH (λz=>by cases z)) ?_⟩;refine⟨_,rfl,_,rfl,t6,λH2 s2=>⟨_,rfl,_,rfl,b6,λH3 s3=>⟨gA,λp2 H4 n4 s4 e4=>?_⟩⟩⟩;exact go p2 H4 ((s1.trans (s2.trans s3)).free n4) (s1.trans (s2.trans (s3.trans s4))) e4
theorem get_list{X:Cx} :PGet X (LC X.K):=by
 intro ac s σ H x y v u Q I rx ry h;obtain⟨p,xs,i,z,rfl,rfl,hq,he,q⟩:=h;cases rx;obtain⟨t,rfl⟩:=ry;obtain⟨its,r,pl,hz⟩:=I.list hq;obtain⟨j,h1,h2,h3,h4,h5⟩:=KF he;obtain⟨w,ew,rw'⟩:=r.get h2;have hl:=r.length;have hn:=BM;have fin:EP X ac σ Q w s:=⟨z,H,I,rw',q⟩;by_cases h0:0<=i
 ·have hj:i.toNat=j:=by
   rw[seqIndex_of h0 h5]at h1;exact Option.some.inj h1
  exact wpAny_getItem_list pl.isList h0 #[1] (by rw[hj];simpa using ew) fin
 ·have hj:(i+(its.toArray.size:Int)).toNat=j:=by
   rw[seqIndex_neg #[1] h4]at h1;rw[mH,<-hl];exact Option.some.inj h1
  exact wpAny_getItem_list_neg pl.isList #[1] (by rw[mH]<;>omega) #[1] (by rw[hj];simpa using ew) fin
def rSlK(K:tV):V->Option Int->Option Int->Hp->VK->Prop:=λx lo hi H Q=>∃a xs,x=.ref a/\SqT K H a xs/\∀p H',Same H H'->SqT K H' p (xK xs lo hi)->Q (.ref p) H'
theorem sl_tupK{X:Cx} :SlR X (rSlK X.K):=by
 intro ac s σ H x v vl vu lo hi sl Q I rx hs pl pu h;obtain⟨a,xs,rfl,hx,q⟩:=h;by_cases hw:HT.sIx xs.length 0 lo=0/\HT.sIx xs.length xs.length hi=xs.length
 ·cases rx;obtain⟨its,r,ht,hz⟩:=I.tuple hx;have hl:its.toArray.size=xs.length:=by rw[mH];exact r.length.symm
  refine⟨"tuple",_,PyProof.Rows.slot_tuple_getitem.lookup,ht.typeIs,HT.cut_whole ht hs pl pu (by rw[hl];exact hw) ⟨.ref a,H,I,rfl,q a H (λ_ _ e=>e) ?_⟩⟩;rw[xK,hw.1,hw.2];simpa using hx
 ·exact XS ac s σ H _ v vl vu lo hi sl Q I rx hs pl pu ⟨a,xs,rfl,hx,hw,λp n=>q p _ (Lw.jQ _ n) (SqT.of jE)⟩
def lets:List V:=[.str (ltr 0),.str (ltr 1),.str (ltr 2),.str (ltr 3)]
theorem cut_lets{aa:Nat}(h:aa<=4):xK lets none (some (aa:Int))=lets.take aa:=by
 rw[xK,HT.sIx_none,HT.sIx_nat,List.drop_zero,Nat.sub_zero]
 congr 1
 show min aa 4=aa;omega
theorem NZ(i j:Nat):eqV (.str (ltr i)) (.str (ltr j))=decide (i=j):=by
 show(ltr i==ltr j)=_;by_cases h:i=j
 ·rw[h,nG rfl];exact beq_self_eq_true _
 ·rw[nC h];refine beq_eq_false_iff_ne.mpr λe=>h ?_;have e2:[97+i]=[97+j]:=congrArg (λs:Str=>s.cps.toList) e;injection e2 with e2
  omega
theorem JL{i:Nat}(h:i<4):lets[i]? = some (.str (ltr i)):=by
 match i,h with
 | 0,_=>rfl
 | 1,_=>rfl
 | 2,_=>rfl
 | 3,_=>rfl
 | n+4,h=>omega
theorem in_lets{j aa:Nat}(h:j<aa)(hm:aa<=4):inV (.str (ltr j)) (lets.take aa)=true:=by
 refine List.any_eq_true.mpr ⟨.str (ltr j), ?_,by rw[NZ];exact nG rfl⟩;refine gQ (i:=j) ?_;rw[gH h];exact JL #[1]
theorem VM(aa:Nat):(lets.take aa).all zO=true:=by
 refine List.all_eq_true.mpr λv hv=>?_;have:=gX hv;simp only[lets,nP,mQ,or_false]at this;rcases this with rfl | rfl | rfl | rfl<;>rfl
theorem WG{j:Nat}{p:Int} :∃hat pw:Str,Txt.partition (wtx (j,p)) ⟨#[94]⟩=(ltr j,hat,pw)/\((hat=Str.empty/\p=1)∨(hat.cps.toList≠[]/\pw=itx p)):=by
 have no:94∉(ltr j).cps.toList:=λh=>by
  have:94=97+j:=by simpa [ltr]using h
  omega
 by_cases h:p=1
 ·refine⟨Str.empty,Str.empty, ?_,.inl ⟨rfl,h⟩⟩;rw[show wtx (j,p)=ltr j from tU h];exact RA no
 ·refine⟨⟨#[94]⟩,itx p, ?_,.inr ⟨(λz=>by cases z),rfl⟩⟩;rw[show wtx (j,p)=ltr j++⟨#[94]⟩++itx p from tT h];exact RB no
def spRdPw:Sp:=λvs H Q _=>∃(a:Addr) (aa:Nat) (x:Trm),vs=[.ref a,.int aa]/\H a=some (.lst (((wl 0 x.ns).map wtx).map V.str))/\TmOk aa x/\1<=aa/\aa<=4/\∀p H',H p=none->Same H H'->H' p=some (.tup (x.ns.map V.int))->Q (.ref p) H'
def spRdTerm:Sp:=λvs H Q _=>∃(aa:Nat) (x:Trm),vs=[.str (ttx x),.int aa]/\TmOk aa x/\1<=aa/\aa<=4/\∀v H',Same H H'->TrmV H' v x->Q v H'
inductive PwI(H:Hp)(a l:Addr)(aa:Nat)(q:List (Nat×Int))(i:Nat):L2.St->Hp->Prop where
 | mk {u v x y:Option V} {H':Hp} {ps:List Int} (s:Same H H') (e:H' l=some (.lst (ps.map V.int))) (n:ps=(q.take i).foldl OU (List.replicate aa 0)) (hl:ps.length=aa):PwI H a l aa q i [some (.ref a),some (.int aa),some (.ref l),u,v,x,y] H'
theorem scRdPw:FnScope ["words","many","powers","word","letter","hat","power"] ["words","many"] (jJ QM):=scK #[3]
theorem RE(F:Fun K "read_powers" "read_powers" QM f fd)(T:Txt mg)(L:Ltr K mg)(G:Fig K mg)(DW:Df K mg "read_whole" yR ["word"] fW fdW):FnOk P w K mg base CX0 2 f fd ["words","many"] spRdPw:=by
 have GW:FnOk P w K mg base CX0 1 fW fdW ["word"] spRdWhole:=uC DW.F T G;obtain⟨la,lm,ls,lo,lk,lc,ld⟩:=L;refine F.ok scRdPw #[8] #[2]
 ·obtain⟨a,aa,x,rfl,_⟩:=h
  rfl
 ·obtain⟨a,aa,x,rfl,ha,ok,m1,m4,go⟩:=h;refine⟨_,jC (jN (i:=2) scRdPw.nd rfl #[5] (jM ZD (xQ (jA jD jB)) (pv 1)))
   (jC (kZ PassesOwn.never rfl (xC (pv 0)) (jG (i:=3) scRdPw.nd rfl #[5])
    (jC (qP (yK PySem.F.plainAttrs_str PySem.F.slot_str_partition PySem.F.type_str_partition RK (pv 3) (jA xL jB)) (kD rfl (jH (jG (i:=4) scRdPw.nd rfl #[5]) (jH (jG (i:=5) scRdPw.nd rfl #[5]) (jH (jG (i:=6) scRdPw.nd rfl #[5]) jY)))))
    (jC (kE (jO IY (pv 4) (yA sl_tupK (kT (v:=.ref la) (by rfl) lm rfl) zD (xB (pv 1))) rfl) (jF kP) jR)
    (jF (ps_augS (pv 2) (yK PySem.F.plainAttrs_tuple PySem.F.slot_tuple_index PySem.F.type_tuple_index mt_index (kT (v:=.ref la) (by rfl) lm rfl) (jA (pv 4) jB)) get_list (LI (jO yU (pv 5) xL (jS _)) jD (jZ GW hr rfl DW.m DW.F.kp DW.b .nil kW (jA (pv 6) jB))) ip_add xV)))))
   (jF (jP (qE qC (by rfl) T.tup boot_tuple (jA (pv 2) jB))))), ?_⟩
  try dsimp only[cxK]
  refine⟨uZ,λz0 H3 n3 s3 e3=>⟨_,rfl,z0,aa,[.int 0],rfl,rfl,e3,by omega,by omega, ?_,λl nl=>?_⟩⟩
  ·show 1*(aa:Int).toNat<=sizeLine;exact nW (show 1*(aa:Int).toNat<=4 by omega) #[0]
  have hl0:(List.replicate (aa:Int).toNat [V.int 0]).flatten=(List.replicate aa (0:Int)).map V.int:=by simp
  rw[hl0];have nl0:H l=none:=s3.free nl;have s4:Same H (upd H3 l (.lst ((List.replicate aa (0:Int)).map V.int))):=kA s3 nl0;refine⟨_,rfl,a,rfl,⟨_,SqL.of (s4 _ _ ha)⟩, ?_⟩;refine AL (K:=K) (a:=a) (xs:=((wl 0 x.ns).map wtx).map V.str) (PwI H a l aa (wl 0 x.ns)) (.mk s4 jE rfl #[14]) (λi σ H5 _ h=>?_) (λi v σ H5 hv h=>?_) (fun σ H5 h=>?_)
  ·obtain⟨s5,_,_,_⟩:=h;exact SqL.of (s5 _ _ ha)
  ·obtain⟨s5,e5,hps,hl⟩:=h;rename_i u0 v0 x0 y0 ps;rw[mG,mG]at hv;obtain⟨⟨j,p⟩,hq,rfl⟩:∃q,(wl 0 x.ns)[i]? = some q/\V.str (wtx q)=v:=by
    cases e:(wl 0 x.ns)[i]? with
    | none=>rw[e]at hv;cases hv
    | some q=>rw[e]at hv;exact⟨q,rfl,Option.some.inj hv⟩
   obtain⟨_,hj,hp1,hpm⟩:=MY (gQ hq);have hjm:j<aa:=by have:=ok.len;dsimp only at hj;omega
   have hp:=ok.le hpm;dsimp only at hp1 hp;obtain⟨hat,pw,ep,hh⟩:=WG (j:=j) (p:=p);have wlen:(wtx (j,p)).length<=sizeLine:=nW (OW (q:=(j,p)) hp.1 hp.2) #[0];refine⟨_,rfl,rfl,_,_,rfl,rfl,rfl,wlen,λp0 H6 n6 s6 e6=>⟨p0,_,rfl,SqT.of e6,rfl,_,_,rfl,_,_,rfl,_,_,rfl,rfl, ?_⟩⟩;rw[show Txt.partition (wtx (j,p)) (Str.ofString "^")=(ltr j,hat,pw)from ep];refine⟨_,rfl,_,rfl,_,rfl,la,lets,rfl,ls H6,λp1 H7 s7 sq7=>?_⟩;rw[cut_lets m4]at sq7;refine⟨p1,_,rfl,.inr sq7,rfl,VM aa,_,rfl, ?_⟩;rw[in_lets hjm m4];have s57:=s5.trans (s6.trans s7);have e7:=s7 _ _ (s6 _ _ e5);have hjl:j<ps.length:=by omega
   refine vT ⟨_,rfl,.inr (.inl ⟨rfl,lo,lk,lc,ld⟩),_,rfl,la,lets,.str (ltr j),j,rfl,rfl,ls H7,rfl,rfl,(by show j<4;omega),λk z hk hz=>?_,λz hz=>?_, ?_⟩
   ·rw[JL #[1]]at hz;rw[<-Option.some.inj hz,NZ];exact nC #[1]
   ·rw[JL #[1]]at hz;rw[<-Option.some.inj hz,NZ];exact nG rfl
   refine⟨l,_,(j:Int),V.int (ps.getD j 0),rfl,rfl,SqL.of e7,qO (by simp [hjl]), ?_⟩;have ix:ixN ((ps.map V.int).length) (j:Int)=some j:=by
    unfold ixN;rw[tU #[1],tU (by rw[mY];omega)];simp
   have fin:∀H8,Same H7 H8->PwI H a l aa (wl 0 x.ns) (i+1) [some (.ref a),some (.int aa),some (.ref l),some (.str (wtx (j,p))),some (.str (ltr j)),some (.str hat),some (.str pw)] (upd H8 l (.lst ((ps.map V.int).set j (.int (ps.getD j 0+p))))):=λH8 s8=>
    .mk (ps:=OU ps (j,p)) (kA (s57.trans s8) nl0) (by rw[jE,OU,List.map_set]) (by rw[mI,hq,hps];simp [mM]) (by rw[OU,List.length_set];exact hl)
   refine⟨_,rfl,rfl,_,rfl, ?_⟩;rcases hh with⟨rfl,rfl⟩ | ⟨h1,rfl⟩
   ·exact xI (nG rfl) ⟨_,_,rfl,rfl,l,_,_,j,rfl,rfl,e7,ix,fin H7 (Same.refl _)⟩
   ·refine qT (NH h1) ⟨_,rfl,p,rfl,Nat.lt_trans (IG hp.1 hp.2) #[3],λH8 s8=>⟨_,_,rfl,rfl,l,_,_,j,rfl,rfl,s8 _ _ e7,ix,fin H8 s8⟩⟩
  ·obtain⟨s5,e5,hps,hl⟩:=h;rename_i u0 v0 x0 y0 ps;refine⟨_,rfl,l,_,rfl,.inl ⟨SqL.of e5,λp np=>?_⟩⟩;have ew:ps=x.ns:=by
    rw[hps,mY,mY,mR,SU aa aa x.ns ok.len uX ok.nn,Nat.sub_self];simp
   rw[ew];exact go p _ (s5.free np) (s5.trans (jQ _ np)) jE
theorem ltOf:∀{a b:List Int},LwD.lexI a b=true->LwT.lexLt a b=true
 | [],[],h=>by simp [LwD.lexI]at h
 | [],_::_,_=>by rfl
 | _::_,[],h=>by simp [LwD.lexI]at h
 | x::xs,y::ys,h=>by
  unfold LwD.lexI at h;show(if x=y then LwT.lexLt xs ys else decide (x<y))=true;split
  ·rename_i e;rw[tU e]at h;exact ltOf h
  ·rename_i e;rw[tT e]at h;exact h
theorem wP:∀ns:List Int,xJ (ns.map PyData.int)=ns
 | []=>rfl
 | n::r=>by show n::xJ (r.map PyData.int)=_;rw[wP r]
theorem XB{aa:Nat}(h:TmOk aa x):vN (zA x) aa=true:=by
 show((decide (((x.ns.map PyData.int).length:Int)=aa)&&((x.ns.map PyData.int).all λd=>whF d 0)&&decide ((xJ (x.ns.map PyData.int)).sum<=16))&&((decide (1<=x.b)&&decide (Int.gcd x.t x.b=1))&&!decide ([x.t,x.b]=[0,1])))=true;have e1:decide (((x.ns.map PyData.int).length:Int)=aa)=true:=nG (by rw[mY,h.len]);have e2:((x.ns.map PyData.int).all λd=>whF d 0)=true:=List.all_eq_true.mpr λd hd=>by
  obtain⟨n,hn,rfl⟩:=nY.mp hd;exact nG (h.nn n hn)
 have e3:decide ((xJ (x.ns.map PyData.int)).sum<=16)=true:=by rw[wP];exact nG h.deg
 have e4:decide (1<=x.b)=true:=nG h.pos;have e5:decide (Int.gcd x.t x.b=1)=true:=nG h.low;have e6:decide ([x.t,x.b]=[0,1])=false:=nC λz=>by injection z with z _;exact h.nz z
 rw[e1,e2,e3,e4,e5,e6]
 rfl
theorem YB{ts:List Trm}(h:ts.Pairwise λx y=>LwD.lexI x.ns y.ns=true):GE (ts.map zA)=true:=by
 unfold GE;refine List.all_eq_true.mpr λq hq=>?_;obtain⟨j,hj⟩:=gP.mp hq;obtain⟨h1,h2⟩:=List.getElem?_zip_eq_some.mp hj;rw[List.getElem?_drop,mG]at h2;rw[mG]at h1;cases e1:ts[j]? with
 | none=>rw[e1]at h1;cases h1
 | some a=>
  cases e2:ts[1+j]? with
  | none=>rw[e2]at h2;cases h2
  | some b=>
   rw[e1]at h1;rw[e2]at h2;have a1:zA a=q.1:=Option.some.inj h1;have a2:zA b=q.2:=Option.some.inj h2;rw[<-a1,<-a2];show LwT.lexLt (xJ (a.ns.map PyData.int)) (xJ (b.ns.map PyData.int))=true;rw[wP,wP];obtain⟨i1,g1⟩:=gE.mp e1;obtain⟨i2,g2⟩:=gE.mp e2;have:=List.pairwise_iff_getElem.mp h j (1+j) i1 i2 #[1];rw[g1,g2]at this;exact ltOf this
theorem QA{aa:Nat}(h:Good aa ts):KN (GK aa ts)=true:=by
 show((decide (1<=(aa:Int))&&decide ((aa:Int)<=4))&&(decide ((ts.map zA).length<=500)&&(((ts.map zA).all λt=>vN t aa)&&GE (ts.map zA))))=true;have e1:decide (1<=(aa:Int))=true:=nG (by have:=h.m1;omega);have e2:decide ((aa:Int)<=4)=true:=nG (by have:=h.m4;omega);have e3:decide ((ts.map zA).length<=500)=true:=nG (by rw[mY];have:=h.few;omega);have e4:((ts.map zA).all λt=>vN t aa)=true:=List.all_eq_true.mpr λd hd=>by
  obtain⟨x,hx,rfl⟩:=nY.mp hd;exact XB (h.each x hx)
 rw[e1,e2,e3,e4,YB h.up]
 rfl
theorem QB{aa:Nat}(h:Good aa ts):suOk (GK aa ts):=by
 show ∀t∈ts.map zA,tmOk t;intro d hd;obtain⟨x,hx,rfl⟩:=nY.mp hd;have ok:=h.each x hx;refine⟨⟨?_,λi hi=>?_⟩,λz hz=>?_⟩
 ·rw[mY,ok.len];exact nW h.m4 #[0]
 ·obtain⟨n,hn,e⟩:=nY.mp hi;injection e with e
  rw[<-e];exact Int.le_trans (ok.le hn).2 #[0]
 ·rcases nP.mp hz with rfl | hz
  ·exact Nat.lt_trans ok.st (gU #[0] #[0])
  ·rw[mB]at hz;subst hz;exact Nat.lt_trans ok.sb (gU #[0] #[0])
theorem scRdTerm:FnScope ["text","many","words"] ["text","many"] (jJ CH):=scK #[3]
theorem UT(F:Fun K "read_term" "read_term" CH f fd)(T:Txt mg)(L:Ltr K mg)(G:Fig K mg)(DW:Df K mg "read_whole" yR ["word"] fW fdW)(DN:Df K mg "read_number" IM ["word"] fN fdN)(DP:Df K mg "read_powers" QM ["words","many"] fP fdP):FnOk P w K mg base CX0 3 f fd ["text","many"] spRdTerm:=by
 have GN:FnOk P w K mg base CX0 2 fN fdN ["word"] spRdNum:=LP DN.F T G DW;have GP:FnOk P w K mg base CX0 2 fP fdP ["words","many"] spRdPw:=RE DP.F T L G DW;refine F.ok scRdTerm #[8] #[2]
 ·obtain⟨aa,x,rfl,_⟩:=h
  rfl
 ·obtain⟨aa,x,rfl,ok,m1,m4,go⟩:=h;refine⟨_,jC (jN (i:=2) scRdTerm.nd rfl #[5] (yK PySem.F.plainAttrs_str PySem.F.slot_str_split PySem.F.type_str_split LX (pv 0) (jA xL jB)))
   (jF (jP (kC (jA (jZ GP hr rfl DP.m DP.F.kp DP.b .nil kW (jA (yA QG (pv 2) (xB jD) zD) (jA (pv 1) jB))) (jA (jZ GN hr rfl DN.m DN.F.kp DN.b .nil kW (jA (jU kX (pv 2) jD (λ_ _=>rfl)) jB)) jB))))), ?_⟩
  try dsimp only[cxK]
  refine⟨_,rfl,rfl,_,_,rfl,rfl,rfl,nW (Nat.add_le_add_right (ttx_len ok m4) 2) #[0],λl H1 n1 s1 e1=>?_⟩;rw[show Txt.split (ttx x) (Str.ofString " ")=ntx x.t x.b::(wl 0 x.ns).map wtx from FX x]at e1;refine⟨_,rfl,_,rfl,l,_,rfl,SqL.of e1,λp np=>⟨_,rfl, ?_⟩⟩;have ec:xK ((ntx x.t x.b::(wl 0 x.ns).map wtx).map V.str) (some 1) none=((wl 0 x.ns).map wtx).map V.str:=by
   rw[MR]
   rfl
  rw[ec];refine⟨p,aa,x,rfl,jE,ok,m1,m4,λb H2 n2 s2 e2=>?_⟩;have s12:Same H1 H2:=(jQ _ np).trans s2;refine⟨_,rfl,l,_,0,_,rfl,rfl,SqL.of (s12 _ _ e1),qO (j:=0) rfl,aa,x,rfl,ok,λc H3 n3 s3 e3=>⟨gA,λr H4 n4 s4 e4=>?_⟩⟩;exact go _ H4 (s1.trans (s12.trans (s3.trans s4))) ⟨r,b,c,rfl,e4,s4 _ _ (s3 _ _ e2),s4 _ _ e3⟩
theorem FZ{y p:Str}{k c:Nat}(M:Mark y k c)(h:c∉p.cps.toList):Txt.split p y=[p]:=wZ M (p:=p) (ps:=[]) λq hq=>by rw[mB.mp hq];exact h
theorem itx_pos(i:Int):1<=(itx i).length:=by
 rw[<-jW];have:=SY i.natAbs;rcases vY i with⟨_,h⟩ | ⟨_,h⟩<;>rw[h]
 ·cases e:dg i.natAbs with
  | nil=>exact absurd e this
  | cons a r=>simp
 ·simp
theorem stx_ne{aa:Nat}(h:TmOk aa x):decide (V.str (stx (x::r))=V.str (Str.ofString "0"))=false:=by
 refine nC λe=>?_;injection e with e
 have e:stx (x::r)=⟨#[48]⟩:=e;have h1:=FY x r;have M3:Mark ⟨#[32,43,32]⟩ 1 43:=⟨rfl,λj hj=>(by
  have e0:j=0:=by omega
  rw[e0]
  decide),by decide +kernel⟩
 have M1:Mark ⟨#[32]⟩ 0 32:=⟨rfl,λj hj=>absurd hj (Nat.not_lt_zero _),by decide +kernel⟩;rw[e,FZ M3 #[0]]at h1;have hr:r=[]:=by
  have:=congrArg List.length h1;rw[mY,List.length_reverse]at this;exact List.length_eq_zero_iff.mp (by simpa using this.symm)
 subst hr;have e2:ttx x=⟨#[48]⟩:=by
  have h1':[(⟨#[48]⟩:Str)]=[ttx x]:=h1;exact(List.cons.inj h1').1.symm
 have h3:=FX x;rw[e2,FZ M1 #[0]]at h3
 replace h3:=(List.cons.inj h3).1
 unfold ntx at h3;split at h3
 ·have e4:[48]=(itx x.t).cps.toList:=congrArg (λs:Str=>s.cps.toList) h3;rcases vY x.t with⟨_,h5⟩ | ⟨_,h5⟩
  ·rw[h5]at e4;have:=dg_val x.t.natAbs;rw[<-e4]at this;have v0:LwI.valD [48]=0:=by decide
   rw[v0]at this;exact h.nz #[1]
  ·rw[h5]at e4;injection e4 with e4 _
   omega
 ·have:=congrArg Str.length h3;rw[Str.length_append,Str.length_append]at this;have l1:(⟨#[48]⟩:Str).length=1:=rfl;have l2:(⟨#[47]⟩:Str).length=1:=rfl;have:=itx_pos x.t;omega
def spRead:Sp:=λvs H Q _=>∃(aa:Nat) (ts:List Trm),vs=[.str (stx ts),.int aa]/\Good aa ts/\(stx ts).length<=4000/\∀p H',Same H H'->Poly H' p aa ts->Q (.ref p) H'
structure RdI(H:Hp)(l:Addr)(ts:List Trm)(i:Nat)(ys:List V)(H2:Hp):Prop where
 s:Same H H2
 e:H2 l=some (.lst ys)
 y:Paired (TrmV H2) ys (ts.take i)
theorem Paired.snoc{α β:Type}{F:α->β->Prop} :∀{l₁:List α} {l₂:List β} {x:α} {y:β},Paired F l₁ l₂->F x y->Paired F (l₁++[x]) (l₂++[y])
 | _,_,_,_,.nil,h=>.cons h .nil
 | _,_,_,_,.cons h t,k=>.cons h (Paired.snoc t k)
theorem RQ(e:H l=some (.lst ys)):∀a xs,H a=some (.tup xs)->upd H l o a=some (.tup xs):=λa xs h=>by
 rw[jI (λz=>by rw[z,e]at h;cases h)];exact h
theorem scRead:FnScope ["text","many","one"] ["text","many"] (jJ QL):=scK #[3]
theorem ok_read(F:Fun K "read" "read" QL f fd)(T:Txt mg)
 (GT:DG P w K mg base 3 "read_term" CH ["text","many"] spRdTerm) (GS:DG P w K mg base 5 "is_sum" XX ["thing"] spSum) (GH:DG P w K mg base 3 "shown" DY ["one"] spShown):FnOk P w K mg base CX0 6 f fd ["text","many"] spRead:=by
 obtain⟨ts0,hsg⟩:=T.signs;refine F.ok scRead #[8] #[2]
 ·obtain⟨aa,ts,rfl,_⟩:=h
  rfl
 ·obtain⟨aa,ts,rfl,ok,ln,go⟩:=h;have hr3:Room 3 _:=hr.mono #[0];refine⟨_,jC (kE (jO yT (kF AT (by rfl) T.len PySem.boot_len (jA (pv 0) jB)) (kT (v:=.int 4000) (by rfl) hsg ⟨_,rfl⟩) (jS _)) (jF kP) jR)
   (jC (kE (jO yU (pv 0) xL (jS _)) (jF (jP (kC (jA (pv 1) (jA (kC jB) jB))))) jR)
   (jC (jN (i:=2) scRead.nd rfl #[5] (kC (jA (pv 1) (jA (qE qC (by rfl) T.tup boot_tuple (jA
    (vQ (own:=1) (idx:=[1]) (N:=["part","many"]) rfl rfl rfl #[3] #[3] (λ_ _ h=>h) (qU rfl) rfl (yL rfl ⟨rfl,rfl,rfl,rfl⟩)
     (xC (LK (yK PySem.F.plainAttrs_str PySem.F.slot_str_split PySem.F.type_str_split LX (pv 0) (jA xL jB)) (xB (GQ AZ jD))))
     (λC fp s2 H2=>jG (i:=0) (show List.Nodup (["part","many"]:List Str) by decide +kernel) rfl #[5]) (λC fp s2 H2=>cal GT hr3 (jA (pv 0) (jA (pv 1) jB)))) jB)) jB))))
   (jC (kE (PW.pt (zM (vW (vP (cal GS hr (jA (pv 2) jB)))) (xW (jO AD (cal GH hr3 (jA (pv 2) jB)) (pv 0) (jS _))))) (jF kP) jR)
   (jF (jP (pv 2)))))), ?_⟩
  try dsimp only[cxK]
  refine⟨_,rfl,_,rfl,nW ln #[0],_,_,rfl,rfl,_,rfl,qT (nC #[1]) ?_⟩;refine⟨_,rfl,rfl,_,rfl, ?_⟩;cases ts with
  | nil=>
   refine xI (nG rfl) ⟨_,rfl,uY,λq H1 n1 s1 e1=>⟨gA,λp H2 n2 s2 e2=>?_⟩⟩;exact go p H2 (s1.trans s2) ⟨q,[],e2,s2 _ _ e1,.nil⟩
  | cons x r=>
   refine qT (stx_ne (ok.each x #[14])) ?_;refine⟨_,rfl,_,rfl,rfl,_,_,rfl,rfl,rfl,nW (Nat.add_le_add_right ln 2) #[0],λa H1 n1 s1 e1=>?_⟩;rw[show Txt.split (stx (x::r)) (Str.ofString " + ")=(x::r).reverse.map ttx from FY x r]at e1;refine⟨1,rfl,_,rfl,rfl,a,_,rfl,SqL.of e1,λa2 H2 n2 s2 e2=>?_⟩;rw[<-List.map_reverse,<-List.map_reverse,List.reverse_reverse]at e2;refine⟨a2,rfl,⟨_,SqL.of e2⟩,λl H3 n3 s3 e3=>?_⟩;refine yE (K:=K) (a:=a2) (xs:=((x::r).map ttx).map V.str) (RdI H2 l (x::r)) (gZ (show _<=60 by rw[mY,mY];exact ok.few) #[0]) ⟨s3,e3,.nil⟩ (λi ys H4 h=>⟨SqL.of (h.s _ _ e2),h.e⟩) ?_ ?_
   ·rintro i m ys v H4 hv hm hy ⟨s4,e4,hp⟩;rw[mG,mG]at hv;obtain⟨y,hy2,rfl⟩:∃y,(x::r)[i]? = some y/\V.str (ttx y)=v:=by
     cases e:(x::r)[i]? with
     | none=>rw[e]at hv;cases hv
     | some y=>rw[e]at hv;exact⟨y,rfl,Option.some.inj hv⟩
    refine⟨wE,_,rfl,_,rfl,aa,y,rfl,ok.each y (gQ hy2),ok.m1,ok.m4,λu H5 s5 hu=>?_⟩;have e5:=s5 _ _ e4;refine kJ (by rw[mG,mG,hy2];rfl) hm hy e5 ⟨kA (s4.trans s5) n3,jE, ?_⟩;rw[mI,hy2];exact Paired.snoc (Paired.to (λ_ _ h=>(h.map λ_ _ e=>s5 _ _ e).map (RQ e5)) hp) (hu.map (RQ e5))
   ·rintro ys H4 hl ⟨s4,e4,hp⟩;rw[mY,mY,mR]at hp;refine⟨l,_,rfl,.inl ⟨SqL.of e4,λq nq=>⟨gA,λp H5 n5 s5 e5=>?_⟩⟩⟩;have s45:Same H4 H5:=(jQ _ nq).trans s5;have P5:Poly H5 p aa (x::r):=⟨q,ys,e5,s5 _ _ jE,Paired.to (λ_ _ h=>h.map λ_ _ e=>s45 _ _ e) hp⟩;have s05:Same H H5:=s1.trans (s2.trans (s4.trans s45));refine⟨_,rfl,_,_,rfl,P5.dec,QB ok,λH6 s6=>⟨_,rfl, ?_⟩⟩;rw[QA ok];refine vT ⟨_,rfl,p,aa,x::r,rfl,P5.same s6,ok,λH7 s7=>⟨_,rfl,rfl,_,rfl, ?_⟩⟩;refine qT (by rw[nG rfl];rfl) ⟨_,rfl, ?_⟩;exact go p H7 (s05.trans (s6.trans s7)) (P5.same (s6.trans s7))
end Lw
namespace Lw
open PySem PySem.Spec PyProof.Rows L2 LwQ LwV
def pk(ns:List Int):Int:=ns.foldl (λk n=>k*256+n) 0
theorem xP(ns:List Int)(n:Int):pk (ns++[n])=pk ns*256+n:=by
 unfold pk;rw[mM]
 rfl
theorem pk_take{ns:List Int}{i:Nat}{n:Int}(h:ns[i]? = some n):pk (ns.take (i+1))=pk (ns.take i)*256+n:=by
 rw[mI,h];exact xP ..
def Byt(ns:List Int):Prop:=∀n∈ns,0<=n/\n<256
theorem Byt.take{ns:List Int}(h:Byt ns)(i:Nat):Byt (ns.take i):=λn hn=>h n (gX hn)
theorem YL:∀{ns:List Int},Byt ns->0<=pk ns:=fun {ns} =>by
 have key:∀(k:Int) (l:List Int),0<=k->(∀n∈l,0<=n/\n<256)->0<=l.foldl (λk n=>k*256+n) k:=λk l=>by
  induction l generalizing k with
  | nil=>exact λh _=>h
  | cons a l ih=>
   intro h0 h1;refine ih _ ?_ λn hn=>h1 n (gS _ hn);have:=h1 a (mD ..);show 0<=k*256+a;omega
 exact key 0 ns (tP _)
theorem CK{ns:List Int}{n:Int}(h:0<=n/\n<256):pk (ns++[n])%256=n/\pk (ns++[n])/256=pk ns:=by
 rw[xP];omega
theorem yH{α:Type}{l:List α}{n:Nat}(h:l.length=n+1):∃m y,l=m++[y]/\m.length=n:=by
 rcases List.eq_nil_or_concat l with z | ⟨m,y,z⟩
 ·rw[z]at h;cases h
 ·rw[List.concat_eq_append]at z;exact⟨m,y,z,by rw[z,hJ]at h;simpa using h⟩
theorem AV{l:List Int}{a:Int}(h:Byt (l++[a])):Byt l/\0<=a/\a<256:=⟨λn hn=>h n (List.mem_append_left _ hn),h a (gM _ (mB.mpr rfl))⟩
theorem YM:∀(n:Nat) {ns:List Int},ns.length=n->Byt ns->pk ns<256^n
 | 0,ns,hl,_=>by rw[List.length_eq_zero_iff.mp hl];decide
 | n+1,ns,hl,h=>by
  obtain⟨m,y,rfl,hm⟩:=yH hl;obtain⟨h1,h2⟩:=AV h;have:=YM n hm h1;rw[xP,Int.pow_succ];omega
theorem BH:∀(n:Nat) {a b:List Int},a.length=n->b.length=n->Byt a->Byt b->pk a=pk b->a=b
 | 0,a,b,h1,h2,_,_,_=>by rw[List.length_eq_zero_iff.mp h1,List.length_eq_zero_iff.mp h2]
 | n+1,a,b,h1,h2,ha,hb,e=>by
  obtain⟨m,y,rfl,hm⟩:=yH h1;obtain⟨m',y',rfl,hm'⟩:=yH h2;obtain⟨k1,k2⟩:=AV ha;obtain⟨k3,k4⟩:=AV hb;have p1:=CK (ns:=m) k2;have p2:=CK (ns:=m') k4;rw[e]at p1;rw[p1.1.symm.trans p2.1,BH n hm hm' k1 k3 (p1.2.symm.trans p2.2)]
theorem zT{ns:List Int}(h:Byt ns)(l:ns.length<=4):(pk ns).natAbs<2^32:=by
 have h0:=YL h;have h1:=YM _ rfl h;have:(256:Int)^ns.length<=256^4:=by
  obtain h | h | h | h | h:ns.length=0∨ns.length=1∨ns.length=2∨ns.length=3∨ns.length=4:=by omega
  all_goals rw[h];decide
 have:(256:Int)^4=2^32:=by decide
 omega
def DR(K:tV):Sp:=λvs H Q _=>∃(b:Addr) (ns:List Int),vs=[.ref b]/\SqT K H b #[15]/\Byt ns/\ns.length<=4/\Q (.int (pk ns)) H
inductive PkI(H:Hp)(b:Addr)(ns:List Int)(i:Nat):L2.St->Hp->Prop where
 | mk {u:Option V} :PkI H b ns i [some (.ref b),some (.int (pk (ns.take i))),u] H
def spUnpk:Sp:=λvs H Q _=>∃(ns:List Int),vs=[.int (pk ns),.int ns.length]/\Byt ns/\ns.length<=4/\∀(r:Addr) (H':Hp),H r=none->Same H H'->H' r=some (.tup #[15])->Q (.ref r) H'
inductive UpI(H:Hp)(l:Addr)(ns:List Int)(i:Nat):L2.St->Hp->Prop where
 | mk {u:Option V} {H':Hp} (s:Same H H') (e:H' l=some (.lst (((ns.reverse).take i).map V.int))):UpI H l ns i [some (.int (pk (ns.take (ns.length-i)))),some (.int ns.length),some (.ref l),u] H'
variable{P:Program}{w:World}{K:tV}{mg:Str->Option Value}{base:Heap}{f fd:_}
theorem scPk:FnScope ["powers","key","power"] ["powers"] (jJ uT):=scK #[3]
theorem UV(F:Fun K "packed" "packed" uT f fd)(T:Txt mg):FnOk P w K mg base CX0 1 f fd ["powers"] (DR K):=by
 obtain⟨tp,hp⟩:=T.pack;refine F.ok scPk #[8] #[2]
 ·obtain⟨b,ns,rfl,_⟩:=h
  rfl
 ·obtain⟨b,ns,rfl,hb,hB,l4,go⟩:=h;refine⟨_,jC (jN (i:=1) scPk.nd rfl #[5] jD) (jC (kZ PassesOwn.never rfl (xY (pv 0)) (jG (i:=2) scPk.nd rfl #[5]) (jF (jN (i:=1) scPk.nd rfl #[5] (jM qF (jM qA (pv 1) (kT (v:=.int 256) (by rfl) hp ⟨_,rfl⟩)) (pv 2))))) (jF (jP (pv 1)))), ?_⟩;try dsimp only[cxK]
  refine⟨_,rfl,b,rfl,⟨_,hb⟩,AK (K:=K) (a:=b) (xs:=ns.map V.int) (PkI H b ns) .mk (λi σ H1 _ h=>?_) (λi x σ H1 hx h=>?_) (fun σ H1 h=>?_)⟩
  ·obtain⟨⟩:=h;exact hb
  ·obtain⟨⟩:=h;rw[mG]at hx;obtain⟨n,hn,rfl⟩:=Option.map_eq_some_iff.mp hx;have sm:=zT (hB.take i) (by rw[mP];omega);refine⟨_,rfl,_,_,rfl,rfl,⟨jT sm #[0],jT (m:=9) #[0] #[0]⟩,_,rfl,_,_,rfl,rfl, ?_⟩;have e:=pk_take hn;dsimp only[jV];rw[<-e];exact .mk
  ·obtain⟨⟩:=h;rw[mY,mR];exact⟨_,rfl,go⟩
theorem scUp:FnScope ["key","many","powers","letter"] ["key","many"] (jJ QJ):=scK #[3]
theorem ok_unpk(F:Fun K "unpacked" "unpacked" QJ f fd)(T:Txt mg):FnOk P w K mg base CX0 1 f fd ["key","many"] spUnpk:=by
 obtain⟨tp,hp⟩:=T.pack;refine F.ok scUp #[8] #[2]
 ·obtain⟨ns,rfl,_⟩:=h
  rfl
 ·obtain⟨ns,rfl,hB,l4,go⟩:=h;refine⟨_,jC (jN (i:=2) scUp.nd rfl #[5] (xQ jB)) (jC (kZ PassesOwn.never rfl (qZ (by rfl) T.rng (jA (pv 1) jB)) (jG (i:=3) scUp.nd rfl #[5]) (jC (yI (yK PySem.F.plainAttrs_list PySem.F.slot_list_append PySem.F.type_list_append vA (pv 2) (jA (jM vX (pv 0) (kT (v:=.int 256) (by rfl) hp ⟨_,rfl⟩)) jB))) (jF (jN (i:=0) scUp.nd rfl #[5] (jM LwD.AE (pv 0) (kT (v:=.int 256) (by rfl) hp ⟨_,rfl⟩)))))) (jF (jP (qE qC (by rfl) T.tup boot_tuple (jA (LK (pv 2) (xB (GQ AZ jD))) jB))))), ?_⟩;try dsimp only[cxK]
  refine⟨uY,λl H1 n1 s1 e1=>?_⟩;refine⟨_,rfl,_,rfl,by omega,by omega,vZ (n:=ns.length) (UpI H l ns) ?_ (λi σ H2 hi h=>?_) (fun σ H2 h=>?_)⟩
  ·have z:UpI H l ns 0 [some (.int (pk (ns.take (ns.length-0)))),some (.int ns.length),some (.ref l),none] H1:=.mk s1 (by rw[List.take_zero];exact e1);rw[Nat.sub_zero,mR]at z;exact z
  ·obtain⟨s2,e2⟩:=h;obtain⟨m,y,em,hm⟩:=yH (l:=ns.take (ns.length-i)) (n:=ns.length-(i+1)) (by rw[mP];omega);have hBm:=hB.take (ns.length-i);rw[em]at hBm;obtain⟨b1,b2⟩:=AV hBm;have p1:=CK (ns:=m) b2;have em':m=ns.take (ns.length-(i+1)):=by
    have:=congrArg (List.take (ns.length-(i+1))) em;rw[List.take_take,Nat.min_eq_left #[1],<-hm,List.take_left' rfl]at this;rw[<-this,hm]
   have sm:=zT (hB.take (ns.length-i)) (by rw[mP];omega);rw[em]at sm ⊢;have lt:=mP (i:=i) (l:=ns.reverse);rw[List.length_reverse]at lt;refine⟨_,rfl,.inl ⟨rfl,_,SqL.of e2⟩,_,rfl,_,_,rfl,rfl,(by show(0:Int)<256;decide),l,_,_,rfl,rfl,e2,by rw[mY,lt,sizeLine_eq];omega, ?_⟩;refine⟨_,rfl,_,_,rfl,rfl,LwD.zK (m:=32) #[0] #[0] sm, ?_⟩;dsimp only[jV];rw[p1.1,p1.2,em'];refine .mk (kA s2 n1) ?_;have g:ns.reverse[i]? = some y:=by
    rw[List.getElem?_reverse #[1]];have g2:(ns.take (ns.length-i))[ns.length-1-i]? = some y:=by
     rw[em,gC #[1]];have:ns.length-1-i-m.length=0:=by omega
     rw[this]
     rfl
    rw[gH #[1]]at g2;exact g2
   rw[jE,mI,g,mZ]
   rfl
  ·obtain⟨s2,e2⟩:=h;rw[gK (by rw[List.length_reverse];exact tK _)]at e2;refine⟨_,rfl,_,rfl,_,rfl,rfl,l,_,rfl,SqL.of e2,λl2 H3 n3 s3 e3=>⟨l2,_,rfl,.inl ⟨SqL.of e3,λr nr=>?_⟩⟩⟩;have e:((ns.reverse).map V.int).reverse=ns.map V.int:=by rw[List.map_reverse,List.reverse_reverse]
   rw[e];exact go r _ ((s2.trans s3).free nr) ((s2.trans s3).trans (jQ _ nr)) jE
theorem Paired.app{α β:Type}{F:α->β->Prop} :∀{a b:List α} {c d:List β},Paired F a c->Paired F b d->Paired F (a++b) (c++d)
 | _,_,_,_,.nil,h=>h
 | _,_,_,_,.cons h t,k=>.cons h (Paired.app t k)
abbrev Tb:=List (Int×Rat)
def tv(T:Tb)(k:Int):Rat:=((T.find? λe=>decide (e.1=k)).map (·.2)).getD 0
def xO(T:Tb)(k:Int)(x:Rat):Tb:=if (T.any λe=>decide (e.1=k))=true then T.map (λe=>if e.1=k then(e.1,x)else e)else T++[(k,x)]
theorem kS(e:Int×Rat)(T:Tb)(k:Int):tv (e::T) k=if e.1=k then e.2 else tv T k:=by
 unfold tv;rw[List.find?_cons];by_cases h:e.1=k
 ·rw[tU h];simp [h]
 ·rw[tT h];simp [h]
theorem qJ:∀{T:Tb} {k:Int},k∉T.map (·.1)->tv T k=0
 | [],_,_=>rfl
 | e::T,k,h=>by
  rw[kS,tT (λz=>h (by simp [z])),qJ (λz=>h (by simp at z ⊢;exact .inr z))]
theorem NA:∀(T:Tb) (k:Int) (x:Rat) (j:Int),k∉T.map (·.1)->tv (T++[(k,x)]) j=if j=k then x else tv T j
 | [],k,x,j,_=>by
  show tv [(k,x)] j=_;rw[kS];by_cases h:k=j
  ·rw[tU h,tU h.symm]
  ·rw[tT h,tT (Ne.symm h)]
 | e::T,k,x,j,hk=>by
  have ih:=NA T k x j (λz=>hk (by simp at z ⊢;exact .inr z));show tv (e::(T++[(k,x)])) j=_;rw[kS,kS,ih];by_cases h:e.1=j
  ·rw[tU h,tU h,tT (λz=>hk (by simp [h,z]))]
  ·rw[tT h,tT h]
theorem MZ:∀(T:Tb) (k:Int) (x:Rat) (j:Int),k∈T.map (·.1)->tv (T.map (λe=>if e.1=k then(e.1,x)else e)) j=if j=k then x else tv T j
 | [],k,x,j,h=>nomatch h
 | e::T,k,x,j,hk=>by
  rw[nO,kS,kS];by_cases h:e.1=k
  ·rw[tU h];by_cases q:e.1=j
   ·rw[tU q,tU (q.symm.trans h)]
   ·rw[tT q,tT (λz=>q (h.trans z.symm)),tT q];by_cases r:k∈T.map (·.1)
    ·rw[MZ T k x j r,tT (λz=>q (h.trans z.symm))]
    ·have:T.map (λe=>if e.1=k then(e.1,x)else e)=T:=by
      conv=>rhs;rw[<-List.map_id T]
      refine List.map_congr_left λa ha=>?_;rw[tT (λz=>r (by rw[<-z];exact List.mem_map_of_mem ha))]
      rfl
     rw[this]
  ·rw[tT h];have r:k∈T.map (·.1):=by
    rcases nY.mp hk with⟨a,ha,e1⟩
    rcases nP.mp ha with rfl | ha
    ·exact absurd e1 h
    ·exact e1▸List.mem_map_of_mem ha
   rw[MZ T k x j r];by_cases q:e.1=j
   ·rw[tU q,tT (λz=>h (q.trans z)),tU q]
   ·rw[tT q,tT q]
theorem any_key{T:Tb}{k:Int} :(T.any λe=>decide (e.1=k))=true↔k∈T.map (·.1):=by
 rw[List.any_eq_true,nY];constructor
 ·rintro⟨e,he,h⟩;exact⟨e,he,mK h⟩
 ·rintro⟨e,he,h⟩;exact⟨e,he,nG h⟩
theorem tv_put(T:Tb)(k:Int)(x:Rat)(j:Int):tv (xO T k x) j=if j=k then x else tv T j:=by
 unfold xO;by_cases h:(T.any λe=>decide (e.1=k))=true
 ·rw[tU h,MZ T k x j (any_key.mp h)]
 ·rw[tT h,NA T k x j (λz=>h (any_key.mpr z))]
theorem wC(T:Tb)(k:Int)(x:Rat):(xO T k x).map (·.1)=if k∈T.map (·.1)then T.map (·.1)else T.map (·.1)++[k]:=by
 unfold xO;by_cases h:(T.any λe=>decide (e.1=k))=true
 ·rw[tU h,tU (any_key.mp h),tG];refine List.map_congr_left λa _=>?_;show(if a.1=k then(a.1,x)else a).1=a.1;split<;>rfl
 ·rw[tT h,tT (λz=>h (any_key.mpr z)),mZ]
  rfl
theorem xS{T:Tb}{k:Int}{x:Rat}(h:(T.map (·.1)).Nodup):((xO T k x).map (·.1)).Nodup:=by
 rw[wC];split
 ·exact h
 ·rename_i n;rw[mL];exact⟨h,by simp,λa ha b hb=>by rw[mB]at hb;rintro rfl;rw[hb]at ha;exact n ha⟩
def NumH(H:Hp)(v:V)(x:Rat):Prop:=∃p,v=.ref p/\At2 H p x.num x.den
theorem NumH.k{x:Rat}(h:NumH H v x):NumK K H v x:=let ⟨p,e,q⟩:=h;⟨p,e,SqT.of q⟩
theorem NumH.same{x:Rat}(h:NumH H v x)(s:Same H H'):NumH H' v x:=let ⟨p,e,q⟩:=h;⟨p,e,s _ _ q⟩
theorem NumH.of{x:Rat}(h:At2 H p x.num x.den):NumH H (.ref p) x:=⟨p,rfl,h⟩
theorem TN(e:H p=some (.dK ah))(h:H a=some (.tup xs)):(upd H p o) a=some (.tup xs):=by rw[jI λz=>by rw[z,e]at h;cases h];exact h
theorem at_updL(e:H p=some (.lst ys))(h:H a=some (.tup xs)):(upd H p o) a=some (.tup xs):=by rw[jI λz=>by rw[z,e]at h;cases h];exact h
def EntQ(K:tV)(H:Hp)(kv:Key×V)(e:Int×Rat):Prop:=kv.1=.inl e.1/\NumH H kv.2 e.2
theorem EntQ.same{e:Int×Rat}(h:EntQ K H kv e)(s:Same H H'):EntQ K H' kv e:=⟨h.1,h.2.same s⟩
theorem SV{k:Int} :∀{ah:List (Key×V)} {T:Tb},Paired (EntQ K H) ah T->(ah.any λkv=>decide (kv.1=(.inl k:Key)))=(T.any λe=>decide (e.1=k))
 | _,_,.nil=>rfl
 | _,_,.cons (a:=kv) (b:=e) h t=>by
  rw[List.any_cons,List.any_cons,SV t,h.1]
  congr 1
  by_cases q:e.1=k
  ·rw[nG q,nG (by rw[q])]
  ·rw[nC q,nC (λz=>q (Sum.inl.inj z))]
theorem AN{k:Int}{x:Rat}(h:Paired (EntQ K H) ah T)(n:NumH H v x):Paired (EntQ K H) (qD ah (.inl k) v) (xO T k x):=by
 have key:∀{ah:List (Key×V)} {T:Tb},Paired (EntQ K H) ah T->Paired (EntQ K H) (ah.map λkv=>if kv.1=(.inl k:Key)then(kv.1,v)else kv) (T.map λe=>if e.1=k then(e.1,x)else e):=by
  intro ah T h;induction h with
  | nil=>exact .nil
  | @cons kv e _ _ h _ ih=>
   refine .cons ?_ ih;dsimp only;by_cases q:e.1=k
   ·rw[tU (by rw[h.1,q]),tU q];exact⟨h.1,n⟩
   ·rw[tT (λz=>q (by rw[h.1]at z;exact Sum.inl.inj z)),tT q];exact h
 unfold qD xO;rw[SV h];split
 ·exact key h
 ·exact Paired.app h (.cons ⟨rfl,n⟩ .nil)
theorem JT{k:Int} :∀{ah:List (Key×V)} {T:Tb},Paired (EntQ K H) ah T->(∃v,kK ah (.inl k:Key)=some v/\NumH H v (tv T k)/\k∈T.map (·.1))∨(kK ah (.inl k:Key)=none/\tv T k=0/\k∉T.map (·.1))
 | _,_,.nil=>.inr ⟨rfl,rfl,by simp⟩
 | kv::ah,e::T,.cons h t=>by
  rw[kS];by_cases q:e.1=k
  ·rw[tU q,qH (by rw[h.1,q])];exact .inl ⟨_,rfl,h.2,by simp [q]⟩
  ·have n:kv.1≠(.inl k:Key):=λz=>q (by rw[h.1]at z;exact Sum.inl.inj z);have e1:kK (kv::ah) (.inl k:Key)=kK ah (.inl k:Key):=by unfold kK;rw[List.find?_cons,nC n]
   rw[tT q,e1];rcases JT t with⟨v,h1,h2,h3⟩ | ⟨h1,h2,h3⟩
   ·exact .inl ⟨v,h1,h2,gS _ h3⟩
   ·exact .inr ⟨h1,h2,λz=>by rcases nP.mp z with z | z;exact q z.symm;exact h3 z⟩
structure TabQ(K:tV)(H:Hp)(d:Addr)(ah:List (Key×V))(T:Tb):Prop where
 rd:Rd H d (.dK ah)
 pr:Paired (EntQ K H) ah T
section
variable{X:Cx}
def rDictK:List V->Hp->VK->Prop:=λxs H Q=>∃(a:Addr) (ah:List (Key×V)),xs=[.ref a]/\Rd H a (.dK ah)/\New H (.dK ah) Q
theorem OS:CallR X (.type "dict") rDictK:=by
 intro ac s σ H xs us Q I r h;obtain⟨a,ah,rfl,ha,q⟩:=h;obtain⟨u,rfl,ru⟩:=qW r;cases ru;exact d_copyOf I ha λp s' n I'=>⟨.ref p,_,I',rfl,q.at n⟩
end
def DW{α:Type}(xs:List α)(Pv:Nat->List (Key×V)->Hp->Prop)(i m:Nat)(ys:List (Key×V))(H:Hp):Prop:=m=xs.length-i/\i<=xs.length/\Pv i ys H
theorem CS{α:Type}{xs:List α}{Pv:Nat->List (Key×V)->Hp->Prop}{i m:Nat}{x:α}(h:xs[i]? = some x)(hm:m=xs.length-i)(q:Pv (i+1) ys H):∃m',m'<m/\DW xs Pv (i+1) m' ys H:=by
 have:=(gE.mp h).1;exact⟨_,by omega,rfl,this,q⟩
theorem OJ{xs:List V}(Pv:Nat->List (Key×V)->Hp->Prop)(hz:xs.length<sizeLine)(h0:Pv 0 [] H')(hl:∀i ys H2,Pv i ys H2->SqT K H2 a xs/\H2 p=some (.dK ys)/\ys.length<=i)
  (hs:∀i m ys x H2,xs[i]? = some x->m=xs.length-i->Pv i ys H2->g x σ0 H2 fun σ4 H4=>Keep σ0 σ4/\tk σ4 H4 λy H5=>tx σ4 H5 λv H6=>∃k,y=kV k/\H6 p=some (.dK ys)/\∃m',m'<m/\DW xs Pv (i+1) m' (qD ys k v) (upd H6 p (.dK (qD ys k v))))
  (hd:∀ys H2,Pv xs.length ys H2->Q (.ref p) H2):DCompGoK σ0 (Itt K a) g tk tx Q p H':=by
 refine⟨DW xs Pv,⟨_,rfl,tL _,h0⟩, ?_⟩;rintro i m ys H2 ⟨hm,hi,hp⟩;obtain⟨q,e,ly⟩:=hl i ys H2 hp;refine⟨e,by omega, ?_⟩;by_cases hlt:i<xs.length
 ·refine .inr ⟨⟨xs,xs[i],q,by simp [hlt]⟩, ?_⟩;rintro x H3 ⟨rfl,y⟩;exact hs i m ys x _ (y xs q) hm hp
 ·obtain rfl:i=xs.length:=by omega
  exact .inl ⟨⟨xs,q,tK _⟩,hd ys H2 hp⟩
theorem zJ{ah:List (Key×V)}(Pv:Nat->List (Key×V)->Hp->Prop)(hz:ah.length<sizeLine)(h0:Pv 0 [] H')(hl:∀i ys H2,Pv i ys H2->H2 d=some (.frz o (.dK ah))/\H2 p=some (.dK ys)/\ys.length<=i)
  (hs:∀i m ys k x c H2,ah[i]? = some (k,x)->m=ah.length-i->Pv i ys H2->H2 c=none->g (.ref c) σ0 (upd H2 c (.tup [kV k,x])) fun σ4 H4=>Keep σ0 σ4/\tk σ4 H4 λy H5=>tx σ4 H5 λv H6=>∃k,y=kV k/\H6 p=some (.dK ys)/\∃m',m'<m/\DW ah Pv (i+1) m' (qD ys k v) (upd H6 p (.dK (qD ys k v))))
  (hd:∀ys H2,Pv ah.length ys H2->Q (.ref p) H2):DCompGoK σ0 (Iti d o ah) g tk tx Q p H':=by
 refine⟨DW ah Pv,⟨_,rfl,tL _,h0⟩, ?_⟩;rintro i m ys H2 ⟨hm,hi,hp⟩;obtain⟨q,e,ly⟩:=hl i ys H2 hp;refine⟨e,by omega, ?_⟩;by_cases hlt:i<ah.length
 ·refine .inr ⟨⟨q,hlt⟩, ?_⟩;rintro v H3 ⟨c,k,x,hc,rfl,hx,rfl⟩;exact hs i m ys k x c _ hx hm hp hc
 ·obtain rfl:i=ah.length:=by omega
  exact .inl ⟨⟨q,rfl⟩,hd ys H2 hp⟩
def TmQ(K:tV)(H:Hp)(v:V)(x:List Int×Rat):Prop:=∃r b c:Addr,v=.ref r/\H r=some (.tup [.ref b,.ref c])/\H b=some (.tup (x.1.map V.int))/\NumH H (.ref c) x.2
theorem TmQ.same{x:List Int×Rat}(h:TmQ K H v x)(s:Same H H'):TmQ K H' v x:=let ⟨r,b,c,e1,e2,e3,e4⟩:=h;⟨r,b,c,e1,s _ _ e2,s _ _ e3,e4.same s⟩
structure SumQ(K:tV)(H:Hp)(p:Addr)(aa:Nat)(P:Pl):Prop where
 ex:∃(q:Addr) (xs:List V),H p=some (.tup [.int aa,.ref q])/\H q=some (.tup xs)/\Paired (TmQ K H) xs P
theorem SumQ.same{K:tV}{H H':Hp}{p:Addr}{aa:Nat}{P:Pl}(h:SumQ K H p aa P)(s:Same H H'):SumQ K H' p aa P:=by
 obtain⟨q,xs,e1,e2,e3⟩:=h.ex;exact⟨q,xs,s _ _ e1,s _ _ e2,Paired.to (λ_ _ h=>h.same s) e3⟩
structure PlOk(aa:Nat)(P:Pl):Prop where
 len:∀x∈P,x.1.length=aa
 nn:∀x∈P,∀n∈x.1,0<=n
 deg:∀x∈P,x.1.sum<=16
 ord:(P.map λx=>pk x.1).Pairwise (· < ·)
 nz:∀x∈P,x.2≠0
 few:P.length<=60
 m1:1<=aa
 m4:aa<=4
theorem qM:∀{ns:List Int} {n:Int},(∀x∈ns,0<=x)->n∈ns->n<=ns.sum/\0<=ns.sum
 | [],_,_,h=>nomatch h
 | a::l,n,h,hn=>by
  rw[nT];have ha:=h a (mD ..);have hl:0<=l.sum:=by
   match l with
   | []=>exact tP _
   | b::l'=>exact(qM (ns:=b::l') (n:=b) (λx hx=>h x (gS _ hx)) (mD ..)).2
  rcases nP.mp hn with rfl | hn
  ·omega
  ·have:=(qM (λx hx=>h x (gS _ hx)) hn).1;omega
theorem PlOk.byt{aa:Nat}{P:Pl}(h:PlOk aa P){x:List Int×Rat}(hx:x∈P):Byt x.1:=λn hn=>by
 have h1:=h.nn x hx;have h2:=(qM h1 hn).1;have h3:=h.deg x hx;have h4:=h1 n hn;omega
def jL(P:Pl):Tb:=P.map λx=>(pk x.1,x.2)
theorem vI(P:Pl):(jL P).map (·.1)=P.map λx=>pk x.1:=by unfold jL;rw[tG];rfl
theorem PlOk.nd{aa:Nat}{P:Pl}(h:PlOk aa P):((jL P).map (·.1)).Nodup:=by
 rw[vI];exact h.ord.imp λh=>Int.ne_of_lt h
theorem yS{T:Tb}{k:Int}{x:Rat}(h:k∉T.map (·.1)):xO T k x=T++[(k,x)]:=by
 unfold xO;rw[tT (λz=>h (any_key.mp z))]
theorem XC{P:Pl}{i:Nat}{x:List Int×Rat}(h:P[i]? = some x)(nd:((jL P).map (·.1)).Nodup):xO (jL (P.take i)) (pk x.1) x.2=jL (P.take (i+1)):=by
 rw[yS,mI,h]
 ·unfold jL;rw[mZ]
  rfl
 ·intro z;rw[vI]at z nd;rw[List.map_take]at z;obtain⟨j,hj⟩:=gP.mp z;have hj':j<i:=by
   have:=(gE.mp hj).1;rw[mP]at this;omega
  rw[gH hj']at hj;have hi:(P.map λx=>pk x.1)[i]? = some (pk x.1):=by rw[mG,h];rfl
  have:=(List.getElem?_inj (gE.mp hj).1 nd).mp (hj.trans hi.symm);omega
theorem WM{aa:Nat} :∀{P:Pl},(∀x∈P,x.1.length=aa/\Byt x.1)->(P.map (·.1)).Nodup->∀{ns:List Int},ns.length=aa->Byt ns->tv (jL P) (pk ns)=cf P ns
 | [],_,_,_,_,_=>rfl
 | x::P,h,nd,ns,hl,hb=>by
  have hx:=h x (mD ..);rw[nO,List.nodup_cons]at nd;have ih:=WM (P:=P) (λy hy=>h y (gS _ hy)) nd.2 hl hb;show tv ((pk x.1,x.2)::jL P) (pk ns)=_;rw[kS,yN];by_cases e:x.1=ns
  ·rw[tU (by rw[e]),tU e,JZ (λy hy z=>nd.1 (by rw[e,<-z];exact List.mem_map_of_mem hy)),tD]
  ·rw[tT (λz=>e (BH _ hx.1 hl hx.2 hb z)),tT e,nZ,ih]
theorem PlOk.ndn{aa:Nat}{P:Pl}(h:PlOk aa P):(P.map (·.1)).Nodup:=by
 have:=h.ord;rw[List.pairwise_map]at this;rw[List.Nodup,List.pairwise_map];exact this.imp λz e=>by rw[e]at z;exact Int.lt_irrefl _ z
theorem PlOk.tv{aa:Nat}{P:Pl}(h:PlOk aa P){ns:List Int}(hl:ns.length=aa)(hb:Byt ns):Lw.tv (jL P) (pk ns)=cf P ns:=WM (λx hx=>⟨h.len x hx,h.byt hx⟩) h.ndn hl hb
def uN(K:tV):Sp:=λvs H Q _=>∃(p:Addr) (aa:Nat) (P:Pl),vs=[.ref p]/\SumQ K H p aa P/\PlOk aa P/\∀(d:Addr) (ah:List (Key×V)) (H':Hp),H d=none->Same H H'->H' d=some (.dK ah)->Paired (EntQ K H') ah (jL P)->Q (.ref d) H'
theorem EntQ.upd(e:H p=some (.dK ah)){x:Int×Rat}(h:EntQ K H kv x):EntQ K (upd H p o) kv x:=let ⟨z1,pz,z2,z3⟩:=h;⟨z1,pz,z2,TN e z3⟩
structure TbI(K:tV)(H1:Hp)(d:Addr)(P:Pl)(i:Nat)(ys:List (Key×V))(H2:Hp):Prop where
 s:Same H1 H2
 e:H2 d=some (.dK ys)
 pr:Paired (EntQ K H2) ys (jL (P.take i))
theorem scTab:FnScope ["one"] ["one"] (jJ uA):=scK #[3]
theorem ZJ(F:Fun K "table_of" "table_of" uA f fd)(GP:DG P w K mg base 1 "packed" uT ["powers"] (DR K)):FnOk P w K mg base CX0 2 f fd ["one"] (uN K):=by
 refine F.ok scTab #[8] #[2]
 ·obtain⟨p,aa,PP,rfl,_⟩:=h
  rfl
 ·obtain⟨p,aa,PP,rfl,hS,ok,go⟩:=h;refine⟨_,jF (jP (BK (own:=2) (idx:=[]) (N:=["powers","fraction"]) rfl rfl rfl #[3] #[3] (λ_ _ h=>nomatch h) (qU rfl) rfl (λ_ _ _ h=>nomatch h) (xY #[10]) (λC fp s2 H2=>show PG (jK _ ["powers","fraction"] _ _ C fp s2 H2) _ (AJ K 2 (qS (jV 0) (qS (jV 1) gNil)))from kD (X:=jK _ ["powers","fraction"] _ _ C fp s2 H2) rfl (jH (jG (i:=0) (show List.Nodup (["powers","fraction"]:List Str) by decide +kernel) rfl #[5] (Or.inr rfl)) (jH (jG (i:=1) (show List.Nodup (["powers","fraction"]:List Str) by decide +kernel) rfl #[5] (Or.inr rfl)) jY))) (λC fp s2 H2=>cal GP hr (jA (pv 0) jB)) (λC fp s2 H2=>pv 1))), ?_⟩;try dsimp only[cxK]
  obtain⟨q,xs,e1,e2,pr⟩:=hS.ex;have lx:xs.length=PP.length:=Paired.length pr;refine⟨_,rfl,p,_,_,_,rfl,rfl,SqT.of e1,rfl,q,rfl,⟨_,SqT.of e2⟩,λd H1 n1 s1 e3=>?_⟩;refine OJ (K:=K) (a:=q) (xs:=xs) (TbI K H d PP) (by rw[lx];exact gZ ok.few #[0]) ⟨s1,e3,.nil⟩ (λi ys H2 h=>⟨SqT.of (h.s _ _ e2),h.e, ?_⟩) ?_ ?_
  ·have:=Paired.length h.pr;unfold jL at this;rw[this,mY,mP];omega
  ·intro i m ys x H2 hx hm h;obtain⟨y,hy,r,b,c,rfl,r1,r2,r3⟩:=Paired.at pr hx;have hm':=gQ hy;refine⟨r,_,rfl,SqT.of (h.s _ _ r1),rfl,_,_,rfl,_,_,rfl,rfl,BT,_,rfl,b,y.1,rfl,SqT.of (h.s _ _ r2),ok.byt hm',by rw[ok.len y hm'];exact ok.m4,_,rfl,.inl (pk y.1),rfl,h.e,CS hx hm ⟨kA h.s n1,jE, ?_⟩⟩;have k:=AN (k:=pk y.1) h.pr (r3.same h.s);rw[XC hy ok.nd]at k;exact Paired.to (λkv e z=>z.upd h.e) k
  ·intro ys H2 h;have pr2:=h.pr;rw[lx,mR]at pr2;exact go d ys H2 n1 h.s h.e pr2
theorem scTa:FnScope ["one","other","table","key","fraction"] ["one","other"] (jJ uR):=scK #[3]
theorem CY(h:SqT K H p (([0,1]:List Int).map V.int)):NumK K H (.ref p) 0:=⟨p,rfl,h⟩
structure AddT(T1 T2 T:Tb):Prop where
 nd:(T.map (·.1)).Nodup
 ks:∀k∈T.map (·.1),k∈T1.map (·.1)∨k∈T2.map (·.1)
 ln:T.length<=T1.length+T2.length
 vl:∀k,tv T k=tv T1 k+tv T2 k
theorem zY{T:Tb}{i:Nat}{e:Int×Rat}(h:T[i]? = some e)(nd:(T.map (·.1)).Nodup):e.1∉(T.take i).map (·.1):=λz=>by
 rw[List.map_take]at z;obtain⟨j,hj⟩:=gP.mp z;have hj':j<i:=by
  have:=(gE.mp hj).1;rw[mP]at this;omega
 rw[gH hj']at hj;have hi:(T.map (·.1))[i]? = some e.1:=by rw[mG,h];rfl
 have:=(List.getElem?_inj (gE.mp hj).1 nd).mp (hj.trans hi.symm);omega
theorem AddT.step{T1 T2 T:Tb}{i:Nat}{e:Int×Rat}(A:AddT T1 (T2.take i) T)(h:T2[i]? = some e)(nd:(T2.map (·.1)).Nodup):AddT T1 (T2.take (i+1)) (xO T e.1 (tv T e.1+e.2)):=by
 have nt:=zY h nd;have tk:T2.take (i+1)=T2.take i++[(e.1,e.2)]:=by rw[mI,h];rfl
 refine⟨xS A.nd,λk hk=>?_, ?_,λk=>?_⟩
 ·rw[wC]at hk;rw[tk,mZ];split at hk
  ·rcases A.ks k hk with z | z
   ·exact .inl z
   ·exact .inr (List.mem_append_left _ z)
  ·rcases nE.mp hk with hk | hk
   ·rcases A.ks k hk with z | z
    ·exact .inl z
    ·exact .inr (List.mem_append_left _ z)
   ·exact .inr (gM _ hk)
 ·have l1:=congrArg List.length (wC T e.1 (tv T e.1+e.2));rw[mY]at l1;have l2:=A.ln;rw[tk,hJ,l1];split
  ·rw[mY];omega
  ·rw[hJ,mY];show T.length+1<=T1.length+((T2.take i).length+1);omega
 ·rw[tv_put,tk,NA _ _ _ _ nt];by_cases q:k=e.1
  ·rw[tU q,tU q,q,A.vl,qJ nt,tD]
  ·rw[tT q,tT q,A.vl]
def WC(A:Tb)(e:Int×Rat):Tb:=xO A e.1 (tv A e.1+e.2)
def addT(T1 T2:Tb):Tb:=T2.foldl WC T1
def DQ(K:tV):Sp:=λvs H Q _=>∃(a b:Addr) (k1 k2:List (Key×V)) (T1 T2:Tb),vs=[.ref a,.ref b]/\Rd H a (.dK k1)/\H b=some (.dK k2)/\Paired (EntQ K H) k1 T1/\Paired (EntQ K H) k2 T2/\(T1.map (·.1)).Nodup/\(T2.map (·.1)).Nodup/\T1.length+T2.length<=1000/\(∀k,SzR 7900 (tv T1 k))/\(∀e∈T2,SzR 7900 e.2)/\
 ∀(d:Addr) (ah:List (Key×V)) (T:Tb) (H':Hp),H d=none->But b H H'->H' d=some (.dK ah)->Paired (EntQ K H') ah T->AddT T1 T2 T->T=addT T1 T2->Q (.ref d) H'
inductive TaI(K:tV)(H:Hp)(a b d:Addr)(o:Obj)(k2:List (Key×V))(T1 T2:Tb)(i:Nat):L2.St->Hp->Prop where
 | mk {u v:Option V} {H':Hp} {ah:List (Key×V)} {T:Tb} (s:But b H H') (eb:H' b=some (.frz o (.dK k2))) (ed:H' d=some (.dK ah)) (p1:Paired (EntQ K H') ah T) (p2:Paired (EntQ K H') k2 T2) (A:AddT T1 (T2.take i) T) (ft:T=(T2.take i).foldl WC T1):TaI K H a b d o k2 T1 T2 i [some (.ref a),some (.ref b),some (.ref d),u,v] H'
theorem UR(F:Fun K "tables_added" "tables_added" uR f fd)(T:Txt mg)(N:Ngt K mg)(GA:DG P w K mg base 2 "added" EB ["one","other"] (BB K)):FnOk P w K mg base CX0 3 f fd ["one","other"] (DQ K):=by
 obtain⟨na,hN,hna⟩:=N;refine F.ok scTa #[8] #[2]
 ·obtain⟨a,b,k1,k2,T1,T2,rfl,_⟩:=h
  rfl
 ·obtain⟨a,b,k1,k2,T1,T2,rfl,ra,rb,p1,p2,nd1,nd2,ln,s1,s2,go⟩:=h;have hu:_+1<cLine:=gZ (Nat.add_le_add_left (by decide:1<=64) _) hr.units;refine⟨_,jC (jN (i:=2) scTa.nd rfl #[5] (qE OS (by rfl) T.dct boot_dict (jA (pv 0) jB))) (jC (kZ PassesOwn.never rfl (xZ (IU (pv 1))) (kD rfl (jH (jG (i:=3) scTa.nd rfl #[5]) (jH (jG (i:=4) scTa.nd rfl #[5]) jY))) (jF (CJ hu (pv 2) (pv 3) (cal GA hr (jA (EF hu (pv 2) (pv 3) (kT (v:=.ref na) (by rfl) hN rfl) ⟨rfl,rfl,rfl,rfl⟩) (jA (pv 4) jB))) rfl))) (jF (jP (pv 2)))), ?_⟩;try dsimp only[cxK]
  refine⟨_,rfl,a,k1,rfl,ra,λd H1 n1 e1 ed=>?_⟩;have eb1:=e1 _ _ rb;have db:d≠b:=λz=>by rw[z,rb]at n1;cases n1
  refine⟨_,rfl,b,k2,rfl,eb1,λo=>⟨b,o,k2,rfl,jE, ?_⟩⟩;have up:∀{kv:Key×V} {x:Int×Rat},EntQ K H kv x->EntQ K (upd H1 b (.frz o (.dK k2))) kv x:=λh=>(h.same e1).upd eb1;have b0:But b H (upd H1 b (.frz o (.dK k2))):=λc u h n=>by rw[jI n];exact e1 _ _ h
  refine wQ (TaI K H a b d o k2 T1 T2) (.mk (T:=T1) b0 jE (by rw[jI db];exact ed) (Paired.to (λ_ _ h=>up h) p1) (Paired.to (λ_ _ h=>up h) p2) ⟨nd1,λk hk=>.inl hk,Nat.le_add_right ..,λk=>(tD _).symm⟩ rfl) (λi σ H2 _ h=>?_) (λi k x p σ H2 hx hp h=>?_) (fun σ H2 h=>?_)
  ·obtain⟨_,eb,_⟩:=h;exact eb
  ·obtain⟨s2',eb,ed2,q1,q2,A,ft⟩:=h;rename_i ah TT;obtain⟨e,he,hk,hn⟩:=Paired.at q2 hx;have hk:k=.inl e.1:=hk;subst hk;have s3:Same H2 (upd H2 p (.tup [kV (.inl e.1),x])):=jQ _ hp;have e3:(upd H2 p (.tup [kV (.inl e.1),x])) p=some (.tup [kV (.inl e.1),x]):=jE;generalize upd H2 p (.tup [kV (.inl e.1),x])=H3 at s3 e3;refine gT2 (SqT.of e3) rfl ?_;obtain⟨wv,ew,hw⟩:∃wv,(kK ah (.inl e.1:Key)).getD (.ref na)=wv/\NumK K H3 wv (tv TT e.1):=by
    rcases JT (k:=e.1) q1 with⟨v,h1,h2,_⟩ | ⟨h1,h2,_⟩
    ·exact⟨v,by rw[h1];rfl,(h2.same s3).k⟩
    ·exact⟨.ref na,by rw[h1];rfl,by rw[h2];exact CY (hna H3)⟩
   refine⟨_,rfl,d,rfl,.inl ⟨_,.inl (s3 _ _ ed2)⟩,_,rfl,_,DGet.k (k:=.inl e.1) (s3 _ _ ed2),_,rfl, ?_⟩;rw[ew];obtain⟨pw,rfl,hw⟩:=hw;obtain⟨px,rfl,hx2⟩:=hn.same s3;have nt:=zY he nd2;have sz1:SzR 7900 (tv TT e.1):=by rw[A.vl,qJ nt,tD];exact s1 _
   refine⟨pw,px,_,_,_,_,rfl,hw,SqT.of hx2,sz1.fr uX,(s2 e (gQ he)).fr uX,λr H4 n4 s4 e4=>?_⟩;have e4:=TR e4;have ed4:=(s3.trans s4) _ _ ed2;have lk:ah.length=TT.length:=Paired.length q1;have lA:=A.ln;rw[mP]at lA;refine⟨_,rfl,_,rfl,d,_,rfl,DPut.k (k:=.inl e.1) ed4 (by rw[lk,sizeLine_eq];omega), ?_⟩;have u4:∀{kv:Key×V} {x:Int×Rat},EntQ K H2 kv x->EntQ K (upd H4 d (.dK (qD ah (.inl e.1) (.ref r)))) kv x:=λh=>(h.same (s3.trans s4)).upd ed4;refine .mk (T:=xO TT e.1 (tv TT e.1+e.2)) (λc u h n=>?_) ?_ jE ?_ (Paired.to (λ_ _ h=>u4 h) q2) (A.step he nd2) (by rw[mI,he,mM,<-ft];rfl)
   ·rw[jI (kG h n1)];exact(s3.trans s4) _ _ (s2' _ _ h n)
   ·rw[jI (Ne.symm db)];exact(s3.trans s4) _ _ eb
   ·exact Paired.to (λ_ _ h=>h.upd ed4) (AN (Paired.to (λ_ _ h=>h.same (s3.trans s4)) q1) (NumH.of e4))
  ·obtain⟨s2',eb,ed2,q1,q2,A,ft⟩:=h;rw[show k2.length=T2.length from Paired.length p2,mR]at A ft;exact⟨_,rfl,go d _ _ H2 n1 s2' ed2 q1 A ft⟩
theorem zQ{cl cells:List (Str×Addr)}(h:∀y∈cl,cells.lookup y.1=some y.2):∀x c,cl.lookup x=some c->cells.lookup x=some c:=λx c e=>h (x,c) (PySem.mem_of_lookup e)
theorem PF{X:Cx}{scope:Scope}{own j0 j1:Nat}{N:List Str}{x0 x1:Str}(h0:N[own]? = some x0)(h1:N[own+1]? = some x1)(a:X.N[j0]? = some x0/\X.env.kindOf x0=some .cell/\#[11].names.lookup x0=some .cell/\X.env.scope.names.lookup x0=some .cell)
  (b:X.N[j1]? = some x1/\X.env.kindOf x1=some .cell/\#[11].names.lookup x1=some .cell/\X.env.scope.names.lookup x1=some .cell) :
  ∀(k j:Nat) (x:Str),[j0,j1][k]? = some j->N[own+k]? = some x->X.N[j]? = some x/\X.env.kindOf x=some .cell/\#[11].names.lookup x=some .cell/\X.env.scope.names.lookup x=some .cell:=by
 intro k j x e1 e2
 match k,e1,e2 with
 | 0,e1,e2=>
  cases e1;rw[Nat.add_zero,h0]at e2;cases e2;exact a
 | 1,e1,e2=>
  cases e1;rw[h1]at e2;cases e2;exact b
 | k+2,e1,_=>cases e1
def CW{α:Type}(xs:List α)(Pv:Nat->List V->Hp->Prop)(i m:Nat)(ys:List V)(H:Hp):Prop:=m=xs.length-i/\i<=xs.length/\Pv i ys H
theorem TH{α:Type}{xs:List α}{Pv:Nat->List V->Hp->Prop}{i m:Nat}{x:α}(h:xs[i]? = some x)(hm:m=xs.length-i)(q:Pv (i+1) ys H):∃m',m'<m/\CW xs Pv (i+1) m' ys H:=by
 have:=(gE.mp h).1;exact⟨_,by omega,rfl,this,q⟩
theorem MV{xs:List V}(Pv:Nat->List V->Hp->Prop)(hz:xs.length<sizeLine)(h0:Pv 0 [] H')
  (hl:∀i ys H2,Pv i ys H2->SqL K H2 a xs/\H2 p=some (.lst ys)/\ys.length<=i)
  (hs:∀i m ys x H2,xs[i]? = some x->m=xs.length-i->Pv i ys H2->g x σ0 H2 fun σ4 H4=>Keep σ0 σ4/\tt σ4 H4 λb H5=>if b=true then te σ4 H5 λy H6=>H6 p=some (.lst ys)/\∃m',m'<m/\CW xs Pv (i+1) m' (ys++[y]) (upd H6 p (.lst (ys++[y])))else ∃m',m'<m/\CW xs Pv (i+1) m' ys H5)
  (hd:∀ys H2,Pv xs.length ys H2->Q (.ref p) H2):CompGoFI σ0 (Itl K a) g tt te Q p H':=by
 refine⟨CW xs Pv,⟨_,rfl,tL _,h0⟩, ?_⟩;rintro i m ys H2 ⟨hm,hi,hp⟩;obtain⟨q,e,hy⟩:=hl i ys H2 hp;refine⟨e,by omega, ?_⟩;by_cases hlt:i<xs.length
 ·refine .inr ⟨⟨xs,xs[i],q,by simp [hlt]⟩, ?_⟩;rintro x H3 ⟨rfl,y⟩;exact hs i m ys x _ (y xs q) hm hp
 ·obtain rfl:i=xs.length:=by omega
  exact .inl ⟨⟨xs,q,tK _⟩,hd ys H2 hp⟩
def qK(P:Pl):Int:=(P.map λx=>x.1.sum).foldr max 0
theorem xA:∀{l:List Int} {m:Int},(∀x∈l,x<=m)->0<=m->l.foldr max 0<=m
 | [],_,_,h=>h
 | a::l,m,h,h0=>by
  show max a (l.foldr max 0)<=m;have:=xA (l:=l) (λx hx=>h x (gS _ hx)) h0;have:=h a (mD ..);omega
theorem qY:∀{l:List Int} {x:Int},x∈l->x<=l.foldr max 0
 | a::l,x,h=>by
  show x<=max a (l.foldr max 0);rcases nP.mp h with rfl | h
  ·omega
  ·have:=qY h;omega
theorem deg_eq{P:Pl}{m:Int}(h1:m∈P.map λx=>x.1.sum)(h2:∀y∈P.map (λx=>x.1.sum),y<=m)(h0:0<=m):m=qK P:=Int.le_antisymm (qY h1) (xA h2 h0)
theorem JX{P:Pl}{D:Int}(h:∀x∈P,x.1.sum<=D)(h0:0<=D):qK P<=D:=xA (λy hy=>by obtain⟨x,hx,rfl⟩:=nY.mp hy;exact h x hx) h0
structure PlD(aa D:Nat)(P:Pl):Prop where
 len:∀x∈P,x.1.length=aa
 nn:∀x∈P,∀n∈x.1,0<=n
 deg:∀x∈P,x.1.sum<=D
theorem PlOk.pd{aa:Nat}{P:Pl}(h:PlOk aa P):PlD aa 16 P:=⟨h.len,h.nn,h.deg⟩
def DU(K:tV):Sp:=λvs H Q _=>∃(p:Addr) (aa D:Nat) (P:Pl),vs=[.ref p]/\SumQ K H p aa P/\PlD aa D P/\aa<=4/\D<=1000/\P.length<=1000/\∀H',Same H H'->Q (.int (qK P)) H'
theorem XW:FnScope ["one"] ["one"] (jJ zC):=scK #[3]
theorem UX(F:Fun K "degree" "degree" zC f fd)(T:Txt mg):FnOk P w K mg base CX0 1 f fd ["one"] (DU K):=by
 refine F.ok XW #[8] #[2]
 ·obtain⟨p,aa,D,PP,rfl,_⟩:=h
  rfl
 ·obtain⟨p,aa,D,PP,rfl,hP,ok,m4,hD,lP,go⟩:=h;refine⟨_,jF (jP (LwMx.pe_maxD rfl (by rfl) T.max (jA (EG (N:=["powers","fraction"]) rfl rfl #[3] #[3] #[3] (xY #[10]) (λC fp s2 H2=>show PG (qV _ ["powers","fraction"] _ C fp s2 H2) _ (AJ K 2 (qS (jV 0) (qS (jV 1) gNil)))from kD (X:=qV _ ["powers","fraction"] _ C fp s2 H2) rfl (jH (jG (i:=0) (show List.Nodup (["powers","fraction"]:List Str) by decide +kernel) rfl #[5] #[5]) (jH (jG (i:=1) (show List.Nodup (["powers","fraction"]:List Str) by decide +kernel) rfl #[5] #[5]) jY))) (λC fp s2 H2=>kF (show CallR (qV _ ["powers","fraction"] _ C fp s2 H2) (.builtin "sum") (rSumT K)from HQ rfl) (by rfl) T.sum boot_sum (jA (pv 0) jB))) jB) (zE jD NT))), ?_⟩;obtain⟨q,xs,e1,e2,pr⟩:=hP.ex;have lx:xs.length=PP.length:=Paired.length pr;refine⟨_,rfl,p,_,_,_,rfl,rfl,SqT.of e1,rfl,q,rfl,⟨xs,SqT.of e2⟩,λl H1 n1 s1 e3=>?_⟩;refine MS (K:=K) (a:=q) (xs:=xs) (CmI (λk=>(PP.take k).map λx=>V.int x.1.sum) l H) (by rw[lx];exact gZ lP #[0]) ⟨s1,e3,rfl⟩ (λi ys H2 h=>⟨SqT.of (h.s _ _ e2),h.e⟩) ?_ ?_
  ·rintro i m ys x H2 hx hm hy ⟨s2,e4,ey⟩;obtain⟨x',hx',r,b,c,rfl,r1,r2,r3⟩:=Paired.at pr hx;have xm:=gQ hx';refine⟨r,_,rfl,SqT.of (s2 _ _ r1),rfl,_,_,rfl,_,_,rfl,rfl, ?_⟩;refine⟨_,rfl,b,x'.1,rfl,SqT.of (s2 _ _ r2),λn hn=>⟨ok.nn x' xm n hn, ?_⟩,by rw[ok.len x' xm];omega, ?_⟩
   ·have:=(qM (ok.nn x' xm) hn).1;have:=ok.deg x' xm;omega
   ·refine kJ hx hm hy e4 ⟨kA s2 n1,jE, ?_⟩;rw[ey,mI,hx',mZ]
    rfl
  ·rintro ys H2 hl ⟨s2,e4,ey⟩;rw[lx,mR]at ey;have hm:ys=(PP.map λx=>x.1.sum).map V.int:=by rw[ey,tG];rfl
   refine⟨0,rfl,l,PP.map (λx=>x.1.sum),rfl,by rw[<-hm];exact e4,λz=>?_,λm h1 h2=>?_⟩
   ·have:PP=[]:=List.map_eq_nil_iff.mp z;have:=go H2 s2;rw[‹PP=[]›]at this;exact this
   ·have h0:0<=m:=by
     obtain⟨x,hx,rfl⟩:=nY.mp h1
     match hh:x.1 with
     | []=>exact tP _
     | n::r=>rw[<-hh];exact(qM (n:=n) (ok.nn x hx) (by rw[hh];exact mD ..)).2
    rw[deg_eq h1 h2 h0];exact go H2 s2
def unp:Nat->Int->List Int
 | 0,_=>[]
 | n+1,k=>unp n (k/256)++[k%256]
theorem xU:∀(n:Nat) {ns:List Int},ns.length=n->Byt ns->unp n (pk ns)=ns
 | 0,ns,hl,_=>(List.length_eq_zero_iff.mp hl).symm
 | n+1,ns,hl,h=>by
  obtain⟨m,y,rfl,hm⟩:=yH hl;obtain⟨h1,h2⟩:=AV h;have p:=CK (ns:=m) h2;show unp n (pk (m++[y])/256)++[pk (m++[y])%256]=_;rw[p.1,p.2,xU n hm h1]
def KyP(aa:Nat)(k:Int):Prop:=∃ns:List Int,ns.length=aa/\(∀n∈ns,0<=n)/\ns.sum<=16/\k=pk ns
theorem vL{ns:List Int}(h:∀n∈ns,0<=n)(h2:ns.sum<=16):Byt ns:=λn hn=>by
 have h3:=(qM h hn).1;have h4:=h n hn;omega
structure SumT(aa:Nat)(T:Tb)(P:Pl):Prop where
 ok:PlOk aa P
 vl:∀ns:List Int,ns.length=aa->Byt ns->cf P ns=tv T (pk ns)
 at':∀x∈P,x.2=tv T (pk x.1)
def nzb(T:Tb)(k:Int):Bool:=decide (tv T k≠0)
theorem WN(f:Int->Rat):∀(ks:List Int) (j:Int),tv (ks.map λk=>(k,f k)) j=if j∈ks then f j else 0
 | [],j=>by rw[tT #[14]];rfl
 | k::ks,j=>by
  rw[nO,kS,WN f ks j];by_cases h:k=j
  ·rw[tU h,tU (by simp [h]),h]
  ·rw[tT h];by_cases q:j∈ks
   ·rw[tU q,tU (gS _ q)]
   ·rw[tT q,tT (λz=>by rcases nP.mp z with z | z;exact h z.symm;exact q z)]
def uK(aa:Nat)(T:Tb)(ns:List Int):Pl:=(ns.filter (nzb T)).map λk=>(unp aa k,tv T k)
theorem KyP.unp{aa:Nat}{k:Int}(h:KyP aa k):(Lw.unp aa k).length=aa/\(∀n∈Lw.unp aa k,0<=n)/\(Lw.unp aa k).sum<=16/\pk (Lw.unp aa k)=k:=by
 obtain⟨ns,h1,h2,h3,rfl⟩:=h;rw[xU aa h1 (vL h2 h3)];exact⟨h1,h2,h3,rfl⟩
theorem sumT_of{aa:Nat}{T:Tb}{ns:List Int}(lT:T.length<=60)(ky:∀k∈T.map (·.1),KyP aa k)(m1:1<=aa)(m4:aa<=4)(pm:ns.Perm (T.map (·.1)))(lt:ns.Pairwise (· < ·)):SumT aa T (uK aa T ns):=by
 have kk:∀k∈ns.filter (nzb T),KyP aa k/\tv T k≠0:=λk hk=>by
  rw[List.mem_filter]at hk;exact⟨ky k (pm.mem_iff.mp hk.1),mK hk.2⟩
 have mm:∀x∈uK aa T ns,∃k∈ns.filter (nzb T),x=(Lw.unp aa k,tv T k):=λx hx=>by
  obtain⟨k,hk,e⟩:=nY.mp hx;exact⟨k,hk,e.symm⟩
 have pks:((uK aa T ns).map λx=>pk x.1)=ns.filter (nzb T):=by
  unfold uK;rw[tG]
  conv=>rhs;rw[<-List.map_id (ns.filter (nzb T))]
  exact List.map_congr_left λk hk=>(kk k hk).1.unp.2.2.2
 have ok:PlOk aa (uK aa T ns):=by
  refine⟨λx hx=>?_,λx hx=>?_,λx hx=>?_, ?_,λx hx=>?_, ?_,m1,m4⟩
  ·obtain⟨k,hk,rfl⟩:=mm x hx;exact(kk k hk).1.unp.1
  ·obtain⟨k,hk,rfl⟩:=mm x hx;exact(kk k hk).1.unp.2.1
  ·obtain⟨k,hk,rfl⟩:=mm x hx;exact(kk k hk).1.unp.2.2.1
  ·rw[pks];exact lt.filter _
  ·obtain⟨k,hk,rfl⟩:=mm x hx;exact(kk k hk).2
  ·unfold uK;rw[mY];have h1:=List.length_filter_le (nzb T) ns;have h2:=pm.length_eq;rw[mY]at h2;omega
 refine⟨ok,λms hl hb=>?_,λx hx=>?_⟩
 ·rw[<-ok.tv hl hb];have e:jL (uK aa T ns)=(ns.filter (nzb T)).map λk=>(k,tv T k):=by
   unfold jL uK;rw[tG];refine List.map_congr_left λk hk=>?_;show(pk (Lw.unp aa k),tv T k)=(k,tv T k);rw[(kk k hk).1.unp.2.2.2]
  rw[e,WN];by_cases q:pk ms∈ns.filter (nzb T)
  ·rw[tU q]
  ·rw[tT q];by_cases r:pk ms∈T.map (·.1)
   ·refine gD λz=>q (List.mem_filter.mpr ⟨pm.mem_iff.mpr r,nG λy=>z y.symm⟩)
   ·exact(qJ r).symm
 ·obtain⟨k,hk,rfl⟩:=mm x hx;show tv T k=tv T (pk (Lw.unp aa k));rw[(kk k hk).1.unp.2.2.2]
theorem ML :∀{ah:List (Key×V)} {T:Tb},Paired (EntQ K H) ah T->kL ah=T.map (·.1)/\∀p∈ah,∃i:Int,p.1=.inl i
 | _,_,.nil=>⟨rfl,λ_ h=>nomatch h⟩
 | kv::ah,e::T,.cons h t=>by
  obtain⟨h1,h2⟩:=ML t;refine⟨?_,λp hp=>?_⟩
  ·show(match kv.1 with | .inl i=>i | .inr _=>0)::kL ah=e.1::T.map (·.1);rw[h1,h.1]
  ·rcases nP.mp hp with rfl | hp
   ·exact⟨_,h.1⟩
   ·exact h2 p hp
theorem IR(h:Rd H d o)(s:Same H H'):Rd H' d o:=by
 rcases h with h | ⟨u,h⟩
 ·exact .inl (s _ _ h)
 ·exact .inr ⟨u,s _ _ h⟩
theorem UZ(x:Rat):LwT.lexNe [x.num,(x.den:Int)] [0,1]=decide (x≠0):=by
 rw[show LwT.lexNe [x.num,(x.den:Int)] [0,1] = !decide ([x.num,(x.den:Int)]=[0,1])from LwT.lexNe_eq _ _];by_cases h:x=0
 ·subst h
  decide
 ·rw[nG h,nC (λz=>h ?_)]
  ·rfl
  ·have z1:x.num=0:=by injection z
   exact Rat.num_eq_zero.mp z1
structure KyI(H1:Hp)(q:Addr)(T:Tb)(ns:List Int)(i:Nat)(ys:List V)(H2:Hp):Prop where
 s:Same H1 H2
 e:H2 q=some (.lst ys)
 y:ys=((ns.take i).filter (nzb T)).map V.int
structure TuI(K:tV)(H1:Hp)(q:Addr)(P:Pl)(i:Nat)(ys:List V)(H2:Hp):Prop where
 s:Same H1 H2
 e:H2 q=some (.lst ys)
 pr:Paired (TmQ K H2) ys (P.take i)
theorem TmQ.updL(e:H p=some (.lst xs)){x:List Int×Rat}(h:TmQ K H v x):TmQ K (upd H p (.lst ys)) v x:=by
 obtain⟨r,b,c,e1,e2,e3,pc,e4,e5⟩:=h;have nu:∀{a:Addr} {zs:List V},H a=some (.tup zs)->(upd H p (.lst ys)) a=some (.tup zs):=fun {a zs} h=>by
  rw[jI λz=>by rw[z,e]at h;cases h];exact h
 exact⟨r,b,c,e1,nu e2,nu e3,pc,e4,nu e5⟩
def wL(K:tV):Sp:=λvs H Q _=>∃(d:Addr) (aa:Nat) (ah:List (Key×V)) (T:Tb),vs=[.int aa,.ref d]/\Rd H d (.dK ah)/\Paired (EntQ K H) ah T/\(T.map (·.1)).Nodup/\T.length<=60/\(∀k∈T.map (·.1),KyP aa k)/\1<=aa/\aa<=4/\
 ∀(p:Addr) (P:Pl) (H':Hp),H p=none->Same H H'->SumQ K H' p aa P->SumT aa T P->Q (.ref p) H'
theorem scSo:FnScope ["many","table","keys","one"] ["many","table"] (jJ zR):=scK #[3]
theorem ZK(F:Fun K "sum_of" "sum_of" zR f fd)(T:Txt mg)(N:Ngt K mg)(GU:DG P w K mg base 1 "unpacked" QJ ["key","many"] spUnpk)(GD:DG P w K mg base 1 "degree" zC ["one"] (DU K)):FnOk P w K mg base CX0 2 f fd ["many","table"] (wL K):=by
 obtain⟨na,hN,hna⟩:=N;obtain⟨tt,ht⟩:=T.terms;obtain⟨td,hd⟩:=T.degree;refine F.ok scSo #[8] #[2]
 ·obtain⟨d,aa,ah,TT,rfl,_⟩:=h
  rfl
 ·obtain⟨d,aa,ah,TT,rfl,rd,pr,nd,lT,ky,m1,m4,go⟩:=h;have hr1:Room 1 _:=hr.mono #[0];have hu0:=hr.units0;have hu1:_+1<cLine:=gZ (Nat.add_le_add_left (by decide:1<=64) _) hr.units;refine⟨_,jC (LG (i:=2) scSo.nd rfl #[5] (own:=1) (idx:=[1]) (N:=["key","table"]) rfl rfl rfl #[3] #[3] (zQ (by intro y hy;simp only[nP,mQ,or_false]at hy;rcases hy with rfl;rfl)) (qU rfl) rfl (yL rfl ⟨rfl,rfl,rfl,rfl⟩) (xC (kF (OO rfl) (by rfl) T.sorted boot_sorted (jA (pv 1) jB))) (λC fp s2 H2=>(jG (i:=0) (show List.Nodup (["key","table"]:List Str) by decide +kernel) rfl #[5] (Or.inr rfl))) (λC fp s2 H2=>jO (show OpR (jK _ ["key","table"] _ _ C fp s2 H2) _ (LwT.rOrdT K LwT.lexNe)from LwT.op_neT hu0) (wN hu1 (pv 1) (pv 0) (λ_ _=>rfl)) (kT (v:=.ref na) (by rfl) hN rfl) (jS _)) (λC fp s2 H2=>pv 0)) (jC (kE (jO yT (kF kR (by rfl) T.len PySem.boot_len (jA (pv 2) jB)) (kT (v:=.int 500) (by rfl) ht ⟨_,rfl⟩) (jS _)) (jF (kP)) jR) (jC (jN (i:=3) scSo.nd rfl #[5] (kC (jA (pv 0) (jA (qE qC (by rfl) T.tup boot_tuple (jA (vQ (own:=1) (idx:=[0,1]) (N:=["key","many","table"]) rfl rfl rfl #[3] #[3] (zQ (by intro y hy;simp only[nP,mQ,or_false]at hy;rcases hy with rfl | rfl<;>rfl)) (qU rfl) rfl (PF rfl rfl ⟨rfl,rfl,rfl,rfl⟩ ⟨rfl,rfl,rfl,rfl⟩) (xC (pv 2)) (λC fp s2 H2=>(jG (i:=0) (show List.Nodup (["key","many","table"]:List Str) by decide +kernel) rfl #[5] (Or.inr rfl))) (λC fp s2 H2=>kC (jA (cal GU hr1 (jA (pv 0) (jA (pv 1) jB))) (jA (wN hu1 (pv 2) (pv 0) (λ_ _=>rfl)) jB)))) jB)) jB)))) (jC (kE (jO yT (cal GD hr1 (jA (pv 3) jB)) (kT (v:=.int 16) (by rfl) hd ⟨_,rfl⟩) (jS _)) (jF (kP)) jR) (jF (jP (pv 3)))))), ?_⟩
  try dsimp only[cxK]
  obtain⟨ek,ei⟩:=ML pr;have lk:ah.length=TT.length:=Paired.length pr;refine⟨_,rfl,d,ah,rfl,rd,by omega,ei,λns pm srt sl H1 n1 s1 e1=>⟨sl,rfl,⟨_,SqL.of e1⟩,λq H2 n2 s2 e2=>?_⟩⟩;rw[ek]at pm;have ndn:ns.Nodup:=pm.nodup_iff.mpr nd;have lt:ns.Pairwise (· < ·):=(srt.and ndn).imp λ⟨h1,h2⟩=>by omega
  have ln:ns.length=TT.length:=by rw[pm.length_eq,mY]
  have get:∀{n:Int} {H':Hp},n∈ns->Same H H'->∃v,DGet H' d (.int n) (some v)/\NumH H' v (tv TT n):=fun {n H'} hn sm=>by
   rcases JT (k:=n) pr with⟨v,h1,h2,_⟩ | ⟨_,_,h3⟩
   ·exact⟨v,.inl ⟨ah,.inl n,IR rd sm,rfl,h1.symm⟩,h2.same sm⟩
   ·exact absurd (pm.mem_iff.mp hn) h3
  refine MV (K:=K) (a:=sl) (xs:=ns.map V.int) (KyI H1 q TT ns) (by rw[mY,ln,sizeLine_eq];omega) ⟨s2,e2,rfl⟩ (λi ys H3 h=>⟨SqL.of (h.s _ _ e1),h.e, ?_⟩) ?_ ?_
  ·rw[h.y,mY];have:=List.length_filter_le (nzb TT) (ns.take i);rw[mP]at this;omega
  ·intro i m ys x H3 hx hm h;have hx':=hx;rw[mG]at hx';obtain⟨n,hn,rfl⟩:=Option.map_eq_some_iff.mp hx';obtain⟨v,g1,pv',rfl,g2⟩:=get (gQ hn) (s1.trans h.s);have tk:(ns.take (i+1)).filter (nzb TT)=(ns.take i).filter (nzb TT)++(if nzb TT n=true then [n]else []):=by
    rw[mI,hn,List.filter_append]
    congr 1
    show [n].filter _=_;rw[mX]
    rfl
   refine⟨wE,_,rfl,_,rfl,d,_,rfl,g1,pv',na,[(tv TT n).num,((tv TT n).den:Int)],[0,1],rfl,rfl,SqT.of g2,hna H3,_,rfl, ?_⟩;rw[UZ];refine wU (λc=>⟨_,rfl,h.e,TH hx hm ⟨kA h.s n2,jE, ?_⟩⟩) (λc=>TH hx hm ⟨h.s,h.e, ?_⟩)
   ·rw[tk,tU (show nzb TT n=true from c),mZ,h.y]
    rfl
   ·rw[tk,tT (show ¬nzb TT n=true from c),List.append_nil,h.y]
  ·rintro ys H3 ⟨s3,e3,ey⟩;rw[mY,mR]at ey;subst ey;dsimp only[jV];have lf:=List.length_filter_le (nzb TT) ns;refine⟨_,rfl,q,_,rfl,.inl (SqL.of e3),_,_,rfl,rfl,_,rfl,qT (nC (by rw[mY];omega)) ?_⟩;refine⟨_,rfl,_,rfl,q,rfl,⟨_,SqL.of e3⟩,λl2 H4 n4 s4 e4=>?_⟩;have ST:=sumT_of lT ky m1 m4 pm lt;have s03:=s1.trans s3;refine yE (K:=K) (a:=q) (xs:=(ns.filter (nzb TT)).map V.int) (TuI K H3 l2 (uK aa TT ns)) (by rw[mY,sizeLine_eq];omega) ⟨s4,e4,.nil⟩ (λi ys H5 h=>⟨SqL.of (h.s _ _ e3),h.e⟩) ?_ ?_
   ·intro i m ys x H5 hx hm hy h;have hx':=hx;rw[mG]at hx';obtain⟨n,hn,rfl⟩:=Option.map_eq_some_iff.mp hx';have nm:=gQ hn;have nn:=(List.mem_filter.mp nm).1;have ku:=(ky n (pm.mem_iff.mp nn)).unp;have hP:(uK aa TT ns)[i]? = some (unp aa n,tv TT n):=by unfold uK;rw[mG,hn];rfl
    refine⟨wE,_,rfl,_,rfl,unp aa n,by rw[ku.1,ku.2.2.2];rfl,vL ku.2.1 ku.2.2.1,by rw[ku.1];exact m4,λr H6 n6 s6 e6=>?_⟩;obtain⟨v,g1,pv',rfl,g2⟩:=get nn (s03.trans (h.s.trans s6));refine⟨_,rfl,_,rfl,d,_,rfl,g1,gA,λtt H7 n7 s7 e7=>?_⟩;have eq7:=(s6.trans s7) _ _ h.e;refine kJ hx hm hy eq7 ⟨kA (h.s.trans (s6.trans s7)) n4,jE, ?_⟩;rw[mI,hP];exact Paired.app (Paired.to (λ_ _ k=>(k.same (s6.trans s7)).updL eq7) h.pr) (.cons (TmQ.updL eq7 ⟨tt,r,pv',rfl,e7,s7 _ _ e6,pv',rfl,s7 _ _ g2⟩) .nil)
   ·rintro ys H5 hy ⟨s5,e5,pr5⟩;have lS:(uK aa TT ns).length=(ns.filter (nzb TT)).length:=by unfold uK;rw[mY]
    rw[mY,<-lS,mR]at pr5;refine⟨l2,_,rfl,.inl ⟨SqL.of e5,λr nr=>⟨gA,λp H7 n7 s7 e7=>?_⟩⟩⟩;have s6:Same H5 (upd H5 r (.tup ys)):=jQ _ nr;have e6:(upd H5 r (.tup ys)) r=some (.tup ys):=jE;generalize upd H5 r (.tup ys)=H6 at s6 e6 n7 s7;have SQ:SumQ K H7 p aa (uK aa TT ns):=⟨r,ys,e7,s7 _ _ e6,Paired.to (λ_ _ k=>k.same (s6.trans s7)) pr5⟩;have s07:=s03.trans (s5.trans (s6.trans s7));have n7':H p=none:=(s03.trans (s5.trans s6)).free n7;dsimp only[jV];refine⟨_,rfl,p,aa,16,_,rfl,SQ,ST.ok.pd,m4,by decide,nW ST.ok.few #[0],λH8 s8=>⟨_,_,rfl,rfl,_,rfl,qT (nC ?_) ⟨_,rfl,go p _ H8 n7' (s07.trans s8) (SQ.same s8) ST⟩⟩⟩;have:=JX ST.ok.deg #[0];omega
theorem CA{e:Int×Rat} :tv (e::T) e.1=e.2:=by rw[kS,tU rfl]
theorem WQ{k:Int}(h:∀e∈T,k<e.1):tv T k=0:=qJ λz=>by
 obtain⟨e,he,rfl⟩:=nY.mp z;exact Int.lt_irrefl _ (h e he)
theorem PM:∀{T S:Tb},(T.map (·.1)).Pairwise (· < ·)->(S.map (·.1)).Pairwise (· < ·)->(∀e∈T,e.2≠0)->(∀e∈S,e.2≠0)->(∀k,k∈T.map (·.1)∨k∈S.map (·.1)->tv T k=tv S k)->T=S
 | [],[],_,_,_,_,_=>rfl
 | [],e::S,_,_,_,hs,h=>by
  have:=h e.1 (.inr #[14]);rw[CA]at this;exact absurd this.symm (hs e (mD ..))
 | e::T,[],_,_,ht,_,h=>by
  have:=h e.1 (.inl #[14]);rw[CA]at this;exact absurd this (ht e (mD ..))
 | e::T,c::S,h1,h2,ht,hs,h=>by
  rw[nO,List.pairwise_cons]at h1 h2;have lt1:∀x∈T,e.1<x.1:=λx hx=>h1.1 _ (List.mem_map_of_mem hx);have lt2:∀x∈S,c.1<x.1:=λx hx=>h2.1 _ (List.mem_map_of_mem hx);have he:=h e.1 (.inl #[14]);have hc:=h c.1 (.inr #[14]);rw[CA]at he hc;have ec:e.1=c.1:=by
   refine gD λn=>?_;rcases Int.lt_or_lt_of_ne n with l | l
   ·rw[kS,tT (Ne.symm n),WQ (λx hx=>Int.lt_trans l (lt2 x hx))]at he;exact ht e (mD ..) he
   ·rw[kS,tT n,WQ (λx hx=>Int.lt_trans l (lt1 x hx))]at hc;exact hs c (mD ..) hc.symm
  have e2:e.2=c.2:=by rw[he,ec,CA]
  have tl:T=S:=by
   refine PM h1.2 h2.2 (λx hx=>ht x (gS _ hx)) (λx hx=>hs x (gS _ hx)) λk hk=>?_;have nk:e.1≠k:=λz=>by
    rcases hk with hk | hk
    ·obtain⟨x,hx,rfl⟩:=nY.mp hk;exact absurd (lt1 x hx) #[1]
    ·obtain⟨x,hx,rfl⟩:=nY.mp hk;have:=lt2 x hx;omega
   have:=h k (hk.elim (λz=>.inl (gS _ z)) (λz=>.inr (gS _ z)));rw[kS,tT nk,kS,tT (by rw[<-ec];exact nk)]at this;exact this
  rw[tl,show e=c from Prod.ext ec e2]
theorem pl_uniq{aa:Nat}{P S:Pl}(h1:PlOk aa P)(h2:PlOk aa S)(h:∀ns:List Int,ns.length=aa->Byt ns->cf P ns=cf S ns):P=S:=by
 have t:jL P=jL S:=by
  refine PM (by rw[vI];exact h1.ord) (by rw[vI];exact h2.ord) (λe he=>?_) (λe he=>?_) λk hk=>?_
  ·obtain⟨x,hx,rfl⟩:=nY.mp he;exact h1.nz x hx
  ·obtain⟨x,hx,rfl⟩:=nY.mp he;exact h2.nz x hx
  ·rw[vI,vI]at hk;rcases hk with hk | hk
   ·obtain⟨x,hx,rfl⟩:=nY.mp hk;rw[h1.tv (h1.len x hx) (h1.byt hx),h2.tv (h1.len x hx) (h1.byt hx),h _ (h1.len x hx) (h1.byt hx)]
   ·obtain⟨x,hx,rfl⟩:=nY.mp hk;rw[h1.tv (h2.len x hx) (h2.byt hx),h2.tv (h2.len x hx) (h2.byt hx),h _ (h2.len x hx) (h2.byt hx)]
 have l:P.length=S.length:=by have:=congrArg List.length t;unfold jL at this;rwa [mY,mY]at this
 refine List.ext_getElem? λi=>?_;have g:(jL P)[i]? = (jL S)[i]? :=by rw[t]
 unfold jL at g;rw[mG,mG]at g;cases a:P[i]? with
 | none=>rw[a]at g;cases b:S[i]? with | none=>rfl | some y=>rw[b]at g;cases g
 | some x=>
  rw[a]at g;cases b:S[i]? with
  | none=>rw[b]at g;cases g
  | some y=>
   rw[b]at g;have g:(pk x.1,x.2)=(pk y.1,y.2):=Option.some.inj g;have g1:pk x.1=pk y.1:=(Prod.mk.inj g).1;have g2:x.2=y.2:=(Prod.mk.inj g).2;have xm:=gQ a;have ym:=gQ b;rw[show x=y from Prod.ext (BH aa (h1.len x xm) (h2.len y ym) (h1.byt xm) (h2.byt ym) g1) g2]
theorem PlOk.ky{aa:Nat}{P:Pl}(h:PlOk aa P):∀k∈(jL P).map (·.1),KyP aa k:=λk hk=>by
 rw[vI]at hk;obtain⟨x,hx,rfl⟩:=nY.mp hk;exact⟨x.1,h.len x hx,h.nn x hx,h.deg x hx,rfl⟩
theorem qG(P:Pl):(jL P).length=P.length:=by unfold jL;rw[mY]
theorem PQ(n:Nat):SzR (n+1) 0:=⟨Nat.two_pow_pos _,by show 1<2^(n+1);exact Nat.one_lt_two_pow #[1]⟩
theorem WR:∀{T:Tb} {k:Int},tv T k=0∨∃e∈T,e.2=tv T k
 | [],_=>.inl rfl
 | e::T,k=>by
  rw[kS];by_cases h:e.1=k
  ·rw[tU h];exact .inr ⟨e,mD ..,rfl⟩
  ·rw[tT h];rcases WR (T:=T) (k:=k)with z | ⟨c,hc,z⟩
   ·exact .inl z
   ·exact .inr ⟨c,gS _ hc,z⟩
theorem sz_tab{P:Pl}(h:∀x∈P,SzR 7900 x.2)(k:Int):SzR 7900 (tv (jL P) k):=by
 rcases WR (T:=jL P) (k:=k)with z | ⟨e,he,z⟩
 ·rw[z];exact PQ 7899
 ·rw[<-z];obtain⟨x,hx,rfl⟩:=nY.mp he;exact h x hx
theorem PR{P:Pl}(h:∀x∈P,SzR 7900 x.2):∀e∈jL P,SzR 7900 e.2:=λe he=>by
 obtain⟨x,hx,rfl⟩:=nY.mp he;exact h x hx
def uP(K:tV):Sp:=λvs H Q _=>∃(p1 p2:Addr) (aa:Nat) (P1 P2:Pl),vs=[.ref p1,.ref p2]/\SumQ K H p1 aa P1/\SumQ K H p2 aa P2/\PlOk aa P1/\PlOk aa P2/\P1.length+P2.length<=60/\(∀x∈P1,SzR 7900 x.2)/\(∀x∈P2,SzR 7900 x.2)/\
 ∀(p:Addr) (P:Pl) (H':Hp),H p=none->Same H H'->SumQ K H' p aa P->PlOk aa P->(∀ns:List Int,ns.length=aa->Byt ns->cf P ns=cf P1 ns+cf P2 ns)->Q (.ref p) H'
theorem scPl:FnScope ["one","other"] ["one","other"] (jJ BG):=scK #[3]
theorem ZQ(F:Fun K "plus" "plus" BG f fd)(GT:DG P w K mg base 2 "table_of" uA ["one"] (uN K))(GA:DG P w K mg base 3 "tables_added" uR ["one","other"] (DQ K))(GS:DG P w K mg base 2 "sum_of" zR ["many","table"] (wL K)):FnOk P w K mg base CX0 4 f fd ["one","other"] (uP K):=by
 refine F.ok scPl #[8] #[2]
 ·obtain⟨p1,p2,aa,P1,P2,rfl,_⟩:=h
  rfl
 ·obtain⟨p1,p2,aa,P1,P2,rfl,q1,q2,o1,o2,ln,z1,z2,go⟩:=h;have hr2:Room 2 _:=hr.mono #[0];refine⟨_,jF (jP (cal GS hr2 (jA #[10] (jA (cal GA hr (jA (cal GT hr2 (jA (pv 0) jB)) (jA (cal GT hr2 (jA (pv 1) jB)) jB))) jB)))), ?_⟩;try dsimp only[cxK]
  obtain⟨qq,xs,e1,_⟩:=q1.ex;refine⟨_,rfl,p1,_,_,_,rfl,rfl,SqT.of e1,rfl,_,rfl,p1,aa,P1,rfl,q1,o1,λda k1 H1 n1 s1 ea pa=>?_⟩;refine⟨_,rfl,p2,aa,P2,rfl,q2.same s1,o2,λdb k2 H2 n2 s2 eb pb=>?_⟩;refine⟨da,db,k1,k2,jL P1,jL P2,rfl,.inl (s2 _ _ ea),eb,Paired.to (λ_ _ h=>h.same s2) pa,pb,o1.nd,o2.nd,by rw[qG,qG];omega,sz_tab z1,PR z2,λd ah T H3 n3 b3 e3 p3 A _=>?_⟩;have s03:Same H H3:=λc u h=>b3 _ _ ((s1.trans s2) _ _ h) (kG (s1 _ _ h) n2);have nd3:H d=none:=(s1.trans s2).free n3;refine⟨d,aa,ah,T,rfl,.inl e3,p3,A.nd,by have:=A.ln;rw[qG,qG]at this;omega,λk hk=>(A.ks k hk).elim (o1.ky k) (o2.ky k),o1.m1,o1.m4,λp PP H4 n4 s4 SQ ST=>?_⟩;refine go p PP H4 (s03.free n4) (s03.trans s4) SQ ST.ok λns hl hb=>?_;rw[ST.vl ns hl hb,A.vl,o1.tv hl hb,o2.tv hl hb]
def uO(K:tV):Sp:=λvs H Q _=>∃(p1:Addr) (v:V) (aa:Nat) (P1:Pl) (y:Rat),vs=[.ref p1,v]/\SumQ K H p1 aa P1/\PlOk aa P1/\NumK K H v y/\(∀x∈P1,SzR 7900 x.2)/\SzR 7900 y/\
 ∀(p:Addr) (P:Pl) (H':Hp),H p=none->Same H H'->SumQ K H' p aa P->PlOk aa P->(∀ns:List Int,ns.length=aa->Byt ns->cf P ns=cf P1 ns*y)->Q (.ref p) H'
structure ScI(K:tV)(H1:Hp)(d0 d:Addr)(o:Obj)(k1:List (Key×V))(T:Tb)(y:Rat)(i:Nat)(ys:List (Key×V))(H2:Hp):Prop where
 s:Same H1 H2
 e:H2 d=some (.dK ys)
 pr:Paired (EntQ K H2) ys ((T.take i).map λe=>(e.1,e.2*y))
theorem DE(y:Rat):∀(T:Tb) (k:Int),tv (T.map λe=>(e.1,e.2*y)) k=tv T k*y
 | [],k=>by show(0:Rat)=0*y;rw[tF]
 | e::T,k=>by
  rw[nO,kS,kS,DE y T k];by_cases h:e.1=k
  ·rw[tU h,tU h]
  ·rw[tT h,tT h]
theorem scSc:FnScope ["one","number","table"] ["one","number"] (jJ uS):=scK #[3]
theorem US(F:Fun K "scaled" "scaled" uS f fd)(GT:DG P w K mg base 2 "table_of" uA ["one"] (uN K))(GM:DG P w K mg base 2 "multiplied" KU ["one","other"] (DS K))(GS:DG P w K mg base 2 "sum_of" zR ["many","table"] (wL K)):FnOk P w K mg base CX0 3 f fd ["one","number"] (uO K):=by
 refine F.ok scSc #[8] #[2]
 ·obtain⟨p1,v,aa,P1,y,rfl,_⟩:=h
  rfl
 ·obtain⟨p1,v,aa,P1,y,rfl,q1,o1,ny,z1,zy,go⟩:=h;refine⟨_,jC (IS (i:=2) scSc.nd rfl #[5] (own:=2) (idx:=[1]) (N:=["key","fraction","number"]) rfl rfl rfl #[3] #[3] (zQ (by intro y hy;simp only[nP,mQ,or_false]at hy;rcases hy with rfl;rfl)) (qU rfl) rfl (yL rfl ⟨rfl,rfl,rfl,rfl⟩) (xZ (IU (cal GT hr (jA (pv 0) jB)))) (λC fp s2 H2=>show PG (jK _ ["key","fraction","number"] _ _ C fp s2 H2) _ (AJ K 2 (qS (jV 0) (qS (jV 1) gNil)))from kD (X:=jK _ ["key","fraction","number"] _ _ C fp s2 H2) rfl (jH (jG (i:=0) (show List.Nodup (["key","fraction","number"]:List Str) by decide +kernel) rfl #[5] (Or.inr rfl)) (jH (jG (i:=1) (show List.Nodup (["key","fraction","number"]:List Str) by decide +kernel) rfl #[5] (Or.inr rfl)) jY))) (λC fp s2 H2=>pv 0) (λC fp s2 H2=>cal GM hr (jA (pv 1) (jA (pv 2) jB)))) (jF (jP (cal GS hr (jA #[10] (jA (pv 2) jB))))), ?_⟩;try dsimp only[cxK]
  refine⟨_,rfl,p1,aa,P1,rfl,q1,o1,λda k1 H1 n1 s1 ea pa=>?_⟩;refine⟨da,k1,rfl,ea,λo=>⟨da,o,k1,rfl,jE,λd H3 n3 s3 e3=>?_⟩⟩;have k2:Paired (EntQ K (upd H1 da (.frz o (.dK k1)))) k1 (jL P1):=Paired.to (λ_ _ h=>h.upd ea) pa;have s2:Same H (upd H1 da (.frz o (.dK k1))):=kA s1 n1;have ef:(upd H1 da (.frz o (.dK k1))) da=some (.frz o (.dK k1)):=jE;generalize upd H1 da (.frz o (.dK k1))=H2 at k2 s2 ef n3 s3;have l1:k1.length=P1.length:=by rw[Paired.length k2,qG]
  refine zJ (ScI K H2 da d o k1 (jL P1) y) (by rw[l1];exact gZ o1.few #[0]) ⟨s3,e3,.nil⟩ (λi ys H4 h=>⟨h.s _ _ ef,h.e, ?_⟩) ?_ ?_
  ·have:=Paired.length h.pr;rw[this,mY,mP];omega
  ·intro i m ys k x c H4 hx hm h hc;obtain⟨e,he,hk,hn⟩:=Paired.at k2 hx;have hk:k=.inl e.1:=hk;subst hk;have s5:Same H4 (upd H4 c (.tup [kV (.inl e.1),x])):=jQ _ hc;have e5:(upd H4 c (.tup [kV (.inl e.1),x])) c=some (.tup [kV (.inl e.1),x]):=jE;generalize upd H4 c (.tup [kV (.inl e.1),x])=H5 at s5 e5;have em:=gQ he;obtain⟨px,rfl,hx2⟩:=hn.same (h.s.trans s5);obtain⟨py,rfl,hy2⟩:=ny.same (s2.trans (h.s.trans s5));refine⟨c,_,rfl,SqT.of e5,rfl,_,_,rfl,_,_,rfl,rfl,BT,_,rfl,_,rfl,_,rfl,px,py,_,_,_,_,rfl,SqT.of hx2,hy2,(PR z1 e em).fr uX,zy.fr uX,λr H6 n6 s6 e6=>?_⟩;have e6:=RJ e6;have ed6:=(s5.trans s6) _ _ h.e;refine⟨.inl e.1,rfl,ed6,CS hx hm ⟨kA (h.s.trans (s5.trans s6)) n3,jE, ?_⟩⟩;have k:=AN (k:=e.1) (Paired.to (λ_ _ h=>h.same (s5.trans s6)) h.pr) (NumH.of e6);have eq:xO ((List.take i (jL P1)).map λe=>(e.1,e.2*y)) e.1 (e.2*y)=(List.take (i+1) (jL P1)).map λe=>(e.1,e.2*y):=by
    rw[yS,mI,he,mZ]
    ·rfl
    ·have:=zY he o1.nd;rw[tG];exact this
   rw[eq]at k;exact Paired.to (λ_ _ h=>h.upd ed6) k
  ·intro ys H4 h;have pr2:=h.pr;rw[show k1.length=(jL P1).length from Paired.length k2,mR]at pr2;dsimp only[jV];obtain⟨qq,xs,e1,_⟩:=(q1.same (s2.trans h.s)).ex;have ks:((jL P1).map λe=>(e.1,e.2*y)).map (·.1)=(jL P1).map (·.1):=by rw[tG];rfl
   refine⟨_,rfl,p1,_,_,_,rfl,rfl,SqT.of e1,rfl,_,rfl,d,aa,ys,_,rfl,.inl h.e,pr2,by rw[ks];exact o1.nd,by rw[mY,qG];exact o1.few,by rw[ks];exact o1.ky,o1.m1,o1.m4,λp PP H5 n5 s5 SQ ST=>?_⟩;have s04:=s2.trans h.s;refine go p PP H5 (s04.free n5) (s04.trans s5) SQ ST.ok λns hl hb=>?_;rw[ST.vl ns hl hb,DE,o1.tv hl hb]
def yC(ns:List Int)(l:Nat):List Int:=ns.set l (ns.getD l 0-1)
theorem qN{ns:List Int}{l:Nat}(h:l<ns.length):ns[l]? = some (ns.getD l 0):=by
 rw[gB,gG h]
 rfl
theorem low_inj{ns ms:List Int}{l:Nat}(h:ns.length=ms.length)(hl:l<ns.length)(e:yC ns l=yC ms l):ns=ms:=by
 refine List.ext_getElem? λi=>?_;have g:(yC ns l)[i]? = (yC ms l)[i]? :=by rw[e]
 unfold yC at g;by_cases c:l=i
 ·subst c;rw[List.getElem?_set_self hl,List.getElem?_set_self #[1]]at g;have g:=Option.some.inj g;rw[qN hl,qN (show l<ms.length by omega)]
  congr 1
  omega
 ·rw[List.getElem?_set_ne c,List.getElem?_set_ne c]at g;exact g
theorem DF:∀{ns:List Int} {l:Nat} (v:Int),l<ns.length->(ns.set l v).sum=ns.sum-ns.getD l 0+v
 | [],l,v,h=>by simp at h
 | a::r,0,v,h=>by
  rw[List.set_cons_zero,nT,nT];show v+r.sum=a+r.sum-a+v;omega
 | a::r,l+1,v,h=>by
  have ih:=DF (ns:=r) (l:=l) v (by simpa using h);rw[List.set_cons_succ,nT,nT,ih];show a+(r.sum-r.getD l 0+v)=a+r.sum-r.getD l 0+v;omega
theorem uD{aa l:Nat}{P:Pl}(ok:PlOk aa P){x:List Int×Rat}(hx:x∈P)(hl:l<aa)(hp:0<x.1.getD l 0):(yC x.1 l).length=aa/\(∀n∈yC x.1 l,0<=n)/\(yC x.1 l).sum<=16:=by
 have h1:=ok.len x hx;refine⟨by unfold yC;rw[List.length_set];exact h1,λn hn=>?_, ?_⟩
 ·rcases List.mem_or_eq_of_mem_set hn with hn | rfl
  ·exact ok.nn x hx n hn
  ·omega
 ·have:=DF (ns:=x.1) (l:=l) (x.1.getD l 0-1) #[1];have:=ok.deg x hx;unfold yC;omega
def slE(l:Nat)(x:List Int×Rat):Option (Int×Rat):=if 0<x.1.getD l 0 then some (pk (yC x.1 l),x.2*((x.1.getD l 0:Int):Rat))else none
def slT(P:Pl)(l:Nat):Tb:=P.filterMap (slE l)
theorem IJ{aa l:Nat}{P Q:Pl}(ok:PlOk aa P)(sub:∀x∈Q,x∈P)(hl:l<aa){k:Int}(h:k∈(slT Q l).map (·.1)):∃x∈Q,0<x.1.getD l 0/\k=pk (yC x.1 l):=by
 obtain⟨e,he,rfl⟩:=nY.mp h;obtain⟨x,hx,e1⟩:=List.mem_filterMap.mp he;unfold slE at e1;split at e1
 ·rename_i c;cases e1;exact⟨x,hx,c,rfl⟩
 ·cases e1
theorem sl_new{aa l i:Nat}{P:Pl}(ok:PlOk aa P)(hl:l<aa){x:List Int×Rat}(hx:P[i]? = some x)(hp:0<x.1.getD l 0):pk (yC x.1 l)∉(slT (P.take i) l).map (·.1):=λz=>by
 obtain⟨y,hy,py,e⟩:=IJ ok (λa ha=>gX ha) hl z;have xm:=gQ hx;have ym:=gX hy;have kx:=uD ok xm hl hp;have ky:=uD ok ym hl py;have e2:=BH aa kx.1 ky.1 (vL kx.2.1 kx.2.2) (vL ky.2.1 ky.2.2) e;have e3:=low_inj (by rw[ok.len x xm,ok.len y ym]) (by rw[ok.len x xm];exact hl) e2;obtain⟨j,hj⟩:=gP.mp hy;have ji:j<i:=by
  have:=(gE.mp hj).1;rw[mP]at this;omega
 rw[gH ji]at hj;have a1:(P.map (·.1))[j]? = some y.1:=by rw[mG,hj];rfl
 have a2:(P.map (·.1))[i]? = some x.1:=by rw[mG,hx];rfl
 have:=(List.getElem?_inj (gE.mp a1).1 ok.ndn).mp (a1.trans (by rw[<-e3];exact a2.symm));omega
theorem QE{aa l i:Nat}{P:Pl}(ok:PlOk aa P)(hl:l<aa){x:List Int×Rat}(hx:P[i]? = some x):slT (P.take (i+1)) l=if 0<x.1.getD l 0 then xO (slT (P.take i) l) (pk (yC x.1 l)) (x.2*((x.1.getD l 0:Int):Rat))else slT (P.take i) l:=by
 have t:slT (P.take (i+1)) l=slT (P.take i) l++[x].filterMap (slE l):=by
  unfold slT;rw[mI,hx,List.filterMap_append]
  rfl
 rw[t];split
 ·rename_i c;rw[yS (sl_new ok hl hx c)]
  congr 1
  rw[List.filterMap_cons_some (show slE l x=_ from tU c)]
  rfl
 ·rename_i c;have:[x].filterMap (slE l)=[]:=by
   rw[List.filterMap_cons_none (show slE l x=none from tT c)]
   rfl
  rw[this,List.append_nil]
theorem QF{aa l:Nat}{P:Pl}(ok:PlOk aa P)(hl:l<aa):∀i,i<=P.length->((slT (P.take i) l).map (·.1)).Nodup
 | 0,_=>nM
 | i+1,h=>by
  rw[QE ok hl (gG (show i<P.length by omega))];split
  ·exact xS (QF ok hl i #[1])
  ·exact QF ok hl i #[1]
theorem NN(P:Pl)(l:Nat):(slT P l).length<=P.length:=List.length_filterMap_le ..
def CC(K:tV):Sp:=λvs H Q _=>∃(p1:Addr) (l aa:Nat) (P1:Pl),vs=[.ref p1,.int l]/\SumQ K H p1 aa P1/\PlOk aa P1/\l<aa/\(∀x∈P1,SzR 7900 x.2)/\
 ∀(p:Addr) (P:Pl) (H':Hp),H p=none->Same H H'->SumQ K H' p aa P->SumT aa (slT P1 l) P->Q (.ref p) H'
inductive SlI(K:tV)(H:Hp)(p1 q d:Addr)(l aa:Nat)(P:Pl)(i:Nat):L2.St->Hp->Prop where
 | mk {u5 u6 u7 u8:Option V} {H':Hp} {ah:List (Key×V)} (s:Same H H') (e:H' d=some (.dK ah)) (pr:Paired (EntQ K H') ah (slT (P.take i) l)):SlI K H p1 q d l aa P i [some (.ref p1),some (.int l),some (.int aa),some (.ref q),some (.ref d),u5,u6,u7,u8] H'
theorem BL{ns:List Int}{l:Nat}(h:l<ns.length):xK #[15] none (some (l:Int))++[V.int (ns.getD l 0-1)]++xK #[15] (some ((l:Int)+1)) none=(yC ns l).map V.int:=by
 have c1:xK #[15] none (some (l:Int))=(ns.take l).map V.int:=by
  unfold xK;rw[HT.sIx_nat,HT.sIx_none,Nat.min_eq_left (by rw[mY];omega),List.drop_zero,Nat.sub_zero,List.map_take]
 have c2:xK #[15] (some ((l:Int)+1)) none=(ns.drop (l+1)).map V.int:=by
  rw[show((l:Int)+1)=((l+1:Nat):Int) by omega];unfold xK;rw[HT.sIx_nat,HT.sIx_none,Nat.min_eq_left (by rw[mY];omega),List.map_drop];exact gK (by rw[List.length_drop];exact tK _)
 rw[c1,c2];unfold yC;rw[List.set_eq_take_append_cons_drop,tU h,mZ,nO,mJ]
 rfl
theorem scSl:FnScope ["one","letter","many","terms","table","powers","fraction","power","lower"] ["one","letter"] (jJ DX):=scK #[3]
theorem ZN(F:Fun K "slope" "slope" DX f fd)(GP:DG P w K mg base 1 "packed" uT ["powers"] (DR K))(GM:DG P w K mg base 2 "multiplied" KU ["one","other"] (DS K))(GS:DG P w K mg base 2 "sum_of" zR ["many","table"] (wL K)):FnOk P w K mg base CX0 3 f fd ["one","letter"] (CC K):=by
 refine F.ok scSl #[8] #[2]
 ·obtain⟨p1,l,aa,P1,rfl,_⟩:=h
  rfl
 ·obtain⟨p1,l,aa,P1,rfl,q1,o1,hl,z1,go⟩:=h;have hr1:Room 1 _:=hr.mono #[0];have hu:_+1<cLine:=gZ (Nat.add_le_add_left (by decide:1<=64) _) hr.units;refine⟨_,jC (qP (pv 0) (kD rfl (jH (jG (i:=2) scSl.nd rfl #[5]) (jH (jG (i:=3) scSl.nd rfl #[5]) jY)))) (jC (jN (i:=4) scSl.nd rfl #[5] (zU)) (jC (kZ PassesOwn.never rfl (xY (pv 3)) (kD rfl (jH (jG (i:=5) scSl.nd rfl #[5]) (jH (jG (i:=6) scSl.nd rfl #[5]) jY))) (jC (jN (i:=7) scSl.nd rfl #[5] (jU jX (pv 5) (pv 1) (λ_ _=>rfl))) (jF (kE (jO yT (pv 7) jD (jS _)) (jC (jN (i:=8) scSl.nd rfl #[5] (jM RC (jM RC (yA II (pv 5) zD (xB (pv 1))) (kC (jA (jM zX (pv 7) jD) jB))) (yA II (pv 5) (xB (jM qF (pv 1) jD)) zD))) (jF (CJ hu (pv 4) (cal GP hr1 (jA (pv 8) jB)) (cal GM hr (jA (pv 6) (jA (kC (jA (pv 7) (jA jD jB))) jB))) rfl))) jR)))) (jF (jP (cal GS hr (jA (pv 2) (jA (pv 4) jB))))))), ?_⟩;try dsimp only[cxK]
  obtain⟨q,xs,e1,e2,pr⟩:=q1.ex;have lx:xs.length=P1.length:=Paired.length pr;refine⟨_,rfl,gT2 (SqT.of e1) rfl ?_⟩;intro d nd;have s0:Same H (upd H d (.dK [])):=jQ _ nd;have e0:(upd H d (.dK [])) d=some (.dK []):=jE;generalize upd H d (.dK [])=H0 at s0 e0;refine⟨_,rfl,q,rfl,⟨_,SqT.of (s0 _ _ e2)⟩,AK (K:=K) (a:=q) (xs:=xs) (SlI K H p1 q d l aa P1) (.mk (ah:=[]) s0 e0 .nil) (λi σ H2 _ h=>?_) (λi x σ H2 hx h=>?_) (fun σ H2 h=>?_)⟩
  ·obtain⟨s2,_,_⟩:=h;exact SqT.of (s2 _ _ e2)
  ·obtain⟨s2,ed,pr2⟩:=h;rename_i ah;obtain⟨y,hy,r,b,c,rfl,r1,r2,r3⟩:=Paired.at pr hx;have ym:=gQ hy;have ly:=o1.len y ym;refine gT2 (SqT.of (s2 _ _ r1)) rfl ?_;refine⟨_,rfl,_,rfl,b,_,_,_,rfl,rfl,SqT.of (s2 _ _ r2),qO (by rw[mG,qN (show l<y.1.length by omega)];rfl), ?_⟩;dsimp only[jV];have st:=QE o1 hl hy;refine⟨_,rfl,_,_,rfl,rfl,_,rfl, ?_⟩;refine wU (λc0=>?_) (λc0=>?_)
   ·have c0:0<y.1.getD l 0:=mK c0;have ky:=uD o1 ym hl c0;rw[tU c0]at st;have s20:=fun {a:Addr} {o:HO} (h:H a=some o)=>s2 _ _ h;refine⟨_,rfl,_,rfl,_,rfl,b,_,rfl,s20 r2,λt1 H3 s3 e3=>⟨_,rfl,_,_,rfl,rfl,uZ,λt2 H4 n4 s4 e4=>?_⟩⟩;have lc:(xK (y.1.map V.int) none (some (l:Int))).length<=4:=by
     have:=congrArg List.length (BL (ns:=y.1) (l:=l) #[1]);rw[hJ,hJ,mY,ky.1]at this;have:=o1.m4;omega
    have ld:(xK (y.1.map V.int) (some ((l:Int)+1)) none).length<=4:=by
     have:=congrArg List.length (BL (ns:=y.1) (l:=l) #[1]);rw[hJ,hJ,mY,ky.1]at this;have:=o1.m4;omega
    refine⟨t1,t2,_,_,rfl,rfl,s4 _ _ e3,e4,by rw[sizeLine_eq];show _+1<=_;omega,λt3 H5 s5 e5=>?_⟩;have s25:=s3.trans (s4.trans s5);refine⟨_,rfl,_,rfl,_,_,rfl,rfl,_,rfl,b,_,rfl,s25 _ _ (s20 r2),λt4 H6 s6 e6=>?_⟩;refine⟨t3,t4,_,_,rfl,rfl,s6 _ _ e5,e6,by rw[sizeLine_eq,hJ];show _+1+_<=_;omega,λt5 H7 s7 e7=>?_⟩;rw[BL #[1]]at e7;have s27:=s25.trans (s6.trans s7);dsimp only[jV];refine⟨_,rfl,_,rfl,gA,λt6 H8 n8 s8 e8=>?_⟩;obtain⟨pc,epc,hc⟩:=r3;cases epc;have pw:(y.1.getD l 0).natAbs<2^10:=by
     have m0:y.1.getD l 0∈y.1:=gQ (qN (show l<y.1.length by omega));have:=(qM (o1.nn y ym) m0).1;have:=o1.deg y ym;have:(2:Nat)^10=1024:=rfl;omega
    refine⟨c,t6,_,_,_,_,rfl,SqT.of ((s2.trans (s27.trans s8)) _ _ hc),IE (SqT.of e8),(z1 y ym).fr uX,(JO (n:=7900) (jT pw #[0]) #[0]).fr uX,λr9 H9 n9 s9 e9=>?_⟩;have e9:=RJ e9;have s29:=s27.trans (s8.trans s9);have ed9:=s29 _ _ ed;have lk:ah.length=(slT (P1.take i) l).length:=Paired.length pr2;have lS:=NN (P1.take i) l;rw[mP]at lS;have fw:=o1.few;refine⟨_,rfl,_,rfl,t5,_,rfl,SqT.of ((s8.trans s9) _ _ e7),vL ky.2.1 ky.2.2,by rw[ky.1];exact o1.m4,d,_,rfl,DPut.k (k:=.inl (pk (yC y.1 l))) ed9 (by rw[lk,sizeLine_eq];omega), ?_⟩;refine .mk (kA (s2.trans s29) nd) jE ?_;rw[st];exact Paired.to (λ_ _ h=>h.upd ed9) (AN (Paired.to (λ_ _ h=>h.same s29) pr2) (NumH.of e9))
   ·rw[tT (λz=>c0 (nG z))]at st;exact .mk s2 ed (by rw[st];exact pr2)
  ·obtain⟨s2,ed,pr2⟩:=h;rw[lx,mR]at pr2;have nd2:=QF o1 hl P1.length uX ;rw[mR]at nd2;refine⟨_,rfl,_,rfl,d,aa,_,_,rfl,.inl ed,pr2,nd2,nW (NN _ _) o1.few,λk hk=>?_,o1.m1,o1.m4,λp PP H5 n5 s5 SQ ST=>go p PP H5 (s2.free n5) (s2.trans s5) SQ ST⟩;obtain⟨x,hx,hp,rfl⟩:=IJ o1 (λ_ h=>h) hl hk;have ky:=uD o1 hx hl hp;exact⟨_,ky.1,ky.2.1,ky.2.2,rfl⟩
end Lw
namespace Lw
open PySem PySem.Spec PyProof.Rows L2 LwQ
def lvS(b:Int)(r:Rat):Int:=b*yG (r.den:Int) b
def lvD(rs:List Rat):Int:=rs.foldl lvS 1
theorem RS{b:Int}(hb:0<b)(r:Rat):0<lvS b r:=by
 unfold lvS;rw[vK hb];have g:=LwM.vF (r.den:Int) b hb;have d:=r.den_pos;have:0<(r.den:Int)/(Int.gcd (r.den:Int) b:Int):=by
  have h1:(Int.gcd (r.den:Int) b:Int)∣(r.den:Int):=mV ..;obtain⟨k,hk⟩:=h1;generalize (Int.gcd (r.den:Int) b:Int)=G at *;rw[hk,Int.mul_ediv_cancel_left _ #[1]];by_cases z:0<k
  ·exact z
  ·have:G*k<=0:=Int.mul_nonpos_of_nonneg_of_nonpos #[1] #[1];omega
 exact tM hb this
theorem lvS_dvd{b:Int}(hb:0<b)(r:Rat):b∣lvS b r/\(r.den:Int)∣lvS b r:=by
 unfold lvS;refine⟨Int.dvd_mul_right .., ?_⟩;rw[vK hb];have g:=LwM.vF (r.den:Int) b hb;obtain⟨k,hk⟩:(Int.gcd (r.den:Int) b:Int)∣(r.den:Int):=mV ..;obtain⟨m,hm⟩:(Int.gcd (r.den:Int) b:Int)∣b:=mN ..;generalize (Int.gcd (r.den:Int) b:Int)=G at *;refine⟨m, ?_⟩;have:(r.den:Int)/G=k:=by rw[hk,Int.mul_ediv_cancel_left _ #[1]]
 rw[this,hk]
 conv=>lhs;rw[hm]
 grind
theorem lvF:∀(rs:List Rat) (b:Int),0<b->0<rs.foldl lvS b/\b∣rs.foldl lvS b/\∀r∈rs,(r.den:Int)∣rs.foldl lvS b
 | [],b,h=>⟨h,Int.dvd_refl _,λ_ z=>nomatch z⟩
 | r::rs,b,h=>by
  obtain⟨h1,h2,h3⟩:=lvF rs (lvS b r) (RS h r);have d:=lvS_dvd h r;refine⟨h1,Int.dvd_trans d.1 h2,λq hq=>?_⟩;rcases nP.mp hq with rfl | hq
  ·exact Int.dvd_trans d.2 h2
  ·exact h3 q hq
theorem JG(rs:List Rat):0<lvD rs:=(lvF rs 1 #[0]).1
theorem lvD_dvd{rs:List Rat}{r:Rat}(h:r∈rs):(r.den:Int)∣lvD rs:=(lvF rs 1 #[0]).2.2 r h
theorem lvS_of{b D:Int}(hb:0<b){r:Rat}(h:b∣D)(k:(r.den:Int)∣D):lvS b r∣D:=by
 unfold lvS;rw[vK hb];have g:=LwM.vF (r.den:Int) b hb;have lg:=RU (n:=(r.den:Int)) hb;rw[vK hb,yB hb]at lg;obtain⟨y,hy⟩:(Int.gcd (r.den:Int) b:Int)∣(r.den:Int):=mV ..;obtain⟨m,hm⟩:(Int.gcd (r.den:Int) b:Int)∣b:=mN ..;generalize (Int.gcd (r.den:Int) b:Int)=G at *;have e1:(r.den:Int)/G=y:=by rw[hy,Int.mul_ediv_cancel_left _ #[1]]
 have e2:b/G=m:=by rw[hm,Int.mul_ediv_cancel_left _ #[1]]
 rw[e1,e2]at lg;rw[e1];obtain⟨x,hx⟩:=h;obtain⟨z,hz⟩:=k;have:y∣m*x:=⟨z,by
  have:G*(m*x)=G*(y*z):=by rw[<-nS,<-hm,<-hx,hz,hy,nS]
  exact Int.eq_of_mul_eq_mul_left #[1] this⟩
 have:y∣x:=CT (by rw[Int.gcd_comm];exact lg) this;obtain⟨q,hq⟩:=this;exact⟨q,by rw[hx,hq,nS]⟩
theorem lvF_of{D:Int} :∀(rs:List Rat) (b:Int),0<b->b∣D->(∀r∈rs,(r.den:Int)∣D)->rs.foldl lvS b∣D
 | [],_,_,h,_=>h
 | r::rs,b,h0,h,k=>lvF_of rs (lvS b r) (RS h0 r) (lvS_of h0 h (k r (mD ..))) λq hq=>k q (gS _ hq)
theorem lvD_of{D:Int}{rs:List Rat}(k:∀r∈rs,(r.den:Int)∣D):lvD rs∣D:=lvF_of rs 1 #[0] ⟨D,by omega⟩ k
theorem AR{a D:Int}(h:a∣D)(h0:0<D):a.natAbs<=D.natAbs:=Nat.le_of_dvd #[1] (Int.natAbs_dvd_natAbs.mpr h)
theorem lvD_snoc(rs:List Rat)(r:Rat):lvD (rs++[r])=lvS (lvD rs) r:=by
 unfold lvD;rw[mM]
 rfl
theorem lv_val{rs:List Rat}{r:Rat}(h:r∈rs):((r.num*(lvD rs/(r.den:Int)):Int):Rat)=r*(lvD rs:Rat):=by
 obtain⟨k,hk⟩:=lvD_dvd h;have d:=r.den_pos;rw[hk,Int.mul_ediv_cancel_left _ #[1],nF,nF];have h1:=vV r;unfold fv at h1;have h2:((r.den:Int):Rat)≠0:=cne #[1];generalize ((r.den:Int):Rat)=D at *;generalize (r.num:Rat)=N at *;rw[<-h1]
 grind
theorem fr_one{t:Int}{n:Nat}(h:t.natAbs<2^n)(hn:0<n):FrOk n t 1:=⟨by decide,by simp,h,by
 show 1<2^n;exact Nat.one_lt_two_pow #[1]⟩
open LwV
theorem keep3 :Keep (none::none::none::r) (x::y::z::r):=λi v h=>by
 match i,h with
 | i+3,h=>exact h
def EntR(C:Int)(H:Hp)(kv:Key×V)(e:Int×Rat):Prop:=kv.1=.inl e.1/\∃c,kv.2=.ref c/\H c=some (.tup [.int (e.2.num*(C/(e.2.den:Int))),.int C])
theorem EntQ.but{K:tV}{H H':Hp}{p:Addr}{ah:List (Key×V)}{kv:Key×V}{x:Int×Rat}(h:EntQ K H kv x)(e:Rd H p (.dK ah))(b:But p H H'):EntQ K H' kv x:=let ⟨z1,pz,z2,z3⟩:=h;⟨z1,pz,z2,b _ _ z3 λy=>by rcases e with e | ⟨o,e⟩<;>rw[<-y,z3]at e<;>cases e⟩
theorem EntR.same{C:Int}{e:Int×Rat}(h:EntR C H kv e)(s:Same H H'):EntR C H' kv e:=let ⟨h1,c,h2,h3⟩:=h;⟨h1,c,h2,s _ _ h3⟩
theorem EntR.upd{C:Int}(e:H p=some (.dK ah)){x:Int×Rat}(h:EntR C H kv x):EntR C (upd H p o) kv x:=let ⟨h1,c,h2,h3⟩:=h;⟨h1,c,h2,by rw[jI λz=>by rw[z,e]at h3;cases h3];exact h3⟩
theorem LE{l:List (Key×V)}{k:Key}{v:V}(h:∀p∈l,p.1≠k):qD l k v=l++[(k,v)]:=by
 unfold qD;rw[tT];intro z;obtain⟨p,hp,e⟩:=List.any_eq_true.mp z;exact h p hp (mK e)
def kO(T:Tb):Int:=lvD (T.map (·.2))
def spLev(K:tV):Sp:=λvs H Q _=>∃(a:Addr) (ah:List (Key×V)) (T:Tb) (D:Int),vs=[.ref a]/\Rd H a (.dK ah)/\Paired (EntQ K H) ah T/\(T.map (·.1)).Nodup/\T.length<=1000/\0<D/\D.natAbs<2^1400/\(∀e∈T,(e.2.den:Int)∣D)/\(∀e∈T,e.2.num.natAbs<2^3000)/\
 ∀(d:Addr) (ks:List (Key×V)) (H':Hp),H d=none->But a H H'->(∃o,H' a=some (.frz o (.dK ah)))->H' d=some (.dK ks)->Paired (EntR (kO T) H') ks T->Q (.ref d) H'
inductive LvI(H:Hp)(a:Addr)(T:Tb)(i:Nat):L2.St->Hp->Prop where
 | mk {u v:Option V} {H':Hp} (s:Same H H'):LvI H a T i [some (.ref a),some (.int (kO (T.take i))),u,v] H'
structure LvC(C:Int)(H1:Hp)(d:Addr)(T:Tb)(i:Nat)(ys:List (Key×V))(H2:Hp):Prop where
 s:Same H1 H2
 e:H2 d=some (.dK ys)
 pr:Paired (EntR C H2) ys (T.take i)
theorem OM{D:Int}(h:∀e∈T,(e.2.den:Int)∣D):kO T∣D:=lvD_of λr hr=>by obtain⟨e,he,rfl⟩:=nY.mp hr;exact h e he
variable{P:Program}{w:World}{K:tV}{mg:Str->Option Value}{base:Heap}{f fd:_}
theorem scLv:FnScope ["table","common","top","bottom"] ["table"] (jJ QO):=scK #[3]
theorem ok_lev(F:Fun K "levelled" "levelled" QO f fd)(T:Txt mg)(GD:DG P w K mg base 3 "divided" YA ["one","other"] (NJ K)):FnOk P w K mg base CX0 4 f fd ["table"] (spLev K):=by
 obtain⟨ts,hS⟩:=T.short;refine F.ok scLv #[8] #[2]
 ·obtain⟨a,ah,TT,D,rfl,_⟩:=h
  rfl
 ·obtain⟨a,ah,TT,D,rfl,ha,pr,nd,lT,D0,D1,dv,nb,go⟩:=h;refine⟨_,jC (jN (i:=1) scLv.nd rfl (Or.inr rfl) jD) (jC (kZ PassesOwn.never rfl (pi_vals (CM (pv 0))) (kD rfl (jH (jG (i:=2) scLv.nd rfl #[5]) (jH (jG (i:=3) scLv.nd rfl #[5]) jY))) (jC (jN (i:=1) scLv.nd rfl (Or.inr rfl) (jM qA (pv 1) (jU jX (cal GD hr (jA (kC (jA (pv 3) (jA jD jB))) (jA (kC (jA (pv 1) (jA jD jB))) jB))) jD (λ_ _=>rfl)))) (jF (kE (jO yT (YU PySem.F.plainAttrs_int slot_int_bit_length type_int_bit_length RM (pv 1)) (kT (v:=.int 1500) (by rfl) hS ⟨_,rfl⟩) (jS _)) (jF (kP)) jR)))) (jF (jP (BK (own:=3) (idx:=[1]) (N:=["key","top","bottom","common"]) rfl rfl rfl #[3] #[3] (zQ (by intro y hy;simp only[nP,mQ,or_false]at hy;rcases hy with rfl;rfl)) (qU rfl) rfl (yL rfl ⟨rfl,rfl,rfl,rfl⟩) (xZ (pv 0)) (λC fp s2 H2=>show PG (jK _ ["key","top","bottom","common"] _ _ C fp s2 H2) _ (AJ K 2 (qS (jV 0) (qS (AJ K 2 (qS (jV 1) (qS (jV 2) gNil))) gNil)))from kD (X:=jK _ ["key","top","bottom","common"] _ _ C fp s2 H2) rfl (jH (jG (i:=0) (show List.Nodup (["key","top","bottom","common"]:List Str) by decide +kernel) rfl #[5] (Or.inr rfl)) (jH (kD (X:=jK _ ["key","top","bottom","common"] _ _ C fp s2 H2) rfl (jH (jG (i:=1) (show List.Nodup (["key","top","bottom","common"]:List Str) by decide +kernel) rfl #[5] (Or.inr rfl)) (jH (jG (i:=2) (show List.Nodup (["key","top","bottom","common"]:List Str) by decide +kernel) rfl #[5] (Or.inr rfl)) jY))) jY))) (λC fp s2 H2=>pv 0) (λC fp s2 H2=>kC (jA (jM qA (pv 1) (jM LwD.AE (pv 3) (pv 2))) (jA (pv 3) jB))))))), ?_⟩
  try dsimp only[cxK]
  have lk:ah.length=TT.length:=Paired.length pr;refine⟨_,rfl,a,ah,rfl,ha,λo H1 e1 b1 fr1=>⟨a,o,ah,rfl,e1, ?_⟩⟩;have p1:Paired (EntQ K H1) ah TT:=Paired.to (λ_ _ h=>h.but ha b1) pr;have cD:∀i,(kO (TT.take i)).natAbs<2^1400/\0<kO (TT.take i):=λi=>⟨gZ (AR (OM λe he=>dv e (gX he)) D0) D1,JG _⟩;refine for_vals (LvI H1 a TT) (.mk (Same.refl _)) (λi σ H2 _ h=>?_) (λi k x σ H2 hx h=>?_) (fun σ H2 h=>?_)
  ·obtain⟨s2⟩:=h;exact s2 _ _ e1
  ·obtain⟨s2⟩:=h;obtain⟨e,he,_,px,rfl,sx⟩:=Paired.at p1 hx;have em:=gQ he;have ci:=cD i;have dn:((e.2.den:Int)).natAbs<2^1400:=gZ (AR (dv e em) D0) D1;have dp:=e.2.den_pos;refine gT2 (SqT.of (s2 _ _ sx)) rfl ?_;refine⟨_,rfl,_,rfl,gA,λz1 H3 n3 s3 e3=>⟨_,rfl,gA,λy1 H4 n4 s4 e4=>?_⟩⟩;refine⟨z1,y1,(e.2.den:Int),1,kO (TT.take i),1,rfl,SqT.of (s4 _ _ e3),SqT.of e4,fr_one (jT dn #[0]) #[0],fr_one (jT ci.1 #[0]) #[0],by have:=ci.2;omega,λq5 H5 n5 s5 e5=>?_⟩;rw[Int.mul_one,Int.one_mul]at e5;have lt:=lowT_le (n:=(e.2.den:Int)) ci.2;refine⟨q5,_,_,_,rfl,rfl,SqT.of e5,rfl,_,_,rfl,rfl,⟨jT ci.1 #[0],gZ lt (jT dn #[0])⟩, ?_⟩;have cs:kO (TT.take i)*yG (e.2.den:Int) (kO (TT.take i))=kO (TT.take (i+1)):=by
    unfold kO;rw[mI,he,mZ];exact(lvD_snoc _ _).symm
   dsimp only[jV];rw[cs];have cn:=cD (i+1);have hb:(Builtin.Int.intBits (kO (TT.take (i+1))))<=1400:=PySem.intBits_le_iff.mpr cn.1;refine⟨_,rfl,rfl,_,rfl,rfl,_,_,rfl,rfl,_,rfl,qT (nC #[1]) ?_⟩;exact .mk (s2.trans (s3.trans (s4.trans s5)))
  ·obtain⟨s2⟩:=h;rw[lk,mR];have cf':=cD TT.length;rw[mR]at cf';refine⟨_,rfl,a,o,ah,rfl,s2 _ _ e1,λd H3 n3 s3 e3=>?_⟩;refine zJ (LvC (kO TT) H2 d TT) (by rw[lk,sizeLine_eq];omega) ⟨s3,e3,.nil⟩ (λi ys H4 h=>⟨(s2.trans h.s) _ _ e1,h.e, ?_⟩) ?_ ?_
   ·have:=Paired.length h.pr;rw[this,mP];omega
   ·intro i m ys k x c H4 hx hm h hc;obtain⟨e,he,hk,px,rfl,sx⟩:=Paired.at p1 hx;have hk:k=.inl e.1:=hk;subst hk;have em:=gQ he;have s5:Same H4 (upd H4 c (.tup [kV (.inl e.1),.ref px])):=jQ _ hc;have e5:(upd H4 c (.tup [kV (.inl e.1),.ref px])) c=some (.tup [kV (.inl e.1),.ref px]):=jE;generalize upd H4 c (.tup [kV (.inl e.1),.ref px])=H5 at s5 e5;have dn:((e.2.den:Int)).natAbs<2^1400:=gZ (AR (dv e em) D0) D1;have dp:=e.2.den_pos;have qb:(kO TT/(e.2.den:Int)).natAbs<2^1400:=gZ (LwM.AQ _ _ #[1]) cf'.1;refine⟨c,_,rfl,SqT.of e5,rfl,_,_,rfl,_,_,rfl,px,_,rfl,SqT.of ((s2.trans (h.s.trans s5)) _ _ sx),rfl,_,_,rfl,_,_,rfl,rfl,rfl,keep3,_,rfl,_,rfl,_,rfl,_,rfl,_,_,rfl,rfl,LwD.zK (m:=1400) #[1] #[0] cf'.1,_,_,rfl,rfl,⟨jT (nb e em) #[0],jT qb #[0]⟩,_,rfl,gA,λt H6 n6 s6 e6=>?_⟩;have ed6:=(s5.trans s6) _ _ h.e;refine⟨.inl e.1,rfl,ed6,CS hx hm ⟨kA (h.s.trans (s5.trans s6)) n3,jE, ?_⟩⟩;have out:∀p∈ys,p.1≠(.inl e.1:Key):=λp hp z=>by
     obtain⟨j,hj⟩:=gP.mp hp;obtain⟨e',he',q1,_⟩:=Paired.at h.pr hj;rw[z]at q1;exact zY he nd (by rw[Sum.inl.inj q1];exact List.mem_map_of_mem (gQ he'))
    rw[LE out,mI,he];exact Paired.app (Paired.to (λ_ _ k=>(k.same (s5.trans s6)).upd ed6) h.pr) (.cons (EntR.upd ed6 ⟨rfl,t,rfl,e6⟩) .nil)
   ·intro ys H4 h;have pr4:=h.pr;rw[lk,mR]at pr4;refine go d ys H4 (fr1 d (s2.free n3)) (λc u hc n=>(s2.trans h.s) _ _ (b1 c u hc n)) ⟨o,(s2.trans h.s) _ _ e1⟩ h.e pr4
theorem frac_sz{n M:Int}(M0:0<M)(Mb:M.natAbs<2^7800)(nb:n.natAbs<2^7800):SzR 7900 ((n:Rat)/(M:Rat)):=by
 have o:Ov 1 7800 ((n:Int):Rat):=⟨n,by unfold fv;rw[tN,show((1:Int):Rat)=1 from rfl];grind,tH nb⟩;have o:=o.div #[0] (show M≠0 by omega);rw[Int.one_mul]at o;exact o.sz #[1] (d:=7800) (by rw[mC];exact tH Mb) #[0] #[0]
def XQ(K:tV):Sp:=λvs H Q _=>∃(a:Addr) (M n:Int),vs=[.ref a]/\H a=some (.dK [(.inl M,.int n)])/\0<M/\M.natAbs<2^7800/\n.natAbs<2^7800/\
 ∀(v:V) (H':Hp),But a H H'->NumH H' v ((n:Rat)/(M:Rat))->Q v H'
inductive HtI(K:tV)(H:Hp)(a:Addr)(M n:Int)(i:Nat):L2.St->Hp->Prop where
 | mk {v:V} {u2 u3:Option V} {H':Hp} (s:Same H H') (h:if i=0 then NumK K H' v 0 else NumH H' v ((n:Rat)/(M:Rat))):HtI K H a M n i [some (.ref a),some v,u2,u3] H'
theorem scHt:FnScope ["heap","total","bottom","top"] ["heap"] (jJ IN):=scK #[3]
theorem ok_heap(F:Fun K "heap_total" "heap_total" IN f fd)(N:Ngt K mg)(GA:DG P w K mg base 2 "added" EB ["one","other"] (BB K))(GD:DG P w K mg base 3 "divided" YA ["one","other"] (NJ K)):FnOk P w K mg base CX0 4 f fd ["heap"] (XQ K):=by
 obtain⟨na,hN,hna⟩:=N;refine F.ok scHt #[8] #[2]
 ·obtain⟨a,M,n,rfl,_⟩:=h
  rfl
 ·obtain⟨a,M,n,rfl,ha,M0,Mb,nb,go⟩:=h;have hr2:Room 2 _:=hr.mono #[0];refine⟨_,jC (jN (i:=1) scHt.nd rfl #[5] (kT (v:=.ref na) (by rfl) hN rfl)) (jC (kZ PassesOwn.never rfl (xZ (IU (pv 0))) (kD rfl (jH (jG (i:=2) scHt.nd rfl #[5]) (jH (jG (i:=3) scHt.nd rfl #[5]) jY))) (jF (jN (i:=1) scHt.nd rfl #[5] (cal GA hr2 (jA (pv 1) (jA (cal GD hr (jA (kC (jA (pv 3) (jA jD jB))) (jA (kC (jA (pv 2) (jA jD jB))) jB))) jB)))))) (jF (jP (pv 1)))), ?_⟩;try dsimp only[cxK]
  refine⟨_,rfl,a,_,rfl,ha,λo=>⟨a,o,_,rfl,jE, ?_⟩⟩;have b1:But a H (upd H a (.frz o (.dK [(.inl M,.int n)]))):=λc u h n=>by rw[jI n];exact h
  have e1:(upd H a (.frz o (.dK [((.inl M:Key),V.int n)]))) a=some (.frz o (.dK [(.inl M,.int n)])):=jE;generalize upd H a (.frz o (.dK [((.inl M:Key),V.int n)]))=H1 at b1 e1;refine wQ (HtI K H1 a M n) (.mk (Same.refl _) (by rw[tU rfl];exact CY (hna H1))) (λi σ H2 _ h=>?_) (λi k x p σ H2 hx hp h=>?_) (fun σ H2 h=>?_)
  ·obtain⟨s2,_⟩:=h;exact s2 _ _ e1
  ·obtain⟨s2,hn⟩:=h
   match i,hx,hn with
   | 0,hx,hn=>
    rw[tU rfl]at hn;cases hx;have s3:Same H2 (upd H2 p (.tup [kV (.inl M),.int n])):=jQ _ hp;have e3:(upd H2 p (.tup [kV (.inl M),.int n])) p=some (.tup [kV (.inl M),.int n]):=jE;generalize upd H2 p (.tup [kV (.inl M),.int n])=H3 at s3 e3;refine gT2 (SqT.of e3) rfl ?_;obtain⟨pt,rfl,qt⟩:=hn.same s3;have hM:((M:Int):Rat)≠0:=λz=>by
     have:M=0:=Rat.intCast_inj.mp (by rw[z];rfl);omega
    refine⟨_,rfl,_,rfl,gA,λz1 H4 n4 s4 e4=>⟨_,rfl,gA,λy1 H5 n5 s5 e5=>?_⟩⟩;refine⟨z1,y1,_,_,_,_,rfl,IE (SqT.of (s5 _ _ e4)),IE (SqT.of e5),(JO (jT nb #[0]) #[0]).fr uX,(JO (jT Mb #[0]) #[0]).fr uX,ZY hM,λr6 H6 n6 s6 e6=>?_⟩;have e6:=divAt hM e6;have sz6:=frac_sz M0 Mb nb;refine⟨pt,r6,_,_,_,_,rfl,vJ (s4.trans (s5.trans s6)) qt,SqT.of e6,(PQ 7899).fr uX,sz6.fr uX,λr7 H7 n7 s7 e7=>?_⟩;have e7:=TR e7;refine .mk (s2.trans (s3.trans (s4.trans (s5.trans (s6.trans s7))))) ?_;rw[tT #[1]];have:=NumH.of e7;rw[nZ]at this;exact this
   | i+1,hx,_=>simp at hx
  ·obtain⟨s2,hn⟩:=h;exact⟨_,rfl,go _ H2 (λc u h n=>s2 _ _ (b1 c u h n)) hn⟩
def AG(e1:Int×Rat)(A:Tb)(e2:Int×Rat):Tb:=xO A (e1.1+e2.1) (tv A (e1.1+e2.1)+e1.2*e2.2)
def LW(T2:Tb)(A:Tb)(e1:Int×Rat):Tb:=T2.foldl (AG e1) A
def vH(T1 T2:Tb):Tb:=T1.foldl (LW T2) []
theorem BO{α β:Type}{f:β->α->β}{l:List α}{i:Nat}{x:α}{b:β}(h:l[i]? = some x):(l.take (i+1)).foldl f b=f ((l.take i).foldl f b) x:=by
 rw[mI,h,mM]
 rfl
theorem EJ{α β γ:Type}{F:α->β->Prop}{G:α->γ->Prop}{g:β->γ} :∀{l1:List α} {l2:List β},Paired F l1 l2->(∀(i:Nat) (a:α) (b:β),l1[i]? = some a->l2[i]? = some b->F a b->G a (g b))->Paired G l1 (l2.map g)
 | _,_,.nil,_=>.nil
 | _,_,.cons h t,k=>.cons (k 0 _ _ rfl rfl h) (EJ t λi a b h1 h2=>k (i+1) a b h1 h2)
def EntH(M:Int)(B:Nat)(Hs H:Hp)(hd:Addr)(kv:Key×V)(e:Int×Rat):Prop:=kv.1=.inl e.1/\∃(c:Addr) (n:Int),kv.2=.ref c/\Hs c=none/\c≠hd/\H c=some (.dK [(.inl M,.int n)])/\((n:Int):Rat)=e.2*(M:Rat)/\n.natAbs<=B*2^7600
theorem EntH.go{M:Int}{B B':Nat}{kv:Key×V}{e:Int×Rat}(h:EntH M B Hs H hd kv e)(k:∀c,kv.2=.ref c->Hs c=none->c≠hd->∀o,H c=some o->H' c=some o)(hB:B<=B'):EntH M B' Hs H' hd kv e:=by
 obtain⟨h1,c,n,h2,h3,h4,h5,h6,h7⟩:=h;exact⟨h1,c,n,h2,h3,h4,k c h2 h3 h4 _ h5,h6,nW h7 (gW _ hB)⟩
structure HpI(M:Int)(B:Nat)(Hs H:Hp)(hd:Addr)(hs:List (Key×V))(A:Tb):Prop where
 e:H hd=some (.dK hs)
 pr:Paired (EntH M B Hs H hd) hs A
 nd:(hs.map (·.2)).Nodup
 ndA:(A.map (·.1)).Nodup
 ln:A.length<=B
theorem HpI.go{M:Int}{B:Nat}(I:HpI M B Hs H hd hs A)(e:H' hd=some (.dK hs))(k:∀c,Hs c=none->c≠hd->∀o,H c=some o->H' c=some o):HpI M B Hs H' hd hs A:=⟨e,Paired.to (λ_ _ h=>h.go (λc _ h1 h2=>k c h1 h2) uX) I.pr,I.nd,I.ndA,I.ln⟩
theorem FA{M:Int}{B:Nat}{k:Int} :∀{hs:List (Key×V)} {A:Tb},Paired (EntH M B Hs H hd) hs A->(∃(i:Nat) (c:Addr) (n:Int),hs[i]? = some (.inl k,.ref c)/\A[i]? = some (k,tv A k)/\kK hs (.inl k:Key)=some (.ref c)/\Hs c=none/\c≠hd/\H c=some (.dK [(.inl M,.int n)])/\((n:Int):Rat)=tv A k*(M:Rat)/\n.natAbs<=B*2^7600)∨(kK hs (.inl k:Key)=none/\k∉A.map (·.1)/\∀p∈hs,p.1≠(.inl k:Key))
 | [],[],.nil=>.inr ⟨rfl,by simp,λ_ h=>nomatch h⟩
 | kv::hs,e::A,.cons h t=>by
  rw[kS];by_cases q:e.1=k
  ·obtain⟨h1,c,n,h2,h3,h4,h5,h6,h7⟩:=h;obtain⟨k1,v1⟩:=kv;obtain⟨e1,x1⟩:=e;have h1:k1=.inl e1:=h1;have h2:v1=.ref c:=h2;have q:e1=k:=q;subst h1 h2 q;rw[tU rfl,qH rfl];exact .inl ⟨0,c,n,rfl,rfl,rfl,h3,h4,h5,h6,h7⟩
  ·have n:kv.1≠(.inl k:Key):=λz=>q (by rw[h.1]at z;exact Sum.inl.inj z);have e1:kK (kv::hs) (.inl k:Key)=kK hs (.inl k:Key):=by unfold kK;rw[List.find?_cons,nC n]
   rw[tT q,e1];rcases FA t with⟨i,c,m,z1,z2,z3⟩ | ⟨z1,z2,z3⟩
   ·exact .inl ⟨i+1,c,m,z1,z2,z3⟩
   ·exact .inr ⟨z1,λz=>by rcases nP.mp z with z | z;exact q z.symm;exact z2 z,λp hp=>by rcases nP.mp hp with rfl | hp;exact n;exact z3 p hp⟩
theorem get_one{M n:Int} :kK [((.inl M:Key),V.int n)] (.inl M)=some (.int n):=qH rfl
theorem put_one{M n m:Int} :qD [((.inl M:Key),V.int n)] (.inl M) (.int m)=[(.inl M,.int m)]:=by
 unfold qD;simp
theorem put_nil{M m:Int} :qD ([]:List (Key×V)) (.inl M) (.int m)=[(.inl M,.int m)]:=rfl
theorem HpI.there{M:Int}{B:Nat}{k n m:Int}{y:Rat}{i:Nat}(I:HpI M B Hs H4 hd hs A)(hi:hs[i]? = some (.inl k,.ref c))(ai:A[i]? = some (k,tv A k))(fc:Hs c=none)(ch:c≠hd)(en:((n:Int):Rat)=tv A k*(M:Rat))(bn:n.natAbs<=B*2^7600)(em:((m:Int):Rat)=y*(M:Rat))(bm:m.natAbs<=2^7600):HpI M (B+1) Hs (upd H4 c (.dK [(.inl M,.int (n+m))])) hd hs (xO A k (tv A k+y)):=by
 have km:k∈A.map (·.1):=by
  have:=List.mem_map_of_mem (f:=(·.1)) (gQ ai);exact this
 have pq:xO A k (tv A k+y)=A.map λe=>if e.1=k then(e.1,tv A k+y)else e:=by unfold xO;rw[tU (any_key.mpr km)]
 refine⟨by rw[jI (Ne.symm ch)];exact I.e, ?_,I.nd,xS I.ndA, ?_⟩
 ·rw[pq];refine EJ I.pr λj a b ha hb h=>?_;by_cases q:b.1=k
  ·have j1:(A.map (·.1))[j]? = some k:=by rw[mG,hb];exact congrArg some q
   have j2:(A.map (·.1))[i]? = some k:=by rw[mG,ai];rfl
   have ij:j=i:=(List.getElem?_inj (gE.mp j1).1 I.ndA).mp (j1.trans j2.symm);subst ij;rw[hi]at ha;cases ha;rw[tU q];refine⟨by rw[q],c,n+m,rfl,fc,ch,jE, ?_, ?_⟩
   ·show((n+m:Int):Rat)=(tv A k+y)*(M:Rat);rw[Rat.intCast_add,en,em]
    grind
   ·have:=Int.natAbs_add_le n m;rw[Nat.add_mul,Nat.one_mul];omega
  ·rw[tT q];refine h.go (λc' hc' _ _ o ho=>?_) (Nat.le_succ _);have:c'≠c:=λz=>by
    subst z;have j1:(hs.map (·.2))[j]? = some (.ref c'):=by rw[mG,ha];exact congrArg some hc'
    have j2:(hs.map (·.2))[i]? = some (.ref c'):=by rw[mG,hi];rfl
    have ij:j=i:=(List.getElem?_inj (gE.mp j1).1 I.nd).mp (j1.trans j2.symm);subst ij;rw[ai]at hb;cases hb;exact q rfl
   rw[jI this];exact ho
 ·have:=congrArg List.length pq;rw[mY]at this;rw[this];exact nW I.ln (Nat.le_succ _)
theorem HpI.new{M:Int}{B:Nat}{A:Tb}{k m:Int}{y:Rat}(I:HpI M B Hs H4 hd hs A)(nk:k∉A.map (·.1))(fz:Hs z=none)(zh:z≠hd)(nz:∀p∈hs,p.2≠.ref z)(em:((m:Int):Rat)=y*(M:Rat))(bm:m.natAbs<=2^7600):HpI M (B+1) Hs (upd (upd H4 hd (.dK (hs++[(.inl k,.ref z)]))) z (.dK [(.inl M,.int m)])) hd (hs++[(.inl k,.ref z)]) (xO A k (tv A k+y)):=by
 rw[yS nk,qJ nk,nZ];refine⟨by rw[jI (Ne.symm zh)];exact jE,Paired.app ?_ (.cons ⟨rfl,z,m,rfl,fz,zh,jE,em, ?_⟩ .nil), ?_, ?_, ?_⟩
 ·have go:∀{l1:List (Key×V)} {l2:Tb},(∀p∈l1,p∈hs)->Paired (EntH M B Hs H4 hd) l1 l2->Paired (EntH M (B+1) Hs (upd (upd H4 hd (.dK (hs++[(.inl k,.ref z)]))) z (.dK [(.inl M,.int m)])) hd) l1 l2:=by
   intro l1 l2 sub h;induction h with
   | nil=>exact .nil
   | @cons a b _ _ h _ ih=>
    refine .cons (h.go (λc hc _ _ o ho=>?_) (Nat.le_succ _)) (ih λp hp=>sub p (gS _ hp));obtain⟨_,c',_,q1,_,q2,_⟩:=h;rw[hc]at q1;cases q1;rw[jI (λy=>nz a (sub a (mD ..)) (by rw[hc,y])),jI q2];exact ho
  exact go (λ_ h=>h) I.pr
 ·rw[Nat.add_mul,Nat.one_mul];omega
 ·rw[mZ,mL];refine⟨I.nd,by simp,λa ha b hb=>?_⟩;rw[nO,List.map_nil,mB]at hb;obtain⟨p,hp,rfl⟩:=nY.mp ha;rw[hb];exact nz p hp
 ·rw[mZ,mL];refine⟨I.ndA,by simp,λa ha b hb=>?_⟩;rw[nO,List.map_nil,mB]at hb;rintro rfl;rw[hb]at ha;exact nk ha
 ·rw[hJ];exact Nat.add_le_add_right I.ln 1
def DO(K:tV):Sp:=λvs H Q _=>∃(a b:Addr) (k1 k2:List (Key×V)) (T1 T2:Tb) (D1 D2:Int),vs=[.ref a,.ref b]/\a≠b/\Rd H a (.dK k1)/\Rd H b (.dK k2)/\Paired (EntQ K H) k1 T1/\Paired (EntQ K H) k2 T2/\(T1.map (·.1)).Nodup/\(T2.map (·.1)).Nodup/\T1.length<=60/\T2.length<=60/\T1.length*T2.length<=1000/\0<D1/\D1.natAbs<2^1400/\0<D2/\D2.natAbs<2^1400/\(∀e∈T1,(e.2.den:Int)∣D1)/\(∀e∈T2,(e.2.den:Int)∣D2)/\(∀e∈T1,e.2.num.natAbs<2^2400)/\(∀e∈T2,e.2.num.natAbs<2^2400)/\(∀e∈T1,e.1.natAbs<2^40)/\(∀e∈T2,e.1.natAbs<2^40)/\
 ∀(d:Addr) (ks:List (Key×V)) (H':Hp),H d=none->(∀c u,H c=some u->c≠a->c≠b->H' c=some u)->Rd H' b (.dK k2)->H' d=some (.dK ks)->Paired (EntQ K H') ks (vH T1 T2)->Q (.ref d) H'
theorem mul_over{e1 e2:Int×Rat}(h1:e1∈T1)(h2:e2∈T2):(((e1.2.num*(kO T1/(e1.2.den:Int)))*(e2.2.num*(kO T2/(e2.2.den:Int))):Int):Rat)=(e1.2*e2.2)*((kO T1*kO T2:Int):Rat):=by
 have a:=lv_val (List.mem_map_of_mem (f:=(·.2)) h1);have b:=lv_val (List.mem_map_of_mem (f:=(·.2)) h2);unfold kO;rw[nF,a,b,nF]
 grind
def B2(d1 d2:Addr)(H H':Hp):Prop:=∀c u,H c=some u->c≠d1->c≠d2->H' c=some u
theorem B2.tup(b:B2 d1 d2 H H')(e1:H d1=some (.dK j1))(e2:H d2=some (.dK j2))(h:H c=some (.tup xs)):H' c=some (.tup xs):=b c _ h (λz=>by rw[z,e1]at h;cases h) (λz=>by rw[z,e2]at h;cases h)
theorem EntR.but{C:Int}{x:Int×Rat}(h:EntR C H kv x)(e:Rd H p (.dK ah))(b:But p H H'):EntR C H' kv x:=by
 obtain⟨h1,c,h2,h3⟩:=h;refine⟨h1,c,h2,b _ _ h3 λz=>?_⟩;rw[z]at h3;rcases e with e | ⟨o,e⟩<;>rw[e]at h3<;>cases h3
structure FnI(K:tV)(M:Int)(B:Nat)(H H2:Hp)(a b d hd:Addr)(oh:Obj)(hs:List (Key×V))(A:Tb)(i:Nat)(ys:List (Key×V))(H':Hp):Prop where
 s:∀c u,H2 c=some u->c≠a->c≠b->H' c=some u
 f:H' hd=some (.frz oh (.dK hs))
 e:H' d=some (.dK ys)
 later:∀(j:Nat) (kv:Key×V) (x:Int×Rat),i<=j->hs[j]? = some kv->A[j]? = some x->EntH M B H2 H' hd kv x
 pr:Paired (EntQ K H') ys (A.take i)
theorem EL{α β:Type}{F:α->β->Prop}{l1:List α}{l2:List β}(h:Paired F l1 l2){i:Nat}{a:α}{b:β}(h1:l1[i]? = some a)(h2:l2[i]? = some b):F a b:=by
 obtain⟨y,hy,k⟩:=Paired.at h h1;rw[h2]at hy;cases hy;exact k
inductive M1I(H2:Hp)(a b d1 d2 hd:Addr)(o1:Obj)(j1 j2:List (Key×V))(M:Int)(T1 T2:Tb)(i:Nat):L2.St->Hp->Prop where
 | mk {u5 u6 u7 u8 u9 u10 u11 u12:Option V} {H':Hp} {hs:List (Key×V)} (s:B2 d1 d2 H2 H') (f1:H' d1=some (.frz o1 (.dK j1))) (r2:Rd H' d2 (.dK j2)) (I:HpI M (i*T2.length) H2 H' hd hs ((T1.take i).foldl (LW T2) [])):M1I H2 a b d1 d2 hd o1 j1 j2 M T1 T2 i [some (.ref a),some (.ref b),some (.ref d1),some (.ref d2),some (.ref hd),u5,u6,u7,u8,u9,u10,u11,u12] H'
inductive M2I(H2:Hp)(a b d1 d2 hd:Addr)(o1 o2:Obj)(j1 j2:List (Key×V))(M:Int)(i:Nat)(A:Tb)(T2:Tb)(e1:Int×Rat)(t1 C1:Int)(j:Nat):L2.St->Hp->Prop where
 | mk {u8 u9 u10 u11 u12:Option V} {H':Hp} {hs:List (Key×V)} (s:B2 d1 d2 H2 H') (f1:H' d1=some (.frz o1 (.dK j1))) (f2:H' d2=some (.frz o2 (.dK j2))) (I:HpI M (i*T2.length+j) H2 H' hd hs ((T2.take j).foldl (AG e1) A)):M2I H2 a b d1 d2 hd o1 o2 j1 j2 M i A T2 e1 t1 C1 j [some (.ref a),some (.ref b),some (.ref d1),some (.ref d2),some (.ref hd),some (.int e1.1),some (.int t1),some (.int C1),u8,u9,u10,u11,u12] H'
theorem scTm:FnScope ["one","other","first","second","heaps","key","top","bottom","more","over","under","heap","product"] ["one","other"] (jJ uQ):=scK #[3]
theorem UQ(F:Fun K "tables_multiplied" "tables_multiplied" uQ f fd)(GL:DG P w K mg base 4 "levelled" QO ["table"] (spLev K))(GH:DG P w K mg base 4 "heap_total" IN ["heap"] (XQ K)):FnOk P w K mg base CX0 5 f fd ["one","other"] (DO K):=by
 refine F.ok scTm #[8] #[2]
 ·obtain⟨a,b,k1,k2,T1,T2,D1,D2,rfl,_⟩:=h
  rfl
 ·obtain⟨a,b,k1,k2,T1,T2,D1,D2,rfl,ab,ra,rb,p1,p2,nd1,nd2,l1,l2,l12,D10,D1b,D20,D2b,v1,v2,b1,b2,y1,y2,go⟩:=h;have hu:_+1<cLine:=gZ (Nat.add_le_add_left (by decide:1<=64) _) hr.units;refine⟨_,jC (jN (i:=2) scTm.nd rfl #[5] (cal GL hr (jA (pv 0) jB))) (jC (jN (i:=3) scTm.nd rfl #[5] (cal GL hr (jA (pv 1) jB))) (jC (jN (i:=4) scTm.nd rfl #[5] (zU)) (jC (kZ PassesOwn.never rfl (xZ (CM (pv 2))) (kD rfl (jH (jG (i:=5) scTm.nd rfl #[5]) (jH (kD rfl (jH (jG (i:=6) scTm.nd rfl #[5]) (jH (jG (i:=7) scTm.nd rfl #[5]) jY))) jY))) (jF (kZ PassesOwn.never rfl (xZ (CM (pv 3))) (kD rfl (jH (jG (i:=8) scTm.nd rfl #[5]) (jH (kD rfl (jH (jG (i:=9) scTm.nd rfl #[5]) (jH (jG (i:=10) scTm.nd rfl #[5]) jY))) jY))) (jC (jN (i:=11) scTm.nd rfl #[5] (LJ (pv 4) (jM qF (pv 5) (pv 8)) zU ⟨rfl,rfl,rfl,rfl⟩)) (jC (jN (i:=12) scTm.nd rfl #[5] (jM qA (pv 7) (pv 10))) (jF (CJ hu (pv 11) (pv 12) (jM qF (EF hu (pv 11) (pv 12) jD ⟨rfl,rfl,rfl,rfl⟩) (jM qA (pv 6) (pv 9))) rfl))))))) (jF (jP (BK (own:=2) (idx:=[]) (N:=["key","heap"]) rfl rfl rfl #[3] #[3] (λ_ _ h=>nomatch h) (qU rfl) rfl (λ_ _ _ h=>nomatch h) (xZ (CM (pv 4))) (λC fp s2 H2=>show PG (jK _ ["key","heap"] _ _ C fp s2 H2) _ (AJ K 2 (qS (jV 0) (qS (jV 1) gNil)))from kD (X:=jK _ ["key","heap"] _ _ C fp s2 H2) rfl (jH (jG (i:=0) (show List.Nodup (["key","heap"]:List Str) by decide +kernel) rfl #[5] (Or.inr rfl)) (jH (jG (i:=1) (show List.Nodup (["key","heap"]:List Str) by decide +kernel) rfl #[5] (Or.inr rfl)) jY))) (λC fp s2 H2=>pv 0) (λC fp s2 H2=>cal GH hr (jA (pv 1) jB)))))))), ?_⟩
  try dsimp only[cxK]
  have rne:∀{c:Addr} {kk:List (Key×V)},Rd H c (.dK kk)->∀{d:Addr},H d=none->d≠c:=fun {c kk} r {d} n z=>by
   rw[z]at n;rcases r with r | ⟨o,r⟩<;>rw[r]at n<;>cases n
  refine⟨_,rfl,a,k1,T1,D1,rfl,ra,p1,nd1,by omega,D10,D1b,v1,λe he=>jT (b1 e he) #[0],λd1 j1 H1 n1 t1 ⟨oa,fa⟩ e1 r1=>?_⟩;have rb1:Rd H1 b (.dK k2):=by
   rcases rb with r | ⟨o,r⟩
   ·exact .inl (t1 _ _ r (Ne.symm ab))
   ·exact .inr ⟨o,t1 _ _ r (Ne.symm ab)⟩
  have d1b:d1≠b:=rne rb n1;refine⟨_,rfl,b,k2,T2,D2,rfl,rb1,Paired.to (λ_ _ h=>h.but ra t1) p2,nd2,by omega,D20,D2b,v2,λe he=>jT (b2 e he) #[0],λd2 j2 H2 n2 t2 ⟨ob,fb⟩ e2 r2=>?_⟩;have d21:d2≠d1:=λz=>by rw[z,e1]at n2;cases n2
  have e1:H2 d1=some (.dK j1):=t2 _ _ e1 d1b;have r1:Paired (EntR (kO T1) H2) j1 T1:=Paired.to (λ_ _ h=>h.but rb1 t2) r1;have s02:∀c u,H c=some u->c≠a->c≠b->H2 c=some u:=λc u h na nb=>t2 _ _ (t1 _ _ h na) nb;have fr2:∀c,H2 c=none->H c=none:=λc n=>by
   cases q:H c with
   | none=>rfl
   | some u=>
    by_cases ca:c=a
    ·rw[ca,t2 _ _ fa ab]at n;cases n
    ·by_cases cb:c=b
     ·rw[cb,fb]at n;cases n
     ·rw[s02 c u q ca cb]at n;cases n
  have L1:j1.length=T1.length:=Paired.length r1;have L2':j2.length=T2.length:=Paired.length r2;have c1:0<kO T1/\(kO T1).natAbs<2^1400:=⟨JG _,gZ (AR (OM v1) D10) D1b⟩;have c2:0<kO T2/\(kO T2).natAbs<2^1400:=⟨JG _,gZ (AR (OM v2) D20) D2b⟩;have tb:∀{T:Tb} {e:Int×Rat},e∈T->0<kO T->(kO T).natAbs<2^1400->e.2.num.natAbs<2^2400->(e.2.num*(kO T/(e.2.den:Int))).natAbs<2^3800:=fun {T e} he h0 h1 h2=>by
   have dp:=e.2.den_pos;have q:=gZ (LwM.AQ (kO T) (e.2.den:Int) #[1]) h1;exact AX (m:=2400) (n:=1400) h2 q
  intro hd nhd;have hd1:d1≠hd:=λz=>by rw[z,nhd]at e1;cases e1
  have hd2:d2≠hd:=λz=>by rw[z,nhd]at e2;cases e2
  refine⟨_,rfl,d1,j1,rfl,.inl (by rw[jI hd1];exact e1),λo1 H4 f1 b4 fr4=>⟨d1,o1,j1,rfl,f1, ?_⟩⟩;have h4:H4 hd=some (.dK []):=b4 _ _ jE (Ne.symm hd1);have s4:B2 d1 d2 H2 H4:=λc u h n1 n2=>b4 c u (by rw[jI (kG h nhd)];exact h) n1;have r24:Rd H4 d2 (.dK j2):=.inl (b4 _ _ (by rw[jI hd2];exact e2) d21);refine wQ (M1I H2 a b d1 d2 hd o1 j1 j2 (kO T1*kO T2) T1 T2) (.mk (hs:=[]) s4 f1 r24 ⟨h4,.nil,nM,nM,tL _⟩) (λi σ H5 _ h=>?_) (λi k x p σ H5 hx hp h=>?_) (fun σ H5 h=>?_)
  ·obtain⟨_,f1,_,_⟩:=h;exact f1
  ·obtain⟨s5,f5,r5,I5⟩:=h;obtain⟨e,he,hk,c,hc,ec⟩:=Paired.at r1 hx;have hk:k=.inl e.1:=hk;have hc:x=.ref c:=hc;subst hk hc;have em:=gQ he;have il:i<T1.length:=(gE.mp he).1;have s6:Same H5 (upd H5 p (.tup [kV (.inl e.1),.ref c])):=jQ _ hp;have e6:(upd H5 p (.tup [kV (.inl e.1),.ref c])) p=some (.tup [kV (.inl e.1),.ref c]):=jE;generalize upd H5 p (.tup [kV (.inl e.1),.ref c])=H6 at s6 e6;refine⟨p,_,rfl,SqT.of e6,rfl,_,_,rfl,_,_,rfl,c,_,rfl,SqT.of (s6 _ _ (s5.tup e1 e2 ec)),rfl,_,_,rfl,_,_,rfl,rfl,rfl, ?_⟩;refine⟨_,rfl,d2,j2,rfl,IR r5 s6,λo2 H7 f7 b7 fr7=>⟨d2,o2,j2,rfl,f7, ?_⟩⟩;have s7:B2 d1 d2 H2 H7:=λc u h n1 n2=>b7 _ _ (s6 _ _ (s5 c u h n1 n2)) n2;have f17:=b7 _ _ (s6 _ _ f5) (Ne.symm d21);have h57:∀{c:Addr} {kk:List (Key×V)},c≠d2->H5 c=some (.dK kk)->H7 c=some (.dK kk):=λn h=>b7 _ _ (s6 _ _ h) n;rename_i u5 u6 u7 u8 u9 u10 u11 u12 hs;have I7:HpI (kO T1*kO T2) (i*T2.length+0) H2 H7 hd hs ((T1.take i).foldl (LW T2) []):=I5.go (h57 (Ne.symm hd2) I5.e) λc n _ o ho=>b7 _ _ (s6 _ _ ho) (λz=>by rw[z,e2]at n;cases n);have tb1:=tb em c1.1 c1.2 (b1 e em);generalize ht1:e.2.num*(kO T1/(e.2.den:Int))=t1 at tb1;generalize hA:(T1.take i).foldl (LW T2) []=AA at I7;refine wQ (M2I H2 a b d1 d2 hd o1 o2 j1 j2 (kO T1*kO T2) i AA T2 e t1 (kO T1)) (.mk s7 f17 f7 I7) (λj σ H8 _ h=>?_) (λj k' x' p' σ H8 hx' hp' h=>?_) (fun σ H8 h=>?_)
   ·obtain⟨_,_,f8,_⟩:=h;exact f8
   ·obtain⟨s8,f8,g8,I8⟩:=h;rename_i w8 w9 w10 w11 w12 hs';obtain⟨e',he',hk',c',hc',ec'⟩:=Paired.at r2 hx';have hk':k'=.inl e'.1:=hk';have hc':x'=.ref c':=hc';subst hk' hc';have em':=gQ he';have jl:j<T2.length:=(gE.mp he').1;have s9:Same H8 (upd H8 p' (.tup [kV (.inl e'.1),.ref c'])):=jQ _ hp';have e9:(upd H8 p' (.tup [kV (.inl e'.1),.ref c'])) p'=some (.tup [kV (.inl e'.1),.ref c']):=jE;generalize upd H8 p' (.tup [kV (.inl e'.1),.ref c'])=H9 at s9 e9;refine⟨p',_,rfl,SqT.of e9,rfl,_,_,rfl,_,_,rfl,c',_,rfl,SqT.of (s9 _ _ (s8.tup e1 e2 ec')),rfl,_,_,rfl,_,_,rfl,rfl,rfl, ?_⟩;have tb2:=tb em' c2.1 c2.2 (b2 e' em');have mo:=mul_over em em';rw[ht1]at mo;generalize e'.2.num*(kO T2/(e'.2.den:Int))=t2 at tb2 mo;have bm:(t1*t2).natAbs<=2^7600:=tH (AX (m:=3800) (n:=3800) tb1 tb2);have st:(T2.take (j+1)).foldl (AG e) AA=xO ((T2.take j).foldl (AG e) AA) (e.1+e'.1) (tv ((T2.take j).foldl (AG e) AA) (e.1+e'.1)+e.2*e'.2):=BO he';have cnt:i*T2.length+j<1000:=by
     have:i*T2.length+T2.length<=T1.length*T2.length:=by
      rw[<-Nat.succ_mul];exact gW _ il
     omega
    refine⟨_,rfl,hd,rfl,.inl ⟨_,.inl (s9 _ _ I8.e)⟩,_,rfl,_,rfl,_,_,rfl,rfl,λz nz=>?_⟩;have s10:Same H9 (upd H9 z (.dK [])):=jQ _ nz;have e10:(upd H9 z (.dK [])) z=some (.dK []):=jE;generalize upd H9 z (.dK [])=H10 at s10 e10;have I10:=I8.go ((s9.trans s10) _ _ I8.e) λc _ _ o ho=>(s9.trans s10) _ _ ho;have lh:hs'.length=((T2.take j).foldl (AG e) AA).length:=Paired.length I10.pr;have ll:=I10.ln;have f10:=(s9.trans s10) _ _ f8;have g10:=(s9.trans s10) _ _ g8;have b10:B2 d1 d2 H2 H10:=λc u h n1 n2=>(s9.trans s10) _ _ (s8 c u h n1 n2);refine⟨hs',.inl (e.1+e'.1),I10.e,rfl,by rw[lh,sizeLine_eq];omega,λv hv=>?_,λhn=>?_⟩
    ·rcases FA (k:=e.1+e'.1) I10.pr with⟨ii,c,n,hi,ai,hvv,fc,ch,hcn,en,bn⟩ | ⟨hvv,_⟩
     ·rw[hvv]at hv;cases hv;dsimp only[jV];refine⟨_,rfl,_,rfl,_,_,rfl,rfl,⟨jT c1.2 #[0],jT c2.2 #[0]⟩, ?_⟩;refine⟨_,rfl,c,rfl,.inl ⟨_,.inl hcn⟩,_,rfl,_,DGet.k (k:=.inl (kO T1*kO T2)) hcn, ?_⟩;rw[get_one];refine⟨_,rfl,_,rfl,_,_,rfl,rfl,⟨jT tb1 #[0],jT tb2 #[0]⟩,_,_,rfl,rfl,_,rfl,_,rfl,c,_,rfl,DPut.k (k:=.inl (kO T1*kO T2)) hcn (by show 1<sizeLine;decide), ?_⟩;rw[put_one];have cd:∀{d:Addr} {o:HO},H2 d=some o->c≠d:=λh z=>by rw[z,h]at fc;cases fc
      refine .mk (hs:=hs') (λx u h n1 n2=>by rw[jI (Ne.symm (cd h))];exact b10 x u h n1 n2) (by rw[jI (Ne.symm (cd e1))];exact f10) (by rw[jI (Ne.symm (cd e2))];exact g10) ?_;rw[st];exact I10.there hi ai fc ch en bn mo bm
     ·rw[hvv]at hv;cases hv
    ·rcases FA (k:=e.1+e'.1) I10.pr with⟨ii,c,n,hi,ai,hvv,_⟩ | ⟨hvv,nk,out⟩
     ·rw[hvv]at hn;cases hn
     ·rw[LE out];have zh:z≠hd:=λy=>by rw[y,s9 _ _ I8.e]at nz;cases nz
      have fz:H2 z=none:=by
       cases q:H2 z with
       | none=>rfl
       | some u=>
        by_cases y1:z=d1
        ·rw[y1,s9 _ _ f8]at nz;cases nz
        ·by_cases y2:z=d2
         ·rw[y2,s9 _ _ g8]at nz;cases nz
         ·rw[s9 _ _ (s8 z u q y1 y2)]at nz;cases nz
      have nzs:∀p∈hs',p.2≠.ref z:=λp hp y=>by
       obtain⟨ix,hix⟩:=gP.mp hp;obtain⟨ee,_,_,cc,nn,q1,_,_,q2,_⟩:=Paired.at I8.pr hix;rw[y]at q1;cases q1;rw[s9 _ _ q2]at nz;cases nz
      have ez:(upd H10 hd (.dK (hs'++[(.inl (e.1+e'.1),.ref z)]))) z=some (.dK []):=by rw[jI zh];exact e10
      dsimp only[jV];refine⟨_,rfl,_,rfl,_,_,rfl,rfl,⟨jT c1.2 #[0],jT c2.2 #[0]⟩, ?_⟩;refine⟨_,rfl,z,rfl,.inl ⟨_,.inl ez⟩,_,rfl,_,DGet.k (k:=.inl (kO T1*kO T2)) ez, ?_⟩;refine⟨_,rfl,_,rfl,_,_,rfl,rfl,⟨jT tb1 #[0],jT tb2 #[0]⟩,_,_,rfl,rfl,_,rfl,_,rfl,z,_,rfl,DPut.k (k:=.inl (kO T1*kO T2)) ez (by show 0<sizeLine;decide), ?_⟩;rw[put_nil,Int.zero_add];have cd:∀{d:Addr} {o:HO},H2 d=some o->d≠z/\d≠hd:=λh=>⟨(λy=>by rw[y,fz]at h;cases h),(λy=>by rw[y,nhd]at h;cases h)⟩;refine .mk (hs:=hs'++[(.inl (e.1+e'.1),.ref z)]) (λx u h n1 n2=>by rw[jI (cd h).1,jI (cd h).2];exact b10 x u h n1 n2) (by rw[jI (cd e1).1,jI (cd e1).2];exact f10) (by rw[jI (cd e2).1,jI (cd e2).2];exact g10) ?_;rw[st];exact I10.new nk fz zh nzs mo bm
   ·obtain⟨s8,f8,g8,I8⟩:=h;rename_i hs';rw[L2',mR,<-Nat.succ_mul]at I8;refine .mk (hs:=hs') s8 f8 (.inr ⟨o2,g8⟩) ?_;rw[BO he,hA];exact I8
  ·obtain⟨s5,f5,r5,I5⟩:=h;rw[L1,mR]at I5;rename_i u5 u6 u7 u8 u9 u10 u11 u12 hs;have I5:HpI (kO T1*kO T2) (T1.length*T2.length) H2 H5 hd hs (vH T1 T2):=I5;generalize hA:vH T1 T2=A at I5 go;have lA:hs.length=A.length:=Paired.length I5.pr;have ll:=I5.ln;have M0:0<kO T1*kO T2:=tM c1.1 c2.1;have Mb:(kO T1*kO T2).natAbs<2^7800:=jT (AX c1.2 c2.2) #[0];have fr5:∀c,H5 c=none->H2 c=none:=λc n=>by
    cases q:H2 c with
    | none=>rfl
    | some u=>
     by_cases y1:c=d1
     ·rw[y1,f5]at n;cases n
     ·by_cases y2:c=d2
      ·rw[y2]at n;rcases r5 with r | ⟨o,r⟩<;>rw[r]at n<;>cases n
      ·rw[s5 c u q y1 y2]at n;cases n
   refine⟨_,rfl,hd,hs,rfl,.inl I5.e,λoh H6 f6 b6 fr6=>⟨hd,oh,hs,rfl,f6,λd H7 n7 s7 e7=>?_⟩⟩;have pr6:Paired (EntH (kO T1*kO T2) (T1.length*T2.length) H2 H6 hd) hs A:=Paired.to (λ_ _ h=>h.go (λc _ _ ch o ho=>b6 _ _ ho ch) uX) I5.pr;have d2n:H2 d=none:=fr5 d (fr6 d n7);have dn:H d=none:=fr2 d d2n;have s26:∀c u,H2 c=some u->c≠d1->c≠d2->H6 c=some u:=λc u h y1 y2=>b6 _ _ (s5 c u h y1 y2) (λz=>by rw[z,nhd]at h;cases h);have nd2':H d2=none:=by
    cases q:H d2 with
    | none=>rfl
    | some u=>
     by_cases y1:d2=a
     ·rw[y1,fa]at n2;cases n2
     ·rw[t1 _ _ q y1]at n2;cases n2
   have dhd:hd≠d:=λz=>by rw[<-z,f6]at n7;cases n7
   refine zJ (FnI K (kO T1*kO T2) (T1.length*T2.length) H H2 d1 d2 d hd oh hs A) (by rw[lA,sizeLine_eq];omega) ⟨λc u h na nb=>s7 _ _ (s26 c u h na nb),s7 _ _ f6,e7,λjj kv x _ h1 h2=>(EL pr6 h1 h2).go (λc _ _ _ o ho=>s7 _ _ ho) uX,.nil⟩ (λi ys H8 h=>⟨h.f,h.e, ?_⟩) ?_ ?_
   ·have:=Paired.length h.pr;rw[this,mP];omega
   ·intro i m ys k x cp H8 hx hm h hcp;have il:i<A.length:=by rw[<-lA];exact(gE.mp hx).1
    have hAi:A[i]? = some A[i]:=gG il;generalize A[i]=e at hAi;have E0:=h.later i _ e uX hx hAi;have E6:=EL pr6 hx hAi;obtain⟨hk,c,n,hc,fc,ch,h8c,en,bn⟩:=E0;have hk:k=.inl e.1:=hk;have hc:x=.ref c:=hc;subst hk hc;have cd:c≠d:=λz=>by
     obtain⟨_,c6,_,q1,_,_,q2,_⟩:=E6;cases q1;rw[z,n7]at q2;cases q2
    have s9:Same H8 (upd H8 cp (.tup [kV (.inl e.1),.ref c])):=jQ _ hcp;have e9:(upd H8 cp (.tup [kV (.inl e.1),.ref c])) cp=some (.tup [kV (.inl e.1),.ref c]):=jE;generalize upd H8 cp (.tup [kV (.inl e.1),.ref c])=H9 at s9 e9;have h9c:=s9 _ _ h8c;have nb:n.natAbs<2^7800:=gZ bn (gZ (gW _ (show T1.length*T2.length<=2^10 from nW l12 #[0])) (by rw[<-tO];exact gU #[0] #[0]));refine⟨cp,_,rfl,SqT.of e9,rfl,_,_,rfl,_,_,rfl,rfl,BT,_,rfl,_,rfl,c,_,n,rfl,h9c,M0,Mb,nb,λv H10 b10 nv=>?_⟩;have hM:((kO T1*kO T2:Int):Rat)≠0:=λz=>by
     have:kO T1*kO T2=0:=Rat.intCast_inj.mp (by rw[z];rfl);omega
    have nv:NumH H10 v e.2:=by
     have:((n:Int):Rat)/((kO T1*kO T2:Int):Rat)=e.2:=by rw[en,Rat.mul_div_cancel hM]
     rw[this]at nv;exact nv
    have e10:=b10 _ _ (s9 _ _ h.e) (Ne.symm cd);refine⟨.inl e.1,rfl,e10,CS hx hm ⟨λx u hx' na nb=>?_, ?_,jE,λjj kv y hj h1 h2=>?_, ?_⟩⟩
    ·rw[jI (λz=>by rw[z,d2n]at hx';cases hx')];exact b10 _ _ (s9 _ _ (h.s x u hx' na nb)) (λz=>by rw[z,fc]at hx';cases hx')
    ·rw[jI dhd];exact b10 _ _ (s9 _ _ h.f) (Ne.symm ch)
    ·refine(h.later jj kv y #[1] h1 h2).go (λc' hc' _ _ o ho=>?_) uX ;have c'c:c'≠c:=λz=>by
      subst z;have j1:(hs.map (·.2))[jj]? = some (.ref c'):=by rw[mG,h1];exact congrArg some hc'
      have j2:(hs.map (·.2))[i]? = some (.ref c'):=by rw[mG,hx];rfl
      have:=(List.getElem?_inj (gE.mp j1).1 I5.nd).mp (j1.trans j2.symm);omega
     have c'd:c'≠d:=λz=>by
      obtain⟨_,c6,_,q1,_,_,q2,_⟩:=EL pr6 h1 h2;rw[hc']at q1;cases q1;rw[z,n7]at q2;cases q2
     rw[jI c'd];exact b10 _ _ (s9 _ _ ho) c'c
    ·have k1:Paired (EntQ K H10) ys (A.take i):=Paired.to (λ_ _ q=>(q.same s9).but (.inl h9c) b10) h.pr;have k:=AN (k:=e.1) k1 nv;have eq:xO (A.take i) e.1 e.2=A.take (i+1):=by
      rw[yS (zY hAi I5.ndA),mI,hAi]
      rfl
     rw[eq]at k;exact Paired.to (λ_ _ q=>q.upd e10) k
   ·intro ys H8 h;have pr8:=h.pr;rw[lA,mR]at pr8;exact go d ys H8 dn (λc u hc na nb=>h.s c u (s02 c u hc na nb) (λz=>by rw[z,n1]at hc;cases hc) (λz=>by rw[z,nd2']at hc;cases hc)) (.inr ⟨ob,h.s b _ fb (Ne.symm d1b) (λz=>by rw[z,e2]at fb;cases fb)⟩) h.e pr8
structure MulA(T1 T2:Tb)(B:Nat)(A:Tb):Prop where
 nd:(A.map (·.1)).Nodup
 ks:∀k∈A.map (·.1),∃e1∈T1,∃e2∈T2,k=e1.1+e2.1
 ln:A.length<=B
theorem MulA.step{B:Nat}{e1 e2:Int×Rat}(h:MulA T1 T2 B A)(h1:e1∈T1)(h2:e2∈T2):MulA T1 T2 (B+1) (AG e1 A e2):=by
 refine⟨xS h.nd,λk hk=>?_, ?_⟩
 ·unfold AG at hk;rw[wC]at hk;split at hk
  ·exact h.ks k hk
  ·rcases nE.mp hk with hk | hk
   ·exact h.ks k hk
   ·exact⟨e1,h1,e2,h2,mB.mp hk⟩
 ·have l:=congrArg List.length (wC A (e1.1+e2.1) (tv A (e1.1+e2.1)+e1.2*e2.2));rw[mY]at l;unfold AG;rw[l];have:=h.ln;split
  ·rw[mY];omega
  ·rw[hJ,mY];show A.length+1<=B+1;omega
theorem RI{e1:Int×Rat}(h1:e1∈T1):∀(l:Tb) {A:Tb} {B:Nat},(∀e∈l,e∈T2)->MulA T1 T2 B A->MulA T1 T2 (B+l.length) (l.foldl (AG e1) A)
 | [],A,B,_,h=>h
 | e::l,A,B,sub,h=>by
  have:=RI h1 l (λx hx=>sub x (gS _ hx)) (h.step h1 (sub e (mD ..)));rw[mS,show B+(l.length+1)=B+1+l.length by omega];exact this
theorem RH{T1 T2:Tb} :∀(l:Tb) {A:Tb} {B:Nat},(∀e∈l,e∈T1)->MulA T1 T2 B A->MulA T1 T2 (B+l.length*T2.length) (l.foldl (LW T2) A)
 | [],A,B,_,h=>by rw[List.length_nil,Nat.zero_mul];exact h
 | e::l,A,B,sub,h=>by
  have:=RH l (λx hx=>sub x (gS _ hx)) (RI (sub e (mD ..)) T2 (λ_ h=>h) h);rw[mS,Nat.succ_mul,show B+(l.length*T2.length+T2.length)=B+T2.length+l.length*T2.length by omega];exact this
theorem AF(T1 T2:Tb):MulA T1 T2 (T1.length*T2.length) (vH T1 T2):=by
 have:=RH (T1:=T1) (T2:=T2) T1 (A:=[]) (B:=0) (λ_ h=>h) ⟨nM,(λ_ h=>nomatch h),tK _⟩;rw[Nat.zero_add]at this;exact this
def kN(a b:List Int):List Int:=List.zipWith (· + ·) a b
theorem ED:∀(n:Nat) {a b:List Int},a.length=n->b.length=n->pk (kN a b)=pk a+pk b
 | 0,a,b,h1,h2=>by rw[List.length_eq_zero_iff.mp h1,List.length_eq_zero_iff.mp h2];rfl
 | n+1,a,b,h1,h2=>by
  obtain⟨m,y,rfl,hm⟩:=yH h1;obtain⟨m',y',rfl,hm'⟩:=yH h2;unfold kN;rw[List.zipWith_append #[1],xP,xP];show pk (kN m m'++[y+y'])=_;rw[xP,ED n hm hm'];omega
theorem vR:∀{a b:List Int},a.length=b.length->(kN a b).sum=a.sum+b.sum
 | [],[],_=>rfl
 | x::a,y::b,h=>by
  have ih:=vR (a:=a) (b:=b) (by simpa using h);show x+y+(kN a b).sum=x+a.sum+(y+b.sum);omega
theorem AC:∀{a b:List Int},(∀n∈a,0<=n)->(∀n∈b,0<=n)->∀n∈kN a b,0<=n
 | [],_,_,_,n,h=>by simp [kN]at h
 | _::_,[],_,_,n,h=>by simp [kN]at h
 | x::a,y::b,h1,h2,n,h=>by
  have h:n∈(x+y)::kN a b:=h;rcases nP.mp h with rfl | h
  ·have:=h1 x (mD ..);have:=h2 y (mD ..);omega
  ·exact AC (λn hn=>h1 n (gS _ hn)) (λn hn=>h2 n (gS _ hn)) n h
theorem mul_ky{aa:Nat}(o1:PlOk aa P1)(o2:PlOk aa P2)(hd:qK P1+qK P2<=16):∀k∈(vH (jL P1) (jL P2)).map (·.1),KyP aa k:=λk hk=>by
 obtain⟨e1,h1,e2,h2,rfl⟩:=(AF _ _).ks k hk;obtain⟨x,hx,rfl⟩:=nY.mp h1;obtain⟨y,hy,rfl⟩:=nY.mp h2;have lx:=o1.len x hx;have ly:=o2.len y hy;have dx:x.1.sum<=qK P1:=qY (List.mem_map_of_mem (f:=λz=>z.1.sum) hx);have dy:y.1.sum<=qK P2:=qY (List.mem_map_of_mem (f:=λz=>z.1.sum) hy);refine⟨kN x.1 y.1,by unfold kN;rw[List.length_zipWith];omega,AC (o1.nn x hx) (o2.nn y hy), ?_,(ED aa lx ly).symm⟩;rw[vR #[1]];omega
structure PlB(P:Pl)(D:Int):Prop where
 pos:0<D
 sd:D.natAbs<2^1400
 dv:∀x∈P,(x.2.den:Int)∣D
 nb:∀x∈P,x.2.num.natAbs<2^2400
def uM(K:tV):Sp:=λvs H Q _=>∃(p1 p2:Addr) (aa:Nat) (P1 P2:Pl) (D1 D2:Int),vs=[.ref p1,.ref p2]/\SumQ K H p1 aa P1/\SumQ K H p2 aa P2/\PlOk aa P1/\PlOk aa P2/\P1.length*P2.length<=60/\qK P1+qK P2<=16/\PlB P1 D1/\PlB P2 D2/\
 ∀(p:Addr) (P:Pl) (H':Hp),H p=none->Same H H'->SumQ K H' p aa P->SumT aa (vH (jL P1) (jL P2)) P->Q (.ref p) H'
theorem scTi:FnScope ["one","other","reached"] ["one","other"] (jJ BE):=scK #[3]
theorem ZI(F:Fun K "times" "times" BE f fd)(T:Txt mg)(GD:DG P w K mg base 1 "degree" zC ["one"] (DU K))(GT:DG P w K mg base 2 "table_of" uA ["one"] (uN K))(GM:DG P w K mg base 5 "tables_multiplied" uQ ["one","other"] (DO K))(GS:DG P w K mg base 2 "sum_of" zR ["many","table"] (wL K)):FnOk P w K mg base CX0 6 f fd ["one","other"] (uM K):=by
 obtain⟨td,hd⟩:=T.degree;refine F.ok scTi #[8] #[2]
 ·obtain⟨p1,p2,aa,P1,P2,D1,D2,rfl,_⟩:=h
  rfl
 ·obtain⟨p1,p2,aa,P1,P2,D1,D2,rfl,q1,q2,o1,o2,ln,dg,B1,B2',go⟩:=h;have hr1:Room 1 _:=hr.mono #[0];have hr2:Room 2 _:=hr.mono #[0];refine⟨_,jC (jN (i:=2) scTi.nd rfl #[5] (jM qF (cal GD hr1 (jA (pv 0) jB)) (cal GD hr1 (jA (pv 1) jB)))) (jC (kE (jO yT (pv 2) (kT (v:=.int 16) (by rfl) hd ⟨_,rfl⟩) (jS _)) (jF (kP)) jR) (jF (jP (cal GS hr2 (jA #[10] (jA (cal GM hr (jA (cal GT hr2 (jA (pv 0) jB)) (jA (cal GT hr2 (jA (pv 1) jB)) jB))) jB)))))), ?_⟩;try dsimp only[cxK]
  have f1:=o1.few;have f2:=o2.few;refine⟨_,rfl,p1,aa,16,P1,rfl,q1,o1.pd,o1.m4,by decide,by omega,λH1 s1=>⟨_,rfl,p2,aa,16,P2,rfl,q2.same s1,o2.pd,o2.m4,by decide,by omega,λH2 s2=>⟨_,_,rfl,rfl, ?_⟩⟩⟩;dsimp only[jV];refine⟨_,rfl,_,_,rfl,rfl,_,rfl,qT (nC #[1]) ?_⟩;have s02:=s1.trans s2;obtain⟨qq,xs,e1,_⟩:=(q1.same s02).ex;refine⟨_,rfl,p1,_,_,_,rfl,rfl,SqT.of e1,rfl,_,rfl,p1,aa,P1,rfl,q1.same s02,o1,λda k1 H3 n3 s3 ea pa=>?_⟩;refine⟨_,rfl,p2,aa,P2,rfl,q2.same (s02.trans s3),o2,λdb k2 H4 n4 s4 eb pb=>?_⟩;have dab:da≠db:=λz=>by rw[<-z,ea]at n4;cases n4
  have sm:∀{P:Pl},PlOk aa P->∀e∈jL P,e.1.natAbs<2^40:=fun {P} o e he=>by
   obtain⟨x,hx,rfl⟩:=nY.mp he;exact jT (zT (o.byt hx) (by rw[o.len x hx];exact o.m4)) #[0]
  have tE:∀{P:Pl} {D:Int},PlB P D->(∀e∈jL P,(e.2.den:Int)∣D)/\(∀e∈jL P,e.2.num.natAbs<2^2400):=fun {P D} B=>⟨λe he=>by obtain⟨x,hx,rfl⟩:=nY.mp he;exact B.dv x hx,λe he=>by obtain⟨x,hx,rfl⟩:=nY.mp he;exact B.nb x hx⟩;refine⟨da,db,k1,k2,jL P1,jL P2,D1,D2,rfl,dab,.inl (s4 _ _ ea),.inl eb,Paired.to (λ_ _ h=>h.same s4) pa,pb,o1.nd,o2.nd,by rw[qG];exact f1,by rw[qG];exact f2,by rw[qG,qG];omega,B1.pos,B1.sd,B2'.pos,B2'.sd,(tE B1).1,(tE B2').1,(tE B1).2,(tE B2').2,sm o1,sm o2,λd ks H5 n5 b5 _ e5 p5=>?_⟩;have s05:Same H H5:=λc u h=>b5 c u ((s02.trans (s3.trans s4)) _ _ h) (λz=>by rw[z,s02.free n3]at h;cases h) (λz=>by rw[z,(s02.trans s3).free n4]at h;cases h);have ma:=AF (jL P1) (jL P2);refine⟨d,aa,ks,_,rfl,.inl e5,p5,ma.nd,by have:=ma.ln;rw[qG,qG]at this;omega,mul_ky o1 o2 dg,o1.m1,o1.m4,λp PP H6 n6 s6 SQ ST=>go p PP H6 (s05.free n6) (s05.trans s6) SQ ST⟩
def iOr(a b:TI):TI:=fun σ H R=>a σ H R∨b σ H R
theorem pi_or(h1:PI X tg l a)(h2:PI X tg l b):PI X tg l (iOr a b):=λac s σ H R I h=>h.elim (h1 ac s σ H R I) (h2 ac s σ H R I)
abbrev Zt:=List (V×(List Int×Rat))
def BX(Z:Zt)(l:Nat)(p:Int):Zt:=Z.filter λz=>decide (z.2.1.getD l 0=p)
theorem wK(Z:Zt)(z:V×(List Int×Rat))(l:Nat)(p:Int):BX (Z++[z]) l p=if z.2.1.getD l 0=p then BX Z l p++[z]else BX Z l p:=by
 unfold BX;rw[List.filter_append];by_cases h:z.2.1.getD l 0=p
 ·rw[tU h,List.filter_cons_of_pos (p:=λz:V×(List Int×Rat)=>decide (z.2.1.getD l 0=p)) (nG h)]
  rfl
 ·rw[tT h,List.filter_cons_of_neg (p:=λz:V×(List Int×Rat)=>decide (z.2.1.getD l 0=p)) (λy=>h (mK y))];exact List.append_nil _
structure PartI(H0 H:Hp)(d:Addr)(ah:List (Key×V))(Z:Zt)(l:Nat):Prop where
 e:H d=some (.dK ah)
 no:∀p:Int,kK ah (.inl p:Key)=none->BX Z l p=[]
 yes:∀(p:Int) (v:V),kK ah (.inl p:Key)=some v->∃q,v=.ref q/\H0 q=none/\q≠d/\H q=some (.lst ((BX Z l p).map (·.1)))/\BX Z l p≠[]
 inj:∀(p p':Int) (v:V),kK ah (.inl p:Key)=some v->kK ah (.inl p':Key)=some v->p=p'
 ks:∀kv∈ah,∃i:Int,kv.1=.inl i
 ln:ah.length<=Z.length
theorem PartI.same{l:Nat}(I:PartI H0 H d ah Z l)(s:Same H H'):PartI H0 H' d ah Z l:=
 ⟨s _ _ I.e,I.no,λp v h=>let ⟨q,h1,h2,h3,h4,h5⟩:=I.yes p v h;⟨q,h1,h2,h3,s _ _ h4,h5⟩,I.inj,I.ks,I.ln⟩
theorem PartI.there{l:Nat}{z:V×(List Int×Rat)}(I:PartI H0 H d ah Z l)(h:kK ah (.inl (z.2.1.getD l 0):Key)=some (.ref q)) :
  PartI H0 (upd H q (.lst ((BX Z l (z.2.1.getD l 0)).map (·.1)++[z.1]))) d ah (Z++[z]) l:=by
 obtain⟨q',e1,f1,n1,e2,ne⟩:=I.yes _ _ h;cases e1;refine⟨by rw[jI (Ne.symm n1)];exact I.e,λp hp=>?_,λp v hv=>?_,I.inj,I.ks,by rw[hJ];exact nW I.ln (Nat.le_add_right ..)⟩
 ·rw[wK,tT (λy=>by rw[y,hp]at h;cases h)];exact I.no p hp
 ·obtain⟨q2,e3,f2,n2,e4,ne2⟩:=I.yes p v hv;rw[wK];by_cases c:z.2.1.getD l 0=p
  ·subst c;rw[h]at hv;cases hv;cases e3;rw[tU rfl];exact⟨q,rfl,f1,n1,by rw[jE,mZ];rfl,by simp⟩
  ·rw[tT c];refine⟨q2,e3,f2,n2, ?_,ne2⟩;rw[jI (λy=>c (I.inj _ _ _ h (by rw[hv,e3,y])))];exact e4
theorem PartI.new{l:Nat}{z:V×(List Int×Rat)}(I:PartI H0 H d ah Z l)(h:kK ah (.inl (z.2.1.getD l 0):Key)=none)(f0:H0 q=none)(qd:q≠d)(nq:∀xs:List V,xs≠[]->H q≠some (.lst xs)) :
  PartI H0 (upd (upd H d (.dK (qD ah (.inl (z.2.1.getD l 0)) (.ref q)))) q (.lst [z.1])) d (qD ah (.inl (z.2.1.getD l 0)) (.ref q)) (Z++[z]) l:=by
 have old:∀(p:Int) (v:V),kK ah (.inl p:Key)=some v->v≠.ref q:=λp v hv y=>by
  obtain⟨q2,e3,_,_,e4,ne⟩:=I.yes p v hv;rw[y]at e3;cases e3;exact nq _ (λy=>ne (List.map_eq_nil_iff.mp y)) e4
 have vp:∀p:Int,kK (qD ah (.inl (z.2.1.getD l 0)) (.ref q)) (.inl p:Key)=if p=z.2.1.getD l 0 then some (.ref q)else kK ah (.inl p):=λp=>by
  rw[WJ];by_cases c:p=z.2.1.getD l 0
  ·rw[tU c,tU (by rw[c])]
  ·rw[tT c,tT (λy=>c (Sum.inl.inj y))]
 refine⟨by rw[jI (Ne.symm qd)];exact jE,λp hp=>?_,λp v hv=>?_,λp p' v h1 h2=>?_, ?_, ?_⟩
 ·rw[vp]at hp;split at hp
  ·cases hp
  ·rename_i c;rw[wK,tT (Ne.symm c)];exact I.no p hp
 ·rw[vp]at hv;rw[wK];split at hv
  ·rename_i c;cases hv;rw[tU c.symm,c,I.no _ h];exact⟨q,rfl,f0,qd,jE,by simp⟩
  ·rename_i c;rw[tT (Ne.symm c)];obtain⟨q2,e3,f2,n2,e4,ne2⟩:=I.yes p v hv;exact⟨q2,e3,f2,n2,by rw[jI (λy=>old p v hv (by rw[e3,y])),jI n2];exact e4,ne2⟩
 ·rw[vp]at h1 h2;split at h1
  ·rename_i c;cases h1;split at h2
   ·rename_i c2;rw[c,c2]
   ·exact absurd rfl (old _ _ h2)
  ·split at h2
   ·cases h2;exact absurd rfl (old _ _ h1)
   ·exact I.inj _ _ _ h1 h2
 ·rw[YH _ h];intro kv hk;rcases nE.mp hk with hk | hk
  ·exact I.ks kv hk
  ·rw[mB.mp hk];exact⟨_,rfl⟩
 ·have:=vO ah (.inl (z.2.1.getD l 0):Key) (.ref q);rw[hJ];have:=I.ln;show _<=Z.length+1;omega
def Sq2(H:Hp)(a:Addr)(xs:List V):Prop:=H a=some (.tup xs)∨H a=some (.lst xs)
theorem Sq2.same(h:Sq2 H a xs)(s:Same H H'):Sq2 H' a xs:=h.imp (s _ _) (s _ _)
def KP(K:tV):Sp:=λvs H Q _=>∃(a:Addr) (l aa:Nat) (xs:List V) (P:Pl),vs=[.ref a,.int l]/\Sq2 H a xs/\Paired (TmQ K H) xs P/\(∀x∈P,x.1.length=aa)/\l<aa/\P.length<=60/\
 ∀(d:Addr) (ah:List (Key×V)) (H':Hp),H d=none->Same H H'->PartI H H' d ah (xs.zip P) l->Q (.ref d) H'
inductive PtI(H:Hp)(a d:Addr)(l:Nat)(Z:Zt)(i:Nat):L2.St->Hp->Prop where
 | mk {u:Option V} {H':Hp} {ah:List (Key×V)} (s:Same H H') (I:PartI H H' d ah (Z.take i) l):PtI H a d l Z i [some (.ref a),some (.int l),some (.ref d),u] H'
theorem WD{F:V->(List Int×Rat)->Prop} :∀{xs:List V} {P:Pl} {i:Nat} {x:V} {y:List Int×Rat},Paired F xs P->xs[i]? = some x->P[i]? = some y->(xs.zip P)[i]? = some (x,y)
 | _::_,_::_,0,_,_,.cons _ _,h1,h2=>by cases h1;cases h2;rfl
 | _::_,_::_,i+1,_,_,.cons _ t,h1,h2=>WD (i:=i) t h1 h2
theorem zip_len{F:V->(List Int×Rat)->Prop}{xs:List V}{P:Pl}(h:Paired F xs P):(xs.zip P).length=xs.length:=by
 rw[List.length_zip,<-Paired.length h,Nat.min_self]
theorem scPt:FnScope ["terms","letter","parts","term"] ["terms","letter"] (jJ CI):=scK #[3]
theorem UU(F:Fun K "parted" "parted" CI f fd):FnOk P w K mg base CX0 1 f fd ["terms","letter"] (KP K):=by
 refine F.ok scPt #[8] #[2]
 ·obtain⟨a,l,aa,xs,PP,rfl,_⟩:=h
  rfl
 ·obtain⟨a,l,aa,xs,PP,rfl,ha,pr,lm,hl,fw,go⟩:=h;refine⟨_,jC (jN (i:=2) scPt.nd rfl #[5] (zU)) (jC (kZ PassesOwn.never rfl (pi_or (xY (pv 0)) (xC (pv 0))) (jG (i:=3) scPt.nd rfl #[5]) (jF (yI (yK PySem.F.plainAttrs_list PySem.F.slot_list_append PySem.F.type_list_append vA (LJ (pv 2) (jU jX (jU jX (pv 3) jD (λ_ _=>rfl)) (pv 1) (λ_ _=>rfl)) (xQ jB) ⟨rfl,rfl,rfl,rfl⟩) (jA (pv 3) jB))))) (jF (jP (pv 2)))), ?_⟩;try dsimp only[cxK]
  intro d nd;have s0:Same H (upd H d (.dK [])):=jQ _ nd;have e0:(upd H d (.dK [])) d=some (.dK []):=jE;generalize upd H d (.dK [])=H0 at s0 e0;have lx:xs.length=PP.length:=Paired.length pr;have lz:=zip_len pr;have st0:PtI H a d l (xs.zip PP) 0 [some (.ref a),some (.int l),some (.ref d),none] H0:=.mk (ah:=[]) s0 ⟨e0,λ_ _=>rfl,λ_ _ h=>(nomatch h),λ_ _ _ h=>(nomatch h),λ_ h=>(nomatch h),tL _⟩;have step:∀(D:Ends) (i:Nat) (x:V) (σ:L2.St) (H2:Hp),(∀σ' H',PtI H a d l (xs.zip PP) (i+1) σ' H'->D.nx σ' H')->xs[i]? = some x->PtI H a d l (xs.zip PP) i σ H2->jV 3 x σ H2 fun σ2 H3=>tDrop (tBM K "list" rAppend (XF (kH 2) (tOp (LB K) (tOp (LB K) (kH 3) (tC (V.int 0))) (kH 1)) (tLstF tNil)) (xM (kH 3) tNil)) D σ2 H3:=by
   rintro D i x σ H2 hD hx ⟨s2,I2⟩;rename_i ah;obtain⟨y,hy,r,b,c,rfl,r1,r2,r3⟩:=Paired.at pr hx;have ym:=gQ hy;have zt:=WD pr hx hy;have tk:(xs.zip PP).take (i+1)=(xs.zip PP).take i++[(.ref r,y)]:=by rw[mI,zt];rfl
   have il:i<xs.length:=(gE.mp hx).1;have ll:=I2.ln;rw[mP]at ll;refine⟨_,rfl,d,rfl,.inl ⟨_,.inl I2.e⟩,_,rfl,_,_,_,_,rfl,rfl,SqT.of (s2 _ _ r1),rfl,_,rfl,b,_,_,_,rfl,rfl,SqT.of (s2 _ _ r2),qO (by rw[mG,qN (show l<y.1.length by rw[lm y ym];exact hl)];rfl),uY,λq H3 n3 s3 e3=>?_⟩;have I3:=I2.same s3;have hs:=s2.trans s3;refine⟨ah,.inl (y.1.getD l 0),I3.e,rfl,by rw[sizeLine_eq];omega,λv hv=>?_,λhv=>?_⟩
   ·obtain⟨q2,rfl,f2,n2,e2,ne2⟩:=I3.yes _ _ hv;have:=List.length_filter_le (λz:V×(List Int×Rat)=>decide (z.2.1.getD l 0=y.1.getD l 0)) ((xs.zip PP).take i);rw[mP]at this;refine⟨.inl ⟨rfl,_,SqL.of e2⟩,_,rfl,q2,_,_,rfl,rfl,e2,by rw[mY,sizeLine_eq];unfold BX;omega,hD _ _ (.mk (ah:=ah) (kA hs f2) ?_)⟩;rw[tk];exact I3.there (z:=(.ref r,y)) hv
   ·have qd:q≠d:=λz=>by rw[z,I2.e]at n3;cases n3
    have eq:(upd H3 d (.dK (qD ah (.inl (y.1.getD l 0)) (.ref q)))) q=some (.lst []):=by rw[jI qd];exact e3
    refine⟨.inl ⟨rfl,_,SqL.of eq⟩,_,rfl,q,_,_,rfl,rfl,eq,(by show 0<sizeLine;decide),hD _ _ (.mk (ah:=qD ah (.inl (y.1.getD l 0)) (.ref q)) (kA (kA hs nd) (s2.free n3)) ?_)⟩;rw[tk];exact I3.new (z:=(.ref r,y)) hv (s2.free n3) qd λzs hz y=>by rw[e3]at y;cases y;exact hz rfl
  have fin:∀σ H2,PtI H a d l (xs.zip PP) xs.length σ H2->KM (kH 2) { nx:=λx H'=>Q V.non H',rt:=Q } σ H2:=by
   rintro σ H2 ⟨s2,I2⟩;rw[<-lz,mR]at I2;exact⟨_,rfl,go d _ H2 nd s2 I2⟩
  rcases ha with ha | ha
  ·exact .inl ⟨_,rfl,a,rfl,⟨_,SqT.of (s0 _ _ ha)⟩,AK (K:=K) (a:=a) (xs:=xs) (PtI H a d l (xs.zip PP)) st0 (λi σ H2 _ h=>by obtain⟨s2,_⟩:=h;exact SqT.of (s2 _ _ ha)) (λi x σ H2 hx h=>step _ i x σ H2 (λ_ _ h=>h) hx h) fin⟩
  ·exact .inr ⟨_,rfl,a,rfl,⟨_,SqL.of (s0 _ _ ha)⟩,AL (K:=K) (a:=a) (xs:=xs) (PtI H a d l (xs.zip PP)) st0 (λi σ H2 _ h=>by obtain⟨s2,_⟩:=h;exact SqL.of (s2 _ _ ha)) (λi x σ H2 hx h=>step _ i x σ H2 (λ_ _ h=>h) hx h) fin⟩
def qL(P:Pl)(l:Nat)(p:Int):Pl:=P.filter λx=>decide (x.1.getD l 0=p)
def mxP(P:Pl)(l:Nat):Int:=(P.map λx=>x.1.getD l 0).foldr max 0
def wV(g:Int->Tb->Tb)(m:Nat):Nat->Tb
 | 0=>[]
 | i+1=>g ((m:Int)-i) (wV g m i)
def xG(Td:Tb)(rec:Pl->Tb)(P:Pl)(l:Nat)(p:Int)(A:Tb):Tb:=if qL P l p=[]then vH A Td else addT (vH A Td) (rec (qL P l p))
def yF(Td:Nat->Tb):Nat->Nat->Pl->Tb
 | 0,_,[]=>[]
 | 0,_,x::_=>[(0,x.2)]
 | n+1,l,P=>wV (xG (Td l) (yF Td n (l+1)) P l) (mxP P l).toNat ((mxP P l).toNat+1)
theorem add_ok{T1 T2:Tb}(n1:(T1.map (·.1)).Nodup)(n2:(T2.map (·.1)).Nodup):AddT T1 T2 (addT T1 T2):=by
 have key:∀i,i<=T2.length->AddT T1 (T2.take i) ((T2.take i).foldl WC T1):=by
  intro i;induction i with
  | zero=>exact λ_=>⟨n1,λk hk=>.inl hk,Nat.le_add_right ..,λk=>(tD _).symm⟩
  | succ i ih=>
   intro h;have he:T2[i]? = some T2[i]:=gG #[1];have:=(ih #[1]).step he n2;rw[BO he];exact this
 have:=key T2.length uX ;rw[mR]at this;exact this
theorem WS{T:Tb}(nd:(T.map (·.1)).Nodup){e:Int×Rat}(h:e∈T):e.2=tv T e.1:=by
 induction T with
 | nil=>exact absurd h #[14]
 | cons a T ih=>
  rw[nO,List.nodup_cons]at nd;rw[kS];rcases nP.mp h with rfl | h
  ·rw[tU rfl]
  ·rw[tT (λz=>nd.1 (by rw[z];exact List.mem_map_of_mem h))];exact ih nd.2 h
theorem Ov.mul{D E:Int}{n m:Nat}{x y:Rat}(h:Ov D n x)(k:Ov E m y)(hD:0<D)(hE:0<E):Ov (D*E) (n+m) (x*y):=by
 obtain⟨a,rfl,ha⟩:=h.ex;obtain⟨b,rfl,hb⟩:=k.ex;refine⟨a*b, ?_, ?_⟩
 ·unfold fv;have h1:((D:Int):Rat)≠0:=λz=>by have:D=0:=Rat.intCast_inj.mp (by rw[z];rfl);omega
  have h2:((E:Int):Rat)≠0:=λz=>by have:E=0:=Rat.intCast_inj.mp (by rw[z];rfl);omega
  rw[nF,nF,tN,tN,tN,Rat.inv_mul_rev]
  grind
 ·rw[nH,tO];exact nJ ha hb
theorem MM{ns:List Int}{l:Nat}(h:l<ns.length)(nn:∀n∈ns,0<=n):(ns.drop l).sum=ns.getD l 0+(ns.drop (l+1)).sum/\0<=ns.getD l 0/\0<=(ns.drop (l+1)).sum:=by
 refine⟨?_, ?_, ?_⟩
 ·rw[List.drop_eq_getElem_cons h,nT,gB,gG h]
  rfl
 ·exact nn _ (gQ (qN h))
 ·have:∀m:List Int,(∀n∈m,0<=n)->0<=m.sum:=λm=>by
   induction m with
   | nil=>exact λ_=>tP _
   | cons a m ih=>
    intro h;rw[nT];have:=h a (mD ..);have:=ih λn hn=>h n (gS _ hn);omega
  exact this _ λn hn=>nn n (List.mem_of_mem_drop hn)
theorem part_mem{P:Pl}{l:Nat}{p:Int}{x:List Int×Rat} :x∈qL P l p↔x∈P/\x.1.getD l 0=p:=by
 unfold qL;rw[List.mem_filter];exact and_congr_right λ_=>decide_eq_true_iff
def lf(m:Int->Rat):Tb->Rat
 | []=>0
 | e::T=>e.2*m e.1+lf m T
theorem kQ(m:Int->Rat)(e:Int×Rat)(T:Tb):lf m (e::T)=e.2*m e.1+lf m T:=rfl
theorem lf_app(m:Int->Rat):∀A B:Tb,lf m (A++B)=lf m A+lf m B
 | [],B=>(nZ _).symm
 | e::A,B=>by rw[List.cons_append,kQ,kQ,lf_app m A B,Rat.add_assoc]
theorem yW{m m':Int->Rat} :∀{T:Tb},(∀e∈T,m e.1=m' e.1)->lf m T=lf m' T
 | [],_=>rfl
 | e::T,h=>by rw[kQ,kQ,h e (mD ..),yW λe' he=>h e' (gS _ he)]
theorem lf_map{m:Int->Rat}{k:Int}{x:Rat} :∀{T:Tb},k∈T.map (·.1)->(T.map (·.1)).Nodup->lf m (T.map λe=>if e.1=k then(e.1,x)else e)=lf m T+(x-tv T k)*m k
 | [],h,_=>nomatch h
 | e::T,h,nd=>by
  rw[nO,List.nodup_cons]at nd;rw[nO,kQ,kQ,kS];by_cases q:e.1=k
  ·rw[tU q,tU q];have:T.map (λe=>if e.1=k then(e.1,x)else e)=T:=by
    conv=>rhs;rw[<-List.map_id T]
    refine List.map_congr_left λa ha=>?_;rw[tT (λz=>nd.1 (by rw[q,<-z];exact List.mem_map_of_mem ha))]
    rfl
   rw[this];show x*m e.1+_=_;rw[q]
   grind
  ·rw[tT q,tT q];have r:k∈T.map (·.1):=by
    rcases nY.mp h with⟨a,ha,e1⟩
    rcases nP.mp ha with rfl | ha
    ·exact absurd e1 q
    ·exact e1▸List.mem_map_of_mem ha
   rw[lf_map r nd.2]
   grind
theorem lf_put{m:Int->Rat}{T:Tb}(nd:(T.map (·.1)).Nodup)(k:Int)(x:Rat):lf m (xO T k x)=lf m T+(x-tv T k)*m k:=by
 by_cases h:k∈T.map (·.1)
 ·unfold xO;rw[tU (any_key.mpr h)];exact lf_map h nd
 ·rw[yS h,lf_app,qJ h];show lf m T+(x*m k+0)=_
  grind
theorem SB(m:Int->Rat):∀(T2:Tb) {A:Tb},(A.map (·.1)).Nodup->lf m (T2.foldl WC A)=lf m A+lf m T2
 | [],A,_=>(tD _).symm
 | e::T,A,nd=>by
  rw[List.foldl_cons,SB m T (show((WC A e).map (·.1)).Nodup from xS nd),kQ];unfold WC;rw[lf_put nd]
  grind
theorem lf_add(m:Int->Rat){A:Tb}(B:Tb)(nd:(A.map (·.1)).Nodup):lf m (addT A B)=lf m A+lf m B:=SB m B nd
theorem RZ(m:Int->Rat)(e1:Int×Rat):∀(T2:Tb) {A:Tb},(A.map (·.1)).Nodup->lf m (T2.foldl (AG e1) A)=lf m A+e1.2*lf (λb=>m (e1.1+b)) T2/\((T2.foldl (AG e1) A).map (·.1)).Nodup
 | [],A,nd=>⟨by show _=_+e1.2*0;grind,nd⟩
 | e::T,A,nd=>by
  have n2:((AG e1 A e).map (·.1)).Nodup:=xS nd;have ih:=RZ m e1 T n2;rw[List.foldl_cons];refine⟨?_,ih.2⟩;rw[ih.1,kQ];unfold AG;rw[lf_put nd]
  grind
theorem SA(m:Int->Rat)(T2:Tb):∀(T1:Tb) {A:Tb},(A.map (·.1)).Nodup->lf m (T1.foldl (LW T2) A)=lf m A+lf (λa=>lf (λb=>m (a+b)) T2) T1
 | [],A,nd=>by show _=_+(0:Rat);grind
 | e::T,A,nd=>by
  have h:=RZ m e T2 nd;rw[List.foldl_cons,SA m T2 T (show((LW T2 A e).map (·.1)).Nodup from h.2),kQ];unfold LW;rw[h.1]
  grind
theorem OB(m:Int->Rat)(A B:Tb):lf m (vH A B)=lf (λa=>lf (λb=>m (a+b)) B) A:=by
 unfold vH;rw[SA m B A (A:=[]) nM];exact nZ _
theorem RY(m m':Int->Rat):∀T:Tb,lf (λk=>m k+m' k) T=lf m T+lf m' T
 | []=>(nZ _).symm
 | e::T=>by rw[kQ,kQ,kQ,RY m m' T];grind
theorem AH(m:Int->Rat)(c:Rat):∀T:Tb,lf (λk=>m k*c) T=lf m T*c
 | []=>(tF _).symm
 | e::T=>by rw[kQ,kQ,AH m c T];grind
theorem RW:∀T:Tb,lf (λ_=>0) T=0
 | []=>rfl
 | e::T=>by rw[kQ,RW T];grind
theorem RX(m:Int->Int->Rat)(B:Tb):∀A:Tb,lf (λa=>lf (λb=>m a b) B) A=lf (λb=>lf (λa=>m a b) A) B
 | []=>(RW B).symm
 | e::A=>by
  rw[kQ,RX m B A];have:(λb=>lf (λa=>m a b) (e::A))=λb=>m e.1 b*e.2+lf (λa=>m a b) A:=by funext b;rw[kQ,tI]
  rw[this,RY,AH,tI]
theorem lf_prod{m:Int->Rat}(h:∀a∈A,∀b∈B,m (a.1+b.1)=m a.1*m b.1):lf m (vH A B)=lf m A*lf m B:=by
 rw[OB,<-AH];refine yW λa ha=>?_;rw[yW (m':=λb=>m b*m a.1) λb hb=>by rw[h a ha b hb,tI],AH,tI]
def dl(k j:Int):Rat:=if j=k then 1 else 0
theorem SD{k:Int} :∀{T:Tb},(T.map (·.1)).Nodup->lf (dl k) T=tv T k
 | [],_=>rfl
 | e::T,nd=>by
  rw[nO,List.nodup_cons]at nd;rw[kQ,kS,SD nd.2];unfold dl;by_cases q:e.1=k
  ·rw[tU q,tU q,qJ (by rw[<-q];exact nd.1)]
   grind
  ·rw[tT q,tT q]
   grind
def sk(f:Int->Rat):List Int->Rat
 | []=>0
 | k::K=>f k+sk f K
theorem QI(f g:Int->Rat):∀K,sk (λk=>f k+g k) K=sk f K+sk g K
 | []=>(nZ _).symm
 | k::K=>by show f k+g k+sk _ K=f k+sk f K+(g k+sk g K);rw[QI f g K];grind
theorem XU{f:Int->Rat}{j:Int} :∀{K:List Int},j∈K->K.Nodup->(∀k,k≠j->f k=0)->sk f K=f j
 | [],h,_,_=>nomatch h
 | k::K,h,nd,z=>by
  rw[List.nodup_cons]at nd;show f k+sk f K=_;by_cases q:k=j
  ·subst q;have:∀{K:List Int},k∉K->sk f K=0:=fun {K} =>by
    induction K with
    | nil=>exact λ_=>rfl
    | cons a K ih=>intro h;show f a+sk f K=0;rw[ih λy=>h (gS _ y),z a (λy=>h (y▸mD ..)),nZ]
   rw[this nd.1,tD]
  ·rw[z k q,nZ];exact XU ((nP.mp h).resolve_left (Ne.symm q)) nd.2 z
theorem QH{f:Int->Rat}(z:∀k,f k=0):∀K:List Int,sk f K=0
 | []=>rfl
 | k::K=>by show f k+sk f K=0;rw[z,QH z K,nZ]
theorem JJ{m:Int->Rat}{K:List Int}(nK:K.Nodup):∀{T:Tb},(T.map (·.1)).Nodup->(∀e∈T,e.1∈K)->lf m T=sk (λk=>tv T k*m k) K
 | [],_,_=>(QH (λk=>tF _) K).symm
 | e::T,nd,h=>by
  rw[nO,List.nodup_cons]at nd;have ih:=JJ (m:=m) nK nd.2 λe' he=>h e' (gS _ he);have:(λk=>tv (e::T) k*m k)=λk=>(if k=e.1 then e.2*m k else 0)+tv T k*m k:=by
   funext k
   rw[kS];by_cases q:e.1=k
   ·rw[tU q,tU q.symm,qJ (T:=T) (by rw[<-q];exact nd.1)]
    grind
   ·rw[tT q,tT (Ne.symm q)]
    grind
  rw[kQ,ih,this,QI,XU (h e (mD ..)) nK λk q=>tT q,tU rfl]
theorem OC{m:Int->Rat}{A B:Tb}(nA:(A.map (·.1)).Nodup)(nB:(B.map (·.1)).Nodup)(h:∀k,tv A k=tv B k):lf m A=lf m B:=by
 have nK:(A.map (·.1)++(B.map (·.1)).filter λk=>decide (k∉A.map (·.1))).Nodup:=by
  rw[mL];refine⟨nA,nB.filter _,λa ha b hb=>?_⟩;rintro rfl;exact mK (List.mem_filter.mp hb).2 ha
 rw[JJ nK nA λe he=>List.mem_append_left _ (List.mem_map_of_mem he),JJ nK nB λe he=>?_]
 ·congr 1
  funext k
  rw[h]
 ·by_cases q:e.1∈A.map (·.1)
  ·exact List.mem_append_left _ q
  ·exact gM _ (List.mem_filter.mpr ⟨List.mem_map_of_mem he,nG q⟩)
theorem lf_ov{m:Int->Rat}{D:Int}{n:Nat}(hD:0<D):∀{T:Tb},(∀e∈T,Ov D n (e.2*m e.1))->∃z:Int,lf m T=fv z D/\z.natAbs<=T.length*2^n
 | [],_=>⟨0,(show(0:Rat)=_ by unfold fv;rw[show((0:Int):Rat)=0 from rfl,tN,tF]),tL _⟩
 | e::T,h=>by
  obtain⟨z,e1,h1⟩:=lf_ov hD λe' he=>h e' (gS _ he);obtain⟨y,e2,h2⟩:=(h e (mD ..)).ex;refine⟨y+z,by rw[kQ,e1,e2,SS hD], ?_⟩;rw[mS,Nat.succ_mul];omega
theorem lf_ov2{m:Int->Rat}{D:Int}{n c:Nat}(hD:0<D){T:Tb}(h:∀e∈T,Ov D n (e.2*m e.1))(l:T.length<=2^c):Ov D (n+c) (lf m T):=by
 obtain⟨z,e,hz⟩:=lf_ov hD h;refine⟨z,e,nW hz ?_⟩;rw[Nat.add_comm,tO];exact gW _ l
theorem WO{A B:Tb}(nA:(A.map (·.1)).Nodup)(k:Int):tv (vH A B) k=lf (λb=>tv A (k-b)) B:=by
 rw[<-SD (AF A B).nd,OB,RX];refine yW λb _=>?_;rw[<-SD nA];refine yW λa _=>?_;unfold dl;by_cases q:a.1+b.1=k
 ·rw[tU q,tU #[1]]
 ·rw[tT q,tT #[1]]
theorem GX{D:Int}{n:Nat}(h:∀e∈T,Ov D n e.2)(k:Int):Ov D n (tv T k):=by
 rcases WR (T:=T) (k:=k)with z | ⟨e,he,z⟩
 ·rw[z];exact .zero _ _
 ·rw[<-z];exact h e he
theorem ZC{A B:Tb}{D E:Int}{n m c:Nat}(nA:(A.map (·.1)).Nodup)(hD:0<D)(hE:0<E)(hA:∀e∈A,Ov D n e.2)(hB:∀e∈B,Ov E m e.2)(l:B.length<=2^c)(k:Int):Ov (D*E) (n+m+c) (tv (vH A B) k):=by
 rw[WO nA];refine lf_ov2 (tM hD hE) (λe he=>?_) l;rw[tI];exact(GX hA _).mul (hB e he) hD hE
def el(μ:List Int->Rat):Pl->Rat
 | []=>0
 | x::P=>x.2*μ x.1+el μ P
theorem vG(μ:List Int->Rat)(x:List Int×Rat)(P:Pl):el μ (x::P)=x.2*μ x.1+el μ P:=rfl
theorem qI{μ ν:List Int->Rat} :∀{P:Pl},(∀x∈P,μ x.1=ν x.1)->el μ P=el ν P
 | [],_=>rfl
 | x::P,h=>by rw[vG,vG,h x (mD ..),qI λy hy=>h y (gS _ hy)]
theorem CQ(μ ν:List Int->Rat):∀P:Pl,el (λn=>μ n+ν n) P=el μ P+el ν P
 | []=>(nZ _).symm
 | x::P=>by rw[vG,vG,vG,CQ μ ν P];grind
theorem wR(μ:List Int->Rat)(c:Rat):∀P:Pl,el (λn=>μ n*c) P=el μ P*c
 | []=>(tF _).symm
 | x::P=>by rw[vG,vG,wR μ c P];grind
theorem el_cf(ns:List Int):∀P:Pl,cf P ns=el (λm=>if m=ns then 1 else 0) P
 | []=>rfl
 | x::P=>by
  rw[yN,vG,el_cf ns P];by_cases q:x.1=ns
  ·rw[tU q,tU q,Rat.mul_one]
  ·rw[tT q,tT q,Rat.mul_zero]
theorem JI(m:Int->Rat):∀P:Pl,lf m (jL P)=el (λn=>m (pk n)) P
 | []=>rfl
 | x::P=>by show x.2*m (pk x.1)+lf m (jL P)=_;rw[JI m P];rfl
theorem FJ{ns:List Int}(h:∀n∈ns,0<=n)(h2:ns.sum<=255):Byt ns:=λn hn=>by
 have h3:=(qM h hn).1;have h4:=h n hn;omega
theorem wF{aa:Nat}{P:Pl}(ok:PlOk aa P)(μ:List Int->Rat):el μ P=lf (λk=>μ (unp aa k)) (jL P):=by
 rw[JI];exact qI λx hx=>by rw[xU aa (ok.len x hx) (ok.byt hx)]
theorem sumT_tv{aa:Nat}{T:Tb}{P:Pl}(h:SumT aa T P)(ky:∀k∈T.map (·.1),KyP aa k)(k:Int):tv (jL P) k=tv T k:=by
 by_cases q:KyP aa k
 ·obtain⟨ns,hl,hn,hs,rfl⟩:=q;rw[h.ok.tv hl (vL hn hs),h.vl ns hl (vL hn hs)]
 ·rw[qJ λz=>q (h.ok.ky k z),qJ λz=>q (ky k z)]
theorem SumT.el{aa:Nat}{T:Tb}{P:Pl}(h:SumT aa T P)(nd:(T.map (·.1)).Nodup)(ky:∀k∈T.map (·.1),KyP aa k)(μ:List Int->Rat):Lw.el μ P=lf (λk=>μ (unp aa k)) T:=by
 rw[wF h.ok];exact OC h.ok.nd nd (sumT_tv h ky)
theorem LM{aa:Nat}{a b:List Int}(la:a.length=aa)(lb:b.length=aa)(na:∀n∈a,0<=n)(nb:∀n∈b,0<=n)(s:a.sum+b.sum<=255):unp aa (pk a+pk b)=kN a b:=by
 rw[<-ED aa la lb];refine xU aa (by unfold kN;rw[List.length_zipWith];omega) (FJ (AC na nb) ?_);rw[vR #[1]];exact s
theorem PlOk.padd{aa:Nat}{P Q:Pl}(o1:PlOk aa P)(o2:PlOk aa Q){x y:List Int×Rat}(hx:x∈P)(hy:y∈Q):unp aa (pk x.1+pk y.1)=kN x.1 y.1:=by
 have:=o1.deg x hx;have:=o2.deg y hy;exact LM (o1.len x hx) (o2.len y hy) (o1.nn x hx) (o2.nn y hy) #[1]
theorem AO{aa:Nat}{P1 P2 P:Pl}(o1:PlOk aa P1)(o2:PlOk aa P2)(hd:qK P1+qK P2<=16)(h:SumT aa (vH (jL P1) (jL P2)) P)(μ:List Int->Rat):el μ P=el (λa=>el (λb=>μ (kN a b)) P2) P1:=by
 rw[h.el (AF _ _).nd (mul_ky o1 o2 hd),OB,JI];refine qI λx hx=>?_;rw[JI];exact qI λy hy=>by rw[o1.padd o2 hx hy]
theorem el_ext{aa:Nat}{P Q:Pl}(o1:PlOk aa P)(o2:PlOk aa Q)(h:∀μ,el μ P=el μ Q):P=Q:=pl_uniq o1 o2 λns _ _=>by rw[el_cf,el_cf,h]
theorem ky_byt{aa:Nat}{k:Int}(h:KyP aa k):∃ns:List Int,ns.length=aa/\Byt ns/\k=pk ns:=let ⟨ns,h1,h2,h3,h4⟩:=h;⟨ns,h1,vL h2 h3,h4⟩
theorem XE{aa:Nat}{P:Pl}(o:PlOk aa P){g:Int->Rat}(h:∀ns:List Int,ns.length=aa->Byt ns->cf P ns=g (pk ns))(h0:∀k,¬KyP aa k->g k=0)(k:Int):tv (jL P) k=g k:=by
 by_cases q:KyP aa k
 ·obtain⟨ns,hl,hb,rfl⟩:=ky_byt q;rw[o.tv hl hb,h ns hl hb]
 ·rw[qJ λz=>q (o.ky k z),h0 k q]
theorem JU{aa:Nat}{P1 P2 P:Pl}(o1:PlOk aa P1)(o2:PlOk aa P2)(o:PlOk aa P)(h:∀ns:List Int,ns.length=aa->Byt ns->cf P ns=cf P1 ns+cf P2 ns)(μ:List Int->Rat):el μ P=el μ P1+el μ P2:=by
 have a:=add_ok o1.nd o2.nd;rw[wF o,wF o1,wF o2,<-lf_add _ _ o1.nd];refine OC o.nd a.nd λk=>?_;rw[a.vl];refine XE (g:=λk=>tv (jL P1) k+tv (jL P2) k) o (λns hl hb=>?_) (λk q=>?_) k
 ·rw[h ns hl hb,o1.tv hl hb,o2.tv hl hb]
 ·show tv (jL P1) k+tv (jL P2) k=0;rw[qJ λz=>q (o1.ky k z),qJ λz=>q (o2.ky k z),nZ]
theorem MC(m:Int->Rat)(y:Rat):∀T:Tb,lf m (T.map λe=>(e.1,e.2*y))=lf m T*y
 | []=>(tF _).symm
 | e::T=>by rw[nO,kQ,kQ,MC m y T];grind
theorem VP{aa:Nat}{P1 P:Pl}{y:Rat}(o1:PlOk aa P1)(o:PlOk aa P)(h:∀ns:List Int,ns.length=aa->Byt ns->cf P ns=cf P1 ns*y)(μ:List Int->Rat):el μ P=el μ P1*y:=by
 have ks:((jL P1).map λe=>(e.1,e.2*y)).map (·.1)=(jL P1).map (·.1):=by rw[tG];rfl
 rw[wF o,wF o1,<-MC];refine OC o.nd (by rw[ks];exact o1.nd) λk=>?_;rw[DE];refine XE (g:=λk=>tv (jL P1) k*y) o (λns hl hb=>?_) (λk q=>?_) k
 ·rw[h ns hl hb,o1.tv hl hb]
 ·show tv (jL P1) k*y=0;rw[qJ λz=>q (o1.ky k z),tF]
def dm(l:Nat)(μ:List Int->Rat)(ns:List Int):Rat:=if 0<ns.getD l 0 then((ns.getD l 0:Int):Rat)*μ (yC ns l)else 0
theorem lf_sl(m:Int->Rat)(l:Nat):∀P:Pl,lf m (slT P l)=el (dm l λn=>m (pk n)) P
 | []=>rfl
 | x::P=>by
  rw[vG,<-lf_sl m l P];unfold slT dm;by_cases c:0<x.1.getD l 0
  ·rw[List.filterMap_cons_some (show slE l x=_ from tU c),tU c,kQ,Rat.mul_assoc]
  ·rw[List.filterMap_cons_none (show slE l x=none from tT c),tT c,Rat.mul_zero,nZ]
theorem sl_ky{aa l:Nat}{P:Pl}(ok:PlOk aa P)(hl:l<aa):∀k∈(slT P l).map (·.1),KyP aa k:=λk hk=>by
 obtain⟨x,hx,hp,rfl⟩:=IJ ok (λ_ h=>h) hl hk;have ky:=uD ok hx hl hp;exact⟨_,ky.1,ky.2.1,ky.2.2,rfl⟩
theorem sl_nd'{aa l:Nat}{P:Pl}(ok:PlOk aa P)(hl:l<aa):((slT P l).map (·.1)).Nodup:=by
 have:=QF ok hl P.length uX ;rw[mR]at this;exact this
theorem yY{aa l:Nat}{P1 P:Pl}(o1:PlOk aa P1)(hl:l<aa)(h:SumT aa (slT P1 l) P)(μ:List Int->Rat):el μ P=el (dm l μ) P1:=by
 rw[h.el (sl_nd' o1 hl) (sl_ky o1 hl),lf_sl];refine qI λx hx=>?_;unfold dm;by_cases c:0<x.1.getD l 0
 ·have ky:=uD o1 hx hl c;rw[tU c,tU c];dsimp only;rw[xU aa ky.1 (vL ky.2.1 ky.2.2)]
 ·rw[tT c,tT c]
theorem ZB{a b:List Int}{l:Nat}(ha:l<a.length)(hb:l<b.length):(kN a b).getD l 0=a.getD l 0+b.getD l 0:=by
 unfold kN;rw[gB,List.getElem?_zipWith,qN ha,qN hb]
 rfl
theorem RV:∀{a b:List Int} {l:Nat},l<a.length->l<b.length->yC (kN a b) l=kN (yC a l) b/\yC (kN a b) l=kN a (yC b l)
 | [],_,_,h,_=>by simp at h
 | _::_,[],_,_,h=>by simp at h
 | x::a,y::b,0,_,_=>by
  constructor
  ·show(x+y-1)::kN a b=(x-1+y)::kN a b
   congr 1
   omega
  ·show(x+y-1)::kN a b=(x+(y-1))::kN a b
   congr 1
   omega
 | x::a,y::b,l+1,h1,h2=>by
  have ih:=RV (a:=a) (b:=b) (l:=l) (by simpa using h1) (by simpa using h2);exact⟨congrArg (λt=>(x+y)::t) ih.1,congrArg (λt=>(x+y)::t) ih.2⟩
theorem dm_add{a b:List Int}{l:Nat}(ha:l<a.length)(hb:l<b.length)(na:0<=a.getD l 0)(nb:0<=b.getD l 0)(μ:List Int->Rat):dm l μ (kN a b)=dm l (λa'=>μ (kN a' b)) a+dm l (λb'=>μ (kN a b')) b:=by
 obtain⟨e1,e2⟩:=RV ha hb;unfold dm;rw[ZB ha hb];by_cases c:0<a.getD l 0
 ·rw[tU c,tU (show 0<a.getD l 0+b.getD l 0 by omega),Rat.intCast_add];by_cases d:0<b.getD l 0
  ·rw[tU d];dsimp only;rw[<-e1,<-e2]
   grind
  ·rw[tT d];dsimp only;rw[<-e1,show b.getD l 0=0 by omega,show((0:Int):Rat)=0 from rfl]
   grind
 ·by_cases d:0<b.getD l 0
  ·rw[tT c,tU d,tU (show 0<a.getD l 0+b.getD l 0 by omega)];dsimp only;rw[<-e2,show a.getD l 0=0 by omega,Int.zero_add]
   grind
  ·rw[tT c,tT d,tT (show ¬0<a.getD l 0+b.getD l 0 by omega),nZ]
theorem dm_el(l:Nat)(f:List Int->List Int->Rat)(ns:List Int):∀P:Pl,dm l (λa=>el (f a) P) ns=el (λb=>dm l (λa=>f a b) ns) P
 | []=>by
  unfold dm;split
  ·exact Rat.mul_zero _
  ·rfl
 | x::P=>by
  rw[vG,<-dm_el l f ns P];unfold dm;by_cases c:0<ns.getD l 0
  ·rw[tU c,tU c,tU c];dsimp only;rw[vG]
   grind
  ·rw[tT c,tT c,tT c]
   grind
theorem PlOk.gt{aa:Nat}{P:Pl}(ok:PlOk aa P){x:List Int×Rat}(hx:x∈P){l:Nat}(hl:l<aa):l<x.1.length/\0<=x.1.getD l 0:=by
 have h:=ok.len x hx;exact⟨by omega,ok.nn x hx _ (gQ (qN (show l<x.1.length by omega)))⟩
theorem NL{aa l:Nat}(o1:PlOk aa P1)(o2:PlOk aa P2)(hl:l<aa)(μ:List Int->Rat):el (λa=>el (λb=>dm l μ (kN a b)) P2) P1=el (dm l λa=>el (λb=>μ (kN a b)) P2) P1+el (λa=>el (dm l λb=>μ (kN a b)) P2) P1:=by
 rw[<-CQ];refine qI λx hx=>?_;rw[dm_el l (λa b=>μ (kN a b)),<-CQ];exact qI λy hy=>dm_add (o1.gt hx hl).1 (o2.gt hy hl).1 (o1.gt hx hl).2 (o2.gt hy hl).2 μ
theorem max_in{α:Type}(f:α->Int):∀{l:List α},l≠[]->∃a∈l,∀b∈l,f b<=f a
 | [],h=>absurd rfl h
 | [a],_=>⟨a,mD ..,λb hb=>by rw[mB.mp hb];exact tP _⟩
 | a::c::l,_=>by
  obtain⟨x,hx,h⟩:=max_in f (l:=c::l) #[14];by_cases q:f x<=f a
  ·exact⟨a,mD ..,λb hb=>by
    rcases nP.mp hb with rfl | hb
    ·exact tP _
    ·exact Int.le_trans (h b hb) q⟩
  ·exact⟨x,gS _ hx,λb hb=>by
    rcases nP.mp hb with rfl | hb
    ·omega
    ·exact h b hb⟩
def kap(x:List Int×Rat):Int:=x.1.sum*2^40+pk x.1
theorem PlOk.pkb{aa:Nat}{P:Pl}(o:PlOk aa P){x:List Int×Rat}(hx:x∈P):0<=pk x.1/\pk x.1<2^32:=by
 have h1:=YL (o.byt hx);have h2:=zT (o.byt hx) (by rw[o.len x hx];exact o.m4);exact⟨h1,by omega⟩
theorem PlOk.top{aa:Nat}{P:Pl}(o:PlOk aa P)(ne:P≠[]):∃a∈P,(∀b∈P,kap b<=kap a)/\a.1.sum=qK P:=by
 obtain⟨a,ha,h⟩:=max_in kap ne;refine⟨a,ha,h,deg_eq (List.mem_map_of_mem (f:=λx:List Int×Rat=>x.1.sum) ha) (λy hy=>?_) ?_⟩
 ·obtain⟨b,hb,rfl⟩:=nY.mp hy;have p1:=o.pkb ha;have p2:=o.pkb hb;have:=h b hb;unfold kap at this;omega
 ·match hh:a.1 with
  | []=>exact tP _
  | n::r=>rw[<-hh];exact(qM (n:=n) (o.nn a ha) (by rw[hh];exact mD ..)).2
theorem pk_two{aa:Nat}{P Q:Pl}(o1:PlOk aa P)(o2:PlOk aa Q){x a y b:List Int×Rat}(hx:x∈P)(ha:a∈P)(hy:y∈Q)(hb:b∈Q)(e:pk x.1+pk y.1=pk a.1+pk b.1):x.1.sum+y.1.sum=a.1.sum+b.1.sum:=by
 have u1:=o1.padd o2 hx hy;have u2:=o1.padd o2 ha hb;rw[e,u2]at u1;have:=congrArg List.sum u1;rw[vR (by rw[o1.len _ ha,o2.len _ hb]),vR (by rw[o1.len _ hx,o2.len _ hy])]at this;exact this.symm
theorem WP{aa:Nat}{P:Pl}(o:PlOk aa P){x:List Int×Rat}(hx:x∈P):tv (jL P) (pk x.1)=x.2:=(WS o.nd (e:=(pk x.1,x.2)) (List.mem_map_of_mem (f:=λx:List Int×Rat=>(pk x.1,x.2)) hx)).symm
theorem tv_nz{P:Pl}{k:Int}(h:tv (jL P) k≠0):∃x∈P,pk x.1=k:=by
 have:k∈(jL P).map (·.1):=gD λz=>h (qJ z);rw[vI]at this;obtain⟨x,hx,e⟩:=nY.mp this;exact⟨x,hx,e⟩
theorem deg_prod{aa:Nat}{P1 P2 P:Pl}(o1:PlOk aa P1)(o2:PlOk aa P2)(n1:P1≠[])(n2:P2≠[])(hd:qK P1+qK P2<=16)(h:SumT aa (vH (jL P1) (jL P2)) P):qK P=qK P1+qK P2:=by
 obtain⟨a,ha,ma,da⟩:=o1.top n1;obtain⟨b,hb,mb,db⟩:=o2.top n2;have la:=o1.len a ha;have lb:=o2.len b hb;have pa:=o1.pkb ha;have pb:=o2.pkb hb;have val:tv (vH (jL P1) (jL P2)) (pk a.1+pk b.1)=b.2*a.2:=by
  rw[WO o1.nd,yW (m':=λk=>dl (pk b.1) k*a.2) λe he=>?_,AH,SD o2.nd,WP o2 hb];obtain⟨y,hy,rfl⟩:=nY.mp he;show tv (jL P1) (pk a.1+pk b.1-pk y.1)=dl (pk b.1) (pk y.1)*a.2;unfold dl;by_cases q:pk y.1=pk b.1
  ·rw[tU q,q,show pk a.1+pk b.1-pk b.1=pk a.1 by omega,WP o1 ha,Rat.one_mul]
  ·rw[tT q,tF];refine gD λz=>?_;obtain⟨x,hx,e⟩:=tv_nz z;have s:=pk_two o1 o2 hx ha hy hb #[1];have k1:=ma x hx;have k2:=mb y hy;have py:=o2.pkb hy;unfold kap at k1 k2;omega
 have nz:b.2*a.2≠0:=λz=>by
  rcases Rat.mul_eq_zero.mp z with z | z
  ·exact o2.nz b hb z
  ·exact o1.nz a ha z
 have sp:(kN a.1 b.1).sum=a.1.sum+b.1.sum:=vR #[1];have hpl:(kN a.1 b.1).length=aa:=by unfold kN;rw[List.length_zipWith];omega
 have hpb:Byt (kN a.1 b.1):=FJ (AC (o1.nn a ha) (o2.nn b hb)) #[1];have c:=h.vl _ hpl hpb;rw[ED aa la lb,val]at c;have mem:=TK (by rw[c];exact nz);obtain⟨x,hx,e⟩:=nY.mp mem;refine Int.le_antisymm (JX (λx hx=>?_) (by rw[<-da,<-db];have:=(o1.gt ha (show 0<aa from o1.m1));have u1:0<=a.1.sum:=by { match hh:a.1 with | []=>exact tP _ | n::r=>rw[<-hh];exact(qM (n:=n) (o1.nn a ha) (by rw[hh];exact mD ..)).2 };have u2:0<=b.1.sum:=by { match hh:b.1 with | []=>exact tP _ | n::r=>rw[<-hh];exact(qM (n:=n) (o2.nn b hb) (by rw[hh];exact mD ..)).2 };omega)) ?_
 ·have e1:=h.at' x hx;have e2:=h.ok.nz x hx;rw[e1]at e2;have km:pk x.1∈(vH (jL P1) (jL P2)).map (·.1):=gD λz=>e2 (qJ z);obtain⟨f1,h1,f2,h2,ee⟩:=(AF _ _).ks _ km;obtain⟨u,hu,rfl⟩:=nY.mp h1;obtain⟨v,hv,rfl⟩:=nY.mp h2;have ee:pk x.1=pk u.1+pk v.1:=ee;have uv:=o1.padd o2 hu hv;rw[<-ee,xU aa (h.ok.len x hx) (h.ok.byt hx)]at uv;rw[uv,vR (by rw[o1.len u hu,o2.len v hv])];have d1:u.1.sum<=qK P1:=qY (List.mem_map_of_mem (f:=λz:List Int×Rat=>z.1.sum) hu);have d2:v.1.sum<=qK P2:=qY (List.mem_map_of_mem (f:=λz:List Int×Rat=>z.1.sum) hv);omega
 ·rw[<-da,<-db,<-sp,<-e];exact qY (List.mem_map_of_mem (f:=λz:List Int×Rat=>z.1.sum) hx)
end Lw
namespace LwQ
theorem fv_pow{t b:Int}(hb:0<b):∀(n m:Nat),n<=m->((t^n*b^(m-n):Int):Rat)=fv t b^n*((b^m:Int):Rat)
 | 0,m,_=>by
  rw[Nat.sub_zero,Int.pow_zero,Int.one_mul,Rat.pow_zero,Rat.one_mul]
 | n+1,0,h=>by omega
 | n+1,m+1,h=>by
  have ih:=fv_pow (t:=t) hb n m #[1];have h1:=cne hb;rw[Nat.add_sub_add_right,Rat.pow_succ,Int.pow_succ,Int.pow_succ,nF (b^m) b];have e:t^n*t*b^(m-n)=t^n*b^(m-n)*t:=by grind
  rw[e,nF,ih];unfold fv
  grind
def mono:List (Int×Int)->List Int->Rat
 | p::S,n::ns=>fv p.1 p.2^n.toNat*mono S ns
 | _,_=>1
theorem HE:∀(S:List (Int×Int)) (ns:List Int) (p:Int×Int) (n:Int),S.length=ns.length->mono (S++[p]) (ns++[n])=mono S ns*fv p.1 p.2^n.toNat
 | [],[],p,n,_=>by
  show fv p.1 p.2^n.toNat*1=1*_
  grind
 | q::S,m::ns,p,n,h=>by
  have ih:=HE S ns p n (by simpa using h);show fv q.1 q.2^m.toNat*mono (S++[p]) (ns++[n])=fv q.1 q.2^m.toNat*mono S ns*_;rw[ih]
  grind
 | [],_::_,_,_,h=>by simp at h
 | _::_,[],_,_,h=>by simp at h
theorem mono_take{S:List (Int×Int)}{ns:List Int}{j:Nat}{p:Int×Int}{n:Int}(hS:S[j]? = some p)(hn:ns[j]? = some n):mono (S.take (j+1)) (ns.take (j+1))=mono (S.take j) (ns.take j)*fv p.1 p.2^n.toNat:=by
 obtain⟨h1,e1⟩:=gE.mp hS;obtain⟨h2,e2⟩:=gE.mp hn;rw[List.take_succ_eq_append_getElem h1,List.take_succ_eq_append_getElem h2,e1,e2];refine HE _ _ _ _ ?_;rw[mP,mP];omega
def wG:List (Int×Int)->List Int->Int
 | p::S,m::ms=>p.2^m.toNat*wG S ms
 | _,_=>1
def zP:List (Int×Int)->List Int->List Int->Int
 | p::S,m::ms,n::ns=>p.1^n.toNat*p.2^(m-n).toNat*zP S ms ns
 | _,_,_=>1
theorem HP:∀(S:List (Int×Int)) (ns:List Int) (p:Int×Int) (n:Int),S.length=ns.length->wG (S++[p]) (ns++[n])=wG S ns*p.2^n.toNat
 | [],[],p,n,_=>by
  show p.2^n.toNat*1=1*_
  grind
 | q::S,m::ns,p,n,h=>by
  have ih:=HP S ns p n (by simpa using h);show q.2^m.toNat*wG (S++[p]) (ns++[n])=q.2^m.toNat*wG S ns*_;rw[ih]
  grind
 | [],_::_,_,_,h=>by simp at h
 | _::_,[],_,_,h=>by simp at h
theorem VQ{S:List (Int×Int)}{ns:List Int}{j:Nat}{p:Int×Int}{n:Int}(hS:S[j]? = some p)(hn:ns[j]? = some n):wG (S.take (j+1)) (ns.take (j+1))=wG (S.take j) (ns.take j)*p.2^n.toNat:=by
 obtain⟨h1,e1⟩:=gE.mp hS;obtain⟨h2,e2⟩:=gE.mp hn;rw[List.take_succ_eq_append_getElem h1,List.take_succ_eq_append_getElem h2,e1,e2];refine HP _ _ _ _ ?_;rw[mP,mP];omega
theorem FQ:∀(S:List (Int×Int)) (ms ns:List Int) (p:Int×Int) (m n:Int),S.length=ms.length->S.length=ns.length->zP (S++[p]) (ms++[m]) (ns++[n])=zP S ms ns*p.1^n.toNat*p.2^(m-n).toNat
 | [],[],[],p,m,n,_,_=>by
  show p.1^n.toNat*p.2^(m-n).toNat*1=1*_*_
  grind
 | q::S,a::ms,b::ns,p,m,n,h1,h2=>by
  have ih:=FQ S ms ns p m n (by simpa using h1) (by simpa using h2);show q.1^b.toNat*q.2^(a-b).toNat*zP (S++[p]) (ms++[m]) (ns++[n])=q.1^b.toNat*q.2^(a-b).toNat*zP S ms ns*_*_;rw[ih]
  grind
 | [],[],_::_,_,_,_,_,h=>by simp at h
 | [],_::_,_,_,_,_,h,_=>by simp at h
 | _::_,[],_,_,_,_,h,_=>by simp at h
 | _::_,_::_,[],_,_,_,_,h=>by simp at h
theorem TX{S:List (Int×Int)}{ms ns:List Int}{j:Nat}{p:Int×Int}{m n:Int}(hS:S[j]? = some p)(hm:ms[j]? = some m)(hn:ns[j]? = some n):zP (S.take (j+1)) (ms.take (j+1)) (ns.take (j+1))=zP (S.take j) (ms.take j) (ns.take j)*p.1^n.toNat*p.2^(m-n).toNat:=by
 obtain⟨h1,e1⟩:=gE.mp hS;obtain⟨h2,e2⟩:=gE.mp hm;obtain⟨h3,e3⟩:=gE.mp hn;rw[List.take_succ_eq_append_getElem h1,List.take_succ_eq_append_getElem h2,List.take_succ_eq_append_getElem h3,e1,e2,e3];refine FQ _ _ _ _ _ _ ?_ ?_<;>(rw[mP,mP];omega)
theorem OY:∀(S:List (Int×Int)) (ms ns:List Int),(∀p∈S,0<p.2)->S.length=ms.length->S.length=ns.length->(∀(j:Nat) m n,ms[j]? = some m->ns[j]? = some n->0<=n/\n<=m)->((zP S ms ns:Int):Rat)=mono S ns*((wG S ms:Int):Rat)
 | [],[],[],_,_,_,_=>by
  show((1:Int):Rat)=1*((1:Int):Rat);rw[Rat.one_mul]
 | p::S,m::ms,n::ns,hp,h1,h2,h=>by
  have ih:=OY S ms ns (λq hq=>hp q (gS _ hq)) (by simpa using h1) (by simpa using h2) (λj a b e1 e2=>h (j+1) a b e1 e2);obtain⟨n0,nm⟩:=h 0 m n rfl rfl;show((p.1^n.toNat*p.2^(m-n).toNat*zP S ms ns:Int):Rat)=fv p.1 p.2^n.toNat*mono S ns*((p.2^m.toNat*wG S ms:Int):Rat);have e:(m-n).toNat=m.toNat-n.toNat:=by omega
  rw[nF,ih,e,fv_pow (hp p (mD ..)) n.toNat m.toNat #[1],nF (p.2^m.toNat)]
  grind
 | [],_::_,_,_,h,_,_=>by simp at h
 | [],[],_::_,_,_,h,_=>by simp at h
 | _::_,[],_,_,h,_,_=>by simp at h
 | _::_,_::_,[],_,_,h,_=>by simp at h
theorem FD:∀(S:List (Int×Int)) (ms:List Int),(∀p∈S,0<p.2)->0<wG S ms
 | [],_,_=>by show(0:Int)<1;decide
 | _::_,[],_=>by show(0:Int)<1;decide
 | p::S,m::ms,h=>by
  show 0<p.2^m.toNat*wG S ms;exact tM (Int.pow_pos (h p (mD ..))) (FD S ms λq hq=>h q (gS _ hq))
theorem xH{a:Int}{k:Nat}(h:a.natAbs<=2^k):∀n,(a^n).natAbs<=2^(k*n)
 | 0=>by simp
 | n+1=>by
  rw[Int.pow_succ,nH,Nat.mul_succ,tO];exact nJ (xH h n) h
theorem LV{a b:Int}{m n:Nat}(ha:a.natAbs<=2^m)(hb:b.natAbs<=2^n):(a*b).natAbs<=2^(m+n):=by
 rw[nH,tO];exact nJ ha hb
end LwQ
namespace Lw
open PySem PySem.Spec PyProof.Rows L2 LwQ LwV
def KyD(aa d:Nat)(k:Int):Prop:=∃ns:List Int,ns.length=aa/\(∀n∈ns,0<=n)/\ns.sum<=d/\k=pk ns
theorem KyD.up{aa d e:Nat}{k:Int}(h:KyD aa d k)(l:d<=e):KyD aa e k:=let ⟨ns,h1,h2,h3,h4⟩:=h;⟨ns,h1,h2,by omega,h4⟩
theorem KyD.add{aa d e:Nat}{j k:Int}(h:KyD aa d j)(h':KyD aa e k):KyD aa (d+e) (j+k):=by
 obtain⟨a,a1,a2,a3,rfl⟩:=h;obtain⟨b,b1,b2,b3,rfl⟩:=h';refine⟨kN a b,by unfold kN;rw[List.length_zipWith];omega,AC a2 b2, ?_,(ED aa a1 b1).symm⟩;rw[vR #[1]];omega
theorem KyD.kp{aa d:Nat}{k:Int}(h:KyD aa d k)(l:d<=16):KyP aa k:=let ⟨ns,h1,h2,h3,h4⟩:=h;⟨ns,h1,h2,by omega,h4⟩
theorem KyD.small{aa d:Nat}{k:Int}(h:KyD aa d k)(l:d<=16)(m4:aa<=4):k.natAbs<2^40:=by
 obtain⟨ns,h1,h2,h3,rfl⟩:=h;exact jT (zT (vL h2 #[1]) #[1]) #[0]
def SPk:List Int->Nat->List Int
 | [],0=>[0]
 | [],_+1=>[]
 | [a],p=>[(p:Int)*a]
 | a::b::_,p=>(List.range (p+1)).map λ(i:Nat)=>(i:Int)*a+((p:Int)-i)*b
theorem sp_zero(ks:List Int):(0:Int)∈SPk ks 0:=by
 match ks with
 | []=>exact mD ..
 | [a]=>exact mB.mpr #[14]
 | a::b::_=>exact nY.mpr ⟨0,nI.mpr #[1],by simp⟩
theorem sp_succ{ks:List Int}{p:Nat}{u k:Int}(l:ks.length<=2)(hu:u∈SPk ks p)(hk:k∈ks):u+k∈SPk ks (p+1):=by
 match ks,l,hk with
 | [a],_,hk=>
  have h1:u=(p:Int)*a:=mB.mp hu;have h2:k=a:=mB.mp hk;refine mB.mpr ?_;rw[h1,h2,Int.natCast_add,Int.add_mul];simp
 | [a,b],_,hk=>
  obtain⟨i,hi,rfl⟩:=nY.mp hu;have hi:=nI.mp hi;rcases nP.mp hk with rfl | hk
  ·refine nY.mpr ⟨i+1,nI.mpr #[1], ?_⟩
   grind
  ·have h2:k=b:=mB.mp hk;refine nY.mpr ⟨i,nI.mpr #[1], ?_⟩;rw[h2]
   grind
 | _::_::_::_,l,_=>simp at l
theorem XM(ks:List Int)(p:Nat):(SPk ks p).length<=p+1:=by
 match ks,p with
 | [],0=>exact tK _
 | [],p+1=>exact tL _
 | [a],p=>show 1<=p+1;omega
 | a::b::_,p=>show((List.range (p+1)).map _).length<=_;rw[mY,List.length_range];exact tK _
def pwN(ns:List Int)(l:Nat):Nat:=(ns.getD l 0).toNat
def KS(ks:Nat->List Int):Nat->Nat->List Int->List Int
 | 0,_,_=>[0]
 | n+1,l,ns=>(SPk (ks l) (pwN ns l)).flatMap λu=>(KS ks n (l+1) ns).map (u + ·)
def wt:Nat->Nat->List Int->Nat
 | 0,_,_=>1
 | n+1,l,ns=>(pwN ns l+1)*wt n (l+1) ns
theorem CP{α:Type}{f:α->List Int}{g:α->Nat} :∀{P:List α},(∀x∈P,(f x).length<=g x)->(P.flatMap f).length<=(P.map g).sum
 | [],_=>tK _
 | x::P,h=>by
  rw[List.flatMap_cons,hJ,nO,nT];exact Nat.add_le_add (h x (mD ..)) (CP λy hy=>h y (gS _ hy))
theorem EZ{f:Int->List Int}{c:Nat} :∀{l:List Int},(∀x∈l,(f x).length<=c)->(l.flatMap f).length<=l.length*c
 | [],_=>tL _
 | x::l,h=>by
  rw[List.flatMap_cons,hJ,mS,Nat.succ_mul];have:=h x (mD ..);have:=EZ (l:=l) λy hy=>h y (gS _ hy);omega
theorem JM(ks:Nat->List Int):∀(n l:Nat) (ns:List Int),(KS ks n l ns).length<=wt n l ns
 | 0,_,_=>tK _
 | n+1,l,ns=>by
  refine nW (EZ (c:=wt n (l+1) ns) λu _=>?_) (gW _ (XM _ _));rw[mY];exact JM ks n (l+1) ns
theorem EO:∀{l m:List Int},l.Nodup->(∀x∈l,x∈m)->l.length<=m.length
 | [],_,_,_=>tL _
 | a::l,m,nd,h=>by
  rw[List.nodup_cons]at nd;have ha:=h a (mD ..);have ih:=EO (l:=l) (m:=m.erase a) nd.2 λx hx=>(List.mem_erase_of_ne (λz:x=a=>nd.1 (z▸hx))).mpr (h x (gS _ hx));rw[List.length_erase_of_mem ha]at ih;have:=List.length_pos_of_mem ha;rw[mS];omega
structure PT(aa:Nat)(E:Int)(N d:Nat)(C:List Int)(A:Tb):Prop where
 nd:(A.map (·.1)).Nodup
 ky:∀k∈A.map (·.1),KyD aa d k
 vl:∀e∈A,Ov E N e.2
 cov:∀k∈A.map (·.1),k∈C
theorem PT.nil{aa:Nat}{E:Int}{N d:Nat}{C:List Int} :PT aa E N d C []:=⟨nM,λ_ h=>(nomatch h),λ_ h=>(nomatch h),λ_ h=>(nomatch h)⟩
theorem PT.ln{aa:Nat}{E:Int}{N d:Nat}{C:List Int}{A:Tb}(h:PT aa E N d C A):A.length<=C.length:=by
 have:=EO h.nd h.cov
 rwa [mY]at this
structure TdO(aa:Nat)(D2:Int)(Td:Tb):Prop where
 nd:(Td.map (·.1)).Nodup
 l2:Td.length<=2
 vl:∀e∈Td,Ov D2 154 e.2
 ky:∀k∈Td.map (·.1),KyD aa 2 k
abbrev tk(Td:Tb):List Int:=Td.map (·.1)
def shf(Td:Tb)(C:List Int):List Int:=(tk Td).flatMap λu=>C.map (· + u)
theorem PT.mul{aa:Nat}{E D2:Int}{N d:Nat}{C:List Int}(h:PT aa E N d C A)(o:TdO aa D2 Td)(hE:0<E)(hD:0<D2):PT aa (E*D2) (N+155) (d+2) (shf Td C) (vH A Td):=by
 have a:=AF A Td;refine⟨a.nd,λk hk=>?_,λe he=>?_,λk hk=>?_⟩
 ·obtain⟨e1,h1,e2,h2,rfl⟩:=a.ks k hk;exact(h.ky _ (List.mem_map_of_mem h1)).add (o.ky _ (List.mem_map_of_mem h2))
 ·rw[WS a.nd he];exact ZC h.nd hE hD h.vl o.vl (c:=1) o.l2 _
 ·obtain⟨e1,h1,e2,h2,rfl⟩:=a.ks k hk;exact List.mem_flatMap.mpr ⟨e2.1,List.mem_map_of_mem h2,nY.mpr ⟨e1.1,h.cov _ (List.mem_map_of_mem h1),rfl⟩⟩
theorem PT.add{aa:Nat}{E:Int}{N d:Nat}{C C':List Int}(h:PT aa E N d C A)(k:PT aa E N d C' B)(hE:0<E):PT aa E (N+1) d (C++C') (addT A B):=by
 have a:=add_ok h.nd k.nd;refine⟨a.nd,λj hj=>(a.ks j hj).elim (h.ky j) (k.ky j),λe he=>?_,λj hj=>?_⟩
 ·rw[WS a.nd he,a.vl];exact(GX h.vl _).add (GX k.vl _) hE
 ·exact nE.mpr ((a.ks j hj).imp (h.cov j) (k.cov j))
theorem PT.mono{aa:Nat}{E:Int}{N N' d d':Nat}{C C':List Int}(h:PT aa E N d C A)(hN:N<=N')(hd:d<=d')(hC:∀k∈C,k∈C'):PT aa E N' d' C' A:=⟨h.nd,λk hk=>(h.ky k hk).up hd,λe he=>(h.vl e he).up hN,λk hk=>hC k (h.cov k hk)⟩
structure StL(L l d:Nat)(D1:Int)(P:Pl):Prop where
 len:∀x∈P,x.1.length=L
 nn:∀x∈P,∀n∈x.1,0<=n
 dg:∀x∈P,(x.1.drop l).sum<=d
 cf:∀x∈P,Ov D1 100 x.2
theorem StL.next{L l d p:Nat}{D1:Int}(h:StL L l d D1 P)(hl:l<L):StL L (l+1) (d-p) D1 (qL P l (p:Int)):=by
 refine⟨λx hx=>h.len x (part_mem.mp hx).1,λx hx=>h.nn x (part_mem.mp hx).1,λx hx=>?_,λx hx=>h.cf x (part_mem.mp hx).1⟩;obtain⟨h1,h2⟩:=part_mem.mp hx;have:=MM (l:=l) (by rw[h.len x h1];exact hl) (h.nn x h1);have:=h.dg x h1;omega
theorem StL.pw{L l d:Nat}{D1:Int}(h:StL L l d D1 P)(hl:l<L){x:List Int×Rat}(hx:x∈P):0<=x.1.getD l 0/\x.1.getD l 0<=d:=by
 have:=MM (l:=l) (by rw[h.len x hx];exact hl) (h.nn x hx);have:=h.dg x hx;omega
theorem mx_nn(P:Pl)(l:Nat):0<=mxP P l:=by
 have:∀m:List Int,0<=m.foldr max 0:=λm=>by
  induction m with
  | nil=>exact tP _
  | cons a m ih=>show 0<=max a (m.foldr max 0);omega
 exact this _
theorem StL.mx{L l d:Nat}{D1:Int}(h:StL L l d D1 P)(hl:l<L):(mxP P l).toNat<=d:=by
 have:mxP P l<=d:=xA (λy hy=>by obtain⟨x,hx,rfl⟩:=nY.mp hy;exact(h.pw hl hx).2) #[1];omega
def CLs(ks:Nat->List Int)(n l t:Nat)(P:Pl):List Int:=P.flatMap λx=>if t<=pwN x.1 l then(SPk (ks l) (pwN x.1 l-t)).flatMap λu=>(KS ks n (l+1) x.1).map (u + ·)else []
theorem cl_len(ks:Nat->List Int)(n l t:Nat)(P:Pl):(CLs ks n l t P).length<=(P.map λx=>wt (n+1) l x.1).sum:=by
 refine CP λx _=>?_;split
 ·refine nW (EZ (c:=wt n (l+1) x.1) λu _=>?_) (gW _ (nW (XM _ _) #[1]));rw[mY];exact JM ks n (l+1) x.1
 ·exact tL _
theorem cl_shf{ks:Nat->List Int}{Td:Tb}{n l t:Nat}(hk:ks l=tk Td)(l2:Td.length<=2):∀k∈shf Td (CLs ks n l (t+1) P),k∈CLs ks n l t P:=λk hk'=>by
 obtain⟨u,hu,h1⟩:=List.mem_flatMap.mp hk';obtain⟨j,hj,rfl⟩:=nY.mp h1;obtain⟨x,hx,h2⟩:=List.mem_flatMap.mp hj;split at h2
 ·rename_i c;obtain⟨v,hv,h3⟩:=List.mem_flatMap.mp h2;obtain⟨w,hw,rfl⟩:=nY.mp h3;refine List.mem_flatMap.mpr ⟨x,hx, ?_⟩;rw[tU #[1]];refine List.mem_flatMap.mpr ⟨v+u, ?_,nY.mpr ⟨w,hw,by omega⟩⟩;have:=sp_succ (ks:=ks l) (by rw[hk];unfold tk;rw[mY];exact l2) hv (by rw[hk];exact hu)
  rwa [show pwN x.1 l-(t+1)+1=pwN x.1 l-t by omega]at this
 ·exact nomatch h2
theorem cl_part{ks:Nat->List Int}{n l t:Nat} :∀k∈(qL P l (t:Int)).flatMap (λx=>KS ks n (l+1) x.1),k∈CLs ks n l t P:=λk hk=>by
 obtain⟨x,hx,h⟩:=List.mem_flatMap.mp hk;obtain⟨h1,h2⟩:=part_mem.mp hx;have e:pwN x.1 l=t:=by unfold pwN;omega
 refine List.mem_flatMap.mpr ⟨x,h1, ?_⟩;rw[tU #[1],e,Nat.sub_self];exact List.mem_flatMap.mpr ⟨0,sp_zero _,nY.mpr ⟨k,h,by omega⟩⟩
theorem cl_zero{ks:Nat->List Int}{n l:Nat}{P:Pl} :∀k∈CLs ks n l 0 P,k∈P.flatMap λx=>KS ks (n+1) l x.1:=λk hk=>by
 obtain⟨x,hx,h⟩:=List.mem_flatMap.mp hk;rw[tU (tL _),Nat.sub_zero]at h;exact List.mem_flatMap.mpr ⟨x,hx,h⟩
def bE(D1 D2:Int)(e:Nat):Int:=D1*D2^e
theorem KE{D1 D2:Int}(h1:0<D1)(h2:0<D2)(e:Nat):0<bE D1 D2 e:=tM h1 (Int.pow_pos h2)
theorem bE_succ(D1 D2:Int)(e:Nat):bE D1 D2 (e+1)=bE D1 D2 e*D2:=by unfold bE;rw[Int.pow_succ,nS]
theorem bE_le{D1 D2:Int}(h1:D1.natAbs<=2^60)(h2:D2.natAbs<=2^120){e:Nat}(he:e<=4):(bE D1 D2 e).natAbs<=2^540:=by
 unfold bE;rw[nH];have:=nJ h1 (xH h2 e);rw[<-tO]at this;exact nW this (gT #[0] #[1])
abbrev nB(e n:Nat):Nat:=100+e*156+n
section
variable{aa L:Nat}{D1 D2:Int}{Td:Nat->Tb}
abbrev tks(Td:Nat->Tb)(j:Nat):List Int:=tk (Td j)
structure AccOk(aa:Nat)(D1 D2:Int)(Td:Nat->Tb)(n l d t:Nat)(P:Pl)(A:Tb):Prop where
 a:PT aa (bE D1 D2 (d-(t+1))) (nB (d-(t+1)) (n+1)) (2*(d-(t+1))) (CLs (tks Td) n l (t+1) P) A
 m:PT aa (bE D1 D2 (d-t)) (nB (d-t) n) (2*(d-t)) (CLs (tks Td) n l t P) (vH A (Td l))
theorem acc_mul(h1:0<D1)(h2:0<D2){n l d t:Nat}(o:TdO aa D2 (Td l))(ht:t+1<=d)(a:PT aa (bE D1 D2 (d-(t+1))) (nB (d-(t+1)) (n+1)) (2*(d-(t+1))) (CLs (tks Td) n l (t+1) P) A):PT aa (bE D1 D2 (d-t)) (nB (d-t) n) (2*(d-t)) (CLs (tks Td) n l t P) (vH A (Td l)):=by
 have:=a.mul o (KE h1 h2 _) h2;rw[<-bE_succ,show d-(t+1)+1=d-t by omega]at this;refine this.mono ?_ #[1] (cl_shf rfl o.l2);unfold nB;omega
theorem OV(h1:0<D1)(h2:0<D2){n l d M:Nat}(o:TdO aa D2 (Td l))(hM:M<=d)(rec:Pl->Tb)(hr:∀t:Nat,t<=M->PT aa (bE D1 D2 (d-t)) (nB (d-t) n) (2*(d-t)) ((qL P l (t:Int)).flatMap λx=>KS (tks Td) n (l+1) x.1) (rec (qL P l (t:Int)))) :
  ∀i,i<=M->AccOk aa D1 D2 Td n l d (M-i) P (wV (xG (Td l) rec P l) M i)/\PT aa (bE D1 D2 (d-(M-i))) (nB (d-(M-i)) (n+1)) (2*(d-(M-i))) (CLs (tks Td) n l (M-i) P) (wV (xG (Td l) rec P l) M (i+1)):=by
 have step:∀(i:Nat) (A:Tb),i<=M->PT aa (bE D1 D2 (d-(M-i))) (nB (d-(M-i)) n) (2*(d-(M-i))) (CLs (tks Td) n l (M-i) P) (vH A (Td l))->PT aa (bE D1 D2 (d-(M-i))) (nB (d-(M-i)) (n+1)) (2*(d-(M-i))) (CLs (tks Td) n l (M-i) P) (xG (Td l) rec P l ((M:Int)-i) A):=by
  intro i A hi m;rw[show(M:Int)-i=((M-i:Nat):Int) by omega];unfold xG;split
  ·exact m.mono (by show _<=_;unfold nB;omega) uX λ_ h=>h
  ·refine(m.add (hr (M-i) #[1]) (KE h1 h2 _)).mono (by show _<=_;unfold nB;omega) uX λk hk=>?_;exact(nE.mp hk).elim id (cl_part k)
 intro i;induction i with
 | zero=>
  intro hi;exact⟨⟨.nil,.nil⟩,step 0 [] hi .nil⟩
 | succ i ih=>
  intro hi;obtain⟨_,a⟩:=ih #[1];have a':PT aa (bE D1 D2 (d-(M-(i+1)+1))) (nB (d-(M-(i+1)+1)) (n+1)) (2*(d-(M-(i+1)+1))) (CLs (tks Td) n l (M-(i+1)+1) P) (wV (xG (Td l) rec P l) M (i+1)):=by
   rw[show M-(i+1)+1=M-i by omega];exact a
  have m:=acc_mul h1 h2 o (show M-(i+1)+1<=d by omega) a';exact⟨⟨a',m⟩,step (i+1) _ hi m⟩
theorem EC(h1:0<D1)(h2:0<D2)(h2b:D2.natAbs<=2^120)(o:∀j,j<L->TdO aa D2 (Td j))(m0:KyD aa 0 0):∀(n l d:Nat) (P:Pl),l+n=L->StL L l d D1 P->PT aa (bE D1 D2 d) (nB d n) (2*d) (P.flatMap λx=>KS (tks Td) n l x.1) (yF Td n l P)
 | 0,_,_,[],_,_=>.nil
 | 0,l,d,x::P,_,h=>by
  refine⟨by simp [yF],λk hk=>?_,λe he=>?_,λk hk=>?_⟩
  ·rw[show k=0 by simpa [yF]using hk];exact m0.up (tL _)
  ·rw[show e=(0,x.2) by simpa [yF]using he];have c:=h.cf x (mD ..);exact(c.scale h1 (Int.pow_pos h2) (xH h2b d)).up (by show _<=_;unfold nB;omega)
  ·rw[show k=0 by simpa [yF]using hk];exact List.mem_flatMap.mpr ⟨x,mD ..,mD ..⟩
 | n+1,l,d,P,hn,h=>by
  have hM:=h.mx (show l<L by omega);have:=(OV h1 h2 (o l #[1]) hM (yF Td n (l+1)) (λt _=>EC h1 h2 h2b o m0 n (l+1) (d-t) (qL P l (t:Int)) #[1] (h.next #[1])) (mxP P l).toNat uX).2;rw[Nat.sub_self,Nat.sub_zero]at this;exact this.mono uX uX cl_zero
end
def pwr(w:Nat->Rat):Nat->Nat->List Int->Rat
 | 0,_,_=>1
 | n+1,l,ns=>w l^pwN ns l*pwr w n (l+1) ns
structure Agr(l:Nat)(P:Pl):Prop where
 nd:(P.map (·.1)).Nodup
 ag:∀x∈P,∀y∈P,x.1.take l=y.1.take l
theorem Agr.next{L l d:Nat}{D1 p:Int}(h:Agr l P)(st:StL L l d D1 P)(hl:l<L):Agr (l+1) (qL P l p):=by
 refine⟨List.Sublist.nodup (List.Sublist.map (λx:List Int×Rat=>x.1) (List.filter_sublist (l:=P))) h.nd,λx hx y hy=>?_⟩;obtain⟨x1,x2⟩:=part_mem.mp hx;obtain⟨y1,y2⟩:=part_mem.mp hy;rw[mI,mI,h.ag x x1 y y1,qN (show l<x.1.length by rw[st.len x x1];exact hl),qN (show l<y.1.length by rw[st.len y y1];exact hl),x2,y2]
theorem SW(μ:List Int->Rat){l t:Nat} :∀{P:Pl},(∀x∈P,0<=x.1.getD l 0)->el μ (qL P l (t:Int))=el (λns=>if pwN ns l=t then μ ns else 0) P
 | [],_=>rfl
 | x::P,h=>by
  have ih:=SW μ (l:=l) (t:=t) (P:=P) λy hy=>h y (gS _ hy);have hx:=h x (mD ..);unfold qL at ih ⊢;rw[vG];by_cases c:x.1.getD l 0=(t:Int)
  ·rw[List.filter_cons_of_pos (p:=λx:List Int×Rat=>decide (x.1.getD l 0=(t:Int))) (nG c),vG,ih,tU (show pwN x.1 l=t by unfold pwN;omega)]
  ·rw[List.filter_cons_of_neg (p:=λx:List Int×Rat=>decide (x.1.getD l 0=(t:Int))) (λy=>c (mK y)),ih,tT (show pwN x.1 l≠t by unfold pwN;omega),Rat.mul_zero,nZ]
def thr(w:Rat)(r:List Int->Rat)(l t:Nat)(ns:List Int):Rat:=if t<=pwN ns l then w^(pwN ns l-t)*r ns else 0
theorem XA(w:Rat)(r:List Int->Rat)(l t:Nat)(ns:List Int):thr w r l t ns=thr w r l (t+1) ns*w+if pwN ns l=t then r ns else 0:=by
 unfold thr;by_cases c:t+1<=pwN ns l
 ·rw[tU c,tU (show t<=pwN ns l by omega),tT (show pwN ns l≠t by omega),show pwN ns l-t=pwN ns l-(t+1)+1 by omega,Rat.pow_succ]
  grind
 ·rw[tT c];by_cases d:pwN ns l=t
  ·rw[tU d,tU #[1],d,Nat.sub_self,Rat.pow_zero]
   grind
  ·rw[tT d,tT #[1]]
   grind
structure MulM(aa:Nat)(m:Int->Rat):Prop where
 one:m 0=1
 mul:∀{j k:Int} {d e:Nat},KyD aa d j->KyD aa e k->d+e<=255->m (j+k)=m j*m k
section
variable{aa L:Nat}{D1 D2:Int}{Td:Nat->Tb}{m:Int->Rat}
theorem acc_val(mm:MulM aa m){n l d M:Nat}(o:TdO aa D2 (Td l))(d4:d<=4)(rec:Pl->Tb)(r:List Int->Rat)(nn:∀x∈P,0<=x.1.getD l 0/\pwN x.1 l<=M)
  (hr:∀t:Nat,t<=M->lf m (rec (qL P l (t:Int)))=el r (qL P l (t:Int)))
  (ok:∀i,i<=M->AccOk aa D1 D2 Td n l d (M-i) P (wV (xG (Td l) rec P l) M i)) :
  ∀i,i<=M+1->lf m (wV (xG (Td l) rec P l) M i)=el (thr (lf m (Td l)) r l (M+1-i)) P:=by
 intro i;induction i with
 | zero=>
  intro _;show(0:Rat)=_;rw[qI (ν:=λ_=>(0:Rat)*0) λx hx=>by
   have:=(nn x hx).2;unfold thr;rw[tT #[1],Rat.mul_zero],wR,Rat.mul_zero]
 | succ i ih=>
  intro hi;have a:=ok i #[1];have v:lf m (vH (wV (xG (Td l) rec P l) M i) (Td l))=el (thr (lf m (Td l)) r l (M+1-i)) P*lf m (Td l):=by
   rw[lf_prod λx hx y hy=>mm.mul (a.a.ky _ (List.mem_map_of_mem hx)) (o.ky _ (List.mem_map_of_mem hy)) #[1],ih #[1]]
  show lf m (xG (Td l) rec P l ((M:Int)-i) (wV (xG (Td l) rec P l) M i))=_;have e:(thr (lf m (Td l)) r l (M+1-(i+1)))=λns=>thr (lf m (Td l)) r l (M+1-i) ns*lf m (Td l)+if pwN ns l=M-i then r ns else 0:=by
   funext ns
   rw[show M+1-(i+1)=M-i by omega,XA,show M-i+1=M+1-i by omega]
  rw[e,CQ,wR,<-SW r λx hx=>(nn x hx).1,show(M:Int)-i=((M-i:Nat):Int) by omega];clear a ih ok;generalize wV (xG (Td l) rec P l) M i=A at v ⊢;unfold xG;split
  ·rename_i z;rw[v,z];exact(tD _).symm
  ·rw[lf_add _ _ (AF _ _).nd,v,hr (M-i) #[1]]
theorem pw_le(P:Pl)(l:Nat){x:List Int×Rat}(hx:x∈P):pwN x.1 l<=(mxP P l).toNat:=by
 have:x.1.getD l 0<=mxP P l:=qY (List.mem_map_of_mem (f:=λx:List Int×Rat=>x.1.getD l 0) hx);unfold pwN;omega
theorem QV(h1:0<D1)(h2:0<D2)(h2b:D2.natAbs<=2^120)(o:∀j,j<L->TdO aa D2 (Td j))(m0:KyD aa 0 0)(mm:MulM aa m):∀(n l d:Nat) (P:Pl),l+n=L->d<=4->StL L l d D1 P->Agr l P->lf m (yF Td n l P)=el (pwr (λj=>lf m (Td j)) n l) P
 | 0,_,_,[],_,_,_,_=>rfl
 | 0,l,d,x::P,hn,_,h,ag=>by
  have:P=[]:=by
   match P,h,ag with
   | [],_,_=>rfl
   | y::P,h,ag=>
    have e:=ag.ag x (mD ..) y (gS _ (mD ..));have lx:=h.len x (mD ..);have ly:=h.len y (gS _ (mD ..));rw[gK #[1],gK #[1]]at e;have:=ag.nd;rw[nO,List.nodup_cons]at this;exact absurd (by rw[e];exact mD ..) this.1
  subst this;show x.2*m 0+0=x.2*1+0;rw[mm.one]
 | n+1,l,d,P,hn,d4,h,ag=>by
  have hM:=h.mx (show l<L by omega);have ok:=OV h1 h2 (o l #[1]) hM (yF Td n (l+1)) (λt _=>EC h1 h2 h2b o m0 n (l+1) (d-t) (qL P l (t:Int)) #[1] (h.next #[1]));have:=acc_val mm (o l #[1]) d4 (yF Td n (l+1)) (pwr (λj=>lf m (Td j)) n (l+1)) (λx hx=>⟨(h.pw #[1] hx).1,pw_le P l hx⟩) (λt _=>QV h1 h2 h2b o m0 mm n (l+1) (d-t) (qL P l (t:Int)) #[1] #[1] (h.next #[1]) (ag.next h #[1])) (λi hi=>(ok i hi).1) ((mxP P l).toNat+1) uX ;rw[Nat.sub_self]at this;show lf m (wV _ (mxP P l).toNat ((mxP P l).toNat+1))=_;rw[this];refine qI λx hx=>?_;unfold thr;rw[tU (tL _),Nat.sub_zero]
  rfl
end
theorem for_down{n:Nat}{g:TG}{tb:TS}{D:Ends}{σ:L2.St}{H:Hp}(Pv:Nat->L2.St->Hp->Prop)(h0:Pv 0 σ H)
  (hs:∀i σ H,i<n->Pv i σ H->g (.int ((n:Int)-1-i)) σ H fun σ2 H2=>tb { D with nx:=Pv (i+1),ct:=Pv (i+1),bk:=D.nx } σ2 H2) (hd:∀σ H,Pv n σ H->D.nx σ H) :
  ∃W:Nat->Nat->L2.St->Hp->Prop,(∃m,W 0 m σ H)/\∀i m σ H,W i m σ H->
   ((Itd n).stop i H/\D.nx σ H)∨((Itd n).go i H/\∃N:L2.St->Hp->Prop,(∀σ' H',N σ' H'->∃m',m'<m/\W (i+1) m' σ' H')/\∀x H',(Itd n).yld i H x H'->g x σ H' fun σ2 H2=>tb { D with nx:=N,ct:=N,bk:=D.nx } σ2 H2):=by
 refine⟨λi m σ H=>m=n-i/\i<=n/\Pv i σ H,⟨n,by simp,tL _,h0⟩, ?_⟩;rintro i m σ H ⟨rfl,hi,p⟩;by_cases hlt:i<n
 ·refine .inr ⟨hlt,Pv (i+1),fun σ' H' p'=>⟨n-(i+1),by omega,rfl,hlt,p'⟩,λx H' y=>?_⟩;obtain⟨e,y⟩:=y;subst e y;exact hs i σ _ hlt p
 ·have e:i=n:=by omega
  subst e;exact .inl ⟨tK _,hd σ H p⟩
def Kp(S:Addr->Prop)(H H':Hp):Prop:=∀c u,H c=some u->¬S c->H' c=some u
def Dcs(H:Hp)(S:Addr->Prop):Prop:=∀c,S c->∃kv,Rd H c (.dK kv)
theorem Kp.tup{S:Addr->Prop}(k:Kp S H H')(d:Dcs H S)(h:H c=some (.tup xs)):H' c=some (.tup xs):=k _ _ h λz=>by
 obtain⟨kv,r | ⟨o,r⟩⟩:=d c z<;>rw[r]at h<;>cases h
theorem Kp.lst{S:Addr->Prop}(k:Kp S H H')(d:Dcs H S)(h:H c=some (.lst xs)):H' c=some (.lst xs):=k _ _ h λz=>by
 obtain⟨kv,r | ⟨o,r⟩⟩:=d c z<;>rw[r]at h<;>cases h
theorem Kp.ent{S:Addr->Prop}{H H':Hp}(k:Kp S H H')(d:Dcs H S){K:tV}{kv:Key×V}{x:Int×Rat}(h:EntQ K H kv x):EntQ K H' kv x:=let ⟨z1,pz,z2,z3⟩:=h;⟨z1,pz,z2,k.tup d z3⟩
theorem Kp.tm{S:Addr->Prop}{H H':Hp}(k:Kp S H H')(d:Dcs H S){K:tV}{v:V}{x:List Int×Rat}(h:TmQ K H v x):TmQ K H' v x:=let ⟨r,b,c,e1,e2,e3,pz,e4,e5⟩:=h;⟨r,b,c,e1,k.tup d e2,k.tup d e3,pz,e4,k.tup d e5⟩
structure TabsAt(K:tV)(H:Hp)(ta:Addr)(Td:Nat->Tb)(ds:List Addr):Prop where
 e:H ta=some (.lst (ds.map V.ref))
 dk:∀(j:Nat) (d:Addr),ds[j]? = some d->∃kv,Rd H d (.dK kv)/\Paired (EntQ K H) kv (Td j)
theorem rd_one(h:Rd H d (.dK a))(k:Rd H d (.dK b)):a=b:=by
 rcases h with h | ⟨o,h⟩<;>rcases k with k | ⟨o',k⟩<;>rw[h]at k<;>cases k<;>rfl
theorem TabsAt.dc{K:tV}{H:Hp}{ta:Addr}{Td:Nat->Tb}{ds:List Addr}(h:TabsAt K H ta Td ds):Dcs H (·∈ds):=λc hc=>let ⟨j,hj⟩:=gP.mp hc;let ⟨kv,r,_⟩:=h.dk j c hj;⟨kv,r⟩
theorem TabsAt.same{K:tV}{H H':Hp}{ta:Addr}{Td:Nat->Tb}{ds:List Addr}(h:TabsAt K H ta Td ds)(s:Same H H'):TabsAt K H' ta Td ds:=⟨s _ _ h.e,λj d hd=>let ⟨kv,r,p⟩:=h.dk j d hd;⟨kv,IR r s,Paired.to (λ_ _ q=>q.same s) p⟩⟩
theorem HW{F:V->(List Int×Rat)->Prop}{l:Nat}{p:Int} :∀{xs:List V} {P:Pl},Paired F xs P->Paired F ((BX (xs.zip P) l p).map (·.1)) (qL P l p)
 | _,_,.nil=>.nil
 | x::xs,y::P,.cons h t=>by
  have ih:=HW (l:=l) (p:=p) t;unfold BX qL at *;rw[List.zip_cons_cons];by_cases c:y.1.getD l 0=p
  ·rw[List.filter_cons_of_pos (p:=λz:V×(List Int×Rat)=>decide (z.2.1.getD l 0=p)) (nG c),List.filter_cons_of_pos (p:=λx:List Int×Rat=>decide (x.1.getD l 0=p)) (nG c)];exact .cons h ih
  ·rw[List.filter_cons_of_neg (p:=λz:V×(List Int×Rat)=>decide (z.2.1.getD l 0=p)) (λy=>c (mK y)),List.filter_cons_of_neg (p:=λx:List Int×Rat=>decide (x.1.getD l 0=p)) (λy=>c (mK y))];exact ih
theorem uH{F:V->(List Int×Rat)->Prop}{l:Nat}{p:Int}{xs:List V}(h:Paired F xs P):BX (xs.zip P) l p=[]↔qL P l p=[]:=by
 have:=Paired.length (HW (l:=l) (p:=p) h);rw[mY]at this;rw[<-List.length_eq_zero_iff,<-List.length_eq_zero_iff,this]
theorem MG{ah:List (Key×V)}(h:∀p∈ah,∃i:Int,p.1=.inl i)(i:Int):i∈kL ah↔(.inl i:Key)∈ah.map (·.1):=by
 unfold kL;rw[nY,nY];constructor
 ·rintro⟨p,hp,e⟩;obtain⟨j,hj⟩:=h p hp;rw[hj]at e;exact⟨p,hp,by rw[hj,<-e]⟩
 ·rintro⟨p,hp,e⟩;exact⟨p,hp,by rw[e]⟩
theorem YX{F:V->(List Int×Rat)->Prop}{xs:List V}{l:Nat}(pr:Paired F xs P)(I:PartI H0 H d ah (xs.zip P) l)(nn:∀x∈P,0<=x.1.getD l 0) :
  (ah=[]->mxP P l=0)/\∀m,m∈kL ah->(∀x∈kL ah,x<=m)->m=mxP P l:=by
 have has:∀x∈P,x.1.getD l 0∈kL ah:=λx hx=>by
  rw[MG I.ks];refine gD λn=>?_;have:kK ah (.inl (x.1.getD l 0):Key)=none:=by
   cases h:kK ah (.inl (x.1.getD l 0):Key)with
   | none=>rfl
   | some v=>exact absurd (valV_in h) n
  have:=(uH pr).mp (I.no _ this);have:x∈qL P l (x.1.getD l 0):=part_mem.mpr ⟨hx,rfl⟩;rw[‹qL P l (x.1.getD l 0)=[]›]at this;exact absurd this #[14]
 refine⟨λe=>?_,λm hm hle=>?_⟩
 ·have:P=[]:=by
   match P,has with
   | [],_=>rfl
   | x::_,has=>have:=has x (mD ..);rw[e]at this;exact absurd this (by simp [kL])
  rw[this]
  rfl
 ·have hv:kK ah (.inl m:Key)≠none:=λz=>WK z ((MG I.ks m).mp hm);obtain⟨v,hv⟩:=Option.ne_none_iff_exists'.mp hv;obtain⟨_,_,_,_,_,ne⟩:=I.yes m v hv;have ne:qL P l m≠[]:=λz=>ne ((uH pr).mpr z);obtain⟨x,hx⟩:=List.exists_mem_of_ne_nil _ ne;obtain⟨hx,ex⟩:=part_mem.mp hx;refine Int.le_antisymm (qY (nY.mpr ⟨x,hx,ex⟩)) (xA (λy hy=>?_) (by rw[<-ex];exact nn x hx));obtain⟨x',hx',rfl⟩:=nY.mp hy;exact hle _ (has x' hx')
theorem NumH.upd{x:Rat}(e:H p=some (.dK ah))(h:NumH H v x):NumH (upd H p o) v x:=let ⟨pz,z2,z3⟩:=h;⟨pz,z2,TN e z3⟩
theorem TabsAt.but1{K:tV}{H:Hp}{ta d:Addr}{Td:Nat->Tb}{ds:List Addr}{kv:List (Key×V)}{o:HO}(h:TabsAt K H ta Td ds)(e:H d=some (.dK kv))(n:d∉ds):TabsAt K (upd H d o) ta Td ds:=by
 refine⟨by rw[jI (λz=>by have:=h.e;rw[z,e]at this;cases this)];exact h.e,λj c hc=>?_⟩;obtain⟨kv',r,p⟩:=h.dk j c hc;have cd:c≠d:=λz=>n (z▸gQ hc);refine⟨kv', ?_,Paired.to (λ_ _ q=>q.upd e) p⟩;rcases r with r | ⟨o',r⟩
 ·exact .inl (by rw[jI cd];exact r)
 ·exact .inr ⟨o',by rw[jI cd];exact r⟩
theorem TabsAt.out{K:tV}{H:Hp}{ta d:Addr}{Td:Nat->Tb}{ds:List Addr}(h:TabsAt K H ta Td ds)(n:H d=none):d∉ds:=λz=>by
 obtain⟨j,hj⟩:=gP.mp z;obtain⟨kv',r | ⟨o,r⟩,_⟩:=h.dk j d hj<;>rw[r]at n<;>cases n
theorem rMaxK.of{d:Int}{M:Int}(ra:Rd H a (.dK ah))(hk:∀p∈ah,∃i:Int,p.1=.inl i)(h1:ah=[]->M=d)(h2:∀m,m∈kL ah->(∀x∈kL ah,x<=m)->m=M)(q:Q (.int M) H):rMaxK d [.ref a] H Q:=⟨a,ah,rfl,ra,hk,λe=>h1 e▸q,λm a b=>h2 m a b▸q⟩
theorem Ov.dn{D:Int}{n m:Nat}{x:Rat}(h:Ov D n x)(hD:0<D)(k:n<m):(x.den:Int)∣D/\x.num.natAbs<2^m:=by
 obtain⟨z,e,hz⟩:=h.ex;have q:=SZ hD e;exact⟨q.1,gZ (nW q.2 hz) (gU #[0] k)⟩
structure TdA(aa L d:Nat)(D1 D2:Int)(Td:Nat->Tb):Prop where
 m4:aa<=4
 d4:d<=4
 p1:0<D1
 p2:0<D2
 b1:D1.natAbs<=2^60
 b2:D2.natAbs<=2^120
 o:∀j,j<L->TdO aa D2 (Td j)
 z:KyD aa 0 0
theorem TdA.low{aa L d e:Nat}{D1 D2:Int}{Td:Nat->Tb}(h:TdA aa L d D1 D2 Td)(l:e<=d):TdA aa L e D1 D2 Td:=⟨h.m4,nW l h.d4,h.p1,h.p2,h.b1,h.b2,h.o,h.z⟩
theorem TdA.bE{aa L d e:Nat}{D1 D2:Int}{Td:Nat->Tb}(h:TdA aa L d D1 D2 Td)(l:e<=d):0<Lw.bE D1 D2 e/\(Lw.bE D1 D2 e).natAbs<=2^540:=⟨KE h.p1 h.p2 e,bE_le h.b1 h.b2 (nW l h.d4)⟩
theorem n540{a:Nat}(h:a<=2^540):a<2^1400:=gZ h (gU #[0] #[0])
theorem n120{a:Nat}(h:a<=2^120):a<2^1400:=gZ h (gU #[0] #[0])
theorem PT.sz{aa:Nat}{E:Int}{N d:Nat}{C:List Int}(h:PT aa E N d C A)(hE:0<E)(hb:E.natAbs<=2^540)(hN:N<7900)(k:Int):SzR 7900 (tv A k):=(GX h.vl k).sz hE hb hN #[0]
theorem PT.szE{aa:Nat}{E:Int}{N d:Nat}{C:List Int}(h:PT aa E N d C A)(hE:0<E)(hb:E.natAbs<=2^540)(hN:N<7900):∀e∈A,SzR 7900 e.2:=λe he=>(h.vl e he).sz hE hb hN #[0]
theorem HX(n l:Nat)(p:Int):∀P:Pl,((qL P l p).map λx=>wt n (l+1) x.1).sum<=(P.map λx=>wt (n+1) l x.1).sum
 | []=>tK _
 | x::P=>by
  have ih:=HX n l p P;have w1:wt n (l+1) x.1<=wt (n+1) l x.1:=Nat.le_mul_of_pos_left _ #[1];unfold qL at ih ⊢;rw[nO,nT];by_cases c:x.1.getD l 0=p
  ·rw[List.filter_cons_of_pos (p:=λx:List Int×Rat=>decide (x.1.getD l 0=p)) (nG c),nO,nT];omega
  ·rw[List.filter_cons_of_neg (p:=λx:List Int×Rat=>decide (x.1.getD l 0=p)) (λy=>c (mK y))];omega
def DK(K:tV)(n:Nat):Sp:=λvs H Q _=>∃(a ta:Addr) (l L aa dg:Nat) (xs:List V) (P:Pl) (Td:Nat->Tb) (ds:List Addr) (D1 D2:Int),vs=[.ref a,.ref ta,.int l]/\l+n=L/\ds.length=L/\L<=4/\Sq2 H a xs/\(n=0->P≠[]/\H a=some (.lst xs))/\Paired (TmQ K H) xs P/\StL L l dg D1 P/\P.length<=60/\TdA aa L dg D1 D2 Td/\(P.map λx=>wt n l x.1).sum<=60/\TabsAt K H ta Td ds/\
 ∀(d:Addr) (ah:List (Key×V)) (H':Hp),H d=none->Kp (·∈ds) H H'->TabsAt K H' ta Td ds->H' d=some (.dK ah)->Paired (EntQ K H') ah (yF Td n l P)->Q (.ref d) H'
inductive TpI(K:tV)(H1:Hp)(a ta dp:Addr)(l:Nat)(Td:Nat->Tb)(ds:List Addr)(g:Int->Tb->Tb)(m:Nat)(i:Nat):L2.St->Hp->Prop where
 | mk {u:Option V} {H':Hp} {dt:Addr} {kt:List (Key×V)} (n:H1 dt=none) (b:Kp (·∈ds) H1 H') (t:TabsAt K H' ta Td ds) (e:H' dt=some (.dK kt)) (p:Paired (EntQ K H') kt (wV g m i)):TpI K H1 a ta dp l Td ds g m i [some (.ref a),some (.ref ta),some (.int l),some (.ref dp),some (.ref dt),u] H'
variable{P:Program}{w:World}{K:tV}{mg:Str->Option Value}{base:Heap}{f fd:_}
theorem scTp:FnScope ["terms","tables","letter","parts","table","power"] ["terms","tables","letter"] (jJ CF):=scK #[3]
theorem GZ(D:Df K mg "table_put_in" CF ["terms","tables","letter"] f fd)(T:Txt mg)(DP:Df K mg "parted" CI ["terms","letter"] fP fdP)(GP:FnOk P w K mg base CX0 1 fP fdP ["terms","letter"] (KP K))(DM:Df K mg "tables_multiplied" uQ ["one","other"] fM fdM)(GM:FnOk P w K mg base CX0 5 fM fdM ["one","other"] (DO K))(DA:Df K mg "tables_added" uR ["one","other"] fA fdA)(GA:FnOk P w K mg base CX0 3 fA fdA ["one","other"] (DQ K)):∀n:Nat,FnOk P w K mg base CX0 (n+6) f fd ["terms","tables","letter"] (DK K n)
 | 0=>by
  refine D.F.ok scTp #[8] #[2]
  ·obtain⟨a,ta,l,L,aa,dg,xs,PP,Td,ds,D1,D2,rfl,_⟩:=h
   rfl
  ·obtain⟨a,ta,l,L,aa,dg,xs,PP,Td,ds,D1,D2,rfl,hn,ld,hL,ha,h0,pr,st,fw,tdk,wb,tb,go⟩:=h;have hu:_+1<cLine:=gZ (Nat.add_le_add_left (by decide:1<=64) _) hr.units;obtain⟨ne,ha⟩:=h0 rfl;refine⟨_,jC (kE (jO yU (pv 2) (kF kR (by rfl) T.len PySem.boot_len (jA (pv 1) jB)) (jS _)) (jF (jP (pe_disp (YK jD (jU jX (jU kX (pv 0) jD (λ_ _=>rfl)) jD (λ_ _=>rfl)) pps_nil) rfl rfl #[14] #[0]))) jR) (GJ), ?_⟩;try dsimp only[cxK]
   have ll:l=(ds.map V.ref).length:=by rw[mY,ld];omega
   refine⟨_,rfl,_,rfl,ta,_,rfl,.inl (SqL.of tb.e),rfl,_,rfl, ?_⟩;refine wU (λ_=>?_) (λc=>absurd (by rw[ll];exact nG rfl) c)
   match PP,xs,pr,ne with
   | y::PP',x::xs',.cons hx pr',_=>
    obtain⟨r,b,c,rfl,r1,r2,r3⟩:=hx;intro d nd;have s1:Same H (upd H d (.dK [])):=jQ _ nd;have e1:(upd H d (.dK [])) d=some (.dK []):=jE;generalize upd H d (.dK [])=H1 at s1 e1;refine⟨_,rfl,a,_,_,_,rfl,rfl,SqL.of (s1 _ _ ha),(show atI _ ((0:Nat):Int)=_ from qO rfl),r,_,_,_,rfl,rfl,SqT.of (s1 _ _ r1),rfl,e1,[(.inl 0,.ref c)],rfl,(by show 1<=15;decide), ?_⟩;refine go d [(.inl 0,.ref c)] _ nd (λc' u h _=>kA s1 nd _ _ h) ((tb.same s1).but1 e1 (tb.out nd)) jE (.cons ⟨rfl,NumH.upd e1 (r3.same s1)⟩ .nil)
 | n+1=>by
  have G:FnOk P w K mg base CX0 (n+6) f fd ["terms","tables","letter"] (DK K n):=GZ D T DP GP DM GM DA GA n;refine D.F.ok scTp #[8] #[2]
  ·obtain⟨a,ta,l,L,aa,dg,xs,PP,Td,ds,D1,D2,rfl,_⟩:=h
   rfl
  ·obtain⟨a,ta,l,L,aa,dg,xs,PP,Td,ds,D1,D2,rfl,hn,ld,hL,ha,h0,pr,st,fw,tdk,wb,tb,go⟩:=h;have hu:_+1<cLine:=gZ (Nat.add_le_add_left (by decide:1<=64) _) hr.units;have hr1:Room 1 _:=hr.mono #[1];have hr3:Room 3 _:=hr.mono #[1];have hr5:Room 5 _:=hr.mono #[1];refine⟨_,jC (kE (jO yU (pv 2) (kF kR (by rfl) T.len PySem.boot_len (jA (pv 1) jB)) (jS _)) (jF (kP)) jR) (jC (jN (i:=3) scTp.nd rfl #[5] (jZ GP hr1 rfl DP.m DP.F.kp DP.b .nil kW (jA (pv 0) (jA (pv 2) jB)))) (jC (jN (i:=4) scTp.nd rfl #[5] (zU)) (jC (kZ PassesOwn.never rfl (pi_rev (by rfl) T.rev (jA (qE OP (by rfl) T.rng boot_range (jA (jM qF (pe_maxK rfl (by rfl) T.max (jA (pv 3) jB) (zE jD NT)) jD) jB)) jB)) (jG (i:=5) scTp.nd rfl #[5]) (jC (jN (i:=4) scTp.nd rfl #[5] (jZ GM hr5 rfl DM.m DM.F.kp DM.b .nil kW (jA (pv 4) (jA (jU kX (pv 1) (pv 2) (λ_ _=>rfl)) jB)))) (jF (kE (YI (YW hu (pv 5) (pv 3))) (jF (jN (i:=4) scTp.nd rfl #[5] (jZ GA hr3 rfl DA.m DA.F.kp DA.b .nil kW (jA (pv 4) (jA (jZ G hr rfl D.m D.F.kp D.b .nil kW (jA (wN hu (pv 3) (pv 5) (λ_ _=>rfl)) (jA (pv 1) (jA (jM qF (pv 2) jD) jB)))) jB))))) jR)))) (jF (jP (pv 4)))))), ?_⟩
   try dsimp only[cxK]
   have lx:xs.length=PP.length:=Paired.length pr;have ll:(l:Int)≠((ds.map V.ref).length:Int):=by rw[mY,ld];omega
   refine⟨_,rfl,_,rfl,ta,_,rfl,.inl (SqL.of tb.e),rfl,_,rfl,qT (nC λz=>ll (V.int.inj z)) ?_⟩;refine⟨_,rfl,_,rfl,a,l,L,xs,PP,rfl,ha,pr,st.len,by omega,fw,λdp kvp H1 n1 s1 I1=>?_⟩;have pm:=YX pr I1 λx hx=>(st.pw (show l<L by omega) hx).1;have mb:=st.mx (show l<L by omega);have m0:=mx_nn PP l;intro dt0 nt0;have t1:=tb.same s1;have s2:Same H1 (upd H1 dt0 (.dK [])):=jQ _ nt0;have e2:(upd H1 dt0 (.dK [])) dt0=some (.dK []):=jE;generalize upd H1 dt0 (.dK [])=H2 at s2 e2;have I2:=I1.same s2;have tdo:=tdk.o l #[1];have cb:∀t,(CLs (tks Td) n l t PP).length<=60:=λt=>nW (cl_len _ _ _ _ _) wb;have hrec:=λ(t:Nat)=>EC (Td:=Td) (L:=L) tdk.p1 tdk.p2 tdk.b2 tdk.o tdk.z n (l+1) (dg-t) (qL PP l (t:Int)) #[1] (st.next #[1]);have aok:=OV (Td:=Td) tdk.p1 tdk.p2 tdo mb (yF Td n (l+1)) (λt _=>hrec t);generalize hg:xG (Td l) (yF Td n (l+1)) PP l=g at aok;have mnn:mxP PP l+1=(((mxP PP l).toNat+1:Nat):Int):=by omega
   have fine:yF Td (n+1) l PP=wV g (mxP PP l).toNat ((mxP PP l).toNat+1):=by rw[<-hg];rfl
   dsimp only[jV];refine⟨_,rfl,0,rfl,rMaxK.of (M:=mxP PP l) (.inl I2.e) I2.ks pm.1 pm.2 ⟨_,_,rfl,rfl,_,rfl,λpr0 npr=>?_⟩⟩;rw[mnn];have d4:=tdk.d4;generalize (mxP PP l).toNat=m at aok mb fine;have s3:Same H2 (upd H2 pr0 (.rng 0 ((m+1:Nat):Int))):=jQ _ npr;have e3:(upd H2 pr0 (.rng 0 ((m+1:Nat):Int))) pr0=some (.rng 0 ((m+1:Nat):Int)):=jE;generalize upd H2 pr0 (.rng 0 ((m+1:Nat):Int))=H3 at s3 e3;have dpo:dp∉ds:=tb.out n1;refine⟨pr0,m+1,rfl,e3,by omega,for_down (n:=m+1) (TpI K H1 a ta dp l Td ds g m) (.mk nt0 (λc u h _=>(s2.trans s3) _ _ h) (t1.same (s2.trans s3)) (s3 _ _ e2) .nil) (λi σ H4 hi h=>?_) (fun σ H4 h=>?_)⟩
   ·obtain⟨nt,bt,tt,et,pt⟩:=h;rename_i dt kt;have el:(((m+1:Nat):Int))-1-(i:Int)=(m:Int)-i:=by omega
    rw[el];obtain⟨⟨zg,zm⟩,_⟩:=aok i #[1];have acs:wV g m (i+1)=xG (Td l) (yF Td n (l+1)) PP l ((m:Int)-i) (wV g m i):=by rw[hg];rfl
    generalize wV g m i=A at pt zg zm acs;have gr:=hrec (m-i);rw[show((m-i:Nat):Int)=(m:Int)-i by omega]at gr;have bg:=tdk.bE (show dg-(m-i+1)<=dg by omega);have bm:=tdk.bE (show dg-(m-i)<=dg by omega);have lg:=nW zg.ln (cb _);have lz:=nW zm.ln (cb _);have lr:=nW gr.ln (nW (CP λx _=>JM (tks Td) n (l+1) x.1) (nW (HX n l _ PP) wb));have sN:=st.next (p:=m-i) (show l<L by omega);rw[show((m-i:Nat):Int)=(m:Int)-i by omega]at sN;have wn:=nW (HX n l ((m:Int)-i) PP) wb;generalize hp:(m:Int)-(i:Int)=p at acs gr sN wn lr;have p0:0<=p:=by omega
    have dto:dt∉ds:=t1.out nt;have lt:l<ds.length:=by omega
    have hdl:ds[l]? = some ds[l]:=gG lt;have mdl:ds[l]∈ds:=mT lt;generalize ds[l]=dl at hdl mdl;obtain⟨kl,rl,pl⟩:=tt.dk l dl hdl;have dd:dt≠dl:=λz=>dto (z▸mdl);refine⟨_,rfl,_,rfl,_,rfl,ta,_,_,_,rfl,rfl,SqL.of tt.e,qO (by rw[mG,hdl];rfl), ?_⟩;refine⟨dt,dl,kt,kl,A,Td l,Lw.bE D1 D2 (dg-(m-i+1)),D2,rfl,dd,.inl et,rl,pt,pl,zg.nd,tdo.nd,lg,nW tdo.l2 #[0],nW (nJ lg tdo.l2) #[0],bg.1,n540 bg.2,tdk.p2,n120 tdk.b2,λe he=>((zg.vl e he).dn bg.1 (mW _)).1,λe he=>((tdo.vl e he).dn tdk.p2 (mW _)).1,λe he=>((zg.vl e he).dn bg.1 (by unfold nB;omega)).2,λe he=>((tdo.vl e he).dn tdk.p2 #[0]).2,λe he=>(zg.ky _ (List.mem_map_of_mem he)).small #[1] tdk.m4,λe he=>(tdo.ky _ (List.mem_map_of_mem he)).small #[0] tdk.m4,λdm km H5 n5 b5 rl5 e5 p5=>?_⟩;have S5:Kp (λc=>c=dt∨c=dl) H4 H5:=λc u h hc=>b5 c u h (λz=>hc (.inl z)) (λz=>hc (.inr z));have D5:Dcs H4 (λc=>c=dt∨c=dl):=λc hc=>hc.elim (λz=>⟨kt,z▸.inl et⟩) (λz=>⟨kl,z▸rl⟩);have bt5:Kp (·∈ds) H1 H5:=λc u h hc=>b5 c u (bt c u h hc) (λz=>by rw[z,nt]at h;cases h) (λz=>hc (z▸mdl));have tt5:TabsAt K H5 ta Td ds:=⟨S5.lst D5 tt.e,λj c hc=>by
     obtain⟨kc,rc,pc⟩:=tt.dk j c hc;by_cases y:c=dl
     ·subst y;have e:=rd_one rc rl;exact⟨kl,rl5,Paired.to (λ_ _ q=>S5.ent D5 q) (e▸pc)⟩
     ·have yd:c≠dt:=λz=>dto (z▸gQ hc);refine⟨kc, ?_,Paired.to (λ_ _ q=>S5.ent D5 q) pc⟩;rcases rc with r | ⟨o,r⟩
      ·exact .inl (b5 _ _ r yd y)
      ·exact .inr ⟨o,b5 _ _ r yd y⟩⟩
    have n15:H1 dm=none:=by
     cases q:H1 dm with
     | none=>rfl
     | some u=>
      by_cases y:dm∈ds
      ·exact absurd y (tt.out n5)
      ·rw[bt dm u q y]at n5;cases n5
    have ep5:H5 dp=some (.dK kvp):=bt5 _ _ I1.e dpo;dsimp only[jV];refine⟨_,rfl,_,rfl,dp,_,rfl,DGet.k (k:=.inl p) ep5,_,rfl, ?_⟩;cases hv:kK kvp (.inl p:Key)with
    | none=>
     refine qT rfl ?_;refine .mk n15 bt5 tt5 e5 ?_;rw[acs];unfold xG;rw[tU ((uH pr).mp (I1.no p hv))];exact p5
    | some v=>
     obtain⟨q,rfl,fq,qd,eq1,nez⟩:=I1.yes p v hv;have nep:qL PP l p≠[]:=λz=>nez ((uH pr).mpr z);refine xI rfl ?_;have qo:q∉ds:=tb.out fq;have eq5:=bt5 _ _ eq1 qo;have tm1:Paired (TmQ K H1) xs PP:=Paired.to (λ_ _ h=>h.same s1) pr;have tm5:Paired (TmQ K H5) xs PP:=Paired.to (λ_ _ h=>bt5.tm t1.dc h) tm1;refine⟨_,rfl,_,rfl,_,rfl,dp,.ref q,rfl,hv▸DGet.k (k:=.inl p) ep5,_,rfl,_,rfl,_,_,rfl,rfl, ?_⟩;refine⟨q,ta,l+1,L,aa,dg-(m-i),_,qL PP l p,Td,ds,D1,D2,rfl,by omega,ld,hL,.inr eq5,λ_=>⟨nep,eq5⟩,HW tm5,sN,nW (List.length_filter_le ..) fw,tdk.low #[1],wn,tt5,λd2 k2 H6 n6 b6 tt6 e6 p6=>?_⟩;have dmo:dm∉ds:=tt.out n5;have em6:=b6 _ _ e5 dmo;have pm6:Paired (EntQ K H6) km (vH A (Td l)):=Paired.to (λ_ _ h=>b6.ent tt5.dc h) p5;refine⟨dm,d2,km,k2,vH A (Td l),yF Td n (l+1) (qL PP l p),rfl,.inl em6,e6,pm6,p6,zm.nd,gr.nd,by omega,zm.sz bm.1 bm.2 (by unfold nB;omega),gr.szE bm.1 bm.2 (by unfold nB;omega),λd3 k3 T3 H7 n7 b7 e7 p7 _ eT=>?_⟩;have d2o:d2∉ds:=tt5.out n6;have n12:H1 d2=none:=by
      cases q:H1 d2 with
      | none=>rfl
      | some u=>
       by_cases y:d2∈ds
       ·exact absurd y d2o
       ·rw[bt5 d2 u q y]at n6;cases n6
     have S7:Kp (λc=>c=d2) H6 H7:=λc u h hc=>b7 c u h hc;have D7:Dcs H6 (λc=>c=d2):=λc hc=>⟨k2,hc▸.inl e6⟩;refine .mk ?_ (λc u h hc=>b7 c u (b6 c u (bt5 c u h hc) hc) (λz=>by rw[z,n12]at h;cases h)) ⟨S7.lst D7 tt6.e,λj c hc=>?_⟩ e7 ?_
     ·cases q:H1 d3 with
      | none=>rfl
      | some u=>
       by_cases y:d3∈ds
       ·exact absurd y (tt6.out n7)
       ·rw[b6 _ _ (bt5 d3 u q y) y]at n7;cases n7
     ·obtain⟨kc,rc,pc⟩:=tt6.dk j c hc;have cd2:c≠d2:=λz=>d2o (z▸gQ hc);refine⟨kc, ?_,Paired.to (λ_ _ q=>S7.ent D7 q) pc⟩;rcases rc with r | ⟨o,r⟩
      ·exact .inl (b7 _ _ r cd2)
      ·exact .inr ⟨o,b7 _ _ r cd2⟩
     ·rw[acs];unfold xG;rw[tT nep,<-eT];exact p7
   ·obtain⟨nt,bt,tt,et,pt⟩:=h;rename_i dt kt;rw[<-fine]at pt;exact⟨_,rfl,go dt kt H4 (s1.free nt) (λc u h hc=>bt c u (s1 _ _ h) hc) tt et pt⟩
theorem uG{ts us:List V}(Pv:Nat->List V->Hp->Prop)(hle:ts.length=us.length)(hz:us.length<sizeLine)(h0:Pv 0 [] H')
  (hl:∀i ys H2,Pv i ys H2->SqT K H2 a ts/\SqL K H2 b us/\H2 p=some (.lst ys))
  (hs:∀i m ys x y c H2,ts[i]? = some x->us[i]? = some y->m=us.length-i->ys.length=i->Pv i ys H2->H2 c=none->g (.ref c) σ0 (upd H2 c (.tup [x,y])) fun σ4 H4=>Keep σ0 σ4/\te σ4 H4 λy H5=>H5 p=some (.lst ys)/\∃m',m'<m/\CompW us Pv (i+1) m' (ys++[y]) (upd H5 p (.lst (ys++[y]))))
  (hd:∀ys H2,ys.length=us.length->Pv us.length ys H2->Q (.ref p) H2):CompGoF σ0 (Itu K a b) g te Q p H':=by
 refine⟨CompW us Pv,⟨_,rfl,tL _,rfl,h0⟩, ?_⟩;rintro i m ys H2 ⟨hm,hi,hy,hp⟩;obtain⟨q1,q2,e⟩:=hl i ys H2 hp;refine⟨e,by omega, ?_⟩;by_cases hlt:i<us.length
 ·have h2:i<ts.length:=by omega
  refine .inr ⟨⟨ts,us,ts[i],us[i],q1,q2,by simp [h2],by simp [hlt]⟩, ?_⟩;rintro _ _ ⟨c,x,y,hc,rfl,rfl,h1,h2⟩;exact hs i m ys x y c H2 (h1 _ q1) (h2 _ q2) hm hy hp hc
 ·obtain rfl:i=us.length:=by omega
  exact .inl ⟨⟨ts,us,q1,q2,.inr uX⟩,hd ys H2 hy hp⟩
theorem AB:∀n,pk (List.replicate n 0)=0
 | 0=>rfl
 | n+1=>by rw[List.replicate_succ',xP,AB n];rfl
theorem ky_zero(aa:Nat):KyP aa 0:=⟨List.replicate aa 0,gN,λn hn=>by rw[List.eq_of_mem_replicate hn];exact tP _,by rw[show(List.replicate aa (0:Int)).sum=0 by induction aa with | zero=>rfl | succ n ih=>rw[List.replicate_succ,nT,ih];rfl];decide,(AB aa).symm⟩
structure QOk(aa:Nat)(D2:Int)(Q:Pl):Prop where
 ok:PlOk aa Q
 l2:Q.length<=2
 dg:∀x∈Q,x.1.sum<=2
 cf:∀x∈Q,Ov D2 154 x.2
theorem QOk.td{aa:Nat}{D2:Int}(h:QOk aa D2 Q):TdO aa D2 (jL Q):=by
 refine⟨h.ok.nd,by rw[qG];exact h.l2,λe he=>?_,λk hk=>?_⟩
 ·obtain⟨x,hx,rfl⟩:=nY.mp he;exact h.cf x hx
 ·rw[vI]at hk;obtain⟨x,hx,rfl⟩:=nY.mp hk;exact⟨x.1,h.ok.len x hx,h.ok.nn x hx,h.dg x hx,rfl⟩
theorem deg_nn(P:Pl):0<=qK P:=by
 have:∀m:List Int,0<=m.foldr max 0:=λm=>by
  induction m with
  | nil=>exact tP _
  | cons a m ih=>show 0<=max a (m.foldr max 0);omega
 exact this _
abbrev QT(Qs:List Pl)(j:Nat):Tb:=jL (Qs.getD j [])
theorem QS{Qs:List Pl}{j:Nat}(h:Qs[j]? = some Q):Qs.getD j []=Q:=by rw[gB,h];rfl
def pds(ns:List Int)(Qs:List Pl):List Int:=List.zipWith (λn Q=>n*qK Q) ns Qs
theorem YV:∀{ns:List Int} {Qs:List Pl},(∀n∈ns,0<=n)->(∀Q∈Qs,qK Q<=2)->(pds ns Qs).sum<=2*ns.sum
 | [],_,_,_=>tP _
 | n::ns,[],h,_=>by
  show(0:Int)<=2*(n::ns).sum;have:=(qM h (mD ..)).2;omega
 | n::ns,Q::Qs,h,k=>by
  have ih:=YV (ns:=ns) (Qs:=Qs) (λn hn=>h n (gS _ hn)) (λQ hQ=>k Q (gS _ hQ));have h1:=h n (mD ..);have h2:=k Q (mD ..);have h3:=Int.mul_le_mul_of_nonneg_left h2 h1;show n*qK Q+(pds ns Qs).sum<=2*(n+ns.sum);omega
theorem zw_take{α β γ:Type}{f:α->β->γ}{a:List α}{b:List β}{i:Nat}{x:α}{y:β}(h1:a[i]? = some x)(h2:b[i]? = some y):(List.zipWith f a b).take (i+1)=(List.zipWith f a b).take i++[f x y]:=by
 rw[mI,List.getElem?_zipWith,h1,h2]
 rfl
structure PutH(K:tV)(H:Hp)(p1 oa:Addr)(aa:Nat)(P1:Pl)(ps:List Addr)(Qs:List Pl)(D1 D2:Int):Prop where
 q1:SumQ K H p1 aa P1
 o1:PlOk aa P1
 st:StL aa 0 4 D1 P1
 eo:H oa=some (.lst (ps.map V.ref))
 pq:Paired (λa Q=>SumQ K H a aa Q) ps Qs
 lp:ps.length=aa
 qo:∀Q∈Qs,QOk aa D2 Q
 p1:0<D1
 p2:0<D2
 b1:D1.natAbs<=2^60
 b2:D2.natAbs<=2^120
 wb:(P1.map λx=>wt aa 0 x.1).sum<=60
theorem PutH.same{K:tV}{H H':Hp}{p1 oa:Addr}{aa:Nat}{P1:Pl}{ps:List Addr}{Qs:List Pl}{D1 D2:Int}(h:PutH K H p1 oa aa P1 ps Qs D1 D2)(s:Same H H'):PutH K H' p1 oa aa P1 ps Qs D1 D2:=⟨h.q1.same s,h.o1,h.st,s _ _ h.eo,Paired.to (λ_ _ q=>q.same s) h.pq,h.lp,h.qo,h.p1,h.p2,h.b1,h.b2,h.wb⟩
def CD(K:tV):Sp:=λvs H Q _=>∃(p1 oa:Addr) (aa:Nat) (P1:Pl) (ps:List Addr) (Qs:List Pl) (D1 D2:Int),vs=[.ref p1,.ref oa]/\PutH K H p1 oa aa P1 ps Qs D1 D2/\
 ∀(p:Addr) (P:Pl) (H':Hp),H p=none->Same H H'->SumQ K H' p aa P->SumT aa (yF (QT Qs) aa 0 P1) P->Q (.ref p) H'
inductive PiI(H:Hp)(p1 oa dg:Addr):L2.St->Hp->Prop where
 | mk {u v w:Option V} {H':Hp} (s:Same H H'):PiI H p1 oa dg [some (.ref p1),some (.ref oa),some (.ref dg),u,v,w,none] H'
structure TsI(K:tV)(H1:Hp)(q:Addr)(Td:Nat->Tb)(i:Nat)(ys:List V)(H2:Hp):Prop where
 s:Same H1 H2
 e:H2 q=some (.lst ys)
 y:∃ds:List Addr,ys=ds.map V.ref/\ds.length=i/\∀(j:Nat) (d:Addr),ds[j]? = some d->H1 d=none/\∃kv,H2 d=some (.dK kv)/\Paired (EntQ K H2) kv (Td j)
theorem HN(e:H p=some (.lst xs)){x:Int×Rat}(h:EntQ K H kv x):EntQ K (upd H p (.lst ys)) kv x:=by
 obtain⟨z1,pz,z2,z3⟩:=h;exact⟨z1,pz,z2,at_updL e z3⟩
theorem scPi:FnScope ["one","others","degrees","powers","fraction","reached","tables"] ["one","others"] (jJ EA):=scK #[3]
theorem ZP(F:Fun K "put_in" "put_in" EA f fd)(T:Txt mg)(GD:DG P w K mg base 1 "degree" zC ["one"] (DU K))(GT:DG P w K mg base 2 "table_of" uA ["one"] (uN K))(DP:Df K mg "table_put_in" CF ["terms","tables","letter"] fP fdP)(GP:∀n,FnOk P w K mg base CX0 (n+6) fP fdP ["terms","tables","letter"] (DK K n))(GS:DG P w K mg base 2 "sum_of" zR ["many","table"] (wL K)):FnOk P w K mg base CX0 11 f fd ["one","others"] (CD K):=by
 obtain⟨td,hd⟩:=T.degree;refine F.ok scPi #[8] #[2]
 ·obtain⟨p1,oa,aa,P1,ps,Qs,D1,D2,rfl,_⟩:=h
  rfl
 ·obtain⟨p1,oa,aa,P1,ps,Qs,D1,D2,rfl,PH,go⟩:=h;obtain⟨q1,o1,st1,eo,pq,lp,qo,d1p,d2p,d1b,d2b,wb⟩:=PH;have hr1:Room 1 _:=hr.mono #[0];have hr2:Room 2 _:=hr.mono #[0];have m4:=o1.m4;have hrP:Room (aa+6) _:=hr.mono #[1];have GP:=GP aa;refine⟨_,jC (xX (i:=2) scPi.nd rfl #[5] (own:=1) (idx:=[]) (N:=["other"]) rfl rfl rfl #[3] #[3] (λ_ _ h=>nomatch h) (qU rfl) rfl (λ_ _ _ h=>nomatch h) (xC (pv 1)) (λC fp s2 H2=>(jG (i:=0) (show List.Nodup (["other"]:List Str) by decide +kernel) rfl #[5] (Or.inr rfl))) (λC fp s2 H2=>cal GD hr1 (jA (pv 0) jB))) (jC (kZ PassesOwn.never rfl (xY #[10]) (kD rfl (jH (jG (i:=3) scPi.nd rfl #[5]) (jH (jG (i:=4) scPi.nd rfl #[5]) jY))) (jC (jN (i:=5) scPi.nd rfl #[5] (kF (VX rfl) (by rfl) T.sum boot_sum (jA (vQ (own:=2) (idx:=[]) (N:=["power","most"]) rfl rfl rfl #[3] #[3] (λ_ _ h=>nomatch h) (qU rfl) rfl (λ_ _ _ h=>nomatch h) (CL (by rfl) T.zip (jA (pv 3) (jA (pv 2) jB))) (λC fp s2 H2=>show PG (jK _ ["power","most"] _ _ C fp s2 H2) _ (AJ K 2 (qS (jV 0) (qS (jV 1) gNil)))from kD (X:=jK _ ["power","most"] _ _ C fp s2 H2) rfl (jH (jG (i:=0) (show List.Nodup (["power","most"]:List Str) by decide +kernel) rfl #[5] (Or.inr rfl)) (jH (jG (i:=1) (show List.Nodup (["power","most"]:List Str) by decide +kernel) rfl #[5] (Or.inr rfl)) jY))) (λC fp s2 H2=>jM qA (pv 0) (pv 1))) jB))) (jF (kE (jO yT (pv 5) (kT (v:=.int 16) (by rfl) hd ⟨_,rfl⟩) (jS _)) (jF (kP)) jR)))) (jC (xX (i:=6) scPi.nd rfl #[5] (own:=1) (idx:=[]) (N:=["other"]) rfl rfl rfl #[3] #[3] (λ_ _ h=>nomatch h) (qU rfl) rfl (λ_ _ _ h=>nomatch h) (xC (pv 1)) (λC fp s2 H2=>(jG (i:=0) (show List.Nodup (["other"]:List Str) by decide +kernel) rfl #[5] (Or.inr rfl))) (λC fp s2 H2=>cal GT hr2 (jA (pv 0) jB))) (jF (jP (cal GS hr2 (jA (jU jX (jU kX (pv 1) jD (λ_ _=>rfl)) jD (λ_ _=>rfl)) (jA (jZ GP hrP rfl DP.m DP.F.kp DP.b .nil kW (jA #[10] (jA (pv 6) (jA jD jB)))) jB))))))), ?_⟩
  try dsimp only[cxK]
  have lq:Qs.length=aa:=by rw[<-Paired.length pq];exact lp
  have dg2:∀Q∈Qs,qK Q<=2:=λQ hQ=>JX (λx hx=>(qo Q hQ).dg x hx) #[0];have d10:∀Q∈Qs,(qK Q).natAbs<2^10:=λQ hQ=>by have:=dg2 Q hQ;have:=deg_nn Q;have:(2:Nat)^10=1024:=rfl;omega
  have lpm:(ps.map V.ref).length=aa:=by rw[mY];exact lp
  have at1:∀{i:Nat} {x:V},(ps.map V.ref)[i]? = some x->∃(a:Addr) (Q:Pl),x=.ref a/\ps[i]? = some a/\Qs[i]? = some Q/\SumQ K H a aa Q/\QOk aa D2 Q/\Q∈Qs:=fun {i x} hx=>by
   rw[mG]at hx;cases e:ps[i]? with
   | none=>rw[e]at hx;cases hx
   | some a=>
    rw[e]at hx;obtain⟨Q,hQ,hq⟩:=Paired.at pq e;exact⟨a,Q,(Option.some.inj hx).symm,rfl,hQ,hq,qo Q (gQ hQ),gQ hQ⟩
  refine⟨_,rfl,oa,rfl,⟨_,SqL.of eo⟩,λl1 H1 n1 s1 e1=>?_⟩;refine yE (K:=K) (a:=oa) (xs:=ps.map V.ref) (CmI (λi=>(Qs.take i).map λQ=>V.int (qK Q)) l1 H) (by rw[lpm,sizeLine_eq];omega) ⟨s1,e1,rfl⟩ (λi ys H2 h=>⟨SqL.of (h.s _ _ eo),h.e⟩) ?_ ?_
  ·rintro i m ys x H2 hx hm hy ⟨s2,e2,ey⟩;obtain⟨p2,P2,rfl,hp2,hQ2,q2,k2,_⟩:=at1 hx;refine⟨wE,_,rfl,p2,aa,16,P2,rfl,q2.same s2,k2.ok.pd,m4,by decide,by have:=k2.ok.few;omega,λH3 s3=>?_⟩;exact kJ hx hm hy (s3 _ _ e2) ⟨kA (s2.trans s3) n1,jE,by rw[ey,mI,hQ2,mZ];rfl⟩
  ·rintro ys H2 hl ⟨s2,e2,ey⟩;rw[lpm,<-lq,mR]at ey;subst ey;obtain⟨q,xs,e3,e4,pr⟩:=q1.ex;refine⟨_,rfl,p1,_,_,_,rfl,rfl,SqT.of (s2 _ _ e3),rfl,q,rfl,⟨_,SqT.of (s2 _ _ e4)⟩,AK (K:=K) (a:=q) (xs:=xs) (λ_=>PiI H2 p1 oa l1) (.mk (Same.refl _)) (λi σ H3 _ h=>?_) (λi x σ H3 hx h=>?_) (fun σ H3 h=>?_)⟩
   ·obtain⟨s3⟩:=h;exact SqT.of ((s2.trans s3) _ _ e4)
   ·obtain⟨s3⟩:=h;obtain⟨y,hy,r,b,c,rfl,r1,r2,r3⟩:=Paired.at pr hx;have ym:=gQ hy;have ly:=o1.len y ym;refine gT2 (SqT.of ((s2.trans s3) _ _ r1)) rfl ?_;refine⟨_,rfl,_,rfl,b,l1,rfl,⟨_,SqT.of ((s2.trans s3) _ _ r2)⟩,⟨_,SqL.of (s3 _ _ e2)⟩,λl2 H4 n4 s4 e4'=>?_⟩;refine uG (K:=K) (a:=b) (b:=l1) (ts:=y.1.map V.int) (us:=Qs.map λQ=>V.int (qK Q)) (CmI (λi=>((pds y.1 Qs).take i).map V.int) l2 H3) (by rw[mY,mY,lq];exact ly) (by rw[mY,lq,sizeLine_eq];omega) ⟨s4,e4',rfl⟩ (λi ys H5 h=>⟨SqT.of (h.s _ _ ((s2.trans s3) _ _ r2)),SqL.of (h.s _ _ (s3 _ _ e2)),h.e⟩) ?_ ?_
    ·rintro i m ys x' y' c' H5 hx' hy' hm hyl ⟨s5,e5,ey⟩ hc;rw[mG]at hx';have hy2:=hy';rw[mG]at hy2;cases hQ:Qs[i]? with
     | none=>rw[hQ]at hy2;cases hy2
     | some P2=>
     rw[hQ]at hy2;cases hy2;cases hn:y.1[i]? with
     | none=>rw[hn]at hx';cases hx'
     | some n=>
      rw[hn]at hx';cases hx';have nb:=(qM (o1.nn y ym) (gQ hn)).1;have n0:=o1.nn y ym n (gQ hn);have nd:=o1.deg y ym;have n10:n.natAbs<2^10:=by have:(2:Nat)^10=1024:=rfl;omega
      have s6:Same H5 (upd H5 c' (.tup [V.int n,.int (qK P2)])):=jQ _ hc;refine⟨c',_,rfl,SqT.of jE,rfl,_,_,rfl,_,_,rfl,rfl,BT,_,rfl,_,rfl,_,_,rfl,rfl,⟨jT n10 #[0],jT (d10 P2 (gQ hQ)) #[0]⟩, ?_⟩;refine kJ hy' hm hyl (s6 _ _ e5) ⟨kA (s5.trans s6) n4,jE, ?_⟩;rw[ey];unfold pds;rw[zw_take hn hQ,mZ]
      rfl
    ·rintro ys H5 hl5 ⟨s5,e5,ey⟩;rw[mY,gK (show(pds y.1 Qs).length<=Qs.length by unfold pds;rw[List.length_zipWith];omega)]at ey;subst ey;refine⟨l2,_,rfl,SqL.of e5, ?_⟩;dsimp only[jV];have dd:y.1.sum<=4:=st1.dg y ym;have sm:=YV (Qs:=Qs) (o1.nn y ym) dg2;refine⟨_,rfl,_,_,rfl,rfl,_,rfl,qT (nC #[1]) (.mk (s3.trans s5))⟩
   ·obtain⟨s3⟩:=h;have s03:=s2.trans s3;refine⟨_,rfl,oa,rfl,⟨_,SqL.of (s03 _ _ eo)⟩,λl6 H4 n4 s4 e4'=>?_⟩;refine yE (K:=K) (a:=oa) (xs:=ps.map V.ref) (TsI K H3 l6 (QT Qs)) (by rw[lpm,sizeLine_eq];omega) ⟨s4,e4',[],rfl,rfl,λ_ _ h=>nomatch h⟩ (λi ys H5 h=>⟨SqL.of (h.s _ _ (s03 _ _ eo)),h.e⟩) ?_ ?_
    ·rintro i m ys x H5 hx hm hy ⟨s5,e5,ds,rfl,ld,hds⟩;obtain⟨p2,P2,rfl,hp2,hQ2,q2,k2,_⟩:=at1 hx;refine⟨wE,_,rfl,p2,aa,P2,rfl,q2.same (s03.trans s5),k2.ok,λd ah H6 n6 s6 e6 p6=>?_⟩;have e56:=s6 _ _ e5;have dl:∀{d:Addr} {kv:List (Key×V)},H6 d=some (.dK kv)->d≠l6:=λh z=>by rw[z,e56]at h;cases h
     refine kJ hx hm hy e56 ⟨kA (s5.trans s6) n4,jE,ds++[d],by rw[mZ];rfl,by rw[hJ,ld];rfl,λj d' hd'=>?_⟩;by_cases hj:j<ds.length
     ·rw[gF hj]at hd';obtain⟨h1,kv,h2,h3⟩:=hds j d' hd';exact⟨h1,kv,by rw[jI (dl (s6 _ _ h2))];exact s6 _ _ h2,Paired.to (λ_ _ q=>HN e56 (q.same s6)) h3⟩
     ·rw[gC #[1]]at hd';have j0:j-ds.length=0:=by
       have:=(gE.mp hd').1;rw[List.length_singleton]at this;omega
      rw[j0]at hd';cases hd';have ji:j=i:=by omega
      subst ji;unfold QT;rw[QS hQ2];exact⟨s5.free n6,ah,by rw[jI (dl e6)];exact e6,Paired.to (λ_ _ q=>HN e56 q) p6⟩
    ·rintro ys H5 hl5 ⟨s5,e5,ds,rfl,ld,hds⟩;rw[lpm]at ld;dsimp only[jV];have s05:=s03.trans s5;have h0:(ps.map V.ref)[0]? = some ((ps.map V.ref)[0]'(by rw[lpm];exact o1.m1)):=gG _;obtain⟨p2,P2,e02,_,_,q2,k2,_⟩:=at1 h0;rw[e02]at h0;obtain⟨qq,xx,f1,_⟩:=(q2.same s05).ex;have tdo:∀j,j<aa->TdO aa D2 (QT Qs j):=λj hj=>by
      have hQ:Qs[j]? = some Qs[j]:=gG #[1];unfold QT;rw[QS hQ];exact(qo _ (mT _)).td
     have z0:KyD aa 0 0:=by
      obtain⟨ns,k1,k2,k3,k4⟩:=ky_zero aa;refine⟨List.replicate aa 0,gN,λn hn=>by rw[List.eq_of_mem_replicate hn];exact tP _, ?_,(AB aa).symm⟩;have:∀m:Nat,(List.replicate m (0:Int)).sum=0:=λm=>by
       induction m with
       | zero=>rfl
       | succ n ih=>rw[List.replicate_succ,nT,ih];rfl
      rw[this];exact tP _
     have tda:TdA aa aa 4 D1 D2 (QT Qs):=⟨m4,tK _,d1p,d2p,d1b,d2b,tdo,z0⟩;have gr:=EC (Td:=QT Qs) (L:=aa) d1p d2p d2b tdo z0 aa 0 4 P1 #[1] st1;refine⟨_,rfl,oa,_,_,_,rfl,rfl,SqL.of (s05 _ _ eo),(show atI _ ((0:Nat):Int)=_ from qO h0),p2,_,_,_,rfl,rfl,SqT.of f1,rfl,_,rfl,p1,_,_,_,rfl,rfl,SqT.of (s05 _ _ e3),rfl,_,rfl, ?_⟩;refine⟨q,l6,0,aa,aa,4,xs,P1,QT Qs,ds,D1,D2,rfl,by omega,ld,m4,.inl (s05 _ _ e4),λz=>by have:=o1.m1;omega,Paired.to (λ_ _ h=>h.same s05) pr,st1,o1.few,tda,wb,⟨e5,λj d hd=>let ⟨_,kv,h2,h3⟩:=hds j d hd;⟨kv,.inl h2,h3⟩⟩,λd ah H6 n6 b6 t6 e6 p6=>?_⟩;have s06:Same H H6:=λc u h=>b6 c u (s05 _ _ h) λz=>by obtain⟨j,hj⟩:=gP.mp z;have:=(hds j c hj).1;rw[s03 _ _ h]at this;cases this
     have lg:=nW gr.ln (nW (CP λx _=>JM (tks (QT Qs)) aa 0 x.1) wb);refine⟨d,aa,ah,_,rfl,.inl e6,p6,gr.nd,by omega,λk hk=>(gr.ky k hk).kp #[0],o1.m1,m4,λp PP H7 n7 s7 SQ ST=>go p PP H7 (s06.free n7) (s06.trans s7) SQ ST⟩
def FL(n:Nat):List V:=(List.range n).map λ(i:Nat)=>V.int (0+(i:Int))
theorem uI(n:Nat):(FL n).length=n:=by simp [FL]
theorem uJ{n i:Nat}(h:(FL n)[i]? = some x):x=.int (0+(i:Int))/\i<n:=by
 unfold FL at h;rw[mG]at h;cases e:(List.range n)[i]? with
 | none=>rw[e]at h;cases h
 | some j=>
  rw[e]at h;obtain⟨h1,h2⟩:=gE.mp e;rw[List.getElem_range]at h2;subst h2;rw[List.length_range]at h1;exact⟨(Option.some.inj h).symm,h1⟩
theorem wJ{n:Nat}(Pv:Nat->List V->Hp->Prop)(hz:n<sizeLine)(h0:Pv 0 [] H')(hl:∀i ys H2,Pv i ys H2->H2 p=some (.lst ys))
  (hs:∀i m ys x H2,(FL n)[i]? = some x->m=(FL n).length-i->ys.length=i->Pv i ys H2->g (.int (0+(i:Int))) σ0 H2 fun σ4 H4=>Keep σ0 σ4/\te σ4 H4 λy H5=>H5 p=some (.lst ys)/\∃m',m'<m/\CompW (FL n) Pv (i+1) m' (ys++[y]) (upd H5 p (.lst (ys++[y]))))
  (hd:∀ys H2,ys.length=n->Pv n ys H2->Q (.ref p) H2):CompGoF σ0 (Itr 0 n) g te Q p H':=by
 refine CU (xs:=FL n) Pv (by rw[uI];exact hz) h0 (λi ys H2 _ hi=>?_) (λys H2 _=>by rw[uI];exact tK n) hl (λi m ys x H2 hx hm hy hp=>?_) (λys H2 hy hp=>?_)
 ·rw[uI]at hi;refine⟨hi, ?_⟩;rintro x H3 ⟨rfl,rfl⟩;exact⟨rfl,by unfold FL;rw[mG,List.getElem?_range hi];rfl⟩
 ·obtain⟨e,_⟩:=uJ hx;subst e;exact hs i m ys _ H2 hx hm hy hp
 ·rw[uI]at hy hp;exact hd ys H2 hy hp
def pws(base:Int)(n:Nat):List V:=(List.range (n+1)).map λ(i:Nat)=>V.int (base^i)
theorem pws_len(base:Int)(n:Nat):(pws base n).length=n+1:=by simp [pws]
theorem YE(base:Int)(n:Nat):pws base (n+1)=pws base n++[V.int (base^(n+1))]:=by
 unfold pws;rw[List.range_succ,mZ]
 rfl
theorem YF(base:Int)(n:Nat):atI (pws base n) (-1)=some (.int (base^n)):=by
 unfold pws;rw[List.range_succ,mZ];exact atI_last _ _
theorem YG{base:Int}{n i:Nat}(h:i<=n):atI (pws base n) (i:Int)=some (.int (base^i)):=by
 refine qO ?_;unfold pws;rw[mG,List.getElem?_range #[1]]
 rfl
def spChain:Sp:=λvs H Q _=>∃(base:Int) (most B:Nat),vs=[.int base,.int most]/\most<=16/\base.natAbs<=2^B/\B*most<=1600/\B<=2000/\∀l H',H l=none->Same H H'->H' l=some (.lst (pws base most))->Q (.ref l) H'
def grP(aa:Nat)(P:Pl):List Int:=(List.range aa).map λj=>mxP P j
theorem JR(aa:Nat)(P:Pl):(grP aa P).length=aa:=by unfold grP;rw[mY,List.length_range]
theorem grP_at{aa:Nat}{P:Pl}{j:Nat}(h:j<aa):(grP aa P)[j]? = some (mxP P j):=by unfold grP;rw[mG,List.getElem?_range h];rfl
def QD(K:tV):Sp:=λvs H Q _=>∃(p:Addr) (aa:Nat) (P:Pl),vs=[.ref p]/\SumQ K H p aa P/\PlOk aa P/\∀l H',H l=none->Same H H'->H' l=some (.lst ((grP aa P).map V.int))->Q (.ref l) H'
structure GrI(H:Hp)(l:Addr)(P:Pl)(i:Nat)(ys:List V)(H2:Hp):Prop where
 s:Same H H2
 e:H2 l=some (.lst ys)
 y:ys=(grP i P).map V.int
theorem grP_succ(i:Nat)(P:Pl):grP (i+1) P=grP i P++[mxP P i]:=by unfold grP;rw[List.range_succ,mZ];rfl
theorem scChain:FnScope ["base","most","powers","turn"] ["base","most"] (jJ IP):=scK #[3]
theorem ZV(F:Fun K "chain" "chain" IP f fd)(T:Txt mg):FnOk P w K mg base CX0 1 f fd ["base","most"] spChain:=by
 refine F.ok scChain #[8] #[2]
 ·obtain⟨b,m,B,rfl,_⟩:=h
  rfl
 ·obtain⟨b,m,B,rfl,m16,hb,hBm,hB,go⟩:=h;refine⟨_,jC (jN (i:=2) scChain.nd rfl #[5] (xQ (jA jD jB))) (jC (kZ PassesOwn.never rfl (qZ (by rfl) T.rng (jA (pv 1) jB)) (jG (i:=3) scChain.nd rfl #[5])
   (jF (yI (yK PySem.F.plainAttrs_list PySem.F.slot_list_append PySem.F.type_list_append vA (pv 2) (jA (jM qA (jU kX (pv 2) (GQ AZ jD) (λ_ _=>rfl)) (pv 0)) jB))))) (jF (jP (pv 2)))), ?_⟩
  refine⟨uZ,λl H1 n1 s1 e1=>⟨_,rfl,m,rfl,by omega,by omega, ?_⟩⟩;refine vZ (n:=m) (λi σ H2=>(∃u,σ=[some (.int b),some (.int m),some (.ref l),u])/\Same H H2/\H2 l=some (.lst (pws b i))) ⟨⟨_,rfl⟩,s1,by rw[e1];simp [pws]⟩ ?_ ?_
  ·rintro i σ H2 hi ⟨⟨u,rfl⟩,s2,e2⟩;refine⟨_,rfl,.inl ⟨rfl,_,SqL.of e2⟩,_,rfl,_,rfl,l,_,_,_,rfl,rfl,SqL.of e2,YF b i,_,rfl,_,_,rfl,rfl,⟨?_, ?_⟩, ?_⟩
   ·exact gZ (xN (xH hb i) (nW (Nat.mul_le_mul_left B (show i<=m by omega)) hBm)) (gU #[0] #[0])
   ·exact gZ (xN hb hB) (gU #[0] #[0])
   ·refine⟨l,_,_,rfl,rfl,e2, ?_,⟨_,rfl⟩,kA s2 n1, ?_⟩
    ·rw[pws_len];exact gZ (show i+1<=17 by omega) #[0]
    ·rw[jE,YE,Int.pow_succ]
  ·rintro σ H2 ⟨⟨u,rfl⟩,s2,e2⟩;exact⟨_,rfl,go l H2 n1 s2 e2⟩
theorem scGreat:FnScope ["one","many","terms"] ["one"] (jJ QQ):=scK #[3]
theorem ZF{X:Cx}{scope:Scope}{j0:Nat}{N:List Str}{x0 x1:Str}(h0:N[1]? = some x1)(h:x1≠x0/\X.N[j0]? = some x1/\X.env.kindOf x1=some .cell/\#[11].names.lookup x1=some .cell/\X.env.scope.names.lookup x1=some .cell) :
  ∀(k j:Nat) (x:Str),[j0][k]? = some j->N[1+k]? = some x->x≠x0/\X.N[j]? = some x/\X.env.kindOf x=some .cell/\#[11].names.lookup x=some .cell/\X.env.scope.names.lookup x=some .cell:=by
 intro k j x e1 e2
 match k,e1 with
 | 0,e1=>
  cases e1;rw[Nat.add_zero,h0]at e2;cases e2;exact h
 | k+1,e1=>cases e1
theorem has_ofC{names:List (Str×NameKind)}{cl:List (Str×Addr)}(h:hasB (names.filter λy=>y.1 != x0) cl=true):∀x,(names.lookup x=some .cell∨names.lookup x=some .free)->x=x0∨∃c,cl.lookup x=some c:=by
 intro x hx;by_cases e:x=x0
 ·exact .inl e
 ·right
  have all:=List.all_eq_true.mp h;rcases hx with hx | hx
  ·have:=all _ (List.mem_filter.mpr ⟨PySem.mem_of_lookup hx,by simp [e]⟩);exact Option.isSome_iff_exists.mp this
  ·have:=all _ (List.mem_filter.mpr ⟨PySem.mem_of_lookup hx,by simp [e]⟩);exact Option.isSome_iff_exists.mp this
theorem ZU(F:Fun K "greatest_powers" "greatest_powers" QQ f fd)(T:Txt mg):FnOk P w K mg base CX0 1 f fd ["one"] (QD K):=by
 refine F.ok scGreat #[8] #[2]
 ·obtain⟨p,aa,PP,rfl,_⟩:=h
  rfl
 ·obtain⟨p,aa,PP,rfl,q1,ok,go⟩:=h;have m4:=ok.m4;refine⟨_,jC (qP (pv 0) (kD rfl (jH (jG (i:=1) scGreat.nd rfl #[5]) (jH (jG (i:=2) scGreat.nd rfl (Or.inr rfl)) jY))))
   (jF (jP (YT (idx:=[2]) (N:=["letter","terms"]) (x0:="letter") rfl rfl rfl (λ_ _=>rfl) (λ_=>rfl) #[3] (λ_ _ h=>h) (has_ofC rfl) rfl (ZF rfl ⟨by decide +kernel,rfl,rfl,rfl,rfl⟩) (qZ (by rfl) T.rng (jA (pv 1) jB))
    (λC fp s2 H2=>jG (i:=0) (show List.Nodup (["letter","terms"]:List Str) by decide +kernel) rfl (Or.inr rfl) #[5])
    (λC fp s2 H2=>LwMx.pe_maxD rfl (by rfl) T.max (jA (vQ (own:=2) (idx:=[0]) (N:=["powers","fraction","letter"]) rfl rfl rfl #[3] #[3] (zQ (by intro y hy;simp only[nP,mQ,or_false]at hy;rcases hy with rfl;rfl)) (qU rfl) rfl (yL rfl ⟨rfl,rfl,rfl,rfl⟩) (show PI (xE _ ["letter","terms"] _ "letter" _ C fp s2 H2) _ _ (iTup K (kH 1))from xY (pv 1))
     (λC' fp' s2' H2'=>show PG (jK _ ["powers","fraction","letter"] _ _ C' fp' s2' H2') _ (AJ K 2 (qS (jV 0) (qS (jV 1) gNil)))from kD (X:=jK _ ["powers","fraction","letter"] _ _ C' fp' s2' H2') rfl (jH (jG (i:=0) (show List.Nodup (["powers","fraction","letter"]:List Str) by decide +kernel) rfl #[5] (Or.inr rfl)) (jH (jG (i:=1) (show List.Nodup (["powers","fraction","letter"]:List Str) by decide +kernel) rfl #[5] (Or.inr rfl)) jY)))
     (λC' fp' s2' H2'=>jU (show IxR (jK _ ["powers","fraction","letter"] _ _ C' fp' s2' H2') (LB K)from jX) (pv 0) (pv 2) (λ_ _=>rfl))) jB) (zE jD NT))))), ?_⟩
  try dsimp only[cxK]
  obtain⟨q,xs,e1,e2,pr⟩:=q1.ex;have lx:xs.length=PP.length:=Paired.length pr;have fw:=ok.few;refine⟨_,rfl,p,_,rfl,SqT.of e1,rfl,_,_,rfl,_,_,rfl,rfl, ?_⟩;refine⟨_,rfl,aa,rfl,by omega,by omega,λl H1 n1 s1 e3=>?_⟩;refine wJ (n:=aa) (GrI H l PP) (by rw[sizeLine_eq];omega) ⟨s1,e3,rfl⟩ (λi ys H2 h=>h.e) ?_ ?_
  ·rintro i m ys x H2 hx hm hy ⟨s2,e4,ey⟩;have him:i<aa:=(uJ hx).2;refine⟨wE,_,rfl,q,rfl,⟨xs,SqT.of (s2 _ _ e2)⟩,λl2 H3 n3 s3 e5=>?_⟩;refine BQ (K:=K) (a:=q) (xs:=xs) (CmI (λk=>(PP.take k).map λx=>V.int (x.1.getD i 0)) l2 H2) (by rw[lx,sizeLine_eq];omega) ⟨s3,e5,rfl⟩ (λk zs H4 h=>⟨SqT.of (h.s _ _ (s2 _ _ e2)),h.e⟩) ?_ ?_
   ·rintro k m' zs x' H4 hx' hm' hy' ⟨s4,e6,ez⟩;obtain⟨y,hy2,r,b,c,rfl,r1,r2,r3⟩:=Paired.at pr hx';have ym:=gQ hy2;have s24:=s2.trans s4;have hat:atI (y.1.map V.int) (0+(i:Int))=some (.int (y.1.getD i 0)):=by
     rw[Int.zero_add];exact qO (by rw[mG,qN (show i<y.1.length by rw[ok.len y ym];exact him)];rfl)
    refine⟨r,_,rfl,SqT.of (s24 _ _ r1),rfl,_,_,rfl,_,_,rfl,rfl,BT, ?_⟩;refine⟨_,rfl,_,rfl,b,_,_,_,rfl,rfl,SqT.of (s24 _ _ r2),hat, ?_⟩;refine kJ hx' hm' hy' e6 ⟨kA s4 n3,jE, ?_⟩;rw[ez,mI,hy2,mZ]
    rfl
   ·rintro zs H4 hl ⟨s4,e6,ez⟩;rw[lx,mR]at ez;have hz:zs=(PP.map λx=>x.1.getD i 0).map V.int:=by rw[ez,tG];rfl
    have fin:∀m0:Int,m0=mxP PP i->H4 l=some (.lst ys)/\∃m',m'<m/\CompW (FL aa) (GrI H l PP) (i+1) m' (ys++[.int m0]) (upd H4 l (.lst (ys++[.int m0]))):=λm0 h0=>by
     refine kJ hx hm hy (s4 _ _ e4) ⟨kA (s2.trans s4) n1,jE, ?_⟩;rw[ey,h0,grP_succ,mZ]
     rfl
    refine⟨0,rfl,l2,PP.map (λx=>x.1.getD i 0),rfl,by rw[e6,hz],λz=>?_,λm0 h1 h2=>?_⟩
    ·refine fin 0 ?_;have:PP=[]:=List.map_eq_nil_iff.mp z;rw[this]
     rfl
    ·refine fin m0 (Int.le_antisymm (qY h1) (xA h2 ?_));obtain⟨x,hx,rfl⟩:=nY.mp h1;exact ok.nn x hx _ (gQ (qN (show i<x.1.length by rw[ok.len x hx];exact him)))
  ·rintro ys H2 hl ⟨s2,e4,ey⟩;exact go l H2 n1 s2 (by rw[e4,ey])
def pr2(r:Rat):Int×Int:=(r.num,(r.den:Int))
def AY(S:List (Int×Int))(ms:List Int):Pl->Rat
 | []=>0
 | x::r=>x.2*((zP S ms x.1:Int):Rat)+AY S ms r
theorem FO(S:List (Int×Int))(ms:List Int)(x:List Int×Rat):∀P:Pl,AY S ms (P++[x])=AY S ms P+x.2*((zP S ms x.1:Int):Rat)
 | []=>by
  show x.2*((zP S ms x.1:Int):Rat)+0=0+_;rw[tD,nZ]
 | a::r=>by
  show a.2*_+AY S ms (r++[x])=a.2*_+AY S ms r+_;rw[FO S ms x r,Rat.add_assoc]
theorem TW{S:List (Int×Int)}{ms:List Int}{P:Pl}{i:Nat}{x:List Int×Rat}(h:P[i]? = some x):AY S ms (P.take (i+1))=AY S ms (P.take i)+x.2*((zP S ms x.1:Int):Rat):=by
 rw[mI,h];exact FO S ms x _
def wvQ(S:List Rat)(aa:Nat)(P:Pl):Rat:=AY (S.map pr2) (grP aa P) P/((wG (S.map pr2) (grP aa P):Int):Rat)
def NmP(K:tV)(H:Hp)(v:V)(p:Int×Int):Prop:=∃c,v=.ref c/\SqT K H c [.int p.1,.int p.2]
theorem NmP.same{p:Int×Int}(h:NmP K H v p)(s:Same H H'):NmP K H' v p:=let ⟨c,e,q⟩:=h;⟨c,e,vJ s q⟩
def SpQ(K:tV)(H:Hp)(sp:Addr)(S:List Rat):Prop:=∃ys,H sp=some (.tup ys)/\Paired (NumK K H) ys S
theorem EI{α β γ:Type}{F:α->β->Prop}{G:α->γ->Prop}{g:β->γ}(h:∀a b,F a b->G a (g b)):∀{l:List α} {m:List β},Paired F l m->Paired G l (m.map g)
 | _,_,.nil=>.nil
 | _,_,.cons k t=>.cons (h _ _ k) (EI h t)
def DJ(K:tV):Sp:=λvs H Q _=>∃(p sp:Addr) (aa n d B G:Nat) (P:Pl) (S:List Rat) (D:Int),vs=[.ref p,.ref sp]/\SumQ K H p aa P/\PlOk aa P/\SpQ K H sp S/\S.length=aa/\(∀x∈P,Ov D n x.2)/\0<D/\D.natAbs<=2^d/\n<=1300/\d<=1300/\(∀r∈S,r.num.natAbs<=2^B/\r.den<=2^B)/\(∀x∈P,x.1.sum<=G)/\G<=16/\B*G<=1600/\B<=2000/\
 ∀(v:V) (H':Hp),Same H H'->NumK K H' v (wvQ S aa P)->Q v H'
structure LsI(H1:Hp)(l:Addr)(g:Nat->List V)(i:Nat)(ys:List V)(H2:Hp):Prop where
 s:Same H1 H2
 e:H2 l=some (.lst ys)
 a:∀j,j<i->∃a,ys[j]? = some (.ref a)/\H2 a=some (.lst (g j))/\a≠l
theorem LsI.same{g:Nat->List V}{i:Nat}(h:LsI H1 l g i ys H2)(s:Same H2 H3):LsI H1 l g i ys H3:=⟨h.s.trans s,s _ _ h.e,λj hj=>let ⟨a,e1,e2,e3⟩:=h.a j hj;⟨a,e1,s _ _ e2,e3⟩⟩
theorem LsI.next{g:Nat->List V}{i:Nat}{ys:List V}(h:LsI H1 l g i ys H2)(s:Same H2 H3)(n:H1 l=none)(nl:H2 la=none)(hy:ys.length=i)(e:H3 la=some (.lst (g i))):LsI H1 l g (i+1) (ys++[.ref la]) (upd H3 l (.lst (ys++[.ref la]))):=by
 have ll:la≠l:=λz=>by rw[z,h.e]at nl;cases nl
 refine⟨kA (h.s.trans s) n,jE,λj hj=>?_⟩;by_cases hji:j<i
 ·obtain⟨a,a1,a2,a3⟩:=h.a j hji;exact⟨a,by rw[gF #[1]];exact a1,by rw[jI a3];exact s _ _ a2,a3⟩
 ·have:j=i:=by omega
  subst this;exact⟨la,by rw[gC #[1],hy,Nat.sub_self];rfl,by rw[jI ll];exact e,ll⟩
inductive W1(K:tV)(H5:Hp)(p sp lm l2 l4:Addr)(S:List (Int×Int))(ms:List Int)(P:Pl)(i:Nat):L2.St->Hp->Prop where
 | mk {u6 u7 u8 u9 u10 u11 u12:Option V} {v:V} {H':Hp} (s:Same H5 H') (h:NumK K H' v (AY S ms (P.take i))):W1 K H5 p sp lm l2 l4 S ms P i [some (.ref p),some (.ref sp),some (.ref lm),some (.ref l2),some (.ref l4),some v,u6,u7,u8,u9,u10,u11,u12] H'
inductive W2(H6:Hp)(p sp lm l2 l4 b c:Addr)(v:V)(S:List (Int×Int))(ms ns:List Int)(j:Nat):L2.St->Hp->Prop where
 | mk {u9 u10 u11 u12:Option V} {H':Hp} (s:Same H6 H') (h:(zP (S.take j) (ms.take j) (ns.take j)).natAbs<=2^(1600*j)):W2 H6 p sp lm l2 l4 b c v S ms ns j [some (.ref p),some (.ref sp),some (.ref lm),some (.ref l2),some (.ref l4),some v,some (.ref b),some (.ref c),some (.int (zP (S.take j) (ms.take j) (ns.take j))),u9,u10,u11,u12] H'
inductive W3(K:tV)(H6:Hp)(p sp lm l2 l4:Addr)(d N:Nat)(X:Rat)(S:List (Int×Int))(ms:List Int)(j:Nat):L2.St->Hp->Prop where
 | mk {u6 u7 u8 u9 u10 u11 u12:Option V} {v:V} {H':Hp} {E:Int} (s:Same H6 H') (h:NumK K H' v (X/((wG (S.take j) (ms.take j):Int):Rat))) (e0:0<E) (e1:E.natAbs<=2^(d+1600*j)) (o:Ov E N (X/((wG (S.take j) (ms.take j):Int):Rat))):W3 K H6 p sp lm l2 l4 d N X S ms j [some (.ref p),some (.ref sp),some (.ref lm),some (.ref l2),some (.ref l4),some v,u6,u7,u8,u9,u10,u11,u12] H'
inductive W4(K:tV)(H7:Hp)(p sp lm l2 l4 cc:Addr)(m d N B:Nat)(Y:Rat)(b:Int)(u6 u7 u8 u9:Option V)(i:Nat):L2.St->Hp->Prop where
 | mk {u12:Option V} {v:V} {H':Hp} {E:Int} (s:Same H7 H') (h:NumK K H' v (Y/((b^i:Int):Rat))) (e0:0<E) (e1:E.natAbs<=2^(d+B*i)) (o:Ov E N (Y/((b^i:Int):Rat))):W4 K H7 p sp lm l2 l4 cc m d N B Y b u6 u7 u8 u9 i [some (.ref p),some (.ref sp),some (.ref lm),some (.ref l2),some (.ref l4),some v,u6,u7,u8,u9,some (.int (m:Int)),some (.ref cc),u12] H'
theorem divN{x:Rat}{b:Int}(hb:0<b)(e:At2 H r (yG (x.num*1) (x.den*b)) (yV (x.num*1) (x.den*b))):At2 H r (x/(b:Rat)).num (x/(b:Rat)).den:=
 BR e (tM (kU x).1 hb) (by rw[fv_mul (kU x).1 hb,vV];unfold fv;rw[show((1:Int):Rat)=1 from rfl,tN,tN,Rat.one_mul])
theorem getD_of{α:Type}{l:List α}{i:Nat}{x d:α}(h:l[i]? = some x):l.getD i d=x:=by
 rw[gB,h]
 rfl
theorem scWorth:FnScope ["one","spot","most","tops","bottoms","total","powers","fraction","weight","letter","power","number","turn"] ["one","spot"] (jJ IK):=scK #[3]
theorem UP(F:Fun K "worth" "worth" IK f fd)(T:Txt mg)(Nn:Ngt K mg)(GG:DG P w K mg base 1 "greatest_powers" QQ ["one"] (QD K))(GC:DG P w K mg base 1 "chain" IP ["base","most"] spChain)(GA:DG P w K mg base 2 "added" EB ["one","other"] (BB K))(GM:DG P w K mg base 2 "multiplied" KU ["one","other"] (DS K)):FnOk P w K mg base CX0 3 f fd ["one","spot"] (DJ K):=by
 obtain⟨nA,hn,hN⟩:=Nn;refine F.ok scWorth #[8] #[2]
 ·obtain⟨p,sp,aa,n,d,B,G,PP,S,D,rfl,_⟩:=h
  rfl
 ·obtain⟨p,sp,aa,n,d,B,G,PP,S0,D,rfl,q1,ok,⟨ys,ey,pS⟩,lS,hO,D0,Dd,n13,d13,hS,hG,hG16,hBG,hB,go⟩:=h;have bm:∀k,k<=G->B*k<=1600:=λk hk=>nW (Nat.mul_le_mul_left B hk) hBG;have hr1:Room 1 _:=hr.mono #[0];have m4:=ok.m4;refine⟨_,jC (jN (i:=2) scWorth.nd rfl #[5] (cal GG hr1 (jA (pv 0) jB))) (jC (xX (i:=3) scWorth.nd rfl #[5] (own:=2) (idx:=[]) (N:=["number","power"]) rfl rfl rfl #[3] #[3] (λ_ _ h=>nomatch h) (qU rfl) rfl (λ_ _ _ h=>nomatch h) (CL (by rfl) T.zip (jA (pv 1) (jA (pv 2) jB))) (λC fp s2 H2=>show PG (jK _ ["number","power"] _ _ C fp s2 H2) _ (AJ K 2 (qS (jV 0) (qS (jV 1) gNil)))from kD (X:=jK _ ["number","power"] _ _ C fp s2 H2) rfl (jH (jG (i:=0) (show List.Nodup (["number","power"]:List Str) by decide +kernel) rfl #[5] (Or.inr rfl)) (jH (jG (i:=1) (show List.Nodup (["number","power"]:List Str) by decide +kernel) rfl #[5] (Or.inr rfl)) jY))) (λC fp s2 H2=>cal GC hr1 (jA (jU (show IxR (jK _ ["number","power"] _ _ C fp s2 H2) (LB K)from jX) (pv 0) jD (λ_ _=>rfl)) (jA (pv 1) jB)))) (jC (xX (i:=4) scWorth.nd rfl #[5] (own:=2) (idx:=[]) (N:=["number","power"]) rfl rfl rfl #[3] #[3] (λ_ _ h=>nomatch h) (qU rfl) rfl (λ_ _ _ h=>nomatch h) (CL (by rfl) T.zip (jA (pv 1) (jA (pv 2) jB))) (λC fp s2 H2=>show PG (jK _ ["number","power"] _ _ C fp s2 H2) _ (AJ K 2 (qS (jV 0) (qS (jV 1) gNil)))from kD (X:=jK _ ["number","power"] _ _ C fp s2 H2) rfl (jH (jG (i:=0) (show List.Nodup (["number","power"]:List Str) by decide +kernel) rfl #[5] (Or.inr rfl)) (jH (jG (i:=1) (show List.Nodup (["number","power"]:List Str) by decide +kernel) rfl #[5] (Or.inr rfl)) jY))) (λC fp s2 H2=>cal GC hr1 (jA (jU (show IxR (jK _ ["number","power"] _ _ C fp s2 H2) (LB K)from jX) (pv 0) jD (λ_ _=>rfl)) (jA (pv 1) jB)))) (jC (jN (i:=5) scWorth.nd rfl #[5] (kT (v:=.ref nA) (by rfl) hn rfl)) (jC (kZ PassesOwn.never rfl (xY #[10]) (kD rfl (jH (jG (i:=6) scWorth.nd rfl #[5]) (jH (jG (i:=7) scWorth.nd rfl #[5]) jY))) (jC (jN (i:=8) scWorth.nd rfl #[5] (jD)) (jC (kZ PassesOwn.never rfl (YO (by rfl) T.enum (jA (pv 6) jB)) (kD rfl (jH (jG (i:=9) scWorth.nd rfl #[5]) (jH (jG (i:=10) scWorth.nd rfl #[5]) jY))) (jF (jN (i:=8) scWorth.nd rfl #[5] (jM qA (jM qA (pv 8) (jU kX (jU kX (pv 3) (pv 9) (λ_ _=>rfl)) (pv 10) (λ_ _=>rfl))) (jU kX (jU kX (pv 4) (pv 9) (λ_ _=>rfl)) (jM zX (jU kX (pv 2) (pv 9) (λ_ _=>rfl)) (pv 10)) (λ_ _=>rfl)))))) (jF (jN (i:=5) scWorth.nd rfl #[5] (cal GA hr (jA (pv 5) (jA (cal GM hr (jA (pv 7) (jA (kC (jA (pv 8) (jA jD jB))) jB))) jB)))))))) (jC (kZ PassesOwn.never rfl (CL (by rfl) T.zip (jA (pv 1) (jA (pv 2) jB))) (kD rfl (jH (jG (i:=11) scWorth.nd rfl #[5]) (jH (jG (i:=10) scWorth.nd rfl #[5]) jY))) (jF (kZ PassesOwn.never rfl (qZ (by rfl) T.rng (jA (pv 10) jB)) (jG (i:=12) scWorth.nd rfl #[5]) (jF (jN (i:=5) scWorth.nd rfl #[5] (cal GM hr (jA (pv 5) (jA (kC (jA jD (jA (jU jX (pv 11) jD (λ_ _=>rfl)) jB))) jB)))))))) (jF (jP (pv 5)))))))), ?_⟩
  try dsimp only[cxK]
  have S100:∀r∈S0.map pr2,0<r.2/\r.1.natAbs<=2^B/\r.2.natAbs<=2^B:=λr hr=>by
   obtain⟨x,hx,rfl⟩:=nY.mp hr;exact⟨(kU x).1,(hS x hx).1,by show((x.den:Int)).natAbs<=_;rw[mC];exact(hS x hx).2⟩
  have pS2:Paired (NmP K H) ys (S0.map pr2):=EI (g:=pr2) (λa b h=>h) pS;have lS2:(S0.map pr2).length=aa:=by rw[mY];exact lS
  have lms:=JR aa PP;have msb:∀(j:Nat) m,(grP aa PP)[j]? = some m->0<=m/\m<=(G:Int)/\∀x∈PP,∀n,x.1[j]? = some n->0<=n/\n<=m:=λj m hj=>by
   have hjm:j<aa:=by rw[<-lms];exact(gE.mp hj).1
   rw[grP_at hjm]at hj;cases hj;have gd:∀x∈PP,x.1[j]? = some (x.1.getD j 0)/\0<=x.1.getD j 0/\x.1.getD j 0<=(G:Int):=λx hx=>by
    have g:=qN (ns:=x.1) (l:=j) (by rw[ok.len x hx];exact hjm);have:=(qM (ok.nn x hx) (gQ g)).1;exact⟨g,ok.nn x hx _ (gQ g),Int.le_trans this (hG x hx)⟩
   refine⟨?_,xA (λy hy=>by obtain⟨x,hx,rfl⟩:=nY.mp hy;exact(gd x hx).2.2) #[1],λx hx n hn=>?_⟩
   ·have:∀m:List Int,0<=m.foldr max 0:=λm=>by
     induction m with
     | nil=>exact tP _
     | cons a m ih=>show 0<=max a (m.foldr max 0);omega
    exact this _
   ·have g:=gd x hx;rw[hn]at g;have e:=Option.some.inj g.1;exact⟨by rw[e];exact g.2.1,by rw[e];exact qY (List.mem_map_of_mem (f:=λx:List Int×Rat=>x.1.getD j 0) hx)⟩
  generalize hw:wvQ S0 aa PP=WV at go;unfold wvQ at hw;generalize S0.map pr2=S at S100 pS2 lS2 hw;refine⟨_,rfl,p,aa,PP,rfl,q1,ok,λlm H1 n1 s1 e1=>?_⟩;generalize grP aa PP=ms at e1 lms msb hw;have ly:ys.length=aa:=by rw[Paired.length pS2,lS2]
  have lmv:(ms.map V.int).length=aa:=by rw[mY];exact lms
  have letter:∀(i:Nat) x y,ys[i]? = some x->(ms.map V.int)[i]? = some y->∃(r:Int×Int) (m:Nat) (c:Addr),S[i]? = some r/\r∈S/\ms[i]? = some (m:Int)/\x=.ref c/\SqT K H c [.int r.1,.int r.2]/\y=.int (m:Int)/\m<=G:=λi x y hx hy=>by
   obtain⟨r,hr,c,e1,e2⟩:=Paired.at pS2 hx;rw[mG]at hy;cases hm:ms[i]? with
   | none=>rw[hm]at hy;cases hy
   | some m=>
    rw[hm]at hy;obtain⟨b0,b1,_⟩:=msb i m hm;obtain⟨mn,rfl⟩:=gI b0;exact⟨r,mn,c,hr,gQ hr,rfl,e1,e2,(Option.some.inj hy).symm,by omega⟩
  refine⟨_,rfl,_,rfl,sp,lm,rfl,⟨ys,SqT.of (s1 _ _ ey)⟩,⟨_,SqL.of e1⟩,λl2 H2 n2 s2 e2=>?_⟩;refine uG (K:=K) (ts:=ys) (us:=ms.map V.int) (LsI H1 l2 λj=>pws (S.getD j (0,1)).1 (ms.getD j 0).toNat) (by rw[ly,lmv]) (by rw[lmv,sizeLine_eq];omega) ⟨s2,e2,λj hj=>absurd hj (Nat.not_lt_zero _)⟩ (λi zs H3 h=>⟨SqT.of (h.s _ _ (s1 _ _ ey)),SqL.of (h.s _ _ e1),h.e⟩) ?_ ?_
  ·intro i mm zs x y c H3 hx hy hm hl L hc;obtain⟨r,m,cc,hp,rS,hmm,rfl,at1,rfl,m16⟩:=letter i x y hx hy;have sc:Same H3 (upd H3 c (.tup [V.ref cc,.int (m:Int)])):=jQ _ hc;refine⟨c,_,rfl,SqT.of jE,rfl,_,_,rfl,_,_,rfl,rfl,BT, ?_⟩;refine⟨_,rfl,cc,_,_,_,rfl,rfl,vJ (s1.trans (L.s.trans sc)) at1,rfl,_,rfl,r.1,m,B,rfl,by omega,(S100 r rS).2.1,bm m m16,hB,λl H4 n4 s4 e4=>?_⟩;exact kJ hy hm hl ((sc.trans s4) _ _ L.e) (L.next (sc.trans s4) n2 (sc.free n4) hl (by rw[e4,getD_of hp,getD_of hmm];rfl))
  intro zs H3 hzl L3;rw[lmv]at L3;refine⟨_,rfl,_,rfl,sp,lm,rfl,⟨ys,SqT.of ((s1.trans L3.s) _ _ ey)⟩,⟨_,SqL.of (L3.s _ _ e1)⟩,λl4 H4 n4 s4 e4=>?_⟩;refine uG (K:=K) (ts:=ys) (us:=ms.map V.int) (LsI H3 l4 λj=>pws (S.getD j (0,1)).2 (ms.getD j 0).toNat) (by rw[ly,lmv]) (by rw[lmv,sizeLine_eq];omega) ⟨s4,e4,λj hj=>absurd hj (Nat.not_lt_zero _)⟩ (λi zs H5 h=>⟨SqT.of (h.s _ _ ((s1.trans L3.s) _ _ ey)),SqL.of (h.s _ _ (L3.s _ _ e1)),h.e⟩) ?_ ?_
  ·intro i mm zs x y c H5 hx hy hm hl L hc;obtain⟨r,m,cc,hp,rS,hmm,rfl,at1,rfl,m16⟩:=letter i x y hx hy;have sc:Same H5 (upd H5 c (.tup [V.ref cc,.int (m:Int)])):=jQ _ hc;refine⟨c,_,rfl,SqT.of jE,rfl,_,_,rfl,_,_,rfl,rfl,BT, ?_⟩;refine⟨_,rfl,cc,_,_,_,rfl,rfl,vJ (s1.trans (L3.s.trans (L.s.trans sc))) at1,rfl,_,rfl,r.2,m,B,rfl,by omega,(S100 r rS).2.2,bm m m16,hB,λl H6 n6 s6 e6=>?_⟩;exact kJ hy hm hl ((sc.trans s6) _ _ L.e) (L.next (sc.trans s6) n4 (sc.free n6) hl (by rw[e6,getD_of hp,getD_of hmm];rfl))
  intro zb H5 hzb L5;rw[lmv]at L5;have L35:=L3.same L5.s;have s05:Same H H5:=s1.trans (L3.s.trans L5.s);have e15:=(L3.s.trans L5.s) _ _ e1;obtain⟨q,xs,f1,f2,pr⟩:=q1.ex;have lx:xs.length=PP.length:=Paired.length pr;have fw:=ok.few;dsimp only[jV];refine⟨_,rfl,p,_,_,_,rfl,rfl,SqT.of (s05 _ _ f1),rfl,q,rfl,⟨_,SqT.of (s05 _ _ f2)⟩,AK (K:=K) (a:=q) (xs:=xs) (λi σ H'=>W1 K H5 p sp lm l2 l4 S ms PP i σ H'/\Ov D (n+6400+i) (AY S ms (PP.take i))) ⟨.mk (Same.refl _) (CY (hN H5)),.zero _ _⟩ (λi σ H6 _ h=>?_) (λi x σ H6 hx h=>?_) (fun σ H6 h=>?_)⟩
  ·obtain⟨⟨s6,_⟩,_⟩:=h;exact SqT.of ((s05.trans s6) _ _ f2)
  ·obtain⟨⟨s6,nv⟩,ov⟩:=h;rename_i v;obtain⟨y,hy,r,b,c,rfl,r1,r2,r3⟩:=Paired.at pr hx;have ym:=gQ hy;have ln:=ok.len y ym;have il:i<PP.length:=(gE.mp hy).1;refine gT2 (SqT.of ((s05.trans s6) _ _ r1)) rfl ?_;refine⟨_,rfl,b,rfl,⟨_,SqT.of ((s05.trans s6) _ _ r2)⟩,for_enum (K:=K) (a:=b) (xs:=y.1.map V.int) (W2 H6 p sp lm l2 l4 b c v S ms y.1) (.mk (Same.refl _) (by show 1<=_;exact Nat.one_le_two_pow)) (λj σ H7 _ h=>?_) (λj x pr' σ H7 hxj hpr h=>?_) (fun σ H7 h=>?_)⟩
   ·obtain⟨s7,_⟩:=h;exact SqT.of ((s05.trans (s6.trans s7)) _ _ r2)
   ·obtain⟨s7,bw⟩:=h;rename_i q9 q10 q11 q12;rw[mG]at hxj;cases hnj:y.1[j]? with
    | none=>rw[hnj]at hxj;cases hxj
    | some n'=>
     rw[hnj]at hxj;cases hxj;have hj:j<aa:=by rw[<-ln];exact(gE.mp hnj).1
     have hpS:S[j]? = some S[j]:=gG #[1];have hmS:ms[j]? = some ms[j]:=gG #[1];obtain⟨b0,b1,b2⟩:=msb j _ hmS;obtain⟨n0,nm⟩:=b2 y ym n' hnj;have fS:=S100 S[j] (mT #[1]);generalize S[j]=pp at hpS fS;generalize ms[j]=m at hmS b0 b1 b2 nm;have s8:Same H7 (upd H7 pr' (.tup [.int j,.int n'])):=jQ _ hpr;have at8:(upd H7 pr' (.tup [.int j,.int n'])) pr'=some (.tup [.int j,.int n']):=jE;generalize upd H7 pr' (.tup [.int j,.int n'])=H8 at s8 at8;have s58:=(s6.trans s7).trans s8;obtain⟨a1,a11,a12,_⟩:=(L35.same s58).a j hj;obtain⟨c1,c11,c12,_⟩:=(L5.same s58).a j hj;have za1:=(L35.same s58).e;have zb1:=(L5.same s58).e;rw[getD_of hpS,getD_of hmS]at a12 c12;have i1:atI (pws pp.1 m.toNat) n'=some (.int (pp.1^n'.toNat)):=by
      have:=YG (base:=pp.1) (n:=m.toNat) (i:=n'.toNat) #[1]
      rwa [Int.toNat_of_nonneg n0]at this
     have i2:atI (pws pp.2 m.toNat) (m-n')=some (.int (pp.2^(m-n').toNat)):=by
      have:=YG (base:=pp.2) (n:=m.toNat) (i:=(m-n').toNat) #[1]
      rwa [Int.toNat_of_nonneg #[1]]at this
     have w1:(pp.1^n'.toNat).natAbs<=2^(B*n'.toNat):=xH fS.2.1 _;have w2:(pp.2^(m-n').toNat).natAbs<=2^(B*(m-n').toNat):=xH fS.2.2 _;have bn1:=bm n'.toNat #[1];have bn2:=bm (m-n').toNat #[1];have bn3:B*n'.toNat+B*(m-n').toNat<=1600:=by rw[<-Nat.mul_add];exact bm _ #[1]
     have w3:=LV bw w1;have w4:=LV w3 w2;refine gT2 (SqT.of at8) rfl ?_;refine⟨_,rfl,_,rfl,_,rfl,l2,_,_,_,rfl,rfl,SqL.of za1,qO a11,_,rfl,a1,_,_,_,rfl,rfl,SqL.of a12,i1,_,_,rfl,rfl,⟨?_, ?_⟩, ?_⟩
     ·exact gZ (xN bw (show 1600*j<=4800 by omega)) (gU #[0] #[0])
     ·exact gZ (xN w1 bn1) (gU #[0] #[0])
     refine⟨_,rfl,_,rfl,l4,_,_,_,rfl,rfl,SqL.of zb1,qO c11,_,rfl,_,rfl,lm,_,_,_,rfl,rfl,SqL.of (s58 _ _ e15),qO (by rw[mG,hmS];rfl),_,rfl,_,_,rfl,rfl,c1,_,_,_,rfl,rfl,SqL.of c12,i2,_,_,rfl,rfl,⟨?_, ?_⟩, ?_⟩
     ·exact gZ (xN w3 (show 1600*j+B*n'.toNat<=7000 by omega)) (gU #[0] #[0])
     ·exact gZ (xN w2 bn2) (gU #[0] #[0])
     have wt:=TX hpS hmS hnj;have z:W2 H6 p sp lm l2 l4 b c v S ms y.1 (j+1) [some (.ref p),some (.ref sp),some (.ref lm),some (.ref l2),some (.ref l4),some v,some (.ref b),some (.ref c),some (.int (zP (S.take (j+1)) (ms.take (j+1)) (y.1.take (j+1)))),some (.int j),some (.int n'),q11,q12] H8:=.mk (s7.trans s8) (by rw[wt];exact xN w4 #[1]);rw[wt]at z;exact z
   ·obtain⟨s7,bw⟩:=h;have lnm:(y.1.map V.int).length=aa:=by rw[mY];exact ln
    rw[lnm]at bw ⊢;rw[show S.take aa=S by rw[<-lS2];exact mR,show ms.take aa=ms by rw[<-lms];exact mR,show y.1.take aa=y.1 by rw[<-ln];exact mR]at bw ⊢;have wt:=TW (S:=S) (ms:=ms) hy;generalize zP S ms y.1=W at bw wt ⊢;have bW:W.natAbs<=2^6400:=xN bw #[1];have oy:Ov D (n+6400) (y.2*((W:Int):Rat)):=by rw[tI];exact(hO y ym).imul bW
    have szy:SzR 7900 y.2:=(hO y ym).sz D0 Dd #[1] #[1];refine⟨_,rfl,_,rfl,_,rfl,gA,λz H8 n8 s8 e8=>?_⟩;obtain⟨pc,epc,hc⟩:=r3;cases epc;obtain⟨pv',rfl,hv⟩:=nv;have s78:=s7.trans s8;refine⟨c,z,_,_,_,_,rfl,SqT.of ((s05.trans (s6.trans s78)) _ _ hc),IE (SqT.of e8),szy.fr uX,(JO (n:=7900) (gZ bW (gU #[0] #[0])) #[0]).fr uX,λr1' H9 n9 s9 e9=>?_⟩;have e9:=RJ e9;refine⟨pv',r1',_,_,_,_,rfl,vJ (s78.trans s9) hv,SqT.of e9,(ov.sz D0 Dd #[1] #[1]:SzR 7900 _).fr uX,(oy.sz D0 Dd #[1] #[1]:SzR 7900 _).fr uX,λr3' H10 n10 s10 e10=>?_⟩;have e10:=TR e10;rw[<-wt]at e10;refine⟨.mk (s6.trans (s78.trans (s9.trans s10))) (NumK.of e10), ?_⟩;rw[wt];exact ov.add (oy.up #[1]) D0
  ·obtain⟨⟨s6,nv⟩,ov⟩:=h;rw[lx,mR]at nv ov;have s06:=s05.trans s6;have e16:=s6 _ _ e15;have one:∀{x:Rat},x/(((1:Int)):Rat)=x:=fun {x} =>by rw[show((1:Int):Rat)=1 from rfl,tN];grind
   generalize hX:AY S ms PP=X at nv ov hw;refine⟨_,rfl,_,rfl,sp,lm,rfl,⟨ys,SqT.of (s06 _ _ ey)⟩,⟨_,SqL.of e16⟩,for_zipU (K:=K) (a:=sp) (b:=lm) (xs:=ys) (ys:=ms.map V.int) (W3 K H6 p sp lm l2 l4 d (n+6400+PP.length) X S ms) (by rw[ly,lmv]) (.mk (Same.refl _) (by show NumK K H6 _ (X/((1:Int):Rat));rw[one];exact nv) D0 Dd (by show Ov D _ (X/((1:Int):Rat));rw[one];exact ov)) (λj σ H7 _ h=>?_) (λj x y pr' σ H7 hx hy hpr h=>?_) (fun σ H7 h=>?_)⟩
   ·obtain⟨s7,_⟩:=h;exact⟨SqT.of ((s06.trans s7) _ _ ey),SqL.of (s7 _ _ e16)⟩
   ·obtain⟨s7,nv7,E0,E1,ov7⟩:=h;rename_i u6 u7 u8 u9 u10 u11 u12 v7 E7;obtain⟨pp,m,cc,hp,pS',hmm,rfl,at1,rfl,m16⟩:=letter j x y hx hy;have fS:=S100 pp pS';have hj:j<aa:=by rw[<-lS2];exact(gE.mp hp).1
    have s8:Same H7 (upd H7 pr' (.tup [V.ref cc,.int (m:Int)])):=jQ _ hpr;have at8:(upd H7 pr' (.tup [V.ref cc,.int (m:Int)])) pr'=some (.tup [V.ref cc,.int (m:Int)]):=jE;generalize upd H7 pr' (.tup [V.ref cc,.int (m:Int)])=H8 at s8 at8;have s08:=s06.trans (s7.trans s8);have dt:=VQ hp hmm;refine gT2 (SqT.of at8) rfl ?_;generalize hY:X/((wG (S.take j) (ms.take j):Int):Rat)=Y at nv7 ov7;refine⟨_,rfl,m,rfl,by omega,by omega,vZ (n:=m) (W4 K H8 p sp lm l2 l4 cc m (d+1600*j) (n+6400+PP.length) B Y pp.2 u6 u7 u8 u9) (.mk (Same.refl _) (by rw[Int.pow_zero,one];exact nv7.same s8) E0 E1 (by rw[Int.pow_zero,one];exact ov7)) (λi σ H9 hi h=>?_) (fun σ H9 h=>?_)⟩
    ·obtain⟨s9,nv9,E90,E91,ov9⟩:=h;rename_i w12 v9 E9;obtain⟨pv9,rfl,hv9⟩:=nv9;refine⟨_,rfl,_,rfl,cc,_,_,_,rfl,rfl,vJ (s08.trans s9) at1,rfl,gA,λz H10 n10 s10 e10=>?_⟩;have bi:=bm i #[1];have b2:pp.2.natAbs<2^7900:=gZ (xN fS.2.2 hB) (gU #[0] #[0]);refine⟨pv9,z,_,_,1,pp.2,rfl,vJ s10 hv9,SqT.of e10,(ov9.sz E90 E91 #[1] #[1]:SzR 7900 _).fr uX,⟨fS.1,by simp,Nat.one_lt_pow #[0] #[0],b2⟩,λr11 H11 n11 s11 e11=>?_⟩;have e11:=divN fS.1 e11;have pw:Y/((pp.2^i:Int):Rat)/((pp.2:Int):Rat)=Y/((pp.2^(i+1):Int):Rat):=by
      have h1:=cne fS.1;have h2:=cne (Int.pow_pos (m:=i) fS.1);rw[Int.pow_succ,nF]
      grind
     have od:=ov9.div E90 (show pp.2≠0 by have:=fS.1;omega);rw[pw]at e11 od;refine .mk (s9.trans (s10.trans s11)) (NumK.of e11) (tM E90 (by have:=fS.1;omega)) ?_ od;rw[nH,mC,show d+1600*j+B*(i+1)=d+1600*j+B*i+B by rw[Nat.mul_succ];omega,tO _ _ B];exact nJ E91 fS.2.2
    ·obtain⟨s9,nv9,E90,E91,ov9⟩:=h;have dp:=FD (S.take j) (ms.take j) λq hq=>(S100 q (gX hq)).1;have e:Y/((pp.2^m:Int):Rat)=X/((wG (S.take (j+1)) (ms.take (j+1)):Int):Rat):=by
      have h1:=cne dp;have h2:=cne (Int.pow_pos (m:=m) fS.1);rw[dt,nF,<-hY,mO]
      grind
     rw[e]at nv9 ov9;have bmm:=bm m m16;exact .mk (s7.trans (s8.trans s9)) nv9 E90 (nW E91 (gT #[0] #[1])) ov9
   ·obtain⟨s7,nv7,E0,E1,ov7⟩:=h;rw[ly,show S.take aa=S by rw[<-lS2];exact mR,show ms.take aa=ms by rw[<-lms];exact mR,hw]at nv7;exact⟨_,rfl,go _ H7 (s06.trans s7) nv7⟩
end Lw
namespace Lw
open PySem PySem.Spec PyProof.Rows L2
structure FrS(t b:Int):Prop where
 pos:0<b
 low:Int.gcd t b=1
 st:t.natAbs<2^40
 sb:b.natAbs<2^14
variable{P:Program}{w:World}{K:tV}{mg:Str->Option Value}{base:Heap}{f fd:_}
def IF(c M:Int):Sp:=λvs H Q _=>∃(tp:Addr) (B:Int),vs=[.ref tp]/\∃cl,Tape cl H tp B/\B<M/\
 ∀(r:Addr) (t b:Int) (H':Hp),FrS t b->At2 H' r t b->r≠tp->Tape cl H' tp (B+c)->But tp H H'->(∀c o,H c=some o->c≠r)->Q (.ref r) H'
theorem low_fr{t b:Int}(hb:0<b)(ht:t.natAbs<2^40)(hs:b.natAbs<2^14):FrS (yG t b) (yV t b):=by
 have g1:=LwM.vF t b hb;have gp:0<Int.gcd t b:=by omega
 rw[vK hb,yB hb];refine⟨?_,Int.gcd_ediv_gcd_ediv_gcd gp,vB ht g1,vB hs g1⟩;exact Int.ediv_pos_of_pos_of_dvd hb #[1] (mN ..)
theorem CB{B:Int}(T:Tape cl H tp B)(n:H r=none):r≠tp:=by
 obtain⟨ns,spot,rest,left,z,_⟩:=T;rintro rfl;rw[n]at z;cases z
theorem zZ(b:But p H H')(n:H' r=none)(hr:r≠p):H r=none:=by
 cases q:H r with
 | none=>rfl
 | some o=>rw[b r o q hr]at n;cases n
theorem scNumber:FnScope ["tape","way","top","great"] ["tape"] (jJ uU):=scK #[3]
theorem UW(F:Fun K "_law_number" "_law_number" uU f fd)(T:Txt mg)(DD:Df K mg "_law_draw" GB ["tape","many"] fD fdD)(DL:Df K mg "_law_low" XY ["top","bottom"] fL fdL):FnOk P w K mg base CX0 2 f fd ["tape"] (IF 6 (2^38)):=by
 have GD:FnOk P w K mg base CX0 1 fD fdD ["tape","many"] spDraw:=RG DD.F T;have GL:FnOk P w K mg base CX0 1 fL fdL ["top","bottom"] spLow:=ZS DL.F T;refine F.ok scNumber #[8] #[2]
 ·obtain⟨tp,B,rfl,_⟩:=h
  rfl
 ·obtain⟨tp,B,rfl,cl,hT,hB,k⟩:=h;refine⟨_,jC (jN (i:=1) scNumber.nd rfl #[5] (jZ GD hr rfl DD.m DD.F.kp DD.b .nil kW (jA (pv 0) (jA jD jB))))
   (jC (jN (i:=2) scNumber.nd rfl #[5] (jM zX (jZ GD hr rfl DD.m DD.F.kp DD.b .nil kW (jA (pv 0) (jA jD jB))) jD))
   (jC (kE (jO GY (pv 1) jD (jS _)) (jF (jP (kC (jA (pv 2) (jA jD jB))))) jR)
   (jC (kE (jO GY (pv 1) jD (jS _)) (jF (jP (jZ GL hr rfl DL.m DL.F.kp DL.b .nil kW (jA (pv 2) (jA (jM qF jD (jZ GD hr rfl DD.m DD.F.kp DD.b .nil kW (jA (pv 0) (jA jD jB)))) jB))))) jR)
   (jC (jN (i:=3) scNumber.nd rfl #[5] (jM uB (jZ GD hr rfl DD.m DD.F.kp DD.b .nil kW (jA (pv 0) (jA (jM IW jD jD) jB))) (jM zX jD (jM uB jD (jZ GD hr rfl DD.m DD.F.kp DD.b .nil kW (jA (pv 0) (jA jD jB)))))))
   (jF (jP (jZ GL hr rfl DL.m DL.F.kp DL.b .nil kW (jA (pv 3) (jA (jM qF jD (jZ GD hr rfl DD.m DD.F.kp DD.b .nil kW (jA (pv 0) (jA (jM IW jD jD) jB)))) jB)))))))))
   , ?_⟩
  refine⟨_,rfl,tp,24,B,rfl,_,hT,by omega,by decide,by decide,λway H1 w0 w1 T1 b1=>?_⟩;refine⟨_,rfl,tp,13,_,rfl,_,T1,by omega,by decide,by decide,λtop H2 t0 t1 T2 b2=>⟨_,_,rfl,rfl, ?_⟩⟩;have p10:∀n:Int,0<=n->n<=1000000->CPow 10 n:=λn h0 h1=>⟨h0,h1,by decide⟩;have tell:∀(t b B':Int) (H3:Hp),0<b->t.natAbs<2^40->b.natAbs<2^14->Tape cl H3 tp B'->B'<=B+6->But tp H H3->spLow [.int t,.int b] H3 Q E0:=by
   intro t b B' H3 hb ht hs T3 hB' b3;refine⟨t,b,rfl,by omega,.inl (jT hs #[0]),λp H4 n4 s4 e4=>?_⟩;refine k p _ _ H4 (low_fr hb ht hs) e4 (CB T3 n4) (T3.mono s4 #[1]) (b3.trans (But.of s4)) (λc o hc hp=>?_);subst hp;have:=zZ b3 n4 (CB T3 n4);rw[hc]at this;cases this
  refine⟨_,rfl,_,_,rfl,rfl,_,rfl, ?_⟩;refine wU (λ_=>?_) (λ_=>?_)
  ·refine⟨_,rfl,gA,λp H3 n3 s3 e3=>?_⟩;refine k p (top-6) 1 H3 ⟨by decide,by simp,by omega,by decide⟩ e3 (CB T2 n3) (T2.mono s3 #[1]) ((b1.trans b2).trans (But.of s3)) (λc o hc hp=>?_);subst hp;have:=zZ (b1.trans b2) n3 (CB T2 n3);rw[hc]at this;cases this
  ·refine⟨_,rfl,_,_,rfl,rfl,_,rfl, ?_⟩;refine wU (λ_=>?_) (λ_=>?_)
   ·refine⟨_,rfl,_,rfl,tp,7,_,rfl,_,T2,by omega,by decide,by decide,λc H3 c0 c1 T3 b3=>⟨_,_,rfl,rfl, ?_⟩⟩;exact tell _ _ _ H3 #[1] #[1] #[1] T3 #[1] ((b1.trans b2).trans b3)
   ·refine⟨_,rfl,_,_,rfl,rfl,p10 12 #[0] #[0],tp,_,_,rfl,_,T2,by omega,by decide,by decide,λg H3 g0 g1 T3 b3=>?_⟩;refine⟨_,rfl,tp,2,_,rfl,_,T3,by omega,by decide,by decide,λr H4 r0 r1 T4 b4=>?_⟩;refine⟨_,_,rfl,rfl,.inl ⟨by decide,by decide⟩,_,_,rfl,rfl,_,_,rfl,rfl,.inr ⟨by omega,by omega⟩, ?_⟩;refine⟨_,rfl,_,rfl,_,_,rfl,rfl,p10 4 #[0] #[0],tp,_,_,rfl,_,T4,by omega,by decide,by decide,λc H5 c0 c1 T5 b5=>⟨_,_,rfl,rfl, ?_⟩⟩;have e12:(10:Int)^(12:Int).toNat=1000000000000:=by decide +kernel
    have e4:(10:Int)^(4:Int).toNat=10000:=by decide +kernel
    rw[e12]at g1;rw[e4]at c1;have hr2:r=0∨r=1:=by omega
    refine tell _ _ _ H5 #[1] ?_ #[1] T5 #[1] ((((b1.trans b2).trans b3).trans b4).trans b5);rcases hr2 with rfl | rfl
    ·simp only[Int.mul_zero,Int.sub_zero,Int.mul_one];omega
    ·rw[show(1:Int)-2*1 = -1 by decide,Int.mul_neg,Int.mul_one,Int.natAbs_neg];omega
open LwQ
def spPlus:Sp:=λvs H Q _=>∃(p q:Addr) (t b o u:Int),vs=[.ref p,.ref q]/\At2 H p t b/\At2 H q o u/\0<b/\0<u/\t.natAbs<2^50000/\b.natAbs<2^50000/\o.natAbs<2^50000/\u.natAbs<2^8000/\
 ∀(r:Addr) (t' b':Int) (H':Hp),H r=none->Same H H'->At2 H' r t' b'->0<b'->b'.natAbs<=b.natAbs*u.natAbs->t'*(b*u)=(t*u+o*b)*b'->Q (.ref r) H'
theorem RO{b u:Int}(h:decide (V.int (b%u)=V.int 0)=true):b=u*(b/u):=by
 have e:b%u=0:=by
  have:=mK h;injection this
 have:=Int.mul_ediv_add_emod b u;omega
theorem scPlus:FnScope ["one","other","top"] ["one","other"] (jJ QN):=scK #[3]
theorem RF(F:Fun K "_law_plus" "_law_plus" QN f fd):FnOk P w K mg base CX0 1 f fd ["one","other"] spPlus:=by
 refine F.ok scPlus #[8] #[2]
 ·obtain⟨p,q,t,b,o,u,rfl,_⟩:=h
  rfl
 ·obtain⟨p,q,t,b,o,u,rfl,hp,hq,hb,hu,st,sb,so,su,k⟩:=h;refine⟨_,jC (kE (jO yU (jM vX #[10] (jU jX (pv 1) jD (λ_ _=>rfl))) jD (jS _))
    (jF (jP (kC (jA (jM qF #[10] (jM qA (jU jX (pv 1) jD (λ_ _=>rfl)) (jM qX #[10] (jU jX (pv 1) jD (λ_ _=>rfl))))) (jA #[10] jB))))) jR)
   (jC (kE (jO yU (jM vX (jU jX (pv 1) jD (λ_ _=>rfl)) #[10]) jD (jS _))
    (jF (jP (kC (jA (jM qF (jU jX (pv 1) jD (λ_ _=>rfl)) (jM qA #[10] (jM qX (jU jX (pv 1) jD (λ_ _=>rfl)) #[10]))) (jA (jU jX (pv 1) jD (λ_ _=>rfl)) jB))))) jR)
   (jC (jN (i:=2) scPlus.nd rfl #[5] (jM qF (jM qA #[10] (jU jX (pv 1) jD (λ_ _=>rfl))) (jM qA (jU jX (pv 1) jD (λ_ _=>rfl)) #[10])))
   (jF (jP (kC (jA (pv 2) (jA (jM qA #[10] (jU jX (pv 1) jD (λ_ _=>rfl))) jB))))))), ?_⟩
  have P:=SqT.of (K:=K) hp;have R:=SqT.of (K:=K) hq;have d1:(b/u).natAbs<2^100000:=jT (vB sb hu) #[0];have d2:(u/b).natAbs<2^100000:=jT (vB su hb) #[0];have st':t.natAbs<2^100000:=jT st #[0];have sb':b.natAbs<2^100000:=jT sb #[0];have so':o.natAbs<2^100000:=jT so #[0];have su':u.natAbs<2^100000:=jT su #[0];have lb:b.natAbs<=b.natAbs*u.natAbs:=Nat.le_mul_of_pos_right _ #[1];have lu:u.natAbs<=b.natAbs*u.natAbs:=Nat.le_mul_of_pos_left _ #[1];refine⟨_,rfl,p,_,_,_,rfl,rfl,P,rfl,_,rfl,q,_,_,_,rfl,rfl,R,rfl,_,_,rfl,rfl,hu,rfl,_,rfl, ?_⟩;refine wU (λe=>?_) (λ_=>?_)
  ·refine⟨_,rfl,p,_,_,_,rfl,rfl,P,rfl,_,rfl,q,_,_,_,rfl,rfl,R,rfl,_,rfl,p,_,_,_,rfl,rfl,P,rfl,_,rfl,q,_,_,_,rfl,rfl,R,rfl,_,_,rfl,rfl,⟨hu,su⟩,_,_,rfl,rfl,⟨so',d1⟩,_,_,rfl,rfl,_,rfl,p,_,_,_,rfl,rfl,P,rfl,gA,λr H1 n1 s1 e1=>?_⟩;refine k r _ _ H1 n1 s1 e1 hb lb ?_;have m:=RO e;generalize b/u=x at m;subst m
   grind
  refine⟨_,rfl,q,_,_,_,rfl,rfl,R,rfl,_,rfl,p,_,_,_,rfl,rfl,P,rfl,_,_,rfl,rfl,hb,rfl,_,rfl, ?_⟩;refine wU (λe=>?_) (λ_=>?_)
  ·have m:=RO e;have bu:b.natAbs<2^8000:=by
    have:b∣u:=⟨_,m⟩;have:=Int.le_of_dvd hu this;exact gZ #[1] su
   refine⟨_,rfl,q,_,_,_,rfl,rfl,R,rfl,_,rfl,p,_,_,_,rfl,rfl,P,rfl,_,rfl,q,_,_,_,rfl,rfl,R,rfl,_,rfl,p,_,_,_,rfl,rfl,P,rfl,_,_,rfl,rfl,⟨hb,bu⟩,_,_,rfl,rfl,⟨st',d2⟩,_,_,rfl,rfl,_,rfl,q,_,_,_,rfl,rfl,R,rfl,gA,λr H1 n1 s1 e1=>?_⟩;refine k r _ _ H1 n1 s1 e1 hu lu ?_;generalize u/b=x at m;subst m
   grind
  ·refine⟨_,rfl,p,_,_,_,rfl,rfl,P,rfl,_,rfl,q,_,_,_,rfl,rfl,R,rfl,_,_,rfl,rfl,⟨st',su'⟩,_,rfl,q,_,_,_,rfl,rfl,R,rfl,_,rfl,p,_,_,_,rfl,rfl,P,rfl,_,_,rfl,rfl,⟨so',sb'⟩,_,_,rfl,rfl, ?_⟩;refine⟨_,rfl,_,rfl,p,_,_,_,rfl,rfl,P,rfl,_,rfl,q,_,_,_,rfl,rfl,R,rfl,_,_,rfl,rfl,⟨sb',su'⟩,gA,λr H1 n1 s1 e1=>?_⟩;exact k r _ _ H1 n1 s1 e1 (tM hb hu) (Nat.le_of_eq (nH _ _)) rfl
open LwV
structure Kq(H H':Hp):Prop where
 tup:∀a xs,H a=some (.tup xs)->H' a=some (.tup xs)
 frz:∀a o x,H a=some (.frz o x)->H' a=some (.frz o x)
theorem Kq.of(s:Same H H'):Kq H H':=⟨λ_ _ e=>s _ _ e,λ_ _ _ e=>s _ _ e⟩
theorem Kq.trans(h:Kq A B)(k:Kq B C):Kq A C:=⟨λ_ _ e=>k.tup _ _ (h.tup _ _ e),λ_ _ _ e=>k.frz _ _ _ (h.frz _ _ _ e)⟩
def Soft:HO->Prop
 | .tup _=>False
 | .frz _ _=>False
 | _=>True
theorem Kq.but(b:But p H H')(e:H p=some x)(s:Soft x):Kq H H':=
 ⟨λa xs h=>b _ _ h λz=>by rw[z,e]at h;cases h;exact s,λa o y h=>b _ _ h λz=>by rw[z,e]at h;cases h;exact s⟩
theorem Kq.butT{B:Int}(b:But tp H H')(T:Tape cl H tp B):Kq H H':=by
 obtain⟨ns,spot,rest,left,z,_⟩:=T;exact Kq.but b z trivial
theorem Kq.upd(e:H p=some x)(s:Soft x):Kq H (upd H p y):=Kq.but (p:=p) (λc o h n=>by rw[jI n];exact h) e s
structure Ent where
 ns:List Int
 c:Addr
 t:Int
 b:Int
 k:Nat
def Ent.kv(e:Ent):List Key×V:=(LwD.ik e.ns,.ref e.c)
def Ent.pr(e:Ent):List Int×Rat:=(e.ns,(e.t:Rat)/(e.b:Rat))
def pl(E:List Ent):Pl:=E.map Ent.pr
structure Sz where
 D:Nat
 v:Nat
 S:Nat
 n:Nat
structure EntOk(H:Hp)(aa D v:Nat)(e:Ent):Prop where
 len:e.ns.length=aa
 nn:∀n∈e.ns,0<=n
 deg:e.ns.sum<=D
 at':At2 H e.c e.t e.b
 pos:0<e.b
 nz:e.t≠0
 sb:e.b.natAbs<=2^e.k
 st:e.t.natAbs<=2^v*e.b.natAbs
theorem EntOk.kp{aa D v:Nat}(h:EntOk H aa D v e)(k:Kq H H'):EntOk H' aa D v e:=⟨h.len,h.nn,h.deg,k.tup _ _ h.at',h.pos,h.nz,h.sb,h.st⟩
theorem EntOk.up{aa D v v':Nat}(h:EntOk H aa D v e)(k:v<=v'):EntOk H aa D v' e:=⟨h.len,h.nn,h.deg,h.at',h.pos,h.nz,h.sb,nW h.st (gW _ (gT #[0] k))⟩
structure DB(H:Hp)(aa:Nat)(z:Sz)(E:List Ent):Prop where
 nd:(E.map Ent.ns).Nodup
 each:∀e∈E,EntOk H aa z.D z.v e
 sum:(E.map Ent.k).sum<=z.S
 few:E.length<=z.n
theorem DB.kp{aa:Nat}(h:DB H aa z E)(k:Kq H H'):DB H' aa z E:=⟨h.nd,λe he=>(h.each e he).kp k,h.sum,h.few⟩
theorem DB.up{aa:Nat}{z z':Sz}(h:DB H aa z E)(hD:z.D<=z'.D)(hv:z.v<=z'.v)(hS:z.S<=z'.S)(hn:z.n<=z'.n):DB H aa z' E:=⟨h.nd,λe he=>by
 have k:=(h.each e he).up hv;exact⟨k.len,k.nn,by have:=k.deg;omega,k.at',k.pos,k.nz,k.sb,k.st⟩,nW h.sum hS,nW h.few hn⟩
theorem mem_le:∀{l:List Nat} {n:Nat},n∈l->n<=l.sum
 | a::r,n,h=>by
  rw[nT];rcases nP.mp h with rfl | h
  ·exact Nat.le_add_right ..
  ·exact nW (mem_le h) (Nat.le_add_left ..)
theorem DB.k{aa:Nat}{z:Sz}(h:DB H aa z E){e:Ent}(he:e∈E):e.k<=z.S:=nW (mem_le (List.mem_map_of_mem he)) h.sum
theorem ik_inj{ns ms:List Int}(h:LwD.ik ns=LwD.ik ms):ns=ms:=by
 have:=congrArg (List.map kV) h;rw[LwD.EW,LwD.EW]at this;exact(List.map_inj_right (f:=V.int) (λa b e=>by injection e)).mp this
section
variable{k:List Key}{v v0:V}{L R l:List (List Key×V)}
theorem val_out(h:∀p∈l,p.1≠k):kK l k=none:=by
 unfold kK;rw[List.find?_eq_none.mpr λp hp=>by simp [h p hp]]
 rfl
theorem OZ(h:∀p∈L,p.1≠k):kK (L++(k,v)::R) k=some v:=by
 unfold kK;rw[List.find?_append,List.find?_eq_none.mpr λp hp=>by simp [h p hp]];simp
theorem put_out(h:∀p∈l,p.1≠k):qD l k v=l++[(k,v)]:=by
 unfold qD;rw[tT];intro z;obtain⟨p,hp,e⟩:=List.any_eq_true.mp z;exact h p hp (mK e)
theorem RR(h:∀p∈l,p.1≠k):l.map (λkv=>if kv.1=k then(kv.1,v)else kv)=l:=by
 conv=>rhs;rw[<-List.map_id l]
 exact List.map_congr_left λp hp=>by rw[tT (h p hp)];rfl
theorem put_mid(h1:∀p∈L,p.1≠k)(h2:∀p∈R,p.1≠k):qD (L++(k,v0)::R) k v=L++(k,v)::R:=by
 unfold qD;rw[tU #[14],mZ,nO,RR h1,RR h2];simp
theorem drop_mid(h1:∀p∈L,p.1≠k)(h2:∀p∈R,p.1≠k):BV (L++(k,v0)::R) k=L++R:=by
 unfold BV;rw[List.filter_append,mX,List.filter_eq_self.mpr (λp hp=>nG (h1 p hp)),List.filter_eq_self.mpr (λp hp=>nG (h2 p hp))];simp
end
theorem wD{E:List Ent}{ns:List Int}(h:ns∉E.map Ent.ns):∀p∈E.map Ent.kv,p.1≠LwD.ik ns:=by
 intro p hp z;obtain⟨e,he,rfl⟩:=nY.mp hp;exact h (nY.mpr ⟨e,he,ik_inj z⟩)
theorem VJ{t b o u t' b':Int}(hb:0<b)(hu:0<u)(hb':0<b')(h:t'*(b*u)=(t*u+o*b)*b'):(t':Rat)/(b':Rat)=(t:Rat)/(b:Rat)+(o:Rat)/(u:Rat):=by
 have h1:(b:Rat)≠0:=by simpa using (show b≠0 by omega)
 have h2:(u:Rat)≠0:=by simpa using (show u≠0 by omega)
 have h3:(b':Rat)≠0:=by simpa using (show b'≠0 by omega)
 have e:(t':Rat)*(b*u)=(t*u+o*b)*b':=by exact_mod_cast h
 grind
theorem UJ{t b o u t' b':Int}{v:Nat}(hb:0<b)(hu:0<u)(h:t'*(b*u)=(t*u+o*b)*b')(h1:t.natAbs<=2^v*b.natAbs)(h2:o.natAbs<=2^v*u.natAbs):t'.natAbs<=2^(v+1)*b'.natAbs:=by
 have:=NP hb hu h h1 h2;rw[Nat.pow_succ,Nat.mul_two];exact this
def spPut:Sp:=λvs H Q _=>∃(d b q:Addr) (ns:List Int) (o u:Int) (aa j:Nat) (z:Sz) (E:List Ent),vs=[.ref d,.ref b,.ref q]/\H d=some (.dT (E.map Ent.kv))/\DB H aa z E/\z.S+j<=7900/\z.v<=4000/\z.n<=1000/\H b=some (.tup #[15])/\ns.length=aa/\(∀n∈ns,0<=n)/\ns.sum<=z.D/\
 At2 H q o u/\0<u/\u.natAbs<=2^j/\o.natAbs<=2^z.v*u.natAbs/\∀(E':List Ent) (H':Hp),But d H H'->H' d=some (.dT (E'.map Ent.kv))->DB H' aa ⟨z.D,z.v+1,z.S+j,z.n+1⟩ E'->
  (∀m,cf (pl E') m=cf (pl E) m+if ns=m then(o:Rat)/(u:Rat)else 0)->Q .non H'
theorem PL{t b:Int}{v S:Nat}(ht:t.natAbs<=2^v*b.natAbs)(hb:b.natAbs<=2^S)(h:v+S<=12000):t.natAbs<2^50000:=by
 have h1:=nW ht (Nat.mul_le_mul_left _ hb);rw[<-tO]at h1;exact gZ h1 (gU #[0] #[1])
theorem KC{b:Int}{S n:Nat}(hb:b.natAbs<=2^S)(h:S<n):b.natAbs<2^n:=gZ hb (gU #[0] h)
theorem scPut:FnScope ["found","powers","number","some"] ["found","powers","number"] (jJ sPut):=scK #[3]
theorem ok_put(F:Fun K "_law_put" "_law_put" sPut f fd)(DP:Df K mg "_law_plus" QN ["one","other"] fP fdP):FnOk P w K mg base CX0 2 f fd ["found","powers","number"] spPut:=by
 have GP:FnOk P w K mg base CX0 1 fP fdP ["one","other"] spPlus:=RF DP.F;refine F.ok scPut #[8] #[2]
 ·obtain⟨d,b,q,ns,o,u,aa,j,z,E',rfl,_⟩:=h
  rfl
 ·obtain⟨d,b,q,ns,o,u,aa,j,z,EE,rfl,hd,hD,hS,hv,hn,hb,hl,hns,hsum,hq,pu,su,so,go⟩:=h;have hu:_+1<cLine:=gZ (Nat.add_le_add_left (by decide:1<=64) _) hr.units;refine⟨_,jC (jN (i:=3) scPut.nd rfl #[5] (jZ GP hr rfl DP.m DP.F.kp DP.b .nil kW (jA (EF hu (pv 0) (pv 1) (kC (jA jD (jA jD jB))) ⟨rfl,rfl,rfl,rfl⟩) (jA (pv 2) jB))))
   (jF (kE (jO AD (jU jX (pv 3) jD (λ_ _=>rfl)) jD (jS _)) (jF (CJ hu (pv 0) (pv 1) (pv 3) rfl))
    (jF (kE (YI (YW hu (pv 1) (pv 0))) (jF (yI (LwD.YR hu (pv 0) (pv 1) ⟨rfl,rfl,rfl,rfl⟩))) jR)))), ?_⟩
  have hb':H b=some (.tup ((LwD.ik ns).map kV)):=by rw[LwD.EW];exact hb
  have few:=hD.few;have kz:(EE.map Ent.kv).length<sizeLine:=by rw[mY];exact gZ (nW few hn) #[0]
  refine⟨_,rfl,d,rfl,.inr ⟨_,.inl hd⟩,_,rfl,gA,λz1 H1 n1 s1 e1=>⟨kK (EE.map Ent.kv) (LwD.ik ns),DGet.t (s1 _ _ hd) (s1 _ _ hb'),_,rfl, ?_⟩⟩;have uf:u.natAbs<2^8000:=KC su #[1];have of:o.natAbs<2^50000:=PL so su #[1];have fin:∀(t b0 t' b':Int) (r:Addr) (H2:Hp),Same H H2->At2 H2 r t' b'->H1 r=none->0<b'->0<b0->t'*(b0*u)=(t*u+o*b0)*b'->t.natAbs<=2^z.v*b0.natAbs->
    (t':Rat)/(b':Rat)=(t:Rat)/(b0:Rat)+(o:Rat)/(u:Rat)/\t'.natAbs<=2^(z.v+1)*b'.natAbs/\r≠d:=λt b0 t' b' r H2 s2 e2 n2 pb pb0 eq ht=>
   ⟨VJ pb0 pu pb eq,UJ pb0 pu eq ht so,λzz=>by rw[zz,s1 _ _ hd]at n2;cases n2⟩
  by_cases hin:ns∈EE.map Ent.ns
  ·obtain⟨e,he,en⟩:=nY.mp hin;obtain⟨L,R,eE⟩:=List.append_of_mem he;have hE:=hD.each e he;have nd:=hD.nd;rw[eE,mZ,nO]at nd;have nL:ns∉L.map Ent.ns:=λy=>by
    rw[<-en]at y;exact(mL.mp nd).2.2 _ y _ (mD ..) rfl
   have nR:ns∉R.map Ent.ns:=λy=>by
    rw[<-en]at y;exact(List.nodup_cons.mp (mL.mp nd).2.1).1 y
   have km:EE.map Ent.kv=L.map Ent.kv++(LwD.ik ns,V.ref e.c)::R.map Ent.kv:=by
    rw[eE,mZ,nO,<-en]
    rfl
   have ev:kK (EE.map Ent.kv) (LwD.ik ns)=some (.ref e.c):=by rw[km];exact OZ (wD nL)
   rw[ev];have ke:=hD.k he;have ks:(L.map Ent.k).sum+(e.k+(R.map Ent.k).sum)<=z.S:=by
    have:=hD.sum
    rwa [eE,mZ,nO,List.sum_append,nT]at this
   have kf:L.length+(R.length+1)<=z.n:=by
    have:=few
    rwa [eE,hJ,mS]at this
   refine⟨e.c,q,e.t,e.b,o,u,rfl,s1 _ _ hE.at',s1 _ _ hq,hE.pos,pu,PL hE.st hE.sb #[1],KC hE.sb #[1],of,uf,λr t' b' H2 n2 s2 e2 pb lb eq=>?_⟩;have s12:Same H H2:=s1.trans s2;obtain⟨ex,rt,rd⟩:=fin e.t e.b t' b' r H2 s12 e2 n2 pb hE.pos eq hE.st;have hd2:H2 d=some (.dT (EE.map Ent.kv)):=s12 _ _ hd;have hb2:H2 b=some (.tup ((LwD.ik ns).map kV)):=s12 _ _ hb';have bd:∀o,But d H (upd H2 d o):=λo x y hx hn=>by
    rw[jI hn];exact s12 _ _ hx
   have tu:∀o:HO,Kq H (upd H2 d o):=λo=>(Kq.of s12).trans (Kq.upd hd2 trivial);have cE:∀m,cf (pl EE) m=(if ns=m then(e.t:Rat)/(e.b:Rat)else 0)+(cf (pl L) m+cf (pl R) m):=λm=>by
    rw[eE,pl,mZ,nO,FH,yN];show cf (pl L) m+((if e.ns=m then(e.t:Rat)/(e.b:Rat)else 0)+cf (pl R) m)=_;rw[en]
    grind
   refine⟨_,rfl,r,_,_,_,rfl,rfl,SqT.of e2,rfl,rfl,_,rfl, ?_⟩;refine wU (λnz=>?_) (λnz=>?_)
   ·refine⟨_,rfl,_,rfl,_,rfl,d,_,rfl,DPut.t (k:=LwD.ik ns) hd2 hb2 kz, ?_⟩;have tz:t'≠0:=λy=>by rw[y]at nz;simp at nz
    refine go (L++⟨ns,r,t',b',e.k+j⟩::R) _ (bd _) ?_ ⟨?_,λx hx=>?_, ?_, ?_⟩ λm=>?_
    ·rw[jE,km,put_mid (wD nL) (wD nR),mZ,nO]
     rfl
    ·rw[mZ,nO];rw[en]at nd;exact nd
    ·rcases nE.mp hx with hx | hx
     ·exact((hD.each x (by rw[eE];exact List.mem_append_left _ hx)).kp (tu _)).up (Nat.le_succ _)
     ·rcases nP.mp hx with rfl | hx
      ·refine⟨hl,hns,hsum,by show At2 _ r t' b';rw[At2,jI rd];exact e2,pb,tz, ?_,rt⟩;refine nW lb ?_;rw[tO];exact nJ hE.sb su
      ·exact((hD.each x (by rw[eE];exact gM _ (gS _ hx))).kp (tu _)).up (Nat.le_succ _)
    ·rw[mZ,nO,List.sum_append,nT];show(L.map Ent.k).sum+(e.k+j+(R.map Ent.k).sum)<=z.S+j;omega
    ·rw[hJ,mS];show L.length+(R.length+1)<=z.n+1;omega
    ·rw[cE,pl,mZ,nO,FH,yN];show cf (pl L) m+((if ns=m then(t':Rat)/(b':Rat)else 0)+cf (pl R) m)=_;rw[ex];split<;>grind
   ·refine⟨_,rfl,_,rfl,d,_,rfl,DGet.t (k:=LwD.ik ns) hd2 hb2,_,rfl, ?_⟩;rw[ev];refine kI ⟨_,rfl,d,rfl,.inr ⟨_,.inl hd2⟩,_,rfl,_,LwD.ik ns,_,b,hd2,rfl,hb2,ev, ?_⟩;have tz:t'=0:=by
     by_cases y:t'=0
     ·exact y
     ·exact absurd (by simp [y]) nz
    refine go (L++R) _ (bd _) ?_ ⟨?_,λx hx=>?_, ?_, ?_⟩ λm=>?_
    ·rw[jE,km,drop_mid (wD nL) (wD nR),mZ]
    ·rw[mZ];rw[mL]at nd ⊢;exact⟨nd.1,(List.nodup_cons.mp nd.2.1).2,λa ha b hb=>nd.2.2 a ha b (gS _ hb)⟩
    ·refine((hD.each x ?_).kp (tu _)).up (Nat.le_succ _);rw[eE];rcases nE.mp hx with hx | hx
     ·exact List.mem_append_left _ hx
     ·exact gM _ (gS _ hx)
    ·rw[mZ,List.sum_append];show _<=z.S+j;omega
    ·rw[hJ];show _<=z.n+1;omega
    ·rw[cE,pl,mZ,FH];show cf (pl L) m+cf (pl R) m=_;rw[tz]at ex;have:(e.t:Rat)/(e.b:Rat)+(o:Rat)/(u:Rat)=0:=by rw[<-ex];show((0:Int):Rat)/_=0;grind
     split<;>grind
  ·have ev:kK (EE.map Ent.kv) (LwD.ik ns)=none:=val_out (wD hin);rw[ev];refine⟨z1,q,0,1,o,u,rfl,e1,s1 _ _ hq,by decide,pu,by show 0<_;exact Nat.pow_pos #[0],by show 1<_;exact Nat.one_lt_pow #[0] #[0],of,uf,λr t' b' H2 n2 s2 e2 pb lb eq=>?_⟩;have s12:Same H H2:=s1.trans s2;obtain⟨ex,rt,rd⟩:=fin 0 1 t' b' r H2 s12 e2 n2 pb #[0] eq (tL _);have hd2:H2 d=some (.dT (EE.map Ent.kv)):=s12 _ _ hd;have hb2:H2 b=some (.tup ((LwD.ik ns).map kV)):=s12 _ _ hb';have bd:∀o,But d H (upd H2 d o):=λo x y hx hn=>by
    rw[jI hn];exact s12 _ _ hx
   have tu:∀o:HO,Kq H (upd H2 d o):=λo=>(Kq.of s12).trans (Kq.upd hd2 trivial);have ex':(t':Rat)/(b':Rat)=(o:Rat)/(u:Rat):=by rw[ex];show((0:Int):Rat)/_+_=_;grind
   refine⟨_,rfl,r,_,_,_,rfl,rfl,SqT.of e2,rfl,rfl,_,rfl, ?_⟩;refine wU (λnz=>?_) (λnz=>?_)
   ·refine⟨_,rfl,_,rfl,_,rfl,d,_,rfl,DPut.t (k:=LwD.ik ns) hd2 hb2 kz, ?_⟩;have tz:t'≠0:=λy=>by rw[y]at nz;simp at nz
    refine go (EE++[⟨ns,r,t',b',j⟩]) _ (bd _) ?_ ⟨?_,λx hx=>?_, ?_, ?_⟩ λm=>?_
    ·rw[jE,put_out (wD hin),mZ]
     rfl
    ·rw[mZ,mL];refine⟨hD.nd,by simp,λa ha b hb=>?_⟩;have:b=ns:=by simpa using hb
     rintro rfl;rw[this]at ha;exact hin ha
    ·rcases nE.mp hx with hx | hx
     ·exact((hD.each x hx).kp (tu _)).up (Nat.le_succ _)
     ·rw[mB]at hx;subst hx;refine⟨hl,hns,hsum,by show At2 _ r t' b';rw[At2,jI rd];exact e2,pb,tz, ?_,rt⟩;refine nW lb ?_;rw[Int.natAbs_one,Nat.one_mul];exact su
    ·rw[mZ,List.sum_append];have:=hD.sum;show(EE.map Ent.k).sum+(j+0)<=z.S+j;omega
    ·rw[hJ];show EE.length+1<=z.n+1;omega
    ·rw[pl,mZ,FH];show cf (pl EE) m+((if ns=m then(t':Rat)/(b':Rat)else 0)+0)=_;rw[ex'];split<;>grind
   ·refine⟨_,rfl,_,rfl,d,_,rfl,DGet.t (k:=LwD.ik ns) hd2 hb2,_,rfl, ?_⟩;rw[ev];have tz:t'=0:=by
     by_cases y:t'=0
     ·exact y
     ·exact absurd (by simp [y]) nz
    have o0:(o:Rat)/(u:Rat)=0:=by rw[<-ex',tz];show((0:Int):Rat)/_=0;grind
    refine vT ?_;refine go EE H2 (But.of s12) hd2 ((hD.kp (Kq.of s12)).up uX (Nat.le_succ _) (Nat.le_add_right ..) (Nat.le_succ _)) λm=>?_;rw[o0];split<;>grind
theorem Tape.ne{B:Int}(T:Tape cl H tp B)(e:H d=some o)(ho:∀xs,o≠.lst xs):d≠tp/\d≠cl:=by
 obtain⟨ns,spot,rest,left,h1,h2,_⟩:=T;refine⟨λz=>?_,λz=>?_⟩
 ·rw[z,h1]at e;cases e;exact ho _ rfl
 ·rw[z,h2]at e;cases e;exact ho _ rfl
theorem Tape.off{B:Int}(T:Tape cl H tp B)(e:H d=none):d≠tp/\d≠cl:=by
 obtain⟨ns,spot,rest,left,h1,h2,_⟩:=T;refine⟨λz=>?_,λz=>?_⟩
 ·rw[z,h1]at e;cases e
 ·rw[z,h2]at e;cases e
theorem Tape.upd{B B':Int}(T:Tape cl H tp B)(o:HO)(h1:l≠tp)(h2:l≠cl)(hB:B<=B'):Tape cl (upd H l o) tp B':=by
 obtain⟨ns,spot,rest,left,e1,e2,e3,e4,e5⟩:=T;exact⟨ns,spot,rest,left,by rw[jI (Ne.symm h1)];exact e1,by rw[jI (Ne.symm h2)];exact e2,e3,e4,by omega⟩
theorem CV(b:But p H H')(n:H l=none):But p H (upd H' l o):=λc u h hc=>by
 rw[jI (kG h n)];exact b c u h hc
theorem Tape.aside{B:Int}(T:Tape cl H tp B)(b:But d H H')(h1:d≠tp)(h2:d≠cl):Tape cl H' tp B:=by
 obtain⟨ns,spot,rest,left,e1,e2,e3⟩:=T;exact⟨ns,spot,rest,left,b _ _ e1 (Ne.symm h1),b _ _ e2 (Ne.symm h2),e3⟩
theorem at_mem{ns:List Int}{i:Int}(h0:0<=i)(h1:i<ns.length):∃c:Int,atI #[15] i=some (.int c)/\c∈ns:=by
 obtain⟨j,rfl⟩:=gI h0;have hj:j<ns.length:=by omega
 exact⟨ns[j],qO (by simp [hj]),mT hj⟩
theorem at_get{ns:List Int}{i:Int}(h0:0<=i)(h1:i<ns.length):∃c:Int,atI #[15] i=some (.int c)/\ns[i.toNat]? = some c:=by
 obtain⟨j,rfl⟩:=gI h0;have hj:j<ns.length:=by omega
 exact⟨ns[j],qO (by simp [hj]),by simp [hj]⟩
theorem PZ:∀{ns:List Int} {j:Nat} {c:Int},ns[j]? = some c->(ns.set j (c+1)).sum=ns.sum+1
 | [],j,c,h=>by simp at h
 | n::r,0,c,h=>by
  simp only[List.getElem?_cons_zero,Option.some.injEq]at h;rw[List.set_cons_zero,nT,nT,h];omega
 | n::r,j+1,c,h=>by
  have ih:=PZ (ns:=r) (j:=j) (c:=c) (by simpa using h);rw[List.set_cons_succ,nT,nT,ih];omega
abbrev zS(most deep:Nat):Sz:=⟨deep,40+most,14*most,most⟩
def spSmall:Sp:=λvs H Q _=>∃(tp:Addr) (aa most deep:Nat) (B:Int),vs=[.ref tp,.int aa,.int most,.int deep]/\1<=aa/\aa<=4/\most<=4/\deep<=4/\∃cl,Tape cl H tp B/\B<2^30/\
 ∀(d:Addr) (E:List Ent) (H':Hp),H d=none->But tp H H'->Tape cl H' tp (B+50)->H' d=some (.dT (E.map Ent.kv))->DB H' aa (zS most deep) E->Q (.ref d) H'
inductive DrI(H:Hp)(cl tp d:Addr)(aa most deep:Nat)(B:Int)(i:Nat):L2.St->Hp->Prop where
 | mk {u v x y:Option V} {H':Hp} {E:List Ent} (b:But tp H H') (T:Tape cl H' tp (B+1+11*i)) (e:H' d=some (.dT (E.map Ent.kv))) (db:DB H' aa ⟨deep,40+i,14*i,i⟩ E):DrI H cl tp d aa most deep B i [some (.ref tp),some (.int aa),some (.int most),some (.int deep),some (.ref d),u,v,x,y] H'
inductive DrJ(H:Hp)(cl tp d l:Addr)(aa most deep i:Nat)(B:Int)(E:List Ent)(j:Nat):L2.St->Hp->Prop where
 | mk {x y:Option V} {H':Hp} {ns:List Int} (b:But tp H H') (T:Tape cl H' tp (B+1+11*i+1+j)) (e:H' d=some (.dT (E.map Ent.kv))) (db:DB H' aa ⟨deep,40+i,14*i,i⟩ E) (el:H' l=some (.lst #[15])) (ln:ns.length=aa) (nn:∀n∈ns,0<=n) (sm:ns.sum=j) :
  DrJ H cl tp d l aa most deep i B E j [some (.ref tp),some (.int aa),some (.int most),some (.int deep),some (.ref d),some (.int (0+(i:Int))),some (.ref l),x,y] H'
theorem scDrawn:FnScope ["tape","many","most","deep","found","k","powers","turn","letter"] ["tape","many","most","deep"] (jJ IL):=scK #[3]
theorem ZM(F:Fun K "_law_small" "_law_small" IL f fd)(T:Txt mg)(GD:DG P w K mg base 1 "_law_draw" GB ["tape","many"] spDraw)(GP:DG P w K mg base 2 "_law_put" sPut ["found","powers","number"] spPut)
 (GN:DG P w K mg base 2 "_law_number" uU ["tape"] (IF 6 (2^38))):FnOk P w K mg base CX0 3 f fd ["tape","many","most","deep"] spSmall:=by
 refine F.ok scDrawn #[8] #[2]
 ·obtain⟨tp,aa,most,deep,B,rfl,_⟩:=h
  rfl
 ·obtain⟨tp,aa,most,deep,B,rfl,m1,m4,mo4,de4,cl,hT,hB,go⟩:=h;have hr1:Room 1 _:=hr.mono #[0];refine⟨_,jC (jN (i:=4) scDrawn.nd rfl #[5] (YS)) (jC (kZ PassesOwn.never rfl (qZ (by rfl) T.rng (jA (cal GD hr1 (jA (pv 0) (jA (jM qF (pv 2) jD) jB))) jB)) (jG (i:=5) scDrawn.nd rfl #[5]) (jC (jN (i:=6) scDrawn.nd rfl #[5] (jM ZD (xQ (jA jD jB)) (pv 1))) (jC (kZ PassesOwn.never rfl (qZ (by rfl) T.rng (jA (cal GD hr1 (jA (pv 0) (jA (jM qF (pv 3) jD) jB))) jB)) (jG (i:=7) scDrawn.nd rfl #[5]) (jC (jN (i:=8) scDrawn.nd rfl #[5] (cal GD hr1 (jA (pv 0) (jA (pv 1) jB)))) (jF (qP (jM qF (jU kX (pv 6) (pv 8) (λ_ _=>rfl)) jD) (BJ (pv 6) (pv 8) xV))))) (jF (yI (cal GP hr (jA (pv 4) (jA (qE qC (by rfl) T.tup boot_tuple (jA (pv 6) jB)) (jA (cal GN hr (jA (pv 0) jB)) jB))))))))) (jF (jP (pv 4)))), ?_⟩;try dsimp only[cxK]
  intro d nd;have od:=hT.off nd;have T0:Tape cl (upd H d (.dT [])) tp B:=hT.upd _ od.1 od.2 (tP _);refine⟨_,rfl,_,rfl,_,_,rfl,rfl,tp,(most:Int)+1,B,rfl,cl,T0,by omega,by omega,by omega,λc H1 c0 c1 T1 b1=>⟨_,rfl,by omega,by omega, ?_⟩⟩;have B1:But tp H H1:=(CV (But.refl tp H) nd).trans b1;have p30:(2:Int)^30+300<2^37:=by decide
  have cn:c.toNat<=most:=by omega
  refine vZ (DrI H cl tp d aa most deep B) (.mk (E:=[]) B1 (T1.mono (Same.refl _) #[1]) (b1 _ _ jE od.1) ⟨nM,(λe h=>nomatch h),tK _,tK _⟩) (λi σ H2 hi h=>?_) (fun σ H2 h=>?_)
  ·obtain⟨b2,T2,e2,db⟩:=h;rename_i E2;have hi4:i<4:=by omega
   refine⟨uZ,λz0 H3 n3 s3 e3=>⟨_,rfl,z0,aa,[.int 0],rfl,rfl,e3,by omega,by omega, ?_,λl nl=>?_⟩⟩
   ·show 1*(aa:Int).toNat<=sizeLine;exact nW (show 1*(aa:Int).toNat<=4 by omega) #[0]
   have T3:=T2.mono s3 (tP _);have B3:But tp H H3:=b2.trans (But.of s3);have lo:=T3.off nl;have hnl:H l=none:=zZ B3 nl lo.1;have hl0:(List.replicate (aa:Int).toNat [V.int 0]).flatten=(List.replicate aa (0:Int)).map V.int:=by simp
   rw[hl0];have s4:Same H3 (upd H3 l (.lst ((List.replicate aa (0:Int)).map V.int))):=jQ _ nl;have e4:(upd H3 l (.lst ((List.replicate aa (0:Int)).map V.int))) l=some (.lst ((List.replicate aa (0:Int)).map V.int)):=jE;generalize upd H3 l (.lst ((List.replicate aa (0:Int)).map V.int))=H4 at s4 e4;have s24:=s3.trans s4;have T4:=T3.mono s4 (tP _);refine⟨_,rfl,_,rfl,_,_,rfl,rfl,tp,(deep:Int)+1,_,rfl,cl,T4,by omega,by omega,by omega,λn H5 n0 n1 T5 b5=>⟨n,rfl,by omega,by omega, ?_⟩⟩;have dn:=T4.ne (s24 _ _ e2) (λ_ z=>by cases z);refine vZ (DrJ H cl tp d l aa most deep i B E2) (.mk (b2.trans ((But.of s24).trans b5)) (T5.mono (Same.refl _) #[1]) (b5 _ _ (s24 _ _ e2) dn.1) (db.kp ((Kq.of s24).trans (Kq.butT b5 T4))) (b5 _ _ e4 lo.1) #[14] (λn hn=>by rw[(List.mem_replicate.mp hn).2];exact tP _) #[14]) (λj σ H6 hj h=>?_) (fun σ H6 h=>?_)
   ·obtain⟨b6,T6,e6,db6,el,ln,hns,hsm⟩:=h;rename_i ns;refine⟨_,rfl,_,rfl,tp,aa,_,rfl,cl,T6,by omega,by omega,by omega,λr' H9 r0' r1' T9 b9=>?_⟩;have e9:=b9 _ _ el lo.1;obtain⟨c',hc',hcm⟩:=at_get (ns:=ns) r0' (by rw[ln];exact r1');have dn6:=T6.ne e6 (λ_ z=>by cases z);have ld:d≠l:=λz=>by rw[z,el]at e6;cases e6
    refine⟨_,rfl,_,rfl,l,_,r',_,rfl,rfl,SqL.of e9,hc',_,_,rfl,rfl,_,rfl,_,rfl,l,_,r',r'.toNat,rfl,rfl,e9, ?_, ?_⟩
    ·unfold ixN;rw[tU r0',tU (by rw[mY,ln];exact r1')]
    ·refine .mk (ns:=ns.set r'.toNat (c'+1)) (CV (b6.trans b9) hnl) (T9.upd _ lo.1 lo.2 #[1]) (by rw[jI ld];exact b9 _ _ e6 dn6.1) (db6.kp ((Kq.butT b9 T6).trans (Kq.upd e9 trivial))) (by rw[jE,List.map_set]) (by rw[List.length_set];exact ln) (λn hn=>?_) ?_
     ·rcases List.mem_or_eq_of_mem_set hn with hn | rfl
      ·exact hns n hn
      ·have:=hns c' (gQ hcm);omega
     ·rw[PZ hcm,hsm];omega
   ·obtain⟨b6,T6,e6,db6,el,ln,hns,hsm⟩:=h;rename_i ns;refine⟨_,rfl,_,rfl,l,_,rfl,.inl ⟨SqL.of el,λb nb=>?_⟩⟩;have sb:Same H6 (upd H6 b (.tup #[15])):=jQ _ nb;have eb:(upd H6 b (.tup #[15])) b=some (.tup #[15]):=jE;generalize upd H6 b (.tup #[15])=H7 at sb eb;have T7:=T6.mono sb (tP _);have bo:=T6.off nb;have dn7:=T7.ne (sb _ _ e6) (λ_ z=>by cases z);refine⟨_,rfl,tp,_,rfl,cl,T7,by omega,λr t b' H8 fr e8 rne T8 b8 nw=>?_⟩;have k8:=(Kq.of sb).trans (Kq.butT b8 T7);have d8:=b8 _ _ (sb _ _ e6) dn7.1;have nn:(n.toNat:Int)<=(deep:Int):=by omega
    have pb:(1:Nat)<=b'.natAbs:=by have:=fr.pos;omega
    refine⟨d,b,r,ns,t,b',aa,14,_,_,rfl,d8,db6.kp k8,by show 14*i+14<=7900;omega,by show 40+i<=4000;omega,by show i<=1000;omega,b8 _ _ eb bo.1,ln,hns,by show ns.sum<=((deep:Nat):Int);omega,e8,fr.pos,tH fr.sb, ?_,λE' H9 b9 e9 db9 _=>?_⟩
    ·refine nW (tH fr.st) (nW (gT #[0] (show 40<=40+i by omega)) ?_);exact Nat.le_mul_of_pos_right _ #[1]
    ·have dn8:=T8.ne d8 (λ_ z=>by cases z);refine .mk (λc o hc hn=>?_) ((T8.aside b9 dn8.1 dn8.2).mono (Same.refl _) #[1]) e9 db9;exact b9 _ _ (b8 _ _ (sb _ _ (b6 _ _ hc hn)) hn) (λz=>by rw[z,nd]at hc;cases hc)
  ·obtain⟨b2,T2,e2,db⟩:=h;exact⟨_,rfl,go d _ H2 nd b2 (T2.mono (Same.refl _) #[1]) e2 (db.up uX (by show 40+c.toNat<=40+most;omega) (by show 14*c.toNat<=14*most;omega) cn)⟩
theorem UN{α β:Type}{f:α->β}{zs l:List β}(p:zs.Perm l):∀E:List α,l=E.map f->∃E':List α,E'.Perm E/\zs=E'.map f:=by
 induction p with
 | nil=>
  intro E h;have:E=[]:=by simpa using h.symm
  exact⟨[],by rw[this],rfl⟩
 | @cons x l1 l2 _ ih=>
  intro E h
  match E,h with
  | e::E2,h=>
   rw[nO]at h;injection h with h1 h2
   obtain⟨E',p',rfl⟩:=ih E2 h2;exact⟨e::E',p'.cons e,by rw[nO,h1]⟩
 | @swap x y l=>
  intro E h
  match E,h with
  | e1::e2::E2,h=>
   rw[nO,nO]at h;injection h with h1 h2
   injection h2 with h2 h3
   exact⟨e2::e1::E2,List.Perm.swap ..,by rw[nO,nO,h1,h2,h3]⟩
 | @trans l1 l2 l3 _ _ ih1 ih2=>
  intro E h;obtain⟨E2,p2,e2⟩:=ih2 E h;obtain⟨E1,p1,e1⟩:=ih1 E2 e2;exact⟨E1,p1.trans p2,e1⟩
theorem zE(x:Int):∀(n:Nat) {xs:List Int},xs.length=n->pk (x::xs)=x*256^n+pk xs
 | 0,xs,h=>by rw[List.length_eq_zero_iff.mp h];show 0*256+x=x*1+0;omega
 | n+1,xs,h=>by
  obtain⟨m,y,rfl,hm⟩:=yH h;rw[<-List.cons_append,xP,xP,zE x n hm,Int.pow_succ,Int.add_mul]
  grind
theorem OD:∀{a b:List Int},LwD.lexI a b=true->a.length=b.length->Byt a->Byt b->pk a<pk b
 | [],[],h,_,_,_=>by simp [LwD.lexI]at h
 | [],_::_,_,h,_,_=>by simp at h
 | _::_,[],_,h,_,_=>by simp at h
 | x::a,y::b,h,hl,ha,hb=>by
  have hl:a.length=b.length:=by simpa using hl
  have ba:Byt a:=λn hn=>ha n (gS _ hn);have bb:Byt b:=λn hn=>hb n (gS _ hn);rw[zE x _ hl,zE y _ rfl];unfold LwD.lexI at h;split at h
  ·rename_i e;have:=OD h hl ba bb;rw[e];omega
  ·have lt:x<y:=mK h;have p1:=YM _ hl ba;have p2:=YL bb;have:=Int.mul_le_mul_of_nonneg_right (show x+1<=y by omega) (show(0:Int)<=256^b.length from Int.le_of_lt (Int.pow_pos #[0]));rw[Int.add_mul]at this;omega
def pbE:List Ent->Int
 | []=>1
 | e::E=>e.b*pbE E
theorem IV:∀{E:List Ent},(∀e∈E,0<e.b)->0<pbE E
 | [],_=>by decide
 | e::E,h=>tM (h e (mD ..)) (IV λx hx=>h x (gS _ hx))
theorem NV:∀{E:List Ent},(∀e∈E,e.b.natAbs<=2^e.k)->(pbE E).natAbs<=2^(E.map Ent.k).sum
 | [],_=>tK _
 | e::E,h=>by
  rw[nO,nT,tO];show(e.b*pbE E).natAbs<=_;rw[nH];exact nJ (h e (mD ..)) (NV λx hx=>h x (gS _ hx))
theorem QZ:∀{E:List Ent} {e:Ent},e∈E->∃r,pbE E=e.b*r
 | x::E,e,h=>by
  rcases nP.mp h with rfl | h
  ·exact⟨pbE E,rfl⟩
  ·obtain⟨r,hr⟩:=QZ h;exact⟨x.b*r,by show x.b*pbE E=_;rw[hr];grind⟩
theorem ov_ent{t b r:Int}{v S:Nat}(hb:0<b)(hD:0<b*r)(hS:(b*r).natAbs<=2^S)(st:t.natAbs<=2^v*b.natAbs):Ov (b*r) (v+S) ((t:Rat)/(b:Rat)):=by
 refine⟨t*r, ?_, ?_⟩
 ·show fv t b=fv (t*r) (b*r);exact fv_eq hb hD (by rw[nS,tJ r b])
 ·rw[nH,tO];refine nW (gW _ st) ?_;rw[Nat.mul_assoc,<-nH];exact Nat.mul_le_mul_left _ hS
structure PlZ(z:Sz)(P:Pl):Prop where
 ex:∃D:Int,0<D/\D.natAbs<=2^z.S/\∀x∈P,Ov D (z.v+z.S) x.2
 dg:∀x∈P,x.1.sum<=z.D
 ln:P.length<=z.n
def XO(K:tV):Sp:=λvs H Q _=>∃(d:Addr) (aa:Nat) (z:Sz) (E:List Ent),vs=[.int aa,.ref d]/\H d=some (.dT (E.map Ent.kv))/\DB H aa z E/\1<=aa/\aa<=4/\z.n<=60/\z.S<=7900/\z.D<=16/\
 ∀(p:Addr) (P:Pl) (H':Hp),H p=none->Same H H'->SumQ K H' p aa P->PlOk aa P->PlZ z P->Q (.ref p) H'
inductive LsE(K:tV)(H H2:Hp)(d l sl:Addr)(aa:Nat)(ys:List V)(E0:List Ent)(i:Nat):L2.St->Hp->Prop where
 | mk {u v:Option V} {H':Hp} {xs:List V} (s:Same H H') (k:Kq H2 H') (es:H' sl=some (.lst ys)) (e:H' l=some (.lst xs)) (h:Paired (TmQ K H') xs (pl (E0.take i))):LsE K H H2 d l sl aa ys E0 i [some (.int aa),some (.ref d),some (.ref l),u,v] H'
theorem val_inE{E:List Ent}(nd:(E.map Ent.ns).Nodup){e:Ent}(he:e∈E):kK (E.map Ent.kv) (LwD.ik e.ns)=some (.ref e.c):=by
 obtain⟨L,R,rfl⟩:=List.append_of_mem he;rw[mZ,nO]at nd ⊢;refine OZ (wD λy=>?_);exact(mL.mp nd).2.2 _ y _ (mD ..) rfl
theorem rd_getE{E:List Ent}(h:H d=some (.dT (E.map Ent.kv)))(nd:(E.map Ent.ns).Nodup){e:Ent}(he:e∈E)(hb:H b=some (.tup (e.ns.map V.int))):DGet H d (.ref b) (some (.ref e.c)):=
 .inr ⟨_,LwD.ik e.ns,b,.inl h,rfl,by rw[LwD.EW];exact hb,(val_inE nd he).symm⟩
theorem scLSum:FnScope ["many","one","terms","powers","number"] ["many","one"] (jJ QP):=scK #[3]
theorem ok_lsum(F:Fun K "_law_sum" "_law_sum" QP f fd)(T:Txt mg)(GL:DG P w K mg base 1 "_law_low" XY ["top","bottom"] spLow):FnOk P w K mg base CX0 2 f fd ["many","one"] (XO K):=by
 refine F.ok scLSum #[8] #[2]
 ·obtain⟨d,aa,z,E',rfl,_⟩:=h
  rfl
 ·obtain⟨d,aa,z,EE,rfl,hR,hD,m1,m4,n60,S7,D16,go⟩:=h;have n63:z.n<=63:=by omega
  have hu:_+1<cLine:=gZ (Nat.add_le_add_left (by decide:1<=64) _) hr.units;refine⟨_,jC (jN (i:=2) scLSum.nd rfl #[5] (xQ jB)) (jC (kZ PassesOwn.never rfl (xC (kF (LwD.ON rfl) (by rfl) T.sorted boot_sorted (jA (pv 1) jB))) (jG (i:=3) scLSum.nd rfl #[5]) (jF (kE (jO AD (jU jX (wN hu (pv 1) (pv 3) (λ_ _=>rfl)) jD (λ_ _=>rfl)) jD (jS _)) (jC (jN (i:=4) scLSum.nd rfl #[5] (cal GL hr (jA (jU jX (wN hu (pv 1) (pv 3) (λ_ _=>rfl)) jD (λ_ _=>rfl)) (jA (jU jX (wN hu (pv 1) (pv 3) (λ_ _=>rfl)) jD (λ_ _=>rfl)) jB)))) (jF (yI (yK PySem.F.plainAttrs_list PySem.F.slot_list_append PySem.F.type_list_append vA (pv 2) (jA (kC (jA (pv 3) (jA (pv 4) jB))) jB))))) jR))) (jF (jP (kC (jA (pv 0) (jA (qE qC (by rfl) T.tup boot_tuple (jA (pv 2) jB)) jB)))))), ?_⟩;try dsimp only[cxK]
  refine⟨uY,λl H1 n1 s1 e1=>?_⟩;refine⟨_,rfl,d,_,rfl,.inl (s1 _ _ hR),by rw[mY];exact gZ (nW hD.few n63) #[0],λp hp=>?_,λys zs pz ky pw sl H2 n2 s2 e2=>⟨sl,rfl,⟨ys,SqL.of e2⟩, ?_⟩⟩
  ·obtain⟨e,he,rfl⟩:=nY.mp hp;exact⟨e.ns,rfl,λz=>by have:=(hD.each e he).len;rw[z]at this;simp at this;omega⟩
  obtain⟨E0,pE,rfl⟩:=UN pz EE rfl;have s12:Same H H2:=s1.trans s2;have ls:sl≠l:=λz=>by rw[z,e1]at n2;cases n2
  have yl:ys.length=E0.length:=by rw[ky.1,mY]
  have l63:E0.length<=63:=by rw[pE.length_eq];exact nW hD.few n63
  refine AL (K:=K) (a:=sl) (xs:=ys) (LsE K H H2 d l sl aa ys E0) (.mk s12 (Kq.of (Same.refl _)) e2 (s2 _ _ e1) .nil) (λi σ H3 _ h=>?_) (λi y σ H3 hyi h=>?_) (fun σ H3 h=>?_)
  ·obtain⟨_,_,es,_,_⟩:=h;exact SqL.of es
  ·obtain⟨s3,k3,es,el,hx⟩:=h;have hiy:i<ys.length:=(gE.mp hyi).1;have hie:i<E0.length:=by omega
   obtain⟨e,he⟩:∃e,E0[i]? = some e:=⟨E0[i],by simp [hie]⟩;obtain⟨b,ns,rfl,hb1,hk⟩:=ky.2 i y e.kv hyi (by rw[mG,he];rfl);have ens:e.ns=ns:=ik_inj hk;subst ens;have eE:e∈EE:=pE.mem_iff.mp (gQ he);have hE:=(hD.kp (Kq.of s3)).each e eE;have hb3:H3 b=some (.tup (e.ns.map V.int)):=k3.tup _ _ (s2 _ _ hb1);have g3:=rd_getE (s3 _ _ hR) hD.nd eE hb3;have c3:=SqT.of (K:=K) hE.at';have ke:=hD.k eE;refine⟨_,rfl,_,rfl,d,_,rfl,g3,e.c,_,_,_,rfl,rfl,c3,rfl,rfl,_,rfl, ?_⟩;refine xI (by rw[Bool.not_eq_true',nC];intro z;injection z with z;exact hE.nz z) ?_;refine⟨_,rfl,_,rfl,d,_,rfl,g3,e.c,_,_,_,rfl,rfl,c3,rfl,_,rfl,_,rfl,d,_,rfl,g3,e.c,_,_,_,rfl,rfl,c3,rfl,e.t,e.b,rfl, ?_,.inl (KC hE.sb #[1]),λr H4 n4 s4 e4=>?_⟩
   ·have:=hE.pos;omega
   refine⟨_,rfl,.inl ⟨rfl,_,SqL.of (s4 _ _ el)⟩,_,rfl,_,rfl,gA,λq H5 n5 s5 e5=>?_⟩;have s45:=s4.trans s5;have el5:=s45 _ _ el;have lx:=Paired.length hx;unfold pl at lx;rw[mY,mP]at lx;refine⟨l,_,_,rfl,rfl,el5,gZ (show _<=63 by omega) #[0], ?_⟩;have ku:∀o:HO,Kq H5 (upd H5 l o):=λo=>Kq.upd el5 trivial;refine .mk (kA (s3.trans s45) n1) ((k3.trans (Kq.of s45)).trans (ku _)) ?_ jE ?_
   ·rw[jI ls];exact s45 _ _ es
   ·unfold pl;rw[mI,he,mZ];refine Paired.app (Paired.to (λ_ _ h=>TmQ.updL el5 (h.same s45)) hx) (.cons (TmQ.updL el5 ⟨q,b,r,rfl,e5,s45 _ _ hb3,NumH.of (BR (s5 _ _ e4) hE.pos rfl)⟩) .nil)
  ·obtain⟨s3,k3,es,el,hx⟩:=h;rename_i xs3;rw[yl,mR]at hx;refine⟨_,rfl,_,rfl,l,_,rfl,.inl ⟨SqL.of el,λq nq=>⟨gA,λp H5 n5 s5 e5=>?_⟩⟩⟩;have s4:Same H3 (upd H3 q (.tup xs3)):=jQ _ nq;have mE:∀{e:Ent},e∈E0->EntOk H aa z.D z.v e:=λhe=>hD.each _ (pE.mem_iff.mp he);have pwE:E0.Pairwise (λe e2=>LwD.lexI e.ns e2.ns=true):=by
    refine(List.pairwise_map.mp pw).imp fun {a b} h=>?_;have h':LwD.lexI (LwD.yD (LwD.ik a.ns)) (LwD.yD (LwD.ik b.ns))=true:=h
    rwa [LwD.EU,LwD.EU]at h'
   have byE:∀{e:Ent},e∈E0->Byt e.ns:=λhe=>vL (mE he).nn (by have:=(mE he).deg;omega);have pm:∀{x:List Int×Rat},x∈pl E0->∃e∈E0,x=e.pr:=λhx=>by obtain⟨e,he,rfl⟩:=nY.mp hx;exact⟨e,he,rfl⟩
   refine go p (pl E0) H5 ((s3.trans s4).free n5) (s3.trans (s4.trans s5)) ⟨q,_,e5,s5 _ _ jE,Paired.to (λ_ _ h=>h.same (s4.trans s5)) hx⟩ ⟨λx hx=>?_,λx hx=>?_,λx hx=>?_, ?_,λx hx=>?_, ?_,m1,m4⟩ ⟨⟨pbE E0,IV λe he=>(mE he).pos, ?_,λx hx=>?_⟩,λx hx=>?_, ?_⟩
   ·obtain⟨e,he,rfl⟩:=pm hx;exact(mE he).len
   ·obtain⟨e,he,rfl⟩:=pm hx;exact(mE he).nn
   ·obtain⟨e,he,rfl⟩:=pm hx;have:=(mE he).deg;show e.ns.sum<=16;omega
   ·unfold pl;rw[tG,List.pairwise_map];refine List.Pairwise.imp_of_mem (fun {a b} ha hb h=>?_) pwE;exact OD h ((mE ha).len.trans (mE hb).len.symm) (byE ha) (byE hb)
   ·obtain⟨e,he,rfl⟩:=pm hx;intro y;have k:=mE he;have h1:=cne k.pos;have:(e.t:Rat)=0:=by
     have y:(e.t:Rat)/(e.b:Rat)=0:=y;have:=congrArg (· * (e.b:Rat)) y;simp only[tF]at this;rw[<-this,tN,Rat.mul_assoc,Rat.inv_mul_cancel _ h1,Rat.mul_one]
    exact k.nz (Rat.intCast_inj.mp (by rw[this];rfl))
   ·unfold pl;rw[mY,pE.length_eq];exact nW hD.few n60
   ·refine nW (NV λe he=>(mE he).sb) (gT #[0] ?_);have:(E0.map Ent.k).sum=(EE.map Ent.k).sum:=(pE.map Ent.k).sum_nat;rw[this];exact hD.sum
   ·obtain⟨e,he,rfl⟩:=pm hx;obtain⟨r,hr⟩:=QZ he;have h0:=IV λe he=>(mE (e:=e) he).pos;have h2:(pbE E0).natAbs<=2^z.S:=by
     refine nW (NV λe he=>(mE he).sb) (gT #[0] ?_);have:(E0.map Ent.k).sum=(EE.map Ent.k).sum:=(pE.map Ent.k).sum_nat;rw[this];exact hD.sum
    rw[hr]at h0 h2 ⊢;exact ov_ent (mE he).pos h0 h2 (mE he).st
   ·obtain⟨e,he,rfl⟩:=pm hx;exact(mE he).deg
   ·unfold pl;rw[mY,pE.length_eq];exact hD.few
theorem KW(x:Rat)(m:Nat):∀n:Nat,x^(m+n)=x^m*x^n
 | 0=>by rw[Nat.add_zero,Rat.pow_zero,Rat.mul_one]
 | n+1=>by rw[<-Nat.add_assoc,Rat.pow_succ,Rat.pow_succ,KW x m n,Rat.mul_assoc]
theorem EQ:∀{S:List (Int×Int)} {a b:List Int},a.length=S.length->b.length=S.length->(∀n∈a,0<=n)->(∀n∈b,0<=n)->mono S (kN a b)=mono S a*mono S b
 | [],[],[],_,_,_,_=>(Rat.mul_one 1).symm
 | p::S,x::a,y::b,ha,hb,na,nb=>by
  have ih:=EQ (S:=S) (a:=a) (b:=b) (by simpa using ha) (by simpa using hb) (λn hn=>na n (gS _ hn)) (λn hn=>nb n (gS _ hn));have h1:=na x (mD ..);have h2:=nb y (mD ..);show fv p.1 p.2^(x+y).toNat*mono S (kN a b)=fv p.1 p.2^x.toNat*mono S a*(fv p.1 p.2^y.toNat*mono S b);rw[ih,show(x+y).toNat=x.toNat+y.toNat by omega,KW]
  grind
 | [],_::_,_,h,_,_,_=>by simp at h
 | [],[],_::_,_,h,_,_=>by simp at h
 | _::_,[],_,h,_,_,_=>by simp at h
 | _::_,_::_,[],_,h,_,_=>by simp at h
theorem HD:∀(S:List (Int×Int)) (n:Nat),mono S (List.replicate n 0)=1
 | [],n=>by cases n<;>rfl
 | _::_,0=>rfl
 | p::S,n+1=>by
  show fv p.1 p.2^0*mono S (List.replicate n 0)=1;rw[HD S n,Rat.pow_zero,Rat.mul_one]
theorem OX(S:List (Int×Int))(ms:List Int):∀P:Pl,AY S ms P=el (λns=>((zP S ms ns:Int):Rat)) P
 | []=>rfl
 | x::P=>by show x.2*_+AY S ms P=_;rw[OX S ms P];rfl
theorem QW(S:List Rat):∀p∈S.map pr2,0<p.2:=λp hp=>by
 obtain⟨x,_,rfl⟩:=nY.mp hp;exact(kU x).1
theorem zL{aa:Nat}{P:Pl}{S:List Rat}(ok:PlOk aa P)(hS:S.length=aa):wvQ S aa P=el (mono (S.map pr2)) P:=by
 have dp:=FD (S.map pr2) (grP aa P) (QW S);unfold wvQ;rw[OX,qI (ν:=λns=>mono (S.map pr2) ns*((wG (S.map pr2) (grP aa P):Int):Rat)) λx hx=>?_,wR,Rat.mul_div_cancel (cne dp)];refine OY _ _ _ (QW S) (by rw[mY,JR];exact hS) (by rw[mY,ok.len x hx];exact hS) λj m n hm hn=>?_;have hj:j<aa:=by rw[<-JR aa P];exact(gE.mp hm).1
 rw[grP_at hj]at hm;cases hm;have g:=qN (ns:=x.1) (l:=j) (by rw[ok.len x hx];exact hj);rw[hn]at g;have e:=Option.some.inj g;exact⟨ok.nn x hx n (gQ hn),by rw[e];exact qY (List.mem_map_of_mem (f:=λx:List Int×Rat=>x.1.getD j 0) hx)⟩
theorem mono_mm{aa:Nat}{S:List Rat}(hS:S.length=aa):MulM aa (λk=>mono (S.map pr2) (unp aa k)):=by
 refine⟨?_,fun {j k d e} hj hk hde=>?_⟩
 ·have:unp aa 0=List.replicate aa 0:=by
   have:=xU aa (ns:=List.replicate aa 0) gN (λn hn=>by rw[List.eq_of_mem_replicate hn];decide)
   rwa [AB]at this
  show mono _ (unp aa 0)=1;rw[this,HD]
 ·obtain⟨a,a1,a2,a3,rfl⟩:=hj;obtain⟨b,b1,b2,b3,rfl⟩:=hk;show mono _ (unp aa (pk a+pk b))=mono _ (unp aa (pk a))*mono _ (unp aa (pk b));rw[LM a1 b1 a2 b2 #[1],xU aa a1 (FJ a2 #[1]),xU aa b1 (FJ b2 #[1])];exact EQ (by rw[mY];omega) (by rw[mY];omega) a2 b2
theorem LD{W:List Rat} :∀(n l:Nat) {ns:List Int},l+n=W.length->ns.length=W.length->pwr (λj=>W.getD j 0) n l ns=mono ((W.drop l).map pr2) (ns.drop l)
 | 0,l,ns,h,_=>by
  rw[gL (l:=W) #[1]]
  rfl
 | n+1,l,ns,h,hl=>by
  have ih:=LD n (l+1) (ns:=ns) #[1] hl;rw[List.drop_eq_getElem_cons (l:=W) (i:=l) #[1],List.drop_eq_getElem_cons (l:=ns) (i:=l) #[1],nO];show W.getD l 0^pwN ns l*pwr _ n (l+1) ns=fv (pr2 W[l]).1 (pr2 W[l]).2^(ns[l]).toNat*mono _ _;rw[ih,show fv (pr2 W[l]).1 (pr2 W[l]).2=W[l]from vV _];unfold pwN;rw[gB,gG #[1],gB,gG #[1]]
  rfl
theorem PutH.tdo{K:tV}{H:Hp}{p1 oa:Addr}{aa:Nat}{P1:Pl}{ps:List Addr}{Qs:List Pl}{D1 D2:Int}(h:PutH K H p1 oa aa P1 ps Qs D1 D2):(∀j,j<aa->TdO aa D2 (QT Qs j))/\KyD aa 0 0/\Qs.length=aa:=by
 have lq:Qs.length=aa:=by rw[<-Paired.length h.pq];exact h.lp
 refine⟨λj hj=>?_, ?_,lq⟩
 ·have hQ:Qs[j]? = some Qs[j]:=gG #[1];unfold QT;rw[QS hQ];exact(h.qo _ (mT _)).td
 ·refine⟨List.replicate aa 0,gN,λn hn=>by rw[List.eq_of_mem_replicate hn];exact tP _, ?_,(AB aa).symm⟩;have:∀m:Nat,(List.replicate m (0:Int)).sum=0:=λm=>by
   induction m with
   | zero=>rfl
   | succ n ih=>rw[List.replicate_succ,nT,ih];rfl
  rw[this];exact tP _
theorem PutH.pt{K:tV}{H:Hp}{p1 oa:Addr}{aa:Nat}{P1:Pl}{ps:List Addr}{Qs:List Pl}{D1 D2:Int}(h:PutH K H p1 oa aa P1 ps Qs D1 D2):PT aa (bE D1 D2 4) (nB 4 aa) (2*4) (P1.flatMap λx=>KS (tks (QT Qs)) aa 0 x.1) (yF (QT Qs) aa 0 P1):=EC (Td:=QT Qs) (L:=aa) h.p1 h.p2 h.b2 h.tdo.1 h.tdo.2.1 aa 0 4 P1 #[1] h.st
theorem PutH.eval{K:tV}{H:Hp}{p1 oa:Addr}{aa:Nat}{P1 P:Pl}{ps:List Addr}{Qs:List Pl}{D1 D2:Int}(h:PutH K H p1 oa aa P1 ps Qs D1 D2)(ST:SumT aa (yF (QT Qs) aa 0 P1) P){S:List Rat}(hS:S.length=aa):wvQ S aa P=wvQ (Qs.map (wvQ S aa)) aa P1:=by
 obtain⟨tdo,z0,lq⟩:=h.tdo;have pt:=h.pt;have ag:Agr 0 P1:=⟨h.o1.ndn,λ_ _ _ _=>rfl⟩;rw[zL ST.ok hS,zL h.o1 (by rw[mY];exact lq),ST.el pt.nd (λk hk=>(pt.ky k hk).kp #[0]),QV h.p1 h.p2 h.b2 tdo z0 (mono_mm hS) aa 0 4 P1 #[1] uX h.st ag];refine qI λx hx=>?_;have:=LD (W:=Qs.map (wvQ S aa)) aa 0 (ns:=x.1) (by rw[mY];omega) (by rw[mY,h.o1.len x hx];exact lq.symm);rw[List.drop_zero,List.drop_zero]at this;rw[<-this];have hw:∀j,j<aa->lf (λk=>mono (S.map pr2) (unp aa k)) (QT Qs j)=(Qs.map (wvQ S aa)).getD j 0:=λj hj=>by
  have hQ:Qs[j]? = some Qs[j]:=gG #[1];have qk:=h.qo _ (gQ hQ);unfold QT;rw[QS hQ,gB,mG,hQ];show _=wvQ S aa _;rw[zL qk.ok hS,wF qk.ok]
 have key:∀(n l:Nat),l+n=aa->pwr (λj=>lf (λk=>mono (S.map pr2) (unp aa k)) (QT Qs j)) n l x.1=pwr (λj=>(Qs.map (wvQ S aa)).getD j 0) n l x.1:=λn=>by
  induction n with
  | zero=>exact λ_ _=>rfl
  | succ n ih=>
   intro l hl;show lf _ (QT Qs l)^pwN x.1 l*pwr _ n (l+1) x.1=(Qs.map (wvQ S aa)).getD l 0^pwN x.1 l*pwr _ n (l+1) x.1;rw[hw l #[1],ih (l+1) #[1]]
 exact key aa 0 #[1]
structure Bnd(P:Pl)(s n:Nat):Prop where
 ex:∃D:Int,0<D/\D.natAbs<=2^s/\∀x∈P,Ov D n x.2
theorem Bnd.sz{P:Pl}{s n:Nat}(h:Bnd P s n)(hs:s<7900)(hn:n<7900):∀x∈P,SzR 7900 x.2:=λx hx=>by
 obtain⟨D,h0,h1,h2⟩:=h.ex;exact(h2 x hx).sz h0 h1 hn hs
theorem Bnd.plb{P:Pl}{s n:Nat}(h:Bnd P s n)(hs:s<1400)(hn:n<2400):∃D,PlB P D:=by
 obtain⟨D,h0,h1,h2⟩:=h.ex;exact⟨D,h0,gZ h1 (gU #[0] hs),λx hx=>((h2 x hx).dn h0 (mW _)).1,λx hx=>((h2 x hx).dn h0 hn).2⟩
theorem cf_ov{P:Pl}{D:Int}{n:Nat}(nd:(P.map (·.1)).Nodup)(h:∀x∈P,Ov D n x.2)(ns:List Int):Ov D n (cf P ns):=by
 by_cases q:∃x∈P,x.1=ns
 ·obtain⟨x,hx,rfl⟩:=q;rw[FF nd hx];exact h x hx
 ·rw[JZ λx hx z=>q ⟨x,hx,z⟩];exact .zero _ _
theorem Bnd.plus{aa:Nat}{P1 P2 P:Pl}{s1 n1 s2 n2 n:Nat}(b1:Bnd P1 s1 n1)(b2:Bnd P2 s2 n2)(o1:PlOk aa P1)(o2:PlOk aa P2)(o:PlOk aa P)(h:∀ns:List Int,ns.length=aa->Byt ns->cf P ns=cf P1 ns+cf P2 ns)(h1:n1+s2<=n)(h2:n2+s1<=n):Bnd P (s1+s2) (n+1):=by
 obtain⟨D1,p1,l1,v1⟩:=b1.ex;obtain⟨D2,p2,l2,v2⟩:=b2.ex;refine⟨D1*D2,tM p1 p2,by rw[nH,tO];exact nJ l1 l2,λx hx=>?_⟩;rw[<-FF o.ndn hx,h x.1 (o.len x hx) (o.byt hx)];have w1:=((cf_ov o1.ndn v1 x.1).scale p1 p2 l2).up h1;have w2:=((cf_ov o2.ndn v2 x.1).scale p2 p1 l1).up h2;rw[tJ]at w2;exact w1.add w2 (tM p1 p2)
theorem XD{P:Pl}{D:Int}{n:Nat}(h:∀x∈P,Ov D n x.2):∀e∈jL P,Ov D n e.2:=λe he=>by
 obtain⟨x,hx,rfl⟩:=nY.mp he;exact h x hx
theorem Bnd.times{aa:Nat}{P1 P2 P:Pl}{s1 n1 s2 n2 c:Nat}(b1:Bnd P1 s1 n1)(b2:Bnd P2 s2 n2)(o1:PlOk aa P1)(l:P2.length<=2^c)(h:SumT aa (vH (jL P1) (jL P2)) P):Bnd P (s1+s2) (n1+n2+c):=by
 obtain⟨D1,p1,l1,v1⟩:=b1.ex;obtain⟨D2,p2,l2,v2⟩:=b2.ex;refine⟨D1*D2,tM p1 p2,by rw[nH,tO];exact nJ l1 l2,λx hx=>?_⟩;rw[h.at' x hx];exact ZC o1.nd p1 p2 (XD v1) (XD v2) (by rw[qG];exact l) _
theorem Bnd.scaled{aa:Nat}{P1 P:Pl}{s1 n1 s2 n2:Nat}{y:Rat}{D2:Int}(b1:Bnd P1 s1 n1)(o1:PlOk aa P1)(o:PlOk aa P)(p2:0<D2)(l2:D2.natAbs<=2^s2)(v2:Ov D2 n2 y)(h:∀ns:List Int,ns.length=aa->Byt ns->cf P ns=cf P1 ns*y):Bnd P (s1+s2) (n1+n2):=by
 obtain⟨D1,p1,l1,v1⟩:=b1.ex;refine⟨D1*D2,tM p1 p2,by rw[nH,tO];exact nJ l1 l2,λx hx=>?_⟩;rw[<-FF o.ndn hx,h x.1 (o.len x hx) (o.byt hx)];exact(cf_ov o1.ndn v1 x.1).mul v2 p1 p2
theorem Bnd.slope{aa l:Nat}{P1 P:Pl}{s n:Nat}(b:Bnd P1 s n)(o1:PlOk aa P1)(hl:l<aa)(h:SumT aa (slT P1 l) P):Bnd P s (n+4):=by
 obtain⟨D,p,l1,v⟩:=b.ex;refine⟨D,p,l1,λx hx=>?_⟩;rw[h.at' x hx];refine GX (λe he=>?_) _;obtain⟨y,hy,e1⟩:=List.mem_filterMap.mp he;unfold slE at e1;split at e1
 ·cases e1;have m0:y.1.getD l 0∈y.1:=gQ (qN (show l<y.1.length by rw[o1.len y hy];exact hl));have:=(qM (o1.nn y hy) m0).1;have:=o1.nn y hy _ m0;have:=o1.deg y hy;rw[tI];exact(v y hy).imul (show(y.1.getD l 0).natAbs<=2^4 by show _<=16;omega)
 ·cases e1
theorem PutH.bnd{K:tV}{H:Hp}{p1 oa:Addr}{aa:Nat}{P1 P:Pl}{ps:List Addr}{Qs:List Pl}{D1 D2:Int}(h:PutH K H p1 oa aa P1 ps Qs D1 D2)(ST:SumT aa (yF (QT Qs) aa 0 P1) P):Bnd P 540 728:=by
 refine⟨bE D1 D2 4,KE h.p1 h.p2 4,bE_le h.b1 h.b2 uX,λx hx=>?_⟩;rw[ST.at' x hx];have:=h.o1.m4;exact(GX h.pt.vl _).up (by unfold nB;omega)
theorem SumT.len{aa:Nat}{T:Tb}{P:Pl}(h:SumT aa T P):P.length<=T.length:=by
 have:=EO (l:=(jL P).map (·.1)) (m:=T.map (·.1)) h.ok.nd λk hk=>by
  rw[vI]at hk;obtain⟨x,hx,rfl⟩:=nY.mp hk;refine gD λz=>h.ok.nz x hx ?_;rw[h.at' x hx,qJ z]
 rwa [mY,mY,qG]at this
theorem XR{aa l g:Nat}{P1 P:Pl}(o1:PlOk aa P1)(hl:l<aa)(h:SumT aa (slT P1 l) P)(dg:∀x∈P1,x.1.sum<=g):∀x∈P,x.1.sum<=g:=λx hx=>by
 have km:pk x.1∈(slT P1 l).map (·.1):=gD λz=>h.ok.nz x hx (by rw[h.at' x hx,qJ z]);obtain⟨y,hy,hp,e⟩:=IJ o1 (λ_ h=>h) hl km;have ky:=uD o1 hy hl hp;have e2:=BH aa (h.ok.len x hx) ky.1 (h.ok.byt hx) (vL ky.2.1 ky.2.2) e;have:=DF (ns:=y.1) (l:=l) (y.1.getD l 0-1) (by rw[o1.len y hy];exact hl);have:=dg y hy;rw[e2];unfold yC;omega
theorem WZ{aa:Nat}{P1 P2 P:Pl}{g1 g2:Nat}(o1:PlOk aa P1)(o2:PlOk aa P2)(h:SumT aa (vH (jL P1) (jL P2)) P)(d1:∀x∈P1,x.1.sum<=g1)(d2:∀x∈P2,x.1.sum<=g2):∀x∈P,x.1.sum<=(g1+g2:Nat):=λx hx=>by
 have km:pk x.1∈(vH (jL P1) (jL P2)).map (·.1):=gD λz=>h.ok.nz x hx (by rw[h.at' x hx,qJ z]);obtain⟨f1,h1,f2,h2,ee⟩:=(AF _ _).ks _ km;obtain⟨u,hu,rfl⟩:=nY.mp h1;obtain⟨v,hv,rfl⟩:=nY.mp h2;have ee:pk x.1=pk u.1+pk v.1:=ee;have uv:=o1.padd o2 hu hv;rw[<-ee,xU aa (h.ok.len x hx) (h.ok.byt hx)]at uv;rw[uv,vR (by rw[o1.len u hu,o2.len v hv])];have:=d1 u hu;have:=d2 v hv;omega
theorem plus_dg{aa:Nat}{P1 P2 P:Pl}{g:Nat}(o:PlOk aa P)(h:∀ns:List Int,ns.length=aa->Byt ns->cf P ns=cf P1 ns+cf P2 ns)(d1:∀x∈P1,x.1.sum<=g)(d2:∀x∈P2,x.1.sum<=g):∀x∈P,x.1.sum<=g:=λx hx=>by
 have e:=h x.1 (o.len x hx) (o.byt hx);rw[FF o.ndn hx]at e;by_cases c:cf P1 x.1=0
 ·have:cf P2 x.1≠0:=λz=>o.nz x hx (by rw[e,c,z,tD]);obtain⟨y,hy,ey⟩:=nY.mp (TK this);rw[<-ey];exact d2 y hy
 ·obtain⟨y,hy,ey⟩:=nY.mp (TK c);rw[<-ey];exact d1 y hy
theorem UG{aa:Nat}{P1 P:Pl}{g:Nat}{y:Rat}(o:PlOk aa P)(h:∀ns:List Int,ns.length=aa->Byt ns->cf P ns=cf P1 ns*y)(d1:∀x∈P1,x.1.sum<=g):∀x∈P,x.1.sum<=g:=λx hx=>by
 have e:=h x.1 (o.len x hx) (o.byt hx);rw[FF o.ndn hx]at e;by_cases c:cf P1 x.1=0
 ·exact absurd (by rw[e,c,tF]) (o.nz x hx)
 ·obtain⟨y,hy,ey⟩:=nY.mp (TK c);rw[<-ey];exact d1 y hy
theorem Ov.pow{D:Int}{n:Nat}{x:Rat}(h:Ov D n x)(hD:0<D):∀k:Nat,Ov (D^k) (n*k) (x^k)
 | 0=>⟨1,by rw[Rat.pow_zero,Int.pow_zero];unfold fv;rw[show((1:Int):Rat)=1 from rfl,tN];grind,tK _⟩
 | k+1=>by
  rw[Rat.pow_succ,Int.pow_succ,Nat.mul_succ];exact(Ov.pow h hD k).mul h (Int.pow_pos hD) hD
theorem RN{D:Int}{n:Nat}(hD:0<D):∀{S:List Rat} {ns:List Int},(∀r∈S,Ov D n r)->ns.length=S.length->(∀m∈ns,0<=m)->Ov (D^ns.sum.toNat) (n*ns.sum.toNat) (mono (S.map pr2) ns)
 | [],[],_,_,_=>⟨1,by show(1:Rat)=_;show(1:Rat)=fv 1 (D^0);rw[Int.pow_zero];unfold fv;rw[show((1:Int):Rat)=1 from rfl,tN];grind,Nat.one_le_two_pow⟩
 | r::S,m::ns,h,hl,nn=>by
  have ih:=RN hD (S:=S) (ns:=ns) (λq hq=>h q (gS _ hq)) (by simpa using hl) (λq hq=>nn q (gS _ hq));have m0:=nn m (mD ..);have s0:0<=ns.sum:=by
   match ns,nn with
   | [],_=>exact tP _
   | a::l,nn=>exact(qM (n:=a) (λq hq=>nn q (gS _ hq)) (mD ..)).2
  show Ov _ _ (fv (pr2 r).1 (pr2 r).2^m.toNat*mono (S.map pr2) ns);rw[show fv (pr2 r).1 (pr2 r).2=r from vV _,nT,show(m+ns.sum).toNat=m.toNat+ns.sum.toNat by omega,Int.pow_add,Nat.mul_add];exact((h r (mD ..)).pow hD m.toNat).mul ih (Int.pow_pos hD) (Int.pow_pos hD)
 | [],_::_,_,h,_=>by simp at h
 | _::_,[],_,h,_=>by simp at h
theorem mono_ovG{D:Int}{aa G:Nat}{S:List Rat}{ns:List Int}(hD:0<D)(l:D.natAbs<=2^56)(hv:∀r∈S,Ov D 96 r)(hS:S.length=aa)(hl:ns.length=aa)(nn:∀m∈ns,0<=m)(dg:ns.sum<=G):Ov (D^G) (96*G) (mono (S.map pr2) ns):=by
 have m:=RN hD hv (ns:=ns) #[1] nn;obtain⟨k,hk⟩:∃k,G=ns.sum.toNat+k:=⟨G-ns.sum.toNat,by omega⟩;have:=m.scale (Int.pow_pos hD) (Int.pow_pos (m:=k) hD) (xH l k);rw[<-Int.pow_add,<-hk]at this;refine this.up ?_;rw[hk,Nat.mul_add];have:=gW k (show 56<=96 by decide);omega
structure SpB(S:List Rat)(aa:Nat):Prop where
 ln:S.length=aa
 ex:∃D:Int,0<D/\D.natAbs<=2^56/\∀r∈S,Ov D 96 r
theorem SpB.sz{S:List Rat}{aa:Nat}(h:SpB S aa):∀r∈S,r.num.natAbs<=2^97/\r.den<=2^97:=λr hr=>by
 obtain⟨D,p,l,v⟩:=h.ex;have:=(v r hr).sz p l (k:=97) #[0] #[0];exact⟨tH this.1,tH this.2⟩
theorem CZ{aa s n G:Nat}{P:Pl}{S:List Rat}(o:PlOk aa P)(b:Bnd P s n)(dg:∀x∈P,x.1.sum<=G)(hS:SpB S aa)(k:Nat)(h1:s+56*G<k)(h2:n+96*G+6<k):SzR k (wvQ S aa P):=by
 obtain⟨D,p,l,v⟩:=hS.ex;obtain⟨E,p2,l2,v2⟩:=b.ex;have ov:Ov (E*D^G) (n+96*G+6) (wvQ S aa P):=by
  rw[zL o hS.ln,wF o];refine lf_ov2 (tM p2 (Int.pow_pos p)) (λe he=>?_) (by rw[qG];exact nW o.few #[0]);obtain⟨x,hx,rfl⟩:=nY.mp he;show Ov _ _ (x.2*mono (S.map pr2) (unp aa (pk x.1)));rw[xU aa (o.len x hx) (o.byt hx)];exact(v2 x hx).mul (mono_ovG p l v hS.ln (o.len x hx) (o.nn x hx) (dg x hx)) p2 (Int.pow_pos p)
 refine ov.sz (tM p2 (Int.pow_pos p)) (d:=s+56*G) ?_ h2 h1;rw[nH,tO];exact nJ l2 (xH l G)
theorem wv_plus{aa:Nat}{P1 P2 P:Pl}{S:List Rat}(o1:PlOk aa P1)(o2:PlOk aa P2)(o:PlOk aa P)(h:∀ns:List Int,ns.length=aa->Byt ns->cf P ns=cf P1 ns+cf P2 ns)(hS:S.length=aa):wvQ S aa P=wvQ S aa P1+wvQ S aa P2:=by
 rw[zL o hS,zL o1 hS,zL o2 hS,JU o1 o2 o h]
theorem TV{aa:Nat}{P1 P:Pl}{S:List Rat}{y:Rat}(o1:PlOk aa P1)(o:PlOk aa P)(h:∀ns:List Int,ns.length=aa->Byt ns->cf P ns=cf P1 ns*y)(hS:S.length=aa):wvQ S aa P=wvQ S aa P1*y:=by
 rw[zL o hS,zL o1 hS,VP o1 o h]
theorem WF{aa:Nat}{P1 P2 P:Pl}{S:List Rat}(o1:PlOk aa P1)(o2:PlOk aa P2)(hd:qK P1+qK P2<=16)(h:SumT aa (vH (jL P1) (jL P2)) P)(hS:S.length=aa):wvQ S aa P=wvQ S aa P1*wvQ S aa P2:=by
 rw[zL h.ok hS,zL o1 hS,zL o2 hS,AO o1 o2 hd h,<-wR];refine qI λx hx=>?_;rw[tI,<-wR];refine qI λy hy=>?_;rw[EQ (by rw[mY,o1.len x hx];exact hS.symm) (by rw[mY,o2.len y hy];exact hS.symm) (o1.nn x hx) (o2.nn y hy),tI]
structure SmB(K:tV)(H:Hp)(p:Addr)(aa:Nat)(P:Pl)(g s n l:Nat):Prop where
 q:SumQ K H p aa P
 o:PlOk aa P
 b:Bnd P s n
 d:∀x∈P,x.1.sum<=g
 l:P.length<=l
theorem SmB.same{K:tV}{H H':Hp}{p:Addr}{aa:Nat}{P:Pl}{g s n l:Nat}(h:SmB K H p aa P g s n l)(k:Same H H'):SmB K H' p aa P g s n l:=⟨h.q.same k,h.o,h.b,h.d,h.l⟩
theorem SmB.dq{K:tV}{H:Hp}{p:Addr}{aa:Nat}{P:Pl}{g s n l:Nat}(h:SmB K H p aa P g s n l):qK P<=g:=JX h.d #[1]
section
variable{K:tV}{H:Hp}{Q:VK}{p1 p2 sp:Addr}{aa g1 s1 n1 l1 g2 s2 n2 l2:Nat}{P1 P2:Pl}{S:List Rat}
theorem MQ(h1:SmB K H p1 aa P1 g1 s1 n1 l1)(h2:SmB K H p2 aa P2 g1 s2 n2 l2)(n:Nat)(hl:l1+l2<=60)(a1:s1<7900/\n1<7900/\s2<7900/\n2<7900)(a2:n1+s2<=n/\n2+s1<=n)
  (go:∀p P H',H p=none->Same H H'->SmB K H' p aa P g1 (s1+s2) (n+1) 60->(∀ns:List Int,ns.length=aa->Byt ns->cf P ns=cf P1 ns+cf P2 ns)->Q (.ref p) H'):uP K [.ref p1,.ref p2] H Q E0:=
 ⟨p1,p2,aa,P1,P2,rfl,h1.q,h2.q,h1.o,h2.o,by have:=h1.l;have:=h2.l;omega,h1.b.sz a1.1 a1.2.1,h2.b.sz a1.2.2.1 a1.2.2.2,λp P H' n0 s q o h=>go p P H' n0 s ⟨q,o,h1.b.plus h2.b h1.o h2.o o h a2.1 a2.2,plus_dg o h h1.d h2.d,o.few⟩ h⟩
theorem FE(h1:SmB K H p1 aa P1 g1 s1 n1 l1)(h2:SmB K H p2 aa P2 g2 s2 n2 l2)(hl:l1*l2<=60)(c:Nat)(hc:l2<=2^c)(hg:g1+g2<=16)(a1:s1<1400/\n1<2400/\s2<1400/\n2<2400)
  (go:∀p P H',H p=none->Same H H'->SmB K H' p aa P (g1+g2) (s1+s2) (n1+n2+c) (l1*l2)->SumT aa (vH (jL P1) (jL P2)) P->Q (.ref p) H'):uM K [.ref p1,.ref p2] H Q E0:=by
 obtain⟨D1,b1⟩:=h1.b.plb a1.1 a1.2.1;obtain⟨D2,b2⟩:=h2.b.plb a1.2.2.1 a1.2.2.2;have l:=nJ h1.l h2.l;refine⟨p1,p2,aa,P1,P2,D1,D2,rfl,h1.q,h2.q,h1.o,h2.o,by omega,by have:=h1.dq;have:=h2.dq;omega,b1,b2,λp P H' n0 s q ST=>go p P H' n0 s ⟨q,ST.ok,h1.b.times h2.b h1.o (nW h2.l hc) ST,WZ h1.o h2.o ST h1.d h2.d, ?_⟩ ST⟩;have:=(AF (jL P1) (jL P2)).ln;rw[qG,qG]at this;exact nW ST.len (nW this l)
theorem TF{y:Rat}{D2:Int}(h1:SmB K H p1 aa P1 g1 s1 n1 l1)(hv:NumK K H v y)(p2:0<D2)(b2:D2.natAbs<=2^s2)(o2:Ov D2 n2 y)(a1:s1<7900/\n1<7900/\s2<7900/\n2<7900)
  (go:∀p P H',H p=none->Same H H'->SmB K H' p aa P g1 (s1+s2) (n1+n2) 60->(∀ns:List Int,ns.length=aa->Byt ns->cf P ns=cf P1 ns*y)->Q (.ref p) H'):uO K [.ref p1,v] H Q E0:=
 ⟨p1,v,aa,P1,y,rfl,h1.q,h1.o,hv,h1.b.sz a1.1 a1.2.1,o2.sz p2 b2 a1.2.2.2 a1.2.2.1,λp P H' n0 s q o h=>go p P H' n0 s ⟨q,o,h1.b.scaled h1.o o p2 b2 o2 h,UG o h h1.d,o.few⟩ h⟩
theorem uF{l:Nat}(h1:SmB K H p1 aa P1 g1 s1 n1 l1)(hl:l<aa)(a1:s1<7900/\n1<7900)
  (go:∀p P H',H p=none->Same H H'->SmB K H' p aa P g1 s1 (n1+4) l1->SumT aa (slT P1 l) P->Q (.ref p) H'):CC K [.ref p1,.int l] H Q E0:=
 ⟨p1,l,aa,P1,rfl,h1.q,h1.o,hl,h1.b.sz a1.1 a1.2,λp P H' n0 s q ST=>go p P H' n0 s ⟨q,ST.ok,h1.b.slope h1.o hl ST,XR h1.o hl ST h1.d,nW ST.len (nW (NN _ _) h1.l)⟩ ST⟩
theorem dPut{D1 D2:Int}(h:PutH K H p1 oa aa P1 ps Qs D1 D2)
  (go:∀p P H',H p=none->Same H H'->SmB K H' p aa P 8 540 728 60->SumT aa (yF (QT Qs) aa 0 P1) P->Q (.ref p) H'):CD K [.ref p1,.ref oa] H Q E0:=
 ⟨p1,oa,aa,P1,ps,Qs,D1,D2,rfl,h,λp P H' n0 s q ST=>go p P H' n0 s ⟨q,ST.ok,h.bnd ST,λx hx=>by
  have km:pk x.1∈(yF (QT Qs) aa 0 P1).map (·.1):=gD λz=>ST.ok.nz x hx (by rw[ST.at' x hx,qJ z]);obtain⟨ns,h1,h2,h3,h4⟩:=h.pt.ky _ km;rw[BH aa (ST.ok.len x hx) h1 (ST.ok.byt hx) (FJ h2 #[1]) h4];exact h3,ST.ok.few⟩ ST⟩
theorem wI(h1:SmB K H p1 aa P1 g1 s1 n1 l1)(hp:SpQ K H sp S)(ln:S.length=aa)(B:Nat)(hB:∀r∈S,r.num.natAbs<=2^B/\r.den<=2^B)(a:s1<=1300/\n1<=1300/\g1<=16/\B*g1<=1600/\B<=2000)
  (go:∀v H',Same H H'->NumK K H' v (wvQ S aa P1)->Q v H'):DJ K [.ref p1,.ref sp] H Q E0:=by
 obtain⟨D,p,l,v⟩:=h1.b.ex;exact⟨p1,sp,aa,n1,s1,B,g1,P1,S,D,rfl,h1.q,h1.o,hp,ln,v,p,l,a.2.1,a.1,hB,h1.d,a.2.2.1,a.2.2.2.1,a.2.2.2.2,λv H' s n=>go v H' s n⟩
theorem dAddN{x y:Rat}(h1:NumK K H v1 x)(h2:NumK K H v2 y)(z1:SzR 7900 x)(z2:SzR 7900 y)(go:∀v H',Same H H'->NumK K H' v (x+y)->Q v H'):BB K [v1,v2] H Q E0:=by
 obtain⟨p1,rfl,q1⟩:=h1;obtain⟨p2,rfl,q2⟩:=h2;exact⟨p1,p2,_,_,_,_,rfl,q1,q2,z1.fr uX,z2.fr uX,λr H' _ s e=>go _ H' s (NumK.of (TR e))⟩
theorem dMulN{x y:Rat}(h1:NumK K H v1 x)(h2:NumK K H v2 y)(z1:SzR 7900 x)(z2:SzR 7900 y)(go:∀v H',Same H H'->NumK K H' v (x*y)->Q v H'):DS K [v1,v2] H Q E0:=by
 obtain⟨p1,rfl,q1⟩:=h1;obtain⟨p2,rfl,q2⟩:=h2;exact⟨p1,p2,_,_,_,_,rfl,q1,q2,z1.fr uX,z2.fr uX,λr H' _ s e=>go _ H' s (NumK.of (RJ e))⟩
theorem nNe{x y:Rat}(h1:NumK K H v1 x)(h2:NumK K H v2 y)(e:x=y)(go:Q (.bl false) H):LwT.rOrdT K LwT.lexNe v1 v2 H Q:=by
 obtain⟨p1,rfl,q1⟩:=h1;obtain⟨p2,rfl,q2⟩:=h2;subst e;refine⟨p1,p2,[x.num,(x.den:Int)],[x.num,(x.den:Int)],rfl,rfl,q1,q2, ?_⟩;show Q (V.bl (LwT.lexI (λ_ _=>true) (λm n=>m != n) _ _)) H;rw[LwT.lexNe_eq,nG rfl];exact go
theorem nEq{x y:Rat}(h1:NumK K H v1 x)(h2:NumK K H v2 y)(e:x=y)(go:Q (.bl true) H):rEqT K v1 v2 H Q:=by
 obtain⟨p1,rfl,q1⟩:=h1;obtain⟨p2,rfl,q2⟩:=h2;subst e;refine⟨p1,p2,[x.num,(x.den:Int)],[x.num,(x.den:Int)],rfl,rfl,q1,q2, ?_⟩;rw[nG rfl];exact go
theorem sq_updL(e:H l=some (.lst xs))(h:SqT K H a zs):SqT K (upd H l (.lst ys)) a zs:=by
 rcases h with(h | ⟨u,h⟩) | h
 ·exact .inl (.inl (by rw[jI λz=>by rw[z,e]at h;cases h];exact h))
 ·exact .inl (.inr ⟨u,by rw[jI λz=>by rw[z,e]at h;cases h];exact h⟩)
 ·exact .inr h
end
theorem SpQ.same{S:List Rat}(h:SpQ K H sp S)(s:Same H H'):SpQ K H' sp S:=let ⟨ys,e,p⟩:=h;⟨ys,s _ _ e,Paired.to (λ_ _ k=>k.same s) p⟩
structure LwH(K:tV)(H:Hp)(p1 p2 oa:Addr)(aa:Nat)(P1 P2:Pl)(ps:List Addr)(Qs:List Pl)(D1 D2:Int):Prop where
 put:PutH K H p1 oa aa P1 ps Qs D1 D2
 a:SmB K H p1 aa P1 4 56 100 4
 b:SmB K H p2 aa P2 4 56 100 4
theorem LwH.same{aa:Nat}{D1 D2:Int}(h:LwH K H p1 p2 oa aa P1 P2 ps Qs D1 D2)(s:Same H H'):LwH K H' p1 p2 oa aa P1 P2 ps Qs D1 D2:=⟨h.put.same s,h.a.same s,h.b.same s⟩
def spWoR(K:tV):Sp:=λvs H Q _=>∃(p1 p2 oa sp:Addr) (vn:V) (aa:Nat) (P1 P2:Pl) (ps:List Addr) (Qs:List Pl) (D1 D2 D3:Int) (S:List Rat) (y:Rat),vs=[.ref p1,.ref p2,.ref oa,.ref sp,vn]/\LwH K H p1 p2 oa aa P1 P2 ps Qs D1 D2/\SpQ K H sp S/\SpB S aa/\NumK K H vn y/\0<D3/\D3.natAbs<=2^14/\Ov D3 40 y/\∀H',Same H H'->Q (.bl true) H'
structure WtI(K:tV)(H1:Hp)(l:Addr)(ws:List Rat)(i:Nat)(ys:List V)(H2:Hp):Prop where
 s:Same H1 H2
 e:H2 l=some (.lst ys)
 p:Paired (NumK K H2) ys (ws.take i)
theorem scWoR:FnScope ["one","other","others","spot","number","first","second"] ["one","other","others","spot","number"] (jJ sWoR):=scK #[3]
theorem ok_woR(F:Fun K "_law_worths_right" "_law_worths_right" sWoR f fd)(T:Txt mg)
 (GP:DG P w K mg base 4 "plus" BG ["one","other"] (uP K))
 (GT:DG P w K mg base 6 "times" BE ["one","other"] (uM K))
 (GC:DG P w K mg base 3 "scaled" uS ["one","number"] (uO K))
 (GU:DG P w K mg base 11 "put_in" EA ["one","others"] (CD K))
 (GW:DG P w K mg base 3 "worth" IK ["one","spot"] (DJ K))
 (GA:DG P w K mg base 2 "added" EB ["one","other"] (BB K))
 (GM:DG P w K mg base 2 "multiplied" KU ["one","other"] (DS K)):FnOk P w K mg base CX0 12 f fd ["one","other","others","spot","number"] (spWoR K):=by
 refine F.ok scWoR #[8] #[2]
 ·obtain⟨p1,p2,oa,sp,vn,aa,P1,P2,ps,Qs,D1,D2,D3,S,y,rfl,_⟩:=h
  rfl
 ·obtain⟨p1,p2,oa,sp,vn,aa,P1,P2,ps,Qs,D1,D2,D3,S,y,rfl,h,hp,sb,hn,d3,b3,o3,go⟩:=h;have hu0:=hr.units0;have hr2:Room 2 _:=hr.mono #[0];have hr3:Room 3 _:=hr.mono #[0];have hr4:Room 4 _:=hr.mono #[0];have hr6:Room 6 _:=hr.mono #[0];have hr11:Room 11 _:=hr.mono #[0];refine⟨_,jC (jN (i:=5) scWoR.nd rfl #[5] (cal GW hr3 (jA (pv 0) (jA (pv 3) jB)))) (jC (jN (i:=6) scWoR.nd rfl #[5] (cal GW hr3 (jA (pv 1) (jA (pv 3) jB)))) (jC (kE (jO (LwT.op_neT hu0) (cal GW hr3 (jA (cal GP hr4 (jA (pv 0) (jA (pv 1) jB))) (jA (pv 3) jB))) (cal GA hr2 (jA (pv 5) (jA (pv 6) jB))) (jS _)) (jF (kP)) jR) (jC (kE (jO (LwT.op_neT hu0) (cal GW hr3 (jA (cal GC hr3 (jA (pv 0) (jA (pv 4) jB))) (jA (pv 3) jB))) (cal GM hr2 (jA (pv 5) (jA (pv 4) jB))) (jS _)) (jF (kP)) jR) (jC (kE (jO (LwT.op_neT hu0) (cal GW hr3 (jA (cal GT hr6 (jA (pv 0) (jA (pv 1) jB))) (jA (pv 3) jB))) (cal GM hr2 (jA (pv 5) (jA (pv 6) jB))) (jS _)) (jF (kP)) jR) (jF (jP (zG (op_eqT hu0) (cal GW hr3 (jA (cal GU hr11 (jA (pv 0) (jA (pv 2) jB))) (jA (pv 3) jB))) (cal GW hr3 (jA (pv 0) (jA (qE qC (by rfl) T.tup boot_tuple (jA (vQ (own:=1) (idx:=[3]) (N:=["here","spot"]) rfl rfl rfl #[3] #[3] (zQ (by intro y hy;simp only[nP,mQ,or_false]at hy;rcases hy with rfl;rfl)) (qU rfl) rfl (yL rfl ⟨rfl,rfl,rfl,rfl⟩) (xC (pv 2)) (λC fp s2 H2=>(jG (i:=0) (show List.Nodup (["here","spot"]:List Str) by decide +kernel) rfl #[5] (Or.inr rfl))) (λC fp s2 H2=>cal GW hr3 (jA (pv 0) (jA (pv 1) jB)))) jB)) jB))) (jS _)))))))), ?_⟩
  try dsimp only[cxK]
  have dq:qK P1+qK P2<=16:=by have:=h.a.dq;have:=h.b.dq;omega
  have z1:=CZ h.a.o h.a.b h.a.d sb 7900 #[0] #[0];have z2:=CZ h.b.o h.b.b h.b.d sb 7900 #[0] #[0];refine⟨_,rfl,_,rfl,wI h.a hp sb.ln 97 sb.sz #[0] λv1 H1 s1 w1=>?_⟩;dsimp only[jV];refine⟨_,rfl,_,rfl,wI (h.b.same s1) (hp.same s1) sb.ln 97 sb.sz #[0] λv2 H2 s2 w2=>?_⟩;dsimp only[jV];have s02:=s1.trans s2;refine⟨_,rfl,_,rfl, ?_⟩;dsimp only[tNil];refine MQ (h.a.same s02) (h.b.same s02) 156 #[0] #[0] #[0] λp3 P3 H3 n3 s3 b3' c3=>?_;have s03:=s02.trans s3;refine⟨_,rfl,wI b3' (hp.same s03) sb.ln 97 sb.sz #[0] λv3 H4 s4 w3=>?_⟩;have s24:=s3.trans s4;refine⟨_,rfl,_,rfl, ?_⟩;dsimp only[tNil];refine dAddN ((w1.same s2).same s24) (w2.same s24) z1 z2 λv4 H5 s5 w4=>?_;refine nNe (w3.same s5) w4 (wv_plus h.a.o h.b.o b3'.o c3 sb.ln) ⟨_,rfl,qT rfl ?_⟩;have s05:=s02.trans (s24.trans s5);refine⟨_,rfl,_,rfl, ?_⟩;dsimp only[tNil];refine TF (h.a.same s05) (hn.same s05) d3 b3 o3 #[0] λp6 P6 H6 n6 s6 b6 c6=>?_;have s06:=s05.trans s6;refine⟨_,rfl,wI b6 (hp.same s06) sb.ln 97 sb.sz #[0] λv6 H7 s7 w6=>?_⟩;have s07:=s06.trans s7;have s27:=s24.trans (s5.trans (s6.trans s7));refine⟨_,rfl,_,rfl, ?_⟩;dsimp only[tNil];refine dMulN ((w1.same s2).same s27) (hn.same s07) z1 (o3.sz d3 b3 #[0] #[0]) λv7 H8 s8 w7=>?_;refine nNe (w6.same s8) w7 (TV h.a.o b6.o c6 sb.ln) ⟨_,rfl,qT rfl ?_⟩;have s08:=s07.trans s8;refine⟨_,rfl,_,rfl, ?_⟩;dsimp only[tNil]
  refine FE (h.a.same s08) (h.b.same s08) #[0] 2 #[0] #[0] #[0] λp9 P9 H9 n9 s9 b9 c9=>?_;have s09:=s08.trans s9;refine⟨_,rfl,wI b9 (hp.same s09) sb.ln 97 sb.sz #[0] λv9 H10 s10 w9=>?_⟩;have s2a:=s27.trans (s8.trans (s9.trans s10));refine⟨_,rfl,_,rfl, ?_⟩;dsimp only[tNil];refine dMulN ((w1.same s2).same s2a) (w2.same s2a) z1 z2 λv10 H11 s11 w10=>?_;refine nNe (w9.same s11) w10 (WF h.a.o h.b.o dq c9 sb.ln) ⟨_,rfl,qT rfl ?_⟩;have s0b:=s09.trans (s10.trans s11);refine⟨_,rfl,_,rfl, ?_⟩;dsimp only[tNil];refine dPut (h.put.same s0b) λp12 P12 H12 n12 s12 b12 c12=>?_;have s0c:=s0b.trans s12;refine⟨_,rfl,wI b12 (hp.same s0c) sb.ln 97 sb.sz #[0] λv12 H13 s13 w12=>?_⟩;have s0d:=s0c.trans s13;have hd:=h.same s0d;obtain⟨_,_,lq⟩:=hd.put.tdo;have lpm:(ps.map V.ref).length=aa:=by rw[mY];exact hd.put.lp
  have m4:=h.a.o.m4;refine⟨_,rfl,_,rfl,oa,rfl,⟨_,SqL.of hd.put.eo⟩,λl H14 n14 s14 e14=>?_⟩;refine yE (K:=K) (a:=oa) (xs:=ps.map V.ref) (WtI K H13 l (Qs.map (wvQ S aa))) (by rw[lpm,sizeLine_eq];omega) ⟨s14,e14,.nil⟩ (λi ys H15 k=>⟨SqL.of (k.s _ _ hd.put.eo),k.e⟩) ?_ ?_
  ·rintro i m ys x H15 hx hm hy ⟨s15,e15,p15⟩;rw[mG]at hx;cases e:ps[i]? with
   | none=>rw[e]at hx;cases hx
   | some a=>
    rw[e]at hx;cases hx;obtain⟨Q1,hQ,hq⟩:=Paired.at hd.put.pq e;have qk:=hd.put.qo Q1 (gQ hQ);have b15:SmB K H15 a aa Q1 2 120 154 2:=⟨hq.same s15,qk.ok,⟨D2,hd.put.p2,hd.put.b2,qk.cf⟩,qk.dg,qk.l2⟩;refine⟨wE,_,rfl,_,rfl,wI b15 (hp.same (s0d.trans s15)) sb.ln 97 sb.sz #[0] λv H16 s16 w16=>?_⟩;have e16:=s16 _ _ e15;have up:∀{v:V} {x:Rat} {zs:List V},NumK K H16 v x->NumK K (upd H16 l (.lst zs)) v x:=fun {v x zs} h=>let ⟨pz,z1,z2⟩:=h;⟨pz,z1,sq_updL e16 z2⟩;refine kJ (xs:=ps.map V.ref) (by rw[mG,e];rfl) hm hy e16 ⟨kA (s15.trans s16) n14,jE, ?_⟩;rw[mI,mG,hQ];exact Paired.app (Paired.to (λ_ _ k=>up (k.same s16)) p15) (.cons (up w16) .nil)
  ·rintro ys H15 hl ⟨s15,e15,p15⟩;rw[lpm,gK (by rw[mY];omega)]at p15;refine⟨l,_,rfl,.inl ⟨SqL.of e15,λsp2 ns2=>?_⟩⟩;have s16:Same H15 (upd H15 sp2 (.tup ys)):=jQ _ ns2;have e16:(upd H15 sp2 (.tup ys)) sp2=some (.tup ys):=jE;generalize upd H15 sp2 (.tup ys)=H16 at s16 e16;have hp2:SpQ K H16 sp2 (Qs.map (wvQ S aa)):=⟨ys,e16,Paired.to (λ_ _ k=>k.same s16) p15⟩;have s0e:=s15.trans s16;refine wI (hd.a.same s0e) hp2 (by rw[mY];exact lq) 400 (λr hr=>?_) #[0] λv17 H17 s17 w17=>?_
   ·obtain⟨Q1,hQ,rfl⟩:=nY.mp hr;have qk:=hd.put.qo Q1 hQ;have:=CZ qk.ok (s:=120) (n:=154) (G:=2) ⟨D2,hd.put.p2,hd.put.b2,qk.cf⟩ qk.dg sb 400 #[0] #[0];exact⟨tH this.1,tH this.2⟩
   ·exact nEq (w12.same (s0e.trans s17)) w17 (h.put.eval c12 sb.ln) (go H17 (s0d.trans (s0e.trans s17)))
def tmP(P:Pl):List LwS.Trm:=P.map λx=>⟨x.1,x.2.num,x.2.den⟩
theorem SumQ.poly{K:tV}{H:Hp}{p:Addr}{aa:Nat}{P:Pl}(h:SumQ K H p aa P):Poly H p aa (tmP P):=by
 obtain⟨q,xs,e1,e2,pr⟩:=h.ex;refine⟨q,xs,e1,e2, ?_⟩;have:∀{xs:List V} {P:Pl},Paired (TmQ K H) xs P->Paired (TrmV H) xs (tmP P):=fun {xs P} h=>by
  induction h with
  | nil=>exact .nil
  | cons h _ ih=>
   obtain⟨r,b,c,rfl,r1,r2,pc,e,r3⟩:=h;cases e;exact .cons ⟨r,b,c,rfl,r1,r2,r3⟩ ih
 exact this pr
theorem SE:∀{a b:List Int},a.length=b.length->a≠b->LwD.lexI a b=true∨LwD.lexI b a=true
 | [],[],_,h=>absurd rfl h
 | [],_::_,h,_=>by simp at h
 | _::_,[],h,_=>by simp at h
 | x::a,y::b,h,n=>by
  unfold LwD.lexI;by_cases e:x=y
  ·rw[tU e,tU e.symm];exact SE (by simpa using h) λz=>n (by rw[e,z])
  ·rw[tT e,tT (Ne.symm e)];rcases Int.lt_or_gt_of_ne e with l | l
   ·exact .inl (nG l)
   ·exact .inr (nG l)
theorem SmB.good{K:tV}{H:Hp}{p:Addr}{aa:Nat}{P:Pl}{g s n l:Nat}(h:SmB K H p aa P g s n l)(hs:s<680)(hn:n<782):Good aa (tmP P):=by
 obtain⟨D,p0,p1,v⟩:=h.b.ex;have ln:(tmP P).length=P.length:=by unfold tmP;rw[mY]
 refine⟨λx hx=>?_,by rw[ln];exact h.o.few,h.o.m1,h.o.m4, ?_⟩
 ·obtain⟨y,hy,rfl⟩:=nY.mp hx;have z:=(v y hy).sz p0 p1 (k:=782) hn #[1];have z2:y.2.den<2^680:=by
   have q:=((v y hy).dn p0 (mW _)).1;have:=Int.natAbs_dvd_natAbs.mpr q;rw[mC]at this;exact gZ (nW (Nat.le_of_dvd #[1] this) p1) (gU #[0] hs)
  refine⟨h.o.len y hy,h.o.nn y hy,h.o.deg y hy,(kU y.2).1,(kU y.2).2,λe=>h.o.nz y hy (Rat.num_eq_zero.mp e),z.1, ?_⟩;show((y.2.den:Int)).natAbs<_;rw[mC];exact z2
 ·unfold tmP;rw[List.pairwise_map];refine List.Pairwise.imp_of_mem (fun {a b} ha hb k=>?_) (List.pairwise_map.mp h.o.ord);show LwD.lexI a.1 b.1=true;rcases SE (a:=a.1) (b:=b.1) (by rw[h.o.len a ha,h.o.len b hb]) (λe=>by rw[e]at k;exact Int.lt_irrefl _ k)with q | q
  ·exact q
  ·have:=OD q (by rw[h.o.len a ha,h.o.len b hb]) (h.o.byt hb) (h.o.byt ha);omega
section
variable{K:tV}{H:Hp}{Q:VK}{p q:Addr}{aa:Nat}{P1 P2:Pl}
theorem sNe(h1:SumQ K H p aa P1)(h2:SumQ K H q aa P2)(e:P1=P2)(go:Q (.bl false) H):rNeD (.ref p) (.ref q) H Q:=by
 subst e;refine⟨_,_,h1.poly.dec,h2.poly.dec,wM _ _,wM _ _, ?_⟩;rw[SeqAt.eqv_refl _ (wM _ _).1];exact go
end
theorem KQ{aa l:Nat}(o1:PlOk aa P1)(o2:PlOk aa P2)(hl:l<aa)(hd:qK P1+qK P2<=16)(hA:SumT aa (slT P1 l) A)(hB:SumT aa (slT P2 l) B)(dA:qK A+qK P2<=16)(dB:qK P1+qK B<=16)(hX:SumT aa (vH (jL A) (jL P2)) X)(hY:SumT aa (vH (jL P1) (jL B)) Y)(oS:PlOk aa S)(hS:∀ns:List Int,ns.length=aa->Byt ns->cf S ns=cf X ns+cf Y ns)(hT:SumT aa (vH (jL P1) (jL P2)) T)(hU:SumT aa (slT T l) U):U=S:=by
 refine el_ext hU.ok oS fun μ=>?_;rw[JU hX.ok hY.ok oS hS,yY hT.ok hl hU,AO o1 o2 hd hT,NL o1 o2 hl,AO hA.ok o2 dA hX,yY o1 hl hA,AO o1 hB.ok dB hY]
 congr 1
 exact qI λx _=>(yY o2 hl hB _).symm
theorem NM{aa l:Nat}(o1:PlOk aa P1)(o2:PlOk aa P2)(hl:l<aa)(hA:SumT aa (slT P1 l) A)(hB:SumT aa (slT P2 l) B)(oS:PlOk aa S)(hS:∀ns:List Int,ns.length=aa->Byt ns->cf S ns=cf A ns+cf B ns)(oT:PlOk aa T)(hT:∀ns:List Int,ns.length=aa->Byt ns->cf T ns=cf P1 ns+cf P2 ns)(hU:SumT aa (slT T l) U):U=S:=by
 refine el_ext hU.ok oS fun μ=>?_;rw[JU hA.ok hB.ok oS hS,yY oT hl hU,JU o1 o2 oT hT,yY o1 hl hA,yY o2 hl hB]
def XN(K:tV):Sp:=λvs H Q _=>∃(p1 p2:Addr) (aa:Nat) (P1 P2:Pl),vs=[.ref p1,.ref p2]/\SmB K H p1 aa P1 4 56 100 4/\SmB K H p2 aa P2 4 56 100 4/\∀H',Same H H'->Q (.bl true) H'
inductive SlJ(H:Hp)(p1 p2:Addr)(i:Nat):L2.St->Hp->Prop where
 | mk {u v:Option V} {H':Hp} (s:Same H H'):SlJ H p1 p2 i [some (.ref p1),some (.ref p2),u,v] H'
theorem scSlR:FnScope ["one","other","letter","due"] ["one","other"] (jJ sSlR):=scK #[3]
theorem ok_slR(F:Fun K "_law_slopes_right" "_law_slopes_right" sSlR f fd)(T:Txt mg)
 (GP:DG P w K mg base 4 "plus" BG ["one","other"] (uP K))
 (GT:DG P w K mg base 6 "times" BE ["one","other"] (uM K))
 (GO:DG P w K mg base 3 "slope" DX ["one","letter"] (CC K)):FnOk P w K mg base CX0 7 f fd ["one","other"] (XN K):=by
 refine F.ok scSlR #[8] #[2]
 ·obtain⟨p1,p2,aa,P1,P2,rfl,_⟩:=h
  rfl
 ·obtain⟨p1,p2,aa,P1,P2,rfl,h1,h2,go⟩:=h;have hu:_+64<cLine:=hr.units;have hr3:Room 3 _:=hr.mono #[0];have hr4:Room 4 _:=hr.mono #[0];have hr6:Room 6 _:=hr.mono #[0];refine⟨_,jC (kZ PassesOwn.never rfl (qZ (by rfl) T.rng (jA #[10] jB)) (jG (i:=2) scSlR.nd rfl #[5]) (jC (jN (i:=3) scSlR.nd rfl #[5] (cal GP hr4 (jA (cal GT hr6 (jA (cal GO hr3 (jA (pv 0) (jA (pv 2) jB))) (jA (pv 1) jB))) (jA (cal GT hr6 (jA (pv 0) (jA (cal GO hr3 (jA (pv 1) (jA (pv 2) jB))) jB))) jB)))) (jC (kE (jO (EM hu) (cal GO hr3 (jA (cal GT hr6 (jA (pv 0) (jA (pv 1) jB))) (jA (pv 2) jB))) (pv 3) (jS _)) (jF (kP)) jR) (jF (kE (jO (EM hu) (cal GO hr3 (jA (cal GP hr4 (jA (pv 0) (jA (pv 1) jB))) (jA (pv 2) jB))) (cal GP hr4 (jA (cal GO hr3 (jA (pv 0) (jA (pv 2) jB))) (jA (cal GO hr3 (jA (pv 1) (jA (pv 2) jB))) jB))) (jS _)) (jF (kP)) jR))))) (jF (jP zV)), ?_⟩;try dsimp only[cxK]
  obtain⟨q,xs,e1,_,_⟩:=h1.q.ex;have m4:=h1.o.m4;have dq:qK P1+qK P2<=16:=by have:=h1.dq;have:=h2.dq;omega
  refine⟨_,rfl,p1,_,_,_,rfl,rfl,SqT.of e1,rfl,aa,rfl,by omega,by omega,vZ (n:=aa) (SlJ H p1 p2) (.mk (Same.refl _)) (λi σ H1 hi h=>?_) (fun σ H1 h=>?_)⟩
  ·obtain⟨s1⟩:=h;rw[Int.zero_add];have hi':i<aa:=by omega
   refine⟨_,rfl,_,rfl, ?_⟩;dsimp only[tNil];refine uF (h1.same s1) hi' #[0] λpA PA H2 n2 s2 bA cA=>?_;have s02:=s1.trans s2;refine⟨_,rfl, ?_⟩;dsimp only[tNil];refine FE bA (h2.same s02) #[0] 2 #[0] #[0] #[0] λpX PX H3 n3 s3 bX cX=>?_;have s03:=s02.trans s3;refine⟨_,rfl,_,rfl,_,rfl, ?_⟩;dsimp only[tNil];refine uF (h2.same s03) hi' #[0] λpB PB H4 n4 s4 bB cB=>?_;have s04:=s03.trans s4;refine FE (h1.same s04) bB #[0] 2 #[0] #[0] #[0] λpY PY H5 n5 s5 bY cY=>?_;have s05:=s04.trans s5;refine MQ (bX.same (s4.trans s5)) bY 318 #[0] #[0] #[0] λpS PS H6 n6 s6 bS cS=>?_;have s06:=s05.trans s6;dsimp only[jV];refine⟨_,rfl,_,rfl, ?_⟩;dsimp only[tNil];refine FE (h1.same s06) (h2.same s06) #[0] 2 #[0] #[0] #[0] λpT PT H7 n7 s7 bT cT=>?_;have s07:=s06.trans s7;refine⟨_,rfl, ?_⟩;dsimp only[tNil];refine uF bT hi' #[0] λpU PU H8 n8 s8 bU cU=>?_;have s08:=s07.trans s8;refine⟨_,rfl,sNe bU.q (bS.same (s7.trans s8)).q (KQ h1.o h2.o hi' dq cA cB (by have:=bA.dq;have:=h2.dq;omega) (by have:=bB.dq;have:=h1.dq;omega) cX cY bS.o cS cT cU) ⟨_,rfl,qT rfl ?_⟩⟩;refine⟨_,rfl,_,rfl, ?_⟩;dsimp only[tNil];refine MQ (h1.same s08) (h2.same s08) 156 #[0] #[0] #[0] λpV PV H9 n9 s9 bV cV=>?_;have s09:=s08.trans s9;refine⟨_,rfl, ?_⟩;dsimp only[tNil];refine uF bV hi' #[0] λpW PW H10 n10 s10 bW cW=>?_
   have s0a:=s09.trans s10;refine⟨_,rfl,_,rfl, ?_⟩;dsimp only[tNil];refine uF (h1.same s0a) hi' #[0] λpC PC H11 n11 s11 bC cC=>?_;have s0b:=s0a.trans s11;refine⟨_,rfl,_,rfl, ?_⟩;dsimp only[tNil];refine uF (h2.same s0b) hi' #[0] λpD PD H12 n12 s12 bD cD=>?_;have s0c:=s0b.trans s12;refine MQ (bC.same s12) bD 160 #[0] #[0] #[0] λpE PE H13 n13 s13 bE cE=>?_;refine sNe (bW.same (s11.trans (s12.trans s13))).q bE.q (NM h1.o h2.o hi' cC cD bE.o cE bV.o cV cW) ⟨_,rfl,qT rfl ?_⟩;exact .mk (s0c.trans s13)
  ·obtain⟨s1⟩:=h;exact go H1 s1
theorem cut63(ns:List Int):∃ms:List Int,xK #[15] none (some 63)=ms.map V.int/\ms.length<=63:=by
 refine⟨(ns.drop (HT.sIx #[15].length 0 none)).take (HT.sIx #[15].length #[15].length (some 63)-HT.sIx #[15].length 0 none), ?_, ?_⟩
 ·unfold xK;rw[<-List.map_drop,<-List.map_take]
 ·rw[mP];have:HT.sIx #[15].length #[15].length (some 63)<=63:=by
   have:=HT.sIx_nat #[15].length #[15].length 63;rw[show((63:Nat):Int)=63 from rfl]at this;rw[this];exact Nat.min_le_left _ _
  omega
section
variable{X:Cx}
theorem ZE:OpR X (compareOp .IsNot) (λx y H Q=>x=.bl true/\y=.bl true/\Q (.bl false) H):=by
 intro ac s σ H x y v u Q I rx ry h;obtain⟨rfl,rfl,q⟩:=h;cases rx;cases ry;exact wpAny_isNot_self rfl (kM I q rfl)
end
theorem w1:∀a:Fin 5,(a.val+1)*1<=12:=by decide +kernel
theorem w2:∀a b:Fin 5,a.val+b.val<=4->(a.val+1)*((b.val+1)*1)<=12:=by decide +kernel
theorem w3:∀a b c:Fin 5,a.val+b.val+c.val<=4->(a.val+1)*((b.val+1)*((c.val+1)*1))<=12:=by decide +kernel
theorem w4:∀a b c d:Fin 5,a.val+b.val+c.val+d.val<=4->(a.val+1)*((b.val+1)*((c.val+1)*((d.val+1)*1)))<=12∨(a.val=1/\b.val=1/\c.val=1/\d.val=1):=by decide +kernel
theorem wt_one{aa:Nat}{ns:List Int}(h1:1<=aa)(h4:aa<=4)(hl:ns.length=aa)(nn:∀n∈ns,0<=n)(dg:ns.sum<=4):wt aa 0 ns<=12∨(ns=[1,1,1,1]/\wt aa 0 ns<=16):=by
 match aa,ns,hl,h1,h4 with
 | 1,[a],_,_,_=>
  have a0:=nn a #[14];simp only[nT,List.sum_nil]at dg;exact .inl (w1 ⟨a.toNat,by omega⟩)
 | 2,[a,b],_,_,_=>
  have a0:=nn a #[14];have b0:=nn b #[14];simp only[nT,List.sum_nil]at dg;exact .inl (w2 ⟨a.toNat,by omega⟩ ⟨b.toNat,by omega⟩ (by show a.toNat+b.toNat<=4;omega))
 | 3,[a,b,c],_,_,_=>
  have a0:=nn a #[14];have b0:=nn b #[14];have c0:=nn c #[14];simp only[nT,List.sum_nil]at dg;exact .inl (w3 ⟨a.toNat,by omega⟩ ⟨b.toNat,by omega⟩ ⟨c.toNat,by omega⟩ (by show a.toNat+b.toNat+c.toNat<=4;omega))
 | 4,[a,b,c,d],_,_,_=>
  have a0:=nn a #[14];have b0:=nn b #[14];have c0:=nn c #[14];have d0:=nn d #[14];simp only[nT,List.sum_nil]at dg;rcases w4 ⟨a.toNat,by omega⟩ ⟨b.toNat,by omega⟩ ⟨c.toNat,by omega⟩ ⟨d.toNat,by omega⟩ (by show a.toNat+b.toNat+c.toNat+d.toNat<=4;omega)with h | h
  ·exact .inl h
  ·have h:a.toNat=1/\b.toNat=1/\c.toNat=1/\d.toNat=1:=h;have e1:a=1:=by omega
   have e2:b=1:=by omega
   have e3:c=1:=by omega
   have e4:d=1:=by omega
   subst e1 e2 e3 e4;exact .inr ⟨rfl,by decide⟩
theorem sum12{f:List Int×Rat->Nat} :∀{P:Pl},(∀x∈P,f x<=12)->(P.map f).sum<=12*P.length
 | [],_=>tK _
 | x::P,h=>by
  have:=sum12 (P:=P) λy hy=>h y (gS _ hy);have:=h x (mD ..);rw[nO,nT,mS];omega
theorem sum16{f:List Int×Rat->Nat}{k:List Int} :∀{P:Pl},(∀x∈P,f x<=12∨(x.1=k/\f x<=16))->(P.map (·.1)).Nodup->(P.map f).sum<=12*P.length+4
 | [],_,_=>tL _
 | x::P,h,nd=>by
  rw[nO,List.nodup_cons]at nd;rw[nO,nT,mS];rcases h x (mD ..)with c | ⟨e,c⟩
  ·have:=sum16 (P:=P) (λy hy=>h y (gS _ hy)) nd.2;omega
  ·have:=sum12 (f:=f) (P:=P) λy hy=>(h y (gS _ hy)).resolve_right λz=>nd.1 (by rw[e,<-z.1];exact List.mem_map_of_mem hy);omega
theorem wt_all{aa:Nat}{P:Pl}(o:PlOk aa P)(dg:∀x∈P,x.1.sum<=(4:Nat))(l:P.length<=4):(P.map λx=>wt aa 0 x.1).sum<=60:=by
 have:=sum16 (f:=λx=>wt aa 0 x.1) (k:=[1,1,1,1]) (P:=P) (λx hx=>wt_one o.m1 o.m4 (o.len x hx) (o.nn x hx) (dg x hx)) o.ndn;omega
theorem fr_num{t b:Int}(f:FrS t b)(h:At2 H r t b):NumH H (.ref r) (fv t b)/\Ov b 40 (fv t b)/\0<b/\b.natAbs<=2^14:=by
 have n:=ZX f.pos f.low;refine⟨⟨r,rfl, ?_⟩,⟨t,rfl,tH f.st⟩,f.pos,tH f.sb⟩;rw[n.1,n.2];exact h
theorem TmQ.kq(k:Kq H H'){x:List Int×Rat}(h:TmQ K H v x):TmQ K H' v x:=let ⟨r,b,c,e1,e2,e3,pz,e4,e5⟩:=h;⟨r,b,c,e1,k.tup _ _ e2,k.tup _ _ e3,pz,e4,k.tup _ _ e5⟩
theorem SumQ.kq{K:tV}{H H':Hp}{p:Addr}{aa:Nat}{P:Pl}(h:SumQ K H p aa P)(k:Kq H H'):SumQ K H' p aa P:=by
 obtain⟨q,xs,e1,e2,e3⟩:=h.ex;exact⟨q,xs,k.tup _ _ e1,k.tup _ _ e2,Paired.to (λ_ _ h=>h.kq k) e3⟩
theorem SmB.kq{K:tV}{H H':Hp}{p:Addr}{aa:Nat}{P:Pl}{g s n l:Nat}(h:SmB K H p aa P g s n l)(k:Kq H H'):SmB K H' p aa P g s n l:=⟨h.q.kq k,h.o,h.b,h.d,h.l⟩
theorem NumH.kq{x:Rat}(h:NumH H v x)(k:Kq H H'):NumH H' v x:=let ⟨p,e,q⟩:=h;⟨p,e,k.tup _ _ q⟩
theorem PlZ.smb{K:tV}{H:Hp}{p:Addr}{aa:Nat}{P:Pl}(q:SumQ K H p aa P)(o:PlOk aa P)(z:PlZ (zS 4 4) P):SmB K H p aa P 4 56 100 4:=⟨q,o,⟨z.ex⟩,z.dg,z.ln⟩
theorem LwH.kq{aa:Nat}{ps:List Addr}{D1 D2:Int}(h:LwH K H p1 p2 oa aa P1 P2 ps Qs D1 D2)(k:Kq H H')(e:H' oa=some (.lst (ps.map V.ref))):LwH K H' p1 p2 oa aa P1 P2 ps Qs D1 D2:=
 ⟨⟨h.put.q1.kq k,h.put.o1,h.put.st,e,Paired.to (λ_ _ q=>q.kq k) h.put.pq,h.put.lp,h.put.qo,h.put.p1,h.put.p2,h.put.b1,h.put.b2,h.put.wb⟩,h.a.kq k,h.b.kq k⟩
structure OtI(K:tV)(cl tp l:Addr)(aa:Nat)(H1:Hp)(i:Nat)(ys:List V)(H2:Hp):Prop where
 b:But tp H1 H2
 t:Tape cl H2 tp (101+50*i)
 e:H2 l=some (.lst ys)
 x:∃(ps:List Addr) (Qs:List Pl) (D:Int),ys=ps.map V.ref/\ps.length=i/\Paired (λa Q=>SumQ K H2 a aa Q) ps Qs/\0<D/\D.natAbs<=2^(28*i)/\∀Q∈Qs,PlOk aa Q/\Q.length<=2/\(∀x∈Q,x.1.sum<=(2:Nat))/\∀x∈Q,Ov D (42+28*i) x.2
structure SptI(cl tp l:Addr)(B:Int)(H1:Hp)(i:Nat)(ys:List V)(H2:Hp):Prop where
 b:But tp H1 H2
 t:Tape cl H2 tp (B+6*i)
 e:H2 l=some (.lst ys)
 x:∃(S:List Rat) (D:Int),Paired (NumH H2) ys S/\S.length=i/\0<D/\D.natAbs<=2^(14*i)/\∀r∈S,Ov D (40+14*i) r
theorem Paired.snocQ{α β:Type}{F:α->β->Prop}{a:List α}{c:List β}{x:α}{y:β}(h:Paired F a c)(k:F x y):Paired F (a++[x]) (c++[y]):=Paired.app h (.cons k .nil)
inductive LaI(K:tV)(a cl tp p1 p2 oa pn:Addr)(aa:Nat)(P1 P2:Pl)(ps:List Addr)(Qs:List Pl)(D1 D2:Int)(y:Rat)(i:Nat):L2.St->Hp->Prop where
 | mk {u7 u8:Option V} {H:Hp} (t:Tape cl H tp (307+24*i)) (h:LwH K H p1 p2 oa aa P1 P2 ps Qs D1 D2) (n:NumH H (.ref pn) y):LaI K a cl tp p1 p2 oa pn aa P1 P2 ps Qs D1 D2 y i [some (.ref a),some (.ref tp),some (.int aa),some (.ref p1),some (.ref p2),some (.ref oa),some (.ref pn),u7,u8,none,none,none] H
def TlO(K:tV)(H:Hp)(aa:Nat)(v:V):Prop:=∃(p:Addr) (P:Pl),v=.ref p/\SumQ K H p aa P/\Good aa (tmP P)
theorem TlO.same{aa:Nat}(h:TlO K H aa v)(s:Same H H'):TlO K H' aa v:=let ⟨p,P,e,q,g⟩:=h;⟨p,P,e,q.same s,g⟩
theorem SmB.tlo{K:tV}{H:Hp}{p:Addr}{aa:Nat}{P:Pl}{g s n l:Nat}(h:SmB K H p aa P g s n l)(hs:s<680)(hn:n<782):TlO K H aa (.ref p):=⟨p,P,rfl,h.q,h.good hs hn⟩
theorem UE{aa:Nat}{ts:List LwS.Trm}(h:∀x∈ts,LwS.TmOk aa x)(hm:aa<=4)(h7:ts.length<=60):(LwS.stx ts).length<=28320:=by
 unfold LwS.stx;split
 ·show 1<=28320;decide
 ·rename_i x r;have h1:=StrLaws.join_length_le ⟨#[32,43,32]⟩ ((x::r).reverse.map LwS.ttx);have h2:=LwS.sum_le (l:=(x::r).reverse.map LwS.ttx) (B:=469) λy hy=>by
   obtain⟨z,hz,rfl⟩:=nY.mp hy;exact LwS.ttx_len (h z (List.mem_reverse.mp hz)) hm
  have e:(⟨#[32,43,32]⟩:Str).length=3:=rfl;rw[e]at h1;rw[mY,List.length_reverse]at h1 h2;exact nW h1 #[1]
inductive MaI(H:Hp)(σ:L2.St)(i:Nat):L2.St->Hp->Prop where
 | mk {u v:Option V} {H':Hp} (s:Same H H'):MaI H σ i (σ++[u,v]) H'
theorem KR(J:L2.St->Hp->Prop)(h:∀TT:TS,(∀σ H,J σ H->TT D σ H)->vM A1 TT D σ H)(tl:∀σ H,J σ H->R D σ H):vM A1 R D σ H:=h R tl
theorem XV(J:L2.St->Hp->Prop)(h:∀TT:TS,(∀σ H,J σ H->TT D σ H)->vM A1 (vM A2 (vM A3 (vM A4 (vM A5 (vM A6 TT))))) D σ H)(tl:∀σ H,J σ H->R D σ H):vM A1 (vM A2 (vM A3 (vM A4 (vM A5 (vM A6 R))))) D σ H:=h R tl
structure NbO(b:Int)(y:Rat)(aa:Nat):Prop where
 bp:0<b
 bb:b.natAbs<=2^14
 ov:Ov b 40 y
 m1:1<=aa
 m4:aa<=4
inductive JA(K:tV)(a:Addr):L2.St->Hp->Prop where
 | mk {cl tp p1 p2 l pn:Addr} {aa:Nat} {P1 P2:Pl} {ps:List Addr} {Qs:List Pl} {D1 D2 b:Int} {y:Rat} {H:Hp} (t:Tape cl H tp 307) (h:LwH K H p1 p2 l aa P1 P2 ps Qs D1 D2) (n:NumH H (.ref pn) y) (o:NbO b y aa) (lo:l≠tp):JA K a [some (.ref a),some (.ref tp),some (.int aa),some (.ref p1),some (.ref p2),some (.ref l),some (.ref pn),none,none,none,none,none] H
inductive JB(K:tV):L2.St->Hp->Prop where
 | mk {v0 v1 u7 u8:Option V} {p1 p2 l pn:Addr} {aa:Nat} {P1 P2:Pl} {ps:List Addr} {Qs:List Pl} {D1 D2 b:Int} {y:Rat} {H:Hp} (h:LwH K H p1 p2 l aa P1 P2 ps Qs D1 D2) (n:NumH H (.ref pn) y) (o:NbO b y aa):JB K [v0,v1,some (.int aa),some (.ref p1),some (.ref p2),some (.ref l),some (.ref pn),u7,u8,none,none,none] H
inductive JC(K:tV):L2.St->Hp->Prop where
 | mk {v0 v1 v5 v6 u7 u8 u10 u11:Option V} {p1 p2 tl t2:Addr} {x1 x3 x4 x5:V} {aa:Nat} {P1 P2 R2:Pl} {H:Hp} (a:SmB K H p1 aa P1 4 56 100 4) (b:SmB K H p2 aa P2 4 56 100 4) (e:H tl=some (.lst [x1,.ref t2,x3,x4,x5])) (told:∀v∈[x1,V.ref t2,x3,x4,x5],TlO K H aa v) (q:SumQ K H t2 aa R2) (c:SumT aa (vH (jL P1) (jL P2)) R2):JC K [v0,v1,some (.int aa),some (.ref p1),some (.ref p2),v5,v6,u7,u8,some (.ref tl),u10,u11] H
theorem scLaw:FnScope ["script","tape","many","one","other","others","number","turn","spot","told","made","text"] ["script"] (jJ NO):=scK #[3]
theorem ok_law(F:Fun K "law" "law" NO f fd)(T:Txt mg)
 (GD:DG P w K mg base 1 "_law_draw" GB ["tape","many"] spDraw)
 (GS:DG P w K mg base 2 "_law_sum" QP ["many","one"] (XO K))
 (GM:DG P w K mg base 3 "_law_small" IL ["tape","many","most","deep"] spSmall)
 (GN:DG P w K mg base 2 "_law_number" uU ["tape"] (IF 6 (2^38)))
 (GW:DG P w K mg base 12 "_law_worths_right" sWoR ["one","other","others","spot","number"] (spWoR K))
 (GP:DG P w K mg base 4 "plus" BG ["one","other"] (uP K))
 (GT:DG P w K mg base 6 "times" BE ["one","other"] (uM K))
 (GC:DG P w K mg base 3 "scaled" uS ["one","number"] (uO K))
 (GU:DG P w K mg base 11 "put_in" EA ["one","others"] (CD K))
 (GO:DG P w K mg base 3 "slope" DX ["one","letter"] (CC K))
 (GH:DG P w K mg base 3 "shown" DY ["one"] spShown)
 (GI:DG P w K mg base 5 "is_sum" XX ["thing"] spSum)
 (GR:DG P w K mg base 6 "read" QL ["text","many"] spRead)
 (GG:DG P w K mg base 1 "degree" zC ["one"] (DU K))
 (GL:DG P w K mg base 7 "_law_slopes_right" sSlR ["one","other"] (XN K)):FnOk P w K mg base CX0 13 f fd ["script"] (QC K):=by
 refine F.ok scLaw #[8] #[2]
 ·obtain⟨a,ns,rfl,_⟩:=h
  rfl
 ·obtain⟨a,ns,rfl,hS,hlen,go⟩:=h;have hu:_+64<cLine:=hr.units;have hr1:Room 1 _:=hr.mono #[0];have hr2:Room 2 _:=hr.mono #[0];have hr3:Room 3 _:=hr.mono #[0];have hr4:Room 4 _:=hr.mono #[0];have hr5:Room 5 _:=hr.mono #[0];have hr6:Room 6 _:=hr.mono #[0];have hr7:Room 7 _:=hr.mono #[0];have hr11:Room 11 _:=hr.mono #[0];have hr12:Room 12 _:=hr.mono #[0];refine⟨_,jC (jN (i:=1) scLaw.nd rfl (Or.inr rfl) (xQ (jA (qE OQ (by rfl) T.lst boot_list (jA (yA XT (pv 0) zD (xB jD)) jB)) (jA jD (jA jD (jA jD jB)))))) (jC (qP (jM qF jD (cal GD hr1 (jA (pv 1) (jA jD jB)))) (jG (i:=2) scLaw.nd rfl (Or.inr rfl))) (jC (jN (i:=3) scLaw.nd rfl #[5] (cal GS hr2 (jA (pv 2) (jA (cal GM hr3 (jA (pv 1) (jA (pv 2) (jA jD (jA jD jB))))) jB)))) (jC (jN (i:=4) scLaw.nd rfl #[5] (cal GS hr2 (jA (pv 2) (jA (cal GM hr3 (jA (pv 1) (jA (pv 2) (jA jD (jA jD jB))))) jB)))) (jC (xX (i:=5) scLaw.nd rfl #[5] (own:=1) (idx:=[2,1]) (N:=["k","many","tape"]) rfl rfl rfl #[3] #[3] (zQ (by intro y hy;simp only[nP,mQ,or_false]at hy;rcases hy with rfl | rfl<;>rfl)) (qU rfl) rfl (PF rfl rfl ⟨rfl,rfl,rfl,rfl⟩ ⟨rfl,rfl,rfl,rfl⟩) (qZ (by rfl) T.rng (jA (pv 2) jB)) (λC fp s2 H2=>(jG (i:=0) (show List.Nodup (["k","many","tape"]:List Str) by decide +kernel) rfl #[5] (Or.inr rfl))) (λC fp s2 H2=>cal GS hr2 (jA (pv 1) (jA (cal GM hr3 (jA (pv 2) (jA (pv 1) (jA jD (jA jD jB))))) jB)))) (jC (jN (i:=6) scLaw.nd rfl #[5] (cal GN hr2 (jA (pv 1) jB))) (jC (kZ PassesOwn.never rfl (qZ (by rfl) T.rng (jA jD jB)) (jG (i:=7) scLaw.nd rfl #[5]) (jC (jN (i:=8) scLaw.nd rfl #[5] (qE qC (by rfl) T.tup boot_tuple (jA (vQ (own:=1) (idx:=[1]) (N:=["k","tape"]) rfl rfl rfl #[3] #[3] (zQ (by intro y hy;simp only[nP,mQ,or_false]at hy;rcases hy with rfl;rfl)) (qU rfl) rfl (yL rfl ⟨rfl,rfl,rfl,rfl⟩) (qZ (by rfl) T.rng (jA (pv 2) jB)) (λC fp s2 H2=>(jG (i:=0) (show List.Nodup (["k","tape"]:List Str) by decide +kernel) rfl #[5] (Or.inr rfl))) (λC fp s2 H2=>cal GN hr2 (jA (pv 1) jB))) jB))) (jF (kE (vW (vP (cal GW hr12 (jA (pv 3) (jA (pv 4) (jA (pv 5) (jA (pv 8) (jA (pv 6) jB)))))))) (jF (kP)) jR)))) (jC (jN (i:=9) scLaw.nd rfl #[5] (xQ (jA (cal GP hr4 (jA (pv 3) (jA (pv 4) jB))) (jA (cal GT hr6 (jA (pv 3) (jA (pv 4) jB))) (jA (cal GC hr3 (jA (pv 3) (jA (pv 6) jB))) (jA (cal GU hr11 (jA (pv 3) (jA (pv 5) jB))) (jA (cal GO hr3 (jA (pv 3) (jA jD jB))) jB))))))) (jC (kZ PassesOwn.never rfl (xC (pv 9)) (jG (i:=10) scLaw.nd rfl #[5]) (jC (jN (i:=11) scLaw.nd rfl #[5] (cal GH hr3 (jA (pv 10) jB))) (jF (kE (PW.pt (zM (jO ZE (cal GI hr5 (jA (pv 10) jB)) zV (jS _)) (xW (PW.pt (NQ (jO op_le (kF AT (by rfl) T.len PySem.boot_len (jA (pv 11) jB)) jD (jS _)) (QU (jO (EM hu) (cal GR hr6 (jA (pv 11) (jA (pv 2) jB))) (pv 10) (jS _)))))))) (jF (kP)) jR)))) (jC (kE (PW.pt (NQ (jO (EM hu) (jU jX (pv 3) jD (λ_ _=>rfl)) (kC jB) (jS _)) (NQ (jO (EM hu) (jU jX (pv 4) jD (λ_ _=>rfl)) (kC jB) (jS _)) (QU (jO AD (cal GG hr1 (jA (jU kX (pv 9) jD (λ_ _=>rfl)) jB)) (jM qF (cal GG hr1 (jA (pv 3) jB)) (cal GG hr1 (jA (pv 4) jB))) (jS _)))))) (jF (kP)) jR) (jF (jP (cal GL hr7 (jA (pv 3) (jA (pv 4) jB)))))))))))))), ?_⟩
  try dsimp only[cxK]
  refine XV (JA K a) (λTT hTT=>?_) ?_;obtain⟨cs,em,hm⟩:=cut63 ns;have p30:(10000:Int)<2^30:=by decide
  have p38:(10000:Int)<2^38:=by decide
  have p40:(10000:Int)<2^40:=by decide
  refine⟨_,rfl,_,rfl,a,_,rfl,hS,λp1 H1 n1 s1 e1=>?_⟩;refine⟨p1,_,rfl,.inl (SqL.of e1),λcl H2 n2 s2 e2=>⟨(by show 4<=sizeLine;decide),λtp H3 n3 s3 e3=>?_⟩⟩;have T3:Tape cl H3 tp 0:=⟨cs,0,0,0,e3,by rw[s3 _ _ e2,em],hm,by decide,by decide⟩;dsimp only[jV];refine dDraw rfl T3 #[1] #[0] #[0] λc H4 c0 c1 T4 b4=>⟨_,_,rfl,rfl, ?_⟩;obtain⟨n,rfl⟩:=gI c0;have eL:(1:Int)+(n:Int)=((n+1:Nat):Int):=by omega
  have m1:1<=n+1:=by omega
  have m4:n+1<=4:=by omega
  dsimp only[jV];rw[eL];generalize n+1=aa at m1 m4;clear p1 H1 n1 s1 e1 H2 n2 s2 e2 n3 s3 e3 T3 b4 H3 eL;refine⟨_,rfl,_,rfl,_,rfl,tp,aa,4,4,_,rfl,m1,m4,by decide,by decide,cl,T4,by omega,λd5 E5 H5 n5 b5 T5 e5 db5=>?_⟩;refine⟨d5,aa,_,E5,rfl,e5,db5,m1,m4,by decide,by decide,by decide,λp1 P1 H6 n6 s6 q6 o1 z1=>?_⟩;have T6:=T5.mono s6 (tP _);have B1:=z1.smb q6 o1;dsimp only[jV];refine⟨_,rfl,_,rfl,_,rfl,tp,aa,4,4,_,rfl,m1,m4,by decide,by decide,cl,T6,by omega,λd7 E7 H7 n7 b7 T7 e7 db7=>?_⟩;refine⟨d7,aa,_,E7,rfl,e7,db7,m1,m4,by decide,by decide,by decide,λp2 P2 H8 n8 s8 q8 o2 z2=>?_⟩;have T8:=T7.mono s8 (tP _);have B2:=z2.smb q8 o2;have B18:=B1.kq ((Kq.butT b7 T6).trans (Kq.of s8));clear B1 q6 q8 e5 db5 e7 db7 T4 T5 T6 T7;dsimp only[jV];refine⟨_,rfl,aa,rfl,by omega,by omega,λl H9 n9 s9 e9=>?_⟩;have lo:=T8.off n9;refine wJ (n:=aa) (OtI K cl tp l aa H8) (by rw[sizeLine_eq];omega) ⟨But.of s9,T8.mono s9 #[1],e9,[],[],1,rfl,rfl,.nil,by decide,tK _,λ_ h=>nomatch h⟩ (λi ys H10 h=>h.e) ?_ ?_
  ·rintro i m ys x H10 hx hmm hy ⟨b10,T10,e10,ps,Qs,D,rfl,lp,pq,D0,Db,qs⟩;have hi:=(uJ hx).2;refine⟨wE,_,rfl,_,rfl,_,rfl,tp,aa,2,2,_,rfl,m1,m4,by decide,by decide,cl,T10,by omega,λd11 E11 H11 n11 b11 T11 e11 db11=>?_⟩;refine⟨d11,aa,_,E11,rfl,e11,db11,m1,m4,by decide,by decide,by decide,λp P H12 n12 s12 q12 o z=>?_⟩;have k12:=(Kq.butT b11 T10).trans (Kq.of s12);have e12:H12 l=some (.lst (ps.map V.ref)):=s12 _ _ (b11 _ _ e10 lo.1);have ku:Kq H12 (upd H12 l (.lst (ps.map V.ref++[.ref p]))):=Kq.upd e12 trivial;obtain⟨Dq,q0,ql,qv⟩:=z.ex;refine kJ hx hmm hy e12 ⟨CV ((b10.trans b11).trans (But.of s12)) n9,(T11.mono s12 (tP _)).upd _ lo.1 lo.2 #[1],jE,ps++[p],Qs++[P],D*Dq,by rw[mZ];rfl,by rw[hJ,lp];rfl, ?_,tM D0 q0, ?_,λQ hQ=>?_⟩
   ·exact Paired.snocQ (Paired.to (λ_ _ h=>(h.kq k12).kq ku) pq) (q12.kq ku)
   ·rw[nH,Nat.mul_succ,tO];exact nJ Db ql
   ·rcases nE.mp hQ with hQ | hQ
    ·obtain⟨a1,a2,a3,a4⟩:=qs Q hQ;exact⟨a1,a2,a3,λx hx=>((a4 x hx).scale D0 q0 ql).up (by show 42+28*i+28<=42+28*(i+1);omega)⟩
    ·rw[mB.mp hQ];refine⟨o,z.ln,z.dg,λx hx=>?_⟩;have:=(qv x hx).scale q0 D0 Db;rw[tJ]at this;exact this.up (by show 42+28+28*i<=42+28*(i+1);omega)
  rintro ys H10 hl ⟨b10,T10,e10,ps,Qs,D2,rfl,lp,pq,D20,D2b,qs⟩;dsimp only[jV];refine⟨_,rfl,tp,_,rfl,cl,T10,by omega,λpn t b H11 fr e11 rne T11 b11 nw=>?_⟩;obtain⟨hn,ovn,bp,bb⟩:=fr_num fr e11;have k11:=(Kq.butT b10 T8).trans (Kq.butT b11 T10);obtain⟨D1,d10,d1b,d1v⟩:=z1.ex;have LH:LwH K H11 p1 p2 l aa P1 P2 ps Qs D1 D2:=by
   refine⟨⟨(B18.kq k11).q,o1,⟨o1.len,o1.nn,λx hx=>?_,d1v⟩,b11 _ _ e10 lo.1,Paired.to (λ_ _ h=>h.kq (Kq.butT b11 T10)) pq,lp,λQ hQ=>?_,d10,D20,nW d1b (gT #[0] #[0]),nW D2b (gT #[0] #[1]),wt_all o1 z1.dg z1.ln⟩,B18.kq k11,B2.kq k11⟩
   ·rw[List.drop_zero];exact z1.dg x hx
   ·obtain⟨a1,a2,a3,a4⟩:=qs Q hQ;exact⟨a1,a2,a3,λx hx=>(a4 x hx).up #[1]⟩
  exact hTT _ _ (.mk (T11.mono (Same.refl _) #[1]) LH hn ⟨bp,bb,ovn,m1,m4⟩ lo.1);rintro _ _ ⟨T11,LH,hn,ob,lo⟩;rename_i H11 cl tp p1 p2 l pn aa P1 P2 ps Qs D1 D2 b y;obtain⟨bp,bb,ovn,m1,m4⟩:=id ob;refine KR (JB K) (λTT hTT=>?_) ?_;have p38:(10000:Int)<2^38:=by decide
  refine⟨2,rfl,by decide,by decide,vZ (n:=2) (LaI K a cl tp p1 p2 l pn aa P1 P2 ps Qs D1 D2 y) (.mk (T11.mono (Same.refl _) #[1]) LH hn) (λi σ H12 hi h=>?_) (fun σ H12 h=>by obtain⟨_,LH,hn⟩:=h;exact hTT _ _ (.mk LH hn ob))⟩
  ·obtain⟨T12,LH,hn⟩:=h;refine⟨_,rfl,aa,rfl,by omega,by omega,λl2 H13 n13 s13 e13=>?_⟩;have lo2:=T12.off n13;refine wJ (n:=aa) (SptI cl tp l2 (307+24*i) H12) (by rw[sizeLine_eq];omega) ⟨But.of s13,T12.mono s13 #[1],e13,[],1,.nil,rfl,by decide,tK _,λ_ h=>nomatch h⟩ (λi ys H10 h=>h.e) ?_ ?_
   ·rintro j m ys x H14 hx hmm hy ⟨b14,T14,e14,S,D,pS,lS,D0,Db,sv⟩;have hj:=(uJ hx).2;refine⟨wE,_,rfl,tp,_,rfl,cl,T14,by omega,λr t' b' H15 fr' e15 rne' T15 b15 nw'=>?_⟩;obtain⟨hn',ov',bp',bb'⟩:=fr_num fr' e15;have e15':H15 l2=some (.lst ys):=b15 _ _ e14 lo2.1;have ku:Kq H15 (upd H15 l2 (.lst (ys++[.ref r]))):=Kq.upd e15' trivial;have k15:=(Kq.butT b15 T14).trans ku;refine kJ hx hmm hy e15' ⟨CV (b14.trans b15) n13,T15.upd _ lo2.1 lo2.2 #[1],jE,S++[fv t' b'],D*b',Paired.snocQ (Paired.to (λ_ _ h=>h.kq k15) pS) (hn'.kq ku),by rw[hJ,lS];rfl,tM D0 bp', ?_,λr hr=>?_⟩
    ·rw[nH,Nat.mul_succ,tO];exact nJ Db bb'
    ·rcases nE.mp hr with hr | hr
     ·exact((sv r hr).scale D0 bp' bb').up (by show 40+14*j+14<=40+14*(j+1);omega)
     ·rw[mB.mp hr];have:=ov'.scale bp' D0 Db;rw[tJ]at this;exact this.up (by show 40+14*j<=40+14*(j+1);omega)
   ·rintro ys H14 hl2 ⟨b14,T14,e14,S,D,pS,lS,D0,Db,sv⟩;refine⟨l2,ys,rfl,.inl ⟨SqL.of e14,λsp nsp=>?_⟩⟩;have s15:Same H14 (upd H14 sp (.tup ys)):=jQ _ nsp;have e15:(upd H14 sp (.tup ys)) sp=some (.tup ys):=jE;generalize upd H14 sp (.tup ys)=H15 at s15 e15;have oe:l≠tp:=lo;have LH15:=(LH.kq (Kq.butT b14 T12) (b14 _ _ LH.put.eo oe)).same s15;have hn15:=(hn.kq (Kq.butT b14 T12)).same s15;dsimp only[jV];refine⟨_,rfl,_,rfl,_,rfl,_,rfl,_,rfl,p1,p2,l,sp,.ref pn,aa,P1,P2,ps,Qs,D1,D2,b,S,y,rfl,LH15,⟨ys,e15,Paired.to (λ_ _ h=>(h.same s15).k) pS⟩,⟨lS,D,D0,nW Db (gT #[0] #[1]),λr hr=>(sv r hr).up #[1]⟩,hn15.k,bp,bb,ovn,λH16 s16=>⟨_,rfl,vT ?_⟩⟩;exact .mk ((T14.mono (s15.trans s16) (tP _)).mono (Same.refl _) #[1]) (LH15.same s16) (hn15.same s16)
  ·clear LH hn ob T11;rintro _ _ ⟨LH,hn,ob⟩;rename_i H12 v0 v1 u7 u8 p1 p2 l pn aa P1 P2 ps Qs D1 D2 b y;obtain⟨bp,bb,ovn,m1,m4⟩:=ob;refine KR (JC K) (λTT hTT=>?_) ?_;refine⟨_,rfl,_,rfl, ?_⟩;dsimp only[tNil];refine MQ LH.a LH.b 156 #[0] #[0] #[0] λt1 R1 H13 m13 s13 r1 c1=>?_;refine⟨_,rfl,_,rfl, ?_⟩;dsimp only[tNil];refine FE (LH.a.same s13) (LH.b.same s13) #[0] 2 #[0] #[0] #[0] λt2 R2 H14 m14 s14 r2 c2=>?_;have s24:=s13.trans s14;refine⟨_,rfl,_,rfl, ?_⟩;dsimp only[tNil];refine TF (LH.a.same s24) (hn.same s24).k bp bb ovn #[0] λt3 R3 H15 m15 s15 r3 c3=>?_;have s25:=s24.trans s15;refine⟨_,rfl,_,rfl, ?_⟩;dsimp only[tNil];refine dPut (LH.put.same s25) λt4 R4 H16 m16 s16 r4 c4=>?_;have s26:=s25.trans s16;refine⟨_,rfl, ?_⟩;dsimp only[xM,tC,tNil];refine uF (l:=0) (LH.a.same s26) #[1] #[0] λt5 R5 H17 m17 s17 r5 c5=>?_;have s27:=s26.trans s17;refine⟨(by show 5<=sizeLine;decide),λtl H18 n18 s18 e18=>?_⟩;have s28:=s27.trans s18;have LH18:=LH.same s28;have told:∀v∈[V.ref t1,.ref t2,.ref t3,.ref t4,.ref t5],TlO K H18 aa v:=λv hv=>by
    simp only[nP,mQ,or_false]at hv;rcases hv with rfl | rfl | rfl | rfl | rfl
    ·exact(r1.same (s14.trans (s15.trans (s16.trans (s17.trans s18))))).tlo #[0] #[0]
    ·exact(r2.same (s15.trans (s16.trans (s17.trans s18)))).tlo #[0] #[0]
    ·exact(r3.same (s16.trans (s17.trans s18))).tlo #[0] #[0]
    ·exact(r4.same (s17.trans s18)).tlo #[0] #[0]
    ·exact(r5.same s18).tlo #[0] #[0]
   have b2:=r2.same (s15.trans (s16.trans (s17.trans s18)));exact hTT _ _ (.mk LH18.a LH18.b e18 told b2.q c2);rintro _ _ ⟨hA,hB,e18,told,q2,c2⟩;rename_i H18 v0 v1 v5 v6 u7 u8 u10 u11 p1 p2 tl t2 x1 x3 x4 x5 aa P1 P2 R2;have m4:=hA.o.m4;refine⟨_,rfl,tl,rfl,⟨_,SqL.of e18⟩,AL (K:=K) (a:=tl) (xs:=[x1,V.ref t2,x3,x4,x5]) (MaI H18 [v0,v1,some (.int aa),some (.ref p1),some (.ref p2),v5,v6,u7,u8,some (.ref tl)]) (.mk (u:=u10) (v:=u11) (Same.refl _)) (λi σ H19 _ h=>?_) (λi x σ H19 hx h=>?_) (fun σ H19 h=>?_)⟩
   ·obtain⟨s19⟩:=h;exact SqL.of (s19 _ _ e18)
   ·obtain⟨s19⟩:=h;obtain⟨p,R,rfl,qR,gR⟩:=(told x (gQ hx)).same s19;refine⟨_,rfl,p,aa,tmP R,rfl,qR.poly,gR,λH20 s20=>?_⟩;dsimp only[jV];refine⟨_,rfl,.ref p,_,rfl,(qR.same s20).poly.dec,QB gR,λH21 s21=>?_⟩;rw[QA gR];refine⟨rfl,rfl,_,rfl, ?_⟩;have ln:=UE gR.each gR.m4 gR.few;refine vT ⟨_,rfl,_,rfl,nW ln #[0],_,_,rfl,rfl,_,rfl, ?_⟩;refine wU (λc=>?_) (λc=>?_)
    ·have c:=mK c;refine⟨_,rfl,_,rfl,aa,tmP R,rfl,gR,by omega,λp9 H22 s22 q22=>?_⟩;have d1:=q22.dec;have d2:=((qR.same s20).same (s21.trans s22)).poly.dec;refine⟨_,rfl,_,_,d1,d2,wM _ _,wM _ _, ?_⟩;rw[SeqAt.eqv_refl _ (wM _ _).1];exact⟨_,rfl,qT rfl (.mk (u:=some _) (v:=some _) (s19.trans (s20.trans (s21.trans s22))))⟩
    ·exact vT (.mk (u:=some _) (v:=some _) (s19.trans (s20.trans s21)))
   ·obtain⟨s19⟩:=h;have hA:=hA.same s19;have hB:=hB.same s19;obtain⟨q1,xs1,f1,f2,pr1⟩:=hA.q.poly.ex;obtain⟨qb,xs2,g1,g2,pr2⟩:=hB.q.poly.ex;have fin:∀H20,Same H19 H20->XN K [.ref p1,.ref p2] H20 Q E0:=λH20 s20=>⟨p1,p2,aa,P1,P2,rfl,hA.same s20,hB.same s20,λH21 _=>go H21⟩;refine⟨_,rfl,p1,_,_,_,rfl,rfl,SqT.of f1,rfl,uY,λz H20 n20 s20 e20=>?_⟩;refine⟨_,_,.tup (s20 _ _ f2) (wH (Paired.to (λ_ _ h=>h.map λ_ _ e=>s20 _ _ e) pr1)),.tup e20 .nil,IB _,NW,_,rfl, ?_⟩;rw[JS];refine wU (λne1=>?_) (λ_=>vT ⟨_,rfl,_,rfl,fin H20 s20⟩);refine⟨_,rfl,p2,_,_,_,rfl,rfl,SqT.of (s20 _ _ g1),rfl,uY,λz' H21 n21 s21 e21=>?_⟩;have s91:=s20.trans s21;refine⟨_,_,.tup (s91 _ _ g2) (wH (Paired.to (λ_ _ h=>h.map λ_ _ e=>s91 _ _ e) pr2)),.tup e21 .nil,IB _,NW,_,rfl, ?_⟩;rw[JS];refine wU (λne2=>?_) (λ_=>vT ⟨_,rfl,_,rfl,fin H21 s91⟩);have n1:P1≠[]:=λz=>by rw[z]at ne1;exact absurd ne1 (by simp [tmP])
    have n2:P2≠[]:=λz=>by rw[z]at ne2;exact absurd ne2 (by simp [tmP])
    have dq:qK P1+qK P2<=16:=by have:=hA.dq;have:=hB.dq;omega
    have b21:=(q2.same s19).same s91;refine⟨_,rfl,tl,_,_,_,rfl,rfl,SqL.of ((s19.trans s91) _ _ e18),(show atI _ ((1:Nat):Int)=_ from qO rfl),t2,aa,16,R2,rfl,b21,c2.ok.pd,m4,by decide,by have:=c2.ok.few;omega,λH22 s22=>?_⟩;refine⟨_,rfl,p1,aa,16,P1,rfl,(hA.same (s91.trans s22)).q,hA.o.pd,m4,by decide,by have:=hA.o.few;omega,λH23 s23=>?_⟩;refine⟨_,rfl,p2,aa,16,P2,rfl,(hB.same ((s91.trans s22).trans s23)).q,hB.o.pd,m4,by decide,by have:=hB.o.few;omega,λH24 s24'=>⟨_,_,rfl,rfl, ?_⟩⟩;refine⟨rfl,_,rfl,qT ?_ ⟨_,rfl,_,rfl,fin H24 (((s91.trans s22).trans s23).trans s24')⟩⟩;rw[deg_prod hA.o hB.o n1 n2 dq c2];simp
end Lw
namespace Lw
open PySem PySem.Spec PyProof.Rows L2
theorem len1{us:List Value}(h:us.length=1):∃a,us=[a]:=by cases us with | nil=>cases h | cons a r=>have e:r=[]:=List.length_eq_zero_iff.mp (by simpa using h);subst e;exact⟨a,rfl⟩
theorem len2{us:List Value}(h:us.length=2):∃a b,us=[a,b]:=by cases us with | nil=>cases h | cons a r=>obtain⟨b,rfl⟩:=len1 (us:=r) (by simpa using h);exact⟨a,b,rfl⟩
theorem len3{us:List Value}(h:us.length=3):∃a b c,us=[a,b,c]:=by cases us with | nil=>cases h | cons a r=>obtain⟨b,c,rfl⟩:=len2 (us:=r) (by simpa using h);exact⟨a,b,c,rfl⟩
theorem len4{us:List Value}(h:us.length=4):∃a b c d,us=[a,b,c,d]:=by cases us with | nil=>cases h | cons a r=>obtain⟨b,c,d,rfl⟩:=len3 (us:=r) (by simpa using h);exact⟨a,b,c,d,rfl⟩
theorem len5{us:List Value}(h:us.length=5):∃a b c d e,us=[a,b,c,d,e]:=by cases us with | nil=>cases h | cons a r=>obtain⟨b,c,d,e,rfl⟩:=len4 (us:=r) (by simpa using h);exact⟨a,b,c,d,e,rfl⟩
abbrev fo(x:Str)(st:Stmt)(kV dc pm:Value)(an:Option Addr)(cd ct:Value):FuncData:=PySem.W.fnOf x x (zI st) (yM st) (jJ st) .none kV dc pm an cd ct
abbrev BdA(x:Str)(st:Stmt)(ps:List Str)(us:List Value):Prop:=∀(kV dc pm:Value) (an:Option Addr) (cd ct:Value),bindArgs (fo x st kV dc pm an cd ct) ⟨us,[]⟩=pure (ps.zip us)
theorem bd1{x:Str}{st:Stmt}{ps:List Str}(hp:ps.length=1)(h:∀a,BdA x st ps [a]):∀us:List Value,us.length=ps.length->BdA x st ps us:=λus e=>by obtain⟨_,rfl⟩:=len1 (e.trans hp);exact λ_ _ _ _ _ _=>h ..
theorem bd2{x:Str}{st:Stmt}{ps:List Str}(hp:ps.length=2)(h:∀a b,BdA x st ps [a,b]):∀us:List Value,us.length=ps.length->BdA x st ps us:=λus e=>by obtain⟨_,_,rfl⟩:=len2 (e.trans hp);exact λ_ _ _ _ _ _=>h ..
theorem bd3{x:Str}{st:Stmt}{ps:List Str}(hp:ps.length=3)(h:∀a b c,BdA x st ps [a,b,c]):∀us:List Value,us.length=ps.length->BdA x st ps us:=λus e=>by obtain⟨_,_,_,rfl⟩:=len3 (e.trans hp);exact λ_ _ _ _ _ _=>h ..
theorem bd4{x:Str}{st:Stmt}{ps:List Str}(hp:ps.length=4)(h:∀a b c d,BdA x st ps [a,b,c,d]):∀us:List Value,us.length=ps.length->BdA x st ps us:=λus e=>by obtain⟨_,_,_,_,rfl⟩:=len4 (e.trans hp);exact λ_ _ _ _ _ _=>h ..
theorem bd5{x:Str}{st:Stmt}{ps:List Str}(hp:ps.length=5)(h:∀a b c d e,BdA x st ps [a,b,c,d,e]):∀us:List Value,us.length=ps.length->BdA x st ps us:=λus e=>by obtain⟨_,_,_,_,_,rfl⟩:=len5 (e.trans hp);exact λ_ _ _ _ _ _=>h ..
theorem df{K:tV}{h:Heap}{mg:Str->Option Value}{x:Str}{st:Stmt}(X:K.In h)(G:h.Ns mainGlobals mg)(A:FnAt K x st)(ps:List Str)(b:∀us:List Value,us.length=ps.length->BdA x st ps us):∃f fd,Df K mg x st ps f fd:=by
 obtain⟨a,l,c,k⟩:=A;exact⟨_,_,OG l c k,(OG l c k).binds λkV dc pm an cd ct us h=>b us h kV dc pm an cd ct,nU X G a⟩
theorem df1{K:tV}{h:Heap}{mg:Str->Option Value}{x:Str}{st:Stmt}(X:K.In h)(G:h.Ns mainGlobals mg)(A:FnAt K x st)(ps:List Str)(hp:ps.length=1:=by rfl)(b:∀a0,BdA x st ps [a0]:=by exact λ_ _ _ _ _ _ _=>rfl):∃f fd,Df K mg x st ps f fd:=df X G A ps (bd1 hp b)
theorem df2{K:tV}{h:Heap}{mg:Str->Option Value}{x:Str}{st:Stmt}(X:K.In h)(G:h.Ns mainGlobals mg)(A:FnAt K x st)(ps:List Str)(hp:ps.length=2:=by rfl)(b:∀a0 a1,BdA x st ps [a0,a1]:=by exact λ_ _ _ _ _ _ _ _=>rfl):∃f fd,Df K mg x st ps f fd:=df X G A ps (bd2 hp b)
theorem df3{K:tV}{h:Heap}{mg:Str->Option Value}{x:Str}{st:Stmt}(X:K.In h)(G:h.Ns mainGlobals mg)(A:FnAt K x st)(ps:List Str)(hp:ps.length=3:=by rfl)(b:∀a0 a1 a2,BdA x st ps [a0,a1,a2]:=by exact λ_ _ _ _ _ _ _ _ _=>rfl):∃f fd,Df K mg x st ps f fd:=df X G A ps (bd3 hp b)
theorem df4{K:tV}{h:Heap}{mg:Str->Option Value}{x:Str}{st:Stmt}(X:K.In h)(G:h.Ns mainGlobals mg)(A:FnAt K x st)(ps:List Str)(hp:ps.length=4:=by rfl)(b:∀a0 a1 a2 a3,BdA x st ps [a0,a1,a2,a3]:=by exact λ_ _ _ _ _ _ _ _ _ _=>rfl):∃f fd,Df K mg x st ps f fd:=df X G A ps (bd4 hp b)
theorem df5{K:tV}{h:Heap}{mg:Str->Option Value}{x:Str}{st:Stmt}(X:K.In h)(G:h.Ns mainGlobals mg)(A:FnAt K x st)(ps:List Str)(hp:ps.length=5:=by rfl)(b:∀a0 a1 a2 a3 a4,BdA x st ps [a0,a1,a2,a3,a4]:=by exact λ_ _ _ _ _ _ _ _ _ _ _=>rfl):∃f fd,Df K mg x st ps f fd:=df X G A ps (bd5 hp b)
theorem all_mk{l:PySem.W.OpenLaw}{K:tV}{h:Heap}{mg:Str->Option Value}(X:K.In h)(G:h.Ns mainGlobals mg)(hfa:mg "law" = some (.ref fa))(A:Facts K) :
  ∃fd:FuncData,(∀(s:Shared) (v:Value),BindsTo s fd ⟨[v],[]⟩ [("script",v)])/\∀base:Heap,K.In base->base.Ns mainGlobals mg->FnOk l.prog w K mg base CX0 13 fa fd ["script"] (QC K):=by
 obtain @⟨f47,oc47,kV47,dc47,pm47,cd47,ct47,od47,an47,sl47,a47,l47,c47,k47⟩:=A.f47;obtain⟨v1⟩:=A.v1;obtain⟨v2⟩:=A.v2;obtain⟨v3⟩:=A.v3;obtain⟨v4⟩:=A.v4;obtain⟨v5⟩:=A.v5;obtain⟨v6⟩:=A.v6;obtain⟨v7⟩:=A.v7;obtain⟨n1a,n1b⟩:=A.n1;have e:=hfa.symm.trans (nU X G a47);cases e;have T:Txt mg:={ isi:=mF X G A.z1,len:=mF X G A.z2,int:=mF X G A.z3,bool:=mF X G A.z4,tup:=mF X G A.z5,lst:=mF X G A.z6,str:=mF X G A.z17,abs:=mF X G A.z7,rng:=mF X G A.z8,lbits:=⟨_,nU X G v1⟩,all:=mF X G A.z16,sum:=mF X G A.z9,zip:=mF X G A.z10,sorted:=mF X G A.z11,letters:=⟨_,nU X G v2⟩,degree:=⟨_,nU X G v3⟩,terms:=⟨_,nU X G v4⟩,signs:=⟨_,nU X G v5⟩,pack:=⟨_,nU X G v6⟩,short:=⟨_,nU X G v7⟩,enum:=mF X G A.z13,dct:=mF X G A.z15,max:=mF X G A.z12,rev:=mF X G A.z14 };have N:Ngt K mg:=⟨_,nU X G n1a,λH=>.inr ⟨_,_,_,n1b,rfl,rfl,by show 2<=sizeLine;decide,.cons ⟨_,rfl⟩ (.cons ⟨_,rfl⟩ .nil)⟩⟩;obtain⟨nL1,nL2⟩:=A.s1;obtain⟨nG1,nG2⟩:=A.s2;have LT:Ltr K mg:=⟨_,nU X G nL1,λH=>.inr ⟨_,_,_,nL2,rfl,rfl,by show 4<=sizeLine;decide,.cons ⟨_,rfl⟩ (.cons ⟨_,rfl⟩ (.cons ⟨_,rfl⟩ (.cons ⟨_,rfl⟩ (.nil))))⟩,_,nL2,rfl,rfl⟩;have FG:Fig K mg:=⟨_,nU X G nG1,λH=>.inr ⟨_,_,_,nG2,rfl,rfl,by show 10<=sizeLine;decide,.cons ⟨_,rfl⟩ (.cons ⟨_,rfl⟩ (.cons ⟨_,rfl⟩ (.cons ⟨_,rfl⟩ (.cons ⟨_,rfl⟩ (.cons ⟨_,rfl⟩ (.cons ⟨_,rfl⟩ (.cons ⟨_,rfl⟩ (.cons ⟨_,rfl⟩ (.cons ⟨_,rfl⟩ (.nil))))))))))⟩⟩
 have F47:=OG (st:=NO) l47 c47 k47;obtain⟨f1,d1,D1⟩:=df1 X G A.f1 ["thing"];obtain⟨f2,d2,D2⟩:=df2 X G A.f2 ["one","other"];obtain⟨f3,d3,D3⟩:=df1 X G A.f3 ["thing"];obtain⟨f4,d4,D4⟩:=df2 X G A.f4 ["one","other"];obtain⟨f5,d5,D5⟩:=df2 X G A.f5 ["one","other"];obtain⟨f6,d6,D6⟩:=df2 X G A.f6 ["one","other"];obtain⟨f7,d7,D7⟩:=df2 X G A.f7 ["thing","low"];obtain⟨f8,d8,D8⟩:=df2 X G A.f8 ["thing","many"];obtain⟨f9,d9,D9⟩:=df2 X G A.f9 ["thing","many"];obtain⟨f10,d10,D10⟩:=df1 X G A.f10 ["thing"];obtain⟨f11,d11,D11⟩:=df1 X G A.f11 ["one"];obtain⟨f12,d12,D12⟩:=df1 X G A.f12 ["powers"];obtain⟨f13,d13,D13⟩:=df2 X G A.f13 ["key","many"];obtain⟨f14,d14,D14⟩:=df1 X G A.f14 ["one"];obtain⟨f15,d15,D15⟩:=df2 X G A.f15 ["many","table"];obtain⟨f16,d16,D16⟩:=df2 X G A.f16 ["one","other"];obtain⟨f17,d17,D17⟩:=df1 X G A.f17 ["table"];obtain⟨f18,d18,D18⟩:=df1 X G A.f18 ["heap"];obtain⟨f19,d19,D19⟩:=df2 X G A.f19 ["one","other"];obtain⟨f20,d20,D20⟩:=df2 X G A.f20 ["one","other"];obtain⟨f21,d21,D21⟩:=df2 X G A.f21 ["one","other"];obtain⟨f22,d22,D22⟩:=df2 X G A.f22 ["one","number"];obtain⟨f23,d23,D23⟩:=df2 X G A.f23 ["one","letter"];obtain⟨f24,d24,D24⟩:=df2 X G A.f24 ["base","most"];obtain⟨f25,d25,D25⟩:=df1 X G A.f25 ["one"];obtain⟨f26,d26,D26⟩:=df2 X G A.f26 ["one","spot"];obtain⟨f27,d27,D27⟩:=df2 X G A.f27 ["terms","letter"];obtain⟨f28,d28,D28⟩:=df3 X G A.f28 ["terms","tables","letter"];obtain⟨f29,d29,D29⟩:=df2 X G A.f29 ["one","others"];obtain⟨f30,d30,D30⟩:=df1 X G A.f30 ["number"];obtain⟨f31,d31,D31⟩:=df2 X G A.f31 ["powers","number"]
 obtain⟨f32,d32,D32⟩:=df1 X G A.f32 ["one"];obtain⟨f33,d33,D33⟩:=df1 X G A.f33 ["word"];obtain⟨f34,d34,D34⟩:=df1 X G A.f34 ["word"];obtain⟨f35,d35,D35⟩:=df2 X G A.f35 ["words","many"];obtain⟨f36,d36,D36⟩:=df2 X G A.f36 ["text","many"];obtain⟨f37,d37,D37⟩:=df2 X G A.f37 ["text","many"];obtain⟨f38,d38,D38⟩:=df2 X G A.f38 ["tape","many"];obtain⟨f39,d39,D39⟩:=df2 X G A.f39 ["top","bottom"];obtain⟨f40,d40,D40⟩:=df2 X G A.f40 ["one","other"];obtain⟨f41,d41,D41⟩:=df3 X G A.f41 ["found","powers","number"];obtain⟨f42,d42,D42⟩:=df1 X G A.f42 ["tape"];obtain⟨f43,d43,D43⟩:=df2 X G A.f43 ["many","one"];obtain⟨f44,d44,D44⟩:=df4 X G A.f44 ["tape","many","most","deep"];obtain⟨f45,d45,D45⟩:=df5 X G A.f45 ["one","other","others","spot","number"];obtain⟨f46,d46,D46⟩:=df2 X G A.f46 ["one","other"];refine⟨PySem.W.fnOf "law" "law" (zI NO) (yM NO) (jJ NO) .none kV47 dc47 pm47 an47 cd47 ct47,λs v=>.of_eq rfl,λbase _ _=>?_⟩;have G_whole:=mkD D1 (LN (P:=l.prog) (w:=w) (base:=base) D1.F T);have G_gcd:=mkD D2 (IZ (P:=l.prog) (w:=w) (base:=base) D2.F T);have G_isf:=mkD D3 (ZT (P:=l.prog) (w:=w) (base:=base) D3.F T D1 D2);have G_low:=mkD D39 (ZS (P:=l.prog) (w:=w) (base:=base) D39.F T);have G_draw:=mkD D38 (RG (P:=l.prog) (w:=w) (base:=base) D38.F T);have G_mul:=mkD D5 (ZR (P:=l.prog) (w:=w) (base:=base) D5.F T D2);have G_divN:=mkD D6 (ok_divN (P:=l.prog) (w:=w) (base:=base) D6.F T D5 D2);have G_addF:=mkD D4 (ok_addF (P:=l.prog) (w:=w) (base:=base) D4.F T D2)
 have G_wf:=mkD D7 (ZH (P:=l.prog) (w:=w) (base:=base) D7.F T);have G_pw:=mkD D8 (ok_pw (P:=l.prog) (w:=w) (base:=base) D8.F T D7);have G_term:=mkD D9 (RD (P:=l.prog) (w:=w) (base:=base) D9.F T N D7 D8 D3 D1 D2);have G_sum:=mkD D10 (ok_sum (P:=l.prog) (w:=w) (base:=base) D10.F T N D7 D8 D3 D1 D2 D9);have G_shnum:=mkD D30 (LO (P:=l.prog) (w:=w) (base:=base) D30.F T);have G_shterm:=mkD D31 (HA (P:=l.prog) (w:=w) (base:=base) D31.F T LT D30);have G_shown:=mkD D32 (ZO (P:=l.prog) (w:=w) (base:=base) D32.F T LT D30 D31);have G_rdwhole:=mkD D33 (uC (P:=l.prog) (w:=w) (base:=base) D33.F T FG);have G_rdnum:=mkD D34 (LP (P:=l.prog) (w:=w) (base:=base) D34.F T FG D33);have G_rdpw:=mkD D35 (RE (P:=l.prog) (w:=w) (base:=base) D35.F T LT FG D33);have G_rdterm:=mkD D36 (UT (P:=l.prog) (w:=w) (base:=base) D36.F T LT FG D33 D34 D35);have G_read:=mkD D37 (ok_read D37.F T G_rdterm G_sum G_shown);have G_packed:=mkD D12 (UV (P:=l.prog) (w:=w) (base:=base) D12.F T);have G_unpk:=mkD D13 (ok_unpk (P:=l.prog) (w:=w) (base:=base) D13.F T);have G_tabOf:=mkD D14 (ZJ D14.F G_packed);have F_tabAdd:=UR D16.F T N G_addF;have G_tabAdd:=mkD D16 F_tabAdd;have G_degree:=mkD D11 (UX (P:=l.prog) (w:=w) (base:=base) D11.F T);have G_sumOf:=mkD D15 (ZK D15.F T N G_unpk G_degree);have G_plusS:=mkD D20 (ZQ D20.F G_tabOf G_tabAdd G_sumOf);have G_scaled:=mkD D22 (US D22.F G_tabOf G_mul G_sumOf);have G_slope:=mkD D23 (ZN D23.F G_packed G_mul G_sumOf)
 have G_lev:=mkD D17 (ok_lev D17.F T G_divN);have G_heap:=mkD D18 (ok_heap D18.F N G_addF G_divN);have F_tabMul:=UQ D19.F G_lev G_heap;have G_tabMul:=mkD D19 F_tabMul;have G_times:=mkD D21 (ZI D21.F T G_degree G_tabOf G_tabMul G_sumOf);have F_parted:=UU (P:=l.prog) (w:=w) (base:=base) (mg:=mg) D27.F;have G_parted:=mkD D27 F_parted;have G_tabPut:=GZ (P:=l.prog) (w:=w) (base:=base) D28 T D27 F_parted D19 F_tabMul D16 F_tabAdd;have G_putIn:=mkD D29 (ZP D29.F T G_degree G_tabOf D28 G_tabPut G_sumOf);have G_chain:=mkD D24 (ZV (P:=l.prog) (w:=w) (base:=base) D24.F T);have G_great:=mkD D25 (ZU (P:=l.prog) (w:=w) (base:=base) D25.F T);have G_worthQ:=mkD D26 (UP D26.F T N G_great G_chain G_addF G_mul);have G_number:=mkD D42 (UW (P:=l.prog) (w:=w) (base:=base) D42.F T D38 D39);have G_plus:=mkD D40 (RF (P:=l.prog) (w:=w) (base:=base) (mg:=mg) D40.F);have G_put:=mkD D41 (ok_put (P:=l.prog) (w:=w) (base:=base) (mg:=mg) D41.F D40);have G_small:=mkD D44 (ZM D44.F T G_draw G_put G_number);have G_lsum:=mkD D43 (ok_lsum D43.F T G_low);have G_woR:=mkD D45 (ok_woR D45.F T G_plusS G_times G_scaled G_putIn G_worthQ G_addF G_mul);have G_slR:=mkD D46 (ok_slR D46.F T G_plusS G_times G_slope);exact ok_law F47 T G_draw G_lsum G_small G_number G_woR G_plusS G_times G_scaled G_putIn G_slope G_shown G_sum G_read G_degree G_slR
theorem walk{l:PySem.W.OpenLaw}{XP:(Str->Option Value)->Heap->Prop}{YP:World->Heap->Prop}{d:DefRec}{K:Params->tV}(hn:l.most=some 63)(hdf:d.params.defaults=[])
  (hY:∀(w:World) (h:Heap),YP w h->(K w.params).In h)
  (F:∀(w:World) (mg:Str->Option Value) (fa:Addr) (h:Heap),(K w.params).In h->h.Ns mainGlobals mg->mg d.name=some (.ref fa)->
   ∃fd:FuncData,(∀(s:Shared) (u:Value),BindsTo s fd ⟨[u],[]⟩ [("script",u)])/\∀base:Heap,(K w.params).In base->base.Ns mainGlobals mg->FnOk l.prog w (K w.params) mg base CX0 13 fa fd ["script"] (QC (K w.params))) :
  PySem.W.WalkO q loose XP YP l.row.toRowW d [] (λf vs=>PySem.call f vs):=
 L2.walk_of (n:=63) (k:=13) (x:="script") (CX:=λ_=>CX0) (sp:=λw=>QC (K w.params)) hn #[0] hdf ⟨rfl,by decide,by decide⟩ hY F (λ_ _ a ns hl _ hS=>⟨a,ns,rfl,hS,hl,λ_=>rfl⟩) λ_ _ _ _ _ z=>z
end Lw
open PySem PySem.W PyProof.Rows
set_option maxRecDepth 100000 in
theorem PySem.Challenge.cw_lowwater_k09_whole_reckoning_agrees_holds : PySem.Challenge.rw_lowwater_k09_whole_reckoning_agrees.Holds := by
 refine Lw.head λK YP d A hY hd hn=>Lw.walk (l:=PySem.Challenge.rw_lowwater_k09_whole_reckoning_agrees) rfl hd hY λw mg fa h KX G hmg=>?_;rw[hn]at hmg;exact Lw.all_mk KX G hmg (A w.params)
end
