import PyProof.Rows.All
import Wide.All
import OpenK.AllK
import Wide.FinOn
import Lean
import PyProof.EqAt
import PyProof.EqKinds
import PyProof.TupleCall
import PySem.Challenge.RW_lowwater_k36_whole_sides_of_a_box
set_option Elab.async false
set_option linter.all false
set_option maxRecDepth 100000
set_option maxHeartbeats 4000000
noncomputable section
section
open PySem PySem.Spec PyProof PyProof.Rows
theorem uU{n:Nat}:n<=n:=Nat.le_refl n
theorem uV:0<=sizeLine:=by decide
theorem uW:1<=sizeLine:=by decide
theorem uX:2<=sizeLine:=by decide
theorem uY:type_of%@List.getD_eq_getElem?_getD:=@List.getD_eq_getElem?_getD
theorem uZ:type_of%@List.getElem?_append_right:=@List.getElem?_append_right
theorem gA:type_of%@Classical.byContradiction:=@Classical.byContradiction
theorem gC:type_of%@List.getElem?_eq_some_iff:=@List.getElem?_eq_some_iff
theorem gD:type_of%@List.getElem?_append_left:=@List.getElem?_append_left
theorem gE:type_of%@List.getElem?_eq_getElem:=@List.getElem?_eq_getElem
theorem gF:type_of%@List.getElem?_take_of_lt:=@List.getElem?_take_of_lt
theorem gG:type_of%@Nat.le_mul_of_pos_right:=@Nat.le_mul_of_pos_right
theorem gH:type_of%@List.getElem?_cons_succ:=@List.getElem?_cons_succ
theorem gI:type_of%@Heap.get?_push_of_some:=@Heap.get?_push_of_some
theorem gJ:type_of%@List.take_of_length_le:=@List.take_of_length_le
theorem gK:type_of%@List.drop_of_length_le:=@List.drop_of_length_le
theorem gL:type_of%@List.mem_append_right:=@List.mem_append_right
theorem gM:type_of%@List.length_replicate:=@List.length_replicate
theorem gN:type_of%@List.getElem?_eq_none:=@List.getElem?_eq_none
theorem gO:type_of%@List.mem_iff_getElem?:=@List.mem_iff_getElem?
theorem gP:type_of%@List.length_singleton:=@List.length_singleton
theorem gQ:type_of%@List.mem_of_getElem?:=@List.mem_of_getElem?
theorem gR:type_of%@List.mem_cons_of_mem:=@List.mem_cons_of_mem
theorem gS:type_of%@Nat.pow_le_pow_right:=@Nat.pow_le_pow_right
theorem gT:type_of%@Nat.pow_lt_pow_right:=@Nat.pow_lt_pow_right
theorem gU:type_of%@Nat.mul_le_mul_right:=@Nat.mul_le_mul_right
theorem gW:type_of%@List.mem_of_mem_take:=@List.mem_of_mem_take
theorem gX:type_of%@Heap.get?_push_size:=@Heap.get?_push_size
theorem gY:type_of%@List.getElem?_range:=@List.getElem?_range
theorem gZ:type_of%@Nat.mul_le_mul_left:=@Nat.mul_le_mul_left
theorem hJ:type_of%@Nat.lt_of_le_of_lt:=@Nat.lt_of_le_of_lt
theorem hU:type_of%@List.length_append:=@List.length_append
theorem hV:type_of%@Bool.false_ne_true:=@Bool.false_ne_true
theorem mB:type_of%@Nat.lt_of_lt_of_le:=@Nat.lt_of_lt_of_le
theorem mC:type_of%@List.mem_singleton:=@List.mem_singleton
theorem mD:type_of%@Int.natAbs_natCast:=@Int.natAbs_natCast
theorem mE:type_of%@Nat.one_le_two_pow:=@Nat.one_le_two_pow
theorem mF:type_of%@List.mem_cons_self:=@List.mem_cons_self
theorem mG:type_of%@PySem.W.mg_none_of:=@PySem.W.mg_none_of
theorem mH:type_of%@List.getElem?_map:=@List.getElem?_map
theorem mI:type_of%@List.size_toArray:=@List.size_toArray
theorem mJ:type_of%@List.take_add_one:=@List.take_add_one
theorem mK:type_of%@List.append_assoc:=@List.append_assoc
theorem mL:type_of%@of_decide_eq_true:=@of_decide_eq_true
theorem mM:type_of%@List.length_range:=@List.length_range
theorem mN:type_of%@List.nodup_append:=@List.nodup_append
theorem mO:type_of%@Int.gcd_dvd_right:=@Int.gcd_dvd_right
theorem mP:type_of%@Int.toNat_natCast:=@Int.toNat_natCast
theorem mQ:type_of%@List.ext_getElem?:=@List.ext_getElem?
theorem mR:type_of%@List.length_take:=@List.length_take
theorem mS:type_of%@List.not_mem_nil:=@List.not_mem_nil
theorem mT:type_of%@List.take_length:=@List.take_length
theorem mU:type_of%@List.length_cons:=@List.length_cons
theorem mV:type_of%@List.getElem_mem:=@List.getElem_mem
theorem mW:type_of%@Int.gcd_dvd_left:=@Int.gcd_dvd_left
theorem mX:type_of%@Nat.lt_succ_self:=@Nat.lt_succ_self
theorem mY:type_of%@List.filter_cons:=@List.filter_cons
theorem mZ:type_of%@List.length_map:=@List.length_map
theorem nA:type_of%@List.map_append:=@List.map_append
theorem nB:type_of%@decide_eq_false:=@decide_eq_false
theorem nC:type_of%@List.mem_append:=@List.mem_append
theorem nE:type_of%@Rat.intCast_mul:=@Rat.intCast_mul
theorem nF:type_of%@List.range_succ:=@List.range_succ
theorem nG:type_of%@Rat.intCast_neg:=@Rat.intCast_neg
theorem nH:type_of%@decide_eq_true:=@decide_eq_true
theorem nI:type_of%@Int.natAbs_mul:=@Int.natAbs_mul
theorem nJ:type_of%@List.mem_range:=@List.mem_range
theorem nK:type_of%@Nat.mul_le_mul:=@Nat.mul_le_mul
theorem nM:type_of%@Int.natAbs_neg:=@Int.natAbs_neg
theorem nN:type_of%@List.nodup_nil:=@List.nodup_nil
theorem nO:type_of%@Rat.mul_nonneg:=@Rat.mul_nonneg
theorem nP:type_of%@Heap.size_push:=@Heap.size_push
theorem nQ:type_of%@List.map_cons:=@List.map_cons
theorem nT:type_of%@List.mem_cons:=@List.mem_cons
theorem nU:type_of%@Rat.mul_assoc:=@Rat.mul_assoc
theorem nV:type_of%@Nat.lt_irrefl:=@Nat.lt_irrefl
theorem nW:type_of%@Int.mul_assoc:=@Int.mul_assoc
theorem nX:type_of%@List.sum_cons:=@List.sum_cons
theorem nY:type_of%@List.map_take:=@List.map_take
theorem nZ:type_of%@Heap.lt_size:=@Heap.lt_size
theorem tD:type_of%@Nat.le_trans:=@Nat.le_trans
theorem tE:type_of%@Nat.ne_of_lt:=@Nat.ne_of_lt
theorem tF:type_of%@List.mem_map:=@List.mem_map
theorem tG:type_of%@Rat.zero_add:=@Rat.zero_add
theorem tH:type_of%@Rat.add_zero:=@Rat.add_zero
theorem tI:type_of%@Rat.mul_zero:=@Rat.mul_zero
theorem tJ:type_of%@Rat.zero_mul:=@Rat.zero_mul
theorem tK:type_of%@List.map_map:=@List.map_map
theorem tL:type_of%@Nat.le_of_lt:=@Nat.le_of_lt
theorem tM:type_of%@Nat.sub_self:=@Nat.sub_self
theorem tN:type_of%@Nat.add_zero:=@Nat.add_zero
theorem tO:type_of%@Int.mul_comm:=@Int.mul_comm
theorem tP:type_of%@Nat.le_refl:=@Nat.le_refl
theorem tQ:type_of%@Nat.zero_le:=@Nat.zero_le
theorem tR:type_of%@Int.mul_pos:=@Int.mul_pos
theorem tS:type_of%@Rat.mul_one:=@Rat.mul_one
theorem tT:type_of%@Rat.div_def:=@Rat.div_def
theorem tU:type_of%@Nat.pow_add:=@Nat.pow_add
theorem tV:type_of%@Int.le_refl:=@Int.le_refl
theorem tW:type_of%@Rat.le_refl:=@Rat.le_refl
theorem tX:type_of%@wpAny_bind:=@wpAny_bind
theorem tY:type_of%@wpAny_pure:=@wpAny_pure
theorem tZ:type_of%@wpAny_mono:=@wpAny_mono
theorem dA:type_of%@if_neg:=@if_neg
theorem dC:type_of%@if_pos:=@if_pos
abbrev dD:=PySem.W.Frag
end
namespace L2
open PySem PySem.Spec PyProof.Rows
def zU(s:Stmt):Arguments:=match s with
 | .FunctionDef _ a _ _ _ _ _ _ _ _=>a
 | _=>{ posonlyargs:=[],args:=[],vararg:=none,kwonlyargs:=[],kw_defaults:=[],kwarg:=none,defaults:=[] }
def yX(s:Stmt):List Stmt:=match s with
 | .FunctionDef _ _ b _ _ _ _ _ _ _=>b
 | _=>[]
def jM(s:Stmt):Scope:=match s with
 | .FunctionDef _ _ _ _ _ _ sc _ _ _=>sc
 | _=>{ kind:=.function,names:=[],isGenerator:=false,isCoroutine:=false }
end L2
namespace Lw
open PySem PySem.Spec PyProof.Rows L2
def top(i:Nat):Stmt:=PySem.Challenge.pw_lowwater_k36_whole_sides_of_a_box.main.body.getD i (.Pass ⟨0,0,0,0⟩)
abbrev SG:Stmt:=top 9
abbrev KL:Stmt:=top 10
abbrev SF:Stmt:=top 11
abbrev NG:Stmt:=top 12
abbrev CI:Stmt:=top 14
abbrev KI:Stmt:=top 18
abbrev ED:Stmt:=top 19
abbrev CF:Stmt:=top 20
abbrev IQ:Stmt:=top 21
abbrev wI:Stmt:=top 22
abbrev PF:Stmt:=top 23
abbrev IM:Stmt:=top 24
abbrev wS:Stmt:=top 25
abbrev CG:Stmt:=top 26
abbrev OY:Stmt:=top 27
abbrev FV:Stmt:=top 28
abbrev uS:Stmt:=top 29
abbrev AB:Stmt:=top 30
abbrev IL:Stmt:=top 31
abbrev OV:Stmt:=top 32
abbrev AA:Stmt:=top 33
abbrev PD:Stmt:=top 34
abbrev OX:Stmt:=top 35
abbrev IO:Stmt:=top 37
abbrev FX:Stmt:=top 39
abbrev KJ:Stmt:=top 40
abbrev BM:Stmt:=top 41
abbrev FW:Stmt:=top 42
abbrev KK:Stmt:=top 43
abbrev NE:Stmt:=top 44
abbrev IS:Stmt:=top 45
abbrev CD:Stmt:=top 46
abbrev OW:Stmt:=top 47
abbrev sAt:Stmt:=top 48
abbrev PB:Stmt:=top 49
abbrev VP:Stmt:=top 50
abbrev uT:Stmt:=top 51
abbrev OZ:Stmt:=top 52
abbrev CH:Stmt:=top 53
abbrev AC:Stmt:=top 54
abbrev IR:Stmt:=top 55
abbrev ZV:Stmt:=top 56
abbrev IN:Stmt:=top 57
abbrev CJ:Stmt:=top 58
abbrev IP:Stmt:=top 59
abbrev NF:Stmt:=top 60
inductive FnAt(K:dD)(x:Str)(st:Stmt):Prop
 | mk {f:Addr} {oc kV dc pm cd ct:Value} {od an:Option Addr} {sl:Array (Option Value)} (a:PySem.W.nsIn K mainGlobals x=some (some (.ref f))) (l:K.lookup f=some ⟨oc,od,.func (PySem.W.fnOf x x (zU st) (yX st) (jM st) .none kV dc pm an cd ct),sl⟩) (c:PySem.W.codeIn K cd x=true) (k:PySem.W.keepIn K (.ref f)=true)
inductive PrAt(K:dD)(x:Str)(i j:Int):Prop
 | mk {f:Addr} {od:Option Addr} {sl:Array (Option Value)} {t u:Tok} {n:Nat} (a:PySem.W.nsIn K mainGlobals x=some (some (.ref f))) (l:K.lookup f=some ⟨.type "tuple",od,.seq #[.int i t,.int j u] n,sl⟩)
inductive IntAt(K:dD)(x:Str)(i:Int):Prop
 | mk {t:Tok} (a:PySem.W.nsIn K mainGlobals x=some (some (.int i t)))
structure Facts(K:dD):Prop where
 f1:FnAt K "greatest_divisor" SG
 f2:FnAt K "added" KL
 f3:FnAt K "multiplied" SF
 f4:FnAt K "divided" NG
 f5:FnAt K "degree" CI
 f6:FnAt K "refuse_bent" KI
 f7:FnAt K "whole_numbers" ED
 f8:FnAt K "rim_row" CF
 f9:FnAt K "level_row" IQ
 f10:FnAt K "rim_rows" wI
 f11:FnAt K "combined" PF
 f12:FnAt K "taken_away" IM
 f13:FnAt K "stages" wS
 f14:FnAt K "row_worth" CG
 f15:FnAt K "nearest" OY
 f16:FnAt K "spot_of" FV
 f17:FnAt K "shares_over" uS
 f18:FnAt K "broken" AB
 f19:FnAt K "tightest" IL
 f20:FnAt K "way_down" OV
 f21:FnAt K "low_end" AA
 f22:FnAt K "kept" PD
 f23:FnAt K "over" OX
 f24:FnAt K "reach" IO
 f25:FnAt K "_law_draw" FX
 f26:FnAt K "_law_low" KJ
 f27:FnAt K "_law_plus" BM
 f28:FnAt K "_law_mul" FW
 f29:FnAt K "_law_like" KK
 f30:FnAt K "_law_put" NE
 f31:FnAt K "_law_added" IS
 f32:FnAt K "_law_scaled" CD
 f33:FnAt K "_law_same" OW
 f34:FnAt K "_law_at" sAt
 f35:FnAt K "_law_sum" PB
 f36:FnAt K "_law_is_number" VP
 f37:FnAt K "_law_number" uT
 f38:FnAt K "_law_line" OZ
 f39:FnAt K "_law_is_spot" CH
 f40:FnAt K "_law_borne_by" AC
 f41:FnAt K "_law_keeps" IR
 f42:FnAt K "_law_box" ZV
 f43:FnAt K "_law_sides" IN
 f44:FnAt K "_law_corner_least" CJ
 f45:FnAt K "_law_moved" IP
 f46:FnAt K "law" NF
 z1:PySem.W.nsIn K mainGlobals "isinstance" = some none
 z2:PySem.W.nsIn K mainGlobals "len" = some none
 z3:PySem.W.nsIn K mainGlobals "int" = some none
 z4:PySem.W.nsIn K mainGlobals "bool" = some none
 z5:PySem.W.nsIn K mainGlobals "tuple" = some none
 z6:PySem.W.nsIn K mainGlobals "list" = some none
 z7:PySem.W.nsIn K mainGlobals "str" = some none
 z8:PySem.W.nsIn K mainGlobals "abs" = some none
 z9:PySem.W.nsIn K mainGlobals "range" = some none
 z10:PySem.W.nsIn K mainGlobals "sum" = some none
 z11:PySem.W.nsIn K mainGlobals "zip" = some none
 z12:PySem.W.nsIn K mainGlobals "sorted" = some none
 z13:PySem.W.nsIn K mainGlobals "max" = some none
 z14:PySem.W.nsIn K mainGlobals "enumerate" = some none
 z15:PySem.W.nsIn K mainGlobals "reversed" = some none
 z16:PySem.W.nsIn K mainGlobals "all" = some none
 z17:PySem.W.nsIn K mainGlobals "dict" = some none
 z18:PySem.W.nsIn K mainGlobals "any" = some none
 z19:PySem.W.nsIn K mainGlobals "min" = some none
 v1:IntAt K "LONG_BITS" 8000
 n1:PrAt K "NOUGHT" 0 1
 n2:PrAt K "ONE" 1 1
end Lw
section
open PySem PySem.W PyProof.Rows
namespace Lw
def view36:Program:={ PySem.Challenge.pw_lowwater_k36_whole_sides_of_a_box with main:={ PySem.Challenge.pw_lowwater_k36_whole_sides_of_a_box.main with body:=([1,2,3,5,6,7,8,9,10,11,12,14,16,17,18,19,20,21,22,23,24,25,26,27,28,29,30,31,32,33,34,35,37,39,40,41,42,43,44,45,46,47,48,49,50,51,52,53,54,55,56,57,58,59,60]:List Nat).filterMap λi=>PySem.Challenge.pw_lowwater_k36_whole_sides_of_a_box.main.body[i]? } }
end Lw
local macro_rules | `(tactic| o_head $H)=>`(tactic| refine holds_open (q:=Lw.view36) (loose:=[Str.ofString "LowwaterError"]) (Xt:=λs=>xlAt Lw.view36 [] s&&recOk (RowW.records (PySem.Challenge.rw_lowwater_k36_whole_sides_of_a_box).row.toRowW) s) (XP:=XL Lw.view36 []) (Yf:=Hook.obs $H) (Ya:=Hook.val $H) (YP:=Hook.says $H) (N:=4548) (λw=>by unfold openEnds fencedOpening topFrom;rw[PySem.W.Fast.te10274390034422433532,PySem.W.Fast.te14082659384304107361,PySem.W.Fast.te1435165496053646825,PySem.W.Fast.te14289696077712309145,PySem.W.Fast.te8920871248978507458,PySem.W.Fast.te14364793385576792824,PySem.W.Fast.te4187177175401517315];kernel_rfl) (Hook.of $H) (Hook.keeps $H) (λs e=>xl_of s (Bool.and_eq_true_iff.mp e).1) XL.keeps (by rfl) (by rfl) (by rfl) (λs e=>recFacts_of (Bool.and_eq_true_iff.mp e).2) (by rfl) (by first | assumption | decide +kernel) (by decide +kernel) ⟨rfl,rfl,rfl,rfl,rfl,by decide +kernel⟩ ?hw ?hc)
set_option maxRecDepth 100000 in
set_option maxHeartbeats 0 in
theorem Lw.head(hn:∀(K:Params->Frag) (YP:World->Heap->Prop) (d:DefRec),(∀p,Lw.Facts (K p))->(∀w h,YP w h->(K w.params).In h)->d.params.defaults=[]->d.name="law"->WalkO Lw.view36 [Str.ofString "LowwaterError"] (XL Lw.view36 []) YP PySem.Challenge.rw_lowwater_k36_whole_sides_of_a_box.row.toRowW d [] λf vs=>PySem.call f vs):PySem.Challenge.rw_lowwater_k36_whole_sides_of_a_box.Holds:=by
 w_on;o_law;k_head;(case hw=>w_witness2)
 k_fill
 refine hn _ _ _ ?f (λw h Y=>kIn_of Y) rfl rfl;case f=>
  intro p;constructor;all_goals first | (refine' .mk ?a ?l ?c ?k;(case a=>k_is);(case l=>k_is);(case c=>k_is);(case k=>k_is)) | (refine' .mk ?a ?l;(case a=>k_is);(case l=>k_is)) | (refine' .mk ?v;(case v=>k_is)) | k_is
end
namespace L2
open PySem PySem.Spec PyProof.Rows
abbrev Key:=Sum Int Str
def HD:Key->Value->Bool
 | .inl k,v=>Value.isInt k v
 | .inr x,v=>Value.isStrOf x v
def keyH(w:World):Key->Int
 | .inl k=>hashInt k
 | .inr x=>hashStr w x
theorem qT:∀{k:Key} {v:Value},HD k v=true->(∃i t,k=Sum.inl i/\v=Value.int i t)∨(∃x t,k=Sum.inr x/\v=Value.str x t)
 | .inl i,v,h=>by
  obtain⟨t,e⟩:=Value.isInt_shape (k:=i) (v:=v) h;exact .inl ⟨i,t,rfl,e⟩
 | .inr x,v,h=>by
  obtain⟨t,e⟩:=Value.isStrOf_shape (x:=x) (v:=v) h;exact .inr ⟨x,t,rfl,e⟩
theorem TM(i:Int)(t:Tok):HD (.inl i) (.int i t)=true:=by simp [HD,Value.isInt]
theorem TL(x:Str)(t:Tok):HD (.inr x) (.str x t)=true:=by simp [HD,Value.isStrOf]
theorem key_ll(a b:Int):decide ((Sum.inl a:Key)=Sum.inl b)=(a==b):=by
 by_cases e:a=b
 ·subst e;simp
 ·have h:¬(Sum.inl a:Key)=Sum.inl b:=λq=>e (Sum.inl.inj q);rw[nB h];exact(beq_eq_false_iff_ne.mpr e).symm
theorem key_rr(a b:Str):decide ((Sum.inr a:Key)=Sum.inr b)=decide (a=b):=by
 by_cases e:a=b
 ·subst e;simp
 ·have h:¬(Sum.inr a:Key)=Sum.inr b:=λq=>e (Sum.inr.inj q);rw[nB h,nB e]
theorem key_lr(a:Int)(b:Str):decide ((Sum.inl a:Key)=Sum.inr b)=false:=nB (λq=>nomatch q)
theorem key_rl(a:Str)(b:Int):decide ((Sum.inr a:Key)=Sum.inl b)=false:=nB (λq=>nomatch q)
def qR(prog:Program)(w:World):PySem.KeyKind prog w Key where
 is:=HD
 hash:=keyH w
 inj:=λv a b ha hb=>by
  rcases qT ha with⟨i,t,rfl,rfl⟩ | ⟨x,t,rfl,rfl⟩
  ·rcases qT hb with⟨j,u,rfl,e⟩ | ⟨y,u,rfl,e⟩
   ·injection e with e1 _;rw[e1]
   ·exact nomatch e
  ·rcases qT hb with⟨j,u,rfl,e⟩ | ⟨y,u,rfl,e⟩
   ·exact nomatch e
   ·injection e with e1 _;rw[e1]
 byValue:=λk v h=>by
  rcases qT h with⟨i,t,rfl,rfl⟩ | ⟨x,t,rfl,rfl⟩<;>rfl
 pyHash:=λhv h=>by
  rcases qT hv with⟨i,t,rfl,rfl⟩ | ⟨x,t,rfl,rfl⟩
  ·exact wpAny_pyHash_int h
  ·exact wpAny_pyHash_str h
 eqBool:=λhu hv h=>by
  rcases qT hu with⟨i,t,rfl,rfl⟩ | ⟨x,t,rfl,rfl⟩
  ·rcases qT hv with⟨j,u,rfl,rfl⟩ | ⟨y,u,rfl,rfl⟩
   ·rw[key_ll]at h;exact wpAny_eqBool_int h
   ·rw[key_lr]at h;exact SeqAt.EqAt.int_str i t y u _ _ _ _ h
  ·rcases qT hv with⟨j,u,rfl,rfl⟩ | ⟨y,u,rfl,rfl⟩
   ·rw[key_rl]at h;exact SeqAt.EqAt.str_int x t j u _ _ _ _ h
   ·rw[key_rr]at h;exact wpAny_eqBool_str h
 «strs» :=λk x t v h=>by
  rcases qT h with⟨i,u,rfl,e⟩ | ⟨y,u,rfl,e⟩
  ·exact nomatch e
  ·injection e with e1 _
   subst e1;cases v<;>rfl
theorem LF(prog:Program)(w:World)(i:Int)(t:Tok):(qR prog w).is (.inl i) (.int i t)=true:=TM i t
theorem LE(prog:Program)(w:World)(x:Str)(t:Tok):(qR prog w).is (.inr x) (.str x t)=true:=TL x t
inductive V where
 | non | bl (b:Bool) | int (i:Int) | str (x:Str) | byt (b:Array UInt8) | flt (b:UInt64) | ref (a:Addr) | ty (n:String)
 deriving DecidableEq
def RelV:V->Value->Prop
 | .non,u=>u=Value.none
 | .bl b,u=>u=Value.bool b
 | .int i,u=>∃t,u=Value.int i t
 | .str x,u=>∃t,u=Value.str x t
 | .byt b,u=>∃t,u=Value.bytes b t
 | .flt b,u=>∃t,u=Value.float b t
 | .ref a,u=>u=Value.ref a
 | .ty n,u=>u=Value.type n
abbrev Vals:List V->List Value->Prop:=Paired RelV
theorem Vals.length{xs:List V}{us:List Value}(r:Vals xs us):xs.length=us.length:=Paired.length r
theorem Vals.get:∀{xs:List V} {us:List Value} {i:Nat} {x:V},Vals xs us->xs[i]? = some x->∃u,us[i]? = some u/\RelV x u
 | _,_,_,_,.nil,e=>by simp at e
 | _,_,0,_,.cons r _,e=>by simp at e;subst e;exact⟨_,rfl,r⟩
 | _,_,i+1,x,.cons _ t,e=>by
  obtain⟨u,h1,h2⟩:=Vals.get (i:=i) (x:=x) t (by simpa using e);exact⟨u,by simpa using h1,h2⟩
theorem Vals.set{x:V}{u:Value}(r:RelV x u):∀{xs:List V} {us:List Value} (i:Nat),Vals xs us->Vals (xs.set i x) (us.set i u)
 | _,_,_,.nil=>.nil
 | _,_,0,.cons _ t=>.cons r t
 | _,_,i+1,.cons q t=>.cons q (Vals.set r i t)
theorem Vals.append:∀{xs ys:List V} {us ws:List Value},Vals xs us->Vals ys ws->Vals (xs++ys) (us++ws)
 | _,_,_,_,.nil,s=>s
 | _,_,_,_,.cons r t,s=>.cons r (Vals.append t s)
theorem Vals.take:∀{xs:List V} {us:List Value} (n:Nat),Vals xs us->Vals (xs.take n) (us.take n)
 | _,_,0,_=>.nil
 | _,_,_+1,.nil=>.nil
 | _,_,n+1,.cons r t=>.cons r (Vals.take n t)
theorem Vals.drop:∀{xs:List V} {us:List Value} (n:Nat),Vals xs us->Vals (xs.drop n) (us.drop n)
 | _,_,0,r=>r
 | _,_,_+1,.nil=>.nil
 | _,_,n+1,.cons _ t=>Vals.drop n t
def RelO:Option V->Option Value->Prop
 | some v,some u=>RelV v u
 | none,none=>True
 | _,_=>False
def KV{κ:Type} :List (κ×V)->List (κ×Value)->Prop:=Paired λ(p:κ×V) (q:κ×Value)=>p.1=q.1/\RelV p.2 q.2
def kV:Key->V
 | .inl i=>.int i
 | .inr x=>.str x
inductive HO where
 | lst (xs:List V)
 | tup (xs:List V)
 | dK (ag:List (Key×V)) | dT (ag:List (List Key×V))
 | set (S:Int->Bool) (n:Nat)
 | ins (C dx:Addr) (fs:List (Str×V))
 | own (x:Addr)
 | xd (fs:List (Str×V))
 | met (f x:Addr)
 | rng (lo hi:Int)
 | frz (o:Obj) (u:HO)
 | tbl (ps:Array Value)
 | ext (φ:Heap->Prop)
abbrev Hp:=Addr->Option HO
def upd(H:Hp)(a:Addr)(o:HO):Hp:=λb=>if b=a then some o else H b
theorem jE{H:Hp}{a:Addr}{o:HO} :upd H a o a=some o:=by unfold upd;rw[dC rfl]
theorem jO{H:Hp}{a b:Addr}{o:HO}(h:b≠a):upd H a o b=H b:=by unfold upd;rw[dA h]
theorem XC{H:Hp}{a b:Addr}{o u:HO}(h:H a=some o)(h':H b=some u)(d:o≠u):a≠b:=by
 intro e;subst e;rw[h]at h';exact d (Option.some.inj h')
theorem kM{H:Hp}{a b:Addr}{o:HO}(h:H a=some o)(h':H b=none):a≠b:=by
 intro e;subst e;rw[h]at h';cases h'
def NoD(h:Heap)(a:Addr):Prop:=∀o,h.get? a=some o->o.dict=none
theorem NoD.of{h:Heap}{a:Addr}{o:Obj}(e:h.get? a=some o)(d:o.dict=none):NoD h a:=λo' e'=>by rw[e]at e';cases e';exact d
section
variable(P:Program)(w:World)
def ObjOk(H:Hp)(h:Heap)(a:Addr):HO->Prop
 | .lst xs=>xs.length<=sizeLine/\∃(its:List Value) (n:Nat),Vals xs its/\h.get? a=some { cls:=.type "list",data:=.seq its.toArray n }
 | .tup xs=>xs.length<=sizeLine/\∃its:List Value,Vals xs its/\IsTup h a its.toArray/\NoD h a
 | .dK ag=>ag.length<=sizeLine/\(a==sysModules)=false/\∃vs,KV ag vs/\h.DictOf (qR P w) a vs
 | .dT ag=>ag.length<=sizeLine/\(a==sysModules)=false/\∃xs:List (List Key×Addr×Value),
   Paired (λ(p:List Key×V) (q:List Key×Addr×Value)=>p.1=q.1/\H q.2.1=some (.tup (p.1.map kV))/\RelV p.2 q.2.2) ag xs/\
   ∃o es ep,h.get? a=some o/\o.ExactDict/\o.data=.dict es ep/\es.toList=xs.map (entryOfKey (tupleKind (qR P w)))/\(xs.map (·.1)).Nodup
 | .set S n=>h.SetOf (intKind P w) a S n
 | .ins C dx fs=>H dx=some (.own a)/\fs.length<=1000/\dx≠a/\h.get? a=some (PySem.W.instObj C dx)/\
   ∃mA,h.Ns1 dx mA/\(∀f,RelO (fs.lookup f) (mA f))/\PySem.Within mA (fs.map (·.1))
 | .own _=>∃o,h.get? a=some o
 | .xd fs=>∃mA,h.Ns1 a mA/\∀f,RelO (fs.lookup f) (mA f)
 | .rng lo hi=>∃t u v,h.get? a=some { cls:=.type "range",data:=.fields #[.int lo t,.int hi u,.int 1 v] }
 | .frz o u=>h.get? a=some o/\ObjOk H h a u
 | .tbl ps=>h.get? a=some { cls:=.none,data:=.fields ps }
 | .met f x=>h.get? a=some (PySem.W.methodObj (.ref f) (.ref x))
 | .ext φ=>φ h/\(∃o,h.get? a=some o)/\∀h1 h2:Heap,φ h1->(∀o,h1.get? a=some o->h2.get? a=some o)->φ h2
def HOk(H:Hp)(h:Heap):Prop:=∀a o,H a=some o->ObjOk P w H h a o
end
section
variable{P:Program}{w:World}{H H':Hp}{h h':Heap}{a:Addr}{o:HO}
theorem ObjOk.lt(x:ObjOk P w H h a o):a<h.objs.size:=by
 cases o with
 | lst xs=>obtain⟨_,_,_,_,e⟩:=x;exact nZ e
 | tup xs=>obtain⟨_,_,_,p⟩:=x;exact p.1.lt
 | dK ag=>obtain⟨_,_,_,_,o,_,_,e,_⟩:=x;exact nZ e
 | dT ag=>obtain⟨_,_,_,_,o,_,_,e,_⟩:=x;exact nZ e
 | set S n=>obtain⟨o,_,_,_,e,_⟩:=x;exact nZ e
 | ins C dx fs=>obtain⟨_,_,_,e,_⟩:=x;exact nZ e
 | own y=>obtain⟨_,e⟩:=x;exact nZ e
 | xd fs=>obtain⟨_,⟨_,_,_,e,_⟩,_⟩:=x;exact nZ e
 | rng lo hi=>obtain⟨_,_,_,e⟩:=x;exact nZ e
 | frz ob u=>obtain⟨e,_⟩:=x;exact nZ e
 | tbl ps=>exact nZ (show h.get? a=some _ from x)
 | met f y=>exact nZ (show h.get? a=some _ from x)
 | ext φ=>obtain⟨_,⟨_,e⟩,_⟩:=x;exact nZ e
theorem Paired.mapP{α β:Type}{F G:α->β->Prop} :∀{l₁:List α} {l₂:List β},Paired F l₁ l₂->(∀a b,F a b->G a b)->Paired G l₁ l₂
 | _,_,.nil,_=>.nil
 | _,_,.cons r t,f=>.cons (f _ _ r) (Paired.mapP t f)
theorem ObjOk.stay(x:ObjOk P w H h a o)(k:∀b u,(b=a∨H b=some (.own a))->h.get? b=some u->h'.get? b=some u)
  (ho:∀b,H b=some (.own a)->H' b=some (.own a)) (ht:∀b xs,H b=some (.tup xs)->H' b=some (.tup xs)):ObjOk P w H' h' a o:=by
 induction o with
 | lst xs=>obtain⟨z,its,n,r,e⟩:=x;exact⟨z,its,n,r,k _ _ (.inl rfl) e⟩
 | tup xs=>obtain⟨z,its,r,⟨ob,e,c⟩,nd⟩:=x;exact⟨z,its,r,⟨ob,k _ _ (.inl rfl) e,c⟩,.of (k _ _ (.inl rfl) e) (nd _ e)⟩
 | dK ag=>obtain⟨z,y,vs,r,ob,es,ep,e,c⟩:=x;exact⟨z,y,vs,r,ob,es,ep,k _ _ (.inl rfl) e,c⟩
 | dT ag=>
  obtain⟨z,y,xs,r,ob,es,ep,e,c⟩:=x;exact⟨z,y,xs,Paired.mapP r λp q z=>⟨z.1,ht _ _ z.2.1,z.2.2⟩,ob,es,ep,k _ _ (.inl rfl) e,c⟩
 | set S n=>obtain⟨ob,es,ep,t,e,c⟩:=x;exact⟨ob,es,ep,t,k _ _ (.inl rfl) e,c⟩
 | ins C dx fs=>
  obtain⟨d,z,ne,e,mA,⟨od,es,ep,e2,c⟩,r⟩:=x;exact⟨ho _ d,z,ne,k _ _ (.inl rfl) e,mA,⟨od,es,ep,k _ _ (.inr d) e2,c⟩,r⟩
 | own y=>obtain⟨ob,e⟩:=x;exact⟨ob,k _ _ (.inl rfl) e⟩
 | xd fs=>obtain⟨mA,⟨od,es,ep,e,c⟩,r⟩:=x;exact⟨mA,⟨od,es,ep,k _ _ (.inl rfl) e,c⟩,r⟩
 | rng lo hi=>obtain⟨t,u,v,e⟩:=x;exact⟨t,u,v,k _ _ (.inl rfl) e⟩
 | frz ob u ih=>obtain⟨e,q⟩:=x;exact⟨k _ _ (.inl rfl) e,ih q⟩
 | tbl ps=>
  have e:h.get? a=some { cls:=.none,data:=.fields ps } :=x;show h'.get? a=some { cls:=.none,data:=.fields ps };exact k a _ (.inl rfl) e
 | met f y=>
  have e:h.get? a=some (PySem.W.methodObj (.ref f) (.ref y)):=x;show h'.get? a=some (PySem.W.methodObj (.ref f) (.ref y));exact k a _ (.inl rfl) e
 | ext φ=>obtain⟨p,⟨o,e⟩,st⟩:=x;exact⟨st _ _ p λo q=>k _ _ (.inl rfl) q,⟨o,k _ _ (.inl rfl) e⟩,st⟩
theorem HOk.lt(x:HOk P w H h)(e:H a=some o):a<h.objs.size:=(x a o e).lt
theorem HOk.fresh(x:HOk P w H h)(e:h.objs.size<=a):H a=none:=by
 cases q:H a with
 | none=>rfl
 | some u=>exact absurd (mB (x.lt q) e) (nV _)
theorem HOk.kept(x:HOk P w H h)(k:∀b u,h.get? b=some u->h'.get? b=some u):HOk P w H h':=λa o e=>
 (x a o e).stay (λb u _ q=>k b u q) (λ_ q=>q) λ_ _ q=>q
theorem HOk.laid(x:HOk P w H h)(k:∀b u,h.get? b=some u->h'.get? b=some u)(hp:h.objs.size<=a)(new:ObjOk P w (upd H a o) h' a o):HOk P w (upd H a o) h':=λb u e=>by
 have hn:=x.fresh hp;by_cases hb:b=a
 ·subst hb;rw[jE]at e;cases e;exact new
 ·rw[jO hb]at e;exact(x b u e).stay (λc v _ q=>k c v q) (λc q=>by rw[jO (kM q hn)];exact q) λc xs q=>by rw[jO (kM q hn)];exact q
end
def Rd(H:Hp)(a:Addr)(u:HO):Prop:=H a=some u∨∃o,H a=some (.frz o u)
theorem Rd.ok{P:Program}{w:World}{H:Hp}{h:Heap}{a:Addr}{u:HO}(r:Rd H a u)(x:HOk P w H h):ObjOk P w H h a u:=by
 rcases r with r | ⟨o,r⟩
 ·exact x a u r
 ·obtain⟨_,q⟩:=x a _ r;exact q
def Mut:Option HO->Prop
 | some (.lst _)=>True
 | some (.dK _)=>True
 | some (.dT _)=>True
 | some (.set _ _)=>True
 | some (.ins _ _ _)=>True
 | some (.ext _)=>True
 | _=>False
section
variable{P:Program}{w:World}{H:Hp}{h h':Heap}{x e:Addr}{o':HO}
theorem HOk.write(ok:HOk P w H h)(mu:Mut (H x))(he:e=x∨H e=some (.own x))(k:∀b u,b≠e->h.get? b=some u->h'.get? b=some u)(heo:∃u,h'.get? e=some u)
  (new:ObjOk P w (upd H x o') h' x o'):HOk P w (upd H x o') h':=λb u q=>by
 have nown:∀c y,H c=some (.own y)->c≠x:=λc y r z=>by subst z;rw[r]at mu;exact mu
 have ntup:∀c xs,H c=some (.tup xs)->c≠x:=λc xs r z=>by subst z;rw[r]at mu;exact mu
 by_cases hb:b=x
 ·subst hb;rw[jE]at q;cases q;exact new
 ·rw[jO hb]at q;by_cases hbe:b=e
  ·have q':H b=some (.own x):=by
    rcases he with z | z
    ·exact absurd (hbe.trans z) hb
    ·rw[hbe];exact z
   rw[q]at q';cases q';obtain⟨v,hv⟩:=heo;exact⟨v,by rw[hbe];exact hv⟩
  ·refine(ok b u q).stay (λc v hc r=>k c v ?_ r) (λc r=>by rw[jO (nown c b r)];exact r) λc xs r=>by rw[jO (ntup c xs r)];exact r
   rcases hc with rfl | hc
   ·exact hbe
   ·rintro rfl;rcases he with z | z
    ·exact nown c b hc z
    ·rw[hc]at z;cases z;exact hb rfl
end
structure Un(fs ex:List Addr)(H H':Hp)(h h':Heap):Prop where
 keep:∀b o,h.get? b=some o->H b=none->b∉fs->b∉ex->h'.get? b=some o
 slot:∀b o,h.get? b=some o->H b=none->b∈fs->b∉ex->∃sl,h'.get? b=some { o with slots:=sl }
 free:∀b o,h.get? b=some o->H b=none->b∉ex->H' b=none
 there:∀b o,h.get? b=some o->b∉ex->∃o',h'.get? b=some o'
 tups:∀b xs,H b=some (.tup xs)->H' b=some (.tup xs)
 frzs:∀b o u,H b=some (.frz o u)->H' b=some (.frz o u)
 tbls:∀b ps,H b=some (.tbl ps)->∃more,H' b=some (.tbl (ps++more))
section
variable{fs fs' ex ex':List Addr}{H H1 H2:Hp}{h h1 h2 h':Heap}{a x e:Addr}{o:HO}
theorem Un.any(u:Un fs ex H H1 h h1){b:Addr}{ob:Obj}(q:h.get? b=some ob)(n:H b=none)(hx:b∉ex):∃sl,h1.get? b=some { ob with slots:=sl } :=by
 by_cases hb:b∈fs
 ·exact u.slot b ob q n hb hx
 ·exact⟨ob.slots,u.keep b ob q n hb hx⟩
theorem Un.kept(k:∀b u,h.get? b=some u->h'.get? b=some u):Un fs ex H H h h':=
 ⟨λb ob q _ _ _=>k b ob q,λb ob q _ _ _=>⟨ob.slots,k b ob q⟩,λ_ _ _ n _=>n,λb ob q _=>⟨ob,k b ob q⟩,λ_ _ q=>q,λ_ _ _ q=>q,λ_ ps q=>⟨#[],by rw[q];simp⟩⟩
theorem Un.refl:Un fs ex H H h h:=Un.kept λ_ _ q=>q
theorem Un.laid(k:∀b u,h.get? b=some u->h'.get? b=some u)(hp:h.objs.size<=a)(hn:H a=none):Un fs ex H (upd H a o) h h' where
 keep:=λb u q _ _ _=>k b u q
 slot:=λb u q _ _ _=>⟨u.slots,k b u q⟩
 free:=λb u q n _=>by rw[jO (tE (mB (nZ q) hp))];exact n
 there:=λb u q _=>⟨u,k b u q⟩
 tups:=λb xs q=>by rw[jO (kM q hn)];exact q
 frzs:=λb u xs q=>by rw[jO (kM q hn)];exact q
 tbls:=λb ps q=>⟨#[],by rw[jO (kM q hn),q];simp⟩
theorem Un.write(mu:Mut (H x))(he:e=x∨H e=some (.own x))(k:∀b u,b≠e->h.get? b=some u->h'.get? b=some u)(heo:∃u,h'.get? e=some u):Un fs ex H (upd H x o) h h':=by
 have hx:∀b,H b=none->b≠x:=λb n z=>by subst z;rw[n]at mu;exact mu
 have hb:∀b,H b=none->b≠e:=λb n z=>by
  subst z;rcases he with r | r
  ·exact hx b n r
  ·rw[n]at r;cases r
 have hm:∀b u,H b=some u->¬Mut (some u)->b≠x:=λb u q nm z=>by subst z;rw[q]at mu;exact nm mu
 refine⟨λb u q n _ _=>k b u (hb b n) q,λb u q n _ _=>⟨u.slots,k b u (hb b n) q⟩,λb u q n _=>by rw[jO (hx b n)];exact n,λb u q _=>?_,
  λb xs q=>by rw[jO (hm b _ q λz=>z)];exact q,λb u xs q=>by rw[jO (hm b _ q λz=>z)];exact q,λb ps q=>⟨#[],by rw[jO (hm b _ q λz=>z),q];simp⟩⟩
 by_cases hbe:b=e
 ·subst hbe;exact heo
 ·exact⟨u,k b u hbe q⟩
end
def trk(h:Heap)(H:Hp):List Addr:=(List.range h.objs.size).filter λa=>(H a).isSome
def JN(h:Heap)(H:Hp):Heap:=PySem.W.hideAll h (trk h H)
theorem TR(h:Heap)(H:Hp):(JN h H).objs.size=h.objs.size:=PySem.W.hideAll_size _ _
theorem XX{h:Heap}{H:Hp}{b:Addr}{o:Obj}(e:h.get? b=some o)(n:H b=none):(JN h H).get? b=some o:=
 PySem.W.hideAll_get _ e λhm=>by
  have q:(H b).isSome=true:=(List.mem_filter.mp hm).2;rw[n]at q;simp at q
theorem of_hidT{h:Heap}{H:Hp}{b:Addr}{o:Obj}(e:(JN h H).get? b=some o):h.get? b=some o/\H b=none:=by
 have e':h.get? b=some o:=PySem.W.of_hideAll (trk h H) e;refine⟨e', ?_⟩;cases q:H b with
 | none=>rfl
 | some x=>
  have hm:b∈trk h H:=List.mem_filter.mpr ⟨nJ.mpr (nZ e'),by simp [q]⟩;have z:(JN h H).get? b=none:=PySem.W.hideAll_none (trk h H) hm;rw[z]at e;cases e
def wA(g h:Heap)(L:Addr):List (Addr×Obj):=(List.range h.objs.size).filterMap λa=>if a=L∨(g.get? a).isSome=true then none else(h.get? a).map λo=>(a,o)
theorem wN{g h:Heap}{L a:Addr}{o:Obj}(h1:a≠L)(h2:g.get? a=none)(h3:h.get? a=some o):(a,o)∈wA g h L:=
 List.mem_filterMap.mpr ⟨a,nJ.mpr (nZ h3),by simp [h1,h2,h3]⟩
theorem EL{g h:Heap}{L:Addr}{p:Addr×Obj}(hp:p∈wA g h L):p.1≠L/\g.get? p.1=none/\h.get? p.1=some p.2:=by
 obtain⟨b,_,e⟩:=List.mem_filterMap.mp hp;split at e
 ·cases e
 ·rename_i hn;cases q:h.get? b with
  | none=>rw[q]at e;simp at e
  | some u=>
   rw[q]at e;simp only[Option.map_some,Option.some.injEq]at e;subst e;refine⟨λz=>hn (.inl z), ?_,q⟩;show g.get? b=none;cases r:g.get? b with
   | none=>rfl
   | some v=>exact(hn (.inr (by simp [r]))).elim
theorem WZ{g h:Heap}{L:Addr} :News g L h (wA g h L):=λp hp=>let ⟨a,b,c⟩:=EL hp;⟨c,a,b⟩
structure Mod(K:dD)(mg:Str->Option Value)(base:Heap):Prop where
 kin:K.In base
 glob:base.Ns mainGlobals mg
 blt:∃mb,base.Ns builtinsNs mb/\∀x:Str,x≠"__name__"->mb x=bootBuiltins x
 nolimit:base.NoLimit
structure Cx where
 prog:Program
 w:World
 K:dD
 mg:Str->Option Value
 base:Heap
 A:Around
 N:List Str
 s₀:Shared
 H₀:Hp
 env:Env
 outer:List Env
 stack:List Env
 ex:List Addr
 fn:Str->Bool
 calm:Bool
 pn:List (Addr×Obj)
 xe:Value->Shared->Prop
def frs(l:List Env):List Addr:=l.filterMap (·.frame)
abbrev Cx.fs(X:Cx):List Addr:=frs X.outer
def Vis(sc:Scope)(x:Str):Prop:=sc.names.lookup x=some .local∨sc.names.lookup x=some .cell∨sc.names.lookup x=some .free
def Loc(sc:Scope)(x:Str):Prop:=sc.names.lookup x=some .local∨sc.names.lookup x=some .cell
def Look(env:Env)(h:Heap)(m:Str->Option Value)(x:Str)(u:Value):Prop:=
 (env.kindOf x=some .local/\m x=some u)∨((env.kindOf x=some .cell∨env.kindOf x=some .free)/\∃c,env.cells.lookup x=some c/\h.IsCell c (some u))
structure Cx.Ok(X:Cx):Prop where
 mod:Mod X.K X.mg X.base
 kind:X.env.scope.kind=.function
 glob:X.env.globals=mainGlobals
 blt:X.env.builtins=builtinsNs
 above:X.s₀.heap.objs.size<=X.env.locals
 inj:∀x y c,X.env.cells.lookup x=some c->X.env.cells.lookup y=some c->x=y
 has:∀x,(X.env.kindOf x=some .cell∨X.env.kindOf x=some .free)->∃c,X.env.cells.lookup x=some c
 cab:∀x c,X.fn x=true->X.env.cells.lookup x=some c->X.s₀.heap.objs.size<=c
 hd:X.calm=true->X.A.handled=none
 frames:X.A.frames=some X.stack
 stk:X.stack=X.outer∨(X.stack=X.env::X.outer/\X.env.frame=some X.env.locals)
 exf:∀b∈X.ex,b≠X.env.locals/\∀x c,X.env.cells.lookup x=some c->c≠b
 bs:∀b o,X.base.get? b=some o->X.s₀.heap.get? b=some o/\X.H₀ b=none
 bsz:X.base.objs.size<=X.s₀.heap.objs.size
 noex:∀b o,X.base.get? b=some o->b∉X.ex
 exfs:∀b∈X.ex,b∉X.fs
 funs:X.s₀.heap.FunFrames X.base X.outer
 frf:∀b∈X.fs,X.H₀ b=none
structure Inv(X:Cx)(ac:List (Addr×Obj))(σ:List (Option V))(H:Hp)(s:Shared):Prop where
 ok:X.Ok
 os:s.os=X.s₀.os
 bare:AllBare s.gens
 base:Un X.fs X.ex X.H₀ H X.s₀.heap s.heap
 loc:∃m,s.heap.Ns X.env.locals m/\∀(i:Nat) (x:Str) (v:V),X.N[i]? = some x->σ[i]? = some (some v)->Vis X.env.scope x->∃u,RelV v u/\Look X.env s.heap m x u
 cell:∀x c,X.env.cells.lookup x=some c->∃v,s.heap.IsCell c v
 free:H X.env.locals=none
 freeC:∀x c,X.env.cells.lookup x=some c->H c=none
 pin:∀p∈X.pn++ac,s.heap.get? p.1=some p.2/\H p.1=none/\p.1≠X.env.locals/\p.1∉X.fs/\∀v,p.2.data≠.cell v
 hok:HOk X.prog X.w H s.heap
 len:σ.length=X.N.length
section
variable{X:Cx}{ac:List (Addr×Obj)}{σ:List (Option V)}{H H':Hp}{s:Shared}{h':Heap}
theorem Cx.Ok.nofr(ok:X.Ok){b:Addr}{o:Obj}(e:X.base.get? b=some o):b∉X.fs:=λhb=>by
 have:=(ok.funs.mem hb).1;rw[e]at this;cases this
theorem Inv.bs(I:Inv X ac σ H s):∀b o,X.base.get? b=some o->s.heap.get? b=some o/\H b=none:=λb o e=>
 ⟨I.base.keep b o (I.ok.bs b o e).1 (I.ok.bs b o e).2 (I.ok.nofr e) (I.ok.noex b o e),I.base.free b o (I.ok.bs b o e).1 (I.ok.bs b o e).2 (I.ok.noex b o e)⟩
theorem Inv.bk(I:Inv X ac σ H s):∀b o,X.base.get? b=some o->s.heap.get? b=some o:=λb o e=>(I.bs b o e).1
theorem Inv.mod(I:Inv X ac σ H s):Mod X.K X.mg X.base:=I.ok.mod
theorem Inv.kIn(I:Inv X ac σ H s):X.K.In s.heap:=I.ok.mod.kin.keeps I.bk
theorem Inv.fr(I:Inv X ac σ H s):∃m,Fr X.base X.env.locals s.heap m:=
 let ⟨m,hn,_⟩:=I.loc
 ⟨m,hn,I.bk,tD I.ok.bsz I.ok.above⟩
theorem Inv.lt(I:Inv X ac σ H s):X.env.locals<s.heap.objs.size:=let ⟨_,hn,_⟩:=I.loc;hn.lt
theorem Inv.sz(I:Inv X ac σ H s):X.s₀.heap.objs.size<=s.heap.objs.size:=tD I.ok.above (tL I.lt)
theorem Inv.nofs(I:Inv X ac σ H s){a:Addr}(h:s.heap.objs.size<=a):a∉X.fs:=λhb=>by
 obtain⟨_,o,ho,_⟩:=I.ok.funs.mem hb;exact absurd (mB (nZ ho) (tD I.sz h)) (nV _)
theorem Inv.cne(I:Inv X ac σ H s):∀x c,X.env.cells.lookup x=some c->c≠X.env.locals:=λx c e z=>by
 obtain⟨v,o,ho,hd⟩:=I.cell x c e;obtain⟨m,⟨o',es,ep,ho',hd',_⟩,_⟩:=I.loc;rw[z,ho']at ho;cases ho;rw[hd']at hd;cases hd
theorem Inv.funs(I:Inv X ac σ H s):s.heap.FunFrames X.base X.outer:=by
 have all:∀(l:List Env),(∀b∈frs l,b∈X.fs)->X.s₀.heap.FunFrames X.base l->s.heap.FunFrames X.base l:=by
  intro l;induction l with
  | nil=>intro _ _;trivial
  | cons env r ih=>
   intro hs hl;obtain⟨hk,⟨L,o,hf,hn,ho,hd⟩,hr⟩:=hl;have hL:L∈X.fs:=hs L (by unfold frs;rw[List.filterMap_cons,hf];exact mF);obtain⟨sl,e⟩:=I.base.slot L o ho (I.ok.frf L hL) hL λz=>I.ok.exfs L z hL;exact⟨hk,⟨L,_,hf,hn,e,hd⟩,ih (λb hb=>hs b (by unfold frs;rw[List.filterMap_cons,hf];exact gR _ hb)) hr⟩
 exact all X.outer (λ_ hb=>hb) I.ok.funs
theorem Inv.stack(I:Inv X ac σ H s):s.heap.FunFrames X.base X.stack:=by
 rcases I.ok.stk with e | ⟨e,hf⟩
 ·rw[e];exact I.funs
 ·rw[e];obtain⟨m,hn,_⟩:=I.loc;refine .cons (by rw[I.ok.kind];decide) hf hn ?_ I.funs;exact Heap.get?_none_of_le (tD I.ok.bsz I.ok.above)
theorem Inv.stkSub(I:Inv X ac σ H s):∀b∈frs X.stack,b∈X.env.locals::X.fs:=λb hb=>by
 rcases I.ok.stk with e | ⟨e,hf⟩
 ·rw[e]at hb;exact gR _ hb
 ·rw[e]at hb;unfold frs at hb;rw[List.filterMap_cons,hf]at hb;exact hb
theorem Inv.stkFree(I:Inv X ac σ H s):∀b∈frs X.stack,H b=none:=λb hb=>by
 rcases nT.mp (I.stkSub b hb)with e | hb
 ·rw[e];exact I.free
 ·obtain⟨_,o,ho,_⟩:=I.ok.funs.mem hb;exact I.base.free b o ho (I.ok.frf b hb) λz=>I.ok.exfs b z hb
theorem Inv.step{g':Array GenState}{t':Nat}{d':Drawn}{ch:List Addr}(I:Inv X ac σ H s)
  (hch:∀b∈ch,(b∈X.ex∨X.s₀.heap.objs.size<=b)/\b≠X.env.locals/\(∀x c,X.env.cells.lookup x=some c->c≠b)/\∀p∈X.pn++ac,p.1≠b)
  (keep:∀b o,b≠X.env.locals->b∉X.fs->b∉ch->s.heap.get? b=some o->H b=none->h'.get? b=some o)
  (slot:∀b o,b≠X.env.locals->b∈X.fs->b∉ch->s.heap.get? b=some o->H b=none->∃sl,h'.get? b=some { o with slots:=sl }) (free:∀b o,b∉ch->s.heap.get? b=some o->H b=none->H' b=none)
  (there:∀b o,b∉ch->s.heap.get? b=some o->∃o',h'.get? b=some o')
  (tups:∀b xs,H b=some (.tup xs)->H' b=some (.tup xs)) (frzs:∀b o u,H b=some (.frz o u)->H' b=some (.frz o u)) (tbls:∀b ps,H b=some (.tbl ps)->∃more,H' b=some (.tbl (ps++more)))
  (ns:∀m,s.heap.Ns X.env.locals m->h'.Ns X.env.locals m) (hok:HOk X.prog X.w H' h') (hg:AllBare g') :
  Inv X ac σ H' { s with heap:=h',gens:=g',drawn:=d',toks:=t' } :=by
 have neL:∀b o,X.s₀.heap.get? b=some o->b≠X.env.locals:=λb o e=>tE (mB (nZ e) I.ok.above);have neC:∀b o,X.s₀.heap.get? b=some o->b∉X.ex->b∉ch:=λb o e hx hb=>by
  rcases(hch b hb).1 with z | z
  ·exact hx z
  ·exact absurd (mB (nZ e) z) (nV _)
 have cellK:∀x c,X.env.cells.lookup x=some c->∀v,s.heap.IsCell c v->h'.IsCell c v:=λx c e v ⟨o,ho,hd⟩=>by
  have nch:c∉ch:=λz=>(hch c z).2.2.1 x c e rfl;by_cases hc:c∈X.fs
  ·obtain⟨sl,q⟩:=slot c o (I.cne x c e) hc nch ho (I.freeC x c e);exact⟨_,q,hd⟩
  ·exact⟨o,keep c o (I.cne x c e) hc nch ho (I.freeC x c e),hd⟩
 refine⟨I.ok,I.os,hg,⟨λb o e n hb hx=>?_,λb o e n hb hx=>?_,λb o e n hx=>?_,λb o e hx=>?_,λb xs e=>tups b xs (I.base.tups b xs e),λb o xs e=>frzs b o xs (I.base.frzs b o xs e),λb ps e=>?_⟩, ?_,λx c e=>?_, ?_,λx c e=>?_,λp hp=>?_,hok,I.len⟩
 ·exact keep b o (neL b o e) hb (neC b o e hx) (I.base.keep b o e n hb hx) (I.base.free b o e n hx)
 ·obtain⟨sl,e1⟩:=I.base.slot b o e n hb hx;obtain⟨sl',e2⟩:=slot b _ (neL b o e) hb (neC b o e hx) e1 (I.base.free b o e n hx);exact⟨sl',e2⟩
 ·obtain⟨o',e1⟩:=I.base.there b o e hx;exact free b o' (neC b o e hx) e1 (I.base.free b o e n hx)
 ·obtain⟨o',e1⟩:=I.base.there b o e hx;exact there b o' (neC b o e hx) e1
 ·obtain⟨m1,e1⟩:=I.base.tbls b ps e;obtain⟨m2,e2⟩:=tbls b _ e1;exact⟨m1++m2,by rw[e2,Array.append_assoc]⟩
 ·obtain⟨m,hn,hl⟩:=I.loc;refine⟨m,ns m hn,λi x v e1 e2 e3=>?_⟩;obtain⟨u,r,l⟩:=hl i x v e1 e2 e3;refine⟨u,r, ?_⟩;rcases l with l | ⟨k,c,e,z⟩
  ·exact .inl l
  ·exact .inr ⟨k,c,e,cellK x c e _ z⟩
 ·obtain⟨v,z⟩:=I.cell x c e;exact⟨v,cellK x c e v z⟩
 ·obtain⟨m,⟨o,_,_,ho,_⟩,_⟩:=I.loc;exact free _ o (λz=>(hch _ z).2.1 rfl) ho I.free
 ·obtain⟨v,o,ho,hd⟩:=I.cell x c e;exact free c o (λz=>(hch c z).2.2.1 x c e rfl) ho (I.freeC x c e)
 ·obtain⟨e,n,ne,nf,d⟩:=I.pin p hp;have nch:p.1∉ch:=λz=>(hch p.1 z).2.2.2 p hp rfl;exact⟨keep p.1 p.2 ne nf nch e n,free p.1 p.2 nch e n,ne,nf,d⟩
theorem Inv.un{t':Nat}(I:Inv X ac σ H s)(u:Un X.fs [] H H' s.heap h')(hok:HOk X.prog X.w H' h'):Inv X ac σ H' { s with heap:=h',toks:=t' } :=by
 obtain⟨m,⟨o,es,ep,ho,r⟩,_⟩:=id I.loc;obtain⟨sl,hL⟩:=u.any ho I.free (by simp);exact I.step (g':=s.gens) (d':=s.drawn) (ch:=[]) (λ_ z=>nomatch z) (λb o _ hb _ e n=>u.keep b o e n hb (by simp)) (λb o _ hb _ e n=>u.slot b o e n hb (by simp)) (λb o _ e n=>u.free b o e n (by simp)) (λb o _ e=>u.there b o e (by simp)) u.tups u.frzs u.tbls (λm' hm=>by
  obtain⟨o',es',ep',ho',r'⟩:=hm;rw[ho]at ho';cases ho';exact⟨_,es',ep',hL,r'⟩) hok I.bare
theorem Inv.call{g':Array GenState}{t':Nat}{d':Drawn}{ch:List Addr}(I:Inv X ac σ H s)(u:Un (frs X.stack) ch H H' s.heap h')(hok:HOk X.prog X.w H' h')(hg:AllBare g')
  (hch:∀b∈ch,(b∈X.ex∨X.s₀.heap.objs.size<=b)/\b≠X.env.locals/\(∀x c,X.env.cells.lookup x=some c->c≠b)/\∀p∈X.pn++ac,p.1≠b) :
  Inv X ac σ H' { s with heap:=h',gens:=g',drawn:=d',toks:=t' } :=by
 obtain⟨m,⟨o,es,ep,ho,r⟩,_⟩:=id I.loc;obtain⟨sl,hL⟩:=u.any ho I.free λz=>(hch _ z).2.1 rfl;exact I.step (ch:=ch) hch (λb o hL hb hc e n=>u.keep b o e n (λz=>(nT.mp (I.stkSub b z)).elim hL hb) hc) (λb o _ _ hc e n=>u.any e n hc) (λb o hc e n=>u.free b o e n hc) (λb o hc e=>u.there b o e hc) u.tups u.frzs u.tbls (λm' hm=>by
  obtain⟨o',es',ep',ho',r'⟩:=hm;rw[ho]at ho';cases ho';exact⟨_,es',ep',hL,r'⟩) hok hg
theorem Inv.turned{t':Nat}{it:Addr}(I:Inv X ac σ H s)(k:∀b o,b≠it->s.heap.get? b=some o->h'.get? b=some o)(hn:H it=none)(hL:it≠X.env.locals)
  (h1:it∈X.ex∨X.s₀.heap.objs.size<=it) (h2:∀x c,X.env.cells.lookup x=some c->c≠it) (h3:∀p∈X.pn++ac,p.1≠it):Inv X ac σ H { s with heap:=h',toks:=t' } :=by
 have nit:∀b u,H b=some u->b≠it:=λb u e z=>by rw[z,hn]at e;cases e
 refine I.step (g':=s.gens) (d':=s.drawn) (ch:=[it]) (λb hb=>?_) (λb o _ _ hc e _=>k b o (λz=>hc (by simp [z])) e) (λb o _ _ hc e _=>⟨o.slots,k b o (λz=>hc (by simp [z])) e⟩) (λ_ _ _ _ n=>n)
  (λb o hc e=>⟨o,k b o (λz=>hc (by simp [z])) e⟩) (λ_ _ e=>e) (λ_ _ _ e=>e) (λb ps e=>⟨#[],by rw[e];simp⟩) (λm hm=>?_) (λb u e=>?_) I.bare
 ·have e:b=it:=by simpa using hb
  subst e;exact⟨h1,hL,h2,h3⟩
 ·obtain⟨o,es,ep,ho,r⟩:=hm;exact⟨o,es,ep,k _ o (Ne.symm hL) ho,r⟩
 ·refine(I.hok b u e).stay (λc v hc q=>k c v ?_ q) (λ_ q=>q) λ_ _ q=>q;rcases hc with z | z
  ·rw[z];exact nit b u e
  ·exact nit c _ z
theorem Inv.tok(I:Inv X ac σ H s)(t:Nat):Inv X ac σ H { s with toks:=t } :=I.un (h':=s.heap) (t':=t) Un.refl I.hok
theorem Inv.kept{t':Nat}(I:Inv X ac σ H s)(k:∀b u,s.heap.get? b=some u->h'.get? b=some u):Inv X ac σ H { s with heap:=h',toks:=t' } :=I.un (Un.kept k) (I.hok.kept k)
theorem Inv.laid{a:Addr}{o:HO}{t':Nat}(I:Inv X ac σ H s)(k:∀b u,s.heap.get? b=some u->h'.get? b=some u)(hp:s.heap.objs.size<=a)(new:ObjOk X.prog X.w (upd H a o) h' a o) :
  Inv X ac σ (upd H a o) { s with heap:=h',toks:=t' } :=I.un (Un.laid k hp (I.hok.fresh hp)) (I.hok.laid k hp new)
theorem Inv.write{x e:Addr}{o:HO}{t':Nat}(I:Inv X ac σ H s)(mu:Mut (H x))(he:e=x∨H e=some (.own x))(k:∀b u,b≠e->s.heap.get? b=some u->h'.get? b=some u)(heo:∃u,h'.get? e=some u)
  (new:ObjOk X.prog X.w (upd H x o) h' x o):Inv X ac σ (upd H x o) { s with heap:=h',toks:=t' } :=I.un (Un.write mu he k heo) (I.hok.write mu he k heo new)
theorem Inv.weak{σ':List (Option V)}(I:Inv X ac σ H s)(hl:σ'.length=σ.length)(w:∀(i:Nat) v,σ'[i]? = some (some v)->σ[i]? = some (some v)):Inv X ac σ' H s:=
 ⟨I.ok,I.os,I.bare,I.base,let ⟨m,hn,hl'⟩:=I.loc;⟨m,hn,λi x v e1 e2 e3=>hl' i x v e1 (w i v e2) e3⟩,I.cell,I.free,I.freeC,I.pin,I.hok,hl.trans I.len⟩
theorem Inv.pins_of{pins':List (Addr×Obj)}(I:Inv X ac σ H s)(h:∀p∈pins',s.heap.get? p.1=some p.2/\H p.1=none/\p.1≠X.env.locals/\p.1∉X.fs/\∀v,p.2.data≠.cell v):Inv X pins' σ H s:=
 ⟨I.ok,I.os,I.bare,I.base,I.loc,I.cell,I.free,I.freeC,λp hp=>(nC.mp hp).elim (λz=>I.pin p (List.mem_append_left _ z)) (h p),I.hok,I.len⟩
theorem LA{N:List Str}(hN:N.Nodup){i j:Nat}{x:Str}(a:N[i]? = some x)(b:N[j]? = some x):i=j:=by
 obtain⟨h1,e1⟩:=gC.mp a;obtain⟨h2,e2⟩:=gC.mp b;exact(List.getElem_inj hN).mp (e1.trans e2.symm)
theorem AW{M:Model}{A:Around}{E:Value->Shared->Prop}{i:Nat}{x:Str}{v:V}{u:Value}{Q:Unit->Shared->Prop}(I:Inv X ac σ H s)(hN:X.N.Nodup)(hi:X.N[i]? = some x)(hx:Loc X.env.scope x)(r:RelV v u)
  (h:∀s',Inv X ac (σ.set i (some v)) H s'->(∃a,Heap.SameBut a s.heap s'.heap/\(a=X.env.locals∨X.env.cells.lookup x=some a))->Q () s') (hf:X.fn x=true∨X.env.scope.names.lookup x=some .local:=by first | exact .inl rfl | exact .inr rfl | assumption):wpAny M A (storeName X.env x u) Q E s:=by
 obtain⟨m,hn,hl⟩:=id I.loc;have hcls:(X.env.scope.kind==.class||(X.env.scope.kind==.module&&X.env.locals != X.env.globals))=false:=by rw[I.ok.kind];rfl
 have hiσ:i<σ.length:=by rw[I.len];exact(gC.mp hi).1
 have cne:=I.cne;have tracked:∀{a:Addr} {h':Heap},(∃o,s.heap.get? a=some o/\H a=none)->Heap.SameBut a s.heap h'->HOk X.prog X.w H h':=fun {a h'} ha hs b ob e=>by
  obtain⟨_,_,hfree⟩:=ha;refine(I.hok b ob e).stay (λc w' hc q=>(hs.2 c ?_).trans q) (λ_ q=>q) λ_ _ q=>q;rintro rfl;rcases hc with rfl | hc
  ·rw[hfree]at e;cases e
  ·rw[hfree]at hc;cases hc
 rcases hx with hk | hk
 ·refine wpAny_storeName_local hk hn (λh' hn' hs=>?_) hcls;obtain⟨oL,_,_,hoL,_⟩:=id hn;refine h _ ⟨I.ok,I.os,I.bare,⟨λb o e n hb hx=>?_,λb o e n hb hx=>?_,I.base.free,λb o e hx=>?_,I.base.tups,I.base.frzs,I.base.tbls⟩,⟨_,hn',λj y v' e1 e2 e3=>?_⟩,λy c e=>?_,I.free,I.freeC,λp hp=>?_,tracked ⟨oL,hoL,I.free⟩ hs,by simpa using I.len⟩ ⟨_,hs,.inl rfl⟩
  ·exact(hs.2 b (tE (mB (nZ e) I.ok.above))).trans (I.base.keep b o e n hb hx)
  ·obtain⟨sl,e1⟩:=I.base.slot b o e n hb hx;exact⟨sl,(hs.2 b (tE (mB (nZ e) I.ok.above))).trans e1⟩
  ·obtain⟨o',e1⟩:=I.base.there b o e hx;exact⟨o',(hs.2 b (tE (mB (nZ e) I.ok.above))).trans e1⟩
  ·by_cases hj:j=i
   ·subst hj;rw[hi]at e1;cases e1;rw[List.getElem?_set_self hiσ]at e2;cases e2;exact⟨u,r,.inl ⟨hk,by simp⟩⟩
   ·rw[List.getElem?_set_ne (Ne.symm hj)]at e2;obtain⟨u',r',q⟩:=hl j y v' e1 e2 e3;refine⟨u',r', ?_⟩;rcases q with⟨k,e⟩ | ⟨k,c,e,z⟩
    ·refine .inl ⟨k, ?_⟩;have:y≠x:=λe=>hj (LA hN e1 (e▸hi));simp [this,e]
    ·exact .inr ⟨k,c,e,z.sameBut hs (cne y c e)⟩
  ·obtain⟨w',z⟩:=I.cell y c e;exact⟨w',z.sameBut hs (cne y c e)⟩
  ·obtain⟨e,n,ne,nf,d⟩:=I.pin p hp;exact⟨(hs.2 p.1 ne).trans e,n,ne,nf,d⟩
 ·have hfn:X.fn x=true:=by
   rcases hf with z | z
   ·exact z
   ·rw[z]at hk;cases hk
  obtain⟨c,hc⟩:=I.ok.has x (.inl hk);obtain⟨w',z⟩:=I.cell x c hc;refine wpAny_storeName_cell I.ok.kind hk hc z (λh' hc' hs=>?_);obtain⟨oc,hoc,hocd⟩:=id z;refine h { s with heap:=h' } ⟨I.ok,I.os,I.bare,⟨λb o e n hb hx=>?_,λb o e n hb hx=>?_,I.base.free,λb o e hx=>?_,I.base.tups,I.base.frzs,I.base.tbls⟩,⟨m,hn.sameBut hs (Ne.symm (cne x c hc)),λj y v' e1 e2 e3=>?_⟩,λy c' e=>?_,I.free,I.freeC,λp hp=>?_,tracked ⟨oc,hoc,I.freeC x c hc⟩ hs,by simpa using I.len⟩ ⟨c,hs,.inr hc⟩
  ·exact(hs.2 b (tE (mB (nZ e) (I.ok.cab x c hfn hc)))).trans (I.base.keep b o e n hb hx)
  ·obtain⟨sl,e1⟩:=I.base.slot b o e n hb hx;exact⟨sl,(hs.2 b (tE (mB (nZ e) (I.ok.cab x c hfn hc)))).trans e1⟩
  ·obtain⟨o',e1⟩:=I.base.there b o e hx;exact⟨o',(hs.2 b (tE (mB (nZ e) (I.ok.cab x c hfn hc)))).trans e1⟩
  ·by_cases hj:j=i
   ·subst hj;rw[hi]at e1;cases e1;rw[List.getElem?_set_self hiσ]at e2;cases e2;exact⟨u,r,.inr ⟨.inl hk,c,hc,hc'⟩⟩
   ·rw[List.getElem?_set_ne (Ne.symm hj)]at e2;obtain⟨u',r',q⟩:=hl j y v' e1 e2 e3;refine⟨u',r', ?_⟩;rcases q with q | ⟨k,c',e,z'⟩
    ·exact .inl q
    ·refine .inr ⟨k,c',e,z'.sameBut hs ?_⟩;rintro rfl;exact hj (LA hN e1 (I.ok.inj _ _ _ e hc▸hi))
  ·by_cases hcc:c'=c
   ·subst hcc;exact⟨_,hc'⟩
   ·obtain⟨w2,z2⟩:=I.cell y c' e;exact⟨w2,z2.sameBut hs hcc⟩
  ·obtain⟨e,n,ne,nf,d⟩:=I.pin p hp;refine⟨(hs.2 p.1 ?_).trans e,n,ne,nf,d⟩;intro q;rw[q,hoc]at e;have q':oc=p.2:=Option.some.inj e;exact d w' (by rw[<-q'];exact hocd)
theorem uP{M:Model}{A:Around}{E:Value->Shared->Prop}{i:Nat}{x:Str}{v:V}{u:Value}{Q:Unit->Shared->Prop}(I:Inv X ac σ H s)(hN:X.N.Nodup)(hi:X.N[i]? = some x)(hx:Loc X.env.scope x)(r:RelV v u)
  (h:∀s',Inv X ac (σ.set i (some v)) H s'->Q () s') (hf:X.fn x=true∨X.env.scope.names.lookup x=some .local:=by first | exact .inl rfl | exact .inr rfl | assumption):wpAny M A (storeName X.env x u) Q E s:=
 AW I hN hi hx r (λs' I' _=>h s' I') hf
theorem Inv.call'{s':Shared}{ch:List Addr}(I:Inv X ac σ H s)(ho:s'.os=s.os)(u:Un (frs X.stack) ch H H' s.heap s'.heap)(hok:HOk X.prog X.w H' s'.heap)(hg:AllBare s'.gens)
  (hch:∀b∈ch,(b∈X.ex∨X.s₀.heap.objs.size<=b)/\b≠X.env.locals/\(∀x c,X.env.cells.lookup x=some c->c≠b)/\∀p∈X.pn++ac,p.1≠b):Inv X ac σ H' s':=by
 obtain⟨h',g',d',t',o'⟩:=s';have e:o'=s.os:=ho;subst e;exact I.call (g':=g') (t':=t') (d':=d') u hok hg hch
end
abbrev XK:=Value->Option Addr->Hp->Prop
abbrev St:=List (Option V)
abbrev VK:=V->Hp->Prop
abbrev TE:=St->Hp->VK->Prop
abbrev TT:=St->Hp->(Bool->Hp->Prop)->Prop
abbrev TA:=St->Hp->(List V->Hp->Prop)->Prop
structure Ends where
 nx:St->Hp->Prop
 rt:VK
 bk:St->Hp->Prop:=λ_ _=>False
 ct:St->Hp->Prop:=λ_ _=>False
abbrev TS:=Ends->St->Hp->Prop
def EP(X:Cx)(ac:List (Addr×Obj))(σ:St)(Q:VK)(u:Value)(s':Shared):Prop:=∃v H',Inv X ac σ H' s'/\RelV v u/\Q v H'
def TP(X:Cx)(ac:List (Addr×Obj))(σ:St)(Q:Bool->Hp->Prop)(b:Bool)(s':Shared):Prop:=∃H',Inv X ac σ H' s'/\Q b H'
def AP(X:Cx)(ac:List (Addr×Obj))(σ:St)(Q:List V->Hp->Prop)(us:List Value)(s':Shared):Prop:=∃vs H',Inv X ac σ H' s'/\Vals vs us/\Q vs H'
def SP(X:Cx)(ac:List (Addr×Obj))(D:Ends)(f:Flow)(s':Shared):Prop:=
 match f with
 | .next=>∃σ' H',Inv X ac σ' H' s'/\D.nx σ' H'
 | .brk=>∃σ' H',Inv X ac σ' H' s'/\D.bk σ' H'
 | .cont=>∃σ' H',Inv X ac σ' H' s'/\D.ct σ' H'
 | .ret u=>∃v σ' H',Inv X ac σ' H' s'/\RelV v u/\D.rt v H'
def PE(X:Cx)(e:Expr)(t:TE):Prop:=
 ∀(ac:List (Addr×Obj)) (s:Shared) (σ:St) (H:Hp) (Q:VK),Inv X ac σ H s->t σ H Q->wpAny (model X.prog X.w) X.A (eval e X.env) (EP X ac σ Q) X.xe s
def PT(X:Cx)(e:Expr)(t:TT):Prop:=
 ∀(ac:List (Addr×Obj)) (s:Shared) (σ:St) (H:Hp) (Q:Bool->Hp->Prop),Inv X ac σ H s->t σ H Q->wpAny (model X.prog X.w) X.A (isTrue e X.env (eval e X.env)) (TP X ac σ Q) X.xe s
def PW(X:Cx)(e:Expr)(t:TT):Prop:=
 ∀(whole:Sem Value) (ac:List (Addr×Obj)) (s:Shared) (σ:St) (H:Hp) (Q:Bool->Hp->Prop),Inv X ac σ H s->t σ H Q->wpAny (model X.prog X.w) X.A (isTrue e X.env whole) (TP X ac σ Q) X.xe s
theorem PW.pt{X:Cx}{e:Expr}{t:TT}(h:PW X e t):PT X e t:=h _
def PA(X:Cx)(es:List Expr)(t:TA):Prop:=
 ∀(pos:Pos) (ac:List (Addr×Obj)) (s:Shared) (σ:St) (H:Hp) (Q:List V->Hp->Prop),Inv X ac σ H s->t σ H Q->wpAny (model X.prog X.w) X.A (spliced (backTo pos (starEach es X.env))) (AP X ac σ Q) X.xe s
def PS(X:Cx)(st:Stmt)(t:TS):Prop:=
 ∀(ac:List (Addr×Obj)) (s:Shared) (σ:St) (H:Hp) (D:Ends),Inv X ac σ H s->t D σ H->wpAny (model X.prog X.w) X.A (exec st X.env) (SP X ac D) X.xe s
def PSs(X:Cx)(st:List Stmt)(t:TS):Prop:=
 ∀(ac:List (Addr×Obj)) (s:Shared) (σ:St) (H:Hp) (D:Ends),Inv X ac σ H s->t D σ H->wpAny (model X.prog X.w) X.A (execs st X.env) (SP X ac D) X.xe s
theorem thn{α:Type}{t:Sem α}{Q Q':α->Shared->Prop}{M:Model}{A:Around}{E:Value->Shared->Prop}{s:Shared}(h:wpAny M A t Q E s)(hQ:∀a s,Q a s->Q' a s):wpAny M A t Q' E s:=tZ h hQ λ_ _ x=>x
section
variable{X:Cx}
theorem bin{a b:Expr}{ta tb:TE}(ha:PE X a ta)(hb:PE X b tb){ac:List (Addr×Obj)}{s:Shared}{σ:St}{H:Hp}{R:V->V->Hp->Prop}(I:Inv X ac σ H s)(h:ta σ H λx H1=>tb σ H1 λy H2=>R x y H2)
  {α:Type} {Q:α->Shared->Prop} {f:Value->Value->Sem α}
  (hf:∀v u s2 x y H2,Inv X ac σ H2 s2->RelV x v->RelV y u->R x y H2->wpAny (model X.prog X.w) X.A (f v u) Q X.xe s2) :
  wpAny (model X.prog X.w) X.A (eval a X.env) (λv s₁=>wpAny (model X.prog X.w) X.A (eval b X.env) (λu s₂=>wpAny (model X.prog X.w) X.A (f v u) Q X.xe s₂) X.xe s₁) X.xe s:=by
 refine thn (ha ac s σ H _ I h) λv s1 ⟨x,H1,I1,r1,q1⟩=>?_;refine thn (hb ac s1 σ H1 _ I1 q1) λu s2 ⟨y,H2,I2,r2,q2⟩=>?_;exact hf v u s2 x y H2 I2 r1 r2 q2
def kP(i:Nat):TE:=fun σ H Q=>∃v,σ[i]? = some (some v)/\Q v H
def tC(v:V):TE:=λ_ H Q=>Q v H
theorem pe_var{i:Nat}{x:Str}{pos:Pos}(hN:X.N[i]? = some x)(hv:Vis X.env.scope x)(hd:(x==("__debug__" :Str))=false:=by decide)(hcd:(x==("__classdict__" :Str))=false:=by decide):PE X (.Name x pos) (kP i):=by
 intro ac s σ H Q I h;obtain⟨v,e,h⟩:=h;obtain⟨m,hn,hl⟩:=I.loc;obtain⟨u,r,l⟩:=hl i x v hN e hv;have fin:EP X ac σ Q u s:=⟨v,H,I,r,h⟩;rcases l with⟨hk,hm⟩ | ⟨hk,c,hc,hcell⟩
 ·exact wpAny_Name (wpAny_loadName_local I.ok.kind hk hn hm fin) hd
 ·rcases hk with hk | hk
  ·exact wpAny_Name (wpAny_loadName_cell I.ok.kind hk hc hcell fin) hd
  ·exact wpAny_Name (wpAny_loadName_free I.ok.kind hk hc hcell fin hcd) hd
theorem jB{i j pos} :PE X (.Constant (.int i) j pos) (tC (.int i)):=λ_ _ _ H _ I h=>wpAny_Constant_int ⟨.int i,H,I.tok _,⟨_,rfl⟩,h⟩
theorem wB{b j pos} :PE X (.Constant (.bool b) j pos) (tC (.bl b)):=λ_ _ _ H _ I h=>Constant_bool ⟨.bl b,H,I,rfl,h⟩
theorem WB{j pos} :PE X (.Constant .none j pos) (tC .non):=λ_ _ _ H _ I h=>Constant_none ⟨.non,H,I,rfl,h⟩
theorem vX{x j pos} :PE X (.Constant (.str x) j pos) (tC (.str x)):=λ_ _ _ H _ I h=>Calls.Constant_str ⟨.str x,H,I.tok _,⟨_,rfl⟩,h⟩
def Gl(X:Cx)(x:Str):Prop:=X.env.kindOf x=some .globalImplicit
theorem QO{E:Value->Shared->Prop}{ac:List (Addr×Obj)}{s:Shared}{σ:St}{H:Hp}{x:Str}{u:Value}{pos:Pos}{Q:Value->Shared->Prop}(I:Inv X ac σ H s)(hg:Gl X x)(hm:X.mg x=some u)(h:Q u s)
  (hd:(x==("__debug__" :Str))=false:=by decide):wpAny (model X.prog X.w) X.A (eval (.Name x pos) X.env) Q E s:=
 Calls.Name_function_global I.ok.kind hg (Calls.loadGlobal_global (by rw[I.ok.glob];exact I.mod.glob.keeps I.bk) hm h) hd
theorem zA{E:Value->Shared->Prop}{ac:List (Addr×Obj)}{s:Shared}{σ:St}{H:Hp}{x:Str}{u:Value}{pos:Pos}{Q:Value->Shared->Prop}(I:Inv X ac σ H s)(hg:Gl X x)(hm:X.mg x=none)(hv:bootBuiltins x=some u)(h:Q u s)
  (hn:x≠"__name__":=by decide) (hd:(x==("__debug__" :Str))=false:=by decide):wpAny (model X.prog X.w) X.A (eval (.Name x pos) X.env) Q E s:=by
 obtain⟨mb,h1,h2⟩:=I.mod.blt;exact Calls.Name_function_global I.ok.kind hg (Calls.loadGlobal_builtin (by rw[I.ok.glob];exact I.mod.glob.keeps I.bk) hm (by rw[I.ok.blt];exact h1.keeps I.bk) ((h2 x hn).trans hv) h) hd
theorem zN{x:Str}{v:V}{u:Value}{pos:Pos}(hg:Gl X x)(hm:X.mg x=some u)(r:RelV v u)(hd:(x==("__debug__" :Str))=false:=by decide):PE X (.Name x pos) (tC v):=
 λ_ _ _ H _ I h=>QO I hg hm ⟨v,H,I,r,h⟩ hd
theorem PV{x:Str}{v:V}{u:Value}{pos:Pos}(hg:Gl X x)(hm:X.mg x=none)(hv:bootBuiltins x=some u)(r:RelV v u)(hn:x≠"__name__":=by decide)(hd:(x==("__debug__" :Str))=false:=by decide):PE X (.Name x pos) (tC v):=
 λ_ _ _ H _ I h=>zA I hg hm hv ⟨v,H,I,r,h⟩ hn hd
variable{a b:Expr}{ta tb:TE}{pos:Pos}
def PC(X:Cx)(op:CmpOp)(a b:Expr)(t:TE):Prop:=
 ∀(ac:List (Addr×Obj)) (s:Shared) (σ:St) (H:Hp) (Q:VK),Inv X ac σ H s->t σ H Q->
  wpAny (model X.prog X.w) X.A (eval a X.env) (λv s₁=>wpAny (model X.prog X.w) X.A (eval b X.env) (λu s₂=>wpAny (model X.prog X.w) X.A (compareOp op v u) (EP X ac σ Q) X.xe s₂) X.xe s₁) X.xe s
theorem LB(b:Expr){op:CmpOp}(h:op≠.In)(h2:op≠.NotIn):behindInMarks op b=false:=by
 have e1:(op==CmpOp.In)=false:=by cases op<;>first | rfl | exact absurd rfl h
 have e2:(op==CmpOp.NotIn)=false:=by cases op<;>first | rfl | exact absurd rfl h2
 cases b<;>simp [behindInMarks,e1,e2]
def tIsN(ta:TE):TE:=fun σ H Q=>ta σ H λx H1=>Q (.bl (decide (x=.non))) H1
def tNotN(ta:TE):TE:=fun σ H Q=>ta σ H λx H1=>Q (.bl (!decide (x=.non))) H1
theorem RelV.none_iff{x:V}{v:Value}(r:RelV x v):(v==Value.none)=decide (x=.non):=by
 cases x with
 | non=>cases r;rfl
 | bl _=>cases r;rfl
 | int _=>obtain⟨t,rfl⟩:=r;rfl
 | str _=>obtain⟨t,rfl⟩:=r;rfl
 | byt _=>obtain⟨t,rfl⟩:=r;rfl
 | flt _=>obtain⟨t,rfl⟩:=r;rfl
 | ref _=>cases r;rfl
 | ty _=>cases r;rfl
theorem WG{j pos'}(ha:PE X a ta):PC X .Is a (.Constant .none j pos') (tIsN ta):=by
 intro ac s σ H Q I h;refine thn (ha ac s σ H _ I h) λv s1 ⟨x,H1,I1,r1,q1⟩=>?_;exact Constant_none (is_none_gen ⟨.bl _,H1,I1,by rw[r1.none_iff];rfl,q1⟩)
theorem PX{j pos'}(ha:PE X a ta):PC X .IsNot a (.Constant .none j pos') (tNotN ta):=by
 intro ac s σ H Q I h;refine thn (ha ac s σ H _ I h) λv s1 ⟨x,H1,I1,r1,q1⟩=>?_;exact Constant_none (isnot_none_gen ⟨.bl _,H1,I1,by rw[r1.none_iff];rfl,q1⟩)
def tB(t:TE):TT:=fun σ H Q=>t σ H λx H1=>∃c,x=.bl c/\Q c H1
theorem pe_cmp{op:CmpOp}{t:TE}(h:PC X op a b t)(h1:behindInMarks op b=false:=by first | exact LB _ (by decide) (by decide) | rfl):PE X (.Compare a [op] [b] pos) t:=λac s σ H Q I hw=>wpAny_Compare1 (h ac s σ H Q I hw) h1
theorem BD{op:CmpOp}{t:TE}(h:PC X op a b t)(h1:behindInMarks op b=false:=by first | exact LB _ (by decide) (by decide) | rfl):PT X (.Compare a [op] [b] pos) (tB t):=by
 intro ac s σ H Q I hw;refine wpAny_isTrue_Compare1 (thn (h ac s σ H _ I hw) λv s1 h1=>thn h1 λu s2 h2=>thn h2 λc s3 ⟨x,H1,I1,r1,q1⟩=>?_) h1;obtain⟨d,rfl,q⟩:=q1;cases r1;exact wpAny_truthy_bool ⟨H1,I1,q⟩
theorem yE{e:Expr}{t:TE}(h:PE X e t)(he:∀whole,isTrue e X.env whole=(do let v<-whole;standAt e.pos;holding [v] (truthy v)):=by intro _;rfl):PT X e (tB t):=by
 intro ac s σ H Q I hw;refine isTrue_plain (thn (h ac s σ H _ I hw) λv s1 ⟨x,H1,I1,r1,q1⟩=>?_) (he _);obtain⟨d,rfl,q⟩:=q1;cases r1;exact wpAny_truthy_bool ⟨H1,I1,q⟩
variable{tA tB':TT}{rest:List Expr}
def tAnd(t u:TT):TT:=fun σ H Q=>t σ H λc H1=>if c=true then u σ H1 Q else Q false H1
def tOr(t u:TT):TT:=fun σ H Q=>t σ H λc H1=>if c=true then Q true H1 else u σ H1 Q
def tNot(t:TT):TT:=fun σ H Q=>t σ H λc H1=>Q (!c) H1
theorem CL(ha:PT X a tA):PW X (.BoolOp .And [a] pos) tA:=by
 intro wh ac s σ H Q I h;refine isTrue_and (thn (ha ac s σ H Q I h) λc s1 e=>?_);cases c with
 | true=>exact isTrue_and_nil e
 | false=>exact e
theorem yD(ha:PT X a tA):PW X (.BoolOp .Or [a] pos) tA:=by
 intro wh ac s σ H Q I h;refine isTrue_or (thn (ha ac s σ H Q I h) λc s1 e=>?_);cases c with
 | false=>exact isTrue_or_nil e
 | true=>exact e
theorem IW(ha:PT X a tA)(hb:PW X (.BoolOp .And (b::rest) pos) tB'):PW X (.BoolOp .And (a::b::rest) pos) (tAnd tA tB'):=by
 intro wh ac s σ H Q I h;refine isTrue_and (thn (ha ac s σ H _ I h) λc s1 ⟨H1,I1,q1⟩=>?_);cases c with
 | true=>exact hb wh ac s1 σ H1 Q I1 q1
 | false=>exact⟨H1,I1,q1⟩
theorem yM(ha:PT X a tA)(hb:PW X (.BoolOp .Or (b::rest) pos) tB'):PW X (.BoolOp .Or (a::b::rest) pos) (tOr tA tB'):=by
 intro wh ac s σ H Q I h;refine isTrue_or (thn (ha ac s σ H _ I h) λc s1 ⟨H1,I1,q1⟩=>?_);cases c with
 | true=>exact⟨H1,I1,q1⟩
 | false=>exact hb wh ac s1 σ H1 Q I1 q1
theorem yN(ha:PT X a tA):PT X (.UnaryOp .Not a pos) (tNot tA):=by
 intro ac s σ H Q I h;exact isTrue_not (ha ac s σ H (λc H1=>Q (!c) H1) I h)
def tAndV(ta tb:TE):TE:=fun σ H Q=>ta σ H λx H1=>∃c,x=.bl c/\if c=true then tb σ H1 Q else Q (.bl false) H1
theorem JA{op}{t:TE}(h:PE X a t):PE X (.BoolOp op [a] pos) t:=λac s σ H Q I hw=>BoolOp_one (h ac s σ H Q I hw)
theorem JB(ha:PE X a ta)(hb:PE X (.BoolOp .And (b::rest) pos) tb):PE X (.BoolOp .And (a::b::rest) pos) (tAndV ta tb):=by
 intro ac s σ H Q I h;refine BoolOp_and (thn (ha ac s σ H _ I h) λv s1 ⟨x,H1,I1,r1,q1⟩=>?_);obtain⟨c,rfl,q1⟩:=q1;cases r1;refine wpAny_truthy_bool ?_;cases c with
 | true=>exact hb ac s1 σ H1 Q I1 q1
 | false=>exact⟨.bl false,H1,I1,rfl,q1⟩
def tIf(t:TT)(ta tb:TE):TE:=fun σ H Q=>t σ H λc H1=>if c=true then ta σ H1 Q else tb σ H1 Q
theorem KS{c:Expr}(hc:PT X c tA)(ha:PE X a ta)(hb:PE X b tb):PE X (.IfExp c a b pos) (tIf tA ta tb):=by
 intro ac s σ H Q I h;refine wpAny_IfExp (thn (hc ac s σ H _ I h) λd s1 ⟨H1,I1,q1⟩=>?_);cases d with
 | true=>exact ha ac s1 σ H1 Q I1 q1
 | false=>exact hb ac s1 σ H1 Q I1 q1
end
def SqL(K:dD)(H:Hp)(a:Addr)(xs:List V):Prop:=
 Rd H a (.lst xs)∨
  ∃(o:Obj) (its:Array Value) (n:Nat),K.lookup a=some o/\o.cls=.type "list"/\o.dict=none/\o.data=.seq its n/\its.size<=sizeLine/\Vals xs its.toList
def SqT(K:dD)(H:Hp)(a:Addr)(xs:List V):Prop:=
 Rd H a (.tup xs)∨
  ∃(o:Obj) (its:Array Value) (n:Nat),K.lookup a=some o/\o.cls=.type "tuple"/\o.data=.seq its n/\its.size<=sizeLine/\Vals xs its.toList
def absV:Value->Option V
 | .none=>some .non
 | .bool b=>some (.bl b)
 | .int i _=>some (.int i)
 | .str x _=>some (.str x)
 | .bytes b _=>some (.byt b)
 | .float b _=>some (.flt b)
 | .ref a=>some (.ref a)
 | .type n=>some (.ty n)
 | _=>none
theorem RelV.abs{x:V}{u:Value}(r:RelV x u):absV u=some x:=by
 cases x with
 | non=>cases r;rfl
 | bl _=>cases r;rfl
 | int _=>obtain⟨t,rfl⟩:=r;rfl
 | str _=>obtain⟨t,rfl⟩:=r;rfl
 | byt _=>obtain⟨t,rfl⟩:=r;rfl
 | flt _=>obtain⟨t,rfl⟩:=r;rfl
 | ref _=>cases r;rfl
 | ty _=>cases r;rfl
theorem RelV.inj{x y:V}{u:Value}(r:RelV x u)(q:RelV y u):x=y:=Option.some.inj (r.abs.symm.trans q.abs)
theorem Vals.inj:∀{xs ys:List V} {us:List Value},Vals xs us->Vals ys us->xs=ys
 | _,_,_,.nil,.nil=>rfl
 | _,_,_,.cons r t,.cons r' t'=>by rw[r.inj r',Vals.inj t t']
section
variable{X:Cx}{ac:List (Addr×Obj)}{σ:St}{H:Hp}{s:Shared}{a:Addr}{xs ys:List V}
theorem SqL.of{K:dD}(h:H a=some (.lst xs)):SqL K H a xs:=.inl (.inl h)
theorem SqT.of{K:dD}(h:H a=some (.tup xs)):SqT K H a xs:=.inl (.inl h)
theorem Inv.list(I:Inv X ac σ H s)(h:SqL X.K H a xs):∃its:List Value,Vals xs its/\PlainL s.heap a its.toArray/\xs.length<=sizeLine:=by
 rcases h with h | ⟨o,its,n,hk,hc,hd,hs,hz,r⟩
 ·obtain⟨z,its,n,r,e⟩:=h.ok I.hok;exact⟨its,r,⟨_,n,e,rfl,rfl,rfl⟩,z⟩
 ·refine⟨its.toList,r,⟨o,n,I.kIn a o hk,hc,hd,by simpa using hs⟩, ?_⟩;have e:=r.length;simp only[Array.length_toList]at e;omega
theorem Inv.tuple(I:Inv X ac σ H s)(h:SqT X.K H a xs):∃its:List Value,Vals xs its/\IsTup s.heap a its.toArray/\xs.length<=sizeLine:=by
 rcases h with h | ⟨o,its,n,hk,hc,hs,hz,r⟩
 ·obtain⟨z,its,r,p⟩:=h.ok I.hok;exact⟨its,r,p.1,z⟩
 ·refine⟨its.toList,r,⟨o,I.kIn a o hk,hc,n,by simpa using hs⟩, ?_⟩;have e:=r.length;simp only[Array.length_toList]at e;omega
theorem Inv.list_inj(I:Inv X ac σ H s)(h:SqL X.K H a xs)(h':SqL X.K H a ys):xs=ys:=by
 obtain⟨its,r,⟨o,n,e,_,_,d⟩,_⟩:=I.list h;obtain⟨its',r',⟨o',n',e',_,_,d'⟩,_⟩:=I.list h';rw[e]at e';cases e';rw[d]at d';injection d' with d1 _
 have:its=its':=by simpa using congrArg Array.toList d1
 subst this;exact r.inj r'
theorem Inv.tuple_inj(I:Inv X ac σ H s)(h:SqT X.K H a xs)(h':SqT X.K H a ys):xs=ys:=by
 obtain⟨its,r,⟨o,e,_,n,d⟩,_⟩:=I.tuple h;obtain⟨its',r',⟨o',e',_,n',d'⟩,_⟩:=I.tuple h';rw[e]at e';cases e';rw[d]at d';injection d' with d1 _
 have:its=its':=by simpa using congrArg Array.toList d1
 subst this;exact r.inj r'
end
abbrev Cx.wish(X:Cx)(E:Value->Shared->Prop):Cx:={ X with xe:=E }
abbrev Cx.nox(X:Cx):Cx:=X.wish λ_ _=>False
theorem Cx.Ok.wish{X:Cx}(ok:X.Ok)(E:Value->Shared->Prop):(X.wish E).Ok:=
 ⟨ok.mod,ok.kind,ok.glob,ok.blt,ok.above,ok.inj,ok.has,ok.cab,ok.hd,ok.frames,ok.stk,ok.exf,ok.bs,ok.bsz,ok.noex,ok.exfs,ok.funs,ok.frf⟩
theorem Cx.Ok.unwish{X:Cx}{E:Value->Shared->Prop}(ok:(X.wish E).Ok):X.Ok:=
 ⟨ok.mod,ok.kind,ok.glob,ok.blt,ok.above,ok.inj,ok.has,ok.cab,ok.hd,ok.frames,ok.stk,ok.exf,ok.bs,ok.bsz,ok.noex,ok.exfs,ok.funs,ok.frf⟩
section
variable{X:Cx}{ac:List (Addr×Obj)}{σ:St}{H:Hp}{s:Shared}{E:Value->Shared->Prop}
theorem Inv.wish(I:Inv X ac σ H s)(E:Value->Shared->Prop):Inv (X.wish E) ac σ H s:=⟨I.ok.wish E,I.os,I.bare,I.base,I.loc,I.cell,I.free,I.freeC,I.pin,I.hok,I.len⟩
theorem Inv.unwish(I:Inv (X.wish E) ac σ H s):Inv X ac σ H s:=⟨I.ok.unwish,I.os,I.bare,I.base,I.loc,I.cell,I.free,I.freeC,I.pin,I.hok,I.len⟩
theorem SP.unwish{D:Ends}{f:Flow}{s':Shared}(h:SP (X.wish E) ac D f s'):SP X ac D f s':=by
 cases f with
 | next=>obtain⟨σ',H',I,q⟩:=h;exact⟨σ',H',I.unwish,q⟩
 | brk=>obtain⟨σ',H',I,q⟩:=h;exact⟨σ',H',I.unwish,q⟩
 | cont=>obtain⟨σ',H',I,q⟩:=h;exact⟨σ',H',I.unwish,q⟩
 | ret u=>obtain⟨v,σ',H',I,r,q⟩:=h;exact⟨v,σ',H',I.unwish,r,q⟩
theorem PSs.nox{st:List Stmt}{t:TS}(h:PSs X.nox st t):PSs X st t:=λac s σ H D I hw=>
 tZ (h ac s σ H D (I.wish _) hw) (λ_ _ q=>q.unwish) λ_ _ z=>False.elim z
end
section
variable{X:Cx}{st:Stmt}{rest:List Stmt}{t u:TS}{e:Expr}{te:TE}{pos:Pos}
def tNext:TS:=λD σ H=>D.nx σ H
def qU(t u:TS):TS:=λD σ H=>t { D with nx:=u D } σ H
theorem kD:PSs X [] tNext:=λ_ _ σ H _ I h=>wpAny_execs_nil ⟨σ,H,I,h⟩
theorem jD(h1:PS X st t)(h2:PSs X rest u):PSs X (st::rest) (qU t u):=by
 intro ac s σ H D I h;refine wpAny_execs_cons (thn (h1 ac s σ H { D with nx:=u D } I h) λf s1 q=>?_);cases f with
 | next=>
  obtain⟨σ',H',I',q⟩:=q;exact h2 ac s1 σ' H' D I' q
 | ret v=>exact q
 | brk=>exact q
 | cont=>exact q
theorem jF(h1:PS X st t):PSs X [st] t:=by
 intro ac s σ H D I h;refine wpAny_execs_cons (thn (h1 ac s σ H D I h) λf s1 q=>?_);cases f with
 | next=>exact wpAny_execs_nil q
 | ret v=>exact q
 | brk=>exact q
 | cont=>exact q
theorem Inv.quiet{ac:List (Addr×Obj)}{σ:St}{H:Hp}{s:Shared}(I:Inv X ac σ H s):interactive X.env=false:=by simp [interactive,I.ok.kind]
def tDrop(te:TE):TS:=λD σ H=>te σ H λ_ H1=>D.nx σ H1
theorem xJ(he:PE X e te)(hs:swapsWith e none pos.line X.env=pure false:=by rfl):PS X (.Expr e pos) (tDrop te):=by
 intro ac s σ H D I h;exact wpAny_Expr_any (thn (he ac s σ H _ I h) λv s1 ⟨x,H1,I1,r1,q1⟩=>⟨σ,H1,I1,q1⟩) I.quiet hs
def SC(te:TE):TS:=λD σ H=>te σ H D.rt
theorem jU(he:PE X e te):PS X (.Return (some e) pos) (SC te):=by
 intro ac s σ H D I h;exact wpAny_Return_some (thn (he ac s σ H _ I h) λv s1 ⟨x,H1,I1,r1,q1⟩=>⟨x,σ,H1,I1,r1,q1⟩)
def tIfS(c:TT)(t u:TS):TS:=λD σ H=>c σ H λb H1=>if b=true then t D σ H1 else u D σ H1
theorem kS{c:Expr}{a b:List Stmt}{tc:TT}(hc:PT X c tc)(ha:PSs X a t)(hb:PSs X b u):PS X (.If c a b pos) (tIfS tc t u):=by
 intro ac s σ H D I h;refine wpAny_If (thn (hc ac s σ H _ I h) λd s1 ⟨H1,I1,q1⟩=>?_);cases d with
 | true=>exact ha ac s1 σ H1 D I1 q1
 | false=>exact hb ac s1 σ H1 D I1 q1
def tNever:TS:=λ_ _ _=>False
theorem KP:PS X st tNever:=λ_ _ _ _ _ _ h=>h.elim
theorem SR{sts:List Stmt} :PSs X sts tNever:=λ_ _ _ _ _ _ h=>h.elim
end
abbrev TG:=V->St->Hp->(St->Hp->Prop)->Prop
abbrev TGs:=List V->St->Hp->(St->Hp->Prop)->Prop
def PG(X:Cx)(target:Expr)(t:TG):Prop:=
 ∀(ac:List (Addr×Obj)) (s:Shared) (σ:St) (H:Hp) (v:V) (u:Value) (Q:St->Hp->Prop),Inv X ac σ H s->RelV v u->t v σ H Q->
  wpAny (model X.prog X.w) X.A (assign target X.env u) (λ_ s'=>∃σ' H',Inv X ac σ' H' s'/\Q σ' H') X.xe s
def PGs(X:Cx)(ts:List Expr)(t:TGs):Prop:=
 ∀(ac:List (Addr×Obj)) (s:Shared) (σ:St) (H:Hp) (vs:List V) (us:List Value) (Q:St->Hp->Prop),Inv X ac σ H s->Vals vs us->t vs σ H Q->
  wpAny (model X.prog X.w) X.A (assignInOrder ((assignEach ts X.env).map (·.2)) us) (λ_ s'=>∃σ' H',Inv X ac σ' H' s'/\Q σ' H') X.xe s
abbrev TSet:=V->V->V->Hp->(Hp->Prop)->Prop
def PSet(X:Cx)(t:TSet):Prop:=
 ∀(ac:List (Addr×Obj)) (s:Shared) (σ:St) (H:Hp) (o i v:V) (ov iv u:Value) (Q:Hp->Prop),Inv X ac σ H s->RelV o ov->RelV i iv->RelV v u->t o i v H Q->
  wpAny (model X.prog X.w) X.A (setItem ov iv u) (λ_ s'=>∃H',Inv X ac σ H' s'/\Q H') X.xe s
section
variable{X:Cx}{pos:Pos}
def kT(i:Nat):TG:=λv σ H Q=>Q (σ.set i (some v)) H
theorem jI{i:Nat}{x:Str}(hN:X.N.Nodup)(hi:X.N[i]? = some x)(hx:Loc X.env.scope x)(hf:X.fn x=true∨X.env.scope.names.lookup x=some .local:=by first | exact .inl rfl | exact .inr rfl | assumption):PG X (.Name x pos) (kT i):=by
 intro ac s σ H v u Q I r h;exact wpAny_assign_Name (uP I hN hi hx r (λs' I'=>⟨_,H,I',h⟩) hf)
def gNil:TGs:=λvs σ H Q=>vs=[]/\Q σ H
def wP(t:TG)(u:TGs):TGs:=λvs σ H Q=>∃v r,vs=v::r/\t v σ H fun σ' H'=>u r σ' H' Q
theorem kN:PGs X [] gNil:=by
 intro ac s σ H vs us Q I r h;obtain⟨e,h⟩:=h;subst e;cases r;exact assignInOrder_nil ⟨σ,H,I,h⟩
theorem jQ{e:Expr}{es:List Expr}{t:TG}{u:TGs}(h1:PG X e t)(h2:PGs X es u)
  (hs:(assignEach (e::es) X.env).map (·.2)=assign e X.env::(assignEach es X.env).map (·.2):=by rfl):PGs X (e::es) (wP t u):=by
 intro ac s σ H vs us Q I r h;obtain⟨v,vr,e1,h⟩:=h;subst e1;cases r with
 | cons r rr=>
  rw[hs];refine assignInOrder_cons (thn (h1 ac s σ H _ _ _ I r h) λ_ s1 ⟨σ1,H1,I1,q1⟩=>?_);exact h2 ac s1 σ1 H1 _ _ Q I1 rr q1
def TU(K:dD)(n:Nat)(t:TGs):TG:=λv σ H Q=>∃a xs,v=.ref a/\SqT K H a xs/\xs.length=n/\t xs σ H Q
theorem qI{es:List Expr}{k:Nat}{t:TGs}{n:Nat}(hc:X.calm=true)(h:PGs X es t)
  (hn:(assignEach es X.env).length=n:=by rfl) (hst:(assignEach es X.env).findIdx? (·.1)=none:=by rfl):PG X (.Tuple es k pos) (TU X.K n t):=by
 intro ac s σ H v u Q I r hw;obtain⟨a,xs,e1,hq,hl,hw⟩:=hw;subst e1;cases r;obtain⟨its,rv,ht,hz⟩:=I.tuple hq;refine assign_Tuple_tuple (I.ok.hd hc) ht (by simp [hn,<-hl,rv.length]) hst λh' hx=>?_;have I1:Inv X ac σ H { s with heap:=h' } :=I.kept (t':=s.toks) λb o e=>hx b o (tE (nZ e)) e;exact h ac _ σ H xs _ Q I1 (by simpa using rv) hw
def LO(to ti:TE)(t:TSet):TG:=λv σ H Q=>to σ H λo H1=>ti σ H1 λi H2=>t o i v H2 λH3=>Q σ H3
theorem wK{o i:Expr}{to ti:TE}{t:TSet}(ho:PE X o to)(hi:PE X i ti)(hs:PSet X t)
  (ha:∀v,assign (.Subscript o i pos) X.env v=(do
   let ov<-holding [v] (eval o X.env);let iv<-holding [v,ov] (eval i X.env)
   standAt pos
   holding [v,ov,iv] (setItem ov iv v)
   release [v,ov,iv] []):=by intro _;rfl):PG X (.Subscript o i pos) (LO to ti t):=by
 intro ac s σ H v u Q I r h;rw[ha];refine tX (wpAny_holding (thn (ho ac s σ H _ I h) λov s1 ⟨x,H1,I1,r1,q1⟩=>?_));refine tX (wpAny_holding (thn (hi ac s1 σ H1 _ I1 q1) λiv s2 ⟨y,H2,I2,r2,q2⟩=>?_));refine tX (wpAny_standAt (tX (wpAny_holding (thn (hs ac s2 σ H2 x y v ov iv u _ I2 r1 r2 r q2) λ_ s3 ⟨H3,I3,q3⟩=>?_))));exact wpAny_release ⟨σ,H3,I3,q3⟩
def wD(te:TE)(g:TG):TS:=λD σ H=>te σ H λx H1=>g x σ H1 D.nx
theorem qW{tg e:Expr}{te:TE}{g:TG}(he:PE X e te)(hg:PG X tg g)(hs:swapsWithSole [tg] e pos.line X.env=pure false:=by rfl)(hw:swappedStores [tg] e X.env=pure none:=by rfl)
  (h1:(assignEach [tg] X.env).map (·.2)=[assign tg X.env]:=by rfl):PS X (.Assign [tg] e pos) (wD te g):=by
 intro ac s σ H D I h;refine wpAny_Assign_stores (thn (he ac s σ H _ I h) λv s1 ⟨x,H1,I1,r1,q1⟩=>?_) hs hw;rw[h1];exact thn (hg ac s1 σ H1 x v _ I1 r1 q1) λ_ s2 q=>q
theorem jP{i:Nat}{x:Str}{e:Expr}{te:TE}{pos':Pos}(hN:X.N.Nodup)(hi:X.N[i]? = some x)(hx:Loc X.env.scope x)(he:PE X e te)(hs:swapsWith e (some (.Name x pos')) pos.line X.env=pure false:=by rfl)(hf:X.fn x=true∨X.env.scope.names.lookup x=some .local:=by first | exact .inl rfl | exact .inr rfl | assumption) :
  PS X (.Assign [.Name x pos'] e pos) (wD te (kT i)):=by
 intro ac s σ H D I h;refine wpAny_Assign_Name (thn (he ac s σ H _ I h) λv s1 ⟨y,H1,I1,r1,q1⟩=>?_) hs;exact uP I1 hN hi hx r1 (λs2 I2=>⟨_,H1,I2,q1⟩) hf
def tPar(i j:Nat)(ta:TA):TS:=λD σ H=>ta σ H λvs H1=>∃v w,vs=[v,w]/\D.nx ((σ.set i (some v)).set j (some w)) H1
theorem NL{i j:Nat}{x y:Str}{a b:Expr}{ta:TA}{px py pt:Pos}{kt k2 pt2}(hc:X.calm=true)(hN:X.N.Nodup)(hi:X.N[i]? = some x)(hj:X.N[j]? = some y)(hij:i≠j)
  (hx:X.env.scope.names.lookup x=some .local) (hy:X.env.scope.names.lookup y=some .local) (ha:PA X [a,b] ta)
  (hw:swappedStores [.Tuple [.Name x px,.Name y py] kt pt] (.Tuple [a,b] k2 pt2) X.env=pure (some [x,y]))
  (hs:swapsWithSole [.Tuple [.Name x px,.Name y py] kt pt] (.Tuple [a,b] k2 pt2) pos.line X.env=pure false:=by rfl) :
  PS X (.Assign [.Tuple [.Name x px,.Name y py] kt pt] (.Tuple [a,b] k2 pt2) pos) (tPar i j ta):=by
 intro ac s σ H D I h;rw[exec_Assign_arm];refine tX (wpAny_standAt ?_);rw[hs];refine tX (tY ?_);rw[dA (by decide)];refine tX (Tuple_ (thn (ha _ ac s σ H _ I h) λus s1 ⟨vs,H1,I1,r1,q1⟩=>?_));obtain⟨v,w,e1,q1⟩:=q1;subst e1;obtain⟨u1,u2,rfl,rv,rw'⟩:∃u1 u2,us=[u1,u2]/\RelV v u1/\RelV w u2:=by
  cases r1 with
  | cons p q=>
   cases q with
   | cons p' q'=>
    cases q';exact⟨_,_,rfl,p,p'⟩
 refine wpAny_newObj_type ?_ uX ;have I2:Inv X ac σ H1 { s1 with heap:=s1.heap.push { cls:=.type "tuple",data:=.seq [u1,u2].toArray } } :=I1.kept (t':=s1.toks) λb o e=>gI _ e;rw[hw];refine tX (tY ?_);show wpAny (model X.prog X.w) X.A (do rule "assign.swapped-stores";let items<-unpackItems (.ref s1.heap.objs.size) 2 none;assignInOrder [λv=>bindName X.env y v,λv=>bindName X.env x v] items.reverse;pure Flow.next) _ _ _;refine tX (wpAny_rule (tX (unpackItems_tuple (items:=#[u1,u2]) (I.ok.hd hc) (IsTup.new s1.heap _) λh' hx'=>?_)));have I3:=I2.kept (h':=h') (t':=s1.toks) λb o e=>hx' b o (tE (nZ e)) e;show wpAny _ _ (assignInOrder [λv=>bindName X.env y v,λv=>bindName X.env x v] [u2,u1] >>= λ_=>pure Flow.next) _ _ _;refine tX (assignInOrder_cons (wpAny_bindName (uP I3 hN hj (.inl hy) rw' (λs2 I4=>?_) (.inr hy))));refine assignInOrder_cons (wpAny_bindName (uP I4 hN hi (.inl hx) rv (λs3 I5=>assignInOrder_nil (tY ?_)) (.inr hx)));rw[List.set_comm _ _ (Ne.symm hij)]at I5;exact⟨_,H1,I5,q1⟩
end
section
variable{X:Cx}{pos:Pos}
def MX(c:TT)(tb:TS):TS:=λD σ H=>∃W:Nat->St->Hp->Prop,(∃m,W m σ H)/\∀m σ H,W m σ H->
 c σ H λb H1=>if b=true then ∃N:St->Hp->Prop,(∀σ' H',N σ' H'->∃m',m'<m/\W m' σ' H')/\tb { D with nx:=N,ct:=N,bk:=D.nx } σ H1 else D.nx σ H1
theorem KO{c:Expr}{body:List Stmt}{tc:TT}{tb:TS}(hp:PassesOwn (model X.prog X.w) X.A X.env X.xe)(hc:PT X c tc)(hb:PSs X body tb):PS X (.While c body [] pos) (MX tc tb):=by
 intro ac s σ H D I h;obtain⟨W,⟨m0,w0⟩,turn⟩:=h;refine wpAny_While (codeAny_whileLoop (λn s'=>∃σ' H',Inv X ac σ' H' s'/\W n σ' H') ?_ m0 ⟨σ,H,I,w0⟩);rintro n s1 ⟨σ1,H1,I1,w1⟩;refine wpAny_passesOwn hp (thn (hc ac s1 σ1 H1 _ I1 (turn n σ1 H1 w1)) λb s2 ⟨H2,I2,q2⟩=>?_);cases b with
 | true=>
  obtain⟨N,hN,q2⟩:=q2;rw[dC rfl];refine wpAny_passesOwn hp (thn (hb ac s2 σ1 H2 _ I2 q2) λf s3 q3=>?_);cases f with
  | next=>
   obtain⟨σ3,H3,I3,n3⟩:=q3;obtain⟨m',hm,w3⟩:=hN σ3 H3 n3;exact⟨m',hm,σ3,H3,I3,w3⟩
  | cont=>
   obtain⟨σ3,H3,I3,n3⟩:=q3;obtain⟨m',hm,w3⟩:=hN σ3 H3 n3;exact⟨m',hm,σ3,H3,I3,w3⟩
  | brk=>exact q3
  | ret v=>exact q3
 | false=>
  rw[dA hV];exact wpAny_execs_nil ⟨σ1,H2,I2,q2⟩
end
structure It where
 go:Nat->Hp->Prop
 yld:Nat->Hp->V->Hp->Prop
 stop:Nat->Hp->Prop
def FpOk(X:Cx)(ac:List (Addr×Obj))(H:Hp)(b:Addr):Prop:=
 H b=none/\b≠X.env.locals/\b∉X.fs/\(b∈X.ex∨X.s₀.heap.objs.size<=b)/\(∀x c,X.env.cells.lookup x=some c->c≠b)/\∀p∈X.pn++ac,p.1≠b
theorem Inv.fpOk{X:Cx}{ac:List (Addr×Obj)}{σ:St}{H H':Hp}{s:Shared}{b:Addr}(I:Inv X ac σ H s)(hb:s.heap.objs.size<=b)(hn:H' b=none):FpOk X ac H' b:=by
 refine⟨hn,Nat.ne_of_gt (mB I.lt hb),I.nofs hb,.inr (tD I.sz hb),λx c e z=>?_,λp hp z=>?_⟩
 ·obtain⟨v,q⟩:=I.cell x c e;exact absurd (mB q.lt (by rw[z];exact hb)) (nV _)
 ·exact absurd (mB (nZ (I.pin p hp).1) (by rw[z];exact hb)) (nV _)
structure Turn(P:Program)(w:World)(K:dD)(tg:Expr)(J:It)(fp:List Addr)(it:Addr)(tn:Nat->Heap->Prop):Prop where
 mem:it∈fp
 obj:∀i h,tn i h->∀b∈fp,∃o,h.get? b=some o/\∀v,o.data≠.cell v
 keep:∀i h h',tn i h->(∀b∈fp,∀o,h.get? b=some o->h'.get? b=some o)->tn i h'
 item:∀(X:Cx),X.prog=P->X.w=w->X.K=K->X.calm=true->∀(i:Nat) (ac:List (Addr×Obj)) (s:Shared) (σ:St) (H:Hp) (E:Value->Shared->Prop),Inv X ac σ H s->(∀b∈fp,FpOk X ac H b)->tn i s.heap->J.go i H->
  wpAny (model P w) X.A (pyNext (.ref it)) (λr s1=>∃u,r=some u/\
   wpAny (model P w) X.A (letOwnedTupleGo tg (.ref it) u) (λ_ s2=>∃x H',Inv X ac σ H' s2/\RelV x u/\J.yld i H x H'/\tn (i+1) s2.heap/\∀b∈fp,H' b=none) E s1) E s
 done:∀(X:Cx),X.prog=P->X.w=w->X.K=K->X.calm=true->∀(i:Nat) (ac:List (Addr×Obj)) (s:Shared) (σ:St) (H:Hp) (E:Value->Shared->Prop),Inv X ac σ H s->(∀b∈fp,FpOk X ac H b)->tn i s.heap->J.stop i H->
  wpAny (model P w) X.A (pyNext (.ref it)) (λr s1=>r=none/\Inv X ac σ H s1) E s
 self:∀(A:Around) (i:Nat) (s:Shared) (Q:Value->Shared->Prop) (E:Value->Shared->Prop),tn i s.heap->Q (.ref it) s->wpAny (model P w) A (pyIter (.ref it)) Q E s
abbrev TI:=St->Hp->(It->Hp->Prop)->Prop
def PIE(X:Cx)(ac:List (Addr×Obj))(σ:St)(tg:Expr)(R:It->Hp->Prop)(itv:Value)(s2:Shared):Prop:=
 ∃(it:Addr) (fp:List Addr) (tn:Nat->Heap->Prop) (J:It) (H':Hp),itv=.ref it/\Inv X ac σ H' s2/\Turn X.prog X.w X.K tg J fp it tn/\tn 0 s2.heap/\(∀b∈fp,FpOk X ac H' b)/\R J H'
def PI(X:Cx)(tg iter:Expr)(wi:TI):Prop:=
 ∀(ac:List (Addr×Obj)) (s:Shared) (σ:St) (H:Hp) (R:It->Hp->Prop),Inv X ac σ H s->wi σ H R->
  wpAny (model X.prog X.w) X.A (eval iter X.env) (λv s1=>wpAny (model X.prog X.w) X.A (pyIter v) (PIE X ac σ tg R) X.xe s1) X.xe s
theorem LM{M:Model}{A:Around}{E:Value->Shared->Prop}{s:Shared}{tg:Expr}{it:Addr}{u:Value}{o:Obj}{n:String}{vs:Array Value}{Q:Unit->Shared->Prop}(ho:s.heap.get? it=some o)(hc:o.cls=.type n)(hd:o.data=.fields vs)
  (hn:["enumerate","zip","dict_itemiterator","dict_reverseitemiterator","odict_iterator","itertools.zip_longest","itertools.pairwise"].contains n=false) (hQ:Q () s):wpAny M A (letOwnedTupleGo tg (.ref it) u) Q E s:=by
 unfold letOwnedTupleGo;cases tg<;>first
  | exact tY hQ
  | (cases u<;>first
    | exact tY hQ
    | (refine tX (wpAny_load ho ?_);rw[hc,hd];show wpAny M A (if (["enumerate","zip","dict_itemiterator","dict_reverseitemiterator","odict_iterator","itertools.zip_longest","itertools.pairwise"].contains n&&vs[0]? ==some (rawInt _))=true then _ else _) Q E s;rw[dA (by intro h;rw[hn,Bool.false_and]at h;cases h)];exact tY hQ))
def Itl(K:dD)(a:Addr):It:=
 ⟨λi H=>∃xs x,SqL K H a xs/\xs[i]? = some x,λi H x H'=>H'=H/\∀xs,SqL K H a xs->xs[i]? = some x,λi H=>∃xs,SqL K H a xs/\xs.length<=i⟩
def Itt(K:dD)(a:Addr):It:=
 ⟨λi H=>∃xs x,SqT K H a xs/\xs[i]? = some x,λi H x H'=>H'=H/\∀xs,SqT K H a xs->xs[i]? = some x,λi H=>∃xs,SqT K H a xs/\xs.length<=i⟩
def Itr(lo:Int)(n:Nat):It:=⟨λi _=>i<n,λi H x H'=>H'=H/\x=.int (lo+i),λi _=>n<=i⟩
theorem RW{P:Program}{w:World}{K:dD}{tg:Expr}(a it:Addr):Turn P w K tg (Itl K a) [it] it (λi h=>h.IsListIter it a i) where
 mem:=by simp
 obj:=λi h st b hb=>by
  have e:b=it:=by simpa using hb
  subst e;obtain⟨o,e,c,d⟩:=st;exact⟨o,e,λv z=>by rw[d]at z;cases z⟩
 keep:=λi h h' st k=>st.at λo e=>k it (by simp) o e
 item:=by
  intro X hP hw hK hc i ac s σ H E I hf st hg;subst hP hw hK;obtain⟨xs,x,hq,hx⟩:=hg;obtain⟨its,rv,p,hz⟩:=I.list hq;obtain⟨u,hu,ru⟩:=rv.get hx;obtain⟨f0,f1,f2,f3,f4,f5⟩:=hf it (by simp);refine wpAny_pyNext_list_item st p.isList (x:=u) (by simpa using hu) λh' st' sb=>?_;have I1:Inv X ac σ H { s with heap:=h' } :=I.turned (t':=s.toks) (λb o hb e=>(sb.2 b hb).trans e) f0 f1 f3 f4 f5;obtain⟨o,e,c,d⟩:=id st';exact⟨u,rfl,LM (s:={ s with heap:=h' }) e c d (by decide) ⟨x,H,I1,ru,⟨rfl,λys hy=>by rw[I.list_inj hy hq];exact hx⟩,st',λb hb=>(hf b hb).1⟩⟩
 done:=by
  intro X hP hw hK hc i ac s σ H E I hf st hg;subst hP hw hK;obtain⟨xs,hq,hx⟩:=hg;obtain⟨its,rv,p,hz⟩:=I.list hq;obtain⟨f0,f1,f2,f3,f4,f5⟩:=hf it (by simp);have hl:=rv.length;exact wpAny_pyNext_list_end (I.ok.hd hc) st p.isList (by simp;omega) λh' eb=>⟨rfl,I.turned (t':=s.toks) (λb o hb e=>eb b o hb e) f0 f1 f3 f4 f5⟩
 self:=λ_ _ _ _ _ st h=>wpAny_pyIter_listiter st h
theorem MR{P:Program}{w:World}{K:dD}{tg:Expr}(a it:Addr):Turn P w K tg (Itt K a) [it] it (λi h=>h.IsTupleIter it a i) where
 mem:=by simp
 obj:=λi h st b hb=>by
  have e:b=it:=by simpa using hb
  subst e;obtain⟨o,e,c,d⟩:=st;exact⟨o,e,λv z=>by rw[d]at z;cases z⟩
 keep:=λi h h' st k=>st.at λo e=>k it (by simp) o e
 item:=by
  intro X hP hw hK hc i ac s σ H E I hf st hg;subst hP hw hK;obtain⟨xs,x,hq,hx⟩:=hg;obtain⟨its,rv,p,hz⟩:=I.tuple hq;obtain⟨u,hu,ru⟩:=rv.get hx;obtain⟨f0,f1,f2,f3,f4,f5⟩:=hf it (by simp);refine wpAny_pyNext_tuple_item st (show s.heap.IsTuple a its.toArray from p) (x:=u) (by simpa using hu) λh' st' sb=>?_;have I1:Inv X ac σ H { s with heap:=h' } :=I.turned (t':=s.toks) (λb o hb e=>(sb.2 b hb).trans e) f0 f1 f3 f4 f5;obtain⟨o,e,c,d⟩:=id st';exact⟨u,rfl,LM (s:={ s with heap:=h' }) e c d (by decide) ⟨x,H,I1,ru,⟨rfl,λys hy=>by rw[I.tuple_inj hy hq];exact hx⟩,st',λb hb=>(hf b hb).1⟩⟩
 done:=by
  intro X hP hw hK hc i ac s σ H E I hf st hg;subst hP hw hK;obtain⟨xs,hq,hx⟩:=hg;obtain⟨its,rv,p,hz⟩:=I.tuple hq;obtain⟨f0,f1,f2,f3,f4,f5⟩:=hf it (by simp);have hl:=rv.length;exact wpAny_pyNext_tuple_end (I.ok.hd hc) st (show s.heap.IsTuple a its.toArray from p) (by simp;omega) λh' eb=>⟨rfl,I.turned (t':=s.toks) (λb o hb e=>eb b o hb e) f0 f1 f3 f4 f5⟩
 self:=λ_ _ _ _ _ st h=>wpAny_pyIter_tupleiter st h
theorem MS{P:Program}{w:World}{K:dD}{tg:Expr}(it:Addr)(lo:Int)(n:Nat):Turn P w K tg (Itr lo n) [it] it (λi h=>IsRangeIter h it (lo+(i:Nat)*1) ((n:Int)-(i:Nat)) 1) where
 mem:=by simp
 obj:=λi h st b hb=>by
  have e:b=it:=by simpa using hb
  subst e;exact⟨_,st,λv z=>by
   have z':Data.fields _=Data.cell v:=z;cases z'⟩
 keep:=λi h h' st k=>k it (by simp) _ st
 item:=by
  intro X hP hw hK hc i ac s σ H E I hf st hg;subst hP hw hK;obtain⟨f0,f1,f2,f3,f4,f5⟩:=hf it (by simp);have W:=Walks.range (prog:=X.prog) (w:=X.w) (I.ok.hd hc) it lo 1 n;refine W.item i s _ _ hg st λv h' tk hv st' kk=>?_;obtain⟨t,rfl⟩:=hv;have I1:Inv X ac σ H { s with heap:=h',toks:=tk } :=I.turned (λb o hb e=>kk b o (by simpa using hb) e) f0 f1 f3 f4 f5;refine⟨_,rfl,LM (s:={ s with heap:=h',toks:=tk }) (n:="range_iterator") st' rfl rfl (by decide) ⟨.int (lo+i),H,I1,⟨t, ?_⟩,⟨rfl,rfl⟩,st',λb hb=>(hf b hb).1⟩⟩;rw[Int.mul_one]
 done:=by
  intro X hP hw hK hc i ac s σ H E I hf st hg;subst hP hw hK;obtain⟨f0,f1,f2,f3,f4,f5⟩:=hf it (by simp);exact wpAny_pyNext_range_end (I.ok.hd hc) st (by have:n<=i:=hg;omega) λh' eb=>⟨rfl,I.turned (t':=s.toks) (λb o hb e=>eb b o hb e) f0 f1 f3 f4 f5⟩
 self:=λ_ _ _ _ _ st h=>wpAny_pyIter_rangeiter st h
section
variable{X:Cx}{tg:Expr}
def XW(K:dD)(tl:TE):TI:=fun σ H R=>tl σ H λx H1=>∃a,x=.ref a/\(∃xs,SqL K H1 a xs)/\R (Itl K a) H1
def iTup(K:dD)(tl:TE):TI:=fun σ H R=>tl σ H λx H1=>∃a,x=.ref a/\(∃xs,SqT K H1 a xs)/\R (Itt K a) H1
theorem qF{l:Expr}{tl:TE}(hl:PE X l tl):PI X tg l (XW X.K tl):=by
 intro ac s σ H R I h;refine thn (hl ac s σ H _ I h) λv s1 ⟨x,H1,I1,r1,q1⟩=>?_;obtain⟨a,e,⟨xs,hq⟩,q⟩:=q1;subst e;cases r1;obtain⟨its,rv,p,hz⟩:=I1.list hq;refine wpAny_pyIter_list p.isList ?_;refine⟨s1.heap.objs.size,[s1.heap.objs.size],_,_,H1,rfl,I1.kept (t':=s1.toks) λb o e=>gI _ e,RW a _,⟨_,gX _ rfl,rfl,rfl⟩,λb hb=>?_,q⟩;have e:b=s1.heap.objs.size:=by simpa using hb
 subst e;exact I1.fpOk uU (I1.hok.fresh uU)
theorem IZ{l:Expr}{tl:TE}(hl:PE X l tl):PI X tg l (iTup X.K tl):=by
 intro ac s σ H R I h;refine thn (hl ac s σ H _ I h) λv s1 ⟨x,H1,I1,r1,q1⟩=>?_;obtain⟨a,e,⟨xs,hq⟩,q⟩:=q1;subst e;cases r1;obtain⟨its,rv,p,hz⟩:=I1.tuple hq;refine wpAny_pyIter_tuple (show s1.heap.IsTuple a its.toArray from p) ?_;refine⟨s1.heap.objs.size,[s1.heap.objs.size],_,_,H1,rfl,I1.kept (t':=s1.toks) λb o e=>gI _ e,MR a _,⟨_,gX _ rfl,rfl,rfl⟩,λb hb=>?_,q⟩;have e:b=s1.heap.objs.size:=by simpa using hb
 subst e;exact I1.fpOk uU (I1.hok.fresh uU)
theorem VZ{ac:List (Addr×Obj)}{σ:St}{H:Hp}{s:Shared}{R:It->Hp->Prop}{E:Value->Shared->Prop}{lo hi:Int}{t u v:Tok}{tk:Nat}(I:Inv X ac σ H s)(h1: -(2^62)<=lo)(h2:lo<2^62)(h3: -(2^62)<=hi)(h4:hi<2^62)
  (q:R (Itr lo (hi-lo).toNat) H):wpAny (model X.prog X.w) X.A (pyIter (.ref s.heap.objs.size)) (PIE X ac σ tg R) E { s with heap:=s.heap.push { cls:=.type "range",data:=.fields #[.int lo t,.int hi u,.int 1 v] },toks:=tk } :=by
 refine wpAny_pyIter_range (IsRange.new ..) (small_one h1 h2 h3 h4) ?_;have I1:Inv X ac σ H { s with heap:=s.heap.push { cls:=.type "range",data:=.fields #[.int lo t,.int hi u,.int 1 v] },toks:=tk } :=I.kept λb o e=>gI _ e;refine⟨(s.heap.push { cls:=.type "range",data:=.fields #[.int lo t,.int hi u,.int 1 v] }).objs.size,[(s.heap.push { cls:=.type "range",data:=.fields #[.int lo t,.int hi u,.int 1 v] }).objs.size],_,_,H,rfl,
  I1.kept (t':=tk) λb o e=>gI _ e,MS _ lo (hi-lo).toNat, ?_,λb hb=>?_,q⟩
 ·have e1:lo+((0:Nat):Int)*1=lo:=by simp
  have e2:(((hi-lo).toNat:Nat):Int)-((0:Nat):Int)=Builtin.Range.rangeSize lo hi 1:=by rw[rangeSize_one];split<;>omega
  show IsRangeIter _ _ (lo+((0:Nat):Int)*1) ((((hi-lo).toNat:Nat):Int)-((0:Nat):Int)) 1;rw[e1,e2];exact gX _ rfl
 ·have e:b=(s.heap.push { cls:=.type "range",data:=.fields #[.int lo t,.int hi u,.int 1 v] }).objs.size:=by simpa using hb
  subst e;exact I1.fpOk uU (I1.hok.fresh uU)
def iRng1(ta:TA):TI:=fun σ H R=>ta σ H λvs H1=>∃j:Int,vs=[.int j]/\-(2^62)<=j/\j<2^62/\R (Itr 0 j.toNat) H1
theorem xD{a:Expr}{ta:TA}{p pos:Pos}(hg:Gl X "range")(hm:X.mg "range" = none)(ha:PA X [a] ta)(hs:starEach [a] X.env=[(false,eval a X.env)]:=by rfl):PI X tg (.Call (.Name "range" p) [a] [] pos) (iRng1 ta):=by
 intro ac s σ H R I h;refine Call_ (zA I hg hm boot_range (PyProof.Rows.callWith_type1 (thn (ha pos ac s σ H _ I h) λus s1 ⟨vs,H1,I1,r1,q1⟩=>?_) hs rfl));obtain⟨j,e,q1,q2,q⟩:=q1;subst e;cases r1 with
 | cons r rr=>
  cases rr;obtain⟨t,rfl⟩:=r;exact call_range_1 (VZ I1 (by omega) (by omega) q1 q2 (by simpa using q))
def tFor(wi:TI)(g:TG)(tb:TS):TS:=λD σ H=>wi σ H λJ H1=>∃W:Nat->Nat->St->Hp->Prop,(∃m,W 0 m σ H1)/\∀i m σ H,W i m σ H->
 (J.stop i H/\D.nx σ H)∨(J.go i H/\∃N:St->Hp->Prop,(∀σ' H',N σ' H'->∃m',m'<m/\W (i+1) m' σ' H')/\∀x H',J.yld i H x H'->g x σ H' fun σ2 H2=>tb { D with nx:=N,ct:=N,bk:=D.nx } σ2 H2)
def EH(fp:List Addr)(h:Heap):List (Addr×Obj):=fp.filterMap λb=>(h.get? b).map λo=>(b,o)
theorem kA{fp:List Addr}{h:Heap}{b:Addr}{o:Obj}(hb:b∈fp)(e:h.get? b=some o):(b,o)∈EH fp h:=List.mem_filterMap.mpr ⟨b,hb,by rw[e];rfl⟩
theorem TH{fp:List Addr}{h:Heap}{p:Addr×Obj}(hp:p∈EH fp h):p.1∈fp/\h.get? p.1=some p.2:=by
 obtain⟨b,hb,e⟩:=List.mem_filterMap.mp hp;cases q:h.get? b with
 | none=>rw[q]at e;cases e
 | some o=>
  rw[q]at e;have e':(b,o)=p:=Option.some.inj e;subst e';exact⟨hb,q⟩
theorem Inv.pinned{ac:List (Addr×Obj)}{σ:St}{H:Hp}{s:Shared}{fp:List Addr}(I:Inv X ac σ H s)(hf:∀b∈fp,FpOk X ac H b)(ho:∀b∈fp,∃o,s.heap.get? b=some o/\∀v,o.data≠.cell v):Inv X (ac++EH fp s.heap) σ H s:=
 I.pins_of λp hp=>(nC.mp hp).elim (λz=>I.pin p (gL _ z)) λz=>by
  obtain⟨hb,e⟩:=TH z;obtain⟨f0,f1,f2,_⟩:=hf p.1 hb;obtain⟨o,e',d⟩:=ho p.1 hb;rw[e]at e';cases e';exact⟨e,f0,f1,f2,d⟩
theorem Inv.unpinned{ac pl:List (Addr×Obj)}{σ:St}{H:Hp}{s:Shared}(I:Inv X (ac++pl) σ H s):Inv X ac σ H s:=I.pins_of λp hp=>I.pin p (gL _ (List.mem_append_left _ hp))
theorem qM{iter:Expr}{body:List Stmt}{wi:TI}{g:TG}{tb:TS}{pos:Pos}(hp:PassesOwn (model X.prog X.w) X.A X.env X.xe)(hc:X.calm=true)(hi:PI X tg iter wi)(hg:PG X tg g)(hb:PSs X body tb)
  (hs:∀x,foldedSetIterable iter X.env x=pure x:=by intro _;rfl):PS X (.For tg iter body [] pos) (tFor wi g tb):=by
 intro ac s σ H D I h;refine wpAny_For (thn (hi ac s σ H _ I h) λv s1 h1=>thn h1 λitv s2 h2=>?_) hs;obtain⟨it,fp,tn,J,H2,e,I2,T,st2,f2,W,⟨m0,w0⟩,turn⟩:=h2;subst e;have stat:∀{H':Hp},(∀b∈fp,H' b=none)->∀b∈fp,FpOk X ac H' b:=λhn b hb=>⟨hn b hb,(f2 b hb).2⟩;refine codeAny_forLoop_any (λn s'=>∃i σ' H',Inv X ac σ' H' s'/\tn i s'.heap/\(∀b∈fp,H' b=none)/\W i n σ' H') ?_ m0 ⟨0,σ,H2,I2,st2,λb hb=>(f2 b hb).1,w0⟩;rintro n s3 ⟨i,σ3,H3,I3,st3,fr3,w3⟩;rcases turn i n σ3 H3 w3 with⟨stop,qn⟩ | ⟨go,N,hN,step⟩
 ·refine wpAny_passesOwn hp (thn (T.done X rfl rfl rfl hc i ac s3 σ3 H3 X.xe I3 (stat fr3) st3 stop) λr s4 ⟨hr,I4⟩=>?_);subst hr;exact wpAny_execs_nil ⟨σ3,H3,I4,qn⟩
 ·refine wpAny_passesOwn hp (thn (T.item X rfl rfl rfl hc i ac s3 σ3 H3 X.xe I3 (stat fr3) st3 go) λr s4 ⟨u,hr,h4⟩=>?_);subst hr;refine wpAny_passesOwn hp (thn h4 λ_ s5 ⟨x,H5,I5,r5,y5,st5,fr5⟩=>?_);have I5':=I5.pinned (stat fr5) (T.obj _ _ st5);refine wpAny_passesOwn hp (thn (hg _ s5 σ3 H5 x u _ I5' r5 (step x H5 y5)) λ_ s6 ⟨σ6,H6,I6,q6⟩=>?_);refine wpAny_passesOwn hp (thn (hb _ s6 σ6 H6 _ I6 q6) λf s7 q7=>?_);have again:∀{σ7:St} {H7:Hp},Inv X (ac++EH fp s5.heap) σ7 H7 s7->N σ7 H7->∃m,m<n/\∃i σ' H',Inv X ac σ' H' s7/\tn i s7.heap/\(∀b∈fp,H' b=none)/\W i m σ' H':=fun {σ7 H7} I7 n7=>by
   obtain⟨m',hm,w7⟩:=hN σ7 H7 n7;refine⟨m',hm,i+1,σ7,H7,I7.unpinned,T.keep _ _ _ st5 λb hb o e=>(I7.pin (b,o) (gL _ (gL _ (kA hb e)))).1,λb hb=>?_,w7⟩;obtain⟨o,e,d⟩:=T.obj _ _ st5 b hb;exact(I7.pin (b,o) (gL _ (gL _ (kA hb e)))).2.1
  cases f with
  | next=>obtain⟨σ7,H7,I7,n7⟩:=q7;exact again I7 n7
  | cont=>obtain⟨σ7,H7,I7,n7⟩:=q7;exact again I7 n7
  | brk=>obtain⟨σ7,H7,I7,q7⟩:=q7;exact⟨σ7,H7,I7.unpinned,q7⟩
  | ret v=>obtain⟨x7,σ7,H7,I7,r7,q7⟩:=q7;exact⟨x7,σ7,H7,I7.unpinned,r7,q7⟩
end
theorem xX{K:dD}{a:Addr}{xs:List V}{g:TG}{tb:TS}{D:Ends}{σ:St}{H:Hp}(Pv:Nat->St->Hp->Prop)(h0:Pv 0 σ H)(hl:∀i σ H,i<=xs.length->Pv i σ H->SqL K H a xs)
  (hs:∀i x σ H,xs[i]? = some x->Pv i σ H->g x σ H fun σ2 H2=>tb { D with nx:=Pv (i+1),ct:=Pv (i+1),bk:=D.nx } σ2 H2) (hd:∀σ H,Pv xs.length σ H->D.nx σ H) :
  ∃W:Nat->Nat->St->Hp->Prop,(∃m,W 0 m σ H)/\∀i m σ H,W i m σ H->
   ((Itl K a).stop i H/\D.nx σ H)∨((Itl K a).go i H/\∃N:St->Hp->Prop,(∀σ' H',N σ' H'->∃m',m'<m/\W (i+1) m' σ' H')/\∀x H',(Itl K a).yld i H x H'->g x σ H' fun σ2 H2=>tb { D with nx:=N,ct:=N,bk:=D.nx } σ2 H2):=by
 refine⟨λi m σ H=>m=xs.length-i/\i<=xs.length/\Pv i σ H,⟨xs.length,by simp,tQ _,h0⟩, ?_⟩;rintro i m σ H ⟨rfl,hi,p⟩;have q:=hl i σ H hi p;by_cases hlt:i<xs.length
 ·refine .inr ⟨⟨xs,xs[i],q,by simp [hlt]⟩,Pv (i+1),fun σ' H' p'=>⟨xs.length-(i+1),by omega,rfl,hlt,p'⟩,λx H' y=>?_⟩;obtain⟨e,y⟩:=y;subst e;exact hs i x σ _ (y xs q) p
 ·have e:i=xs.length:=by omega
  subst e;exact .inl ⟨⟨xs,q,tP _⟩,hd σ H p⟩
theorem QY{K:dD}{a:Addr}{xs:List V}{g:TG}{tb:TS}{D:Ends}{σ:St}{H:Hp}(Pv:Nat->St->Hp->Prop)(h0:Pv 0 σ H)(hl:∀i σ H,i<=xs.length->Pv i σ H->SqT K H a xs)
  (hs:∀i x σ H,xs[i]? = some x->Pv i σ H->g x σ H fun σ2 H2=>tb { D with nx:=Pv (i+1),ct:=Pv (i+1),bk:=D.nx } σ2 H2) (hd:∀σ H,Pv xs.length σ H->D.nx σ H) :
  ∃W:Nat->Nat->St->Hp->Prop,(∃m,W 0 m σ H)/\∀i m σ H,W i m σ H->
   ((Itt K a).stop i H/\D.nx σ H)∨((Itt K a).go i H/\∃N:St->Hp->Prop,(∀σ' H',N σ' H'->∃m',m'<m/\W (i+1) m' σ' H')/\∀x H',(Itt K a).yld i H x H'->g x σ H' fun σ2 H2=>tb { D with nx:=N,ct:=N,bk:=D.nx } σ2 H2):=by
 refine⟨λi m σ H=>m=xs.length-i/\i<=xs.length/\Pv i σ H,⟨xs.length,by simp,tQ _,h0⟩, ?_⟩;rintro i m σ H ⟨rfl,hi,p⟩;have q:=hl i σ H hi p;by_cases hlt:i<xs.length
 ·refine .inr ⟨⟨xs,xs[i],q,by simp [hlt]⟩,Pv (i+1),fun σ' H' p'=>⟨xs.length-(i+1),by omega,rfl,hlt,p'⟩,λx H' y=>?_⟩;obtain⟨e,y⟩:=y;subst e;exact hs i x σ _ (y xs q) p
 ·have e:i=xs.length:=by omega
  subst e;exact .inl ⟨⟨xs,q,tP _⟩,hd σ H p⟩
theorem wU{lo:Int}{n:Nat}{g:TG}{tb:TS}{D:Ends}{σ:St}{H:Hp}(Pv:Nat->St->Hp->Prop)(h0:Pv 0 σ H)
  (hs:∀i σ H,i<n->Pv i σ H->g (.int (lo+i)) σ H fun σ2 H2=>tb { D with nx:=Pv (i+1),ct:=Pv (i+1),bk:=D.nx } σ2 H2) (hd:∀σ H,Pv n σ H->D.nx σ H) :
  ∃W:Nat->Nat->St->Hp->Prop,(∃m,W 0 m σ H)/\∀i m σ H,W i m σ H->
   ((Itr lo n).stop i H/\D.nx σ H)∨((Itr lo n).go i H/\∃N:St->Hp->Prop,(∀σ' H',N σ' H'->∃m',m'<m/\W (i+1) m' σ' H')/\∀x H',(Itr lo n).yld i H x H'->g x σ H' fun σ2 H2=>tb { D with nx:=N,ct:=N,bk:=D.nx } σ2 H2):=by
 refine⟨λi m σ H=>m=n-i/\i<=n/\Pv i σ H,⟨n,by simp,tQ _,h0⟩, ?_⟩;rintro i m σ H ⟨rfl,hi,p⟩;by_cases hlt:i<n
 ·refine .inr ⟨hlt,Pv (i+1),fun σ' H' p'=>⟨n-(i+1),by omega,rfl,hlt,p'⟩,λx H' y=>?_⟩;obtain⟨e,y⟩:=y;subst e y;exact hs i σ _ hlt p
 ·have e:i=n:=by omega
  subst e;exact .inl ⟨tP _,hd σ H p⟩
theorem JY{c:TT}{tb:TS}{D:Ends}{σ:St}{H:Hp}(Pv:St->Hp->Prop)(μ:St->Hp->Nat)(h0:Pv σ H)
  (hs:∀σ H,Pv σ H->c σ H λb H1=>if b=true then tb { D with nx:=fun σ' H'=>Pv σ' H'/\μ σ' H'<μ σ H,ct:=fun σ' H'=>Pv σ' H'/\μ σ' H'<μ σ H,bk:=D.nx } σ H1 else D.nx σ H1)
  (mono:∀σ H Q Q',(∀b H1,Q b H1->Q' b H1)->c σ H Q->c σ H Q'):MX c tb D σ H:=by
 refine⟨λm σ H=>m=μ σ H/\Pv σ H,⟨_,rfl,h0⟩, ?_⟩;rintro m σ H ⟨rfl,p⟩;refine mono σ H _ _ (λb H1 q=>?_) (hs σ H p);cases b with
 | true=>exact⟨_,fun σ' H' ⟨p',l⟩=>⟨_,l,rfl,p'⟩,q⟩
 | false=>exact q
abbrev R2:=V->V->Hp->VK->Prop
def OpR(X:Cx)(f:Value->Value->Sem Value)(r:R2):Prop:=
 ∀(ac:List (Addr×Obj)) (s:Shared) (σ:St) (H:Hp) (x y:V) (v u:Value) (Q:VK),Inv X ac σ H s->RelV x v->RelV y u->r x y H Q->
  wpAny (model X.prog X.w) X.A (f v u) (EP X ac σ Q) X.xe s
def UnR(X:Cx)(f:Value->Sem Value)(r:V->Hp->VK->Prop):Prop:=
 ∀(ac:List (Addr×Obj)) (s:Shared) (σ:St) (H:Hp) (x:V) (v:Value) (Q:VK),Inv X ac σ H s->RelV x v->r x H Q->
  wpAny (model X.prog X.w) X.A (f v) (EP X ac σ Q) X.xe s
def CallR(X:Cx)(f:Value)(r:List V->Hp->VK->Prop):Prop:=
 ∀(ac:List (Addr×Obj)) (s:Shared) (σ:St) (H:Hp) (xs:List V) (us:List Value) (Q:VK),Inv X ac σ H s->Vals xs us->r xs H Q->
  wpAny (model X.prog X.w) X.A (call f us) (EP X ac σ Q) X.xe s
def tOp(r:R2)(ta tb:TE):TE:=fun σ H Q=>ta σ H λx H1=>tb σ H1 λy H2=>r x y H2 Q
def tUn(r:V->Hp->VK->Prop)(ta:TE):TE:=fun σ H Q=>ta σ H λx H1=>r x H1 Q
def rI(C:Int->Int->Prop)(g:Int->Int->V):R2:=λx y H Q=>∃i j,x=.int i/\y=.int j/\C i j/\Q (g i j) H
def rI0(g:Int->Int->V):R2:=λx y H Q=>∃i j,x=.int i/\y=.int j/\Q (g i j) H
def rU(g:Int->V):V->Hp->VK->Prop:=λx H Q=>∃i,x=.int i/\Q (g i) H
section
variable{X:Cx}{a b c:Expr}{ta tb tc:TE}{pos:Pos}
theorem binT(ha:PE X a ta)(hb:PE X b tb){ac:List (Addr×Obj)}{s:Shared}{σ:St}{H:Hp}{R:V->V->Hp->Prop}(I:Inv X ac σ H s)
  (h:ta σ H λx H1=>tb σ H1 λy H2=>R x y H2) {Q:Value->Shared->Prop} {f:Value->Value->Sem Value}
  (hf:∀v u s2 x y H2,Inv X ac σ H2 s2->RelV x v->RelV y u->R x y H2->wpAny (model X.prog X.w) X.A (f v u) Q X.xe s2) :
  wpAny (model X.prog X.w) X.A (eval a X.env) (λv s₁=>wpAny (model X.prog X.w) X.A (eval b X.env) (λu s₂=>wpAny (model X.prog X.w) X.A (f v u) Q X.xe s₂) X.xe s₁) X.xe s:=by
 refine thn (ha ac s σ H _ I h) λv s1 ⟨x,H1,I1,r1,q1⟩=>?_;refine thn (hb ac s1 σ H1 _ I1 q1) λu s2 ⟨y,H2,I2,r2,q2⟩=>?_;exact hf v u s2 x y H2 I2 r1 r2 q2
theorem jJ{op:Operator}{r:R2}(ho:OpR X (binaryOp op) r)(ha:PE X a ta)(hb:PE X b tb):PE X (.BinOp a op b pos) (tOp r ta tb):=by
 intro ac s σ H Q I h;exact wpAny_BinOp (binT ha hb I h λv u s2 x y H2 I2 rx ry q=>ho ac s2 σ H2 x y v u Q I2 rx ry q)
theorem qX{op:UnaryOp}{r:V->Hp->VK->Prop}(ho:UnR X (unaryOp op) r)(ha:PE X a ta):PE X (.UnaryOp op a pos) (tUn r ta):=by
 intro ac s σ H Q I h;exact UnaryOp_ (thn (ha ac s σ H _ I h) λv s1 ⟨x,H1,I1,r1,q1⟩=>ho ac s1 σ H1 x v Q I1 r1 q1)
theorem opI{f:Value->Value->Sem Value}{C:Int->Int->Prop}{g:Int->Int->Int}
  (rule:∀(i j:Int) (t u:Tok) (s:Shared) (Q:Value->Shared->Prop) (E:Value->Shared->Prop),C i j->Q (.int (g i j) s.toks) { s with toks:=s.toks+1 }->wpAny (model X.prog X.w) X.A (f (.int i t) (.int j u)) Q E s) :
  OpR X f (rI C λi j=>.int (g i j)):=by
 intro ac s σ H x y v u Q I rx ry h;obtain⟨i,j,rfl,rfl,hc,q⟩:=h;obtain⟨t,rfl⟩:=rx;obtain⟨t',rfl⟩:=ry;exact rule i j t t' s _ _ hc ⟨.int (g i j),H,I.tok _,⟨_,rfl⟩,q⟩
theorem opI0{f:Value->Value->Sem Value}{g:Int->Int->Int}
  (rule:∀(i j:Int) (t u:Tok) (s:Shared) (Q:Value->Shared->Prop) (E:Value->Shared->Prop),Q (.int (g i j) s.toks) { s with toks:=s.toks+1 }->wpAny (model X.prog X.w) X.A (f (.int i t) (.int j u)) Q E s) :
  OpR X f (rI0 λi j=>.int (g i j)):=by
 intro ac s σ H x y v u Q I rx ry h;obtain⟨i,j,rfl,rfl,q⟩:=h;obtain⟨t,rfl⟩:=rx;obtain⟨t',rfl⟩:=ry;exact rule i j t t' s _ _ ⟨.int (g i j),H,I.tok _,⟨_,rfl⟩,q⟩
theorem opB0{f:Value->Value->Sem Value}{g:Int->Int->Bool}
  (rule:∀(i j:Int) (t u:Tok) (s:Shared) (Q:Value->Shared->Prop) (E:Value->Shared->Prop),Q (.bool (g i j)) s->wpAny (model X.prog X.w) X.A (f (.int i t) (.int j u)) Q E s) :
  OpR X f (rI0 λi j=>.bl (g i j)):=by
 intro ac s σ H x y v u Q I rx ry h;obtain⟨i,j,rfl,rfl,q⟩:=h;obtain⟨t,rfl⟩:=rx;obtain⟨t',rfl⟩:=ry;exact rule i j t t' s _ _ ⟨.bl (g i j),H,I,rfl,q⟩
def CDiv(i j:Int):Prop:=0<j/\j<1073741824
def CPow(i j:Int):Prop:=0<=j/\j<=1000000/\i.natAbs<2^64
def CMul(i j:Int):Prop:=(-(2^64)<i/\i<2^64)∨(-(2^64)<j/\j<2^64)
theorem CMul.ok{i j:Int}(h:CMul i j):IntMulOk i j:=by
 rcases h with⟨h1,h2⟩ | ⟨h1,h2⟩
 ·exact .of_left (intBits_le_64 h1 h2)
 ·exact .of_right (intBits_le_64 h1 h2)
theorem kQ:OpR X (binaryOp .Add) (rI0 λi j=>.int (i+j)):=opI0 λ_ _ _ _ _ _ _ q=>add_int q
theorem zO:OpR X (binaryOp .Sub) (rI0 λi j=>.int (i-j)):=opI0 λ_ _ _ _ _ _ _ q=>sub_int q
theorem uI:OpR X (binaryOp .Mult) (rI CMul λi j=>.int (i*j)):=opI λ_ _ _ _ _ _ _ hc q=>mul_int q hc.ok
theorem op_fdiv:OpR X (binaryOp .FloorDiv) (rI CDiv λi j=>.int (i/j)):=opI λi j _ _ _ _ _ hc q=>by
 have h1:(0:Int)<j:=hc.1;have h2:j<1073741824:=hc.2;exact floordiv_int (by omega) (by rw[Int.fdiv_eq_ediv_of_nonneg i (by omega)];exact q) (.inl (PyProof.noPylong_small (by omega)))
theorem yF:OpR X (binaryOp .Mod) (rI (λ_ j=>0<j) λi j=>.int (i%j)):=opI λi j _ _ _ _ _ hc q=>by
 have h1:(0:Int)<j:=hc;exact mod_int' (by omega) (by rw[Int.fmod_eq_emod_of_nonneg i (by omega)];exact q)
theorem EK:OpR X (binaryOp .Pow) (rI CPow λi j=>.int (i^j.toNat)):=opI λ_ _ _ _ _ _ _ hc q=>pow_int_small hc.1 hc.2.1 hc.2.2 q
theorem unI{f:Value->Sem Value}{g:Int->Int}
  (rule:∀(i:Int) (t:Tok) (s:Shared) (Q:Value->Shared->Prop) (E:Value->Shared->Prop),Q (.int (g i) s.toks) { s with toks:=s.toks+1 }->wpAny (model X.prog X.w) X.A (f (.int i t)) Q E s) :
  UnR X f (rU λi=>.int (g i)):=by
 intro ac s σ H x v Q I rx h;obtain⟨i,rfl,q⟩:=h;obtain⟨t,rfl⟩:=rx;exact rule i t s _ _ ⟨.int (g i),H,I.tok _,⟨_,rfl⟩,q⟩
theorem kZ:UnR X (unaryOp .USub) (rU λi=>.int (-i)):=unI λ_ _ _ _ _ q=>neg_int q
end
def scal:V->V->Bool
 | .non,.non=>true | .non,.int _=>true | .int _,.non=>true | .non,.bl _=>true | .bl _,.non=>true | .non,.str _=>true | .str _,.non=>true
 | .int _,.int _=>true | .bl _,.bl _=>true | .str _,.str _=>true | .byt _,.byt _=>true
 | .int _,.str _=>true | .str _,.int _=>true | .bl _,.str _=>true | .str _,.bl _=>true
 | _,_=>false
def rEq:R2:=λx y H Q=>scal x y=true/\Q (.bl (decide (x=y))) H
def rNe:R2:=λx y H Q=>scal x y=true/\Q (.bl (!decide (x=y))) H
theorem RG{i j:Int} :decide (V.int i=V.int j)=(i==j):=by
 rw[Bool.eq_iff_iff];simp
theorem YR{i j:Bool} :decide (V.bl i=V.bl j)=(i==j):=by
 rw[Bool.eq_iff_iff];simp
theorem RF{i j:Str} :decide (V.str i=V.str j)=(i==j):=by
 rw[Bool.eq_iff_iff];simp
theorem RH{i j:Array UInt8} :decide (V.byt i=V.byt j)=(i.toList==j.toList):=by
 rw[Bool.eq_iff_iff];cases i;cases j;simp
section
variable{X:Cx}{a b c:Expr}{ta tb tc:TE}{pos:Pos}
theorem kR{ac:List (Addr×Obj)}{σ:St}{H:Hp}{s:Shared}{Q:VK}{k k':Bool}(I:Inv X ac σ H s)(q:Q (.bl k) H)(e:k=k'):EP X ac σ Q (.bool k') s:=by
 subst e;exact⟨.bl k,H,I,rfl,q⟩
theorem yH:OpR X (compareOp .Eq) rEq:=by
 intro ac s σ H x y v u Q I rx ry h;obtain⟨hs,q⟩:=h;cases x with
 | non=>
  cases rx;cases y with
  | non=>cases ry;exact PySem.EqNone.eq_none_none (kR I q (by simp))
  | bl j=>cases ry;exact PySem.EqNone.eq_none_bool (kR I q (by simp))
  | int j=>obtain⟨t',rfl⟩:=ry;exact PySem.EqNone.eq_none_int (kR I q (by simp))
  | str j=>obtain⟨t',rfl⟩:=ry;exact PySem.EqNone.eq_none_str (kR I q (by simp))
  | _=>exact absurd (show false=true from hs) hV
 | bl i=>
  cases rx;cases y with
  | non=>cases ry;exact PySem.EqNone.eq_bool_none (kR I q (by simp))
  | bl j=>cases ry;exact eq_bool (kR I q YR)
  | str j=>obtain⟨t',rfl⟩:=ry;exact PySem.EqMixed.eq_bool_str (kR I q (by simp))
  | _=>exact absurd (show false=true from hs) hV
 | int i=>
  obtain⟨t,rfl⟩:=rx;cases y with
  | non=>cases ry;exact PySem.EqNone.eq_int_none (kR I q (by simp))
  | int j=>obtain⟨t',rfl⟩:=ry;exact eq_int (kR I q RG)
  | str j=>obtain⟨t',rfl⟩:=ry;exact PySem.EqMixed.eq_int_str (kR I q (by simp))
  | _=>exact absurd (show false=true from hs) hV
 | str i=>
  obtain⟨t,rfl⟩:=rx;cases y with
  | non=>cases ry;exact PySem.EqNone.eq_str_none (kR I q (by simp))
  | bl j=>cases ry;exact PySem.EqMixed.eq_str_bool (kR I q (by simp))
  | int j=>obtain⟨t',rfl⟩:=ry;exact PySem.EqMixed.eq_str_int (kR I q (by simp))
  | str j=>obtain⟨t',rfl⟩:=ry;exact eq_str (kR I q RF)
  | _=>exact absurd (show false=true from hs) hV
 | byt i=>
  obtain⟨t,rfl⟩:=rx;cases y with
  | byt j=>obtain⟨t',rfl⟩:=ry;exact PySem.W.eq_bytes (kR I q RH)
  | _=>exact absurd (show false=true from hs) hV
 | _=>cases y<;>exact absurd (show false=true from hs) hV
theorem yG:OpR X (compareOp .NotEq) rNe:=by
 intro ac s σ H x y v u Q I rx ry h;obtain⟨hs,q⟩:=h;cases x with
 | non=>
  cases rx;cases y with
  | non=>cases ry;exact PySem.EqNone.ne_none_none (kR I q (by simp))
  | bl j=>cases ry;exact PySem.EqNone.ne_none_bool (kR I q (by simp))
  | int j=>obtain⟨t',rfl⟩:=ry;exact PySem.EqNone.ne_none_int (kR I q (by simp))
  | str j=>obtain⟨t',rfl⟩:=ry;exact PySem.EqNone.ne_none_str (kR I q (by simp))
  | _=>exact absurd (show false=true from hs) hV
 | bl i=>
  cases rx;cases y with
  | non=>cases ry;exact PySem.EqNone.ne_bool_none (kR I q (by simp))
  | bl j=>cases ry;exact ne_bool (kR I q (congrArg not YR))
  | str j=>obtain⟨t',rfl⟩:=ry;exact PySem.EqMixed.ne_bool_str (kR I q (by simp))
  | _=>exact absurd (show false=true from hs) hV
 | int i=>
  obtain⟨t,rfl⟩:=rx;cases y with
  | non=>cases ry;exact PySem.EqNone.ne_int_none (kR I q (by simp))
  | int j=>obtain⟨t',rfl⟩:=ry;exact ne_int (kR I q (congrArg not RG))
  | str j=>obtain⟨t',rfl⟩:=ry;exact PySem.EqMixed.ne_int_str (kR I q (by simp))
  | _=>exact absurd (show false=true from hs) hV
 | str i=>
  obtain⟨t,rfl⟩:=rx;cases y with
  | non=>cases ry;exact PySem.EqNone.ne_str_none (kR I q (by simp))
  | bl j=>cases ry;exact PySem.EqMixed.ne_str_bool (kR I q (by simp))
  | int j=>obtain⟨t',rfl⟩:=ry;exact PySem.EqMixed.ne_str_int (kR I q (by simp))
  | str j=>obtain⟨t',rfl⟩:=ry;exact ne_str (kR I q (congrArg not RF))
  | _=>exact absurd (show false=true from hs) hV
 | byt i=>
  obtain⟨t,rfl⟩:=rx;cases y with
  | byt j=>obtain⟨t',rfl⟩:=ry;exact PySem.W.ne_bytes (kR I q (congrArg not RH))
  | _=>exact absurd (show false=true from hs) hV
 | _=>cases y<;>exact absurd (show false=true from hs) hV
theorem zG:OpR X (compareOp .Lt) (rI0 λi j=>.bl (decide (i<j))):=opB0 λ_ _ _ _ _ _ _ q=>lt_int q
theorem op_le:OpR X (compareOp .LtE) (rI0 λi j=>.bl (decide (i<=j))):=opB0 λ_ _ _ _ _ _ _ q=>le_int q
theorem BP:OpR X (compareOp .Gt) (rI0 λi j=>.bl (decide (j<i))):=opB0 λ_ _ _ _ _ _ _ q=>gt_int q
theorem WK:OpR X (compareOp .GtE) (rI0 λi j=>.bl (decide (j<=i))):=opB0 λ_ _ _ _ _ _ _ q=>ge_int q
theorem jW(b:Expr){op:CmpOp}(h:op≠.In:=by decide)(h2:op≠.NotIn:=by decide):behindInMarks op b=false:=by
 have e1:(op==CmpOp.In)=false:=by cases op<;>first | rfl | exact absurd rfl h
 have e2:(op==CmpOp.NotIn)=false:=by cases op<;>first | rfl | exact absurd rfl h2
 cases b<;>simp [behindInMarks,e1,e2]
theorem xK{op:CmpOp}{r:R2}(ho:OpR X (compareOp op) r)(ha:PE X a ta)(hb:PE X b tb)(hm:behindInMarks op b=false):PE X (.Compare a [op] [b] pos) (tOp r ta tb):=by
 intro ac s σ H Q I h;exact wpAny_Compare1 (binT ha hb I h λv u s2 x y H2 I2 rx ry q=>ho ac s2 σ H2 x y v u Q I2 rx ry q) hm
def OP(t:TE):TT:=fun σ H Q=>t σ H λx H'=>∃k,x=.bl k/\Q k H'
theorem jV{op:CmpOp}{r:R2}(ho:OpR X (compareOp op) r)(ha:PE X a ta)(hb:PE X b tb)(hm:behindInMarks op b=false):PT X (.Compare a [op] [b] pos) (OP (tOp r ta tb)):=by
 intro ac s σ H Q I h;refine wpAny_isTrue_Compare1 (thn (ha ac s σ H _ I h) λv s1 ⟨x,H1,I1,r1,q1⟩=>thn (hb ac s1 σ H1 _ I1 q1) λu s2 ⟨y,H2,I2,r2,q2⟩=>
  thn (ho ac s2 σ H2 x y v u _ I2 r1 r2 q2) λc s3 ⟨z,H3,I3,r3,k,e,q3⟩=>?_) hm
 subst e;cases r3;exact wpAny_truthy_bool ⟨H3,I3,q3⟩
theorem JH:(sizeLine:Nat)<2^63:=by rw[sizeLine_eq];decide
theorem xC{x:V}{us:List Value}(r:Vals [x] us):∃u,us=[u]/\RelV x u:=by
 cases r with
 | cons r1 r2=>cases r2;exact⟨_,rfl,r1⟩
theorem vals2{x y:V}{us:List Value}(r:Vals [x,y] us):∃u w',us=[u,w']/\RelV x u/\RelV y w':=by
 cases r with
 | cons r1 r2=>
  cases r2 with
  | cons r3 r4=>cases r4;exact⟨_,_,rfl,r1,r3⟩
theorem MI:CallR X (.builtin "abs") (λxs H Q=>∃i,xs=[.int i]/\Q (.int (if i<0 then -i else i)) H):=by
 intro ac s σ H xs us Q I r h;obtain⟨i,rfl,q⟩:=h;obtain⟨u,rfl,t,rfl⟩:=xC r;exact call_abs_int λu tk=>⟨.int (if i<0 then -i else i),H,I.tok _,⟨_,rfl⟩,q⟩
theorem wX:CallR X (.type "int") (λxs H Q=>(∃i,xs=[.int i]/\Q (.int i) H)∨∃k,xs=[.bl k]/\Q (.int (if k then 1 else 0)) H):=by
 intro ac s σ H xs us Q I r h;rcases h with⟨i,rfl,q⟩ | ⟨k,rfl,q⟩
 ·obtain⟨u,rfl,t,rfl⟩:=xC r;exact call_int_int ⟨.int i,H,I,⟨_,rfl⟩,q⟩
 ·obtain⟨u,rfl,r1⟩:=xC r;cases r1;exact call_int_bool ⟨.int (if k then 1 else 0),H,I.tok _,⟨_,rfl⟩,q⟩
end
structure ObjM(h:Heap)(x dx C:Addr)(mA:Str->Option Value):Prop where
 obj:h.get? x=some (PySem.W.instObj C dx)
 ns:h.Ns1 dx mA
 ne:dx≠x
theorem TK{h:Heap}{dx:Addr}{mA:Str->Option Value}(n:h.Ns1 dx mA):∃od,h.get? dx=some od/\∀name,PySem.W.lookIn name od=some (mA name):=by
 obtain⟨o,es,ep,ho,hd,hk,_,hm⟩:=n;refine⟨o,ho,λname=>?_⟩;have e:=hm name;unfold nsFind findBy at e;rw[<-Array.find?_toList]at e;unfold PySem.W.lookIn;rw[hd];dsimp only;split
 ·rename_i y q;rw[q]at e;exact congrArg some e
 ·rename_i q;rw[q]at e;have a:es.toList.any (·.refKey)=false:=by
   rw[List.any_eq_false];intro y hy;obtain⟨z,t,hkey⟩:=hk y (Array.mem_toList_iff.mp hy);simp [DictEntry.refKey,hkey]
  have a':¬es.toList.any (·.refKey)=true:=by rw[a];exact hV
  rw[dA a'];exact congrArg some e
theorem ObjM.look{h:Heap}{x dx C:Addr}{mA:Str->Option Value}(I:ObjM h x dx C mA):∃od,PySem.W.InstAt h x (PySem.W.instObj C dx) C (some od)/\∀name,PySem.W.lookIn name od=some (mA name):=
 let ⟨od,ho,hl⟩:=TK I.ns
 ⟨od,⟨I.obj,rfl,rfl,ho⟩,hl⟩
section
variable{prog:Program}{w:World}{A:Around}{E:Value->Shared->Prop}{s:Shared}{K:dD}{x dx C f:Addr}{mA:Str->Option Value}{name:Str}{v:Value}
end
theorem RelO.some_of{v:V}{o:Option Value}(r:RelO (some v) o):∃u,o=some u/\RelV v u:=by
 cases o with
 | none=>exact(show False from r).elim
 | some u=>exact⟨u,rfl,r⟩
section
variable{P:Program}{w:World}{H H':Hp}{h h':Heap}{a C dx:Addr}{fs fs':List (Str×V)}
theorem ins_get(hok:HOk P w H h)(e:H a=some (.ins C dx fs)):∃mA,ObjM h a dx C mA/\(∀f,RelO (fs.lookup f) (mA f))/\PySem.Within mA (fs.map (·.1))/\fs.length<=1000/\H dx=some (.own a):=by
 obtain⟨d,z,ne,ob,mA,n,r,q⟩:=(show ObjOk P w H h a (.ins C dx fs)from hok a _ e);exact⟨mA,⟨ob,n,ne⟩,r,q,z,d⟩
end
structure Cls(K:dD)(C:Addr):Prop where
 pg:PySem.W.plainGet K C Str.empty=true
 hd:PySem.W.hasDictIn K C=true
 po:PySem.W.plainOver K C=true
 sa:PySem.W.findIn K (.ref C) "__setattr__" = some (some (.builtin "object.__setattr__"))
theorem Cls.get{K:dD}{C:Addr}(c:Cls K C)(f:Str):PySem.W.plainGet K C f=true:=c.pg
structure Con(K:dD)(C:Addr)(f:Str)(v:V)(u:Value):Prop where
 at_:PySem.W.findIn K (.ref C) f=some (some u)
 rel:RelV v u
 get:PySem.W.specialIn K u "__get__" = some none
 cp:PySem.W.copiedNames.contains f=false
structure Meth(K:dD)(C:Addr)(m:Str)(f:Addr):Prop where
 at_:PySem.W.findIn K (.ref C) m=some (some (.ref f))
 fn:PySem.W.isFn K (.ref f)=true
 kp:PySem.W.keepIn K (.ref f)=true
section
variable{X:Cx}{ac:List (Addr×Obj)}{σ:St}{H:Hp}{s:Shared}{a C dx:Addr}{fs:List (Str×V)}{f:Str}{v:V}{A:Around}{E:Value->Shared->Prop}
end
section
variable{X:Cx}{o e value:Expr}{f:Str}{pos pos' tpos:Pos}{ta tv:TE}
end
section
variable{X:Cx}{ac:List (Addr×Obj)}{σ:St}{H:Hp}{s:Shared}{A:Around}{E:Value->Shared->Prop}{Q:Value->Shared->Prop}{c:Value}{b:Bool}
inductive TyOf(K:dD)(H:Hp):V->Value->Prop where
 | non:TyOf K H .non (.type "NoneType")
 | bl (x:Bool):TyOf K H (.bl x) (.type "bool")
 | int (i:Int):TyOf K H (.int i) (.type "int")
 | str (x:Str):TyOf K H (.str x) (.type "str")
 | flt (x:UInt64):TyOf K H (.flt x) (.type "float")
 | lst {a:Addr} {xs:List V} (e:H a=some (.lst xs)):TyOf K H (.ref a) (.type "list")
 | frz {a:Addr} {o:Obj} {xs:List V} (e:H a=some (.frz o (.lst xs))):TyOf K H (.ref a) (.type "list")
 | tup {a:Addr} {xs:List V} (e:H a=some (.tup xs)):TyOf K H (.ref a) (.type "tuple")
 | dK {a:Addr} {ag:List (Key×V)} (e:H a=some (.dK ag)):TyOf K H (.ref a) (.type "dict")
 | dT {a:Addr} {ag:List (List Key×V)} (e:H a=some (.dT ag)):TyOf K H (.ref a) (.type "dict")
 | ins {a C dx:Addr} {fs:List (Str×V)} (e:H a=some (.ins C dx fs)) (cl:Cls K C) (ha:PySem.W.findIn K (.ref C) "__class__" = some (some (.builtin "object.__class__")))
   (hn:PySem.W.specialIn K (.builtin "object.__class__") "__get__" = some (some (.builtin "getset_descriptor.__get__"))) (htk:PySem.W.takesIn K (.builtin "object.__class__")=some true)
   (hm:PySem.W.mroIn K C (.type "object")=some true):TyOf K H (.ref a) (.ref C)
theorem TN{x:V}{u t:Value}(I:Inv X ac σ H s)(rx:RelV x u)(ty:TyOf X.K H x t)(e:PySem.W.kitOne X.K t c=some b)(h:∀tk,Q (.bool b) { s with toks:=tk }) :
  wpAny (model X.prog X.w) A (call (.builtin "isinstance") [u,c]) Q E s:=by
 cases ty with
 | non=>cases (show u=Value.none from rx);exact PySem.W.kia_one PySem.W.kitx_none I.kIn True.intro e (λz=>nomatch z) h
 | bl y=>cases (show u=Value.bool y from rx);exact PySem.W.kia_one PySem.W.kitx_bool I.kIn True.intro e (λz=>nomatch z) h
 | int i=>obtain⟨t,q⟩:=(show ∃t,u=Value.int i t from rx);cases q;exact PySem.W.kia_one PySem.W.kitx_int I.kIn True.intro e (λz=>nomatch z) h
 | str y=>obtain⟨t,q⟩:=(show ∃t,u=Value.str y t from rx);cases q;exact PySem.W.kia_one PySem.W.kitx_str I.kIn True.intro e (λz=>nomatch z) h
 | flt y=>obtain⟨t,q⟩:=(show ∃t,u=Value.float y t from rx);cases q;exact PySem.W.kia_one PySem.W.kitx_float I.kIn True.intro e (λz=>nomatch z) h
 | @lst a xs ea=>
  cases (show u=Value.ref a from rx);obtain⟨_,_,n,_,h1⟩:=(show ObjOk X.prog X.w H s.heap a (.lst xs)from I.hok a _ ea);exact PySem.W.kia_one PySem.W.kitx_list I.kIn ⟨_,h1,rfl⟩ e (λz=>nomatch z) h
 | @frz a ob xs ea=>
  cases (show u=Value.ref a from rx);obtain⟨_,_,_,n,_,h1⟩:=(show ObjOk X.prog X.w H s.heap a (.frz ob (.lst xs))from I.hok a _ ea);exact PySem.W.kia_one PySem.W.kitx_list I.kIn ⟨_,h1,rfl⟩ e (λz=>nomatch z) h
 | @tup a xs ea=>
  cases (show u=Value.ref a from rx);obtain⟨_,_,_,p⟩:=(show ObjOk X.prog X.w H s.heap a (.tup xs)from I.hok a _ ea);obtain⟨o,h1,h2,_⟩:=p.1;exact PySem.W.kia_one PySem.W.kitx_tuple I.kIn ⟨o,h1,h2⟩ e (λz=>nomatch z) h
 | @dK a ag ea=>
  cases (show u=Value.ref a from rx);obtain⟨_,_,vs,_,p⟩:=(show ObjOk X.prog X.w H s.heap a (.dK ag)from I.hok a _ ea);obtain⟨o,es,ep,h1,h2,_⟩:=p;exact PySem.W.kia_one PySem.W.kitx_dict I.kIn ⟨o,h1,h2.1⟩ e (λz=>nomatch z) h
 | @dT a ag ea=>
  cases (show u=Value.ref a from rx);obtain⟨_,_,xs,_,o,es,ep,h1,h2,_⟩:=(show ObjOk X.prog X.w H s.heap a (.dT ag)from I.hok a _ ea);exact PySem.W.kia_one PySem.W.kitx_dict I.kIn ⟨o,h1,h2.1⟩ e (λz=>nomatch z) h
 | @ins a C dx fs ea cl ha hn htk hm=>
  cases (show u=Value.ref a from rx);obtain⟨mA,O,_⟩:=ins_get I.hok ea;obtain⟨od,J,_⟩:=O.look;exact PySem.W.kia_one (PySem.W.kitx_own (cl.get _) cl.hd ha hn htk hm) I.kIn J e (λz=>nomatch z) h
end
structure Room(k:Nat)(A:Around):Prop where
 hd:A.handled=none
 dp:A.depth+3*k+5<recursionLimit
 un:A.units+16*k+200<cLine
theorem Room.mono{j k:Nat}{A:Around}(r:Room k A)(h:j<=k):Room j A:=⟨r.hd,by have:=r.dp;omega,by have:=r.un;omega⟩
theorem Room.deeper{k:Nat}{A:Around}(r:Room (k+1) A)(env:Env):Room k (A.deeper env):=
 ⟨r.hd,by have:=r.dp;show A.depth+1+3*k+5<_;omega,by have:=r.un;show A.units+3+16*k+200<_;omega⟩
theorem Room.depth{k:Nat}{A:Around}(r:Room k A):A.depth<recursionLimit:=by have:=r.dp;omega
theorem Room.units{k:Nat}{A:Around}(r:Room k A):A.units+64<cLine:=by have:=r.un;omega
theorem Room.units0{k:Nat}{A:Around}(r:Room k A):A.units<cLine:=by have:=r.un;omega
def tNil:TA:=λ_ H Q=>Q [] H
def yS(ta:TE)(tr:TA):TA:=fun σ H Q=>ta σ H λx H1=>tr σ H1 λxs H2=>Q (x::xs) H2
section
variable{X:Cx}{e:Expr}{es:List Expr}{te:TE}{t:TA}{pos:Pos}
theorem jC:PA X [] tNil:=λ_ _ _ _ H Q I h=>Calls.spliced_nil ⟨[],H,I,.nil,h⟩
theorem jA(ha:PE X e te)(hr:PA X es t)(hs:starEach (e::es) X.env=(false,eval e X.env)::starEach es X.env:=by rfl):PA X (e::es) (yS te t):=by
 intro pos ac s σ H Q I h;rw[hs];show wpAny _ _ (spliced ((false,eval e X.env)::backTo pos (starEach es X.env))) _ _ s;refine Calls.spliced_cons (thn (ha ac s σ H _ I h) λu s1 ⟨x,H1,I1,r1,q1⟩=>?_);exact thn (hr pos ac s1 σ H1 _ I1 q1) λus s2 ⟨xs,H2,I2,r2,q2⟩=>⟨x::xs,H2,I2,.cons r1 r2,q2⟩
def tTup(t:TA):TE:=fun σ H Q=>t σ H λxs H1=>xs.length<=sizeLine/\∀p,H1 p=none->Q (.ref p) (upd H1 p (.tup xs))
theorem pe_tup{x1}(h:PA X es t):PE X (.Tuple es x1 pos) (tTup t):=by
 intro ac s σ H Q I hq;refine wpAny_Tuple_spliced (thn (h pos ac s σ H _ I hq) λus s1 ⟨xs,H1,I1,r,z,q⟩=>⟨by rw[<-r.length];exact z, ?_⟩);have hf:H1 s1.heap.objs.size=none:=I1.hok.fresh uU ;refine⟨.ref s1.heap.objs.size,upd H1 s1.heap.objs.size (.tup xs),I1.laid (t':=s1.toks) (λb u e=>gI _ e) uU ?_,rfl,q _ hf⟩;exact⟨z,us,r,⟨_,gX _ rfl,rfl,_,rfl⟩,.of (gX _ rfl) rfl⟩
end
abbrev Sp:=List V->Hp->VK->XK->Prop
abbrev CXT:=List Env->Hp->Shared->XK->Value->Shared->Prop
structure Env0(P:Program)(w:World)(K:dD)(mg:Str->Option Value)(base:Heap)(A:Around)(outer:List Env)(s:Shared)(H:Hp):Prop where
 frames:A.frames=some outer
 mod:Mod K mg base
 bs:∀b o,base.get? b=some o->s.heap.get? b=some o/\H b=none
 bsz:base.objs.size<=s.heap.objs.size
 funs:s.heap.FunFrames base outer
 frf:∀b∈frs outer,H b=none
 hok:HOk P w H s.heap
 bare:AllBare s.gens
def CE(outer:List Env)(P:Program)(w:World)(H:Hp)(s:Shared)(Q:VK)(u:Value)(s':Shared):Prop:=
 ∃v H',s'.os=s.os/\AllBare s'.gens/\Un (frs outer) [] H H' s.heap s'.heap/\HOk P w H' s'.heap/\RelV v u/\Q v H'
def CR(CX:CXT)(outer:List Env)(P:Program)(w:World)(H:Hp)(s:Shared)(Q:VK)(E:XK)(r:Result)(s':Shared):Prop:=
 match r with
 | .ok (.ret u)=>CE outer P w H s Q u s'
 | .ok _=>False
 | .error e=>CX outer H s E e s'
structure FnOk(P:Program)(w:World)(K:dD)(mg:Str->Option Value)(base:Heap)(CX:CXT)(k:Nat)(f:Addr)(fd:FuncData)(ps:List Str)(sp:Sp):Prop where
 len:∀vs H Q E,sp vs H Q E->vs.length=ps.length
 run:∀(A:Around) (outer:List Env) (s:Shared) (H:Hp) (args:Args) (us:List Value) (vs:List V) (Q:VK) (E:XK),Room k A->Env0 P w K mg base A outer s H->BindsTo s fd args (ps.zip us)->Vals vs us->sp vs H Q E->
  codeAny (model P w) A (.call (.ref f) args) (CR CX outer P w H s Q E) s
section
variable{X:Cx}{ac:List (Addr×Obj)}{σ:St}{H:Hp}{s s':Shared}
theorem Inv.env0(I:Inv X ac σ H s):Env0 X.prog X.w X.K X.mg X.base X.A X.stack s H:=
 ⟨I.ok.frames,I.ok.mod,I.bs,tD I.ok.bsz I.sz,I.stack,I.stkFree,I.hok,I.bare⟩
theorem Inv.after{Q:VK}{u:Value}(I:Inv X ac σ H s)(h:CE X.stack X.prog X.w H s Q u s'):EP X ac σ Q u s':=by
 obtain⟨v,H',os,bare,un,hok,r,q⟩:=h;obtain⟨hh,g,d,t,os'⟩:=s';obtain rfl:os'=s.os:=os;exact⟨v,H',I.call (h':=hh) (g':=g) (d':=d) (t':=t) (ch:=[]) un hok bare (λb z=>absurd z (by simp)),r,q⟩
end
def tCall(sp:Sp)(dvs:List V)(E:XK)(t:TA):TE:=fun σ H Q=>t σ H λvs H1=>sp (vs++dvs) H1 Q E
def Binds(K:dD)(fd:FuncData)(ps:List Str)(ds:List Value):Prop:=
 ∀(s:Shared) (us:List Value),K.In s.heap->(us++ds).length=ps.length->BindsTo s fd ⟨us,[]⟩ (ps.zip (us++ds))
theorem Binds.all{K:dD}{fd:FuncData}{ps:List Str}(h:∀us:List Value,us.length=ps.length->bindArgs fd ⟨us,[]⟩=pure (ps.zip us)):Binds K fd ps []:=λs us _ hl=>by
 rw[List.append_nil]at hl ⊢;exact .of_eq (h us hl)
def Passes(CX:CXT)(X:Cx)(E:XK):Prop:=∀(ac:List (Addr×Obj)) (σ:St) (H:Hp) (s:Shared) (e:Value) (s':Shared),Inv X ac σ H s->CX X.stack H s E e s'->X.xe e s'
section
variable{X:Cx}{CX:CXT}{k:Nat}{f C:Addr}{fd:FuncData}{ps:List Str}{sp:Sp}{dvs:List V}{ds:List Value}{E:XK}{x m:Str}{p pos apos:Pos}{e o:Expr}{es:List Expr}{ta:TE}{t:TA}
theorem run_fn{ac:List (Addr×Obj)}{σ:St}{H:Hp}{s:Shared}{Q:VK}{us:List Value}{vs:List V}(F:FnOk X.prog X.w X.K X.mg X.base CX k f fd ps sp)(hr:Room k X.A)(hb:Binds X.K fd ps ds)(hd:Vals dvs ds)(hx:Passes CX X E)
  (I:Inv X ac σ H s) (r:Vals vs us) (h:sp (vs++dvs) H Q E):wpAny (model X.prog X.w) X.A (call (.ref f) us) (EP X ac σ Q) X.xe s:=by
 have r2:Vals (vs++dvs) (us++ds):=r.append hd;have hl:(us++ds).length=ps.length:=by rw[<-r2.length];exact F.len _ _ _ _ h
 refine wpAny_call (codeAny_mono (F.run X.A X.stack s H ⟨us,[]⟩ (us++ds) (vs++dvs) Q E hr I.env0 (hb s us I.kIn hl) r2 h) λr s' hq=>?_);cases r with
 | error e=>exact hx ac σ H s e s' I hq
 | ok fl=>
  cases fl with
  | ret u=>exact I.after hq
  | next=>exact False.elim hq
  | brk=>exact False.elim hq
  | cont=>exact False.elim hq
theorem jG(F:FnOk X.prog X.w X.K X.mg X.base CX k f fd ps sp)(hr:Room k X.A)(hg:Gl X x)(hm:X.mg x=some (.ref f))(hk:PySem.W.keepIn X.K (.ref f)=true)(hb:Binds X.K fd ps ds)(hd:Vals dvs ds)(hx:Passes CX X E)
  (ha:PA X (e::es) t) (hdb:(x==("__debug__" :Str))=false:=by decide) (he:starEach (e::es) X.env=(false,eval e X.env)::starEach es X.env:=by rfl) (hpl:(backTo pos (starEach es X.env)).any (·.1)=false:=by rfl) :
  PE X (.Call (.Name x p) (e::es) [] pos) (tCall sp dvs E t):=by
 intro ac s σ H Q I h;refine wpAny_Call_Name_kw (QO I hg hm ?_ hdb);refine PySem.W.callWith_K (h₀:=X.base) I.ok.mod.kin hk (thn (ha pos ac s σ H _ I h) λus s1 ⟨vs,H1,I1,r,q⟩=>⟨I1.kIn, ?_⟩) he hpl;exact run_fn F hr hb hd hx I1 r q
structure Mk(K:dD)(C f:Addr):Prop where
 makes:PySem.W.makesIn K C=true
 init:PySem.W.findIn K (.ref C) "__init__" = some (some (.ref f))
 fn:PySem.W.isFn K (.ref f)=true
 kp:PySem.W.keepIn K (.ref C)=true
end
def PK(X:Cx)(kws:List Keyword)(t:TA):Prop:=
 ∀(pos:Pos) (ac:List (Addr×Obj)) (s:Shared) (σ:St) (H:Hp) (Q:List V->Hp->Prop),Inv X ac σ H s->t σ H Q->wpAny (model X.prog X.w) X.A (evalAll ((backToKw pos (keywordEach kws X.env)).map (·.2))) (AP X ac σ Q) X.xe s
section
variable{X:Cx}{CX:CXT}{k:Nat}{f C:Addr}{fd:FuncData}{ps ks:List Str}{sp:Sp}{E:XK}{x m:Str}{p pos apos kpos:Pos}{e o:Expr}{es:List Expr}{kws:List Keyword}{te ta:TE}{t tk:TA}{nm:Option Str}
theorem pk_nil:PK X [] tNil:=λ_ _ _ _ H Q I h=>wpAny_evalAll_nil ⟨[],H,I,.nil,h⟩
theorem pk_cons(ha:PE X e te)(hr:PK X kws t):PK X (⟨nm,e,kpos⟩::kws) (yS te t):=by
 intro pos ac s σ H Q I h;show wpAny _ _ (evalAll ((do let v<-eval e X.env;standAt pos;pure v)::(backToKw pos (keywordEach kws X.env)).map (·.2))) _ _ s;refine wpAny_evalAll_cons (tX (thn (ha ac s σ H _ I h) λu s1 ⟨x,H1,I1,r1,q1⟩=>tX (wpAny_standAt (tY ?_))));exact thn (hr pos ac s1 σ H1 _ I1 q1) λus s2 ⟨xs,H2,I2,r2,q2⟩=>⟨x::xs,H2,I2,.cons r1 r2,q2⟩
structure KBinds(K:dD)(fd:FuncData)(ps ks:List Str)(g:List Value->List Value->List Value)(gV:List V->List V->List V):Prop where
 to:∀(s:Shared) (us ws:List Value),K.In s.heap->(g us ws).length=ps.length->BindsTo s fd ⟨us,ks.zip ws⟩ (ps.zip (g us ws))
 rel:∀{vs:List V} {us:List Value} {zs:List V} {ws:List Value},Vals vs us->Vals zs ws->Vals (gV vs zs) (g us ws)
variable{g:List Value->List Value->List Value}{gV:List V->List V->List V}
end
structure FnScope(N P:List Str)(sc:Scope):Prop where
 kind:sc.kind=.function
 co:sc.isCoroutine=false
 gen:sc.isGenerator=false
 nd:N.Nodup
 pre:N.take P.length=P
 par:∀x∈P,sc.names.lookup x=some .local∨sc.names.lookup x=some .cell
 nofree:∀y∈sc.names,y.2≠.free
theorem HQ{kindOf:Str->Option NameKind}{x:Str} :∀{binds:List (Str×Value)} {m:Str->Option Value},(∀v,(x,v)∉binds)->bindL kindOf binds m x=m x
 | [],_,_=>rfl
 | (n,v)::r,m,h=>by
  unfold bindL;rw[HQ λw hw=>h w (gR _ hw)];split
  ·have:x≠n:=by rintro rfl;exact h v mF
   simp [this]
  ·rfl
theorem HS{kindOf:Str->Option NameKind}{x:Str} :∀{binds:List (Str×Value)} {m:Str->Option Value},(∀v,(x,v)∉binds)->bindC kindOf binds m x=m x
 | [],_,_=>rfl
 | (n,v)::r,m,h=>by
  unfold bindC;rw[HS λw hw=>h w (gR _ hw)];split
  ·rfl
  ·have:x≠n:=by rintro rfl;exact h v mF
   simp [this]
theorem HR{kindOf:Str->Option NameKind}{x:Str}{v:Value} :∀{P:List Str} {vs:List Value} {i:Nat} {m:Str->Option Value},P.Nodup->P[i]? = some x->vs[i]? = some v->kindOf x=some .local->
  bindL kindOf (P.zip vs) m x=some v
 | [],_,_,_,_,h,_,_=>by simp at h
 | _::_,[],_,_,_,_,h,_=>by simp at h
 | p::P,w::vs,0,m,nd,h1,h2,hk=>by
  simp at h1 h2;subst h1;subst h2;show bindL kindOf ((p,w)::P.zip vs) m p=_;unfold bindL;rw[HQ λv hv=>(List.nodup_cons.mp nd).1 (List.of_mem_zip hv).1,dC hk];simp
 | p::P,w::vs,i+1,m,nd,h1,h2,hk=>by
  show bindL kindOf ((p,w)::P.zip vs) m x=_;unfold bindL;exact HR (i:=i) (List.nodup_cons.mp nd).2 (by simpa using h1) (by simpa using h2) hk
theorem HU{kindOf:Str->Option NameKind}{x:Str}{v:Value} :∀{P:List Str} {vs:List Value} {i:Nat} {m:Str->Option Value},P.Nodup->P[i]? = some x->vs[i]? = some v->kindOf x≠some .local->
  bindC kindOf (P.zip vs) m x=some v
 | [],_,_,_,_,h,_,_=>by simp at h
 | _::_,[],_,_,_,_,h,_=>by simp at h
 | p::P,w::vs,0,m,nd,h1,h2,hk=>by
  simp at h1 h2;subst h1;subst h2;show bindC kindOf ((p,w)::P.zip vs) m p=_;unfold bindC;rw[HS λv hv=>(List.nodup_cons.mp nd).1 (List.of_mem_zip hv).1,dA hk];simp
 | p::P,w::vs,i+1,m,nd,h1,h2,hk=>by
  show bindC kindOf ((p,w)::P.zip vs) m x=_;unfold bindC;exact HU (i:=i) (List.nodup_cons.mp nd).2 (by simpa using h1) (by simpa using h2) hk
def start(N:List Str)(vs:List V):St:=vs.map some++List.replicate (N.length-vs.length) none
def UB(CX:CXT)(P:Program)(w:World)(K:dD)(mg:Str->Option Value)(base:Heap)(N:List Str)(qual:Str)(scope:Scope)(f:Addr)(cd:Value)(A:Around)(outer:List Env)(s:Shared)(H:Hp)(E:XK):Cx where
 prog:=P
 w:=w
 K:=K
 mg:=mg
 base:=base
 A:=A.deeper (envOfC qual scope s.heap.objs.size f cd)
 N:=N
 s₀:=s
 H₀:=H
 env:=envOfC qual scope s.heap.objs.size f cd
 outer:=outer
 stack:=envOfC qual scope s.heap.objs.size f cd::outer
 ex:=[]
 calm:=true
 fn:=λ_=>true
 pn:=[]
 xe:=λe s'=>wpAny (model P w) (A.deeper (envOfC qual scope s.heap.objs.size f cd)) (leaving (envOfC qual scope s.heap.objs.size f cd) e) (λ_ s''=>CX outer H s E e s'') (λe' s''=>CX outer H s E e' s'') s'
theorem ME{sc:Scope}{n:Nat}{x:Str}(h:sc.names.lookup x=some .cell):∃c,(cellsFrom n sc.names []).lookup x=some c:=by
 have q:=PySem.W.cellsFrom_some sc.names n [] (.inl h);exact Option.isSome_iff_exists.mp q
theorem TQ{CX:CXT}{P:Program}{w:World}{K:dD}{mg:Str->Option Value}{base:Heap}{N ps:List Str}{qual:Str}{scope:Scope}{f:Addr}{cd:Value}{A:Around}{outer:List Env}{s s1:Shared}{H:Hp}{E:XK}{us:List Value}{vs:List V}
  (S:FnScope N ps scope) (hd:A.handled=none) (e0:Env0 P w K mg base A outer s H) (hl:vs.length=ps.length) (r:Vals vs us)
  (x:InCallC s s.heap.objs.size (bindL (envOfC qual scope s.heap.objs.size f cd).kindOf (ps.zip us) λ_=>none) (cellsFrom (s.heap.objs.size+1) scope.names []) (bindC (envOfC qual scope s.heap.objs.size f cd).kindOf (ps.zip us) λ_=>none) s1) :
  Inv (UB CX P w K mg base N qual scope f cd A outer s H E) [] (start N vs) H s1:=by
 have hpl:ps.length<=N.length:=by have:=congrArg List.length S.pre;rw[mR]at this;omega
 obtain⟨h1,tk,rfl,hk⟩:=x.done;have noA:∀b:Addr,b∉(UB CX P w K mg base N qual scope f cd A outer s H E).ex:=λb z=>absurd (show b∈([]:List Addr)from z) (by simp);refine⟨⟨e0.mod,S.kind,rfl,rfl,tP _,λy z c h1 h2=>?_,λy hy=>?_,λy c _ h=>?_,λ_=>hd,Around.frames_deeper e0.frames,.inr ⟨rfl,rfl⟩,λb z=>absurd z (noA b),e0.bs,e0.bsz,λb _ _=>noA b,λb z=>absurd z (noA b),e0.funs,e0.frf⟩,
  rfl,e0.bare,Un.kept hk,⟨_,x.toInCall.ns,λi y v h1 h2 h3=>?_⟩,λy c h=>⟨_,x.cell y c h⟩,e0.hok.fresh uU,λy c h=>?_,λp hp=>absurd (show p∈([]:List (Addr×Obj))from hp) (by simp),e0.hok.kept hk, ?_⟩
 ·exact name_of_addr x.apart (PySem.mem_of_lookup h1) (PySem.mem_of_lookup h2)
 ·have hy:scope.names.lookup y=some .cell∨scope.names.lookup y=some .free:=hy;rcases hy with hy | hy
  ·exact ME hy
  ·exact absurd rfl (S.nofree _ (PySem.mem_of_lookup hy))
 ·exact tL (x.above y c (PySem.mem_of_lookup h))
 ·have hi:i<vs.length:=by
   unfold start at h2;by_cases hi:i<vs.length
   ·exact hi
   ·rw[uZ (by simpa using hi)]at h2;rw[List.getElem?_replicate]at h2;split at h2<;>cases h2
  have ha:vs[i]? = some v:=by
   unfold start at h2;rw[gD (by simpa using hi),mH]at h2;cases e:vs[i]? with
   | none=>rw[e]at h2;cases h2
   | some a=>rw[e]at h2;cases h2;rfl
  obtain⟨u,hu,rv⟩:=r.get ha;have hp:ps[i]? = some y:=by
   rw[<-S.pre,gF (by omega)];exact h1
  have ndP:ps.Nodup:=by rw[<-S.pre];exact S.nd.sublist (List.take_sublist _ _)
  refine⟨u,rv, ?_⟩;rcases S.par y (gQ hp)with k | k
  ·exact .inl ⟨k,HR ndP hp hu k⟩
  ·obtain⟨c,e⟩:=ME (n:=s.heap.objs.size+1) k;refine .inr ⟨.inl k,c,e, ?_⟩;have q:=x.cell y c e;rw[HU ndP hp hu (by show scope.names.lookup y≠_;rw[k];decide)]at q;exact q
 ·exact e0.hok.fresh (tL (x.above y c (PySem.mem_of_lookup h)))
 ·unfold start;show _=N.length;rw[hU,mZ,gM];omega
theorem fn_of{CX:CXT}{P:Program}{w:World}{K:dD}{mg:Str->Option Value}{base:Heap}{k:Nat}{f:Addr}{name qual:Str}{params:Arguments}{body:List Stmt}{scope:Scope}{dV kV doc pm cdv ct oc:Value}{an od:Option Addr}
  {osl:Array (Option Value)} {N ps:List Str} {sp:Sp} (lk:K.lookup f=some ⟨oc,od,.func (PySem.W.fnOf name qual params body scope dV kV doc pm an cdv ct),osl⟩) (hcd:PySem.W.codeIn K cdv qual=true) (S:FnScope N ps scope)
  (len:∀vs H Q E,sp vs H Q E->vs.length=ps.length)
  (hbody:∀(A:Around) (outer:List Env) (s:Shared) (H:Hp) (vs:List V) (Q:VK) (E:XK),Room k (A.deeper (envOfC qual scope s.heap.objs.size f cdv))->sp vs H Q E->
   ∃t,PSs (UB CX P w K mg base N qual scope f cdv A outer s H E) body t/\t { nx:=λ_ H'=>Q .non H',rt:=Q } (start N vs) H) :
  FnOk P w K mg base CX (k+1) f (PySem.W.fnOf name qual params body scope dV kV doc pm an cdv ct) ps sp:=by
 refine⟨len,λA outer s H args us vs Q E hr e0 hb r hsp=>?_⟩;have hl:=len _ _ _ _ hsp;have KX:K.In s.heap:=e0.mod.kin.keeps λb o e=>(e0.bs b o e).1;have lim:s.heap.NoLimit:=e0.mod.nolimit.keeps λb o e=>(e0.bs b o e).1;have hkind:∀y∈ps.zip us,scope.names.lookup y.1=some .local∨(scope.names.lookup y.1=some .cell/\((cellsFrom (s.heap.objs.size+1) scope.names []).lookup y.1).isSome=true):=λ⟨n,v⟩ hy=>by
  rcases S.par n (List.of_mem_zip hy).1 with q | q
  ·exact .inl q
  ·exact .inr ⟨q,PySem.W.cellsFrom_some _ _ _ (.inl q)⟩
 refine codeAny_call_function hr.depth (KX _ _ lk) rfl S.co S.gen rfl (PySem.W.codeRec_of KX hcd) (hb _ _ _ _ ?_);refine wpAny_newFunctionEnv_cells S.kind hkind λenv he s1 x=>?_;subst he;refine⟨lim.keeps x.toInCall.keep,codeAny_func ?_⟩;obtain⟨t,ht,hq⟩:=hbody A outer s H vs Q E (hr.deeper _) hsp;have I:Inv (UB CX P w K mg base N qual scope f cdv A outer s H E) [] (start N vs) H s1:=TQ S hr.hd e0 hl r x;refine tZ (ht [] s1 (start N vs) H _ I hq) (λfl s' hs=>?_) λe s' hs=>hs;have fin:∀{σ':St} {H':Hp} {v:V} {u:Value},Inv (UB CX P w K mg base N qual scope f cdv A outer s H E) [] σ' H' s'->RelV v u->Q v H'->CE outer P w H s Q u s':=
  fun {σ' H' v u} J rv q=>⟨v,H',J.os,J.bare,J.base,J.hok,rv,q⟩
 cases fl with
 | ret u=>
  obtain⟨v,σ',H',J,rv,q⟩:=hs;exact fin J rv q
 | next=>
  obtain⟨σ',H',J,q⟩:=hs;exact fin (v:=V.non) (u:=Value.none) J rfl q
 | brk=>
  obtain⟨_,_,_,q⟩:=hs;exact False.elim q
 | cont=>
  obtain⟨_,_,_,q⟩:=hs;exact False.elim q
section
variable{X:Cx}{x:Str}{p pos:Pos}{e:Expr}{es:List Expr}{t:TA}{id T:String}{r:List V->Hp->VK->Prop}
def tCB(r:List V->Hp->VK->Prop)(t:TA):TE:=fun σ H Q=>t σ H λvs H1=>r vs H1 Q
theorem kO(hc:CallR X (.builtin id) r)(hg:Gl X x)(hm:X.mg x=none)(hv:bootBuiltins x=some (.builtin id))(ha:PA X (e::es) t)(hn:x≠"__name__":=by decide)(hdb:(x==("__debug__" :Str))=false:=by decide)
  (he:starEach (e::es) X.env=(false,eval e X.env)::starEach es X.env:=by rfl) (hpl:(backTo pos (starEach es X.env)).any (·.1)=false:=by rfl):PE X (.Call (.Name x p) (e::es) [] pos) (tCB r t):=by
 intro ac s σ H Q I h;refine wpAny_Call_Name_kw (zA I hg hm hv ?_ hn hdb);exact PyProof.Rows.callWith_builtin1 (thn (ha pos ac s σ H _ I h) λus s1 ⟨vs,H1,I1,r1,q1⟩=>hc ac s1 σ H1 vs us Q I1 r1 q1) he hpl
theorem kL(hc:CallR X (.type T) r)(hg:Gl X x)(hm:X.mg x=none)(hv:bootBuiltins x=some (.type T))(ha:PA X (e::es) t)(hn:x≠"__name__":=by decide)(hdb:(x==("__debug__" :Str))=false:=by decide)
  (he:starEach (e::es) X.env=(false,eval e X.env)::starEach es X.env:=by rfl) (hpl:(backTo pos (starEach es X.env)).any (·.1)=false:=by rfl):PE X (.Call (.Name x p) (e::es) [] pos) (tCB r t):=by
 intro ac s σ H Q I h;refine wpAny_Call_Name_kw (zA I hg hm hv ?_ hn hdb);exact PyProof.Rows.callWith_type1 (thn (ha pos ac s σ H _ I h) λus s1 ⟨vs,H1,I1,r1,q1⟩=>hc ac s1 σ H1 vs us Q I1 r1 q1) he hpl
end
end L2
namespace HT
open PySem PyProof.Rows
section
open PySem.SeqAt
open PySem.AutoSeq1 (wpAny_loadPart')
open PySem.MeetsSeq PySem.MeetsSeq2 PySem.MeetsSeq3
end
section
variable{prog:Program}{w:World}{A:Around}{E:Value->Shared->Prop}{s:Shared}
theorem cat_tup{t b:Addr}{vs ws:List Value}{Q:Value->Shared->Prop}(ht:IsTup s.heap t vs.toArray)(hb:IsTup s.heap b ws.toArray)(hv:vs≠[])
  (h1:ws=[]->Q (.ref t) s) (h2:ws≠[]->Q (.ref s.heap.objs.size) { s with heap:=s.heap.push { cls:=.type "tuple",data:=.seq (vs++ws).toArray } })
  (hsz:vs.length+ws.length<=sizeLine):wpAny (model prog w) A (binaryOp .Add (.ref t) (.ref b)) Q E s:=by
 obtain⟨⟨cls,dd,data,sl⟩,ho,hc,n,hd⟩:=id ht;obtain⟨⟨cls2,dd2,data2,sl2⟩,ho2,hc2,n2,hd2⟩:=id hb;simp only at hc hd hc2 hd2;subst hc hd hc2 hd2;have e:vs.toArray++ws.toArray=(vs++ws).toArray:=by simp
 by_cases hw:ws=[]
 ·exact concat_meets ⟨_,ho,rfl⟩ ⟨_,ho2,rfl⟩ noFill_tuple_add seq_tuple_add PySem.F.slot_tuple_add PySem.F.entry_tuple_add (PySem.F.args_tuple_add_2 _ _)
   (tuple_addW1 t b vs.toArray ws.toArray n n2 dd dd2 sl sl2 (by simpa using hv) (by simp [hw])) ⟨ho,ho2,h1 hw⟩
 ·refine concat_meets ⟨_,ho,rfl⟩ ⟨_,ho2,rfl⟩ noFill_tuple_add seq_tuple_add PySem.F.slot_tuple_add PySem.F.entry_tuple_add (PySem.F.args_tuple_add_2 _ _)
   (tuple_addW2 t b vs.toArray ws.toArray n n2 dd dd2 sl sl2 (by simpa using hv) (by simpa using hw) (by rw[mI,mI];exact hsz)) ⟨ho,ho2, ?_⟩
  rw[e];exact h2 hw
def sIx(n d:Nat):Option Int->Nat
 | none=>d
 | some v=>if v<0 then(v+(n:Int)).toNat else min v.toNat n
theorem sIx_none(n d:Nat):sIx n d none=d:=rfl
theorem sIx_nat(n d k:Nat):sIx n d (some (k:Int))=min k n:=by
 show(if (k:Int)<0 then((k:Int)+(n:Int)).toNat else min (k:Int).toNat n)=min k n;rw[dA (by omega),mP]
end
end HT
namespace L2
open PySem PySem.Spec PyProof.Rows
abbrev TO:=St->Hp->(Option Int->Hp->Prop)->Prop
def PO(X:Cx)(e:Option Expr)(t:TO):Prop:=
 ∀(ac:List (Addr×Obj)) (s:Shared) (σ:St) (H:Hp) (Q:Option Int->Hp->Prop),Inv X ac σ H s->t σ H Q->
  wpAny (model X.prog X.w) X.A (evalPart e X.env) (λu s'=>∃o H',Inv X ac σ H' s'/\IsPart u o/\Q o H') X.xe s
def tNoPart:TO:=λ_ H Q=>Q none H
def tPart(t:TE):TO:=fun σ H Q=>t σ H λx H1=>∃i,x=.int i/\Q (some i) H1
theorem vN{ns:List Int} :∀{us:List Value},Vals (ns.map V.int) us->IntsAre us ns:=by
 induction ns with
 | nil=>intro us r;rw[List.map_nil]at r;cases r;exact .nil
 | cons n ns ih=>
  intro us r;rw[nQ]at r;cases r with
  | cons r1 r2=>
   obtain⟨t,e⟩:=r1;subst e;exact .cons n t (ih r2)
section
variable{X:Cx}{e:Expr}{te:TE}{lo hi:Option Expr}{tl th:TO}{pos p2:Pos}
theorem yT:PO X none tNoPart:=by
 intro ac s σ H Q I h;rw[evalPart_none];exact tY ⟨none,H,I,.none,h⟩
theorem vH(h:PE X e te):PO X (some e) (tPart te):=by
 intro ac s σ H Q I hw;rw[evalPart_some];refine thn (h ac s σ H _ I hw) λu s1 ⟨x,H1,I1,r1,q1⟩=>?_;obtain⟨i,rfl,q⟩:=q1;obtain⟨t,rfl⟩:=r1;exact⟨some i,H1,I1,.int i t,q⟩
def SlR(X:Cx)(r:V->Option Int->Option Int->Hp->VK->Prop):Prop:=
 ∀(ac:List (Addr×Obj)) (s:Shared) (σ:St) (H:Hp) (x:V) (v vl vu:Value) (lo hi:Option Int) (sl:Addr) (Q:VK),Inv X ac σ H s->RelV x v->s.heap.IsSliceOf sl vl vu .none->IsPart vl lo->IsPart vu hi->r x lo hi H Q->
  ∃T id,typeLookup (.type T) "__getitem__" = pure (some (.builtin id))/\s.TypeIs v T/\wpAny (model X.prog X.w) X.A (getItem v (.ref sl)) (EP X ac σ Q) X.xe s
def tSl(r:V->Option Int->Option Int->Hp->VK->Prop)(te:TE)(tl th:TO):TE:=fun σ H Q=>te σ H λx H1=>tl σ H1 λl H2=>th σ H2 λu H3=>r x l u H3 Q
theorem vK{r:V->Option Int->Option Int->Hp->VK->Prop}(hr:SlR X r)(he:PE X e te)(hl:PO X lo tl)(hu:PO X hi th):PE X (.Subscript e (.Slice lo hi none p2) pos) (tSl r te tl th):=by
 intro ac s σ H Q I h;refine Subscript_ (thn (he ac s σ H _ I h) λv s1 ⟨x,H1,I1,r1,q1⟩=>?_);refine wpAny_Slice (thn (hl ac s1 σ H1 _ I1 q1) λvl s2 ⟨l,H2,I2,pl,q2⟩=>thn (hu ac s2 σ H2 _ I2 q2) λvu s3 ⟨u,H3,I3,pu,q3⟩=>?_);rw[evalPart_none];refine tY ?_;have I4:Inv X ac σ H3 { s3 with heap:=s3.heap.push { cls:=.type "slice",data:=.fields #[vl,vu,.none] } } :=I3.kept (t':=s3.toks) λb ob q=>gI _ q;obtain⟨T,id,hT,ht,hg⟩:=hr ac { s3 with heap:=s3.heap.push { cls:=.type "slice",data:=.fields #[vl,vu,.none] } } σ H3 x v vl vu l u s3.heap.objs.size Q I4 r1 (Heap.IsSliceOf.new ..) pl pu q3;show wpAny (model X.prog X.w) X.A (subscriptTail e (.Slice lo hi none p2) v (.ref s3.heap.objs.size)) (EP X ac σ Q) X.xe { s3 with heap:=s3.heap.push { cls:=.type "slice",data:=.fields #[vl,vu,.none] } };exact tail_any (ops:=[.ref s3.heap.objs.size,v]) ht hT hg (by with_unfolding_all rfl)
def zV(xs:List V)(lo hi:Option Int):List V:=(xs.drop (HT.sIx xs.length 0 lo)).take (HT.sIx xs.length xs.length hi-HT.sIx xs.length 0 lo)
theorem MA(xs:List V)(lo hi:Option Int):(zV xs lo hi).length<=xs.length:=by
 unfold zV;rw[mR,List.length_drop];omega
theorem Vals.nil_iff{xs:List V}{us:List Value}(r:Vals xs us):us=[]↔xs=[]:=by
 cases r with
 | nil=>simp
 | cons _ _=>simp
end
def ixN(n:Nat)(i:Int):Option Nat:=if 0<=i then(if i<n then some i.toNat else none)else if -(n:Int)<=i then some (i+n).toNat else none
def atI{α:Type}(xs:List α)(i:Int):Option α:=(ixN xs.length i).bind λj=>xs[j]?
theorem QR{n:Nat}{i:Int}{j:Nat}(h:ixN n i=some j):seqIndex? i n=some j/\j<n/\-(n:Int)<=i/\i<n:=by
 unfold ixN at h;by_cases h0:0<=i
 ·rw[dC h0]at h;by_cases h1:i<n
  ·rw[dC h1]at h;have e:i.toNat=j:=Option.some.inj h;exact⟨by rw[seqIndex_of h0 h1,e],by omega,by omega,h1⟩
  ·rw[dA h1]at h;cases h
 ·rw[dA h0]at h;by_cases h1: -(n:Int)<=i
  ·rw[dC h1]at h;have e:(i+n).toNat=j:=Option.some.inj h;exact⟨by rw[seqIndex_neg (by omega) h1,e],by omega,h1,by omega⟩
  ·rw[dA h1]at h;cases h
theorem RO{α:Type}{xs:List α}{i:Int}{v:α}(h:atI xs i=some v):∃j,seqIndex? i xs.length=some j/\xs[j]? = some v/\j<xs.length/\-(xs.length:Int)<=i/\i<xs.length:=by
 unfold atI at h;cases e:ixN xs.length i with
 | none=>rw[e]at h;cases h
 | some j=>
  rw[e]at h;obtain⟨h1,h2,h3,h4⟩:=QR e;exact⟨j,h1,h,h2,h3,h4⟩
theorem AQ{α:Type}{xs:List α}{j:Nat}{v:α}(h:xs[j]? = some v):atI xs (j:Int)=some v:=by
 have hj:j<xs.length:=(gC.mp h).1;have e:ixN xs.length (j:Int)=some j:=by
  unfold ixN;rw[dC (by omega),dC (by omega)];simp
 unfold atI;rw[e];exact h
theorem FI{α:Type}(xs:List α)(v:α):atI (xs++[v]) (-1)=some v:=by
 have hl:(xs++[v]).length=xs.length+1:=by simp
 have e:ixN (xs++[v]).length (-1)=some xs.length:=by
  unfold ixN;rw[hl,dA (by decide),dC (by omega)]
  congr 1
  omega
 unfold atI;rw[e];show(xs++[v])[xs.length]? = some v;simp
def PlainIx(b:Expr):Prop:=∀o i,subscripted b false o i=operate [o,i] (getItem o i)
def IxR(X:Cx)(r:R2):Prop:=
 ∀(value slice:Expr) (ac:List (Addr×Obj)) (s:Shared) (σ:St) (H:Hp) (x y:V) (v u:Value) (Q:VK),Inv X ac σ H s->RelV x v->RelV y u->r x y H Q->
  subscripted slice false v u=operate [v,u] (getItem v u)->wpAny (model X.prog X.w) X.A (subscriptTail value slice v u) (EP X ac σ Q) X.xe s
def MtR(X:Cx)(id:String)(r:V->List V->Hp->VK->Prop):Prop:=
 ∀(ac:List (Addr×Obj)) (s:Shared) (σ:St) (H:Hp) (x:V) (xs:List V) (v:Value) (us:List Value) (Q:VK),Inv X ac σ H s->RelV x v->Vals xs us->r x xs H Q->
  wpAny (model X.prog X.w) X.A (call (.builtin id) (v::us)) (EP X ac σ Q) X.xe s
section
variable{X:Cx}{a b:Expr}{ta tb:TE}{pos:Pos}
theorem jN{r:R2}(hr:IxR X r)(ha:PE X a ta)(hb:PE X b tb)(hs:PlainIx b):PE X (.Subscript a b pos) (tOp r ta tb):=by
 intro ac s σ H Q I h;exact Subscript_ (binT ha hb I h λv u s2 x y H2 I2 rx ry q=>hr a b ac s2 σ H2 x y v u Q I2 rx ry q (hs _ _))
def BY(K:dD):R2:=λx y H Q=>∃p xs i v,x=.ref p/\y=.int i/\SqL K H p xs/\atI xs i=some v/\Q v H
def rIxT(K:dD):R2:=λx y H Q=>∃p xs i v,x=.ref p/\y=.int i/\SqT K H p xs/\atI xs i=some v/\Q v H
theorem kH:IxR X (BY X.K):=by
 intro value slice ac s σ H x y v u Q I rx ry h hs;obtain⟨p,xs,i,z,rfl,rfl,hq,he,q⟩:=h;cases rx;obtain⟨t,rfl⟩:=ry;obtain⟨its,r,pl,hz⟩:=I.list hq;obtain⟨j,h1,h2,h3,h4,h5⟩:=RO he;obtain⟨w,ew,rw'⟩:=r.get h2;have hl:=r.length;have hn:=JH;have fin:EP X ac σ Q w s:=⟨z,H,I,rw',q⟩;by_cases h0:0<=i
 ·have hj:i.toNat=j:=by
   rw[seqIndex_of h0 h5]at h1;exact Option.some.inj h1
  exact item_listR pl.isList h0 (by omega) (by rw[hj];simpa using ew) fin hs
 ·have hj:(i+(its.toArray.size:Int)).toNat=j:=by
   rw[seqIndex_neg (by omega) h4]at h1;rw[mI,<-hl];exact Option.some.inj h1
  exact subscriptTail_builtinR (x:=w) pl.isList.typeIs slot_list_getitem.lookup
   (wpAny_getItem_list_neg (Q:=λr s'=>r=w/\EP X ac σ Q r s') pl.isList (by omega) (by rw[mI]<;>omega) (by omega) (by rw[hj];simpa using ew) ⟨rfl,fin⟩) hs
theorem jS:IxR X (rIxT X.K):=by
 intro value slice ac s σ H x y v u Q I rx ry h hs;obtain⟨p,xs,i,z,rfl,rfl,hq,he,q⟩:=h;cases rx;obtain⟨t,rfl⟩:=ry;obtain⟨its,r,pl,hz⟩:=I.tuple hq;obtain⟨j,h1,h2,h3,h4,h5⟩:=RO he;obtain⟨w,ew,rw'⟩:=r.get h2;have hl:=r.length;have hn:=JH;have fin:EP X ac σ Q w s:=⟨z,H,I,rw',q⟩;exact subscriptTail_builtinR (x:=w) pl.typeIs slot_tuple_getitem.lookup
  (getItem_tuple (j:=j) (Q:=λr s'=>r=w/\EP X ac σ Q r s') pl (by omega) (by omega) (by rw[mI,<-hl];exact h1) (by simpa using ew) ⟨rfl,fin⟩) hs
theorem NX(its:List Value)(n j:Nat)(u:Value):Obj.mapSeq (·.setIfInBounds j u) { cls:=.type "list",data:=.seq its.toArray n } = { cls:=.type "list",data:=.seq (its.set j u).toArray n } :=by
 simp [Obj.mapSeq]
theorem Inv.lst{ac:List (Addr×Obj)}{σ:St}{H:Hp}{s:Shared}{p:Addr}{xs:List V}(I:Inv X ac σ H s)(h:H p=some (.lst xs)) :
  ∃(its:List Value) (n:Nat),Vals xs its/\s.heap.get? p=some { cls:=.type "list",data:=.seq its.toArray n }/\xs.length<=sizeLine:=by
 obtain⟨z,its,n,r,e⟩:=I.hok p _ h;exact⟨its,n,r,e,z⟩
theorem Inv.lstUpd{ac:List (Addr×Obj)}{σ:St}{H:Hp}{s:Shared}{p:Addr}{xs ys:List V}{its its':List Value}{n n':Nat}{f:Obj->Obj}(I:Inv X ac σ H s)(h:H p=some (.lst xs))
  (ho:s.heap.get? p=some { cls:=.type "list",data:=.seq its.toArray n }) (hf:f { cls:=.type "list",data:=.seq its.toArray n } = { cls:=.type "list",data:=.seq its'.toArray n' }) (r:Vals ys its') (hz:ys.length<=sizeLine) (t:Nat) :
  Inv X ac σ (upd H p (.lst ys)) { s with heap:=s.heap.update p f,toks:=t } :=by
 have e:(s.heap.update p f).get? p=some { cls:=.type "list",data:=.seq its'.toArray n' } :=by
  rw[Heap.get?_update_self f ho (by rw[hf]<;>rfl),hf]
 refine I.write (x:=p) (e:=p) (by rw[h];trivial) (.inl rfl) (λb u hb q=>(Heap.get?_update_other _ _ (Ne.symm hb)).trans q) ⟨_,e⟩ ?_;exact⟨hz,its',n',r,e⟩
def rSetL:V->V->V->Hp->(Hp->Prop)->Prop:=λo i v H Q=>∃p xs k j,o=.ref p/\i=.int k/\H p=some (.lst xs)/\ixN xs.length k=some j/\Q (upd H p (.lst (xs.set j v)))
theorem xW:PSet X rSetL:=by
 intro ac s σ H o i v ov iv u Q I ro ri rv h;obtain⟨p,xs,k,j,rfl,rfl,hp,hj,q⟩:=h;cases ro;obtain⟨t,rfl⟩:=ri;obtain⟨its,n,r,ho,hz⟩:=I.lst hp;obtain⟨h1,h2,h3,h4⟩:=QR hj;have hl:=r.length;have hn:=JH;have I':Inv X ac σ (upd H p (.lst (xs.set j v))) { s with heap:=s.heap.update p (Obj.mapSeq (·.setIfInBounds j u)) } :=
  I.lstUpd hp ho (NX its n j u) (r.set rv j) (by rw[List.length_set];exact hz) s.toks
 by_cases h0:0<=k
 ·have hk:k.toNat=j:=by
   rw[seqIndex_of h0 h4]at h1;exact Option.some.inj h1
  exact PySem.W.ki_setAt ho h0 (by omega) (by rw[mI,<-hl];exact h4) (by rw[hk];exact⟨_,I',q⟩)
 ·have hk:(k+(its.toArray.size:Int)).toNat=j:=by
   rw[seqIndex_neg (by omega) h3]at h1;rw[mI,<-hl];exact Option.some.inj h1
  exact PySem.W.ki_setBack ho (by omega) (by rw[mI,<-hl];exact h3) (by omega) (by rw[hk];exact⟨_,I',q⟩)
theorem IJ(lo hi:Option Int)(n:Nat):(sliceBounds lo hi none n).1=((HT.sIx n 0 lo:Nat):Int)/\(sliceBounds lo hi none n).2.1=((HT.sIx n n hi:Nat):Int)/\(sliceBounds lo hi none n).2.2=1:=by
 refine⟨?_, ?_,rfl⟩
 ·cases lo with
  | none=>simp [sliceBounds,HT.sIx]
  | some i=>
   simp only[sliceBounds,HT.sIx,Option.getD_none,show(1:Int)>0 by decide,if_true];by_cases h:i<0
   ·simp only[h,if_true]<;>omega
   ·simp only[h,if_false]<;>omega
 ·cases hi with
  | none=>simp [sliceBounds,HT.sIx]
  | some i=>
   simp only[sliceBounds,HT.sIx,Option.getD_none,show(1:Int)>0 by decide,if_true];by_cases h:i<0
   ·simp only[h,if_true]<;>omega
   ·simp only[h,if_false]<;>omega
theorem FK(its:List Value)(lo hi:Option Int):slicePick its.toArray lo hi none=((its.drop (HT.sIx its.length 0 lo)).take (HT.sIx its.length its.length hi-HT.sIx its.length 0 lo)).toArray:=by
 obtain⟨h1,h2,h3⟩:=IJ lo hi its.toArray.size;unfold slicePick;rw[h1,h2,h3];simp only[sliceRange_one,pick_run,mI]<;>rfl
def rSlL(K:dD):V->Option Int->Option Int->Hp->VK->Prop:=λx lo hi H Q=>∃a xs,x=.ref a/\SqL K H a xs/\∀p,H p=none->Q (.ref p) (upd H p (.lst (zV xs lo hi)))
theorem ZS:SlR X (rSlL X.K):=by
 intro ac s σ H x v vl vu lo hi sl Q I rx hs pl pu h;obtain⟨a,xs,rfl,hx,q⟩:=h;cases rx;obtain⟨its,r,ht,hz⟩:=I.list hx;have hlen:=r.length;refine⟨"list",_,slot_list_getitem.lookup,ht.isList.typeIs, ?_⟩;refine wpAny_getItem_list_slice ht.isList hs pl pu .none (by simp) ?_ (by rw[mI]<;>omega);rw[FK,<-hlen];refine⟨.ref s.heap.objs.size,_,I.laid (t':=s.toks) (o:=.lst (zV xs lo hi)) (λb ob q=>gI _ q) uU ?_,rfl,q _ (I.hok.fresh uU)⟩;exact⟨tD (MA xs lo hi) hz,_,0,(r.drop (HT.sIx xs.length 0 lo)).take (HT.sIx xs.length xs.length hi-HT.sIx xs.length 0 lo),gX _ rfl⟩
def LR:V->Bool
 | .non=>true
 | .bl _=>true
 | .int _=>true
 | .str _=>true
 | _=>false
def eqV:V->V->Bool
 | .non,.non=>true
 | .bl a,.bl b=>a==b
 | .bl a,.int b=>(if a then 1 else 0)==b
 | .int a,.bl b=>a==(if b then 1 else 0)
 | .int a,.int b=>a==b
 | .str a,.str b=>a==b
 | _,_=>false
theorem YK{A:Around}{s:Shared}{y x:V}{u v:Value}(ry:RelV y u)(rx:RelV x v)(fy:LR y=true)(fx:LR x=true):SeqAt.EqAt A s u v (eqV y x):=by
 cases y with
 | non=>
  cases ry;cases x with
  | non=>cases rx;exact SeqAt.EqAt.same _
  | bl b=>cases rx;exact SeqAt.EqAt.none_bool b
  | int b=>obtain⟨t,rfl⟩:=rx;exact SeqAt.EqAt.none_int b t
  | str b=>obtain⟨t,rfl⟩:=rx;exact SeqAt.EqAt.none_str b t
  | _=>exact absurd (show false=true from fx) hV
 | bl a=>
  cases ry;cases x with
  | non=>cases rx;exact SeqAt.EqAt.bool_none a
  | bl b=>cases rx;exact SeqAt.EqAt.bool_bool a b
  | int b=>obtain⟨t,rfl⟩:=rx;exact SeqAt.EqAt.bool_int a b t
  | str b=>obtain⟨t,rfl⟩:=rx;exact SeqAt.EqAt.bool_str a b t
  | _=>exact absurd (show false=true from fx) hV
 | int a=>
  obtain⟨t',rfl⟩:=ry;cases x with
  | non=>cases rx;exact SeqAt.EqAt.int_none a t'
  | bl b=>cases rx;exact SeqAt.EqAt.int_bool a t' b
  | int b=>obtain⟨t,rfl⟩:=rx;exact SeqAt.EqAt.int_int a t' b t
  | str b=>obtain⟨t,rfl⟩:=rx;exact SeqAt.EqAt.int_str a t' b t
  | _=>exact absurd (show false=true from fx) hV
 | str a=>
  obtain⟨t',rfl⟩:=ry;cases x with
  | non=>cases rx;exact SeqAt.EqAt.str_none a t'
  | bl b=>cases rx;exact SeqAt.EqAt.str_bool a t' b
  | int b=>obtain⟨t,rfl⟩:=rx;exact SeqAt.EqAt.str_int a t' b t
  | str b=>obtain⟨t,rfl⟩:=rx;exact SeqAt.EqAt.str_str a t' b t
  | _=>exact absurd (show false=true from fx) hV
 | _=>exact absurd (show false=true from fy) hV
theorem qD:CallR X (.builtin "len") (λxs H Q=>∃p ys,xs=[.ref p]/\(SqL X.K H p ys∨SqT X.K H p ys)/\Q (.int ys.length) H):=by
 intro ac s σ H xs us Q I r h;obtain⟨p,ys,rfl,hq,q⟩:=h;obtain⟨u,rfl,rx⟩:=xC r;cases rx;have hn:=JH;rcases hq with hq | hq
 ·obtain⟨its,r',pl,hz⟩:=I.list hq;have hlen:=r'.length;exact Calls.call_len_list pl.isList (by simp only[mI]<;>omega) ⟨.int ys.length,H,I.tok _,⟨s.toks+1,by rw[mI,hlen]⟩,q⟩
 ·obtain⟨its,r',pl,hz⟩:=I.tuple hq;have hlen:=r'.length;exact len_tuple pl (by simp only[mI]<;>omega) ⟨.int ys.length,H,I.tok _,⟨s.toks+1,by rw[mI,hlen]⟩,q⟩
theorem JT:CallR X (.type "list") (λxs H Q=>∃p ys,xs=[.ref p]/\(SqL X.K H p ys∨SqT X.K H p ys)/\∀l,H l=none->Q (.ref l) (upd H l (.lst ys))):=by
 intro ac s σ H xs us Q I r h;obtain⟨p,ys,rfl,hq,q⟩:=h;obtain⟨u,rfl,rx⟩:=xC r;cases rx;have fin:∀(its:List Value),Vals ys its->ys.length<=sizeLine->∀(h':Heap) (c':Nat),(∀b o',s.heap.get? b=some o'->h'.get? b=some o')->
   h'.get? s.heap.objs.size=some { cls:=.type "list",dict:=none,data:=.seq its.toArray c',slots:=#[] }->EP X ac σ Q (.ref s.heap.objs.size) { s with heap:=h' } :=λits r' hz h' c' kp e=>
  ⟨.ref s.heap.objs.size,_,I.laid (t':=s.toks) kp uU (show ObjOk X.prog X.w _ h' _ (.lst ys)from⟨hz,its,c',r',e⟩),rfl,q _ (I.hok.fresh uU)⟩
 rcases hq with hq | hq
 ·obtain⟨its,r',pl,hz⟩:=I.list hq;have hlen:=r'.length;obtain⟨o,ho,hc,n,hd⟩:=pl.isList;exact call_list_seq p (.inl rfl) ho hc hd (λh' c' kp e=>fin its r' hz h' c' kp e) (by simp only[mI]<;>omega)
 ·obtain⟨its,r',pl,hz⟩:=I.tuple hq;have hlen:=r'.length;obtain⟨o,ho,hc,n,hd⟩:=pl;exact call_list_seq p (.inr rfl) ho hc hd (λh' c' kp e=>fin its r' hz h' c' kp e) (by simp only[mI]<;>omega)
theorem vZ:CallR X (.type "tuple") (λxs H Q=>∃p ys,xs=[.ref p]/\((SqL X.K H p ys/\∀l,H l=none->Q (.ref l) (upd H l (.tup ys)))∨(SqT X.K H p ys/\Q (.ref p) H))):=by
 intro ac s σ H xs us Q I r h;obtain⟨p,ys,rfl,h⟩:=h;obtain⟨u,rfl,rx⟩:=xC r;cases rx;rcases h with⟨hq,q⟩ | ⟨hq,q⟩
 ·obtain⟨its,r',pl,hz⟩:=I.list hq;have hlen:=r'.length;refine call_tuple_list pl.isList (λh' kp=>?_) (by simp only[mI]<;>omega);have I1:Inv X ac σ H { s with heap:=h' } :=I.kept (t':=s.toks) kp;have I2:Inv X ac σ (upd H h'.objs.size (.tup ys)) { s with heap:=h'.push { cls:=.type "tuple",data:=.seq its.toArray } } :=
   I1.laid (t':=s.toks) (λb o e=>gI _ e) uU (show ObjOk X.prog X.w _ _ _ (.tup ys)from⟨hz,its,r',IsTup.new _ _,.of (gX _ rfl) rfl⟩)
  exact⟨.ref h'.objs.size,_,I2,rfl,q _ (I1.hok.fresh uU)⟩
 ·obtain⟨its,r',pl,hz⟩:=I.tuple hq;exact call_tuple_same pl ⟨.ref p,H,I,rfl,q⟩
def tyV(K:dD)(T:String)(x:V)(H:Hp):Prop:=match x with
 | .str _=>T="str"
 | .int _=>T="int"
 | .ref p=>(T="list"/\∃xs,SqL K H p xs)∨(T="tuple"/\∃o,K.lookup p=some o/\o.cls=.type "tuple"/\o.dict=none)∨
   (T="dict"/\((∃ag,H p=some (.dK ag))∨∃ag,H p=some (.dT ag)))∨(T="set"/\∃S n,H p=some (.set S n))∨(T="tuple"/\∃xs,H p=some (.tup xs))
 | _=>False
theorem MQ{ac:List (Addr×Obj)}{σ:St}{H:Hp}{s:Shared}{T:String}{x:V}{v:Value}(I:Inv X ac σ H s)(r:RelV x v)(ty:tyV X.K T x H) :
  s.TypeIs v T/\∀a,v=.ref a->∃ob,s.heap.get? a=some ob/\ob.dict=none:=by
 cases x with
 | str z=>
  obtain⟨t,rfl⟩:=r;cases (show T="str" from ty);exact⟨typeIs_str s z t,λ_ e=>nomatch e⟩
 | int i=>
  obtain⟨t,rfl⟩:=r;cases (show T="int" from ty);exact⟨typeIs_int s i t,λ_ e=>nomatch e⟩
 | ref p=>
  cases r;rcases ty with⟨rfl,xs,hq⟩ | ⟨rfl,o,hk,hc,hd⟩ | ⟨rfl,hk⟩ | ⟨rfl,S,n,hk⟩ | ⟨rfl,xs,hk⟩
  rotate_left 4
  ·obtain⟨_,its,_,⟨o,h1,h2,_⟩,nd⟩:=(show ObjOk X.prog X.w H s.heap p (.tup xs)from I.hok p _ hk);exact⟨⟨o,h1,h2⟩,λa e=>by cases e;exact⟨o,h1,nd _ h1⟩⟩
  ·obtain⟨its,_,pl,_⟩:=I.list hq;refine⟨pl.isList.typeIs,λa e=>?_⟩;cases e;obtain⟨o,n,e,c,hd,_⟩:=pl;exact⟨o,e,hd⟩
  ·refine⟨⟨o,I.kIn p o hk,hc⟩,λa e=>?_⟩;cases e;exact⟨o,I.kIn _ o hk,hd⟩
  ·have z:∃o,s.heap.get? p=some o/\o.ExactDict:=by
    rcases hk with⟨ag,hk⟩ | ⟨ag,hk⟩
    ·obtain⟨_,_,_,_,o,_,_,e,ex,_⟩:=I.hok p _ hk;exact⟨o,e,ex⟩
    ·obtain⟨_,_,_,_,o,_,_,e,ex,_⟩:=I.hok p _ hk;exact⟨o,e,ex⟩
   obtain⟨o,e,ex⟩:=z;refine⟨⟨o,e,ex.1⟩,λa e2=>?_⟩;cases e2;exact⟨o,e,ex.2.1⟩
  ·obtain⟨o,_,_,_,e,ex,_⟩:=I.hok p _ hk;refine⟨⟨o,e,ex.1⟩,λa e2=>?_⟩;cases e2;exact⟨o,e,ex.2.1⟩
 | _=>exact False.elim ty
def tBM0(K:dD)(T:String)(r:V->List V->Hp->VK->Prop)(to:TE):TE:=fun σ H Q=>to σ H λx H1=>tyV K T x H1/\r x [] H1 Q
def tBM(K:dD)(T:String)(r:V->List V->Hp->VK->Prop)(to:TE)(t:TA):TE:=fun σ H Q=>to σ H λx H1=>tyV K T x H1/\t σ H1 λxs H2=>r x xs H2 Q
variable{o e:Expr}{es:List Expr}{to:TE}{t:TA}{name:Str}{apos cpos:Pos}{T id:String}{r:V->List V->Hp->VK->Prop}
theorem pe_bm0(pa:PlainAttrs T)(slot:Slot T name id)(hty:typeOf (.builtin id)=pure (.type "method_descriptor"))(hm:MtR X id r)(ho:PE X o to)
  (hbase:attributeBase o name X.env (eval o X.env)=eval o X.env:=by rfl) (hline:(apos.endLine==cpos.line)=true:=by rfl):PE X (.Call (.Attribute o name apos) [] [] cpos) (tBM0 X.K T r to):=by
 intro ac s σ H Q I h;refine wpAny_Call_method0_late hbase hline (thn (ho ac s σ H _ I h) λv s1 ⟨x,H1,I1,r1,ty,q1⟩=>?_);obtain⟨h1,h2⟩:=MQ I1 r1 ty;exact⟨T,id,pa,slot,hty,h1,h2,Calls.callWith_builtin rfl (PySem.evalArgs_none (hm ac s1 σ H1 x [] v [] Q I1 r1 .nil q1))⟩
theorem KU(pa:PlainAttrs T)(slot:Slot T name id)(hty:typeOf (.builtin id)=pure (.type "method_descriptor"))(hm:MtR X id r)(ho:PE X o to)(ha:PA X (e::es) t)
  (hbase:attributeBase o name X.env (eval o X.env)=eval o X.env:=by rfl)
  (hfew:((backTo cpos (starEach (e::es) X.env)).all (λx=>!x.1)&&(backToKw cpos (keywordEach [] X.env)).all (λx=>x.1.isSome)
   &&decide ((e::es).length+([]:List Keyword).length+(if ([]:List Keyword).isEmpty then 0 else 1)<30))=true:=by rfl)
  (hline:(apos.endLine==cpos.line)=true:=by rfl) (hs:starEach (e::es) X.env=(false,eval e X.env)::starEach es X.env:=by rfl) (hplain:(backTo cpos (starEach es X.env)).any (·.1)=false:=by rfl) :
  PE X (.Call (.Attribute o name apos) (e::es) [] cpos) (tBM X.K T r to t):=by
 intro ac s σ H Q I h;refine wpAny_Call_method_late hbase hfew hline rfl (thn (ho ac s σ H _ I h) λv s1 ⟨x,H1,I1,r1,ty,q1⟩=>?_);obtain⟨h1,h2⟩:=MQ I1 r1 ty;refine⟨T,id,pa,slot,hty,h1,h2, ?_⟩;have hA:=ha cpos ac s1 σ H1 _ I1 q1;rw[hs]at hA ⊢;refine Calls.callWith_builtin (by show(false||(backTo cpos (starEach es X.env)).any (·.1))=false;rw[hplain]<;>rfl) (Calls.evalArgs_plain ?_);exact thn hA λus s2 ⟨vs,H2,I2,r2,q2⟩=>hm ac s2 σ H2 x vs v us Q I2 r1 r2 q2
end
def MtM(X:Cx)(id:String)(r:V->List V->Hp->VK->Prop):Prop:=
 ∀(ac:List (Addr×Obj)) (s:Shared) (σ:St) (H:Hp) (x:V) (xs:List V) (v:Value) (us:List Value) (Q:VK),Inv X ac σ H s->RelV x v->Vals xs us->r x xs H Q->
  wpAny (model X.prog X.w) X.A (call (.builtin id) (v::us)) (EP X ac σ Q) X.xe s
theorem Vals.one:∀{x:V} {us:List Value},Vals [x] us->∃u,us=[u]/\RelV x u
 | _,_,.cons r .nil=>⟨_,rfl,r⟩
theorem Vals.rep{xs:List V}{us:List Value}(h:Vals xs us):∀k:Nat,Vals (List.replicate k xs).flatten (List.replicate k us).flatten
 | 0=>.nil
 | k+1=>by
  rw[List.replicate_succ,List.replicate_succ,List.flatten_cons,List.flatten_cons];exact Vals.append h (Vals.rep h k)
theorem HJ(its:List Value):∀(k:Nat) (acc:List Value),
  List.foldl (λx1 x2=>x1++x2) acc.toArray (List.replicate k its.toArray)=(acc++(List.replicate k its).flatten).toArray
 | 0,acc=>by simp
 | k+1,acc=>by
  have e:acc.toArray++its.toArray=(acc++its).toArray:=by simp
  have e2:(acc++its)++(List.replicate k its).flatten=acc++(List.replicate (k+1) its).flatten:=by
   rw[List.replicate_succ,List.flatten_cons,mK]
  rw[<-e2,<-HJ its k (acc++its),<-e,List.replicate_succ,List.foldl_cons]
section
variable{X:Cx}{ac:List (Addr×Obj)}{σ:St}{H:Hp}{s:Shared}{l b:Addr}{xs ys zs:List V}
theorem Inv.lset{its its':List Value}{n:Nat}{f:Array Value->Array Value}{t':Nat}(I:Inv X ac σ H s)(hH:H l=some (.lst xs))
  (e:s.heap.get? l=some { cls:=.type "list",data:=.seq its.toArray n }) (hf:f its.toArray=its'.toArray) (hv:Vals ys its') (hz:ys.length<=sizeLine) :
  Inv X ac σ (upd H l (.lst ys)) { s with heap:=s.heap.update l (Obj.mapSeq f),toks:=t' } :=by
 have q:=PySem.IsL.update e f;rw[hf]at q;refine I.write (x:=l) (e:=l) (by rw[hH];exact trivial) (.inl rfl) (λb' u hb hu=>(Heap.get?_update_other s.heap (Obj.mapSeq f) (Ne.symm hb)).trans hu) ⟨_,q⟩ ?_;exact⟨hz,its',_,hv,q⟩
theorem Inv.lnew{its:List Value}{t':Nat}(I:Inv X ac σ H s)(hv:Vals ys its)(hz:ys.length<=sizeLine) :
  Inv X ac σ (upd H s.heap.objs.size (.lst ys)) { s with heap:=s.heap.push { cls:=.type "list",data:=.seq its.toArray },toks:=t' } :=
 I.laid (λ_ _ q=>gI _ q) uU ⟨hz,its,0,hv,gX _ rfl⟩
theorem Inv.fresh(I:Inv X ac σ H s):H s.heap.objs.size=none:=I.hok.fresh uU 
theorem Inv.lstM(I:Inv X ac σ H s)(hH:H l=some (.lst xs)):xs.length<=sizeLine/\∃(its:List Value) (n:Nat),Vals xs its/\xs.length=its.length/\s.heap.get? l=some { cls:=.type "list",data:=.seq its.toArray n } :=by
 obtain⟨z,its,n,r,e⟩:=I.hok l _ hH;exact⟨z,its,n,r,r.length,e⟩
theorem KZ{n:Nat}(h:n<=sizeLine):Builtin.List.listTooLong n=false:=by
 unfold Builtin.List.listTooLong;exact nB (by omega)
end
section
variable{X:Cx}
def rAppend:V->List V->Hp->VK->Prop:=λx vs H Q=>∃l xs y,x=.ref l/\vs=[y]/\H l=some (.lst xs)/\xs.length<sizeLine/\Q .non (upd H l (.lst (xs++[y])))
theorem qZ:MtM X "list.append" rAppend:=by
 intro ac s σ H x vs v us Q I rx rv h;obtain⟨l,xs,y,rfl,rfl,hH,hz,q⟩:=h;cases rx;obtain⟨u,rfl,ru⟩:=rv.one;obtain⟨z,its,n,r,hl,e⟩:=I.lstM hH;refine call_meets F.slot_list_append ⟨_,e,rfl⟩ F.entry_list_append (F.args_list_append_2 _ _) (PySem.list_append l its.toArray n u (by rw[mI];omega)) ⟨e, ?_⟩;refine⟨.non,_,I.lset (its':=its++[u]) hH e (by simp) (r.append (.cons ru .nil)) ?_,rfl,q⟩;rw[hU,gP];omega
def rExtend:V->List V->Hp->VK->Prop:=λx vs H Q=>∃l b xs zs,x=.ref l/\vs=[.ref b]/\H l=some (.lst xs)/\H b=some (.lst zs)/\xs.length+zs.length<=sizeLine/\Q .non (upd H l (.lst (xs++zs)))
theorem mt_extend:MtM X "list.extend" rExtend:=by
 intro ac s σ H x vs v us Q I rx rv h;obtain⟨l,b,xs,zs,rfl,rfl,hH,hB,hz,q⟩:=h;cases rx;obtain⟨u,rfl,ru⟩:=rv.one;cases ru;obtain⟨z,its,n,r,hl,e⟩:=I.lstM hH;obtain⟨z2,its2,n2,r2,hl2,e2⟩:=I.lstM hB;have hsz:its.toArray.size+its2.toArray.size<=sizeLine:=by rw[mI,mI];omega
 have hlong:¬(!its.toArray.isEmpty&&Builtin.List.listTooLong (its.toArray.size+its2.toArray.size))=true:=by
  rw[KZ hsz,Bool.and_false];exact hV
 refine call_meets F.slot_list_extend ⟨_,e,rfl⟩ F.entry_list_extend (F.args_list_extend_2 _ _)
  (AutoSeq1.list_extend_list_list_0 l its.toArray n b its2.toArray n2 hlong (by rw[mI];omega) (by omega)) ⟨e,e2, ?_⟩
 refine⟨.non,_,I.lset (its':=its++its2) hH e (by simp) (r.append r2) ?_,rfl,q⟩;rw[hU];omega
def rCat:R2:=λx y H Q=>∃l b xs zs,x=.ref l/\y=.ref b/\H l=some (.lst xs)/\H b=some (.lst zs)/\xs.length+zs.length<=sizeLine/\∀p,H p=none->Q (.ref p) (upd H p (.lst (xs++zs)))
theorem op_cat:OpR X (binaryOp .Add) rCat:=by
 intro ac s σ H x y v u Q I rx ry h;obtain⟨l,b,xs,zs,rfl,rfl,hH,hB,hz,q⟩:=h;cases rx;cases ry;obtain⟨z,its,n,r,hl,e⟩:=I.lstM hH;obtain⟨z2,its2,n2,r2,hl2,e2⟩:=I.lstM hB;refine PySem.P.add_list e e2 ?_ (by rw[mI,mI];omega);have ea:its.toArray++its2.toArray=(its++its2).toArray:=by simp
 rw[ea];exact⟨.ref _,_,I.lnew (t':=s.toks) (r.append r2) (by rw[hU];omega),rfl,q _ I.fresh⟩
def rRep:R2:=λx y H Q=>∃l k xs,x=.ref l/\y=.int k/\H l=some (.lst xs)/\-(2^63)<=k/\k<2^63/\xs.length*k.toNat<=sizeLine/\
 ∀p,H p=none->Q (.ref p) (upd H p (.lst (List.replicate k.toNat xs).flatten))
theorem len_rep{α:Type}(xs:List α)(k:Nat):(List.replicate k xs).flatten.length=k*xs.length:=by
 induction k with
 | zero=>simp
 | succ k ih=>rw[List.replicate_succ,List.flatten_cons,hU,ih,Nat.succ_mul,Nat.add_comm]
theorem WJ:OpR X (binaryOp .Mult) rRep:=by
 intro ac s σ H x y v u Q I rx ry h;obtain⟨l,k,xs,rfl,rfl,hH,h1,h2,hz,q⟩:=h;cases rx;obtain⟨t,rfl⟩:=ry;obtain⟨z,its,n,r,hl,e⟩:=I.lstM hH;have hlen:its.toArray.size*k.toNat<=sizeLine:=by rw[mI,<-hl];exact hz
 have hcap:¬its.toArray.size*k.toNat>(2^63-1)/8:=by
  have:(sizeLine:Nat)<=(2^63-1)/8:=by decide
  omega
 have hfit:¬(!Builtin.List.listFitsIndex k)=true:=by
  rw[fitsIndex_both h1 h2];exact hV
 have hlong:¬Builtin.List.listTooLong (its.toArray.size*k.toNat)=true:=by
  rw[KZ hlen];exact hV
 have hnew:List.foldl (λx1 x2=>x1++x2) #[] (List.replicate (if its.toArray.isEmpty=true then 0 else k.toNat) its.toArray)=(List.replicate k.toNat its).flatten.toArray:=by
  have f0:∀m:Nat,List.foldl (λx1 x2=>x1++x2) #[] (List.replicate m its.toArray)=(List.replicate m its).flatten.toArray:=λm=>by
   have:=HJ its m [];rw[List.nil_append]at this;exact this
  rw[f0];cases its with
  | nil=>simp
  | cons a r'=>rw[dA (by simp)]
 refine wpAny_binaryOp_repeat_ref (T:="list") (U:="int") (by decide) ⟨_,e,rfl⟩ (λs'=>typeIs_int s' k t) noFill_list_mul F.fills_int_mul F.slot_int_rmul repeat_list F.slot_int_index.lookup
  (call_meets F.slot_int_rmul (typeIs_int s k t) F.entry_int_rmul (F.args_int_rmul_2 _ _) (int___rmul___int_list k t l its.toArray n)
   ⟨e,rfl,⟨_,e,rfl⟩,call_meets F.slot_list_mul ⟨_,e,rfl⟩ F.entry_list_mul (F.args_list_mul_2 _ _) (AutoListH.list___mul___list_int_3 l its.toArray n k t hfit hcap hlong) ⟨e, ?_⟩⟩)
 rw[hnew];exact⟨.ref _,_,I.lnew (t':=s.toks) (r.rep k.toNat) (by rw[len_rep,Nat.mul_comm];exact hz),rfl,q _ I.fresh⟩
end
section
variable{prog:Program}{w:World}{A:Around}{E:Value->Shared->Prop}{s:Shared}
set_option maxRecDepth 100000 in
end
section
variable{X:Cx}
end
end L2
namespace Att
open PySem PySem.W PySem.Calls PyProof.Rows
theorem BZ{P:Params}{h:Heap} :∀(ns:List Int) (vs:List Value),WellAll P h vs (ns.map WData.int)->IntsAre vs ns:=by
 intro ns;induction ns with
 | nil=>
  intro vs w;rw[List.map_nil]at w;cases w;exact .nil
 | cons n ns ih=>
  intro vs w;rw[nQ]at w;cases w with
  | cons a b=>
   cases a;exact .cons _ _ (ih _ b)
theorem SE{l:OpenLaw}{n:Nat}(hn:l.most=some n){P:Params}{h:Heap}{args:List WData}{vals:List Value}
  (hpre:l.row.toRowW.claim.pre args=true) (hwl:WellAll P h vals args) :
  ∃a vs ns,vals=[Value.ref a]/\args=[WData.list (ns.map WData.int)]/\h.get? a=some { cls:=.type "list",data:=.seq vs.toArray }/\IntsAre vs ns/\ns.length<=n:=by
 have hsh:WShape.hasAll [] args [.list .int]=true:=(pre_splitW hpre).1;have hc:l.pre.holds [] { args:=args } = true:=(pre_splitW hpre).2;obtain⟨d,r,rfl,h1,h2⟩:=hasAllW_cons hsh;obtain rfl:=hasAllW_nil h2;obtain⟨xs,rfl,h3⟩:=hasW_list h1;obtain⟨ns,rfl⟩:=items_int h3;have hlen:ns.length<=n:=by
  unfold OpenLaw.pre at hc;have h4:(WTm.not (.lt (.lit (.int (n:Int))) (.len (.arg 0)))).holds [] { args:=[.list (ns.map .int)] } = true:=by
   have h4:=(holds_andW hc).1;rw[hn]at h4;exact h4
  have h5:=condW_of h4 (w_not (w_lt w_lit (w_len_list (w_arg rfl))));rw[mZ]at h5;refine Nat.le_of_not_lt λq=>?_;have q':(n:Int)<((ns.length:Nat):Int):=by omega
  first
   | (rw[nH q']at h5;exact absurd h5 (by decide))
   | (simp at h5;omega)
 cases hwl with
 | cons w1 w2=>
  cases w2;cases w1 with
  | list ho hall=>exact⟨_,_,ns,rfl,rfl,ho,BZ ns _ hall,hlen⟩
theorem SS(l:OpenLaw)(args:List WData):l.row.toRowW.claim.post args (.bool true) args=true:=
 postW_of (r:=l.row.toRowW) (X:=(true==true))
  (show WShape.has [] (.bool true) .bool=true by first | rfl | decide | simp [WShape.has,WShape.arms,WShape.armsAll])
  (show(WTm.eq .res (.lit (.bool true))).value [] { args:=args,res:=some (.bool true),after:=args } = some (.bool (true==true))from w_eq_bool (w_res rfl) w_lit) rfl
theorem attach_call{l:OpenLaw}{n:Nat}{q:Program}{loose:List Str}{XP:(Str->Option Value)->Heap->Prop}{YP:World->Heap->Prop}{d:DefRec}
  (hn:l.most=some n) (hdf:d.params.defaults=[])
  (call:∀(w:World) (s₀ s₁:Shared) (mg mb:Str->Option Value) (fa:Addr) (o:Obj) (pm cd doc:Value) (a:Addr) (vs:List Value) (ns:List Int),
   Ground q loose [] XP w s₀ mg mb s₁.heap->YP w s₁.heap->
   s₁.heap.get? fa=some o->o.data=.func (docDef d.name d.params d.body d.scope pm cd doc)->s₁.heap.CodeRec cd d.name->mg d.name=some (.ref fa)->
   s₁.heap.get? a=some { cls:=.type "list",data:=.seq vs.toArray }->IntsAre vs ns->ns.length<=n->s₁.gens = #[]->
   codeAny (model l.prog w) callerA (.call (.ref fa) ⟨[.ref a],[]⟩) (λr s'=>r=.ok (.ret (.bool true))/\OldK s₁.heap s'.heap/\s'.os=s₁.os/\AllBare s'.gens) s₁) :
  WalkO q loose XP YP l.row.toRowW d [] (λf vs=>PySem.call f vs):=by
 intro w s₀ s₁ mg mb G Y fa o pm cd doc dV kV ho hd hcd hD hmg hg args vals as hpre hlay hrd hwl hlo;obtain rfl:dV=.none:=Dflts.none hD hdf;obtain rfl:kV=.none:=Dflts.noKw hD;obtain⟨a,vs,ns,rfl,rfl,hobj,hints,hlen⟩:=SE hn hpre hwl;refine enter_call (codeAny_mono (call w s₀ s₁ mg mb fa o pm cd doc a vs ns G Y ho (fd_plain hd) hcd hmg hobj hints hlen hg) λr s' hq=>?_);obtain⟨rfl,h2,h3,h4⟩:=hq;exact⟨.inl ⟨.bool true,.bool true,[],rfl,λ_=>rfl,.bool true,SS l _,λ_=>⟨List.Pairwise.nil,λ_ hm=>(nomatch hm)⟩⟩,h2,h3,h4⟩
section
variable{prog:Program}{w:World}{A:Around}{E:Value->Shared->Prop}{s:Shared}{K:Frag}
end
end Att
namespace L2
open PySem PySem.Spec PyProof.Rows
theorem FR:∀{vs:List Value} {ns:List Int},IntsAre vs ns->Vals (ns.map V.int) vs
 | _,_,.nil=>.nil
 | _,_,.cons n t h=>.cons ⟨t,rfl⟩ (FR h)
def Only(H:Hp):Prop:=∀b,H b=none∨∃o xs,H b=some (.frz o (.lst xs))
theorem XR{P:Program}{w:World}{K:dD}{mg mb:Str->Option Value}{CX:CXT}{k:Nat}{fa a:Addr}{fd:FuncData}{x:Str}{sp:Sp}{s₁:Shared}{vs:List Value}{ns:List Int}
  (KX:K.In s₁.heap) (hns:s₁.heap.Ns mainGlobals mg) (hb:s₁.heap.Ns builtinsNs mb) (hbb:∀x:Str,x≠"__name__"->mb x=bootBuiltins x) (hlim:s₁.heap.NoLimit) (hg:s₁.gens = #[])
  (ha:s₁.heap.get? a=some { cls:=.type "list",data:=.seq vs.toArray }) (hi:IntsAre vs ns) (hl:ns.length<=sizeLine) (hr:Room k callerA)
  (F:∀base:Heap,K.In base->base.Ns mainGlobals mg->FnOk P w K mg base CX k fa fd [x] sp) (hbind:∀(s:Shared) (u:Value),BindsTo s fd ⟨[u],[]⟩ [(x,u)])
  (hsp:∀H:Hp,Only H->SqL K H a (ns.map V.int)->sp [.ref a] H (λv _=>v=.bl true) λ_ _ _=>False)
  (hCX:∀H e s',CX [] H s₁ (λ_ _ _=>False) e s'->False) :
  codeAny (model P w) callerA (.call (.ref fa) ⟨[.ref a],[]⟩) (λr s'=>r=.ok (.ret (.bool true))/\OldK s₁.heap s'.heap/\s'.os=s₁.os/\AllBare s'.gens) s₁:=by
 have rv:=FR hi;have lenV:=hi.length;have core:∀H:Hp,Only H->SqL K H a (ns.map V.int)->HOk P w H s₁.heap->(∀b,H b≠none->b=a)->(H a≠none->K.lookup a=none)->
   codeAny (model P w) callerA (.call (.ref fa) ⟨[.ref a],[]⟩) (λr s'=>r=.ok (.ret (.bool true))/\OldK s₁.heap s'.heap/\s'.os=s₁.os/\AllBare s'.gens) s₁:=by
  intro H hO hS hok hA hK;have base_of:∀{b:Addr} {o:Obj},s₁.heap.get? b=some o->H b=none->(JN s₁.heap H).get? b=some o:=λe n=>XX e n;have noA:∀{b:Addr} {o:Obj} {es:Array DictEntry} {ep:Nat},s₁.heap.get? b=some o->o.data=.dict es ep->H b=none:=fun {b o es ep} e d=>by
   cases q:H b with
   | none=>rfl
   | some u=>
    have e':b=a:=hA b (by rw[q];simp);subst e';rw[ha]at e;cases e;have d':Data.seq vs.toArray _=Data.dict es ep:=d;cases d'
  have nsK:∀{b:Addr} {m:Str->Option Value},s₁.heap.Ns b m->(JN s₁.heap H).Ns b m:=fun {b m} ⟨o,es,ep,e,d,r⟩=>⟨o,es,ep,base_of e (noA e d),d,r⟩;have hKb:K.In (JN s₁.heap H):=λb o e=>base_of (KX b o e) (by
   cases q:H b with
   | none=>rfl
   | some u=>
    have e':b=a:=hA b (by rw[q];simp);subst e';rw[hK (by rw[q];simp)]at e;cases e)
  have hM:Mod K mg (JN s₁.heap H):=⟨hKb,nsK hns,⟨mb,nsK hb,hbb⟩,let ⟨mc,h1,h2⟩:=hlim;⟨mc,nsK h1,h2⟩⟩;have e0:Env0 P w K mg (JN s₁.heap H) callerA [] s₁ H:=⟨rfl,hM,λb o e=>of_hidT e,Nat.le_of_eq (TR _ _),trivial,λb hb=>absurd (show b∈([]:List Addr)from hb) (by simp),hok,.of_eq hg⟩;refine codeAny_mono ((F _ hKb (nsK hns)).run callerA [] s₁ H ⟨[.ref a],[]⟩ [.ref a] [.ref a] _ _ hr e0 (hbind s₁ (.ref a)) (.cons rfl .nil) (hsp H hO hS)) λr s' h=>?_;cases r with
  | error e=>exact(hCX H e s' h).elim
  | ok fl=>
   cases fl with
   | next=>exact False.elim h
   | brk=>exact False.elim h
   | cont=>exact False.elim h
   | ret u=>
    obtain⟨v,H',os,bare,un,hok',r',q⟩:=h;have q':v=.bl true:=q;subst q';obtain rfl:u=Value.bool true:=r';refine⟨rfl,OldK.of_keep λb o e=>?_,os,bare⟩;cases q:H b with
    | none=>exact un.keep b o e q (by intro z;exact absurd (show b∈([]:List Addr)from z) (by simp)) (by simp)
    | some u=>
     rcases hO b with z | ⟨ob,xs,z⟩
     ·rw[q]at z;cases z
     ·have z2:=un.frzs b ob _ z;obtain⟨e1,_⟩:=hok b _ z;obtain⟨e2,_⟩:=hok' b _ z2;rw[e]at e1;cases e1;exact e2
 cases hk:K.lookup a with
 | some o=>
  have e:=KX a o hk;rw[ha]at e;cases e;refine core (λ_=>none) (λ_=>.inl rfl) (.inr ⟨_,vs.toArray,_,hk,rfl,rfl,rfl,by rw[mI,lenV];exact hl,by simpa using rv⟩) (λb u z=>by have z':(none:Option HO)=some u:=z;cases z') (λb z=>absurd rfl z) λz=>absurd rfl z
 | none=>
  refine core (λb=>if b=a then some (.frz { cls:=.type "list",data:=.seq vs.toArray } (.lst (ns.map V.int)))else none) (λb=>?_) (.inl (.inr ⟨{ cls:=.type "list",data:=.seq vs.toArray },dC rfl⟩)) (λb u z=>?_) (λb z=>?_) λ_=>hk
  ·by_cases hb:b=a
   ·exact .inr ⟨_,_,dC hb⟩
   ·exact .inl (dA hb)
  ·by_cases hb:b=a
   ·have z':=(dC hb).symm.trans z;cases z';subst hb;exact⟨ha,by rw[mZ];exact hl,vs,_,rv,ha⟩
   ·have z':=(dA hb).symm.trans z;cases z'
  ·by_cases hb:b=a
   ·exact hb
   ·exact absurd (dA hb) z
theorem ZK{l:PySem.W.OpenLaw}{n k:Nat}{q:Program}{loose:List Str}{XP:(Str->Option Value)->Heap->Prop}{YP:World->Heap->Prop}{d:DefRec}{K:Params->dD}{CX:World->CXT}{sp:World->Sp}{x:Str}
  (hn:l.most=some n) (hn2:n<=sizeLine) (hdf:d.params.defaults=[]) (hr:Room k callerA)
  (hY:∀(w:World) (h:Heap),YP w h->(K w.params).In h)
  (F:∀(w:World) (mg:Str->Option Value) (fa:Addr) (h:Heap),(K w.params).In h->h.Ns mainGlobals mg->mg d.name=some (.ref fa)->
   ∃fd:FuncData,(∀(s:Shared) (u:Value),BindsTo s fd ⟨[u],[]⟩ [(x,u)])/\
    ∀base:Heap,(K w.params).In base->base.Ns mainGlobals mg->FnOk l.prog w (K w.params) mg base (CX w) k fa fd [x] (sp w))
  (hsp:∀(w:World) (H:Hp) (a:Addr) (ns:List Int),ns.length<=n->Only H->SqL (K w.params) H a (ns.map V.int)->sp w [.ref a] H (λv _=>v=.bl true) λ_ _ _=>False)
  (hCX:∀(w:World) (H:Hp) (s:Shared) (e:Value) (s':Shared),CX w [] H s (λ_ _ _=>False) e s'->False) :
  PySem.W.WalkO q loose XP YP l.row.toRowW d [] (λf vs=>PySem.call f vs):=by
 refine Att.attach_call hn hdf λw s₀ s₁ mg mb fa o pm cd doc a vs ns G Y ho hd hcd hmg hobj hints hlen hg=>?_;have KX:=hY w _ Y;obtain⟨fd,hb,hF⟩:=F w mg fa _ KX G.T.g hmg;exact XR KX G.T.g G.T.b G.T.builtins G.T.nolimit hg hobj hints (tD hlen hn2) hr hF hb (λH hO hS=>hsp w H a ns hlen hO hS) λH e s'=>hCX w H s₁ e s'
abbrev CX0:CXT:=λ_ _ _ _ _ _=>False
abbrev E0:XK:=λ_ _ _=>False
theorem jR{X:Cx} :Passes CX0 X E0:=λ_ _ _ _ _ _ _ h=>h.elim
structure Fun(K:dD)(x qual:Str)(st:Stmt)(f:Addr)(fd:FuncData):Prop where
 ex:∃(oc:Value) (od:Option Addr) (kV doc pm:Value) (an:Option Addr) (cdv ct:Value) (osl:Array (Option Value)),
  fd=PySem.W.fnOf x qual (zU st) (yX st) (jM st) .none kV doc pm an cdv ct/\K.lookup f=some ⟨oc,od,.func fd,osl⟩/\PySem.W.codeIn K cdv qual=true
 kp:PySem.W.keepIn K (.ref f)=true
section
variable{P:Program}{w:World}{K:dD}{mg:Str->Option Value}{base:Heap}
theorem Fun.ok{x qual:Str}{st:Stmt}{f:Addr}{fd:FuncData}{N ps:List Str}{k:Nat}{sp:Sp}(F:Fun K x qual st f fd)(S:FnScope N ps (jM st))(len:∀vs H Q E,sp vs H Q E->vs.length=ps.length)
  (hbody:∀(cdv:Value) (A:Around) (outer:List Env) (s:Shared) (H:Hp) (vs:List V) (Q:VK) (E:XK),Room k (A.deeper (envOfC qual (jM st) s.heap.objs.size f cdv))->sp vs H Q E->
   ∃t,PSs (UB CX0 P w K mg base N qual (jM st) f cdv A outer s H E).nox (yX st) t/\t { nx:=λ_ H'=>Q .non H',rt:=Q } (start N vs) H):FnOk P w K mg base CX0 (k+1) f fd ps sp:=by
 obtain⟨oc,od,kV,doc,pm,an,cdv,ct,osl,rfl,lk,hcd⟩:=F.ex;refine fn_of lk hcd S len λA outer s H vs Q E hr hsp=>?_;obtain⟨t,h,q⟩:=hbody cdv A outer s H vs Q E hr hsp;exact⟨t,h.nox,q⟩
theorem Fun.binds{x qual:Str}{st:Stmt}{f:Addr}{fd:FuncData}{ps:List Str}(F:Fun K x qual st f fd)
  (h:∀(kV doc pm:Value) (an:Option Addr) (cdv ct:Value) (us:List Value),us.length=ps.length->bindArgs (PySem.W.fnOf x qual (zU st) (yX st) (jM st) .none kV doc pm an cdv ct) ⟨us,[]⟩=pure (ps.zip us)):Binds K fd ps []:=by
 obtain⟨oc,od,kV,doc,pm,an,cdv,ct,osl,rfl,lk,hcd⟩:=F.ex;exact .all (h kV doc pm an cdv ct)
theorem OB{x qual:Str}{st:Stmt}{f:Addr}{oc:Value}{od an:Option Addr}{osl:Array (Option Value)}{kV doc pm cdv ct:Value}(l:K.lookup f=some ⟨oc,od,.func (PySem.W.fnOf x qual (zU st) (yX st) (jM st) .none kV doc pm an cdv ct),osl⟩)
  (c:PySem.W.codeIn K cdv qual=true) (k:PySem.W.keepIn K (.ref f)=true):Fun K x qual st f (PySem.W.fnOf x qual (zU st) (yX st) (jM st) .none kV doc pm an cdv ct):=⟨⟨oc,od,kV,doc,pm,an,cdv,ct,osl,rfl,l,c⟩,k⟩
end
section
variable{X:Cx}
theorem pv(i:Nat){x:Str}{pos:Pos}(hN:X.N[i]? = some x:=by rfl)(hv:Vis X.env.scope x:=by first | exact Or.inl rfl | exact Or.inr (Or.inl rfl) | exact Or.inr (Or.inr rfl))(hd:(x==("__debug__" :Str))=false:=by decide)
  (hcd:(x==("__classdict__" :Str))=false:=by decide):PE X (.Name x pos) (kP i):=pe_var hN hv hd hcd
end
theorem yR{A B:Prop}(h:B):if false=true then A else B:=by
 rw[dA hV];exact h
theorem NY{A B:Prop}(h:A):if true=true then A else B:=by
 rw[dC rfl];exact h
theorem EV{c A B:Prop} [Decidable c](h1:c->A)(h2:¬c->B):if c then A else B:=by
 by_cases h:c
 ·rw[dC h];exact h1 h
 ·rw[dA h];exact h2 h
def Same(H H':Hp):Prop:=∀b o,H b=some o->H' b=some o
theorem Same.refl(H:Hp):Same H H:=λ_ _ h=>h
theorem Same.trans{H H1 H2:Hp}(a:Same H H1)(b:Same H1 H2):Same H H2:=λc o h=>b c o (a c o h)
theorem Same.free{H H':Hp}(e:Same H H'){l:Addr}(h:H' l=Option.none):H l=Option.none:=by
 cases q:H l with
 | none=>rfl
 | some o=>
  rw[e l o q]at h;cases h
end L2
namespace LwM
theorem vP{a b c:Int}(h:Int.gcd a b=1)(d:c∣b):Int.gcd a c=1:=by
 have:=Int.gcd_dvd_gcd_of_dvd_right a d;rw[h]at this;exact Nat.eq_one_of_dvd_one this
theorem wC{a b c:Int}(h:Int.gcd a b=1)(d:c∣a):Int.gcd c b=1:=by
 rw[Int.gcd_comm]at h ⊢;exact vP h d
theorem add_low{t b o u:Int}(hb:0<b)(hu:0<u)(g1:Int.gcd t b=1)(g2:Int.gcd o u=1) :
  (t*(u/(Int.gcd b u:Int))+o*(b/(Int.gcd b u:Int)))/(Int.gcd (t*(u/(Int.gcd b u:Int))+o*(b/(Int.gcd b u:Int))) (Int.gcd b u):Int)=(t*u+o*b)/(Int.gcd (t*u+o*b) (b*u):Int)/\
  (b/(Int.gcd b u:Int))*(u/(Int.gcd (t*(u/(Int.gcd b u:Int))+o*(b/(Int.gcd b u:Int))) (Int.gcd b u):Int))=(b*u)/(Int.gcd (t*u+o*b) (b*u):Int):=by
 have sp:0<Int.gcd b u:=Int.gcd_pos_of_ne_zero_left _ (by omega);have c1:Int.gcd (b/(Int.gcd b u:Int)) (u/(Int.gcd b u:Int))=1:=Int.gcd_ediv_gcd_ediv_gcd sp;have d1:(Int.gcd b u:Int)∣b:=mW ..;have d2:(Int.gcd b u:Int)∣u:=mO ..;have e1:(Int.gcd b u:Int)*(b/(Int.gcd b u:Int))=b:=Int.mul_ediv_cancel' d1;have e2:(Int.gcd b u:Int)*(u/(Int.gcd b u:Int))=u:=Int.mul_ediv_cancel' d2;have sp':(0:Int)<(Int.gcd b u:Int):=by omega
 generalize hs:(Int.gcd b u:Int)=s at *;generalize hb':b/s=b' at *;generalize hu':u/s=u' at *;generalize hT:t*u'+o*b'=T at *;have v1:b'∣b:=⟨s,by rw[tO];exact e1.symm⟩;have v2:u'∣u:=⟨s,by rw[tO];exact e2.symm⟩;have x1:t*u+o*b=s*T:=by
  rw[<-hT,Int.mul_add,<-nW,<-nW,tO s t,tO s o,nW,nW,e1,e2]
 have x2:b*u=s*(b'*u):=by rw[<-nW,e1]
 have x3:b'*u=s*b'*u':=by rw[tO s b',nW,e2]
 have y1:Int.gcd T b'=1:=by
  rw[<-hT,Int.gcd_add_mul_right_left,Int.gcd_mul_right_left_of_gcd_eq_one (vP g1 v1),Int.gcd_comm];exact c1
 have y2:Int.gcd T u'=1:=by
  rw[<-hT,Int.add_comm,Int.gcd_add_mul_right_left,Int.gcd_mul_right_left_of_gcd_eq_one (vP g2 v2)];exact c1
 have z:Int.gcd T (b'*u)=Int.gcd T s:=by
  rw[x3,Int.gcd_mul_left_right_of_gcd_eq_one y2,Int.gcd_mul_left_right_of_gcd_eq_one y1]
 have g:(Int.gcd (t*u+o*b) (b*u):Int)=s*(Int.gcd T s:Int):=by
  rw[x1,x2,Int.gcd_mul_left,z,Int.natCast_mul,Int.natAbs_of_nonneg (by omega)]
 rw[g];refine⟨?_, ?_⟩
 ·rw[x1,Int.mul_ediv_mul_of_pos _ _ sp']
 ·rw[x2,Int.mul_ediv_mul_of_pos _ _ sp'];exact(Int.mul_ediv_assoc _ (Int.dvd_trans (mO ..) d2)).symm
theorem mul_low{t b o u:Int}(hb:0<b)(hu:0<u)(g1:Int.gcd t b=1)(g2:Int.gcd o u=1) :
  (t/(Int.gcd t u:Int))*(o/(Int.gcd o b:Int))=(t*o)/(Int.gcd (t*o) (b*u):Int)/\
  (b/(Int.gcd o b:Int))*(u/(Int.gcd t u:Int))=(b*u)/(Int.gcd (t*o) (b*u):Int):=by
 have fp:0<Int.gcd t u:=Int.gcd_pos_of_ne_zero_right _ (by omega);have sp:0<Int.gcd o b:=Int.gcd_pos_of_ne_zero_right _ (by omega);have c1:=Int.gcd_ediv_gcd_ediv_gcd fp;have c2:=Int.gcd_ediv_gcd_ediv_gcd sp;have e1:(Int.gcd t u:Int)*(t/(Int.gcd t u:Int))=t:=Int.mul_ediv_cancel' (mW ..);have e2:(Int.gcd t u:Int)*(u/(Int.gcd t u:Int))=u:=Int.mul_ediv_cancel' (mO ..);have e3:(Int.gcd o b:Int)*(o/(Int.gcd o b:Int))=o:=Int.mul_ediv_cancel' (mW ..);have e4:(Int.gcd o b:Int)*(b/(Int.gcd o b:Int))=b:=Int.mul_ediv_cancel' (mO ..);have fp':(0:Int)<(Int.gcd t u:Int):=by omega
 have sp':(0:Int)<(Int.gcd o b:Int):=by omega
 generalize (Int.gcd t u:Int)=f at *;generalize (Int.gcd o b:Int)=s at *;generalize t/f=t' at *;generalize u/f=u' at *;generalize o/s=o' at *;generalize b/s=b' at *;have v1:t'∣t:=⟨f,by rw[tO];exact e1.symm⟩;have v2:u'∣u:=⟨f,by rw[tO];exact e2.symm⟩;have v3:o'∣o:=⟨s,by rw[tO];exact e3.symm⟩;have v4:b'∣b:=⟨s,by rw[tO];exact e4.symm⟩;have x1:t*o=(f*s)*(t'*o'):=by
  rw[<-e1,<-e3];simp only[nW,Int.mul_left_comm,tO]
 have x2:b*u=(f*s)*(b'*u'):=by
  rw[<-e2,<-e4];simp only[nW,Int.mul_left_comm,tO]
 have n1:Int.gcd (t'*o') b'=1:=by
  rw[Int.gcd_mul_right_left_of_gcd_eq_one (wC (vP g1 v4) v1)];exact c2
 have n2:Int.gcd (t'*o') u'=1:=by
  rw[Int.gcd_mul_right_left_of_gcd_eq_one c1];exact wC (vP g2 v2) v3
 have n3:Int.gcd (t'*o') (b'*u')=1:=by
  rw[Int.gcd_mul_right_right_of_gcd_eq_one n1];exact n2
 have fs:(0:Int)<f*s:=tR fp' sp';have g:(Int.gcd (t*o) (b*u):Int)=f*s:=by
  rw[x1,x2,Int.gcd_mul_left,n3,Nat.mul_one,Int.natAbs_of_nonneg (by omega)]
 rw[g,x1,x2,Int.mul_ediv_cancel_left _ (by omega),Int.mul_ediv_cancel_left _ (by omega)];exact⟨rfl,rfl⟩
theorem LN(a b:Int):Int.gcd b (a%b)=Int.gcd a b:=by
 rw[Int.emod_def,tO b,Int.gcd_sub_mul_right_right,Int.gcd_comm]
theorem qJ(a b:Int)(h:0<b):(1:Int)<=(Int.gcd a b:Int):=by
 have:0<Int.gcd a b:=Int.gcd_pos_of_ne_zero_right _ (by omega);omega
theorem XY(a b:Int)(h:0<b):(Int.gcd a b:Int)<=b:=Int.le_of_dvd h (mO a b)
theorem XO(t b:Int)(h:0<b):(t/(Int.gcd t b:Int)=t/\b/(Int.gcd t b:Int)=b)↔Int.gcd t b=1:=by
 have g1:=qJ t b h;constructor
 ·rintro⟨_,h2⟩;by_cases g:Int.gcd t b=1
  ·exact g
  ·exfalso;have g2:(2:Int)<=(Int.gcd t b:Int):=by omega
   have:=Int.ediv_lt_of_lt_mul (a:=b) (b:=b) (c:=(Int.gcd t b:Int)) (by omega) (by
    have:b*2<=b*(Int.gcd t b:Int):=Int.mul_le_mul_of_nonneg_left g2 (by omega);omega)
   omega
 ·intro g;rw[g];simp
theorem AL(t g:Int)(h:1<=g):(t/g).natAbs<=t.natAbs:=by
 rcases Int.lt_or_le t 0 with n | n
 ·have h1:t/g<0:=Int.ediv_neg_of_neg_of_pos n (by omega);have h2:t<=t/g:=by
   rw[Int.le_ediv_iff_mul_le (by omega)];have:=Int.mul_le_mul_of_nonpos_left (a:=t) (b:=g) (c:=1) (by omega) h;omega
  omega
 ·have h1:0<=t/g:=Int.ediv_nonneg n (by omega);have h2:t/g<=t:=Int.ediv_le_self g n;omega
theorem log2_lt{n:Nat}{k:Nat}(hk:0<k)(h:n<2^k):n.log2<k:=by
 by_cases e:n=0
 ·subst e;simpa using hk
 ·exact(Nat.log2_lt e).mpr h
end LwM
namespace Lw
open PySem PySem.Spec PyProof.Rows L2
inductive Kd where
 | non | bl | int | str | lst | tup
 deriving DecidableEq
def Kd.ty:Kd->String
 | .non=>"NoneType" | .bl=>"bool" | .int=>"int" | .str=>"str" | .lst=>"list" | .tup=>"tuple"
inductive KdOf(H:Hp):V->Kd->Prop where
 | non:KdOf H .non .non
 | bl (b:Bool):KdOf H (.bl b) .bl
 | int (i:Int):KdOf H (.int i) .int
 | str (x:Str):KdOf H (.str x) .str
 | lst {a:Addr} {xs:List V} (e:H a=some (.lst xs)):KdOf H (.ref a) .lst
 | tup {a:Addr} {xs:List V} (e:H a=some (.tup xs)):KdOf H (.ref a) .tup
theorem KdOf.ty{K:dD}{H:Hp}{v:V}{k:Kd}(h:KdOf H v k):TyOf K H v (.type k.ty):=by
 cases h with
 | non=>exact .non
 | bl b=>exact .bl b
 | int i=>exact .int i
 | str x=>exact .str x
 | lst e=>exact .lst e
 | tup e=>exact .tup e
def Kd.isInt:Kd->Bool
 | .int=>true | .bl=>true | _=>false
def Kd.isBool:Kd->Bool
 | .bl=>true | _=>false
def Kd.isTup:Kd->Bool
 | .tup=>true | _=>false
def Isi(T:String)(f:Kd->Bool):Prop:=∀(K:dD) (k:Kd),PySem.W.kitOne K (.type k.ty) (.type T)=some (f k)
theorem isi_int:Isi "int" Kd.isInt:=λK k=>by cases k<;>rfl
theorem XU:Isi "bool" Kd.isBool:=λK k=>by cases k<;>rfl
theorem QS:Isi "tuple" Kd.isTup:=λK k=>by cases k<;>rfl
section
variable{X:Cx}
def rIsi(T:String)(f:Kd->Bool):List V->Hp->VK->Prop:=λxs H Q=>match xs with
 | [x,y]=>y=.ty T/\∃k,KdOf H x k/\Q (.bl (f k)) H
 | _=>False
theorem ZC{T:String}{f:Kd->Bool}(hf:Isi T f):CallR X (.builtin "isinstance") (rIsi T f):=by
 intro ac s σ H xs us Q I r h
 match xs,h with
 | [x,y],h=>
  obtain⟨rfl,k,ty,q⟩:=h;obtain⟨u,w',rfl,ru,rw'⟩:=vals2 r;cases (show w'=Value.type T from rw');exact TN I ru (ty.ty) (hf X.K k) λtk=>⟨.bl (f k),H,I.tok tk,rfl,q⟩
theorem NN{T:String}{f:Kd->Bool}{x:Str}{e:Expr}{te:TE}{p p2 pos:Pos}(hf:Isi T f)(hm:X.mg "isinstance" = none)(hm2:X.mg x=none)(hb:bootBuiltins x=some (.type T))(he:PE X e te)
  (hg:Gl X "isinstance":=by rfl) (hg2:Gl X x:=by rfl) (hn:x≠"__name__":=by decide) (hd:(x==("__debug__" :Str))=false:=by decide)
  (hs:starEach [e,.Name x p2] X.env=(false,eval e X.env)::starEach [.Name x p2] X.env:=by rfl) (hs2:starEach [.Name x p2] X.env=(false,eval (.Name x p2) X.env)::starEach [] X.env:=by rfl)
  (hpl:(backTo pos (starEach [.Name x p2] X.env)).any (·.1)=false:=by rfl):PE X (.Call (.Name "isinstance" p) [e,.Name x p2] [] pos) (tCB (rIsi T f) (yS te (yS (tC (.ty T)) tNil))):=
 kO (X:=X) (p:=p) (pos:=pos) (ZC hf) hg hm boot_isinstance (jA he (jA (PV (v:=.ty T) hg2 hm2 hb rfl hn hd) jC hs2) hs) (by decide) (by decide) hs hpl
theorem yO:∀{vs:List Value} {ns:List Int} {j:Nat} (_:IntsAre vs ns) (h:j<vs.length),∃n t,ns[j]? = some n/\vs[j]=.int n t
 | _,_,_,.nil,h=>absurd h (Nat.not_lt_zero _)
 | _,_,0,.cons n t _,_=>⟨n,t,rfl,rfl⟩
 | _,_,j+1,.cons _ _ r,h=>by
  obtain⟨n,t,e1,e2⟩:=yO (j:=j) r (by simpa using h);exact⟨n,t,by simpa using e1,by simpa using e2⟩
theorem vM:∀{vs:List Value} {ns:List Int},IntsAre vs ns->vs.length=ns.length
 | _,_,.nil=>rfl
 | _,_,.cons _ _ r=>by simp [vM r]
theorem all_eq(ns ms:List Int):((List.range (min ns.length ms.length)).all (λj=>decide (ns[j]? = ms[j]?))&&ns.length==ms.length)=decide (ns=ms):=by
 by_cases e:ns=ms
 ·subst e;simp
 ·rw[nB e];by_cases hl:ns.length=ms.length
  ·rw[Bool.and_eq_false_iff]
   left
   rw[<-Bool.not_eq_true];intro h;apply e;rw[List.all_eq_true]at h;apply mQ;intro j;by_cases hj:j<ns.length
   ·exact mL (h j (nJ.mpr (by omega)))
   ·rw[gN (by omega),gN (by omega)]
  ·simp [hl]
def rEqT(K:dD):R2:=λx y H Q=>∃(a b:Addr) (ns ms:List Int),x=.ref a/\y=.ref b/\SqT K H a (ns.map V.int)/\SqT K H b (ms.map V.int)/\Q (.bl (decide (ns=ms))) H
theorem op_eqT(hu:X.A.units<cLine):OpR X (compareOp .Eq) (rEqT X.K):=by
 intro ac s σ H x y v u Q I rx ry h;obtain⟨a,b,ns,ms,rfl,rfl,ha,hb,q⟩:=h;cases rx;cases ry;obtain⟨its,r1,p1,_⟩:=I.tuple ha;obtain⟨its2,r2,p2,_⟩:=I.tuple hb;have i1:IntsAre its ns:=vN r1;have i2:IntsAre its2 ms:=vN r2;refine SeqAt.eq_tupleAt (e:=λj=>decide (ns[j]? = ms[j]?)) p1 p2 hu (λj h1 h2=>?_) ?_
 ·obtain⟨n,t,e1,e2⟩:=yO (j:=j) i1 (by simpa using h1);obtain⟨m,t',e3,e4⟩:=yO (j:=j) i2 (by simpa using h2);have e5:its.toArray[j]=.int n t:=by simpa using e2
  have e6:its2.toArray[j]=.int m t':=by simpa using e4
  rw[e5,e6];have e7:decide (ns[j]? = ms[j]?)=(n==m):=by
   rw[e1,e3];by_cases e:n=m<;>simp [e]
  rw[e7];exact SeqAt.EqAt.int_int _ _ _ _
 ·have e8:=all_eq ns ms;rw[mI,mI,vM i1,vM i2,e8];exact⟨.bl (decide (ns=ms)),H,I,rfl,q⟩
def CDivL(_ j:Int):Prop:=0<j/\j.natAbs<2^8000
theorem qY:OpR X (binaryOp .FloorDiv) (rI CDivL λi j=>.int (i/j)):=opI λi j _ _ _ _ _ hc q=>by
 refine floordiv_int (by have:=hc.1;omega) ?_ (.inl (PyProof.noPylong_of_log2 (mB (LwM.log2_lt (by decide) hc.2) (by decide))));rw[Int.fdiv_eq_ediv_of_nonneg _ (Int.le_of_lt hc.1)];exact q
def CMulL(i j:Int):Prop:=i.natAbs<2^100000/\j.natAbs<2^100000
theorem qC:OpR X (binaryOp .Mult) (rI CMulL λi j=>.int (i*j)):=opI λ_ _ _ _ _ _ _ hc q=>mul_int q (IntMulOk.of_bits (tD (PySem.intBits_le_iff.mpr hc.1) (by decide)) (tD (PySem.intBits_le_iff.mpr hc.2) (by decide)))
end
theorem xP{c:Bool}{A B:Prop}(h:c=true)(a:A):if c=true then A else B:=by
 rw[dC h];exact a
theorem vA{c:Bool}{A B:Prop}(h:c=false)(b:B):if c=true then A else B:=by
 subst h;exact yR b
theorem VH{t k:TS}{D:Ends}{σ:L2.St}{H:Hp}(J:L2.St->Hp->Prop)(h2:∀σ H,J σ H->k D σ H)(h1:(∀σ H,J σ H->k D σ H)->t { D with nx:=k D } σ H):qU t k D σ H:=h1 h2
def But(p:Addr)(H H':Hp):Prop:=∀c o,H c=some o->c≠p->H' c=some o
theorem But.refl(p:Addr)(H:Hp):But p H H:=λ_ _ h _=>h
theorem But.trans{p:Addr}{H H1 H2:Hp}(a:But p H H1)(b:But p H1 H2):But p H H2:=λc o h n=>b c o (a c o h n) n
theorem But.upd(p:Addr)(H:Hp)(o:HO):But p H (upd H p o):=λc _ h n=>by
 rw[jO n];exact h
theorem But.of{p:Addr}{H H':Hp}(s:Same H H'):But p H H':=λc o h _=>s c o h
theorem jY{H:Hp}{p:Addr}(o:HO)(n:H p=none):Same H (upd H p o):=λb q e=>by
 rw[jO (kM e n)];exact e
theorem fresh{H:Hp}{o:HO}{Q:VK}(h:∀p H',H p=none->Same H H'->H' p=some o->Q (.ref p) H'):∀p,H p=none->Q (.ref p) (upd H p o):=
 λp n=>h p _ n (jY o n) jE
def New(H:Hp)(o:HO)(Q:VK):Prop:=∀p H',H p=none->Same H H'->H' p=some o->Q (.ref p) H'
theorem New.at{H:Hp}{o:HO}{Q:VK}(h:New H o Q){p:Addr}(n:H p=none):Q (.ref p) (upd H p o):=h p _ n (jY o n) jE
section
variable{X:Cx}{es:List Expr}{t:TA}{pos:Pos}
def tTupF(t:TA):TE:=fun σ H Q=>t σ H λxs H1=>xs.length<=sizeLine/\New H1 (.tup xs) Q
def tLstF(t:TA):TE:=fun σ H Q=>t σ H λxs H1=>xs.length<=sizeLine/\New H1 (.lst xs) Q
theorem jT{x1}(h:PA X es t):PE X (.Tuple es x1 pos) (tTupF t):=by
 intro ac s σ H Q I hq;refine wpAny_Tuple_spliced (thn (h pos ac s σ H _ I hq) λus s1 ⟨xs,H1,I1,r,z,q⟩=>⟨by rw[<-r.length];exact z, ?_⟩);have hf:H1 s1.heap.objs.size=none:=I1.hok.fresh uU ;refine⟨.ref s1.heap.objs.size,upd H1 s1.heap.objs.size (.tup xs),I1.laid (t':=s1.toks) (λb u e=>gI _ e) uU ?_,rfl,q.at hf⟩;exact⟨z,us,r,⟨_,gX _ rfl,rfl,_,rfl⟩,.of (gX _ rfl) rfl⟩
theorem qO(h:PA X es t):PE X (.List es pos) (tLstF t):=by
 intro ac s σ H Q I hq;refine wpAny_List_spliced (thn (h pos ac s σ H _ I hq) λus s1 ⟨xs,H1,I1,r,z,q⟩=>⟨by rw[<-r.length];exact z, ?_⟩);have hf:H1 s1.heap.objs.size=none:=I1.hok.fresh uU ;refine⟨.ref s1.heap.objs.size,upd H1 s1.heap.objs.size (.lst xs),I1.laid (t':=s1.toks) (λb u e=>gI _ e) uU ?_,rfl,q.at hf⟩;exact⟨z,us,0,r,gX _ rfl⟩
theorem opr_of{f:Value->Value->Sem Value}{r r':R2}(h:OpR X f r)(i:∀x y H Q,r' x y H Q->r x y H Q):OpR X f r':=
 λac s σ H x y v u Q I rx ry q=>h ac s σ H x y v u Q I rx ry (i x y H Q q)
theorem ZA{f:Value}{r r':List V->Hp->VK->Prop}(h:CallR X f r)(i:∀xs H Q,r' xs H Q->r xs H Q):CallR X f r':=
 λac s σ H xs us Q I rv q=>h ac s σ H xs us Q I rv (i xs H Q q)
theorem slr_of{r r':V->Option Int->Option Int->Hp->VK->Prop}(h:SlR X r)(i:∀x a b H Q,r' x a b H Q->r x a b H Q):SlR X r':=
 λac s σ H x v vl vu lo hi sl Q I rx hs pl pu q=>h ac s σ H x v vl vu lo hi sl Q I rx hs pl pu (i x lo hi H Q q)
def rListF(K:dD):List V->Hp->VK->Prop:=λxs H Q=>∃p ys,xs=[.ref p]/\(SqL K H p ys∨SqT K H p ys)/\New H (.lst ys) Q
theorem xR:CallR X (.type "list") (rListF X.K):=ZA JT λxs H Q ⟨p,ys,e,h,q⟩=>⟨p,ys,e,h,λl n=>q.at n⟩
def rCatF:R2:=λx y H Q=>∃l b xs zs,x=.ref l/\y=.ref b/\H l=some (.lst xs)/\H b=some (.lst zs)/\xs.length+zs.length<=sizeLine/\New H (.lst (xs++zs)) Q
theorem xL:OpR X (binaryOp .Add) rCatF:=opr_of op_cat λx y H Q ⟨l,b,xs,zs,e1,e2,h1,h2,h3,q⟩=>⟨l,b,xs,zs,e1,e2,h1,h2,h3,λp n=>q.at n⟩
def WA(K:dD):V->Option Int->Option Int->Hp->VK->Prop:=λx lo hi H Q=>∃a xs,x=.ref a/\SqL K H a xs/\New H (.lst (zV xs lo hi)) Q
theorem vJ:SlR X (WA X.K):=slr_of ZS λx a b H Q ⟨p,xs,e,h1,q⟩=>⟨p,xs,e,h1,λp n=>q.at n⟩
end
section
variable{prog:Program}{w:World}{A:Around}{R:Result->Shared->Prop}{s:Shared}
theorem zX{elt target iter:Expr}{scope:Scope}{pos:Pos}{it acc:Value}{env:Env}(I:Nat->Shared->Prop)
  (turn:∀n s,I n s->wpAny (model prog w) A (pyNext it) (λr s₁=>match r with
   | none=>R (.ok .next) s₁
   | some v=>wpAny (model prog w) A (letOwnedTupleGo target it v) (λ_ s₁'=>wpAny (model prog w) A (assign target env v) (λ_ s₂=>wpAny (model prog w) A (eval elt env) (λx s₃=>
     wpAny (model prog w) A (call (.builtin "list.append") [acc,x]) (λ_ s₄=>∃m,m<n/\I m s₄) (notedBy (model prog w) A env λe s'=>R (.error e) s') s₃)
     (notedBy (model prog w) A env λe s'=>R (.error e) s') s₂) (notedBy (model prog w) A env λe s'=>R (.error e) s') s₁') (notedBy (model prog w) A env λe s'=>R (.error e) s') s₁) (notedBy (model prog w) A env λe s'=>R (.error e) s') s)
  (n:Nat) (h:I n s) :
  codeAny (model prog w) A (.compLoop (.ListComp elt [⟨target,iter,[],0⟩] scope pos) 0 it acc env) R s:=by
 refine codeAny_loop rfl I (λn s hI=>?_) n h;show wpAny _ _ ((compTurn (.ListComp elt [⟨target,iter,[],0⟩] scope pos) 0 it acc env).onRaise (λx=>do noteFrame x env;theTreesLotGoes x)) _ _ s;refine wpAny_noted ?_;rw[compTurn_list1];refine tX (wpAny_standAt (tX (tZ (turn n s hI) (λr s₁ h₁=>?_) λ_ _ h'=>h')));cases r with
 | none=>exact tY h₁
 | some v=>
  refine tX (tZ h₁ (λ_ s₁' h₁'=>?_) λ_ _ h'=>h');exact tX (tZ h₁' (λ_ s₂ h₂=>tX (tX (tZ h₂ (λx s₃ h₃=>tX (tZ h₃
   (λ_ s₄ h₄=>tY (tY ⟨rfl,h₄⟩)) λ_ _ h'=>h')) λ_ _ h'=>h'))) λ_ _ h'=>h')
end
def kW(X:Cx)(N:List Str)(scope:Scope)(C:Addr)(fp:List Addr)(s2:Shared)(H2:Hp):Cx:=
 { X with N:=N,s₀:=s2,H₀:=H2,env:=compEnv scope C X.env,outer:=X.stack,stack:=X.stack,ex:=fp,fn:=λ_=>true,pn:=[],xe:=λ_ _=>False }
def CompGo(n:Nat)(J:It)(g:TG)(te:TE)(Q:VK)(p:Addr)(H':Hp):Prop:=
 ∃W:Nat->Nat->List V->Hp->Prop,(∃m,W 0 m [] H')/\∀i m ys H2,W i m ys H2->H2 p=some (.lst ys)/\ys.length<sizeLine/\
  ((J.stop i H2/\Q (.ref p) H2)∨(J.go i H2/\∀x H3,J.yld i H2 x H3->g x (List.replicate n none) H3 fun σ4 H4=>te σ4 H4 λy H5=>H5 p=some (.lst ys)/\∃m',m'<m/\W (i+1) m' (ys++[y]) (upd H5 p (.lst (ys++[y])))))
def tComp(n:Nat)(wi:TI)(g:TG)(te:TE):TE:=fun σ H Q=>wi σ H λJ H1=>∀p H',H1 p=none->Same H1 H'->H' p=some (.lst [])->CompGo n J g te Q p H'
section
variable{X:Cx}
theorem HM{ac:List (Addr×Obj)}{σ:L2.St}{H1:Hp}{s2:Shared}{N:List Str}{scope:Scope}{C:Addr}{fp:List Addr}(I:Inv X ac σ H1 s2)(hk:scope.kind=.function)
  (hn:∀x,scope.names.lookup x≠some .cell/\scope.names.lookup x≠some .free) (hC:s2.heap.objs.size<=C) (hf:∀b∈fp,FpOk X ac H1 b) (hlt:∀b∈fp,b<s2.heap.objs.size):(kW X N scope C fp s2 H1).Ok where
 mod:=I.ok.mod
 kind:=hk
 glob:=I.ok.glob
 blt:=I.ok.blt
 above:=hC
 inj:=λx y c h=>nomatch h
 has:=λx h=>h.elim (λz=>absurd z (hn x).1) (λz=>absurd z (hn x).2)
 cab:=λx c _ h=>nomatch h
 hd:=I.ok.hd
 frames:=I.ok.frames
 stk:=.inl rfl
 exf:=λb hb=>⟨tE (mB (hlt b hb) hC),λx c h=>nomatch h⟩
 bs:=I.bs
 bsz:=tD I.ok.bsz I.sz
 noex:=λb o e hb=>by
  rcases(hf b hb).2.2.2.1 with z | z
  ·exact I.ok.noex b o e z
  ·exact absurd (mB (nZ e) (tD I.ok.bsz z)) (nV _)
 exfs:=λb hb z=>(nT.mp (I.stkSub b z)).elim (hf b hb).2.1 (hf b hb).2.2.1
 funs:=I.stack
 frf:=I.stkFree
theorem pe_comp{N:List Str}{elt target iter:Expr}{scope:Scope}{pos:Pos}{wi:TI}{g:TG}{te:TE}(hc:X.calm=true)
  (hk:scope.kind=.function) (hn:∀x,scope.names.lookup x≠some .cell/\scope.names.lookup x≠some .free) (hfree:∀x∈scope.names,x.2≠.free) (hcell:∀x∈scope.names,x.2≠.cell) (hnames:∀x∈scope.names,x.2=.local->scope.names.lookup x.1=some .local)
  (hi:PI X target iter wi) (hg:∀C fp s2 H2,PG (kW X N scope C fp s2 H2) target g) (he:∀C fp s2 H2,PE (kW X N scope C fp s2 H2) elt te)
  (hs:∀x,foldedSetIterable iter X.env x=pure x:=by intro _;rfl):PE X (.ListComp elt [⟨target,iter,[],0⟩] scope pos) (tComp N.length wi g te):=by
 intro ac s σ H Q I h;refine wpAny_ListComp hfree hk hnames (thn (hi ac s σ H _ I h) λv s1 h1=>thn h1 λitv s2 h2=>?_) hs;obtain⟨it,fp,tn,J,H1,e,I2,T,st2,f2,hR⟩:=h2;subst e;have hlt:∀b∈fp,b<s2.heap.objs.size:=λb hb=>by
  obtain⟨o,ho,_⟩:=T.obj 0 _ st2 b hb;exact nZ ho
 refine wpAny_newObj_type (wpAny_newFunctionEnv hcell (by intro y hy;simp at hy) (λh₁ hns₁ hsb₁=>?_) hk);dsimp only at hns₁ hsb₁ ⊢;generalize hHH:s2.heap.push { cls:=.type "list",dict:=none,data:=.seq ([]:List Value).toArray } = HH at hns₁ hsb₁ ⊢;have hCe:HH.objs.size=s2.heap.objs.size+1:=by rw[<-hHH,nP]
 have hDC:s2.heap.objs.size≠HH.objs.size:=by rw[hCe];exact tE (mX _)
 have hCle:s2.heap.objs.size<=HH.objs.size:=by rw[hCe];exact Nat.le_succ _
 have old:∀b o,s2.heap.get? b=some o->h₁.get? b=some o:=λb o e=>hsb₁.extBut b o (by rw[hCe];exact tE (Nat.lt_succ_of_lt (nZ e))) (gI _ (hHH▸gI _ e));have hD:h₁.get? s2.heap.objs.size=some { cls:=.type "list",dict:=none,data:=.seq ([]:List Value).toArray } :=hsb₁.extBut _ _ hDC (gI _ (hHH▸gX _ rfl));have nD:H1 s2.heap.objs.size=none:=I2.hok.fresh uU ;obtain⟨W,⟨m0,w0⟩,turn⟩:=hR s2.heap.objs.size _ nD (jY (.lst []) nD) jE;have ok:=HM (N:=N) (C:=HH.objs.size) I2 hk hn hCle f2 hlt;have I4:Inv (kW X N scope HH.objs.size fp s2 H1) [] (List.replicate N.length none) (upd H1 s2.heap.objs.size (.lst [])) { s2 with heap:=h₁,toks:=s2.toks+([]:List (Str×Value)).length } :=by
  refine⟨ok,rfl,I2.bare,Un.laid old uU nD,⟨_,hns₁,λi x v _ e2 _=>?_⟩,(λx c z=>nomatch z), ?_,(λx c z=>nomatch z),(λp hp=>nomatch hp),I2.hok.laid old uU ?_,by rw[gM];rfl⟩
  ·rw[List.getElem?_replicate]at e2;split at e2<;>cases e2
  ·show(upd H1 s2.heap.objs.size (.lst [])) HH.objs.size=none;rw[jO (Ne.symm hDC)];exact I2.hok.fresh hCle
  ·exact⟨by show 0<=sizeLine;decide,[],0,.nil,hD⟩
 have stat:∀{H':Hp},(∀b∈fp,H' b=none)->∀b∈fp,FpOk (kW X N scope HH.objs.size fp s2 H1) [] H' b:=λhn b hb=>
  ⟨hn b hb,(ok.exf b hb).1,ok.exfs b hb,.inl hb,(ok.exf b hb).2,λp hp=>nomatch hp⟩
 have st4:tn 0 h₁:=T.keep _ _ _ st2 λb _ o e=>old b o e;have fr4:∀b∈fp,(upd H1 s2.heap.objs.size (.lst [])) b=none:=λb hb=>by
  rw[jO (tE (hlt b hb))];exact(f2 b hb).1
 have loop:codeAny (model X.prog X.w) X.A (.compLoop (.ListComp elt [⟨target,iter,[],0⟩] scope pos) 0 (.ref it) (.ref s2.heap.objs.size) (compEnv scope HH.objs.size X.env))
   (λr s'=>∃m,s'.heap.Ns HH.objs.size m/\∀h',Heap.SameBut HH.objs.size s'.heap h'->
      match r with | .ok _=>EP X ac σ Q (.ref s2.heap.objs.size) { s' with heap:=h' } | .error x=>wpAny (model X.prog X.w) X.A (passOn "comprehension.variables-let-go" x (compEnv scope HH.objs.size X.env)) (EP X ac σ Q) X.xe { s' with heap:=h' })
   { s2 with heap:=h₁,toks:=s2.toks+([]:List (Str×Value)).length } :=by
  refine zX (λn s'=>∃i ys H',Inv (kW X N scope HH.objs.size fp s2 H1) [] (List.replicate N.length none) H' s'/\tn i s'.heap/\(∀b∈fp,H' b=none)/\W i n ys H') ?_ m0 ⟨0,[],_,I4,st4,fr4,w0⟩;rintro n s3 ⟨i,ys,H3,I3,st3,fr3,w3⟩;obtain⟨hp3,hz3,hw⟩:=turn i n ys H3 w3;rcases hw with⟨stop,qn⟩ | ⟨go,step⟩
  ·refine thn (T.done (kW X N scope HH.objs.size fp s2 H1) rfl rfl rfl hc i [] s3 _ H3 _ I3 (stat fr3) st3 stop) λr s4 ⟨hr,I5⟩=>?_;subst hr;obtain⟨m,hm,_⟩:=id I5.loc;refine⟨m,hm,λh' sb=>⟨.ref s2.heap.objs.size,H3, ?_,rfl,qn⟩⟩;have k:∀b o,b≠HH.objs.size->s4.heap.get? b=some o->h'.get? b=some o:=λb o hb e=>sb.extBut b o hb e;have nb:∀b o,s2.heap.get? b=some o->b≠HH.objs.size:=λb o e=>by rw[hCe];exact tE (Nat.lt_succ_of_lt (nZ e))
   have U:=I5.base;have fC:H3 HH.objs.size=none:=I5.free;refine I2.call' (ch:=fp) (s':={ s4 with heap:=h' }) I5.os ⟨λb o e n hb hx=>k b o (nb b o e) (U.keep b o e n hb hx),λb o e n hb hx=>?_,U.free,λb o e hx=>?_,U.tups,U.frzs,U.tbls⟩ (λb u e=>?_) I5.bare (λb hb=>⟨(f2 b hb).2.2.2.1,(f2 b hb).2.1,(f2 b hb).2.2.2.2.1,(f2 b hb).2.2.2.2.2⟩)
   ·obtain⟨sl,q⟩:=U.slot b o e n hb hx;exact⟨sl,k b _ (nb b o e) q⟩
   ·obtain⟨o',q⟩:=U.there b o e hx;exact⟨o',k b _ (nb b o e) q⟩
   ·refine(I5.hok b u e).stay (λc v hcc q=>k c v ?_ q) (λ_ q=>q) λ_ _ q=>q;rcases hcc with z | z
    ·rw[z];intro y;rw[y,fC]at e;cases e
    ·intro y;rw[y,fC]at z;cases z
  ·refine tZ (T.item (kW X N scope HH.objs.size fp s2 H1) rfl rfl rfl hc i [] s3 _ H3 (λ_ _=>False) I3 (stat fr3) st3 go) (λr s4 ⟨u,hr,h4⟩=>?_) λ_ _ z=>z.elim;subst hr;refine tZ h4 (λ_ s5 ⟨x,H5,I5,r5,y5,st5,fr5⟩=>?_) λ_ _ z=>z.elim;have I5':=I5.pinned (stat fr5) (T.obj _ _ st5);refine tZ (hg _ _ _ _ _ s5 _ H5 x u _ I5' r5 (step x H5 y5)) (λ_ s6 ⟨σ6,H6,I6,q6⟩=>?_) λ_ _ z=>z.elim;refine tZ (he _ _ _ _ _ s6 σ6 H6 _ I6 q6) (λy s7 ⟨yv,H7,I7,r7,q7⟩=>?_) λ_ _ z=>z.elim;obtain⟨e7,m',hm',w7⟩:=q7;refine tZ (qZ (X:=kW X N scope HH.objs.size fp s2 H1) _ s7 σ6 H7 (.ref s2.heap.objs.size) [yv] (.ref s2.heap.objs.size) [y] (λ_ H8=>H8=upd H7 s2.heap.objs.size (.lst (ys++[yv]))) I7 rfl (.cons r7 .nil) ⟨_,ys,yv,rfl,rfl,e7,hz3,rfl⟩) (λ_ s8 ⟨_,H8,I8,_,q8⟩=>?_) λ_ _ z=>z.elim;subst q8;refine⟨m',hm',i+1,_,_,(I8.unpinned).weak (by rw[gM,I8.len];rfl) (λj v ev=>?_),T.keep _ _ _ st5 λb hb o e=>(I8.pin (b,o) (gL _ (gL _ (kA hb e)))).1,λb hb=>?_,w7⟩
   ·rw[List.getElem?_replicate]at ev;split at ev<;>cases ev
   ·obtain⟨o,e,d⟩:=T.obj _ _ st5 b hb;exact(I8.pin (b,o) (gL _ (gL _ (kA hb e)))).2.1
 exact codeAny_compStart_list loop (T.self _ 0 _ _ _ st4 loop)
end
mutual
inductive DecV(H:Hp):V->PyData->Prop where
 | non:DecV H .non .none
 | bl (b:Bool):DecV H (.bl b) (.bool b)
 | int (i:Int):DecV H (.int i) (.int i)
 | str (x:Str):DecV H (.str x) (.str x)
 | lst {a:Addr} {xs:List V} {ds:List PyData} (e:H a=some (.lst xs)) (h:DecVs H xs ds):DecV H (.ref a) (.list ds)
 | tup {a:Addr} {xs:List V} {ds:List PyData} (e:H a=some (.tup xs)) (h:DecVs H xs ds):DecV H (.ref a) (.tuple ds)
inductive DecVs(H:Hp):List V->List PyData->Prop where
 | nil:DecVs H [] []
 | cons {x:V} {d:PyData} {xs:List V} {ds:List PyData} (h:DecV H x d) (t:DecVs H xs ds):DecVs H (x::xs) (d::ds)
end
section
variable{X:Cx}
mutual
theorem DecV.reads{ac:List (Addr×Obj)}{σ:L2.St}{H:Hp}{s:Shared}(I:Inv X ac σ H s):∀{x:V} {d:PyData} {u:Value},DecV H x d->RelV x u->∃as,Reads s.heap u d as
 | _,_,_,.non,r=>by cases r;exact⟨_,.none⟩
 | _,_,_,.bl b,r=>by cases r;exact⟨_,.bool b⟩
 | _,_,_,.int i,r=>by obtain⟨t,rfl⟩:=r;exact⟨_,.int i t⟩
 | _,_,_,.str x,r=>by obtain⟨t,rfl⟩:=r;exact⟨_,.str x t⟩
 | _,_,_,.lst e h,r=>by
  cases r;obtain⟨its,rv,⟨o,n,ho,hc,_,hd⟩,_⟩:=I.list (SqL.of e);obtain⟨as,ra⟩:=DecVs.reads I h rv;exact⟨_,.list ho hc hd (by simpa using ra)⟩
 | _,_,_,.tup e h,r=>by
  cases r;obtain⟨its,rv,⟨o,ho,hc,n,hd⟩,_⟩:=I.tuple (SqT.of e);obtain⟨as,ra⟩:=DecVs.reads I h rv;exact⟨_,.tuple ho hc hd (by simpa using ra)⟩
theorem DecVs.reads{ac:List (Addr×Obj)}{σ:L2.St}{H:Hp}{s:Shared}(I:Inv X ac σ H s):∀{xs:List V} {ds:List PyData} {us:List Value},DecVs H xs ds->Vals xs us->∃as,ReadsAll s.heap us ds as
 | _,_,_,.nil,r=>by cases r;exact⟨_,.nil⟩
 | _,_,_,.cons h t,r=>by
  cases r with
  | cons q r=>
   obtain⟨as,ra⟩:=DecV.reads I h q;obtain⟨bs,rb⟩:=DecVs.reads I t r;exact⟨_,.cons ra rb⟩
end
def DataOk(d:PyData):Prop:=d.canLay0=true/\d.depth<=60
def rEqD:R2:=λx y H Q=>∃da db,DecV H x da/\DecV H y db/\DataOk da/\DataOk db/\Q (.bl (PyData.eqv da db)) H
theorem op_eqD(hu:X.A.units+64<cLine):OpR X (compareOp .Eq) rEqD:=by
 intro ac s σ H x y v u Q I rx ry h;obtain⟨da,db,d1,d2,o1,o2,q⟩:=h;obtain⟨as,ra⟩:=d1.reads I rx;obtain⟨bs,rb⟩:=d2.reads I ry;exact SeqAt.rcAt_reads ra rb o1.1 o2.1 (by have:=o1.2;omega) _ _ _ _ ⟨.bl _,H,I,rfl,q⟩
def rAll(K:dD):List V->Hp->VK->Prop:=λxs H Q=>∃(a:Addr) (bs:List Bool),xs=[.ref a]/\SqL K H a (bs.map V.bl)/\Q (.bl (bs.all id)) H
theorem RM:∀{bs:List Bool} {us:List Value} {i:Nat} {v:Value},Vals (bs.map V.bl) us->us[i]? = some v->v=.bool (bs.getD i true)
 | [],_,_,_,.nil,e=>by simp at e
 | b::_,_,0,_,.cons r _,e=>by
  cases r;simp at e;simp [<-e]
 | b::bs,_,i+1,_,.cons _ t,e=>by
  have:=RM (i:=i) t (by simpa using e);simpa using this
theorem UL(bs:List Bool):(List.range bs.length).all (λi=>bs.getD i true)=bs.all id:=by
 induction bs with
 | nil=>rfl
 | cons b r ih=>
  rw[mU,List.range_succ_eq_map,List.all_cons,List.all_map,List.all_cons,<-ih]
  rfl
theorem MH(hc:X.calm=true):CallR X (.builtin "all") (rAll X.K):=by
 intro ac s σ H xs us Q I r h;obtain⟨a,bs,rfl,hq,q⟩:=h;obtain⟨u,rfl,ru⟩:=xC r;cases ru;obtain⟨its,rv,p,hz⟩:=I.list hq;have hl:=rv.length;rw[mZ]at hl;refine PySem.call_all_walk (wpAny_pyIter_list p.isList ?_);have ha:a<s.heap.objs.size:=by
  obtain⟨o,n,e,_⟩:=p;exact nZ e
 refine⟨s.heap.objs.size,_,_,_,_,_,λi=>bs.getD i true,rfl,Walks.list (show X.A.in1.handled=none from I.ok.hd hc) s.heap.objs.size a (tE ha) its.toArray,⟨⟨_,gX _ rfl,rfl,rfl⟩,p.isList.at λo e=>gI _ e⟩, ?_, ?_⟩
 ·intro i v s' Q' E' hv hq';obtain rfl:=RM rv (by simpa using hv);exact wpAny_truthy_bool hq'
 ·intro h' tk k;rw[mI,<-hl,UL];refine⟨.bl _,H,I.kept (t':=tk) (λb o e=>?_),rfl,q⟩;exact k b o (by simp;exact tE (nZ e)) (gI _ e)
theorem WE{N:List Str}{elt target iter:Expr}{scope:Scope}{pos:Pos}{wi:TI}{g:TG}{te:TE}(hc:X.calm=true)
  (hk:scope.kind=.function) (hfree:∀x∈scope.names,x.2≠.free) (hcell:∀x∈scope.names,x.2≠.cell) (hnames:∀x∈scope.names,x.2=.local->scope.names.lookup x.1=some .local)
  (hi:PI X target iter wi) (hg:∀C fp s2 H2,PG (kW X N scope C fp s2 H2) target g) (he:∀C fp s2 H2,PE (kW X N scope C fp s2 H2) elt te)
  (hs:∀x,foldedSetIterable iter X.env x=pure x:=by intro _;rfl):PE X (.ListComp elt [⟨target,iter,[],0⟩] scope pos) (tComp N.length wi g te):=
 pe_comp hc hk (λx=>⟨λz=>hcell _ (PySem.mem_of_lookup z) rfl,λz=>hfree _ (PySem.mem_of_lookup z) rfl⟩) hfree hcell hnames hi hg he hs
end
def CompW(xs:List V)(Pv:Nat->List V->Hp->Prop)(i m:Nat)(ys:List V)(H:Hp):Prop:=m=xs.length-i/\i<=xs.length/\ys.length=i/\Pv i ys H
theorem qB{xs:List V}{Pv:Nat->List V->Hp->Prop}{i m:Nat}{ys:List V}{x y:V}{H5:Hp}{p:Addr}(hx:xs[i]? = some x)(hm:m=xs.length-i)(hl:ys.length=i)(e:H5 p=some (.lst ys))(h:Pv (i+1) (ys++[y]) (upd H5 p (.lst (ys++[y])))) :
  H5 p=some (.lst ys)/\∃m',m'<m/\CompW xs Pv (i+1) m' (ys++[y]) (upd H5 p (.lst (ys++[y]))):=by
 have hi:i<xs.length:=(gC.mp hx).1;exact⟨e,xs.length-(i+1),by omega,rfl,by omega,by simp [hl],h⟩
section
end
def jK(X:Cx)(N:List Str)(scope:Scope)(cl:List (Str×Addr))(C:Addr)(fp:List Addr)(s2:Shared)(H2:Hp):Cx:=
 { X with N:=N,s₀:=s2,H₀:=H2,env:=compEnvC scope cl C X.env,outer:=X.stack,stack:=X.stack,ex:=fp,fn:=λ_=>false,pn:=[],xe:=λ_ _=>False }
def Keep(σ τ:L2.St):Prop:=∀(i:Nat) (v:V),σ[i]? = some (some v)->τ[i]? = some (some v)
theorem zJ{x:Option V}{r:L2.St} :Keep (none::r) (x::r):=λi v h=>by
 cases i with
 | zero=>cases h
 | succ j=>exact h
theorem QQ{x y:Option V}{r:L2.St} :Keep (none::none::r) (x::y::r):=λi v h=>by
 cases i with
 | zero=>cases h
 | succ j=>cases j with
  | zero=>cases h
  | succ k=>exact h
def CompGoF(σ0:L2.St)(J:It)(g:TG)(te:TE)(Q:VK)(p:Addr)(H':Hp):Prop:=
 ∃W:Nat->Nat->List V->Hp->Prop,(∃m,W 0 m [] H')/\∀i m ys H2,W i m ys H2->H2 p=some (.lst ys)/\ys.length<sizeLine/\
  ((J.stop i H2/\Q (.ref p) H2)∨(J.go i H2/\∀x H3,J.yld i H2 x H3->g x σ0 H3 fun σ4 H4=>Keep σ0 σ4/\te σ4 H4 λy H5=>H5 p=some (.lst ys)/\∃m',m'<m/\W (i+1) m' (ys++[y]) (upd H5 p (.lst (ys++[y])))))
def VA(own:Nat)(idx:List Nat)(wi:TI)(g:TG)(te:TE):TE:=fun σ H Q=>wi σ H λJ H1=>∀p H',H1 p=none->Same H1 H'->H' p=some (.lst [])->
 CompGoF (List.replicate own none++idx.map λj=>(σ[j]?).getD none) J g te Q p H'
section
variable{X:Cx}
theorem yP{ac:List (Addr×Obj)}{σ:L2.St}{H1:Hp}{s2:Shared}{N:List Str}{scope:Scope}{cl:List (Str×Addr)}{C:Addr}{fp:List Addr}(I:Inv X ac σ H1 s2)(hk:scope.kind=.function)
  (hsub:∀x c,cl.lookup x=some c->X.env.cells.lookup x=some c) (hhas:∀x,((relabel scope X.env).names.lookup x=some .cell∨(relabel scope X.env).names.lookup x=some .free)->∃c,cl.lookup x=some c)
  (hC:s2.heap.objs.size<=C) (hf:∀b∈fp,FpOk X ac H1 b) (hlt:∀b∈fp,b<s2.heap.objs.size):(jK X N scope cl C fp s2 H1).Ok where
 mod:=I.ok.mod
 kind:=hk
 glob:=I.ok.glob
 blt:=I.ok.blt
 above:=hC
 inj:=λx y c h1 h2=>I.ok.inj x y c (hsub x c h1) (hsub y c h2)
 has:=hhas
 cab:=λx c h _=>by cases h
 hd:=I.ok.hd
 frames:=I.ok.frames
 stk:=.inl rfl
 exf:=λb hb=>⟨tE (mB (hlt b hb) hC),λx c h=>(hf b hb).2.2.2.2.1 x c (hsub x c h)⟩
 bs:=I.bs
 bsz:=tD I.ok.bsz I.sz
 noex:=λb o e hb=>by
  rcases(hf b hb).2.2.2.1 with z | z
  ·exact I.ok.noex b o e z
  ·exact absurd (mB (nZ e) (tD I.ok.bsz z)) (nV _)
 exfs:=λb hb z=>(nT.mp (I.stkSub b z)).elim (hf b hb).2.1 (hf b hb).2.2.1
 funs:=I.stack
 frf:=I.stkFree
theorem vL{own:Nat}{idx:List Nat}{N:List Str}{elt target iter:Expr}{scope:Scope}{cl:List (Str×Addr)}{pos:Pos}{wi:TI}{g:TG}{te:TE}(hc:X.calm=true)
  (hk:scope.kind=.function) (hclos:closureFor scope X.env=pure cl) (hcell:∀x∈scope.names,x.2≠.cell) (hnames:∀x∈scope.names,x.2=.local->scope.names.lookup x.1=some .local)
  (hsub:∀x c,cl.lookup x=some c->X.env.cells.lookup x=some c) (hhas:∀x,((relabel scope X.env).names.lookup x=some .cell∨(relabel scope X.env).names.lookup x=some .free)->∃c,cl.lookup x=some c)
  (hlen:N.length=own+idx.length)
  (hidx:∀(k j:Nat) (x:Str),idx[k]? = some j->N[own+k]? = some x->X.N[j]? = some x/\X.env.kindOf x=some .cell/\(relabel scope X.env).names.lookup x=some .cell/\X.env.scope.names.lookup x=some .cell)
  (hi:PI X target iter wi) (hg:∀C fp s2 H2,PG (jK X N scope cl C fp s2 H2) target g) (he:∀C fp s2 H2,PE (jK X N scope cl C fp s2 H2) elt te)
  (hs:∀x,foldedSetIterable iter X.env x=pure x:=by intro _;rfl):PE X (.ListComp elt [⟨target,iter,[],0⟩] scope pos) (VA own idx wi g te):=by
 intro ac s σ H Q I h;rw[eval_ListComp];refine wpAny_comprehension_free (use:=none) rfl hs hclos hk hnames (thn (hi ac s σ H _ I h) λv s1 h1=>thn h1 λitv s2 h2=>?_);obtain⟨it,fp,tn,J,H1,e,I2,T,st2,f2,hR⟩:=h2;subst e;have hlt:∀b∈fp,b<s2.heap.objs.size:=λb hb=>by
  obtain⟨o,ho,_⟩:=T.obj 0 _ st2 b hb;exact nZ ho
 refine wpAny_newObj_type (wpAny_newFunctionEnv hcell (by intro y hy;simp at hy) (λh₁ hns₁ hsb₁=>?_) hk);dsimp only at hns₁ hsb₁ ⊢;generalize hHH:s2.heap.push { cls:=.type "list",dict:=none,data:=.seq ([]:List Value).toArray } = HH at hns₁ hsb₁ ⊢;have hCe:HH.objs.size=s2.heap.objs.size+1:=by rw[<-hHH,nP]
 have hDC:s2.heap.objs.size≠HH.objs.size:=by rw[hCe];exact tE (mX _)
 have hCle:s2.heap.objs.size<=HH.objs.size:=by rw[hCe];exact Nat.le_succ _
 have old:∀b o,s2.heap.get? b=some o->h₁.get? b=some o:=λb o e=>hsb₁.extBut b o (by rw[hCe];exact tE (Nat.lt_succ_of_lt (nZ e))) (gI _ (hHH▸gI _ e));have hD:h₁.get? s2.heap.objs.size=some { cls:=.type "list",dict:=none,data:=.seq ([]:List Value).toArray } :=hsb₁.extBut _ _ hDC (gI _ (hHH▸gX _ rfl));have nD:H1 s2.heap.objs.size=none:=I2.hok.fresh uU ;obtain⟨W,⟨m0,w0⟩,turn⟩:=hR s2.heap.objs.size _ nD (jY (.lst []) nD) jE;generalize hσ:(List.replicate own none++idx.map λj=>(σ[j]?).getD none:L2.St)=σ0 at turn;have lσ:σ0.length=N.length:=by rw[<-hσ,hU,gM,mZ,hlen]
 have ok:=yP (N:=N) (cl:=cl) (C:=HH.objs.size) I2 hk hsub hhas hCle f2 hlt;have oldC:∀c v,s2.heap.IsCell c v->h₁.IsCell c v:=λc v ⟨o,ho,hd⟩=>⟨o,old c o ho,hd⟩;have I4:Inv (jK X N scope cl HH.objs.size fp s2 H1) [] σ0 (upd H1 s2.heap.objs.size (.lst [])) { s2 with heap:=h₁,toks:=s2.toks+([]:List (Str×Value)).length } :=by
  refine⟨ok,rfl,I2.bare,Un.laid old uU nD,⟨_,hns₁,λi x v e1 e2 _=>?_⟩,(λx c z=>?_), ?_,(λx c z=>?_),(λp hp=>nomatch hp),I2.hok.laid old uU ?_,lσ⟩
  ·
   rw[<-hσ]at e2;by_cases hi':i<own
   ·rw[gD (by rw[gM];exact hi'),List.getElem?_replicate]at e2;split at e2<;>cases e2
   ·obtain⟨k,rfl⟩:∃k,i=own+k:=⟨i-own,by omega⟩;rw[uZ (by rw[gM];omega),gM,Nat.add_sub_cancel_left,mH]at e2;cases ej:idx[k]? with
    | none=>rw[ej]at e2;cases e2
    | some j=>
     rw[ej,Option.map_some]at e2;have e2:=Option.some.inj e2;obtain⟨n1,n2,n3,n4⟩:=hidx k j x ej e1;have e3:σ[j]? = some (some v):=by
      cases q:σ[j]? with
      | none=>rw[q]at e2;cases e2
      | some y=>rw[q,Option.getD_some]at e2;rw[e2]
     obtain⟨m,hm,hl⟩:=I2.loc;obtain⟨u,ru,lk⟩:=hl j x v n1 e3 (.inr (.inl n4));refine⟨u,ru, ?_⟩;rcases lk with⟨kl,_⟩ | ⟨_,c,hcl,hic⟩
     ·rw[n2]at kl;cases kl
     ·obtain⟨c',hc'⟩:=hhas x (.inl n3);have:c'=c:=Option.some.inj ((hsub x c' hc').symm.trans hcl);subst this;exact .inr ⟨.inl n3,c',hc',oldC _ _ hic⟩
  ·obtain⟨v,hv⟩:=I2.cell x c (hsub x c z);exact⟨v,oldC _ _ hv⟩
  ·show(upd H1 s2.heap.objs.size (.lst [])) HH.objs.size=none;rw[jO (Ne.symm hDC)];exact I2.hok.fresh hCle
  ·obtain⟨v,hv⟩:=I2.cell x c (hsub x c z);show(upd H1 s2.heap.objs.size (.lst [])) c=none;rw[jO (tE hv.lt)];exact I2.freeC x c (hsub x c z)
  ·exact⟨by show 0<=sizeLine;decide,[],0,.nil,hD⟩
 have stat:∀{H':Hp},(∀b∈fp,H' b=none)->∀b∈fp,FpOk (jK X N scope cl HH.objs.size fp s2 H1) [] H' b:=λhn b hb=>
  ⟨hn b hb,(ok.exf b hb).1,ok.exfs b hb,.inl hb,(ok.exf b hb).2,λp hp=>nomatch hp⟩
 have st4:tn 0 h₁:=T.keep _ _ _ st2 λb _ o e=>old b o e;have fr4:∀b∈fp,(upd H1 s2.heap.objs.size (.lst [])) b=none:=λb hb=>by
  rw[jO (tE (hlt b hb))];exact(f2 b hb).1
 have loop:codeAny (model X.prog X.w) X.A (.compLoop (.ListComp elt [⟨target,iter,[],0⟩] scope pos) 0 (.ref it) (.ref s2.heap.objs.size) (compEnvC scope cl HH.objs.size X.env))
   (compPost (model X.prog X.w) X.A X.xe none (EP X ac σ Q) (.ref s2.heap.objs.size) HH.objs.size) { s2 with heap:=h₁,toks:=s2.toks+([]:List (Str×Value)).length } :=by
  refine zX (λn s'=>∃i ys H',Inv (jK X N scope cl HH.objs.size fp s2 H1) [] σ0 H' s'/\tn i s'.heap/\(∀b∈fp,H' b=none)/\W i n ys H') ?_ m0 ⟨0,[],_,I4,st4,fr4,w0⟩;rintro n s3 ⟨i,ys,H3,I3,st3,fr3,w3⟩;obtain⟨hp3,hz3,hw⟩:=turn i n ys H3 w3;rcases hw with⟨stop,qn⟩ | ⟨go,step⟩
  ·refine thn (T.done (jK X N scope cl HH.objs.size fp s2 H1) rfl rfl rfl hc i [] s3 _ H3 _ I3 (stat fr3) st3 stop) λr s4 ⟨hr,I5⟩=>?_;subst hr;obtain⟨m,hm,_⟩:=id I5.loc;refine⟨m,hm,λh' sb=>⟨.ref s2.heap.objs.size,H3, ?_,rfl,qn⟩⟩;have k:∀b o,b≠HH.objs.size->s4.heap.get? b=some o->h'.get? b=some o:=λb o hb e=>sb.extBut b o hb e;have nb:∀b o,s2.heap.get? b=some o->b≠HH.objs.size:=λb o e=>by rw[hCe];exact tE (Nat.lt_succ_of_lt (nZ e))
   have U:=I5.base;have fC:H3 HH.objs.size=none:=I5.free;refine I2.call' (ch:=fp) (s':={ s4 with heap:=h' }) I5.os ⟨λb o e n hb hx=>k b o (nb b o e) (U.keep b o e n hb hx),λb o e n hb hx=>?_,U.free,λb o e hx=>?_,U.tups,U.frzs,U.tbls⟩ (λb u e=>?_) I5.bare (λb hb=>⟨(f2 b hb).2.2.2.1,(f2 b hb).2.1,(f2 b hb).2.2.2.2.1,(f2 b hb).2.2.2.2.2⟩)
   ·obtain⟨sl,q⟩:=U.slot b o e n hb hx;exact⟨sl,k b _ (nb b o e) q⟩
   ·obtain⟨o',q⟩:=U.there b o e hx;exact⟨o',k b _ (nb b o e) q⟩
   ·refine(I5.hok b u e).stay (λc v hcc q=>k c v ?_ q) (λ_ q=>q) λ_ _ q=>q;rcases hcc with z | z
    ·rw[z];intro y;rw[y,fC]at e;cases e
    ·intro y;rw[y,fC]at z;cases z
  ·refine tZ (T.item (jK X N scope cl HH.objs.size fp s2 H1) rfl rfl rfl hc i [] s3 _ H3 (λ_ _=>False) I3 (stat fr3) st3 go) (λr s4 ⟨u,hr,h4⟩=>?_) λ_ _ z=>z.elim;subst hr;refine tZ h4 (λ_ s5 ⟨x,H5,I5,r5,y5,st5,fr5⟩=>?_) λ_ _ z=>z.elim;have I5':=I5.pinned (stat fr5) (T.obj _ _ st5);refine tZ (hg _ _ _ _ _ s5 _ H5 x u _ I5' r5 (step x H5 y5)) (λ_ s6 ⟨σ6,H6,I6,kp6,q6⟩=>?_) λ_ _ z=>z.elim;refine tZ (he _ _ _ _ _ s6 σ6 H6 _ I6 q6) (λy s7 ⟨yv,H7,I7,r7,q7⟩=>?_) λ_ _ z=>z.elim;obtain⟨e7,m',hm',w7⟩:=q7;refine tZ (qZ (X:=jK X N scope cl HH.objs.size fp s2 H1) _ s7 σ6 H7 (.ref s2.heap.objs.size) [yv] (.ref s2.heap.objs.size) [y] (λ_ H8=>H8=upd H7 s2.heap.objs.size (.lst (ys++[yv]))) I7 rfl (.cons r7 .nil) ⟨_,ys,yv,rfl,rfl,e7,hz3,rfl⟩) (λ_ s8 ⟨_,H8,I8,_,q8⟩=>?_) λ_ _ z=>z.elim;subst q8;refine⟨m',hm',i+1,_,_,(I8.unpinned).weak (by rw[lσ,I8.len];rfl) kp6,T.keep _ _ _ st5 λb hb o e=>(I8.pin (b,o) (gL _ (gL _ (kA hb e)))).1,λb hb=>?_,w7⟩;obtain⟨o,e,d⟩:=T.obj _ _ st5 b hb;exact(I8.pin (b,o) (gL _ (gL _ (kA hb e)))).2.1
 exact codeAny_compStart_list loop (T.self _ 0 _ _ _ st4 loop)
def hasB(names:List (Str×NameKind))(cl:List (Str×Addr)):Bool:=names.all λy=>match y.2 with
 | .cell=>(cl.lookup y.1).isSome
 | .free=>(cl.lookup y.1).isSome
 | _=>true
theorem vC{names:List (Str×NameKind)}{cl:List (Str×Addr)}(h:hasB names cl=true):∀x,(names.lookup x=some .cell∨names.lookup x=some .free)->∃c,cl.lookup x=some c:=by
 intro x hx;have all:=List.all_eq_true.mp h;rcases hx with hx | hx
 ·have:=all _ (PySem.mem_of_lookup hx);exact Option.isSome_iff_exists.mp this
 ·have:=all _ (PySem.mem_of_lookup hx);exact Option.isSome_iff_exists.mp this
theorem vR{X:Cx}{scope:Scope}{own j0:Nat}{N:List Str}{x0:Str}(h0:N[own]? = some x0)(h:X.N[j0]? = some x0/\X.env.kindOf x0=some .cell/\(relabel scope X.env).names.lookup x0=some .cell/\X.env.scope.names.lookup x0=some .cell) :
  ∀(k j:Nat) (x:Str),[j0][k]? = some j->N[own+k]? = some x->X.N[j]? = some x/\X.env.kindOf x=some .cell/\(relabel scope X.env).names.lookup x=some .cell/\X.env.scope.names.lookup x=some .cell:=by
 intro k j x e1 e2
 match k,e1 with
 | 0,e1=>
  cases e1;rw[tN,h0]at e2;cases e2;exact h
 | k+1,e1=>cases e1
end
theorem DF{J:It}{xs:List V}{σ0:L2.St}{g:TG}{te:TE}{Q:VK}{p:Addr}{H':Hp}(Pv:Nat->List V->Hp->Prop)(hz:xs.length<sizeLine)(h0:Pv 0 [] H')
  (hgo:∀i ys H2,Pv i ys H2->i<xs.length->J.go i H2/\∀x H3,J.yld i H2 x H3->H3=H2/\xs[i]? = some x) (hst:∀ys H2,Pv xs.length ys H2->J.stop xs.length H2) (hl:∀i ys H2,Pv i ys H2->H2 p=some (.lst ys))
  (hs:∀i m ys x H2,xs[i]? = some x->m=xs.length-i->ys.length=i->Pv i ys H2->g x σ0 H2 fun σ4 H4=>Keep σ0 σ4/\te σ4 H4 λy H5=>H5 p=some (.lst ys)/\∃m',m'<m/\CompW xs Pv (i+1) m' (ys++[y]) (upd H5 p (.lst (ys++[y]))))
  (hd:∀ys H2,ys.length=xs.length->Pv xs.length ys H2->Q (.ref p) H2):CompGoF σ0 J g te Q p H':=by
 unfold CompGoF;refine⟨CompW xs Pv,⟨_,rfl,tQ _,rfl,h0⟩, ?_⟩;rintro i m ys H2 ⟨hm,hi,hy,hp⟩;refine⟨hl i ys H2 hp,by omega, ?_⟩;by_cases hlt:i<xs.length
 ·obtain⟨g1,g2⟩:=hgo i ys H2 hp hlt;refine .inr ⟨g1,λx H3 y=>?_⟩;obtain⟨e3,z⟩:=g2 x H3 y;subst e3;exact hs i m ys x _ z hm hy hp
 ·have ei:i=xs.length:=by omega
  subst ei;exact .inl ⟨hst ys H2 hp,hd ys H2 hy hp⟩
theorem xQ{K:dD}{a:Addr}{xs:List V}{σ0:L2.St}{g:TG}{te:TE}{Q:VK}{p:Addr}{H':Hp}(Pv:Nat->List V->Hp->Prop)(hz:xs.length<sizeLine)(h0:Pv 0 [] H')
  (hl:∀i ys H2,Pv i ys H2->SqL K H2 a xs/\H2 p=some (.lst ys))
  (hs:∀i m ys x H2,xs[i]? = some x->m=xs.length-i->ys.length=i->Pv i ys H2->g x σ0 H2 fun σ4 H4=>Keep σ0 σ4/\te σ4 H4 λy H5=>H5 p=some (.lst ys)/\∃m',m'<m/\CompW xs Pv (i+1) m' (ys++[y]) (upd H5 p (.lst (ys++[y]))))
  (hd:∀ys H2,ys.length=xs.length->Pv xs.length ys H2->Q (.ref p) H2):CompGoF σ0 (Itl K a) g te Q p H':=
 DF Pv hz h0 (λi ys H2 h hi=>⟨⟨xs,xs[i],(hl i ys H2 h).1,by simp [hi]⟩,λx H3 y=>⟨y.1,y.2 xs (hl i ys H2 h).1⟩⟩) (λys H2 h=>⟨xs,(hl _ ys H2 h).1,tP _⟩) (λi ys H2 h=>(hl i ys H2 h).2) hs hd
theorem UE{K:dD}{a:Addr}{xs:List V}{σ0:L2.St}{g:TG}{te:TE}{Q:VK}{p:Addr}{H':Hp}(Pv:Nat->List V->Hp->Prop)(hz:xs.length<sizeLine)(h0:Pv 0 [] H')
  (hl:∀i ys H2,Pv i ys H2->SqT K H2 a xs/\H2 p=some (.lst ys))
  (hs:∀i m ys x H2,xs[i]? = some x->m=xs.length-i->ys.length=i->Pv i ys H2->g x σ0 H2 fun σ4 H4=>Keep σ0 σ4/\te σ4 H4 λy H5=>H5 p=some (.lst ys)/\∃m',m'<m/\CompW xs Pv (i+1) m' (ys++[y]) (upd H5 p (.lst (ys++[y]))))
  (hd:∀ys H2,ys.length=xs.length->Pv xs.length ys H2->Q (.ref p) H2):CompGoF σ0 (Itt K a) g te Q p H':=
 DF Pv hz h0 (λi ys H2 h hi=>⟨⟨xs,xs[i],(hl i ys H2 h).1,by simp [hi]⟩,λx H3 y=>⟨y.1,y.2 xs (hl i ys H2 h).1⟩⟩) (λys H2 h=>⟨xs,(hl _ ys H2 h).1,tP _⟩) (λi ys H2 h=>(hl i ys H2 h).2) hs hd
section
theorem wJ(ns:List Int):∀j,j<=ns.length->preSum (λi=>ns.getD i 0) j=(ns.take j).sum
 | 0,_=>by simp [preSum]
 | j+1,h=>by
  have hj:j<ns.length:=h;show preSum (λi=>ns.getD i 0) j+ns.getD j 0=_;rw[wJ ns j (by omega),List.take_succ_eq_append_getElem hj,List.sum_append,uY,gE hj];simp
theorem FT{M:Int} :∀(ns:List Int),(∀n∈ns,0<=n/\n<=M)->0<=ns.sum/\ns.sum<=ns.length*M
 | [],_=>by simp
 | n::r,h=>by
  have h1:=h n (by simp);have h2:=FT r λm hm=>h m (by simp [hm]);rw[nX,mU,Int.natCast_succ,Int.add_mul];omega
def rSumT(K:dD):List V->Hp->VK->Prop:=λxs H Q=>∃(a:Addr) (ns:List Int),xs=[.ref a]/\SqT K H a (ns.map V.int)/\(∀n∈ns,0<=n/\n<=2^40)/\ns.length<=1000/\Q (.int ns.sum) H
theorem HN(hc:X.calm=true):CallR X (.builtin "sum") (rSumT X.K):=by
 intro ac s σ H xs us Q I r h;obtain⟨a,ns,rfl,hq,hb,hn,q⟩:=h;obtain⟨u,rfl,ru⟩:=xC r;cases ru;obtain⟨its,rv,p,hz⟩:=I.tuple hq;have i1:IntsAre its ns:=vN rv;have hl:=vM i1;have ha:a<s.heap.objs.size:=by
  obtain⟨o,e,_⟩:=p;exact nZ e
 refine PySem.call_sum_walk (wpAny_pyIter_tuple (t:=a) (items:=its.toArray) p ?_);refine⟨s.heap.objs.size,_,_,_,_,_,λi=>ns.getD i 0,rfl,Walks.tuple (show X.A.in1.handled=none from I.ok.hd hc) s.heap.objs.size a (tE ha) its.toArray,⟨⟨_,gX _ rfl,rfl,rfl⟩,p.keeps λb o e=>gI _ e⟩, ?_, ?_, ?_, ?_⟩
 ·intro b hb;show b<(s.heap.push _).objs.size;rw[nP];simp only[nT,mS,or_false]at hb;rcases hb with rfl | rfl
  ·exact mX _
  ·exact Nat.lt_succ_of_lt ha
 ·intro i v hv;have hv':its[i]? = some v:=by simpa using hv
  obtain⟨hi,e⟩:=gC.mp hv';obtain⟨n,t,e1,e2⟩:=yO i1 hi;exact⟨t,by dsimp only;rw[<-e,e2,uY,e1];rfl⟩
 ·intro j hj;have hj':j<ns.length:=by rw[<-hl];simpa using hj
  have b1:=hb ns[j] (mV hj');have b2:=FT (ns.take (j+1)) λn hn'=>hb n (gW hn');have e1:ns.getD j 0=ns[j]:=by rw[uY,gE hj'];rfl
  have l1:(ns.take (j+1)).length<=1000:=by rw[mR];omega
  dsimp only;rw[wJ ns (j+1) hj',e1];unfold InLong;refine⟨⟨by omega,by omega⟩,⟨by omega, ?_⟩⟩;have:((ns.take (j+1)).length:Int)*2^40<=1000*2^40:=Int.mul_le_mul_of_nonneg_right (by omega) (by decide);omega
 ·intro h' tk t' k;have e:preSum (λi=>ns.getD i 0) its.toArray.size=ns.sum:=by
   rw[mI,hl,wJ ns _ uU,mT]
  rw[e];refine⟨.int ns.sum,H,I.kept (t':=tk) (λb o q=>?_),⟨t',rfl⟩,q⟩;exact k b o (by simp;exact tE (nZ q)) (gI _ q)
end
end Lw
namespace LwT
open PySem PySem.Spec PyProof.Rows L2 Lw
def qS(f:Int->Int->Bool)(g:Nat->Nat->Bool):List Int->List Int->Bool
 | x::xs,y::ys=>if x=y then qS f g xs ys else f x y
 | xs,ys=>g xs.length ys.length
abbrev HC:List Int->List Int->Bool:=qS (λi j=>decide (i<j)) (λm n=>decide (m<n))
abbrev lexNe:List Int->List Int->Bool:=qS (λ_ _=>true) (λm n=>m != n)
abbrev lexGe:List Int->List Int->Bool:=qS (λi j=>decide (j<=i)) (λm n=>decide (n<=m))
theorem xS{f g}{ys:List Int} :qS f g [] ys=g 0 ys.length:=by cases ys<;>rfl
theorem xM{f g}{xs:List Int} :qS f g xs []=g xs.length 0:=by cases xs<;>rfl
theorem XQ:∀(xs ys:List Int),lexGe xs ys = !HC xs ys
 | [],ys=>by
  show qS _ _ _ _ = !qS _ _ _ _;rw[xS,xS];cases ys<;>simp
 | x::xs,[]=>by
  show qS _ _ _ _ = !qS _ _ _ _;rw[xM,xM];simp
 | x::xs,y::ys=>by
  show(if x=y then lexGe xs ys else _) = !(if x=y then HC xs ys else _);by_cases h:x=y
  ·rw[dC h,dC h];exact XQ xs ys
  ·rw[dA h,dA h];by_cases h2:x<y
   ·simp [h2,show ¬y<=x by omega]
   ·simp [h2,show y<=x by omega]
theorem lexNe_eq:∀(xs ys:List Int),qS (λ_ _=>true) (λm n=>m != n) xs ys = !decide (xs=ys)
 | [],ys=>by
  rw[xS];cases ys<;>simp
 | x::xs,[]=>by
  rw[xM];simp
 | x::xs,y::ys=>by
  show(if x=y then qS _ _ xs ys else true)=_;by_cases h:x=y
  ·rw[dC h,lexNe_eq xs ys];simp [h]
  ·rw[dA h];simp [h]
theorem QK{f:Int->Int->Bool}{g:Nat->Nat->Bool}{xs ys:List Int}{i:Nat}(h:min xs.length ys.length<=i):qS f g (xs.drop i) (ys.drop i)=g (xs.length-i) (ys.length-i):=by
 by_cases hx:xs.length<=i
 ·rw[gK hx,xS,List.length_drop];rw[show xs.length-i=0 by omega]
 ·have hy:ys.length<=i:=by omega
  rw[gK hy,xM,List.length_drop];rw[show ys.length-i=0 by omega]
theorem wV{vs:List Value}{ns:List Int}(r:IntsAre vs ns){i:Nat}(h:i<vs.length):∃n t,vs[i]=.int n t/\ns.drop i=n::ns.drop (i+1):=by
 obtain⟨n,t,e1,e2⟩:=yO r h;refine⟨n,t,e2, ?_⟩;obtain⟨hi,e⟩:=gC.mp e1;rw[List.drop_eq_getElem_cons hi,e]
section
variable{l b:Addr}{as bs:List Value}{xs ys:List Int}{n n2:Nat}{dd dd2:Option Addr}{sl sl2:Array (Option Value)}
theorem tuple_lt(ra:IntsAre as xs)(rb:IntsAre bs ys) :
  Meets (Builtin.«tuple.__lt__» ⟨[.ref l,.ref b],[]⟩)
   (λ_ R s=>s.heap.get? l=some { cls:=.type "tuple",dict:=dd,data:=.seq as.toArray n,slots:=sl }/\s.heap.get? b=some { cls:=.type "tuple",dict:=dd2,data:=.seq bs.toArray n2,slots:=sl2 }/\
    R (.ok (.ret (.bool (HC xs ys)))) s):=
 .of_wp λprog w A R s h=>by
  obtain⟨hp,g,d,tk,os⟩:=s;obtain⟨hl,hb,h⟩:=h;have f2:=AutoSeq1.sub_tuple_tuple;have la:=vM ra;have lb:=vM rb;have hZ:(as.zip bs).length=min as.length bs.length:=by simp
  wp_walk using wpAny_loadPart' hl,wpAny_loadPart' hb,wpAny_forIn_list _ (λrest b s'=>b.1=none/\s'=⟨hp,g,d,tk,os⟩/\∃i,i<=(as.zip bs).length/\rest=(as.zip bs).drop i/\
   R (.ok (.ret (.bool (HC (xs.drop i) (ys.drop i))))) ⟨hp,g,d,tk,os⟩) _
  case turn=>
   rintro⟨y,x⟩ rest b s' ⟨hb',rfl,i,hi,hz,hR⟩;have hlt:i<(as.zip bs).length:=by
    rcases Nat.lt_or_ge i (as.zip bs).length with h' | h'
    ·exact h'
    ·rw[gK h']at hz;cases hz
   have h1:i<as.length:=by omega
   have h2:i<bs.length:=by omega
   rw[List.drop_eq_getElem_cons hlt]at hz;injection hz with hyx hrest
   obtain⟨p,t1,e1,d1⟩:=wV ra h1;obtain⟨q,t2,e2,d2⟩:=wV rb h2;have hy:y=.int p t1:=by have:=congrArg Prod.fst hyx;rw[<-e1];simpa using this
   have hx:x=.int q t2:=by have:=congrArg Prod.snd hyx;rw[<-e2];simpa using this
   subst hy hx;rw[d1,d2]at hR;have hR:R (.ok (.ret (.bool (if p=q then HC (xs.drop (i+1)) (ys.drop (i+1))else decide (p<q))))) ⟨hp,g,d,tk,os⟩:=hR;refine tX (SeqAt.EqAt.int_int _ _ _ _ prog w _ _ ?_);by_cases hpq:p=q
   ·rw[dC hpq]at hR;have e:(p==q)=true:=by simp [hpq]
    rw[e]
    wp_walk
    exact⟨rfl,rfl,i+1,hlt,hrest,hR⟩
   ·rw[dA hpq]at hR;have e:(p==q)=false:=by simp [hpq]
    rw[e];simp only[Bool.not_false,if_true];refine tX (wpAny_rule ?_);refine tX (lt_int (a:=p) (b:=q) ?_)
    wp_walk
    exact⟨_,rfl,hR⟩
  case fin=>
   rintro⟨b1,b2⟩ s' ⟨hb',rfl,i,hi,hz,hR⟩;simp only at hb';subst hb';have hge:min as.length bs.length<=i:=by
    rcases Nat.lt_or_ge i (as.zip bs).length with h' | h'
    ·rw[List.drop_eq_getElem_cons h']at hz;cases hz
    ·exact hZ▸h'
   have e:HC (xs.drop i) (ys.drop i)=decide (xs.length-i<ys.length-i):=QK (by rw[la,lb]at hge;exact hge);have e2:decide (xs.length-i<ys.length-i)=decide (as.length<bs.length):=by
    rw[hZ]at hi;by_cases q:as.length<bs.length
    ·rw[nH q,nH (by omega)]
    ·rw[nB q,nB (by omega)]
   rw[e,e2]at hR
   wp_walk
   exact⟨_,rfl,by simpa [Builtin.Tuple.tupleCompareSizes]using hR⟩
  case h=>
   exact⟨rfl,rfl,0,tQ _,rfl,by simpa using h⟩
theorem UT(ra:IntsAre as xs)(rb:IntsAre bs ys) :
  Meets (Builtin.«tuple.__ne__» ⟨[.ref l,.ref b],[]⟩)
   (λ_ R s=>s.heap.get? l=some { cls:=.type "tuple",dict:=dd,data:=.seq as.toArray n,slots:=sl }/\s.heap.get? b=some { cls:=.type "tuple",dict:=dd2,data:=.seq bs.toArray n2,slots:=sl2 }/\
    R (.ok (.ret (.bool (lexNe xs ys)))) s):=
 .of_wp λprog w A R s h=>by
  obtain⟨hp,g,d,tk,os⟩:=s;obtain⟨hl,hb,h⟩:=h;have f2:=AutoSeq1.sub_tuple_tuple;have la:=vM ra;have lb:=vM rb;have hZ:(as.zip bs).length=min as.length bs.length:=by simp
  wp_walk using wpAny_loadPart' hl,wpAny_loadPart' hb,wpAny_forIn_list _ (λrest b s'=>b.1=none/\s'=⟨hp,g,d,tk,os⟩/\∃i,i<=(as.zip bs).length/\rest=(as.zip bs).drop i/\
   R (.ok (.ret (.bool (lexNe (xs.drop i) (ys.drop i))))) ⟨hp,g,d,tk,os⟩) _
  case turn=>
   rintro⟨y,x⟩ rest b s' ⟨hb',rfl,i,hi,hz,hR⟩;have hlt:i<(as.zip bs).length:=by
    rcases Nat.lt_or_ge i (as.zip bs).length with h' | h'
    ·exact h'
    ·rw[gK h']at hz;cases hz
   have h1:i<as.length:=by omega
   have h2:i<bs.length:=by omega
   rw[List.drop_eq_getElem_cons hlt]at hz;injection hz with hyx hrest
   obtain⟨p,t1,e1,d1⟩:=wV ra h1;obtain⟨q,t2,e2,d2⟩:=wV rb h2;have hy:y=.int p t1:=by have:=congrArg Prod.fst hyx;rw[<-e1];simpa using this
   have hx:x=.int q t2:=by have:=congrArg Prod.snd hyx;rw[<-e2];simpa using this
   subst hy hx;rw[d1,d2]at hR;have hR:R (.ok (.ret (.bool (if p=q then lexNe (xs.drop (i+1)) (ys.drop (i+1))else true)))) ⟨hp,g,d,tk,os⟩:=hR;refine tX (SeqAt.EqAt.int_int _ _ _ _ prog w _ _ ?_);by_cases hpq:p=q
   ·rw[dC hpq]at hR;have e:(p==q)=true:=by simp [hpq]
    rw[e]
    wp_walk
    exact⟨rfl,rfl,i+1,hlt,hrest,hR⟩
   ·rw[dA hpq]at hR;have e:(p==q)=false:=by simp [hpq]
    rw[e]
    wp_walk
    exact⟨_,rfl,hR⟩
  case fin=>
   rintro⟨b1,b2⟩ s' ⟨hb',rfl,i,hi,hz,hR⟩;simp only at hb';subst hb';have hge:min as.length bs.length<=i:=by
    rcases Nat.lt_or_ge i (as.zip bs).length with h' | h'
    ·rw[List.drop_eq_getElem_cons h']at hz;cases hz
    ·exact hZ▸h'
   have e:lexNe (xs.drop i) (ys.drop i)=(xs.length-i != ys.length-i):=QK (by rw[la,lb]at hge;exact hge);have e2:(xs.length-i != ys.length-i)=(as.length != bs.length):=by
    rw[hZ]at hi;by_cases q:as.length=bs.length
    ·have q2:xs.length-i=ys.length-i:=by omega
     rw[bne,bne,q2,q,beq_self_eq_true,beq_self_eq_true]
    ·have q2:¬xs.length-i=ys.length-i:=by omega
     rw[bne,bne,beq_eq_false_iff_ne.mpr q2,beq_eq_false_iff_ne.mpr q]
   rw[e,e2]at hR
   wp_walk
   exact⟨_,rfl,by simpa [Builtin.Tuple.tupleCompareSizes]using hR⟩
  case h=>
   exact⟨rfl,rfl,0,tQ _,rfl,by simpa using h⟩
end
section
variable{X:Cx}
def rOrdT(K:dD)(f:List Int->List Int->Bool):R2:=λx y H Q=>∃(a b:Addr) (ns ms:List Int),x=.ref a/\y=.ref b/\SqT K H a (ns.map V.int)/\SqT K H b (ms.map V.int)/\Q (.bl (f ns ms)) H
theorem op_neT(hu:X.A.units<cLine):OpR X (compareOp .NotEq) (rOrdT X.K lexNe):=by
 intro ac s σ H x y v u Q I rx ry h;obtain⟨a,b,ns,ms,rfl,rfl,ha,hb,q⟩:=h;cases rx;cases ry;obtain⟨its,r1,p1,_⟩:=I.tuple ha;obtain⟨its2,r2,p2,_⟩:=I.tuple hb;obtain⟨⟨cls,dd,data,sl⟩,ho,hc,n,hd⟩:=id p1;obtain⟨⟨cls2,dd2,data2,sl2⟩,ho2,hc2,n2,hd2⟩:=id p2;simp only at hc hd hc2 hd2;subst hc hd hc2 hd2;exact richCompare_meets_room (op:=.NotEq) ⟨_,ho,rfl⟩ ⟨_,ho2,rfl⟩ PySem.F.slot_tuple_ne PySem.F.entry_tuple_ne (PySem.F.args_tuple_ne_2 _ _) (UT (vN r1) (vN r2)) ⟨ho,ho2,show Value.bool _≠Value.notImplemented/\_ from⟨(λz=>nomatch z),⟨.bl _,H,I,rfl,q⟩⟩⟩ hu
end
end LwT
namespace L2
open PySem PySem.Spec PyProof.Rows
section
variable{κ:Type} [DecidableEq κ]
def xU(ag:List (κ×V))(k:κ):Option V:=(ag.find? λkv=>decide (kv.1=k)).map (·.2)
def zF(ag:List (κ×V))(k:κ)(v:V):List (κ×V):=
 if (ag.any λkv=>decide (kv.1=k))=true then ag.map (λkv=>if kv.1=k then(kv.1,v)else kv)else ag++[(k,v)]
def BT(ag:List (κ×V))(k:κ):List (κ×V):=ag.filter λkv=>decide (kv.1≠k)
theorem DQ{p:κ×V}{r:List (κ×V)}{k:κ}(e:p.1=k):xU (p::r) k=some p.2:=by simp [xU,List.find?_cons,e]
theorem DU{p:κ×V}{r:List (κ×V)}{k:κ}(e:¬p.1=k):xU (p::r) k=xU r k:=by simp [xU,List.find?_cons,e]
theorem JZ(k:κ):∀ag:List (κ×V),(ag.any λkv=>decide (kv.1=k))=(xU ag k).isSome
 | []=>rfl
 | p::r=>by
  rw[List.any_cons];by_cases e:p.1=k
  ·simp only[DQ e,nH e,Bool.true_or,Option.isSome_some]
  ·rw[DU e,nB e,Bool.false_or];exact JZ k r
theorem BS(ag:List (κ×V))(k:κ)(v:V):(zF ag k v).length<=ag.length+1:=by
 unfold zF;split
 ·rw[mZ];omega
 ·rw[hU,mU,List.length_nil];omega
theorem RelO.isSome_eq{o:Option V}{u:Option Value}(r:RelO o u):o.isSome=u.isSome:=by
 cases o with
 | none=>cases u with
  | none=>rfl
  | some _=>exact(show False from r).elim
 | some _=>cases u with
  | none=>exact(show False from r).elim
  | some _=>rfl
theorem RelO.getD{o:Option V}{u:Option Value}{d:V}{d':Value}(r:RelO o u)(rd:RelV d d'):RelV (o.getD d) (u.getD d'):=by
 cases o with
 | none=>cases u with
  | none=>exact rd
  | some _=>exact(show False from r).elim
 | some _=>cases u with
  | none=>exact(show False from r).elim
  | some _=>exact r
theorem KV.val{ag:List (κ×V)}{vs:List (κ×Value)}(r:KV ag vs)(k:κ):RelO (xU ag k) (valueAt vs k):=by
 unfold KV at r;induction r with
 | nil=>exact True.intro
 | @cons p q ps qs h t ih=>
  obtain⟨h1,h2⟩:=h;by_cases e:p.1=k
  ·have e':q.1=k:=h1.symm.trans e;have b:valueAt (q::qs) k=some q.2:=by simp [valueAt,List.find?_cons,e']
   rw[DQ e,b];exact h2
  ·have e':¬q.1=k:=λz=>e (h1.trans z);have b:valueAt (q::qs) k=valueAt qs k:=by simp [valueAt,List.find?_cons,e']
   rw[DU e,b];exact ih
theorem KV.any{ag:List (κ×V)}{vs:List (κ×Value)}(r:KV ag vs)(k:κ):(ag.any λkv=>decide (kv.1=k))=vs.any λkv=>decide (kv.1=k):=by
 unfold KV at r;induction r with
 | nil=>rfl
 | cons h t ih=>rw[List.any_cons,List.any_cons,ih,h.1]
theorem KV.repl{ag:List (κ×V)}{vs:List (κ×Value)}(r:KV ag vs)(k:κ){y:V}{u:Value}(ry:RelV y u) :
  KV (ag.map λkv=>if kv.1=k then(kv.1,y)else kv) (vs.map λkv=>if kv.1=k then(kv.1,u)else kv):=by
 unfold KV at r ⊢;induction r with
 | nil=>exact .nil
 | @cons p q ps qs h t ih=>
  rw[nQ,nQ];refine .cons ?_ ih;obtain⟨h1,h2⟩:=h;by_cases e:p.1=k
  ·rw[dC e,dC (h1.symm.trans e)];exact⟨h1,ry⟩
  ·rw[dA e,dA (λz=>e (h1.trans z))];exact⟨h1,h2⟩
theorem KV.put{ag:List (κ×V)}{vs:List (κ×Value)}(r:KV ag vs)(k:κ){y:V}{u:Value}(ry:RelV y u):KV (zF ag k y) (stored vs k u):=by
 unfold zF stored;rw[r.any k];by_cases e:(vs.any λkv=>decide (kv.1=k))=true
 ·rw[dC e,dC e];exact r.repl k ry
 ·rw[dA e,dA e];exact Paired.snoc r ⟨rfl,ry⟩
theorem KV.length{ag:List (κ×V)}{vs:List (κ×Value)}(r:KV ag vs):ag.length=vs.length:=Paired.length r
theorem YM(ag:List (κ×V))(k:κ):(BT ag k).length<=ag.length:=List.length_filter_le _ _
end
theorem HE{P:Program}{w:World}{k:Key}{u:Value}(r:RelV (kV k) u):(qR P w).is k u=true:=by
 cases k with
 | inl i=>obtain⟨t,e⟩:=(show ∃t,u=Value.int i t from r);subst e;exact LF P w i t
 | inr x=>obtain⟨t,e⟩:=(show ∃t,u=Value.str x t from r);subst e;exact LE P w x t
theorem HF{P:Program}{w:World} :∀{ks:List Key} {us:List Value},Vals (ks.map kV) us->ItemsAre (qR P w) ks us
 | [],_,r=>by rw[List.map_nil]at r;cases r;exact .nil
 | k::ks,_,r=>by
  rw[nQ]at r;cases r with
  | cons h t=>exact .cons (HE h) (HF t)
abbrev KT(H:Hp):List (List Key×V)->List (List Key×Addr×Value)->Prop:=Paired λp q=>p.1=q.1/\H q.2.1=some (.tup (p.1.map kV))/\RelV p.2 q.2.2
theorem KT.val{H:Hp}{ag:List (List Key×V)}{xs:List (List Key×Addr×Value)}(r:KT H ag xs)(k:List Key):RelO (xU ag k) ((atKey xs k).map (·.2)):=by
 induction r with
 | nil=>exact True.intro
 | @cons p q ps qs h t ih=>
  obtain⟨h1,_,h2⟩:=h;by_cases e:p.1=k
  ·have e':q.1=k:=h1.symm.trans e;have b:atKey (q::qs) k=some q.2:=by simp [atKey,List.find?_cons,e']
   rw[DQ e,b];exact h2
  ·have e':¬q.1=k:=λz=>e (h1.trans z);have b:atKey (q::qs) k=atKey qs k:=by simp [atKey,List.find?_cons,e']
   rw[DU e,b];exact ih
theorem KT.repl{H:Hp}{ag:List (List Key×V)}{xs:List (List Key×Addr×Value)}(r:KT H ag xs)(k:List Key){y:V}{u:Value}(ry:RelV y u) :
  KT H (ag.map λkv=>if kv.1=k then(kv.1,y)else kv) (xs.map (putAt k u)):=by
 induction r with
 | nil=>exact .nil
 | @cons p q ps qs h t ih=>
  rw[nQ,nQ];refine .cons ?_ ih;obtain⟨h1,h2,h3⟩:=h;unfold putAt;by_cases e:p.1=k
  ·rw[dC e,dC (h1.symm.trans e)];exact⟨h1,h2,ry⟩
  ·rw[dA e,dA (λz=>e (h1.trans z))];exact⟨h1,h2,h3⟩
theorem KT.put{H:Hp}{ag:List (List Key×V)}{xs:List (List Key×Addr×Value)}(r:KT H ag xs)(k:List Key){b:Addr}{y:V}{u:Value}(hb:H b=some (.tup (k.map kV)))(ry:RelV y u) :
  KT H (zF ag k y) (storedH xs k b u):=by
 have e:(ag.any λkv=>decide (kv.1=k))=(atKey xs k).isSome:=by
  rw[JZ,(r.val k).isSome_eq,Option.isSome_map]
 unfold zF storedH;rw[e];by_cases q:(atKey xs k).isSome=true
 ·rw[dC q,dC q];exact r.repl k ry
 ·rw[dA q,dA q];exact Paired.snoc r ⟨rfl,hb,ry⟩
theorem KT.keeps{H H':Hp}{ag:List (List Key×V)}{xs:List (List Key×Addr×Value)}(r:KT H ag xs)(ht:∀b ys,H b=some (.tup ys)->H' b=some (.tup ys)):KT H' ag xs:=
 Paired.mapP r λ_ _ z=>⟨z.1,ht _ _ z.2.1,z.2.2⟩
section
variable{P:Program}{w:World}{H:Hp}{h:Heap}{a:Addr}
theorem rd_of{u:HO}(ok:HOk P w H h)(e:Rd H a u):ObjOk P w H h a u:=e.ok ok
theorem FC{ag:List (Key×V)}(ok:HOk P w H h)(e:Rd H a (.dK ag)):ag.length<=sizeLine/\(a==sysModules)=false/\∃vs,KV ag vs/\h.DictOf (qR P w) a vs:=
 show ObjOk P w H h a (.dK ag)from rd_of ok e
theorem dk_of{ag:List (Key×V)}(ok:HOk P w H h)(e:H a=some (.dK ag)):ag.length<=sizeLine/\(a==sysModules)=false/\∃vs,KV ag vs/\h.DictOf (qR P w) a vs:=FC ok (.inl e)
theorem wO{ks:List Key}(ok:HOk P w H h)(e:H a=some (.tup (ks.map kV))):(tupleKind (qR P w)).is h ks a:=by
 obtain⟨_,its,r,⟨o,h1,h2,n,h3⟩,_⟩:=(show ObjOk P w H h a (.tup (ks.map kV))from ok a _ e);exact⟨o,its.toArray,n,h1,h2,h3,by simpa using HF r⟩
theorem uC{ag:List (List Key×V)}(ok:HOk P w H h)(e:Rd H a (.dT ag)):ag.length<=sizeLine/\(a==sysModules)=false/\
  ∃xs,KT H ag xs/\h.DictOfH (tupleKind (qR P w)) a xs:=by
 obtain⟨z,y,xs,r,o,es,ep,h1,h2,h3,h4,h5⟩:=(show ObjOk P w H h a (.dT ag)from rd_of ok e);refine⟨z,y,xs,r,o,es,ep,h1,h2,h3,h4,λx hx=>?_,h5⟩;have all:∀{l:List (List Key×V)} {m:List (List Key×Addr×Value)},KT H l m->∀x∈m,(tupleKind (qR P w)).is h x.1 x.2.1:=by
  intro l m q;induction q with
  | nil=>intro x hx;exact nomatch hx
  | @cons p q ps qs hq t ih=>
   intro x hx;rcases nT.mp hx with e | hx
   ·subst e;exact wO ok (by rw[<-hq.1];exact hq.2.1)
   ·exact ih x hx
 exact all r x hx
theorem RC{ag:List (List Key×V)}(ok:HOk P w H h)(e:H a=some (.dT ag)):ag.length<=sizeLine/\(a==sysModules)=false/\
  ∃xs,KT H ag xs/\h.DictOfH (tupleKind (qR P w)) a xs:=uC ok (.inl e)
end
def DGet(H:Hp)(a:Addr)(y:V)(r:Option V):Prop:=
 (∃ag k,Rd H a (.dK ag)/\y=kV k/\r=xU ag k)∨∃ag k b,Rd H a (.dT ag)/\y=.ref b/\H b=some (.tup (k.map kV))/\r=xU ag k
def DPut(H:Hp)(a:Addr)(y v:V)(H':Hp):Prop:=
 (∃ag k,H a=some (.dK ag)/\y=kV k/\ag.length<sizeLine/\H'=upd H a (.dK (zF ag k v)))∨
 ∃ag k b,H a=some (.dT ag)/\y=.ref b/\H b=some (.tup (k.map kV))/\ag.length<sizeLine/\H'=upd H a (.dT (zF ag k v))
theorem DGet.t{H:Hp}{a b:Addr}{ag:List (List Key×V)}{k:List Key}(e:H a=some (.dT ag))(eb:H b=some (.tup (k.map kV))):DGet H a (.ref b) (xU ag k):=.inr ⟨ag,k,b,.inl e,rfl,eb,rfl⟩
theorem DPut.t{H:Hp}{a b:Addr}{ag:List (List Key×V)}{k:List Key}{v:V}(e:H a=some (.dT ag))(eb:H b=some (.tup (k.map kV)))(hl:ag.length<sizeLine) :
  DPut H a (.ref b) v (upd H a (.dT (zF ag k v))):=.inr ⟨ag,k,b,e,rfl,eb,hl,rfl⟩
section
variable{X:Cx}{ac:List (Addr×Obj)}{σ:St}{H:Hp}{s:Shared}{a:Addr}{y v:V}{u r:Value}{o:Option V}{A:Around}{E:Value->Shared->Prop}
theorem Inv.big(I:Inv X ac σ H s):sysModules<s.heap.objs.size:=by
 have h:mainGlobals<s.heap.objs.size:=(I.mod.glob.keeps I.bk).lt;exact Nat.lt_trans (by decide) h
theorem UA{Q:Value->Shared->Prop}(hu:A.units+1<cLine)(I:Inv X ac σ H s)(g:DGet H a y (some v))(ry:RelV y u)(h:∀w' s',Inv X ac σ H s'->RelV v w'->Q w' s') :
  wpAny (model X.prog X.w) A (getItem (.ref a) u) Q E s:=by
 rcases g with⟨ag,k,e,ey,l⟩ | ⟨ag,k,b,e,ey,eb,l⟩
 ·subst ey;obtain⟨z,hd,vs,rel,dd⟩:=FC I.hok e;obtain⟨w',hw,rw'⟩:=RelO.some_of (v:=v) (o:=valueAt vs k) (by rw[l];exact rel.val k);exact wpAny_getItem_of (HE ry) dd.mapOf hw (h w' _ (I.tok _) rw')
 ·subst ey;cases (show u=Value.ref b from ry);obtain⟨z,hd,xs,rel,dd⟩:=uC I.hok e;obtain⟨w',hw,rw'⟩:=RelO.some_of (v:=v) (o:=(atKey xs k).map (·.2)) (by rw[l];exact rel.val k);obtain⟨p,hp,hp2⟩:=Option.map_eq_some_iff.mp hw;refine wpAny_getItem_heap (tupleKind_room_in1 hu) (wO I.hok eb) dd hp ?_;rw[hp2];exact h w' _ (I.tok _) rw'
theorem d_in{Q:Value->Shared->Prop}(hu:A.units+1<cLine)(I:Inv X ac σ H s)(g:DGet H a y o)(ry:RelV y u)(h:∀s',Inv X ac σ H s'->Q (.bool o.isSome) s') :
  wpAny (model X.prog X.w) A (compareOp .In u (.ref a)) Q E s:=by
 rcases g with⟨ag,k,e,ey,l⟩ | ⟨ag,k,b,e,ey,eb,l⟩
 ·subst ey;obtain⟨z,hd,vs,rel,dd⟩:=FC I.hok e;refine wpAny_in_of (HE ry) hd dd.mapOf ?_;rw[<-(rel.val k).isSome_eq,<-l];exact h _ (I.tok _)
 ·subst ey;cases (show u=Value.ref b from ry);obtain⟨z,hd,xs,rel,dd⟩:=uC I.hok e;refine wpAny_in_heap (tupleKind_room_in1 hu) (wO I.hok eb) hd dd ?_;have q:=(rel.val k).isSome_eq;rw[Option.isSome_map]at q;rw[<-q,<-l];exact h _ (I.tok _)
theorem d_notIn{Q:Value->Shared->Prop}(hu:A.units+1<cLine)(I:Inv X ac σ H s)(g:DGet H a y o)(ry:RelV y u)(h:∀s',Inv X ac σ H s'->Q (.bool (!o.isSome)) s') :
  wpAny (model X.prog X.w) A (compareOp .NotIn u (.ref a)) Q E s:=by
 rcases g with⟨ag,k,e,ey,l⟩ | ⟨ag,k,b,e,ey,eb,l⟩
 ·subst ey;obtain⟨z,hd,vs,rel,dd⟩:=FC I.hok e;refine wpAny_notIn_of (HE ry) hd dd.mapOf ?_;rw[<-(rel.val k).isSome_eq,<-l];exact h _ (I.tok _)
 ·subst ey;cases (show u=Value.ref b from ry);obtain⟨z,hd,xs,rel,dd⟩:=uC I.hok e;refine wpAny_notIn_heap (tupleKind_room_in1 hu) (wO I.hok eb) hd dd ?_;have q:=(rel.val k).isSome_eq;rw[Option.isSome_map]at q;rw[<-q,<-l];exact h _ (I.tok _)
theorem CZ{h':Heap}{t':Nat}{ob:HO}(I:Inv X ac σ H s)(mu:Mut (H a))(hs:Heap.SameBut a s.heap h')(he:∃q,h'.get? a=some q)(new:ObjOk X.prog X.w (upd H a ob) h' a ob) :
  Inv X ac σ (upd H a ob) { s with heap:=h',toks:=t' } :=
 I.write (x:=a) (e:=a) mu (.inl rfl) (λb q hb z=>(hs.2 b hb).trans z) he new
theorem dk_new{P:Program}{w:World}{H':Hp}{h':Heap}{ag:List (Key×V)}{vs:List (Key×Value)}(z:ag.length<=sizeLine)(hd:(a==sysModules)=false)(rel:KV ag vs)(dd:h'.DictOf (qR P w) a vs) :
  ObjOk P w H' h' a (.dK ag):=⟨z,hd,vs,rel,dd⟩
theorem TZ{H':Hp}{Q:Unit->Shared->Prop}(hu:A.units+1<cLine)(I:Inv X ac σ H s)(g:DPut H a y v H')(ry:RelV y u)(rv:RelV v r)(h:∀s',Inv X ac σ H' s'->Q () s') :
  wpAny (model X.prog X.w) A (setItem (.ref a) u r) Q E s:=by
 rcases g with⟨ag,k,e,ey,l,eH⟩ | ⟨ag,k,b,e,ey,eb,l,eH⟩
 ·subst ey eH;obtain⟨z,hd,vs,rel,dd⟩:=dk_of I.hok e;have hz:vs.length<=sizeLine:=by rw[<-rel.length];exact z
  have hl:(zF ag k v).length<=sizeLine:=by have:=BS ag k v;omega
  refine wpAny_setItem_pairs (hsz:=hz) (HE ry) dd λh' dd' hs=>h _ ?_;have he:∃q,h'.get? a=some q:=let ⟨q,_,_,hq,_⟩:=dd';⟨q,hq⟩;exact CZ I (by rw[e];exact True.intro) hs he (dk_new hl hd (rel.put k rv) dd')
 ·subst ey eH;cases (show u=Value.ref b from ry);obtain⟨z,hd,xs,rel,dd⟩:=RC I.hok e;have hz:xs.length<=sizeLine:=by rw[<-Paired.length rel];exact z
  have hl:(zF ag k v).length<=sizeLine:=by have:=BS ag k v;omega
  refine wpAny_setItem_heap (hsz:=hz) (tupleKind_room_in1 hu) (wO I.hok eb) dd λh' dd' hs=>h _ ?_;obtain⟨q,es,ep,hq,h2,h3,h4,_,h5⟩:=dd';refine CZ I (by rw[e];exact True.intro) hs ⟨q,hq⟩ ⟨hl,hd,_,(rel.put k eb rv).keeps λc ys ec=>?_,q,es,ep,hq,h2,h3,h4,h5⟩;rw[jO (XC ec e (λz=>nomatch z))];exact ec
end
section
variable{X:Cx}{ac:List (Addr×Obj)}{σ:St}{H:Hp}{s:Shared}{a:Addr}{ag:List (Key×V)}{k:Key}{u:Value}{A:Around}{E:Value->Shared->Prop}
end
def NoSl(i:Expr):Prop:=∀ov iv,subscripted i false ov iv=operate [ov,iv] (getItem ov iv)
theorem ZR{prog:Program}{w:World}{A:Around}{E:Value->Shared->Prop}{s:Shared}{env:Env}{value slice:Expr}{pos:Pos}{T id:String}{Q:Value->Shared->Prop}
  (hl:typeLookup (.type T) "__getitem__" = pure (some (.builtin id))) (hs:NoSl slice)
  (h:wpAny (model prog w) A (eval value env) (λo s₁=>wpAny (model prog w) A (eval slice env) (λi s₂=>s₂.TypeIs o T/\wpAny (model prog w) A (getItem o i) Q E s₂) E s₁) E s) :
  wpAny (model prog w) A (eval (.Subscript value slice pos) env) Q E s:=by
 refine Subscript_ (tZ h (λo s₁ h₁=>tZ h₁ (λi s₂ h₂=>?_) λ_ _ x=>x) λ_ _ x=>x);obtain⟨hT,h₂⟩:=h₂;unfold subscriptTail;refine tX ?_;rw[getitemInPython_of_ne hT.not_modules];refine tX (wpAny_specialOf hT hl ?_);have fin:wpAny (model prog w) A (subscripted slice false o i) (λr s₃=>wpAny (model prog w) A (letTemporaryGo value o r >>= λ_=>pure r) Q E s₃) E s₂:=by
  rw[hs o i];exact wpAny_operating (tZ h₂ (λr s₃ h₃=>tX (wpAny_letTemporaryGo (tY h₃))) λ_ _ x=>x)
 first
  | exact tY (tX fin)
  | exact tX (tY (tX fin))
  | exact tX fin
theorem LX{X:Cx}{ac:List (Addr×Obj)}{σ:St}{H:Hp}{s:Shared}{a:Addr}{y:V}{o:Option V}(I:Inv X ac σ H s)(g:DGet H a y o):s.TypeIs (.ref a) "dict":=by
 rcases g with⟨ag,k,e,_,_⟩ | ⟨ag,k,b,e,_,_,_⟩
 ·obtain⟨_,_,vs,_,dd⟩:=FC I.hok e;exact dd.typeIs
 ·obtain⟨_,_,xs,_,dd⟩:=uC I.hok e;exact dd.typeIs
def tDGet(td ty:TE):TE:=fun σ H Q=>td σ H λx H1=>ty σ H1 λy H2=>∃a v,x=.ref a/\DGet H2 a y (some v)/\Q v H2
def tDIn(ty td:TE):TE:=fun σ H Q=>ty σ H λy H1=>td σ H1 λx H2=>∃a o,x=.ref a/\DGet H2 a y o/\Q (.bl o.isSome) H2
def ZP(ty td:TE):TE:=fun σ H Q=>ty σ H λy H1=>td σ H1 λx H2=>∃a o,x=.ref a/\DGet H2 a y o/\Q (.bl (!o.isSome)) H2
def sDPut(td ty tv:TE):TS:=λD σ H=>tv σ H λv H1=>td σ H1 λx H2=>ty σ H2 λy H3=>∃a H4,x=.ref a/\DPut H3 a y v H4/\D.nx σ H4
section
variable{X:Cx}{o i e value:Expr}{pos pos' tpos:Pos}{td ty tv:TE}
theorem yU(hu:X.A.units+1<cLine)(ho:PE X o td)(hi:PE X i ty)(hs:NoSl i):PE X (.Subscript o i pos) (tDGet td ty):=by
 intro ac s σ H Q I h;refine ZR PySem.F.slot_dict_getitem.lookup hs (thn (ho ac s σ H _ I h) λu s1 ⟨x,H1,I1,rx,q1⟩=>thn (hi ac s1 σ H1 _ I1 q1) λiv s2 ⟨y,H2,I2,ry,a,v,ex,g,q2⟩=>?_);subst ex;obtain rfl:u=Value.ref a:=rx;exact⟨LX I2 g,UA hu I2 g ry λw' s3 I3 rw'=>⟨v,H2,I3,rw',q2⟩⟩
theorem WH(hu:X.A.units+1<cLine)(hi:PE X i ty)(ho:PE X o td):PC X .In i o (tDIn ty td):=by
 intro ac s σ H Q I h;refine thn (hi ac s σ H _ I h) λiv s1 ⟨y,H1,I1,ry,q1⟩=>thn (ho ac s1 σ H1 _ I1 q1) λu s2 ⟨x,H2,I2,rx,a,ov,ex,g,q2⟩=>?_;subst ex;obtain rfl:u=Value.ref a:=rx;exact d_in hu I2 g ry λs3 I3=>⟨.bl ov.isSome,H2,I3,rfl,q2⟩
theorem SW(hu:X.A.units+1<cLine)(hi:PE X i ty)(ho:PE X o td):PC X .NotIn i o (ZP ty td):=by
 intro ac s σ H Q I h;refine thn (hi ac s σ H _ I h) λiv s1 ⟨y,H1,I1,ry,q1⟩=>thn (ho ac s1 σ H1 _ I1 q1) λu s2 ⟨x,H2,I2,rx,a,ov,ex,g,q2⟩=>?_;subst ex;obtain rfl:u=Value.ref a:=rx;exact d_notIn hu I2 g ry λs3 I3=>⟨.bl (!ov.isSome),H2,I3,rfl,q2⟩
theorem AE(hu:X.A.units+1<cLine)(ho:PE X o td)(hi:PE X i ty)(hv:PE X value tv)(hs:swapsWith value (some (.Subscript o i pos')) pos.line X.env=pure false) :
  PS X (.Assign [.Subscript o i pos'] value pos) (sDPut td ty tv):=by
 intro ac s σ H D I h;refine wpAny_Assign_Subscript (thn (hv ac s σ H _ I h) λr s1 ⟨v,H1,I1,rv,q1⟩=>thn (ho ac s1 σ H1 _ I1 q1) λu s2 ⟨x,H2,I2,rx,q2⟩=>thn (hi ac s2 σ H2 _ I2 q2) λiv s3 ⟨y,H3,I3,ry,a,H4,ex,g,q3⟩=>?_) hs;subst ex;obtain rfl:u=Value.ref a:=rx;exact TZ hu I3 g ry rv λs4 I4=>⟨σ,H4,I4,q3⟩
end
theorem LU{P:Program}{w:World}{H:Hp}(h:Heap)(hb:sysModules<h.objs.size):ObjOk P w H (h.push { cls:=.type "dict",data:=.dict #[] }) h.objs.size (.dT []):=
 ⟨tQ _,beq_eq_false_iff_ne.mpr (Ne.symm (tE hb)),[],.nil,_,#[],0,gX _ rfl,⟨rfl,rfl,rfl⟩,rfl,rfl,nN⟩
def tDNewT:TE:=λ_ H Q=>∀p,H p=none->Q (.ref p) (upd H p (.dT []))
section
variable{X:Cx}{pos:Pos}
theorem AH:PE X (.Dict [] [] pos) tDNewT:=λac s σ H Q I h=>
 wpAny_Dict_empty ⟨.ref s.heap.objs.size,_,I.laid (a:=s.heap.objs.size) (o:=.dT []) (t':=s.toks) (λ_ _ q=>gI _ q) uU (LU s.heap I.big),rfl,h _ (I.hok.fresh uU)⟩
end
structure M1(X:Cx)(o:Expr)(m:Str)(apos:Pos)(e:Expr)(cpos:Pos):Prop where
 base:attributeBase o m X.env (eval o X.env)=eval o X.env
 few:((backTo cpos (starEach [e] X.env)).all (λx=>!x.1)&&(backToKw cpos (keywordEach [] X.env)).all (λx=>x.1.isSome)
  &&decide (([e]:List Expr).length+([]:List Keyword).length+(if ([]:List Keyword).isEmpty then 0 else 1)<30))=true
 line:(apos.endLine==cpos.line)=true
 trees:backTo cpos (starEach [e] X.env)=[(false,eval e X.env)]
structure M2(X:Cx)(o:Expr)(m:Str)(apos:Pos)(e f:Expr)(cpos:Pos):Prop where
 base:attributeBase o m X.env (eval o X.env)=eval o X.env
 few:((backTo cpos (starEach [e,f] X.env)).all (λx=>!x.1)&&(backToKw cpos (keywordEach [] X.env)).all (λx=>x.1.isSome)
  &&decide (([e,f]:List Expr).length+([]:List Keyword).length+(if ([]:List Keyword).isEmpty then 0 else 1)<30))=true
 line:(apos.endLine==cpos.line)=true
 trees:backTo cpos (starEach [e,f] X.env)=[(false,eval e X.env),(false,eval f X.env)]
def IsD(H:Hp)(a:Addr):Prop:=(∃ag,Rd H a (.dK ag))∨∃ag,Rd H a (.dT ag)
theorem XV{X:Cx}{ac:List (Addr×Obj)}{σ:St}{H:Hp}{s:Shared}{a:Addr}(I:Inv X ac σ H s)(d:IsD H a) :
  s.TypeIs (.ref a) "dict"/\(∀b,Value.ref a=.ref b->∃ob,s.heap.get? b=some ob/\ob.dict=none)/\(a==sysModules)=false:=by
 rcases d with⟨ag,e⟩ | ⟨ag,e⟩
 ·obtain⟨_,hd,vs,_,dd⟩:=FC I.hok e;refine⟨dd.typeIs,λb q=>?_,hd⟩;cases q;obtain⟨ob,_,_,h1,h2,_⟩:=dd;exact⟨ob,h1,h2.2.1⟩
 ·obtain⟨_,hd,xs,_,dd⟩:=uC I.hok e;refine⟨dd.typeIs,λb q=>?_,hd⟩;cases q;obtain⟨ob,_,_,h1,h2,_⟩:=dd;exact⟨ob,h1,h2.2.1⟩
section
variable{X:Cx}{ac:List (Addr×Obj)}{σ:St}{H:Hp}{s:Shared}{a:Addr}{y d:V}{u r:Value}{o:Option V}{A:Around}{E:Value->Shared->Prop}
theorem d_get2{Q:Value->Shared->Prop}(hu:A.units+1<cLine)(I:Inv X ac σ H s)(g:DGet H a y o)(ry:RelV y u)(rd:RelV d r)(h:∀w' s',Inv X ac σ H s'->RelV (o.getD d) w'->Q w' s') :
  wpAny (model X.prog X.w) A (call (.builtin "dict.get") [.ref a,u,r]) Q E s:=by
 rcases g with⟨ag,k,e,ey,l⟩ | ⟨ag,k,b,e,ey,eb,l⟩
 ·subst ey;obtain⟨z,hd,vs,rel,dd⟩:=FC I.hok e;refine call_meetsIn PySem.F.slot_dict_get dd.typeIs PySem.F.entry_dict_get (PySem.F.args_dict_get_3 _ _ _) (meets_dict_get_default (qR X.prog X.w) a (HE ry) hd r) ⟨_,dd.mapOf,h _ _ (I.tok _) ?_⟩;rw[l];exact(rel.val k).getD rd
 ·subst ey;cases (show u=Value.ref b from ry);obtain⟨z,hd,xs,rel,dd⟩:=uC I.hok e;refine call_meetsIn PySem.F.slot_dict_get dd.typeIs PySem.F.entry_dict_get (PySem.F.args_dict_get_3 _ _ _) (meetsH_dict_get_default (tupleKind (qR X.prog X.w)) a b hd r) ⟨tupleKind_room_in1 hu,k,xs,wO I.hok eb,dd,h _ _ (I.tok _) ?_⟩;rw[l];exact(rel.val k).getD rd
end
def tDGet2(td ty tx:TE):TE:=fun σ H Q=>td σ H λx H1=>∃a,x=.ref a/\IsD H1 a/\ty σ H1 λy H2=>tx σ H2 λz H3=>∃o,DGet H3 a y o/\Q (o.getD z) H3
section
variable{X:Cx}{o e f:Expr}{apos cpos:Pos}{td ty tx:TE}
theorem EJ(hu:X.A.units+1<cLine)(ho:PE X o td)(he:PE X e ty)(hf:PE X f tx)(m:M2 X o "get" apos e f cpos):PE X (.Call (.Attribute o "get" apos) [e,f] [] cpos) (tDGet2 td ty tx):=by
 intro ac s σ H Q I h;refine wpAny_Call_method m.base m.few m.line PySem.F.plainAttrs_dict PySem.F.slot_dict_get PySem.F.type_dict_get (thn (ho ac s σ H _ I h) λu s1 ⟨x,H1,I1,rx,a,ex,d,q1⟩=>?_);subst ex;obtain rfl:u=Value.ref a:=rx;obtain⟨t1,t2,_⟩:=XV I1 d;refine⟨t1,t2, ?_⟩;rw[m.trees];refine Calls.callWith_builtin rfl (Calls.evalArgs_plain (Calls.spliced_cons (thn (he ac s1 σ H1 _ I1 q1) λiv s2 ⟨y,H2,I2,ry,q2⟩=>
  Calls.spliced_cons (thn (hf ac s2 σ H2 _ I2 q2) λfv s3 ⟨z,H3,I3,rz,ov,g,q3⟩=>Calls.spliced_nil ?_))))
 exact d_get2 hu I3 g ry rz λw' s4 I4 rw'=>⟨_,H3,I4,rw',q3⟩
end
section
variable{X:Cx}{ac:List (Addr×Obj)}{σ:St}{H:Hp}{s:Shared}{a:Addr}{ag:List (Key×V)}{A:Around}{E:Value->Shared->Prop}
end
section
variable{X:Cx}{ac:List (Addr×Obj)}{σ:St}{H:Hp}{s:Shared}{a:Addr}{y:V}{u:Value}{A:Around}{E:Value->Shared->Prop}
end
section
variable{X:Cx}
end
end L2
namespace L2
section
variable{κ:Type} [DecidableEq κ]
end
end L2
namespace LwD
open PySem PySem.Spec PyProof.Rows L2
theorem KTdrop{H:Hp}{ag:List (List Key×V)}{xs:List (List Key×Addr×Value)}(r:KT H ag xs)(k:List Key):KT H (BT ag k) (xs.filter λx=>decide (x.1≠k)):=by
 induction r with
 | nil=>exact .nil
 | @cons p q ps qs h t ih=>
  unfold BT at ih ⊢;rw[mY,mY];by_cases e:p.1=k
  ·rw[dA (by simp [e]),dA (by rw[h.1]at e;simp [e])];exact ih
  ·rw[dC (by simp [e]),dC (by rw[h.1]at e;simp [e])];exact .cons h ih
theorem HB{α β:Type}(f:α->β):∀(xs:List α) (j:Nat),(xs.map f).eraseIdx j=(xs.eraseIdx j).map f
 | [],_=>rfl
 | _::_,0=>rfl
 | x::r,j+1=>by rw[nQ,List.eraseIdx_cons_succ,List.eraseIdx_cons_succ,nQ,HB f r j]
theorem AK{K:Type} [DecidableEq K]{k:K} :∀{xs:List (K×Addr×Value)} {j:Nat} {p:Addr×Value},(xs.map (·.1)).Nodup->xs[j]? = some (k,p)->xs.eraseIdx j=xs.filter λx=>decide (x.1≠k)
 | [],_,_,_,e=>by simp at e
 | x::r,0,p,hn,e=>by
  simp only[List.getElem?_cons_zero,Option.some.injEq]at e;subst e;rw[nQ,List.nodup_cons]at hn;rw[List.eraseIdx_zero,List.tail_cons,mY,dA (by simp)]
  symm
  rw[List.filter_eq_self];intro y hy;have:y.1≠k:=λz=>hn.1 (tF.mpr ⟨y,hy,z⟩);simp [this]
 | x::r,j+1,p,hn,e=>by
  rw[nQ,List.nodup_cons]at hn;have e':r[j]? = some (k,p):=by simpa using e
  have hx:x.1≠k:=λz=>hn.1 (z▸tF.mpr ⟨(k,p),gQ e',rfl⟩);rw[List.eraseIdx_cons_succ,mY,dC (by simp [hx]),AK hn.2 e']
section
variable{prog:Program}{w:World}{K:Type} [DecidableEq K]{knd:HeapKind prog w K}{A:Around}{E:Value->Shared->Prop}{s:Shared}
theorem IC{d a:Addr}{xs:List (K×Addr×Value)}{k:K}{p:Addr×Value}{Q:Option DictEntry->Shared->Prop}(hu:knd.room A)(hkey:knd.is s.heap k a)(hm:s.heap.DictOfH knd d xs)(hz:xs.length<=sizeLine)(hp:atKey xs k=some p)
  (hs:∀h',h'.DictOfH knd d (xs.filter λx=>decide (x.1≠k))->Heap.SameBut d s.heap h'->Q (some (entryOfKey knd (k,p))) { s with heap:=h',toks:=s.toks+knd.draws k }) :
  wpAny (model prog w) A (Builtin.Dict.takeOut d (.ref a)) Q E s:=by
 obtain⟨o,es,ep,ho,hc,hd,he,his,hn⟩:=hm;have hes:es.size<=sizeLine:=by rw[size_of_entries he];exact hz
 unfold Builtin.Dict.takeOut;try with_reducible refine wpAny_holding ?_
 refine tX (knd.pyHash hu hkey (tX (wpAny_dictFind_heap (s:={ s with toks:=s.toks+knd.draws k }) hu hkey ho hd he his hn ?_ ?_)))
 ·intro hno;rw[atKey_none_of_get hno]at hp;cases hp
 ·intro j p' hj;rw[atKey_of_get hn hj]at hp;cases hp;refine tX (wpAny_dictEntries (s:={ s with toks:=s.toks+knd.draws k }) ho hd ?_);rw[entry_at he j,hj];refine tX (wpAny_updateDictKeys (hz:=hes) (s:={ s with toks:=s.toks+knd.draws k }) ho hd (tY (hs _ ⟨_,_,ep+1,Heap.get?_update_self _ ho (Obj.isFreed_of_dict (Obj.data_mapDictKeys hd _)),hc.mapDictKeys _,Obj.data_mapDictKeys hd _, ?_, ?_, ?_⟩ (Heap.SameBut.update ..))))
  ·rw[<-AK hn hj];obtain⟨l⟩:=es;simp only at he;subst he;show((List.map (entryOfKey knd) xs).toArray.eraseIdxIfInBounds j).toList=_;rw[List.eraseIdxIfInBounds_toArray];exact HB _ xs j
  ·intro x hx;exact knd.keeps (his x (List.mem_filter.mp hx).1) ho hd (Heap.SameBut.update ..)
  ·exact hn.sublist (List.filter_sublist.map _)
theorem NW{d a:Addr}{k:K} :
  MeetsIn prog w (Builtin.«dict.pop» ⟨[.ref d,.ref a],[]⟩) (λA R s=>∃xs p,knd.room A.in1/\knd.is s.heap k a/\s.heap.DictOfH knd d xs/\xs.length<=sizeLine/\atKey xs k=some p/\
   ∀h',h'.DictOfH knd d (xs.filter λx=>decide (x.1≠k))->Heap.SameBut d s.heap h'->R (.ok (.ret p.2)) { s with heap:=h',toks:=s.toks+knd.draws k }):=
 .of_wp λA R s ⟨xs,p,hu,hkey,hm,hz,hp,h⟩=>by
  unfold Builtin.«dict.pop»;refine tX ?_;unfold Builtin.Dict.keyAndDefault;refine tX (wpAny_notOrdered_dict hm.typeIs ?_);show wpAny _ _ (pure (d,Value.ref a,none)) _ _ s;refine tY ?_;obtain⟨o,es,ep,ho,hc,hd,he,his,hn⟩:=id hm;have ne:es.isEmpty=false:=by
   have e1:=size_of_entries he;have e2:xs≠[]:=λz=>by subst z;cases hp
   have e3:0<xs.length:=List.length_pos_iff.mpr e2;rw[Array.isEmpty_eq_false_iff_exists_mem];exact⟨es[0]'(by omega),Array.getElem_mem _⟩
  have go:wpAny (model prog w) A.in1 (Builtin.Dict.takeOut d (.ref a)) (λold s'=>old=some (entryOfKey knd (k,p))/\R (.ok (.ret p.2)) s') (λ_ _=>False) s:=
   IC hu hkey hm hz hp λh' hm' hs'=>⟨rfl,h h' hm' hs'⟩
  have kp:(keyPart (Value.ref a)).isSome=false:=rfl;simp only[kp,Bool.false_eq_true,if_false];refine tX (wpAny_dictEntries ho hd ?_);rw[ne];refine tX (tY ?_);simp only[Bool.false_eq_true,if_false];refine tX (tZ go (λold s' ⟨e1,hR⟩=>?_) λ_ _ z=>z.elim);subst e1;simp only[Option.isNone_some,Bool.false_eq_true,if_false];exact tX (wpAny_letGo (tY ⟨p.2,rfl,hR⟩))
end
section
variable{X:Cx}{ac:List (Addr×Obj)}{σ:L2.St}{H:Hp}{s:Shared}{a b:Addr}{ag:List (List Key×V)}{k:List Key}{E:Value->Shared->Prop}
theorem d_popT{v:V}{Q:Value->Shared->Prop}(hu:X.A.units+1<cLine)(I:Inv X ac σ H s)(e:H a=some (.dT ag))(eb:H b=some (.tup (k.map kV)))(l:xU ag k=some v)
  (h:∀w' s',Inv X ac σ (upd H a (.dT (BT ag k))) s'->RelV v w'->Q w' s'):wpAny (model X.prog X.w) X.A (call (.builtin "dict.pop") [.ref a,.ref b]) Q E s:=by
 obtain⟨z,hd,xs,rel,dd⟩:=RC I.hok e;have hz:xs.length<=sizeLine:=by rw[<-Paired.length rel];exact z
 have rv:=rel.val k;rw[l]at rv;cases hp:atKey xs k with
 | none=>rw[hp]at rv;exact rv.elim
 | some p=>
  rw[hp]at rv;refine call_meetsIn PySem.F.slot_dict_pop dd.typeIs PySem.F.entry_dict_pop (PySem.F.args_dict_pop_2 _ _) (NW (knd:=tupleKind (qR X.prog X.w)) (k:=k)) ⟨xs,p,tupleKind_room_in1 hu,wO I.hok eb,dd,hz,hp,λh' dd' hs=>h p.2 _ ?_ rv⟩;obtain⟨q,es,ep,hq,h2,h3,h4,_,h5⟩:=dd';have hl:(BT ag k).length<=sizeLine:=tD (YM ag k) z;refine CZ I (by rw[e];exact True.intro) hs ⟨q,hq⟩ ⟨hl,hd,_,(KTdrop rel k).keeps λc ys ec=>?_,q,es,ep,hq,h2,h3,h4,h5⟩;rw[jO (XC ec e (λz=>nomatch z))];exact ec
variable{o e:Expr}{td ty:TE}{apos cpos:Pos}
def tDPopT(td ty:TE):TE:=fun σ H Q=>td σ H λx H1=>∃a,x=.ref a/\IsD H1 a/\ty σ H1 λy H2=>∃ag k v b,H2 a=some (.dT ag)/\y=.ref b/\H2 b=some (.tup (k.map kV))/\xU ag k=some v/\Q v (upd H2 a (.dT (BT ag k)))
theorem WD(hu:X.A.units+1<cLine)(ho:PE X o td)(he:PE X e ty)(m:M1 X o "pop" apos e cpos):PE X (.Call (.Attribute o "pop" apos) [e] [] cpos) (tDPopT td ty):=by
 intro ac s σ H Q I h;refine wpAny_Call_method m.base m.few m.line PySem.F.plainAttrs_dict PySem.F.slot_dict_pop PySem.F.type_dict_pop (thn (ho ac s σ H _ I h) λu s1 ⟨x,H1,I1,rx,a,ex,d,q1⟩=>?_);subst ex;obtain rfl:u=Value.ref a:=rx;obtain⟨t1,t2,_⟩:=XV I1 d;refine⟨t1,t2, ?_⟩;rw[m.trees];refine Calls.callWith_builtin rfl (Calls.evalArgs_plain (Calls.spliced_cons (thn (he ac s1 σ H1 _ I1 q1) λiv s2 ⟨y,H2,I2,ry,ag,k,v,b,ea,ey,eb,l,q2⟩=>Calls.spliced_nil ?_)));subst ey;cases ry;exact d_popT hu I2 ea eb l λw' s3 I3 rw'=>⟨v,_,I3,rw',q2⟩
end
def Raw(h:Heap)(d:Addr)(es:Array DictEntry)(ep:Nat):Prop:=∃o,h.get? d=some o/\o.ExactDict/\o.data=.dict es ep
theorem Raw.lt{h:Heap}{d:Addr}{es:Array DictEntry}{ep:Nat}(r:Raw h d es ep):d<h.objs.size:=let ⟨_,e,_⟩:=r;nZ e
theorem Raw.keep{h h':Heap}{d:Addr}{es:Array DictEntry}{ep:Nat}(r:Raw h d es ep)(k:∀o,h.get? d=some o->h'.get? d=some o):Raw h' d es ep:=let ⟨o,e,x⟩:=r;⟨o,k o e,x⟩
theorem Raw.ty{s:Shared}{d:Addr}{es:Array DictEntry}{ep:Nat}(r:Raw s.heap d es ep):s.TypeIs (.ref d) "dict":=let ⟨o,e,c,_⟩:=r;⟨o,e,c.1⟩
section
variable{prog:Program}{w:World}{A:Around}{E:Value->Shared->Prop}{s:Shared}{d it:Addr}{es:Array DictEntry}{ep i:Nat}
theorem KN{Q:Value->Shared->Prop}(lo:(d==sysModules)=false)(r:Raw s.heap d es ep)
  (q:Q (.ref s.heap.objs.size) { s with heap:=s.heap.push { cls:=.type "dict_keyiterator",data:=.fields #[.ref d,.int 0 0,.int es.size 0,.int ep 0] } }):wpAny (model prog w) A (pyIter (.ref d)) Q E s:=by
 have ty:=r.ty;obtain⟨o,ho,hc,hdat⟩:=r;refine wpAny_pyIter_slot ty PySem.F.slot_dict_iter (wpAny_call_entry PySem.F.slot_dict_iter ty PySem.F.entry_dict_iter ?_ (PySem.F.args_dict_iter_1 _));unfold Builtin.«dict.__iter__»;refine tX (show wpAny _ _ (Builtin.Dict.dictSlotNone _ _) _ _ s from ?_);unfold Builtin.Dict.dictSlotNone;refine tX (wpAny_notOrdered_dict ty (show wpAny _ _ (pure (Value.ref d)) _ _ s from tY ?_));show wpAny _ _ (Builtin.Dict.showsAll d >>= _) _ _ s;unfold Builtin.Dict.showsAll;rw[dA (by rw[lo];exact hV)];refine tX (tY (tX (wpAny_dictEntries ho hdat (tX (wpAny_dictEpoch ho hdat ?_)))));refine tX (wpAny_newObj_type (tY ⟨_,rfl,"dict_keyiterator",_,⟨_,gX _ rfl,rfl⟩,PySem.F.slot_dict_keyiterator_next.lookup, ?_⟩));simpa [rawInt]using q
theorem KM{Q:Option Value->Shared->Prop}(k:s.heap.IsKeyIter it d i es.size ep)(r:Raw s.heap d es ep)(hi:i<es.size)
  (q:∀h',h'.IsKeyIter it d (i+1) es.size ep->Heap.SameBut it s.heap h'->Q (some es[i].key) { s with heap:=h' }):wpAny (model prog w) A (pyNext (.ref it)) Q E s:=by
 have ty:=k.typeIs;obtain⟨o,ho,hc,hd⟩:=id k;obtain⟨od,hod,hcd,hdd⟩:=id r;have own:Builtin.Dict_items.ownsTuple "dict_keyiterator" = false:=by decide
 unfold pyNext;refine tX (wpAny_attempt (wpAny_callSpecial?_slot (name:=Str.ofString "__next__") ty PySem.F.slot_dict_keyiterator_next (wpAny_call_entry PySem.F.slot_dict_keyiterator_next ty PySem.F.entry_dict_keyiterator_next ?_ (PySem.F.args_dict_keyiterator_next_1 _))));refine tX (tY (tX (tX ?_)));first | refine tX (wpAny_typeNameOfWhole_keyiter ty (tY (tX (wpAny_fieldsOf ho hd ?_)))) | refine tX (wpAny_typeNameOf_keyiter ty (tY (tX (wpAny_fieldsOf ho hd ?_))))
 simp only[own,Bool.false_eq_true,if_false];show wpAny _ _ (if (Value.ref d==Value.none)=true then _ else _) _ _ s;rw[dA (show ¬((Value.ref d==Value.none)=true)from hV)];refine tX (tY (tX (wpAny_dictEntries hod hdd ?_)));rw[dA (by simp)];refine tX (tY (tX (wpAny_dictEpoch hod hdd ?_)));rw[dA (by simp)];refine tY ?_;simp only[show ¬((i:Int)<0)from by omega,if_false,mP,Array.getElem?_eq_getElem hi];refine tX ?_;first | refine tX (wpAny_typeNameOfWhole_keyiter ty (tY (tX (wpAny_isOneOf_keyiter ty ?_)))) | refine tX (wpAny_typeNameOf_keyiter ty (tY (tX (wpAny_isOneOf_keyiter ty ?_))))
 show wpAny _ _ (setField (.ref it) 1 (rawInt ((i:Int)+1)) >>= _) _ _ s;have k':(s.heap.update it (Obj.mapFields (·.setIfInBounds 1 (rawInt ((i:Int)+1))))).IsKeyIter it d (i+1) es.size ep:=
  ⟨_,Heap.get?_update_self _ ho (Obj.isFreed_of_fields (Obj.data_mapFields hd _)),(Obj.cls_mapFields ..).trans hc,by rw[Obj.data_mapFields hd];simp [rawInt]⟩
 refine tX (wpAny_setField ho hd (by simp) (tX (wpAny_holding ?_)));refine tX (wpAny_isOneOf_keyiter (s:={ s with heap:=s.heap.update it (Obj.mapFields (·.setIfInBounds 1 (rawInt ((i:Int)+1)))) }) k'.typeIs ?_);show wpAny _ _ (pure es[i].key) _ _ _;exact tY (tY ⟨_,rfl,tY (q _ k' (Heap.SameBut.update ..))⟩)
theorem PM{Q:Option Value->Shared->Prop}(hh:A.handled=none)(k:s.heap.IsKeyIter it d es.size es.size ep)(r:Raw s.heap d es ep)(q:∀h',Heap.ExtBut it s.heap h'->Q none { s with heap:=h' }):wpAny (model prog w) A (pyNext (.ref it)) Q E s:=by
 have ty:=k.typeIs;obtain⟨o,ho,hc,hd⟩:=id k;obtain⟨od,hod,hcd,hdd⟩:=id r;have own:Builtin.Dict_items.ownsTuple "dict_keyiterator" = false:=by decide
 unfold pyNext;refine tX (wpAny_attempt (wpAny_callSpecial?_slot (name:=Str.ofString "__next__") ty PySem.F.slot_dict_keyiterator_next (wpAny_call_entry PySem.F.slot_dict_keyiterator_next ty PySem.F.entry_dict_keyiterator_next ?_ (PySem.F.args_dict_keyiterator_next_1 _))));refine tX (tY (tX (tX ?_)));first | refine tX (wpAny_typeNameOfWhole_keyiter ty (tY (tX (wpAny_fieldsOf ho hd ?_)))) | refine tX (wpAny_typeNameOf_keyiter ty (tY (tX (wpAny_fieldsOf ho hd ?_))))
 simp only[own,Bool.false_eq_true,if_false];show wpAny _ _ (if (Value.ref d==Value.none)=true then _ else _) _ _ s;rw[dA (show ¬((Value.ref d==Value.none)=true)from hV)];refine tX (tY (tX (wpAny_dictEntries hod hdd ?_)));rw[dA (by simp)];refine tX (tY (tX (wpAny_dictEpoch hod hdd ?_)));rw[dA (by simp)];refine tY ?_;simp only[show ¬((es.size:Int)<0)from by omega,if_false,mP,Array.getElem?_eq_none (tP es.size)];refine tX ?_;first | refine tX (wpAny_typeNameOfWhole_keyiter ty (tY ?_)) | refine tX (wpAny_typeNameOf_keyiter ty (tY ?_))
 show wpAny _ _ (setField (.ref it) 0 .none >>= _) _ _ s;refine tX (wpAny_setField ho hd (by simp) (show wpAny _ _ (newExc (.type "StopIteration") [] >>= _) _ _ _ from tX ?_));simp only[newExc,newTuple];refine tX (wpAny_newObj_type (tX (m:=firstArgMember _ _) (wpAny_of_eq (a:=Value.none) (by first | rfl | (simp only[firstArgMember];rfl)) (wpAny_newObj_type ?_ (by size_fits)))) (by size_fits));simp only[raiseNew];refine tX (wpAny_handled ?_);rw[show A.in1.handled=none from hh];refine tX (tY (wpAny_throw ?_));refine tX (wpAny_isInstance (b:=true) (T:="StopIteration") ⟨_,gX _ rfl,rfl⟩ isSubtype_stop ?_);exact tY (q _ (((Heap.SameBut.update ..).extBut.push _).push _))
theorem SJ(hh:A.handled=none)(hne:d≠it):Walks prog w A it [it,d] [it] es.size (λi v=>∃h:i<es.size,v=es[i].key) (λi h=>h.IsKeyIter it d i es.size ep/\Raw h d es ep) where
 sub:=λb hb=>by simp at hb;simp [hb]
 frame:=λ_ _ _ st hk=>⟨st.1.at λo e=>hk it (by simp) o e,st.2.keep λo e=>hk d (by simp) o e⟩
 item:=λi s Q E hi st hQ=>KM st.1 st.2 hi λh' k' hs'=>hQ _ h' s.toks ⟨hi,rfl⟩ ⟨k',st.2.keep λo e=>hs'.extBut d o hne e⟩ λb o hb e=>hs'.extBut b o (λh=>hb (by simp [h])) e
 done:=λs Q E st hQ=>PM hh st.1 st.2 λh' he'=>hQ h' s.toks λb o hb e=>he' b o (λh=>hb (by simp [h])) e
 self:=λ_ _ _ _ st hQ=>wpAny_pyIter_keyiter st.1 hQ
theorem ZY(lo:(d==sysModules)=false):PySem.W.KdlSrc prog w "dict" d d es.size (λi v=>∃h:i<es.size,v=es[i].key) (λh=>Raw h d es ep) where
 type:=λ_ hm=>hm.ty
 there:=λ_ hm=>⟨hm.lt,hm.lt⟩
 keep:=λ_ _ hm hk=>hm.keep λo e=>hk d (.inl rfl) o e
 notList:=by decide
 notTuple:=by decide
 hint:=λ_ _ _ _ hm hq=>PySem.W.kdl_hint_dict hm.ty hq
 iter:=λ_ _ hh hm=>⟨_,_,(λ_ _ hq=>KN lo hm hq),SJ hh (tE hm.lt),⟨⟨_,gX _ rfl,rfl,rfl⟩,hm.keep λo e=>gI _ e⟩⟩
end
end LwD
namespace LwD
open PySem PySem.W PySem.Spec PyProof.Rows
def Pm(n:Nat)(p:Array Nat):Prop:=p.toList.Perm (List.range n)
theorem Pm.size{n:Nat}{p:Array Nat}(h:Pm n p):p.size=n:=by have:=h.length_eq;simpa using this
theorem Pm.lt{n:Nat}{p:Array Nat}(h:Pm n p){i:Nat}(hn:0<n):p.getD i 0<n:=by
 by_cases hi:i<p.size
 ·have:p.getD i 0∈p.toList:=by simp [Array.getD,hi]
  exact nJ.mp (h.mem_iff.mp this)
 ·simp [Array.getD,hi,hn]
theorem Pm.rev{n:Nat}{p:Array Nat}(h:Pm n p)(i j:Nat):Pm n (kas_rev p i j):=(Array.perm_iff_toList_perm.mp (mirror_perm p i j _)).trans h
theorem Pm.bub{n:Nat}{p:Array Nat}(h:Pm n p)(i j:Nat):Pm n (bubble p i j):=(Array.perm_iff_toList_perm.mp (bubble_perm p i j)).trans h
section
variable{prog:Program}{w:World}{A:Around}{E:Value->Shared->Prop}{s:Shared}
end
end LwD
namespace LwD
open PySem PySem.Spec PyProof.Rows L2 Lw
theorem ns_uniq{h:Heap}{a:Addr}{m m':Str->Option Value}(x:h.Ns a m)(y:h.Ns a m'):m=m':=by
 obtain⟨o,es,ep,ho,hd,hk,hm⟩:=x;obtain⟨o',es',ep',ho',hd',hk',hm'⟩:=y;rw[ho]at ho';cases ho';rw[hd]at hd';cases hd'
 funext z
 rw[<-hm z,<-hm' z]
theorem WU{P:Program}{w:World}{H:Hp}{h:Heap}{a:Addr}{o:HO}(x:ObjOk P w H h a o):∃q,h.get? a=some q:=by
 cases o with
 | lst xs=>obtain⟨_,_,_,_,e⟩:=x;exact⟨_,e⟩
 | tup xs=>obtain⟨_,_,_,⟨q,e,_⟩,_⟩:=x;exact⟨_,e⟩
 | dK ag=>obtain⟨_,_,_,_,o,_,_,e,_⟩:=x;exact⟨_,e⟩
 | dT ag=>obtain⟨_,_,_,_,o,_,_,e,_⟩:=x;exact⟨_,e⟩
 | set S n=>obtain⟨o,_,_,_,e,_⟩:=x;exact⟨_,e⟩
 | ins C dx fs=>obtain⟨_,_,_,e,_⟩:=x;exact⟨_,e⟩
 | own y=>exact x
 | xd fs=>obtain⟨_,⟨_,_,_,e,_⟩,_⟩:=x;exact⟨_,e⟩
 | rng lo hi=>obtain⟨_,_,_,e⟩:=x;exact⟨_,e⟩
 | frz ob u=>exact⟨_,x.1⟩
 | tbl ps=>exact⟨_,x⟩
 | met f y=>exact⟨_,x⟩
 | ext φ=>exact x.2.1
section
variable{X:Cx}{ac:List (Addr×Obj)}{σ:L2.St}{H:Hp}{s:Shared}
theorem LC{D:Addr}{o:Obj}{ho:HO}{h3:Heap}{m:Str->Option Value}{tk:Nat}(I:Inv X ac σ H s)(F:Fr X.base X.env.locals s.heap m)(F3:Fr X.base X.env.locals h3 m)(N3:News X.base X.env.locals h3 ((D,o)::wA X.base s.heap X.env.locals))
  (lt:∀q∈wA X.base s.heap X.env.locals,q.1<D) (new:h3.get? D=some o->ObjOk X.prog X.w (upd H D ho) h3 D ho):H D=none/\Inv X ac σ (upd H D ho) { s with heap:=h3,toks:=tk } :=by
 have n1:=N3 (D,o) (mF ..);have dn:s.heap.get? D=none:=by
  cases q:s.heap.get? D with
  | none=>rfl
  | some u=>exact absurd (lt _ (wN n1.2.1 n1.2.2 q)) (nV _)
 have Hn:H D=none:=by
  cases q:H D with
  | none=>rfl
  | some u=>
   obtain⟨z,e⟩:=WU (I.hok D u q);rw[dn]at e;cases e
 have kp:∀b u,b≠X.env.locals->s.heap.get? b=some u->h3.get? b=some u:=λb u hb e=>by
  cases q:X.base.get? b with
  | some z=>
   have y:=I.bk b z q;rw[e]at y;cases y;exact F3.keep b _ q
  | none=>exact(N3 (b,u) (gR _ (wN hb q e))).1
 have ne:∀b u,s.heap.get? b=some u->b≠D:=λb u e z=>by rw[z,dn]at e;cases e
 have thr:∀b u,s.heap.get? b=some u->∃u',h3.get? b=some u':=λb u e=>by
  by_cases hb:b=X.env.locals
  ·obtain⟨u',_,_,e',_⟩:=F3.ns;exact⟨u',by rw[hb];exact e'⟩
  ·exact⟨u,kp b u hb e⟩
 refine⟨Hn,I.step (g':=s.gens) (d':=s.drawn) (ch:=[]) (λ_ z=>nomatch z) (λb u hb _ _ e _=>kp b u hb e) (λb u hb _ _ e _=>⟨u.slots,kp b u hb e⟩) (λb u _ e n=>?_) (λb u _ e=>thr b u e) (λb xs e=>?_) (λb u v e=>?_) (λb ps e=>?_) (λm' hm=>?_) (λb u e=>?_) I.bare⟩
 ·rw[jO (ne b u e)];exact n
 ·rw[jO (kM e Hn)];exact e
 ·rw[jO (kM e Hn)];exact e
 ·exact⟨#[],by rw[jO (kM e Hn),e];simp⟩
 ·rw[ns_uniq hm F.ns];exact F3.ns
 ·by_cases hb:b=D
  ·subst hb;rw[jE]at e;cases e;exact new n1.1
  ·rw[jO hb]at e;refine(I.hok b u e).stay (λc v hc q=>kp c v (λz=>?_) q) (λc q=>by rw[jO (kM q Hn)];exact q) λc xs q=>by rw[jO (kM q Hn)];exact q
   rcases hc with y | y
   ·rw[<-y,z,I.free]at e;cases e
   ·rw[z,I.free]at y;cases y
end
section
variable{prog:Program}{w:World}{A:Around}{E:Value->Shared->Prop}{s:Shared}
theorem ND{a:Addr}{vs:List Value}{n:Nat}{Q:Value->Shared->Prop}(ho:s.heap.get? a=some (seqObj "list" vs.toArray n))(h2:vs.length<2)(q:Q .none { s with heap:=sortedHeap s.heap a vs vs.toArray }):wpAny (model prog w) A (call (.builtin "list.sort") [.ref a]) Q E s:=by
 refine wpAny_call_entry slot_list_sort ⟨_,ho,rfl⟩ entry_list_sort ?_ (args_list_sort _);rw[list_sort_plain];have ha:a<s.heap.objs.size:=nZ ho;obtain⟨e1,ho1⟩:∃e1,(s.heap.update a (Obj.mapSeq λ_=>#[])).get? a=some (seqObj "list" #[] e1):=⟨_,get?_update_seq ho (λ_=>#[])⟩;have ho6:(((s.heap.update a (Obj.mapSeq λ_=>#[])).push (seqObj "tuple" vs.toArray 0)).push (seqObj "list" #[] 0)).get? a=some (seqObj "list" #[] e1):=gI _ (gI _ ho1);have hz:vs.toArray.size<2:=by simpa using h2
 refine tX (listItems_at ho rfl (tX (listUpdate_at ho rfl (tX (seqEpoch_at ho1 rfl (tX (wpAny_newTuple (tX (wpAny_newList (wpAny_holding ?_))))))))));show wpAny (model prog w) _ _ _ E { s with heap:=((s.heap.update a (Obj.mapSeq λ_=>#[])).push (seqObj "tuple" vs.toArray 0)).push (seqObj "list" #[] 0) };dsimp only;rw[dC hz,dC hz];refine tX (tY ?_);rw[StateT.run_pure];refine tX (tY ?_);dsimp only;have hm:(arrOf (SortSt.mk' general' (vs.toArray.zip vs.toArray) #[] 7 none)).map (·.2)=vs.toArray:=by
  show(vs.toArray.zip vs.toArray).map (·.2)=vs.toArray;apply Array.ext';simp [List.map_snd_zip]
 refine tX (seqEpoch_at ho6 rfl (tX (listUpdate_at ho6 rfl ?_ (hsz2:=by rw[hm,sizeLine_eq];omega))));rw[hm];simp only[bne_self_eq_false,Bool.false_eq_true,if_false];exact tY ⟨_,rfl,q⟩
end
abbrev ik(ns:List Int):List Key:=ns.map Sum.inl
theorem xB(ns:List Int):(ik ns).map kV=ns.map V.int:=by
 unfold ik;rw[tK]
 rfl
section
variable{X:Cx}
end
theorem KTgetI{H:Hp}{ag:List (List Key×V)}{xs:List (List Key×Addr×Value)}(r:KT H ag xs):∀{j:Nat} {q:List Key×Addr×Value},xs[j]? = some q->∃v,ag[j]? = some (q.1,v)/\H q.2.1=some (.tup (q.1.map kV)):=by
 induction r with
 | nil=>intro j q e;simp at e
 | @cons p q' ps qs h t ih=>
  intro j q e;cases j with
  | zero=>
   simp only[List.getElem?_cons_zero,Option.some.injEq]at e;subst e;exact⟨p.2,by rw[<-h.1];rfl,by rw[<-h.1];exact h.2.1⟩
  | succ j=>
   simp only[gH]at e ⊢;exact ih e
def Keyed(H:Hp)(ys:List V)(zs:List (List Key×V)):Prop:=ys.length=zs.length/\∀(i:Nat) (y:V) (p:List Key×V),ys[i]? = some y->zs[i]? = some p->∃(b:Addr) (ns:List Int),y=.ref b/\H b=some (.tup (ns.map V.int))/\p.1=ik ns
theorem EY{α:Type}(l:List α)(d:α):(List.range l.length).map (λi=>l.getD i d)=l:=by
 apply List.ext_getElem
 ·simp
 ·intro i h1 h2;simp at h1;simp [h1]
end LwD
namespace L2
open PySem PySem.Spec PyProof.Rows
section
variable{prog:Program}{w:World}{A:Around}{E:Value->Shared->Prop}{s:Shared}
theorem WY{it t:Addr}{k:Nat}{its:Array Value}{v:Value}{Q:Value->Shared->Prop}(st:s.heap.IsTupleIter it t k)(tu:s.heap.IsTuple t its)(hv:its[k]? = some v)
  (q:∀g,g.IsTupleIter it t (k+1)->Heap.SameBut it s.heap g->Q v { s with heap:=g }):wpAny (model prog w) A (Builtin.SmallTypes.nextOf (.ref it)) Q E s:=by
 obtain⟨oi,gi,ci,di⟩:=id st;obtain⟨ot,gt,_,nt,dt⟩:=tu;unfold Builtin.SmallTypes.nextOf;refine tX (wpAny_callSpecial?_slot (name:=Str.ofString "__next__") st.typeIs F.slot_tuple_iterator_next (wpAny_call_entry F.slot_tuple_iterator_next st.typeIs F.entry_tuple_iterator_next ?_ (F.args_tuple_iterator_next_1 _)));show wpAny _ _ (field (.ref it) 0 >>= _) _ _ _;refine tX (wpAny_field gi di (x:=.ref t) rfl ?_);show wpAny _ _ (if (Value.ref t==Value.none)=true then _ else _) _ _ _;rw[dA (show ¬(Value.ref t==Value.none)=true from hV)];show wpAny _ _ (field (.ref it) 1 >>= _) _ _ _;refine tX (wpAny_field gi di (x:=.int k 0) rfl ?_);show wpAny _ _ (seqItems? (.ref t) >>= _) _ _ _;refine tX (wpAny_seqItems gt dt ?_);simp only[mP,hv];refine tX (wpAny_setField gi di (by simp) (tY ⟨v,rfl,tY (q _ ⟨_,Heap.get?_update_self _ gi (Obj.isFreed_of_fields (Obj.data_mapFields di _)),(Obj.cls_mapFields ..).trans ci,by rw[Obj.data_mapFields di];simp [rawInt]⟩ (Heap.SameBut.update ..))⟩))
theorem GZ{it t:Addr}{k:Nat}{its:Array Value}{Q:Value->Shared->Prop}(hh:A.handled=none)(st:s.heap.IsTupleIter it t k)(tu:s.heap.IsTuple t its)(hv:its[k]? = none)
  (q:∀g e,Heap.ExtBut it s.heap g->(∃o,g.get? e=some o/\o.cls=.type "StopIteration")->E (.ref e) { s with heap:=g }):wpAny (model prog w) A (Builtin.SmallTypes.nextOf (.ref it)) Q E s:=by
 obtain⟨oi,gi,ci,di⟩:=id st;obtain⟨ot,gt,_,nt,dt⟩:=tu;unfold Builtin.SmallTypes.nextOf;refine tX (wpAny_callSpecial?_slot (name:=Str.ofString "__next__") st.typeIs F.slot_tuple_iterator_next (wpAny_call_entry F.slot_tuple_iterator_next st.typeIs F.entry_tuple_iterator_next ?_ (F.args_tuple_iterator_next_1 _)));show wpAny _ _ (field (.ref it) 0 >>= _) _ _ _;refine tX (wpAny_field gi di (x:=.ref t) rfl ?_);show wpAny _ _ (if (Value.ref t==Value.none)=true then _ else _) _ _ _;rw[dA (show ¬(Value.ref t==Value.none)=true from hV)];show wpAny _ _ (field (.ref it) 1 >>= _) _ _ _;refine tX (wpAny_field gi di (x:=.int k 0) rfl ?_);show wpAny _ _ (seqItems? (.ref t) >>= _) _ _ _;refine tX (wpAny_seqItems gt dt ?_);simp only[mP,hv];refine tX (wpAny_rule (tX (wpAny_setField gi di (by simp) ?_)));show wpAny _ _ (newExc (.type "StopIteration") [] >>= _) _ _ _;refine tX ?_;simp only[newExc,newTuple];refine tX (wpAny_newObj_type ?_ (by size_fits));refine tX (m:=firstArgMember _ _) (wpAny_of_eq (a:=Value.none) (by first | rfl | (simp only[firstArgMember];rfl)) ?_);refine wpAny_newObj_type ?_ (by size_fits);simp only[raiseNew];refine tX (wpAny_handled ?_);first | rw[show A.in1.handled=none from hh] | rw[hh]
 exact tX (tY (wpAny_throw (q _ _ (((Heap.SameBut.update ..).extBut.push _).push _) ⟨_,gX _ rfl,rfl⟩)))
structure ZT(z TI TO i1 i2 l1 l2:Addr)(k:Nat)(h:Heap):Prop where
 zz:IsZip h z TI TO .none
 ti:IsPair h TI (.ref i1) (.ref i2)
 to:∃a b,IsPair h TO a b
 one:h.IsTupleIter i1 l1 k
 two:h.IsTupleIter i2 l2 k
theorem IsTupleIter.as{h h':Heap}{a t:Addr}{k:Nat}(x:h.IsTupleIter a t k)(f:∀o,h.get? a=some o->h'.get? a=some o):h'.IsTupleIter a t k:=let ⟨o,ho,r⟩:=x;⟨o,f o ho,r⟩
variable{z TI TO i1 i2 l1 l2:Addr}{k:Nat}{xs ys:Array Value}
theorem RS{x y:Value}{Q:Option Value->Shared->Prop}(D:ZipApart z TI TO i1 i2 l1 l2)(Z:ZT z TI TO i1 i2 l1 l2 k s.heap)(t1:s.heap.IsTuple l1 xs)(t2:s.heap.IsTuple l2 ys)(hx:xs[k]? = some x)(hy:ys[k]? = some y)
  (q:∀g,IsZip g z TI TO (rawInt s.heap.objs.size)->IsPair g TO x y->g.IsTupleIter i1 l1 (k+1)->g.IsTupleIter i2 l2 (k+1)->IsPair g s.heap.objs.size x y->
   (∀c o,c∉[z,TO,i1,i2]->s.heap.get? c=some o->g.get? c=some o)->Q (some (.ref s.heap.objs.size)) { s with heap:=g }):wpAny (model prog w) A (pyNext (.ref z)) Q E s:=by
 obtain⟨hz,hti,⟨a,b,hto⟩,s1,s2⟩:=Z;have T:s.TypeIs (.ref z) "zip":=⟨_,hz,rfl⟩;unfold pyNext;refine tX (wpAny_attempt (wpAny_callSpecial?_slot (name:=Str.ofString "__next__") T F.slot_zip_next (wpAny_call_entry F.slot_zip_next T F.entry_zip_next ?_ (F.args_zip_next_1 _))));show wpAny _ _ (field (.ref z) 2 >>= _) _ _ _;refine tX (wpAny_field hz rfl (x:=.bool false) rfl ?_);show wpAny _ _ (field (.ref z) 3 >>= _) _ _ _;refine tX (wpAny_field hz rfl (x:=.ref TI) rfl (tX (wpAny_seqItems hti rfl ?_)));show wpAny _ _ (Builtin.SmallTypes.ownedTupleIsFree (.ref z) >>= _) _ _ _;refine tX ?_;unfold Builtin.SmallTypes.ownedTupleIsFree;refine tX (wpAny_field hz rfl (x:=.none) rfl (tY ?_));simp only[if_true];refine tX (wpAny_rule (tX (wpAny_field hz rfl (x:=.ref TO) rfl (tX (wpAny_setField_rec hz (by simp) λg1 z1 b1=>?_)))))
 replace z1:IsZip g1 z TI TO .ellipsis:=z1
 refine tX ?_;simp only[List.zipIdx_cons,List.zipIdx_nil,List.forIn_cons,List.forIn_nil];refine tX (tX (wpAny_onRaise ?_));show wpAny _ _ (Builtin.SmallTypes.nextOf (.ref i1) >>= _) _ _ _;refine tX (WY (s1.extBut b1.extBut D.i1z) (t1.extBut b1.extBut D.l1z) hx λg2 n2 b2=>tY ?_);have o2:IsPair g2 TO a b:=b2.extBut _ _ D.TOi1 (b1.extBut _ _ D.TOz hto);refine tX (wpAny_seqItems o2 rfl (tX (wpAny_updateSeq_pair o2 λg3 o3 b3=>?_)))
 replace o3:IsPair g3 TO x b:=o3
 refine tX (wpAny_letGo (tY (tX (tX (wpAny_onRaise ?_)))));show wpAny _ _ (Builtin.SmallTypes.nextOf (.ref i2) >>= _) _ _ _;refine tX (WY (((s2.extBut b1.extBut D.i2z).extBut b2.extBut D.i12.symm).extBut b3.extBut D.TOi2.symm) (((t2.extBut b1.extBut D.l2z).extBut b2.extBut D.l2i1).extBut b3.extBut D.l2TO) hy λg4 n4 b4=>tY ?_);have o4:IsPair g4 TO x b:=b4.extBut _ _ D.TOi2 o3;refine tX (wpAny_seqItems o4 rfl (tX (wpAny_updateSeq_pair o4 λg5 o5 b5=>?_)))
 replace o5:IsPair g5 TO x y:=o5
 refine tX (wpAny_letGo (tY (tY (tX (wpAny_seqItems o5 rfl (tX (wpAny_newTuple ?_)))))));have sz:g5.objs.size=s.heap.objs.size:=by rw[b5.1,b4.1,b3.1,b2.1,b1.1]
 have z5:IsZip g5 z TI TO .ellipsis:=b5.extBut _ _ D.TOz.symm (b4.extBut _ _ D.i2z.symm (b3.extBut _ _ D.TOz.symm (b2.extBut _ _ D.i1z.symm z1)));have k5:∀c o,c∉[z,TO,i1,i2]->s.heap.get? c=some o->g5.get? c=some o:=λc o hc e=>by
  simp only[nT,not_or]at hc;exact b5.extBut _ _ hc.2.1 (b4.extBut _ _ hc.2.2.2.1 (b3.extBut _ _ hc.2.1 (b2.extBut _ _ hc.2.2.1 (b1.extBut _ _ hc.1 e))))
 have n5:g5.IsTupleIter i1 l1 (k+1):=((n2.extBut b3.extBut D.TOi1.symm).extBut b4.extBut D.i12).extBut b5.extBut D.TOi1.symm;have m5:g5.IsTupleIter i2 l2 (k+1):=n4.extBut b5.extBut D.TOi2.symm;have zl:z<g5.objs.size:=nZ z5;show wpAny _ _ (Builtin.SmallTypes.ownedTupleHandOut (.ref z) (.ref g5.objs.size) >>= _) _ _ _;refine tX ?_;unfold Builtin.SmallTypes.ownedTupleHandOut;have z6:IsZip (g5.push { cls:=.type "tuple",data:=.seq #[x,y] }) z TI TO .ellipsis:=gI _ z5;refine tX (wpAny_setField_rec z6 (by simp) λg7 z7 b7=>?_)
 replace z7:IsZip g7 z TI TO (rawInt g5.objs.size):=z7
 refine wpAny_setField_rec z7 (by simp) λg8 z8 b8=>?_
 replace z8:IsZip g8 z TI TO (rawInt g5.objs.size):=z8
 have up:∀c o,c≠z->g5.get? c=some o->g8.get? c=some o:=λc o cz e=>b8.extBut _ _ cz (b7.extBut _ _ cz (gI _ e));have nu:IsPair g8 g5.objs.size x y:=b8.extBut _ _ (Nat.ne_of_gt zl) (b7.extBut _ _ (Nat.ne_of_gt zl) (gX _ rfl));rw[sz]at z8 nu;refine tY ⟨_,rfl,tY ?_⟩;show Q (some (.ref g5.objs.size)) _;rw[sz];exact q g8 z8 (up _ _ D.TOz o5) (IsTupleIter.as n5 λo e=>up _ o D.i1z e) (IsTupleIter.as m5 λo e=>up _ o D.i2z e) nu λc o hc e=>up c o (λh=>hc (by simp [h])) (k5 c o hc e)
theorem UN{Q:Option Value->Shared->Prop}(hh:A.handled=none)(D:ZipApart z TI TO i1 i2 l1 l2)(Z:ZT z TI TO i1 i2 l1 l2 k s.heap)(t1:s.heap.IsTuple l1 xs)(t2:s.heap.IsTuple l2 ys)(he:xs[k]? = none∨ys[k]? = none)
  (q:∀g,(∀c o,c∉[z,TO,i1,i2]->s.heap.get? c=some o->g.get? c=some o)->Q none { s with heap:=g }):wpAny (model prog w) A (pyNext (.ref z)) Q E s:=by
 obtain⟨hz,hti,⟨a,b,hto⟩,s1,s2⟩:=Z;have T:s.TypeIs (.ref z) "zip":=⟨_,hz,rfl⟩;unfold pyNext;refine tX (wpAny_attempt (wpAny_callSpecial?_slot (name:=Str.ofString "__next__") T F.slot_zip_next (wpAny_call_entry F.slot_zip_next T F.entry_zip_next ?_ (F.args_zip_next_1 _))));have fin:∀g (e:Addr),(∀c o,c∉[z,TO,i1,i2]->s.heap.get? c=some o->g.get? c=some o)->(∃o,g.get? e=some o/\o.cls=.type "StopIteration")->
   wpAny (model prog w) A (do if (<-isInstance (.ref e) (.type "StopIteration"))then pure none else throw (.ref e)) Q E { s with heap:=g } :=λg e hk ⟨o,ho,hc⟩=>
  tX (wpAny_isInstance (T:="StopIteration") (b:=true) ⟨o,ho,hc⟩ isSubtype_stop (tY (q _ hk)))
 show wpAny _ _ (field (.ref z) 2 >>= _) _ _ _;refine tX (wpAny_field hz rfl (x:=.bool false) rfl ?_);show wpAny _ _ (field (.ref z) 3 >>= _) _ _ _;refine tX (wpAny_field hz rfl (x:=.ref TI) rfl (tX (wpAny_seqItems hti rfl ?_)));show wpAny _ _ (Builtin.SmallTypes.ownedTupleIsFree (.ref z) >>= _) _ _ _;refine tX ?_;unfold Builtin.SmallTypes.ownedTupleIsFree;refine tX (wpAny_field hz rfl (x:=.none) rfl (tY ?_));simp only[if_true];refine tX (wpAny_rule (tX (wpAny_field hz rfl (x:=.ref TO) rfl (tX (wpAny_setField_rec hz (by simp) λg1 z1 b1=>?_)))))
 replace z1:IsZip g1 z TI TO .ellipsis:=z1
 refine tX ?_;simp only[List.zipIdx_cons,List.zipIdx_nil,List.forIn_cons,List.forIn_nil];refine tX (tX (wpAny_onRaise ?_));show wpAny _ _ (Builtin.SmallTypes.nextOf (.ref i1) >>= _) _ _ _;cases hx:xs[k]? with
 | none=>
  refine tX (GZ hh (s1.extBut b1.extBut D.i1z) (t1.extBut b1.extBut D.l1z) hx λg2 e b2 ⟨oe,he,ce⟩=>?_);have z2:IsZip g2 z TI TO .ellipsis:=b2 _ _ D.i1z.symm z1;have ez:e≠z:=λh=>by subst h;rw[z2]at he;cases he;simp at ce
  refine wpAny_setField_rec z2 (by simp) λg3 _ b3=>fin g3 e (λc o hc h=>?_) ⟨oe,b3.extBut _ _ ez he,ce⟩;simp only[nT,not_or]at hc;exact b3.extBut _ _ hc.1 (b2 _ _ hc.2.2.1 (b1.extBut _ _ hc.1 h))
 | some x=>
  have hy:ys[k]? = none:=he.resolve_left (by rw[hx];simp);refine tX (WY (s1.extBut b1.extBut D.i1z) (t1.extBut b1.extBut D.l1z) hx λg2 n2 b2=>tY ?_);have o2:IsPair g2 TO a b:=b2.extBut _ _ D.TOi1 (b1.extBut _ _ D.TOz hto);refine tX (wpAny_seqItems o2 rfl (tX (wpAny_updateSeq_pair o2 λg3 o3 b3=>?_)));refine tX (wpAny_letGo (tY (tX (tX (wpAny_onRaise ?_)))));show wpAny _ _ (Builtin.SmallTypes.nextOf (.ref i2) >>= _) _ _ _;refine tX (GZ hh (((s2.extBut b1.extBut D.i2z).extBut b2.extBut D.i12.symm).extBut b3.extBut D.TOi2.symm) (((t2.extBut b1.extBut D.l2z).extBut b2.extBut D.l2i1).extBut b3.extBut D.l2TO) hy λg4 e b4 ⟨oe,he,ce⟩=>?_);have z4:IsZip g4 z TI TO .ellipsis:=b4 _ _ D.i2z.symm (b3.extBut _ _ D.TOz.symm (b2.extBut _ _ D.i1z.symm z1));have ez:e≠z:=λh=>by subst h;rw[z4]at he;cases he;simp at ce
  refine wpAny_setField_rec z4 (by simp) λg5 _ b5=>fin g5 e (λc o hc h=>?_) ⟨oe,b5.extBut _ _ ez he,ce⟩;simp only[nT,not_or]at hc;exact b5.extBut _ _ hc.1 (b4 _ _ hc.2.2.2.1 (b3.extBut _ _ hc.2.1 (b2.extBut _ _ hc.2.2.1 (b1.extBut _ _ hc.1 h))))
theorem NV(a b:Addr)(xs ys:Array Value) :
  Meets (Builtin.«zip.__new__» ⟨[.type "zip",.ref a,.ref b],[]⟩) (λ_ R s=>s.heap.IsTuple a xs/\s.heap.IsTuple b ys/\
   ∀g,(∀c o,s.heap.get? c=some o->g.get? c=some o)->ZT (s.heap.objs.size+4) (s.heap.objs.size+2) (s.heap.objs.size+3) s.heap.objs.size (s.heap.objs.size+1) a b 0 g->R (.ok (.ret (.ref (s.heap.objs.size+4)))) { s with heap:=g }):=
 .of_wp λprog w A R s h=>by
  obtain⟨hp,gs,d,tk,os⟩:=s;obtain⟨t1,t2,h⟩:=h;have hsub:=sub_zip;have T1:Heap.IsTuple (Shared.heap ⟨hp,gs,d,tk,os⟩) a xs:=t1;have T2:Heap.IsTuple (Shared.heap ⟨hp.push { cls:=.type "tuple_iterator",data:=.fields #[.ref a,.int 0 0] },gs,d,tk,os⟩) b ys:=Heap.IsTuple.push t2 _
  wp_walk using wpAny_pyIter_tuple T1,wpAny_pyIter_tuple T2
  have e1:=λo=>nP hp (o:=o);refine⟨_,rfl, ?_⟩;simp only[nP]at h ⊢;refine h _ (λc o e=>gI _ (gI _ (gI _ (gI _ (gI _ e))))) ⟨?_, ?_, ?_, ?_, ?_⟩
  ·have e:=gX (((((hp.push { cls:=.type "tuple_iterator",data:=.fields #[.ref a,.int 0 0] }).push { cls:=.type "tuple_iterator",data:=.fields #[.ref b,.int 0 0] }).push { cls:=.type "tuple",data:=.seq #[.ref hp.objs.size,.ref (hp.objs.size+1)] })).push { cls:=.type "tuple",data:=.seq #[.none,.none] }) (o:={ cls:=.type "zip",data:=.fields #[.none,.bool false,.bool false,.ref (hp.objs.size+2),.ref (hp.objs.size+3)] }) rfl;simp only[nP]at e;exact e
  ·have e:=gX ((hp.push { cls:=.type "tuple_iterator",data:=.fields #[.ref a,.int 0 0] }).push { cls:=.type "tuple_iterator",data:=.fields #[.ref b,.int 0 0] }) (o:={ cls:=.type "tuple",data:=.seq #[.ref hp.objs.size,.ref (hp.objs.size+1)] }) rfl;simp only[nP]at e;exact gI _ (gI _ e)
  ·have e:=gX ((((hp.push { cls:=.type "tuple_iterator",data:=.fields #[.ref a,.int 0 0] }).push { cls:=.type "tuple_iterator",data:=.fields #[.ref b,.int 0 0] }).push { cls:=.type "tuple",data:=.seq #[.ref hp.objs.size,.ref (hp.objs.size+1)] })) (o:={ cls:=.type "tuple",data:=.seq #[.none,.none] }) rfl;simp only[nP]at e;exact⟨_,_,gI _ e⟩
  ·have e:=gX hp (o:={ cls:=.type "tuple_iterator",data:=.fields #[.ref a,.int 0 0] }) rfl;exact⟨_,gI _ (gI _ (gI _ (gI _ e))),rfl,rfl⟩
  ·have e:=gX (hp.push { cls:=.type "tuple_iterator",data:=.fields #[.ref a,.int 0 0] }) (o:={ cls:=.type "tuple_iterator",data:=.fields #[.ref b,.int 0 0] }) rfl;simp only[nP]at e;exact⟨_,gI _ (gI _ (gI _ e)),rfl,rfl⟩
theorem UG{a b:Addr}{xs ys:Array Value}{Q:Value->Shared->Prop}(t1:s.heap.IsTuple a xs)(t2:s.heap.IsTuple b ys)
  (q:∀g,(∀c o,s.heap.get? c=some o->g.get? c=some o)->ZT (s.heap.objs.size+4) (s.heap.objs.size+2) (s.heap.objs.size+3) s.heap.objs.size (s.heap.objs.size+1) a b 0 g->Q (.ref (s.heap.objs.size+4)) { s with heap:=g }) :
  wpAny (model prog w) A (call (.type "zip") [.ref a,.ref b]) Q E s:=
 callType_new F.called_zip (by decide) (F.typeCall_zip_2 _ _) (F.newCall_zip_2 _ _) (λobj=>F.args_object_init_3 obj _ _) F.entry_zip_new (NV a b xs ys) ⟨t1,t2,λg k Z=>⟨⟨_,Z.zz,rfl⟩,q g k Z⟩⟩
end
section
variable{X:Cx}{ac:List (Addr×Obj)}{σ:St}{H:Hp}{s:Shared}{h':Heap}
theorem Inv.turnedL{t':Nat}{fp:List Addr}(I:Inv X ac σ H s)(hf:∀b∈fp,FpOk X ac H b)(k:∀b o,b∉fp->s.heap.get? b=some o->h'.get? b=some o):Inv X ac σ H { s with heap:=h',toks:=t' } :=by
 have nit:∀b u,H b=some u->b∉fp:=λb u e z=>by rw[(hf b z).1]at e;cases e
 refine I.step (g':=s.gens) (d':=s.drawn) (ch:=fp) (λb hb=>⟨(hf b hb).2.2.2.1,(hf b hb).2.1,(hf b hb).2.2.2.2.1,(hf b hb).2.2.2.2.2⟩) (λb o _ _ hc e _=>k b o hc e) (λb o _ _ hc e _=>⟨o.slots,k b o hc e⟩) (λ_ _ _ _ n=>n)
  (λb o hc e=>⟨o,k b o hc e⟩) (λ_ _ e=>e) (λ_ _ _ e=>e) (λb ps e=>⟨#[],by rw[e];simp⟩) (λm ⟨o,es,ep,ho,r⟩=>⟨o,es,ep,k _ o (λz=>(hf _ z).2.1 rfl) ho,r⟩) (λb u e=>?_) I.bare
 refine(I.hok b u e).stay (λc v hc q=>k c v ?_ q) (λ_ q=>q) λ_ _ q=>q;rcases hc with z | z
 ·rw[z];exact nit b u e
 ·exact nit c _ z
theorem FpOk.apart{a b:Addr}{xs:List V}(I:Inv X ac σ H s)(f:FpOk X ac H b)(h:SqT X.K H a xs):a≠b:=by
 rintro rfl;rcases h with(h | ⟨o,h⟩) | ⟨o,its,n,hk,hc,hs,hz,r⟩
 ·rw[f.1]at h;cases h
 ·rw[f.1]at h;cases h
 ·have hb:X.base.get? a=some o:=I.ok.mod.kin a o hk;rcases f.2.2.2.1 with z | z
  ·exact I.ok.noex a o hb z
  ·exact absurd (mB (nZ hb) (tD I.ok.bsz z)) (nV _)
end
def Itz(K:dD)(a b:Addr):It:=
 ⟨λi H=>∃xs ys x y,SqT K H a xs/\SqT K H b ys/\xs[i]? = some x/\ys[i]? = some y,
  λi H v H'=>∃p x y,H p=none/\v=.ref p/\H'=upd H p (.tup [x,y])/\(∀xs,SqT K H a xs->xs[i]? = some x)/\(∀ys,SqT K H b ys->ys[i]? = some y),
  λi H=>∃xs ys,SqT K H a xs/\SqT K H b ys/\(xs.length<=i∨ys.length<=i)⟩
structure Five(z TI TO i1 i2:Addr):Prop where
 nd:[z,TI,TO,i1,i2].Nodup
theorem Five.of{z TI TO i1 i2 l1 l2:Addr}(F:Five z TI TO i1 i2)(h1:∀b∈[z,TI,TO,i1,i2],l1≠b)(h2:∀b∈[z,TI,TO,i1,i2],l2≠b):ZipApart z TI TO i1 i2 l1 l2:=by
 have nd:=F.nd;simp only[List.nodup_cons,nT,not_or,mS]at nd;obtain⟨⟨a1,a2,a3,a4,_⟩,⟨b1,b2,b3,_⟩,⟨c1,c2,_⟩,⟨d1,_⟩,_⟩:=nd;exact⟨Ne.symm a1,Ne.symm a2,Ne.symm a3,Ne.symm a4,b1,b2,b3,c1,c2,d1,h1 _ (by simp),h1 _ (by simp),h1 _ (by simp),h1 _ (by simp),h2 _ (by simp),h2 _ (by simp),h2 _ (by simp),h2 _ (by simp)⟩
theorem RU{P:Program}{w:World}{K:dD}{es:List Expr}{x1}{pos:Pos}(l1 l2:Addr){z TI TO i1 i2:Addr}(F:Five z TI TO i1 i2):Turn P w K (.Tuple es x1 pos) (Itz K l1 l2) [z,TI,TO,i1,i2] z (λi h=>ZT z TI TO i1 i2 l1 l2 i h) where
 mem:=by simp
 obj:=λi h Z b hb=>by
  simp only[nT,mS,or_false]at hb;obtain⟨hz,hti,⟨a,c,hto⟩,⟨o1,g1,c1,d1⟩,⟨o2,g2,c2,d2⟩⟩:=Z;rcases hb with rfl | rfl | rfl | rfl | rfl
  ·exact⟨_,hz,λv q=>by cases (show Data.fields _=Data.cell v from q)⟩
  ·exact⟨_,hti,λv q=>by cases (show Data.seq _ _=Data.cell v from q)⟩
  ·exact⟨_,hto,λv q=>by cases (show Data.seq _ _=Data.cell v from q)⟩
  ·exact⟨_,g1,λv q=>by rw[d1]at q;cases q⟩
  ·exact⟨_,g2,λv q=>by rw[d2]at q;cases q⟩
 keep:=λi h h' Z k=>by
  obtain⟨hz,hti,⟨a,c,hto⟩,s1,s2⟩:=Z;exact⟨k z (by simp) _ hz,k TI (by simp) _ hti,⟨a,c,k TO (by simp) _ hto⟩,IsTupleIter.as s1 λo e=>k i1 (by simp) o e,IsTupleIter.as s2 λo e=>k i2 (by simp) o e⟩
 item:=by
  intro X hP hw hK hc i ac s σ H E I hf Z hg;subst hP hw hK;obtain⟨xs,ys,x,y,q1,q2,hx,hy⟩:=hg;obtain⟨its1,r1,p1,_⟩:=I.tuple q1;obtain⟨its2,r2,p2,_⟩:=I.tuple q2;obtain⟨u1,hu1,ru1⟩:=r1.get hx;obtain⟨u2,hu2,ru2⟩:=r2.get hy;have D:=F.of (λb hb=>FpOk.apart I (hf b hb) q1) (λb hb=>FpOk.apart I (hf b hb) q2);refine RS D Z (show s.heap.IsTuple l1 its1.toArray from p1) (show s.heap.IsTuple l2 its2.toArray from p2) (x:=u1) (y:=u2) (by simpa using hu1) (by simpa using hu2) λg z1 to1 n1 n2 nu kk=>⟨_,rfl, ?_⟩;refine wpAny_letOwnedTupleGo_zip z1 λg2 z2 sb=>?_;have fr:H s.heap.objs.size=none:=I.hok.fresh uU ;have fp:∀b∈[z,TI,TO,i1,i2],FpOk X ac (upd H s.heap.objs.size (.tup [x,y])) b:=λb hb=>by
   have lt:b≠s.heap.objs.size:=by
    simp only[nT,mS,or_false]at hb;obtain⟨hz,hti,⟨a,c,hto⟩,⟨o1,g1,_⟩,⟨o2,g2,_⟩⟩:=Z;rcases hb with rfl | rfl | rfl | rfl | rfl
    ·exact tE (nZ hz)
    ·exact tE (nZ hti)
    ·exact tE (nZ hto)
    ·exact tE (nZ g1)
    ·exact tE (nZ g2)
   exact⟨by rw[jO lt];exact(hf b hb).1,(hf b hb).2⟩
  have I1:Inv X ac σ (upd H s.heap.objs.size (.tup [x,y])) { s with heap:=s.heap.push { cls:=.type "tuple",data:=.seq #[u1,u2] } } :=I.laid (t':=s.toks) (λb u e=>gI _ e) uU ⟨by simp [sizeLine],[u1,u2],.cons ru1 (.cons ru2 .nil),⟨_,gX _ rfl,rfl,_,rfl⟩,.of (gX _ rfl) rfl⟩;have up:∀c o,c≠z->g.get? c=some o->g2.get? c=some o:=λc o cz e=>sb.extBut _ _ cz e;have zs:z≠s.heap.objs.size:=tE (nZ Z.zz);have I2:Inv X ac σ (upd H s.heap.objs.size (.tup [x,y])) { s with heap:=g2 } :=by
   refine Inv.turnedL (s:={ s with heap:=s.heap.push { cls:=.type "tuple",data:=.seq #[u1,u2] } }) (h':=g2) (t':=s.toks) I1 fp λb o hb e=>?_;have bz:b≠z:=λh=>hb (by simp [h]);rcases Heap.get?_push_cases e with⟨e1,e2⟩ | e1
   ·rw[e1,e2];exact up _ _ (Ne.symm zs) nu
   ·exact up _ _ bz (kk b o (λh=>hb (by simp only[nT,mS,or_false]at h ⊢;rcases h with h | h | h | h<;>simp [h])) e1)
  exact⟨.ref s.heap.objs.size,_,I2,rfl,⟨_,x,y,fr,rfl,rfl,λxs' h=>by rw[I.tuple_inj h q1];exact hx,λys' h=>by rw[I.tuple_inj h q2];exact hy⟩,⟨z2,up _ _ D.TIz (kk _ _ (by simp [D.TIz,D.TITO,D.TIi1,D.TIi2]) Z.ti),⟨_,_,up _ _ D.TOz to1⟩,IsTupleIter.as n1 λo e=>up _ o D.i1z e,IsTupleIter.as n2 λo e=>up _ o D.i2z e⟩,λb hb=>(fp b hb).1⟩
 done:=by
  intro X hP hw hK hc i ac s σ H E I hf Z hg;subst hP hw hK;obtain⟨xs,ys,q1,q2,he⟩:=hg;obtain⟨its1,r1,p1,_⟩:=I.tuple q1;obtain⟨its2,r2,p2,_⟩:=I.tuple q2;have D:=F.of (λb hb=>FpOk.apart I (hf b hb) q1) (λb hb=>FpOk.apart I (hf b hb) q2);have e1:=r1.length;have e2:=r2.length;refine UN (I.ok.hd hc) D Z (show s.heap.IsTuple l1 its1.toArray from p1) (show s.heap.IsTuple l2 its2.toArray from p2) ?_ λg kk=>⟨rfl,Inv.turnedL (t':=s.toks) I hf λb o hb e=>kk b o (λh=>hb (by simp only[nT,mS,or_false]at h ⊢;rcases h with h | h | h | h<;>simp [h])) e⟩;rcases he with h | h
  ·exact .inl (by simp;omega)
  ·exact .inr (by simp;omega)
 self:=λ_ _ _ _ _ Z h=>wpAny_pyIter_zip Z.zz h
section
variable{X:Cx}
def iZipT(K:dD)(ta:TA):TI:=fun σ H R=>ta σ H λvs H1=>∃a b,vs=[.ref a,.ref b]/\(∃xs,SqT K H1 a xs)/\(∃ys,SqT K H1 b ys)/\R (Itz K a b) H1
theorem pi_zipT{es:List Expr}{x1}{tp:Pos}{a b:Expr}{ta:TA}{p pos:Pos}(hg:Gl X "zip")(hm:X.mg "zip" = none)(ha:PA X [a,b] ta)(hs:starEach [a,b] X.env=[(false,eval a X.env),(false,eval b X.env)]:=by rfl)(hs2:starEach [b] X.env=[(false,eval b X.env)]:=by rfl) :
  PI X (.Tuple es x1 tp) (.Call (.Name "zip" p) [a,b] [] pos) (iZipT X.K ta):=by
 intro ac s σ H R I h;refine Call_ (zA I hg hm boot_zip (PyProof.Rows.callWith_type1 (thn (ha pos ac s σ H _ I h) λus s1 ⟨vs,H1,I1,r1,q1⟩=>?_) (by rw[hs,hs2]) (by rw[hs2];rfl)));obtain⟨l1,l2,e,⟨xs,q1⟩,⟨ys,q2⟩,q⟩:=q1;subst e;cases r1 with
 | cons r rr=>
  cases rr with
  | cons r' rr=>
   cases rr;cases r;cases r';obtain⟨its1,_,p1,_⟩:=I1.tuple q1;obtain⟨its2,_,p2,_⟩:=I1.tuple q2;refine UG (show s1.heap.IsTuple l1 its1.toArray from p1) (show s1.heap.IsTuple l2 its2.toArray from p2) λg k Z=>wpAny_pyIter_zip Z.zz ?_;refine⟨_,_,_,_,H1,rfl,I1.kept (t':=s1.toks) k,RU l1 l2 ⟨by simp⟩,Z,λb hb=>?_,q⟩;have hb':s1.heap.objs.size<=b:=by
    simp only[nT,mS,or_false]at hb;rcases hb with rfl | rfl | rfl | rfl | rfl<;>first | exact Nat.le_add_right _ _ | exact tP _
   exact I1.fpOk hb' (I1.hok.fresh hb')
end
end L2
namespace HT
open PySem PySem.Spec PyProof.Rows
section
variable{prog:Program}{w:World}{A:Around}{E:Value->Shared->Prop}{s:Shared}
theorem cat_any{t b:Addr}{vs ws:List Value}{Q:Value->Shared->Prop}(ht:IsTup s.heap t vs.toArray)(hb:IsTup s.heap b ws.toArray)(h0:vs=[]->Q (.ref b) s)
  (h1:ws=[]->Q (.ref t) s) (h2:Q (.ref s.heap.objs.size) { s with heap:=s.heap.push { cls:=.type "tuple",data:=.seq (vs++ws).toArray } })
  (hz:vs.length+ws.length<=sizeLine):wpAny (model prog w) A (binaryOp .Add (.ref t) (.ref b)) Q E s:=by
 by_cases hv:vs=[]
 ·obtain⟨⟨c1,x1,y1,z1⟩,g1,rfl,n1,rfl⟩:=id ht;obtain⟨⟨c2,x2,y2,z2⟩,g2,rfl,n2,rfl⟩:=id hb;exact concat_meets ⟨_,g1,rfl⟩ ⟨_,g2,rfl⟩ noFill_tuple_add seq_tuple_add PySem.F.slot_tuple_add PySem.F.entry_tuple_add (PySem.F.args_tuple_add_2 _ _) (tuple_addW0 t b vs.toArray ws.toArray n1 n2 x1 x2 z1 z2 (by simp [hv])) ⟨g1,g2,h0 hv⟩
 ·exact cat_tup ht hb hv h1 (λ_=>h2) hz
end
end HT
namespace L2
open PySem PySem.Spec PyProof.Rows
section
variable{X:Cx}
def Gets(H:Hp)(xs:List V)(Q:VK):Prop:=∀p H',Same H H'->H' p=some (.tup xs)->Q (.ref p) H'
def rCatH:R2:=λx y H Q=>∃a b xs ys,x=.ref a/\y=.ref b/\H a=some (.tup xs)/\H b=some (.tup ys)/\xs.length+ys.length<=sizeLine/\Gets H (xs++ys) Q
theorem op_catH:OpR X (binaryOp .Add) rCatH:=by
 intro ac s σ H x y v u Q I rx ry h;obtain⟨a,b,xs,ys,rfl,rfl,ha,hb,hz,q⟩:=h;cases rx;cases ry;obtain⟨its,r1,p1,_⟩:=I.tuple (SqT.of ha);obtain⟨its2,r2,p2,_⟩:=I.tuple (SqT.of hb);refine HT.cat_any p1 p2 (λz=>⟨.ref b,H,I,rfl,q b H (λ_ _ e=>e) ?_⟩) (λz=>⟨.ref a,H,I,rfl,q a H (λ_ _ e=>e) ?_⟩) ?_ (by rw[<-r1.length,<-r2.length];exact hz)
 ·rw[r1.nil_iff.mp z];exact hb
 ·rw[r2.nil_iff.mp z,List.append_nil];exact ha
 ·have n:=I.hok.fresh (tP s.heap.objs.size);refine⟨.ref s.heap.objs.size,_,I.laid (t':=s.toks) (o:=.tup (xs++ys)) (λb ob q=>gI _ q) uU ?_,rfl,q _ _ (Lw.jY _ n) jE⟩;exact⟨by rw[hU];exact hz,_,r1.append r2,IsTup.new _ _,.of (gX _ rfl) rfl⟩
end
end L2
namespace LwMx
open PySem PySem.Spec PyProof.Rows L2 Lw
section
variable{prog:Program}{w:World}{A:Around}{R:Result->Shared->Prop}{J:Addr}{fp wr:List Addr}{n:Nat}{Pv:Nat->Value->Prop}{St:Nat->Heap->Prop}
theorem JE:(toString "max"++toString ".loop" :String)="max.loop":=by decide
theorem XD(Wk:Walks prog w A.in1 J fp wr n Pv St)(gt:Nat->Nat->Bool)(cmp:CmpOf prog w A.in1 .Gt Pv gt)(B:Addr)(out:B∉fp)(kws:List (Str×Value)) :
  ∀(k j:Nat) (s:Shared) (x:Value) (c:Nat),n-(j+1)=k->j+1<=n->St (j+1) s.heap->Pv (argBest gt j) x->
  s.heap.get? B=some { cls:=.type "list",dict:=none,data:=.seq #[x,x] c,slots:=#[] }->
  (∀y h' tk,Pv (argBest gt (n-1)) y->(∀b o,b∉wr->b≠B->s.heap.get? b=some o->h'.get? b=some o)->R (.ok (.ret y)) { s with heap:=h',toks:=tk })->
  codeAny (model prog w) A (.builtin "max.loop" ⟨[.ref J,.none,.ref B],kws⟩) R s:=by
 have outw:B∉wr:=λz=>out (Wk.sub _ z);intro k;induction k with
 | zero=>
  intro j s x c hk hj st px hB hR;have jn:j+1=n:=by omega
  refine codeAny_builtin PySem.F.entry_max_loop ?_;rw[Around.under_plainId PySem.F.plain_max_loop _];show wpAny _ A.in1 (seqItems? (.ref B) >>= _) _ _ s;refine tX (wpAny_seqItems hB rfl ?_);show wpAny _ A.in1 (tryCatch (pyNext (.ref J)) _ >>= _) _ _ s;refine tX (wpAny_tryCatch (Wk.done s _ _ (jn▸st) λh1 t1 k1=>?_));have hB1:=k1 B _ outw hB;show wpAny _ A.in1 (updateSeq B (λ_=>#[]) >>= _) _ _ _;refine tX (wpAny_updateSeq hB1 rfl (tX (wpAny_letGo (tY ?_))));exact hR x _ t1 (by rw[<-jn];exact px) λb o n1 n2 e=>(Heap.get?_update_other _ _ (Ne.symm n2)).trans (k1 b o n1 e)
 | succ k ih=>
  intro j s x c hk hj st px hB hR;have jn:j+1<n:=by omega
  refine codeAny_builtin PySem.F.entry_max_loop ?_;rw[Around.under_plainId PySem.F.plain_max_loop _];show wpAny _ A.in1 (seqItems? (.ref B) >>= _) _ _ s;refine tX (wpAny_seqItems hB rfl ?_);show wpAny _ A.in1 (tryCatch (pyNext (.ref J)) _ >>= _) _ _ s;refine tX (wpAny_tryCatch (Wk.item (j+1) s _ _ jn st λy h1 t1 py st1 k1=>?_));have hB1:=k1 B _ outw hB;show wpAny _ A.in1 (tryCatch (holding [y,y] (richCompare .Gt y x >>= _)) _ >>= _) _ _ _;refine tX (wpAny_tryCatch (wpAny_holding (tX (cmp (j+1) (argBest gt j) y x _ _ _ py px ?_))));refine tX (wpAny_holding (wpAny_truthy_bool (tX (wpAny_letGo (tY ?_)))));cases hb:gt (j+1) (argBest gt j)with
  | true=>
   simp only[if_true];refine tX (wpAny_updateSeq hB1 rfl (tX (wpAny_letGo ?_)));rw[JE];refine tY ⟨plainId_quiet PySem.F.plain_max_loop _,ih (j+1) _ y _ (by omega) jn (Wk.frame _ _ _ st1 λb hb' o e=>?_) (by simp only[argBest,hb,if_true];exact py) (Heap.get?_update_self _ hB1 rfl) λy' h2 t2 p2 k2=>?_⟩
   ·exact(Heap.get?_update_other _ _ (λz:B=b=>out (by rw[z];exact hb'))).trans e
   ·exact hR y' h2 t2 p2 λb o n1 n2 e=>k2 b o n1 n2 ((Heap.get?_update_other _ _ (Ne.symm n2)).trans (k1 b o n1 e))
  | false=>
   simp only[Bool.false_eq_true,if_false];refine tX (wpAny_letGo ?_);rw[JE];refine tY ⟨plainId_quiet PySem.F.plain_max_loop _,ih (j+1) _ x c (by omega) jn st1 (by simp only[argBest,hb,Bool.false_eq_true,if_false];exact px) hB1 λy' h2 t2 p2 k2=>?_⟩;exact hR y' h2 t2 p2 λb o n1 n2 e=>k2 b o n1 n2 (k1 b o n1 e)
theorem XE(Wk:Walks prog w A.in1 J fp wr n Pv St)(gt:Nat->Nat->Bool)(cmp:CmpOf prog w A.in1 .Gt Pv gt)(B:Addr)(out:B∉fp)(d:Value){s:Shared}{c:Nat}(st:St 0 s.heap)
  (hB:s.heap.get? B=some { cls:=.type "list",dict:=none,data:=.seq #[] c,slots:=#[] })
  (h0:n=0->∀h' tk,(∀b o,b∉wr->b≠B->s.heap.get? b=some o->h'.get? b=some o)->R (.ok (.ret d)) { s with heap:=h',toks:=tk })
  (hR:0<n->∀y h' tk,Pv (argBest gt (n-1)) y->(∀b o,b∉wr->b≠B->s.heap.get? b=some o->h'.get? b=some o)->R (.ok (.ret y)) { s with heap:=h',toks:=tk }) :
  codeAny (model prog w) A (.builtin "max.loop" ⟨[.ref J,.none,.ref B],[("default",d)]⟩) R s:=by
 have outw:B∉wr:=λz=>out (Wk.sub _ z);refine codeAny_builtin PySem.F.entry_max_loop ?_;rw[Around.under_plainId PySem.F.plain_max_loop _];show wpAny _ A.in1 (seqItems? (.ref B) >>= _) _ _ s;refine tX (wpAny_seqItems hB rfl ?_);show wpAny _ A.in1 (tryCatch (pyNext (.ref J)) _ >>= _) _ _ s;by_cases hn:0<n
 ·refine tX (wpAny_tryCatch (Wk.item 0 s _ _ hn st λy h1 t1 py st1 k1=>?_));have hB1:=k1 B _ outw hB;show wpAny _ A.in1 (updateSeq B (λ_=>#[y,y]) >>= _) _ _ _;refine tX (wpAny_updateSeq hB1 rfl ?_);rw[JE];refine tY ⟨plainId_quiet PySem.F.plain_max_loop _,XD Wk gt cmp B out _ _ 0 _ y _ rfl hn (Wk.frame _ _ _ st1 λb hb' o e=>?_) py (Heap.get?_update_self _ hB1 rfl) λy' h2 t2 p2 k2=>?_⟩
  ·exact(Heap.get?_update_other _ _ (λz:B=b=>out (by rw[z];exact hb'))).trans e
  ·exact hR hn y' h2 t2 p2 λb o n1 n2 e=>k2 b o n1 n2 ((Heap.get?_update_other _ _ (Ne.symm n2)).trans (k1 b o n1 e))
 ·have z:n=0:=by omega
  subst z;refine tX (wpAny_tryCatch (Wk.done s _ _ st λh1 t1 k1=>?_));refine tX (wpAny_rule (tY ?_));exact h0 rfl _ t1 λb o n1 n2 e=>k1 b o n1 e
end
theorem mx_args(a v:Value):argsOk "max" ⟨[a],[(Str.ofString "default",v)]⟩:=by unfold argsOk;kernel_rfl
section
variable{prog:Program}{w:World}{A:Around}{E:Value->Shared->Prop}{s:Shared}
theorem mx_call{x d:Value}{Q:Value->Shared->Prop}
  (h:wpAny (model prog w) A.in1 (pyIter x) (λit s₂=>∃J fp wr n Pv St gt,it=.ref J/\Walks prog w A.in1 J fp wr n Pv St/\St 0 s₂.heap/\(∀b∈fp,b<s₂.heap.objs.size)/\CmpOf prog w A.in1 .Gt Pv gt/\
   (n=0->∀h' tk,(∀b o,b∉wr->s₂.heap.get? b=some o->h'.get? b=some o)->Q d { s₂ with heap:=h',toks:=tk })/\
   (0<n->∀v h' tk,Pv (argBest gt (n-1)) v->(∀b o,b∉wr->s₂.heap.get? b=some o->h'.get? b=some o)->Q v { s₂ with heap:=h',toks:=tk })) E s) :
  wpAny (model prog w) A (call (.builtin "max") [x] [(Str.ofString "default",d)]) Q E s:=by
 refine kmb_tree PySem.F.kind_max PySem.F.plain_max PySem.F.entry_max (mx_args _ _) ?_;show wpAny _ A.in1 (Builtin.Builtins.bindParams "max" ["key","default"] 0 ⟨[],[(Str.ofString "default",d)]⟩ >>= _) _ _ s;refine tX (wpAny_of_eq (show Builtin.Builtins.bindParams "max" ["key","default"] 0 ⟨[],[(Str.ofString "default",d)]⟩=pure [none,some d]from rfl) ?_);refine tX (tY (tX (tZ h (λit s₂ h₂=>?_) λ_ _ e=>e)));obtain⟨J,fp,wr,n,Pv,St,gt,rfl,Wk,st,lt,cmp,q0,q1⟩:=h₂;refine tX (wpAny_newObj_type ?_);have out:s₂.heap.objs.size∉fp:=λz=>nV _ (lt _ z);rw[JE];have up:∀(h':Heap),(∀b o,b∉wr->b≠s₂.heap.objs.size->(s₂.heap.push { cls:=.type "list",data:=.seq ([]:List Value).toArray }).get? b=some o->h'.get? b=some o)->∀b o,b∉wr->s₂.heap.get? b=some o->h'.get? b=some o:=λh' k b o n1 e=>
  k b o n1 (tE (nZ e)) (gI _ e)
 refine tY ⟨plainId_quiet PySem.F.plain_max_loop _,XE Wk gt cmp s₂.heap.objs.size out d (Wk.frame _ _ _ st λb _ o e=>gI _ e) (gX _ rfl) (λz h' tk k=>q0 z h' tk (up h' k)) λz v h' tk p k=>q1 z v h' tk p (up h' k)⟩
end
theorem RN(ns:List Int):∀k,k<ns.length->(argBest (λi j=>decide (ns.getD i 0>ns.getD j 0)) k)<=k/\∀j,j<=k->ns.getD j 0<=ns.getD (argBest (λi j=>decide (ns.getD i 0>ns.getD j 0)) k) 0
 | 0,_=>⟨tP _,λj hj=>by have:j=0:=(by omega);subst this;exact tV _⟩
 | k+1,h=>by
  obtain⟨h1,h2⟩:=RN ns k (by omega);simp only[argBest];split
  ·rename_i hb;have hb:=mL hb;refine⟨tP _,λj hj=>?_⟩;rcases Nat.lt_or_ge j (k+1)with z | z
   ·have:=h2 j (by omega);omega
   ·have:j=k+1:=by omega
    subst this;exact tV _
  ·rename_i hb;refine⟨by omega,λj hj=>?_⟩;rcases Nat.lt_or_ge j (k+1)with z | z
   ·exact h2 j (by omega)
   ·have e:j=k+1:=by omega
    have:¬ns.getD (k+1) 0>ns.getD (argBest (λi j=>decide (ns.getD i 0>ns.getD j 0)) k) 0:=λy=>hb (nH y);rw[e];omega
section
variable{X:Cx}
def rMaxD(d:Int):List V->Hp->VK->Prop:=λxs H Q=>∃(l:Addr) (ns:List Int),xs=[.ref l]/\H l=some (.lst (ns.map V.int))/\(ns=[]->Q (.int d) H)/\∀m,m∈ns->(∀x∈ns,x<=m)->Q (.int m) H
theorem UH{ac:List (Addr×Obj)}{σ:L2.St}{H:Hp}{s:Shared}{l:Addr}{ns:List Int}{d:Int}{t:Tok}{Q:VK}(hc:X.calm=true)(I:Inv X ac σ H s)(hl:H l=some (.lst (ns.map V.int)))
  (q0:ns=[]->Q (.int d) H) (q1:∀m,m∈ns->(∀x∈ns,x<=m)->Q (.int m) H):wpAny (model X.prog X.w) X.A (call (.builtin "max") [.ref l] [(Str.ofString "default",.int d t)]) (EP X ac σ Q) X.xe s:=by
 obtain⟨its,rv,p,_⟩:=I.list (SqL.of hl);have i1:IntsAre its ns:=vN rv;have il:=vM i1;have ha:l<s.heap.objs.size:=by
  obtain⟨o,_,e,_⟩:=p;exact nZ e
 have p':s.heap.IsList l its.toArray:=by
  obtain⟨o,n,e,e2,_,e3⟩:=p;exact⟨o,e,e2,⟨n,e3⟩⟩
 refine mx_call (wpAny_pyIter_list p' ?_);refine⟨s.heap.objs.size,_,_,_,_,_,λi j=>decide (ns.getD i 0>ns.getD j 0),rfl,Walks.list (show X.A.in1.handled=none from I.ok.hd hc) s.heap.objs.size l (tE ha) its.toArray,⟨⟨_,gX _ rfl,rfl,rfl⟩,p'.push _⟩, ?_, ?_, ?_, ?_⟩
 ·intro b hb;show b<(s.heap.push _).objs.size;rw[nP];simp only[nT,mS,or_false]at hb;rcases hb with rfl | rfl
  ·exact mX _
  ·exact Nat.lt_succ_of_lt ha
 ·refine CmpOf.ints_gt (λi=>ns.getD i 0) λi v hv=>?_;have hv':its[i]? = some v:=by simpa using hv
  obtain⟨hi,e⟩:=gC.mp hv';obtain⟨n,t,e1,e2⟩:=yO i1 hi;exact⟨t,by rw[<-e,e2,uY,e1];rfl⟩
 ·intro z h' tk k;have z':ns=[]:=by
   have:its.length=0:=by simpa using z
   exact List.length_eq_zero_iff.mp (by omega)
  refine⟨.int d,H,I.kept (t':=tk) (λb o e=>k b o ?_ (gI _ e)),⟨t,rfl⟩,q0 z'⟩;simp;exact tE (nZ e)
 ·intro z v h' tk hv k;have z':0<ns.length:=by
   have:0<its.length:=by simpa using z
   omega
  have sz:its.toArray.size=ns.length:=by rw[mI,il]
  rw[sz]at hv;obtain⟨b1,b2⟩:=RN ns (ns.length-1) (by omega);generalize argBest (λi j=>decide (ns.getD i 0>ns.getD j 0)) (ns.length-1)=i at hv b1 b2;have hv':its[i]? = some v:=by simpa using hv
  obtain⟨hi,e⟩:=gC.mp hv';obtain⟨n,t,e1,e2⟩:=yO i1 hi;have en:ns.getD i 0=n:=by rw[uY,e1];rfl
  refine⟨.int n,H,I.kept (t':=tk) (λb o e=>k b o ?_ (gI _ e)),⟨t,by rw[<-e,e2]⟩,q1 n (gQ e1) λx hx=>?_⟩
  ·simp;exact tE (nZ e)
  ·obtain⟨j,hj⟩:=gO.mp hx;have hjl:=(gC.mp hj).1;have:=b2 j (by omega);rw[en,uY,hj]at this;exact this
variable{p pos kpos:Pos}{e e2:Expr}{es:List Expr}{t tk:TA}
def tMaxD(t tk:TA):TE:=fun σ H Q=>t σ H λvs H1=>tk σ H1 λzs H2=>∃d,zs=[.int d]/\rMaxD d vs H2 Q
theorem pe_maxD(hc:X.calm=true)(hg:Gl X "max")(hm:X.mg "max" = none)(ha:PA X [e] t)(hk:PK X [⟨some "default",e2,kpos⟩] tk)
  (hall:(backToKw pos (keywordEach [⟨some "default",e2,kpos⟩] X.env)).all (·.1.isSome)=true:=by rfl) (hks:(backToKw pos (keywordEach [⟨some "default",e2,kpos⟩] X.env)).filterMap (·.1)=[Str.ofString "default"]:=by rfl)
  (he:starEach [e] X.env=[(false,eval e X.env)]:=by rfl)
  (hpl:((backTo pos (starEach [e] X.env)).any (·.1)||(backToKw pos (keywordEach [⟨some "default",e2,kpos⟩] X.env)).any (·.1.isNone))=false:=by rfl) :
  PE X (.Call (.Name "max" p) [e] [⟨some "default",e2,kpos⟩] pos) (tMaxD t tk):=by
 intro ac s σ H Q I h;refine wpAny_Call_Name_kw (zA I hg hm (show bootBuiltins "max" = some (.builtin "max") by decide +kernel) ?_ (by decide) (by decide));refine PySem.W.callWith_of (P:=λ_=>True) hpl (λ_ _=>⟨_,.inr (.inl rfl),PySem.W.Looks.of_pure rfl⟩) (evalArgs_kw2 hall (thn (ha pos ac s σ H _ I h) λus s1 ⟨vs,H1,I1,r,q⟩=>?_) he);refine thn (hk pos ac s1 σ H1 _ I1 q) λws s2 ⟨zs,H2,I2,rz,q2⟩=>⟨trivial, ?_⟩;rw[hks];obtain⟨d,rfl,l,ns,rfl,hl,q0,q1⟩:=q2;obtain⟨u,rfl,ru⟩:=xC r;cases ru;obtain⟨u,rfl,⟨t,rfl⟩⟩:=xC rz;exact UH hc I2 hl q0 q1
end
end LwMx
namespace L2
open PySem PySem.Spec PyProof.Rows
section
variable{prog:Program}{w:World}{A:Around}{E:Value->Shared->Prop}{s:Shared}
structure ZU(z TI TO i1 i2 l1 l2:Addr)(k:Nat)(h:Heap):Prop where
 zz:IsZip h z TI TO .none
 ti:IsPair h TI (.ref i1) (.ref i2)
 to:∃a b,IsPair h TO a b
 one:h.IsTupleIter i1 l1 k
 two:h.IsListIter i2 l2 k
variable{z TI TO i1 i2 l1 l2:Addr}{k:Nat}{xs ys:Array Value}
end
section
variable{X:Cx}{ac:List (Addr×Obj)}{σ:St}{H:Hp}{s:Shared}{h':Heap}
theorem FpOk.apartL{a b:Addr}{xs:List V}(I:Inv X ac σ H s)(f:FpOk X ac H b)(h:SqL X.K H a xs):a≠b:=by
 rintro rfl;rcases h with(h | ⟨o,h⟩) | ⟨o,its,n,hk,hc,hs,hz,r⟩
 ·rw[f.1]at h;cases h
 ·rw[f.1]at h;cases h
 ·have hb:X.base.get? a=some o:=I.ok.mod.kin a o hk;rcases f.2.2.2.1 with z | z
  ·exact I.ok.noex a o hb z
  ·exact absurd (mB (nZ hb) (tD I.ok.bsz z)) (nV _)
end
section
variable{X:Cx}
end
section
open AutoSeq1 (wpAny_loadPart')
end
section
variable{prog:Program}{w:World}{A:Around}{E:Value->Shared->Prop}{s:Shared}
end
section
variable{X:Cx}
end
theorem YG{K:dD}{a b:Addr}{xs ys:List V}{g:TG}{tb:TS}{D:Ends}{σ:St}{H:Hp}(Pv:Nat->St->Hp->Prop)(le:xs.length=ys.length)(h0:Pv 0 σ H)(hl:∀i σ H,i<=xs.length->Pv i σ H->SqT K H a xs/\SqT K H b ys)
  (hs:∀i x y p σ H,xs[i]? = some x->ys[i]? = some y->H p=none->Pv i σ H->g (.ref p) σ (upd H p (.tup [x,y])) fun σ2 H2=>tb { D with nx:=Pv (i+1),ct:=Pv (i+1),bk:=D.nx } σ2 H2) (hd:∀σ H,Pv xs.length σ H->D.nx σ H) :
  ∃W:Nat->Nat->St->Hp->Prop,(∃m,W 0 m σ H)/\∀i m σ H,W i m σ H->
   ((Itz K a b).stop i H/\D.nx σ H)∨((Itz K a b).go i H/\∃N:St->Hp->Prop,(∀σ' H',N σ' H'->∃m',m'<m/\W (i+1) m' σ' H')/\∀x H',(Itz K a b).yld i H x H'->g x σ H' fun σ2 H2=>tb { D with nx:=N,ct:=N,bk:=D.nx } σ2 H2):=by
 refine⟨λi m σ H=>m=xs.length-i/\i<=xs.length/\Pv i σ H,⟨xs.length,by simp,tQ _,h0⟩, ?_⟩;rintro i m σ H ⟨rfl,hi,p⟩;obtain⟨q1,q2⟩:=hl i σ H hi p;by_cases hlt:i<xs.length
 ·refine .inr ⟨⟨xs,ys,xs[i],ys[i]'(by omega),q1,q2,by simp [hlt],by simp [le▸hlt]⟩,Pv (i+1),fun σ' H' p'=>⟨xs.length-(i+1),by omega,rfl,hlt,p'⟩,λv H' y=>?_⟩;obtain⟨r,x,y,hr,rfl,rfl,hx,hy⟩:=y;exact hs i x y r σ H (hx xs q1) (hy ys q2) hr p
 ·have ei:i=xs.length:=by omega
  subst ei;exact .inl ⟨⟨xs,ys,q1,q2,.inl uU⟩,hd σ H p⟩
end L2
namespace LwD
open PySem PySem.Spec PyProof.Rows L2 Lw
section
variable{X:Cx}
end
section
variable{X:Cx}{ac:List (Addr×Obj)}{σ:L2.St}{H:Hp}{s:Shared}
theorem Inv.freeze{d:Addr}{ag:List (List Key×V)}(I:Inv X ac σ H s)(e:H d=some (.dT ag)):∃o,Inv X ac σ (upd H d (.frz o (.dT ag))) s:=by
 have ob:ObjOk X.prog X.w H s.heap d (.dT ag):=I.hok d _ e;obtain⟨z,lo,xs,rel,o,es,ep,ho,r⟩:=id ob;refine⟨o, ?_⟩;have ne:∀{b:Addr} {u:HO},H b=some u->(∀k,u≠.dT k)->upd H d (.frz o (.dT ag)) b=some u:=fun {b u} q n=>by
  rw[jO (λy=>by rw[y,e]at q;cases q;exact n _ rfl)];exact q
 refine I.step (h':=s.heap) (g':=s.gens) (t':=s.toks) (d':=s.drawn) (ch:=[]) (λ_ y=>nomatch y) (λb u _ _ _ q _=>q) (λb u _ _ _ q _=>⟨u.slots,q⟩) (λb u _ _ q=>?_) (λb u _ q=>⟨u,q⟩) (λb xs q=>ne q λ_ y=>by cases y) (λb u v q=>ne q λ_ y=>by cases y)
  (λb ps q=>⟨#[],by rw[ne q λ_ y=>by cases y];simp⟩) (λm hm=>hm) ?_ I.bare
 ·rw[jO (λy=>by rw[y,e]at q;cases q)];exact q
 ·intro b u q;by_cases hb:b=d
  ·subst hb;rw[jE]at q;cases q;exact⟨ho,ob.stay (λc v _ q=>q) (λc q=>ne q λ_ y=>by cases y) λc xs q=>ne q λ_ y=>by cases y⟩
  ·rw[jO hb]at q;exact(I.hok b u q).stay (λc v _ q=>q) (λc q=>ne q λ_ y=>by cases y) λc xs q=>ne q λ_ y=>by cases y
end
section
variable{X:Cx}
def tFrz(te:TE):TE:=fun σ H Q=>te σ H λv H1=>∃d ag,v=.ref d/\H1 d=some (.dT ag)/\∀o,Q v (upd H1 d (.frz o (.dT ag)))
theorem wL{e:Expr}{te:TE}(h:PE X e te):PE X e (tFrz te):=by
 intro ac s σ H Q I hq;refine thn (h ac s σ H _ I hq) λu s1 ⟨x,H1,I1,r1,q1⟩=>?_;obtain⟨d,ag,rfl,hd,k⟩:=q1;obtain⟨o,I2⟩:=Inv.freeze I1 hd;exact⟨.ref d,_,I2,r1,k o⟩
end
def Itk(d:Addr)(o:Obj)(ag:List (List Key×V))(ys:List V):It:=
 ⟨λi H=>H d=some (.frz o (.dT ag))/\i<ys.length,λi H x H'=>H'=H/\ys[i]? = some x,λi H=>H d=some (.frz o (.dT ag))/\i=ys.length⟩
theorem RX{P:Program}{w:World}{K:dD}{tg:Expr}(d it:Addr){o:Obj}{es:Array DictEntry}{ep:Nat}{ag:List (List Key×V)}{ys:List V}(xo:o.ExactDict)(ho:o.data=.dict es ep)
  (hy:∀(i:Nat) (h:i<es.size),∃b,es[i].key=.ref b/\ys[i]? = some (.ref b)) (hl:ys.length=es.size):Turn P w K tg (Itk d o ag ys) [it] it (λi h=>h.IsKeyIter it d i es.size ep) where
 mem:=by simp
 obj:=λi h st b hb=>by
  have e:b=it:=by simpa using hb
  subst e;obtain⟨o,e,c,d⟩:=st;exact⟨o,e,λv z=>by rw[d]at z;cases z⟩
 keep:=λi h h' st k=>st.at λo e=>k it (by simp) o e
 item:=by
  intro X hP hw hK hc i ac s σ H E I hf st hg;subst hP hw hK;obtain⟨hd,hi⟩:=hg;have raw:Raw s.heap d es ep:=⟨o,(I.hok d _ hd).1,xo,ho⟩;obtain⟨b,eb,yb⟩:=hy i (by omega);obtain⟨f0,f1,f2,f3,f4,f5⟩:=hf it (by simp);refine KM st raw (by omega) λh' st' sb=>?_;have I1:Inv X ac σ H { s with heap:=h' } :=I.turned (t':=s.toks) (λb o hb e=>(sb.2 b hb).trans e) f0 f1 f3 f4 f5;obtain⟨oi,e,c,dd⟩:=id st';exact⟨_,rfl,LM (s:={ s with heap:=h' }) e c dd (by decide) ⟨.ref b,H,I1,by rw[eb];rfl,⟨rfl,yb⟩,st',λb hb=>(hf b hb).1⟩⟩
 done:=by
  intro X hP hw hK hc i ac s σ H E I hf st hg;subst hP hw hK;obtain⟨hd,hi⟩:=hg;have raw:Raw s.heap d es ep:=⟨o,(I.hok d _ hd).1,xo,ho⟩;obtain⟨f0,f1,f2,f3,f4,f5⟩:=hf it (by simp);rw[hi,hl]at st;exact PM (I.ok.hd hc) st raw λh' eb=>⟨rfl,I.turned (t':=s.toks) (λb o hb e=>eb b o hb e) f0 f1 f3 f4 f5⟩
 self:=λ_ _ _ _ _ st h=>wpAny_pyIter_keyiter st h
section
variable{X:Cx}
def iKeys(te:TE):TI:=fun σ H R=>te σ H λv H1=>∃d o ag,v=.ref d/\H1 d=some (.frz o (.dT ag))/\(∀p∈ag,∃ns:List Int,p.1=ik ns)/\∀ys,Keyed H1 ys ag->R (Itk d o ag ys) H1
theorem CO{tg l:Expr}{tl:TE}(hl:PE X l tl):PI X tg l (iKeys tl):=by
 intro ac s σ H R I h;refine thn (hl ac s σ H _ I h) λv s1 ⟨x,H1,I1,r1,q1⟩=>?_;obtain⟨d,o,ag,rfl,hd,hk,q⟩:=q1;cases r1;obtain⟨go,ob⟩:=I1.hok d _ hd;obtain⟨z,lo,ks,rel,o',es,ep,ho,xo,hdat,he,hn⟩:=(show ObjOk X.prog X.w H1 s1.heap d (.dT ag)from ob);rw[go]at ho;cases ho;have esz:es.size=ag.length:=by rw[size_of_entries he,<-Paired.length rel]
 have itup:∀(j:Nat) (h:j<es.size),∃(b:Addr) (ns:List Int) (v:V),es[j].key=.ref b/\H1 b=some (.tup (ns.map V.int))/\ag[j]? = some (ik ns,v):=λj hj=>by
  have e1:=entry_at he j;rw[Array.getElem?_eq_getElem hj]at e1;cases e2:ks[j]? with
  | none=>rw[e2]at e1;cases e1
  | some x=>
   rw[e2]at e1;have e3:es[j]=entryOfKey _ x:=Option.some.inj e1;obtain⟨v,m1,m2⟩:=KTgetI rel e2;obtain⟨ns,n1⟩:=hk _ (gQ m1);dsimp only at n1;rw[n1]at m1 m2;rw[xB]at m2;exact⟨x.2.1,ns,v,by rw[e3];rfl,m2,m1⟩
 have kref:∀(j:Nat) (h:j<es.size),∃b:Addr,es[j].key=.ref b:=λj hj=>let ⟨b,_,_,e,_⟩:=itup j hj;⟨b,e⟩;refine KN lo ⟨o,go,xo,hdat⟩ ?_;refine⟨s1.heap.objs.size,[s1.heap.objs.size],_,_,H1,rfl,I1.kept (t':=s1.toks) λb o e=>gI _ e,RX (ag:=ag) d _ xo hdat (ys:=es.toList.map λe=>match e.key with | .ref b=>V.ref b | _=>V.non) ?_ (by simp),⟨_,gX _ rfl,rfl,rfl⟩,λb hb=>?_,q _ ⟨by simp [esz],λi y p ey ep=>?_⟩⟩
 ·intro i hi;obtain⟨b,e⟩:=kref i hi;refine⟨b,e, ?_⟩;simp only[mH,Array.getElem?_toList,Array.getElem?_eq_getElem hi,Option.map_some,e]
 ·have e:b=s1.heap.objs.size:=by simpa using hb
  rw[e];exact I1.fpOk uU (I1.hok.fresh uU)
 ·have hi:i<es.size:=by
   have:=(gC.mp ey).1;simpa using this
  obtain⟨b,ns,v,e1,e2,e3⟩:=itup i hi;simp only[mH,Array.getElem?_toList,Array.getElem?_eq_getElem hi,Option.map_some,e1,Option.some.injEq]at ey;rw[e3]at ep;cases ep;exact⟨b,ns,ey.symm,e2,rfl⟩
end
theorem YI{d:Addr}{o:Obj}{ag:List (List Key×V)}{xs:List V}{g:TG}{tb:TS}{D:Ends}{σ:L2.St}{H:Hp}(Pv:Nat->L2.St->Hp->Prop)(h0:Pv 0 σ H)(hl:∀i σ H,Pv i σ H->H d=some (.frz o (.dT ag)))
  (hs:∀i x σ H,xs[i]? = some x->Pv i σ H->g x σ H fun σ2 H2=>tb { D with nx:=Pv (i+1),ct:=Pv (i+1),bk:=D.nx } σ2 H2) (hd:∀σ H,Pv xs.length σ H->D.nx σ H) :
  ∃W:Nat->Nat->L2.St->Hp->Prop,(∃m,W 0 m σ H)/\∀i m σ H,W i m σ H->
   ((Itk d o ag xs).stop i H/\D.nx σ H)∨((Itk d o ag xs).go i H/\∃N:L2.St->Hp->Prop,(∀σ' H',N σ' H'->∃m',m'<m/\W (i+1) m' σ' H')/\∀x H',(Itk d o ag xs).yld i H x H'->g x σ H' fun σ2 H2=>tb { D with nx:=N,ct:=N,bk:=D.nx } σ2 H2):=by
 refine⟨λi m σ H=>m=xs.length-i/\i<=xs.length/\Pv i σ H,⟨xs.length,by simp,tQ _,h0⟩, ?_⟩;rintro i m σ H ⟨rfl,hi,p⟩;have q:=hl i σ H p;by_cases hlt:i<xs.length
 ·refine .inr ⟨⟨q,hlt⟩,Pv (i+1),fun σ' H' p'=>⟨xs.length-(i+1),by omega,rfl,hlt,p'⟩,λx H' y=>?_⟩;obtain⟨e,y⟩:=y;subst e;exact hs i x σ _ y p
 ·have ei:i=xs.length:=by omega
  subst ei;exact .inl ⟨⟨q,rfl⟩,hd σ H p⟩
theorem MV(l:Addr)(x:Value)(n:Nat)(od:Option Addr)(sl:Array (Option Value))(k:Nat)(hk:2<=k/\k<=4)(u:Tok) :
  Meets (Builtin.«tuple.__mul__» ⟨[.ref l,.int k u],[]⟩) (λ_ R s=>s.heap.get? l=some { cls:=.type "tuple",dict:=od,data:=.seq #[x] n,slots:=sl }/\R (.ok (.ret (Value.ref s.heap.objs.size))) { s with heap:=s.heap.push { cls:=Value.type "tuple",data:=Data.seq (List.replicate k x).toArray } }):=
 .of_wp λprog w A R s h=>by
  obtain⟨hp,g,d,tk,os⟩:=s;obtain⟨hl,h⟩:=h;have:k=2∨k=3∨k=4:=by omega
  rcases this with rfl | rfl | rfl<;>(wp_walk;exact⟨_,rfl,h⟩)
theorem UX(l:Addr)(x:Value)(n:Nat)(od:Option Addr)(sl:Array (Option Value))(u:Tok) :
  Meets (Builtin.«tuple.__mul__» ⟨[.ref l,.int 1 u],[]⟩) (λ_ R s=>s.heap.get? l=some { cls:=.type "tuple",dict:=od,data:=.seq #[x] n,slots:=sl }/\R (.ok (.ret (Value.ref l))) s):=
 .of_wp λprog w A R s h=>by
  obtain⟨hp,g,d,tk,os⟩:=s;obtain⟨hl,h⟩:=h
  wp_walk
  exact⟨_,rfl,h⟩
theorem UW(a:Int)(t:Tok)(l:Addr)(x:Value)(n:Nat)(od:Option Addr)(sl:Array (Option Value)) :
  Meets (Builtin.«int.__rmul__» ⟨[.int a t,.ref l],[]⟩) (λ_ R s=>s.heap.get? l=some { cls:=.type "tuple",dict:=od,data:=.seq #[x] n,slots:=sl }/\R (.ok (.ret Value.notImplemented)) s):=
 .of_wp λprog w A R s h=>by obtain⟨hp,g,d,tk,os⟩:=s;obtain⟨hl,h⟩:=h;wp_walk;exact⟨_,rfl,h⟩
theorem BR:fillsNumberSlot (.type "tuple") "mul" = pure false:=
 PySem.fillsNumberSlot_seq (id:="tuple.__mul__") (r:=some (.builtin "tuple.__rmul__")) F.slot_tuple_mul.lookup (by decide +kernel) F.slot_tuple_rmul.lookup (by decide +kernel)
theorem PL:seqRepeat? (.type "tuple")=pure (some (.builtin "tuple.__mul__")):=by
 unfold seqRepeat?;rw[PySem.seqSlot_of (T:="tuple") (name:="__mul__") (id:="tuple.__mul__") F.slot_tuple_mul.lookup (by decide +kernel),PySem.seqSlot_of (T:="tuple") (name:="__rmul__") (id:="tuple.__rmul__") F.slot_tuple_rmul.lookup (by decide +kernel)]
 rfl
section
variable{X:Cx}
def rRepT:R2:=λx y H Q=>∃(l:Addr) (k:Nat) (v:V),x=.ref l/\y=.int k/\H l=some (.tup [v])/\1<=k/\k<=4/\∀p H',Same H H'->H' p=some (.tup (List.replicate k v))->Q (.ref p) H'
theorem zP:OpR X (binaryOp .Mult) rRepT:=by
 intro ac s σ H x y v u Q I rx ry h;obtain⟨l,k,z,rfl,rfl,hH,h1,h2,q⟩:=h;cases rx;obtain⟨t,rfl⟩:=ry;obtain⟨zl,its,rv,⟨⟨cl,od,dt,sl⟩,ho,hc,n,hd⟩,nD⟩:=(show ObjOk X.prog X.w H s.heap l (.tup [z])from I.hok l _ hH)
 replace hc:cl=.type "tuple":=hc
 replace hd:dt=.seq its.toArray n:=hd
 obtain⟨iv,rfl,riv⟩:=xC rv;subst hc hd;refine wpAny_binaryOp_repeat_ref (T:="tuple") (U:="int") (by decide) ⟨_,ho,rfl⟩ (λs'=>typeIs_int s' k t) BR F.fills_int_mul F.slot_int_rmul PL F.slot_int_index.lookup
  (call_meets F.slot_int_rmul (typeIs_int s k t) F.entry_int_rmul (F.args_int_rmul_2 _ _) (UW k t l iv n od sl) ⟨ho,rfl,⟨_,ho,rfl⟩, ?_⟩)
 by_cases k1:k=1
 ·subst k1;exact call_meets F.slot_tuple_mul ⟨_,ho,rfl⟩ F.entry_tuple_mul (F.args_tuple_mul_2 _ _) (UX l iv n od sl t) ⟨ho,⟨.ref l,H,I,rfl,q l H (Same.refl _) hH⟩⟩
 ·refine call_meets F.slot_tuple_mul ⟨_,ho,rfl⟩ F.entry_tuple_mul (F.args_tuple_mul_2 _ _) (MV l iv n od sl k (by omega) t) ⟨ho, ?_⟩;have nz:H s.heap.objs.size=none:=I.hok.fresh uU ;have rr:Vals (List.replicate k z) (List.replicate k iv):=by
   clear h1 h2 q k1;induction k with
   | zero=>exact .nil
   | succ k ih=>exact .cons riv ih
  exact⟨.ref s.heap.objs.size,_,I.laid (o:=.tup (List.replicate k z)) (t':=s.toks) (λb u e=>gI _ e) uU ⟨by rw[gM];exact tD h2 (by decide),_,rr,⟨_,gX _ rfl,rfl,_,rfl⟩,.of (gX _ rfl) rfl⟩,rfl,q _ _ (jY _ nz) jE⟩
def CDivP(i j:Int):Prop:=0<j/\Builtin.divisionGoesByPylong i j=false
theorem KW:OpR X (binaryOp .FloorDiv) (rI CDivP λi j=>.int (i/j)):=opI λi j _ _ _ _ _ hc q=>by
 refine floordiv_int (by have:=hc.1;omega) ?_ (.inl hc.2);rw[Int.fdiv_eq_ediv_of_nonneg _ (Int.le_of_lt hc.1)];exact q
theorem MF{i j:Int}(h:CDivL i j):CDivP i j:=⟨h.1,PyProof.noPylong_of_log2 (mB (LwM.log2_lt (by decide) h.2) (by decide))⟩
theorem FG{i j:Int}{m:Nat}(hj:0<j)(hm:m<=13400)(hi:i.natAbs<2^m):CDivP i j:=by
 refine⟨hj, ?_⟩;by_cases h9:j.natAbs.log2<9000
 ·exact PyProof.noPylong_of_log2 h9
 ·show(decide ((if j==0 then 0 else j.natAbs.log2/30+1)>300)&&decide ((if i==0 then 0 else i.natAbs.log2/30+1)>(if j==0 then 0 else j.natAbs.log2/30+1)+150))=false;rw[Bool.and_eq_false_iff]
  right
  refine nB ?_;have j0:(j==0)=false:=by
   rw[beq_eq_false_iff_ne];omega
  rw[j0];simp only[Bool.false_eq_true,if_false];have:i.natAbs.log2<13440:=by
   by_cases z:i.natAbs=0
   ·rw[z];decide +kernel
   ·exact(Nat.log2_lt z).mpr (mB hi (gS (by decide) (by omega)))
  split<;>omega
end
end LwD
namespace LwD
open PySem PySem.W PySem.Spec PyProof.Rows
def TruT{α:Type}(lt:Nat->Nat->Bool)(n:Nat):KasT α->(α->Prop)->Prop
 | .ret a,P=>P a
 | .ask i j k,P=>i<n/\j<n/\TruT lt n (k (lt i j)) P
theorem TruT.bind{α β:Type}{lt:Nat->Nat->Bool}{n:Nat}{f:α->KasT β}{P:α->Prop}{R:β->Prop} :∀{t:KasT α},TruT lt n t P->(∀a,P a->TruT lt n (f a) R)->TruT lt n (t.bind f) R
 | .ret a,h,g=>g a h
 | .ask _ _ _,h,g=>⟨h.1,h.2.1,TruT.bind h.2.2 g⟩
theorem TruT.mono{α:Type}{lt:Nat->Nat->Bool}{n:Nat}{P R:α->Prop}(g:∀a,P a->R a):∀{t:KasT α},TruT lt n t P->TruT lt n t R
 | .ret a,h=>g a h
 | .ask _ _ _,h=>⟨h.1,h.2.1,TruT.mono g h.2.2⟩
structure Strict(lt:Nat->Nat->Bool)(n:Nat):Prop where
 tr:∀a b c,lt a b=true->lt b c=true->lt a c=true
 as:∀a b,lt a b=true->lt b a=false
 tot:∀a b,a<n->b<n->a≠b->lt a b=false->lt b a=true
def Up(lt:Nat->Nat->Bool)(p:Array Nat)(m:Nat):Prop:=∀a b,a<b->b<m->lt (p.getD a 0) (p.getD b 0)=true
def Dn(lt:Nat->Nat->Bool)(p:Array Nat)(m:Nat):Prop:=∀a b,a<b->b<m->lt (p.getD b 0) (p.getD a 0)=true
theorem Pm.ne{n:Nat}{p:Array Nat}(h:Pm n p){a b:Nat}(hab:a<b)(hb:b<n):p.getD a 0≠p.getD b 0:=by
 have sz:=h.size;have nd:p.toList.Nodup:=h.nodup_iff.mpr List.nodup_range;have ha':a<p.toList.length:=by simp [sz];omega
 have hb':b<p.toList.length:=by simp [sz];omega
 intro e;have e1:p.toList[a]=p.toList[b]:=by
  have h1:p.getD a 0=p.toList[a]:=by simp [Array.getD,show a<p.size by omega]
  have h2:p.getD b 0=p.toList[b]:=by simp [Array.getD,show b<p.size by omega]
  rw[<-h1,<-h2,e]
 have:=(List.getElem_inj nd).mp e1;omega
section
variable{lt:Nat->Nat->Bool}{n:Nat}
theorem Up.snoc(O:Strict lt n){p:Array Nat}{m:Nat}(u:Up lt p m)(h:0<m->lt (p.getD (m-1) 0) (p.getD m 0)=true):Up lt p (m+1):=by
 intro a b hab hb;by_cases hbm:b<m
 ·exact u a b hab hbm
 ·have:b=m:=by omega
  subst this;by_cases ha:a=b-1
  ·rw[ha];exact h (by omega)
  ·exact O.tr _ _ _ (u a (b-1) (by omega) (by omega)) (h (by omega))
theorem Dn.snoc(O:Strict lt n){p:Array Nat}{m:Nat}(u:Dn lt p m)(h:0<m->lt (p.getD m 0) (p.getD (m-1) 0)=true):Dn lt p (m+1):=by
 intro a b hab hb;by_cases hbm:b<m
 ·exact u a b hab hbm
 ·have:b=m:=by omega
  subst this;by_cases ha:a=b-1
  ·rw[ha];exact h (by omega)
  ·exact O.tr _ _ _ (h (by omega)) (u a (b-1) (by omega) (by omega))
theorem IB(O:Strict lt n){p:Array Nat}(h:Pm n p)(hn:0<n):∀(f k:Nat),1<=k->k+f=n->Up lt p k->TruT lt n (kas_asc p f k) λm=>k<=m/\m<=n/\Up lt p m/\(m<n->lt (p.getD m 0) (p.getD (m-1) 0)=true)
 | 0,k,h1,h2,u=>⟨tP _,by omega,u,λz=>by omega⟩
 | f+1,k,h1,h2,u=>by
  refine⟨h.lt hn,h.lt hn, ?_⟩;cases hb:lt (p.getD k 0) (p.getD (k-1) 0)with
  | true=>exact⟨tP _,by omega,u,λ_=>hb⟩
  | false=>
   have up:Up lt p (k+1):=u.snoc O λ_=>O.tot _ _ (h.lt hn) (h.lt hn) (Ne.symm (h.ne (by omega) (by omega))) hb;refine(IB O h hn f (k+1) (by omega) (by omega) up).mono λm hm=>⟨by omega,hm.2⟩
theorem KC(O:Strict lt n)(hn:0<n){p:Array Nat}(h:Pm n p):∀(f k:Nat),1<=k->k+f=n->Dn lt p k->TruT lt n (kas_desc f p k 0) λr=>r.1=p/\r.2.2=0/\k<=r.2.1/\r.2.1<=n/\Dn lt p r.2.1
 | 0,k,_,h2,d=>⟨rfl,rfl,tP _,(show k<=n by omega),d⟩
 | f+1,k,h1,h2,d=>by
  refine⟨h.lt hn,h.lt hn, ?_⟩;cases hb:lt (p.getD k 0) (p.getD (k-1) 0)with
  | true=>
   have dn:Dn lt p (k+1):=d.snoc O λ_=>hb;exact(KC O hn h f (k+1) (by omega) (by omega) dn).mono λr hr=>⟨hr.1,hr.2.1,by omega,hr.2.2.2⟩
  | false=>
   refine⟨h.lt hn,h.lt hn, ?_⟩;have:lt (p.getD (k-1) 0) (p.getD k 0)=true:=O.tot _ _ (h.lt hn) (h.lt hn) (Ne.symm (h.ne (by omega) (by omega))) hb;rw[this];exact⟨rfl,rfl,tP _,(show k<=n by omega),d⟩
theorem getD_of?{p:Array Nat}{i:Nat}{q:Array Nat}{j:Nat}(h:p[i]? = q[j]?):p.getD i 0=q.getD j 0:=by
 rw[Array.getD_eq_getD_getElem?,Array.getD_eq_getD_getElem?,h]
theorem rev_up{p:Array Nat}(sz:p.size=n){k:Nat}(hk:k<=n)(d:Dn lt p k):Up lt (kas_rev p 0 k) k:=by
 intro a b hab hb;have e:∀c,c<k->(kas_rev p 0 k).getD c 0=p.getD (k-1-c) 0:=λc hc=>by
  refine getD_of? ?_;unfold kas_rev;rw[getElem?_mirror_all (by omega),dC ⟨tQ _,hc⟩,Nat.zero_add]
 rw[e a (by omega),e b hb];exact d (k-1-b) (k-1-a) (by omega) (by omega)
theorem RZ(O:Strict lt n)(hn:0<n):TruT lt n (kas_count n (List.toArray (List.range n))) λr=>Pm n r.2/\1<=r.1/\r.1<=n/\Up lt r.2 r.1:=by
 have h:Pm n (List.toArray (List.range n)):=by unfold Pm;simp
 generalize List.toArray (List.range n)=p at h;have u1:Up lt p 1:=λa b h1 h2=>by omega
 refine(IB O h hn (n-1) 1 (by omega) (by omega) u1).bind λm hm=>?_;obtain⟨m1,m2,um,hlt⟩:=hm;by_cases e:m=n
 ·rw[dC (by simp [e])];exact⟨h,m1,m2,um⟩
 ·rw[dA (by simp [e])];by_cases m3:m>1
  ·rw[dC m3];refine⟨h.lt hn,h.lt hn, ?_⟩;rw[um 0 (m-1) (by omega) (by omega)];exact⟨h,m1,m2,um⟩
  ·rw[dA m3];have m4:m=1:=by omega
   subst m4;have d2:Dn lt p 2:=by
    intro a b hab hb;have hl:=hlt (by omega);have:a=0/\b=1:=by omega
    rw[this.1,this.2];exact hl
   unfold kas_descPart;refine(KC O hn h (n-(1+1)) (1+1) (by omega) (by omega) d2).bind λr hr=>?_;obtain⟨r1,r2,r3,r4,r5⟩:=hr;rw[dA (by rw[r2];decide),r1];unfold kas_tail3;have hv:Pm n (kas_rev p 0 r.2.1):=h.rev _ _;refine(IB O hv hn (n-r.2.1) r.2.1 (by omega) (by omega) (rev_up h.size r4 r5)).bind λk hk=>?_;exact⟨hv,by omega,hk.2.1,hk.2.2.1⟩
theorem AT(O:Strict lt n)(hn:0<n){p:Array Nat}(h:Pm n p){k:Nat}(hk:k<n)(u:Up lt p k):∀(f l r:Nat),l<=r->r<=k->r-l<=f->(∀a,a<l->lt (p.getD a 0) (p.getD k 0)=true)->(∀a,r<=a->a<k->lt (p.getD k 0) (p.getD a 0)=true)->
  TruT lt n (kas_place p k f l r) λx=>x<=k/\(∀a,a<x->lt (p.getD a 0) (p.getD k 0)=true)/\∀a,x<=a->a<k->lt (p.getD k 0) (p.getD a 0)=true
 | 0,l,r,h1,h2,h3,hl,hr=>⟨by omega,hl,λa ha=>hr a (by omega)⟩
 | f+1,l,r,h1,h2,h3,hl,hr=>by
  show TruT lt n (if l ≥ r then _ else _) _;split
  ·exact⟨by omega,hl,λa ha=>hr a (by omega)⟩
  ·refine⟨h.lt hn,h.lt hn, ?_⟩;have mk:(l+r)/2<k:=by omega
   cases hb:lt (p.getD k 0) (p.getD ((l+r)/2) 0)with
   | true=>
    refine AT O hn h hk u f l ((l+r)/2) (by omega) (by omega) (by omega) hl λa ha hak=>?_;by_cases e:a=(l+r)/2
    ·rw[e];exact hb
    ·exact O.tr _ _ _ hb (u _ _ (by omega) hak)
   | false=>
    have hm:lt (p.getD ((l+r)/2) 0) (p.getD k 0)=true:=O.tot _ _ (h.lt hn) (h.lt hn) (Ne.symm (h.ne mk hk)) hb;refine AT O hn h hk u f ((l+r)/2+1) r (by omega) h2 (by omega) (λa ha=>?_) hr;by_cases e:a=(l+r)/2
    ·rw[e];exact hm
    ·exact O.tr _ _ _ (u a _ (by omega) mk) hm
theorem bub_up{p:Array Nat}(sz:p.size=n){k l:Nat}(hk:k<n)(hl:l<=k)(u:Up lt p k)(h1:∀a,a<l->lt (p.getD a 0) (p.getD k 0)=true)(h2:∀a,l<=a->a<k->lt (p.getD k 0) (p.getD a 0)=true):Up lt (bubble p k (k-l)) (k+1):=by
 have e:∀c,(bubble p k (k-l)).getD c 0=if c=l then p.getD k 0 else if l<c/\c<=k then p.getD (c-1) 0 else p.getD c 0:=λc=>by
  have:=getElem?_bubble (xs:=p) (src:=k) (by omega) (k-l) (by omega) c;have z:k-(k-l)=l:=by omega
  rw[z]at this;split
  ·rename_i hc;rw[dC hc]at this;exact getD_of? this
  ·rename_i hc;rw[dA hc]at this;split
   ·rename_i hc2;rw[dC hc2]at this;exact getD_of? this
   ·rename_i hc2;rw[dA hc2]at this;exact getD_of? this
 intro a b hab hb;rw[e a,e b];by_cases a1:a=l
 ·rw[dC a1,dA (by omega),dC ⟨by omega,by omega⟩];exact h2 _ (by omega) (by omega)
 ·rw[dA a1];by_cases a2:l<a/\a<=k
  ·rw[dC a2,dA (by omega),dC ⟨by omega,by omega⟩];exact u _ _ (by omega) (by omega)
  ·rw[dA a2];by_cases b1:b=l
   ·rw[dC b1];exact h1 a (by omega)
   ·rw[dA b1];by_cases b2:l<b/\b<=k
    ·rw[dC b2];by_cases ab:a=b-1
     ·omega
     ·exact u _ _ (by omega) (by omega)
    ·rw[dA b2];exact u _ _ hab (by omega)
theorem OL(O:Strict lt n)(hn:0<n):∀(f:Nat) {p:Array Nat} (_:Pm n p) (k:Nat),k+f=n->Up lt p k->TruT lt n (kas_bin f p k) λq=>Pm n q/\Up lt q n
 | 0,p,h,k,hk,u=>⟨h,by have:k=n:=(by omega);rw[<-this];exact u⟩
 | f+1,p,h,k,hk,u=>by
  refine(AT O hn h (by omega) u k 0 k (tQ _) uU (by omega) (λa ha=>by omega) (λa h1 h2=>by omega)).bind λl hl=>?_;exact OL O hn f (h.bub _ _) (k+1) (by omega) (bub_up h.size (by omega) hl.1 u hl.2.1 hl.2.2)
theorem UU(O:Strict lt n)(hn:0<n):TruT lt n (kas_sort n) λq=>Pm n q/\Up lt q n:=by
 refine(RZ O hn).bind λr hr=>?_;obtain⟨h1,h2,h3,h4⟩:=hr;split
 ·rw[show max r.1 1=r.1 by omega];exact OL O hn _ h1 _ (by omega) h4
 ·have:r.1=n:=by omega
  exact⟨h1,this▸h4⟩
theorem US{α:Type}{cmp:Nat->Nat->(Bool->Shared->Prop)->Shared->Prop}{s:Shared}(hc:∀i j C,i<n->j<n->C (lt i j) s->cmp i j C s){P:α->Prop}{Q:α->Shared->Prop}(hq:∀a,P a->Q a s):∀{t:KasT α},TruT lt n t P->t.kasWp cmp Q s
 | .ret a,h=>hq a h
 | .ask i j k,h=>hc i j _ h.1 h.2.1 (US hc hq h.2.2)
end
end LwD
namespace LwD
open PySem PySem.Spec PyProof.Rows L2 Lw
def qS:List Int->List Int->Bool
 | x::xs,y::ys=>if x=y then qS xs ys else decide (x<y)
 | [],_::_=>true
 | _,[]=>false
theorem QL:∀a b c:List Int,qS a b=true->qS b c=true->qS a c=true
 | [],[],_,h,_=>by simp [qS]at h
 | [],_::_,[],_,h=>by simp [qS]at h
 | [],_::_,_::_,_,_=>by simp [qS]
 | _::_,[],_,h,_=>by simp [qS]at h
 | _::_,_::_,[],_,h=>by simp [qS]at h
 | x::xs,y::ys,z::zs,h1,h2=>by
  have ih:=QL xs ys zs;simp only[qS]at h1 h2 ⊢;by_cases e1:x=y
  ·subst e1;rw[dC rfl]at h1;by_cases e2:x=z
   ·rw[dC e2]at h2 ⊢;exact ih h1 h2
   ·rw[dA e2]at h2 ⊢;exact h2
  ·rw[dA e1]at h1;have h1:=mL h1;by_cases e2:y=z
   ·subst e2;rw[dA e1];exact nH h1
   ·rw[dA e2]at h2;have h2:=mL h2;rw[dA (by omega)];exact nH (by omega)
theorem QM:∀a b:List Int,qS a b=true->qS b a=false
 | [],[],h=>by simp [qS]at h
 | [],_::_,_=>by simp [qS]
 | _::_,[],h=>by simp [qS]at h
 | x::xs,y::ys,h=>by
  have ih:=QM xs ys;simp only[qS]at h ⊢;by_cases e1:x=y
  ·subst e1;rw[dC rfl]at h ⊢;exact ih h
  ·rw[dA e1]at h;have h:=mL h;rw[dA (by omega)];exact nB (by omega)
theorem LI:∀a b:List Int,a≠b->qS a b=false->qS b a=true
 | [],[],n,_=>absurd rfl n
 | [],_::_,_,h=>by simp [qS]at h
 | _::_,[],_,_=>by simp [qS]
 | x::xs,y::ys,n,h=>by
  have ih:=LI xs ys;simp only[qS]at h ⊢;by_cases e1:x=y
  ·subst e1;rw[dC rfl]at h ⊢;exact ih (λz=>n (by rw[z])) h
  ·rw[dA e1]at h;have h:=of_decide_eq_false h;rw[dA (by omega)];exact nH (by omega)
def JI(fin:Bool):List Int->List Int->Bool
 | x::xs,y::ys=>if x=y then JI fin xs ys else decide (x<y)
 | _,_=>fin
theorem QN:∀a b:List Int,JI (decide (a.length<b.length)) a b=qS a b
 | [],[]=>rfl
 | [],_::_=>by simp [JI,qS]
 | _::_,[]=>by simp [JI,qS]
 | x::xs,y::ys=>by
  have ih:=QN xs ys;simp only[JI,qS,mU,Nat.add_lt_add_iff_right];rw[ih]
def zK(k:List Key):List Int:=k.filterMap fun | .inl i=>some i | .inr _=>none
theorem XT(ns:List Int):zK (ik ns)=ns:=by
 unfold zK ik;induction ns with
 | nil=>rfl
 | cons n r ih=>simp [ih]
theorem KTkeys{H:Hp}{ag:List (List Key×V)}{xs:List (List Key×Addr×Value)}(r:KT H ag xs):ag.map (·.1)=xs.map (·.1):=by
 induction r with
 | nil=>rfl
 | cons h _ ih=>rw[nQ,nQ,ih,h.1]
section
variable{prog:Program}{w:World}{A:Around}{E:Value->Shared->Prop}{s:Shared}
theorem LH{b fin:Bool}{Q:Bool->Shared->Prop} :∀{as bs:List Value} {xs ys:List Int} (_:IntsAre as xs) (_:IntsAre bs ys) (_:Q (JI fin xs ys) s) (i:Nat),PySem.W.KatLex prog w A b fin Q (as.zip bs) i s
 | _,_,_,_,.nil,_,h,_=>by
  rw[List.zip_nil_left];exact PySem.W.kat_nil (by simpa [JI]using h)
 | _,_,_,_,.cons _ _ _,.nil,h,_=>by
  rw[List.zip_nil_right];exact PySem.W.kat_nil (by simpa [JI]using h)
 | _,_,_,_,.cons n t r,.cons m u r2,h,i=>by
  rw[List.zip_cons_cons];simp only[JI]at h;refine PySem.W.kat_cons (SeqAt.EqAt.int_int _ _ _ _ prog w _ _ ?_);refine PySem.W.kat_go (λe=>PySem.W.kat_yes (LH r r2 (by rwa [dC (by simpa using e)]at h) (i+1))) λe=>PySem.W.kat_no ?_;rw[dA (by simpa using e)]at h;cases hb:(b&&i==0)with
  | true=>exact oneLt_int h
  | false=>exact PySem.W.kat_one _ _ (lt_int h)
end
section
variable{X:Cx}
def rSortS:List V->Hp->VK->Prop:=λxs H Q=>∃(a:Addr) (ag:List (List Key×V)),xs=[.ref a]/\Rd H a (.dT ag)/\ag.length<64/\(∀p∈ag,∃ns:List Int,p.1=ik ns/\ns≠[])/\
 ∀(ys:List V) (zs:List (List Key×V)),zs.Perm ag->Keyed H ys zs->zs.Pairwise (λp q=>qS (zK p.1) (zK q.1)=true)->New H (.lst ys) Q
theorem OG(hc:X.calm=true):CallR X (.builtin "sorted") rSortS:=by
 intro ac s σ H xs us Q I r h;obtain⟨a,ag,rfl,ha,h64,hk,q⟩:=h;obtain⟨u,rfl,ru⟩:=xC r;cases ru;obtain⟨z,lo,ks,rel,dd⟩:=uC I.hok ha;obtain⟨o,es,ep,hd1,hd2,hd3,he,his,hn⟩:=id dd;have raw:Raw s.heap a es ep:=⟨o,hd1,hd2,hd3⟩;have esz:es.size=ag.length:=by rw[size_of_entries he,<-Paired.length rel]
 obtain⟨m,F⟩:=I.fr;have kn:(ag.map (·.1)).Nodup:=by rw[KTkeys rel];exact hn
 have itup:∀(j:Nat) (h:j<es.size),∃(b:Addr) (ns:List Int) (v:V),es[j].key=.ref b/\H b=some (.tup (ns.map V.int))/\ag[j]? = some (ik ns,v)/\ns≠[]:=λj hj=>by
  have e1:=entry_at he j;rw[Array.getElem?_eq_getElem hj]at e1;cases e2:ks[j]? with
  | none=>rw[e2]at e1;cases e1
  | some x=>
   rw[e2]at e1;have e3:es[j]=entryOfKey _ x:=Option.some.inj e1;obtain⟨v,m1,m2⟩:=KTgetI rel e2;obtain⟨ns,n1,n2⟩:=hk _ (gQ m1);dsimp only at n1;rw[n1]at m1 m2;rw[xB]at m2;exact⟨x.2.1,ns,v,by rw[e3];rfl,m2,m1,n2⟩
 refine PySem.W.kdu_sorted (ZY lo) (I.ok.hd hc) F WZ raw (by rw[esz];exact z) λD h' tk vs F' N' lt hlen hP=>?_;have vtup:∀(j:Nat) (hj:j<vs.length),∃(b:Addr) (ns:List Int) (v:V),vs[j]=.ref b/\H b=some (.tup (ns.map V.int))/\ag[j]? = some (ik ns,v)/\ns≠[]:=λj hj=>by
  obtain⟨h1,h2⟩:=hP j vs[j] (by simp [hj]);rw[h2];exact itup j h1
 have vl:vs.length=ag.length:=by rw[hlen,esz]
 have kvI:∀(j:Nat) (ns:List Int) (v:V),ag[j]? = some (ik ns,v)->zK (ag.getD j ([],.non)).1=ns:=λj ns v e=>by rw[uY,e];exact XT ns
 have O:Strict (λi j=>qS (zK (ag.getD i ([],.non)).1) (zK (ag.getD j ([],.non)).1)) vs.length:=by
  refine⟨λa b c=>QL _ _ _,λa b=>QM _ _,λa b ha hb hab hf=>?_⟩;obtain⟨_,ns,v,_,_,e3,_⟩:=vtup a ha;obtain⟨_,ms,v',_,_,e3',_⟩:=vtup b hb;rw[kvI _ _ _ e3,kvI _ _ _ e3']at hf;show qS (zK (ag.getD b ([],.non)).1) (zK (ag.getD a ([],.non)).1)=true;rw[kvI _ _ _ e3,kvI _ _ _ e3'];refine LI _ _ (λz=>hab ?_) hf;have i1:(ag.map (·.1))[a]? = some (ik ns):=by rw[mH,e3];rfl
  have i2:(ag.map (·.1))[b]? = some (ik ns):=by rw[mH,e3',z];rfl
  exact(List.getElem?_inj (by rw[mZ];omega) kn).mp (i1.trans i2.symm)
 have fin:∀(idx:List Nat) (h3:Heap) (c tk3:Nat),idx.Perm (List.range ag.length)->idx.Pairwise (λi j=>qS (zK (ag.getD i ([],.non)).1) (zK (ag.getD j ([],.non)).1)=true)->Fr X.base X.env.locals h3 m->News X.base X.env.locals h3 ((D,PySem.W.listOf (idx.map λi=>vs.getD i Value.none).toArray c)::wA X.base s.heap X.env.locals)->
   EP X ac σ Q (.ref D) { s with heap:=h3,toks:=tk3 } :=λidx h3 c tk3 pm pw F3 N3=>by
  have il:idx.length=ag.length:=by rw[pm.length_eq,mM]
  have im:∀i∈idx,i<ag.length:=λi hi=>nJ.mp (pm.mem_iff.mp hi);have tr:∀js:List Nat,(∀i∈js,i<ag.length)->∃ys:List V,Vals ys (js.map λi=>vs.getD i Value.none)/\Keyed H ys (js.map λi=>ag.getD i ([],.non)):=by
   intro js;induction js with
   | nil=>exact λ_=>⟨[],.nil,rfl,λi y p e=>by simp at e⟩
   | cons j js ih=>
    intro hj;obtain⟨ys,r1,r2,r3⟩:=ih λi hi=>hj i (gR _ hi);have hj1:=hj j (mF ..);obtain⟨b,ns,x,e1,e2,e3,_⟩:=vtup j (by rw[vl];exact hj1);refine⟨.ref b::ys, ?_,by simp [r2],λi y p ey ep=>?_⟩
    ·rw[nQ];refine .cons ?_ r1;rw[uY,gE (by rw[vl];exact hj1),e1]
     rfl
    ·cases i with
     | zero=>
      simp only[nQ,List.getElem?_cons_zero,Option.some.injEq]at ey ep;rw[uY,e3]at ep;subst ey;subst ep;exact⟨b,ns,rfl,e2,rfl⟩
     | succ i=>
      simp only[nQ,gH]at ey ep;exact r3 i y p ey ep
  obtain⟨ys,rv,hy⟩:=tr idx im;have yl:ys.length=ag.length:=by rw[hy.1,mZ];exact il
  have nb:=LC (ho:=.lst ys) (tk:=tk3) I F F3 N3 lt λe=>⟨by rw[yl];exact z,_,c,rv,e⟩;have pz:(idx.map λi=>ag.getD i ([],.non)).Perm ag:=by
   have:=pm.map λi=>ag.getD i ([],V.non);rw[EY]at this;exact this
  exact⟨.ref D,_,nb.2,rfl,(q ys _ pz hy (List.pairwise_map.mpr pw)).at nb.1⟩
 have nD:=N' (D,PySem.W.listOf vs.toArray 0) (mF ..);by_cases h2:vs.length<2
 ·refine ND (n:=0) nD.1 h2 ?_;obtain⟨c,hat⟩:=sortedHeap_at (vs:=vs) (n:=0) (out:=vs.toArray) nD.1;have old:∀b u,b≠D->h'.get? b=some u->(sortedHeap h' D vs vs.toArray).get? b=some u:=λb u hb e=>by
   rw[sortedHeap_old hb (nZ e)];exact e
  have er:(List.range ag.length).map (λi=>vs.getD i Value.none)=vs:=by rw[<-vl];exact EY vs _
  refine fin (List.range ag.length) _ c tk (List.Perm.refl _) (by
   rw[<-vl];have:vs.length=0∨vs.length=1:=by omega
   rcases this with z | z<;>rw[z]<;>simp) ⟨?_,λb u e=>old b u (λy=>by rw[y,nD.2.2]at e;cases e) (F'.keep b u e),F'.above⟩ (λp hp=>?_)
  ·obtain⟨ob,es',ep',e1,e2⟩:=F'.ns;exact⟨ob,es',ep',old _ _ (Ne.symm nD.2.1) e1,e2⟩
  ·rw[er]at hp;rcases nT.mp hp with rfl | hp
   ·exact⟨hat,nD.2⟩
   ·have y:=N' p (gR _ hp);exact⟨old _ _ (tE (lt p hp)) y.1,y.2⟩
 ·have hd:∀q∈wA X.base s.heap X.env.locals,q.1≠D:=λq hq=>tE (lt q hq);refine PySem.W.kat_lsort (vs:=vs) (its:=vs.toArray) F' N' (.head hd) rfl (by omega) (by omega) λe1 h4 F4 N4=>?_;have in4:∀b xs,H b=some (.tup xs)->∃its:List Value,Vals xs its/\IsTup h4 b its.toArray:=λb xs e=>by
   obtain⟨_,its,rv,⟨ob,ho,hc2⟩,_⟩:=(show ObjOk X.prog X.w H s.heap b (.tup xs)from I.hok b _ e);refine⟨its,rv,ob, ?_,hc2⟩;cases y:X.base.get? b with
   | some u=>
    have y2:=I.bk b u y;rw[ho]at y2;cases y2;exact F4.keep b _ y
   | none=>exact(N4 (b,ob) (gR _ (wN (λy2=>by rw[y2,I.free]at e;cases e) y ho))).1
  have tups:∀l:List Value,(∀v∈l,v∈vs)->∃fs:List Value,PySem.W.KatTups h4 l fs/\fs.length=l.length/\∀f∈fs,∃n t,f=Value.int n t:=by
   intro l;induction l with
   | nil=>exact λ_=>⟨[],.nil,rfl,λ_ y=>nomatch y⟩
   | cons v r ih=>
    intro hm;obtain⟨fs,t1,t2,t3⟩:=ih λv' hv'=>hm v' (gR _ hv');obtain⟨j,hj,ev⟩:=List.getElem_of_mem (hm v (mF ..));obtain⟨b,ns,x,g1,g2,g3,g4⟩:=vtup j hj;obtain⟨its,rv,ob,ho,hc2,nn,hdt⟩:=in4 b _ g2
    match ns,g4,rv with
    | n::nr,_,.cons (b:=iv) (l₂:=ir) rr rt=>
     obtain⟨tt,rfl⟩:=rr;rw[<-ev,g1];exact⟨.int n tt::fs,.cons ho hc2 hdt (by simp) t1,by simp [t2],λf hf=>(nT.mp hf).elim (λy=>⟨n,tt,y⟩) (t3 f)⟩
  obtain⟨fs,t1,t2,t3⟩:=tups vs λ_ y=>y;refine PySem.W.kat_kind (T:=.type "int") t1 (by omega) (λf hf=>?_) (by decide) ?_
  ·obtain⟨n,t,rfl⟩:=t3 f hf;exact PySem.W.Looks.of_pure rfl
  ·refine US (n:=vs.length) (P:=λq=>Pm vs.length q/\Up (λi j=>qS (zK (ag.getD i ([],.non)).1) (zK (ag.getD j ([],.non)).1)) q vs.length) (λi j C hi hj hC=>?_) (λp hp=>?_) (UU O (by omega))
   ·obtain⟨b,ns,x,g1,g2,g3,_⟩:=vtup i hi;obtain⟨b',ns',x',g1',g2',g3',_⟩:=vtup j hj;obtain⟨its,rv,ob,ho,hc2,nn,hdt⟩:=in4 b _ g2;obtain⟨its',rv',ob',ho',hc2',nn',hdt'⟩:=in4 b' _ g2';unfold PySem.W.kas_ask;rw[show vs.getD i Value.none=.ref b by rw[uY,gE hi,g1];rfl,show vs.getD j Value.none=.ref b' by rw[uY,gE hj,g1'];rfl];rw[kvI _ _ _ g3,kvI _ _ _ g3']at hC;have i1:=vN rv;have i2:=vN rv';refine PySem.W.kat_lt ho hdt ho' hdt' (LH i1 i2 ?_ 0);rw[mI,mI,vM i1,vM i2,QN];exact hC
   ·refine PySem.W.KasFin.intro F4 N4 (.head hd) λh5 c F5 N5=>fin p.toList h5 c tk ?_ ?_ F5 N5
    ·rw[<-vl];exact hp.1
    ·have sz:=hp.1.size;refine List.pairwise_iff_getElem.mpr λa b ha hb hab=>?_;have ha':a<p.size:=by simpa using ha
     have hb':b<p.size:=by simpa using hb
     have:=hp.2 a b hab (by omega);simpa [Array.getD,ha',hb']using this
end
section
variable{prog:Program}{w:World}{A:Around}{E:Value->Shared->Prop}{h:Heap}{g:Array GenState}{d:Drawn}{t:Nat}{os:OsState}{a:Addr}{o:Obj}
end
section
variable{prog:Program}{w:World}{A:Around}{E:Value->Shared->Prop}
abbrev tkd(prog:Program)(w:World):=tupleKind (qR prog w)
end
section
variable{prog:Program}{w:World}{A:Around}{E:Value->Shared->Prop}{s:Shared}
end
section
variable{X:Cx}
end
section
variable{prog:Program}{w:World}{A:Around}{E:Value->Shared->Prop}{s:Shared}
theorem FA{α:Type}(f:α->Int):∀(l:List α),(l.map f).Nodup->∀e∈l,(l.filter λx=>f x==f e).length<=1
 | [],_,e,he=>nomatch he
 | a::l,hn,e,he=>by
  rw[nQ,List.nodup_cons]at hn;by_cases z:f a=f e
  ·have:(l.filter λx=>f x==f e)=[]:=by
    rw[List.filter_eq_nil_iff];intro x hx;simp only[beq_iff_eq];exact λy=>hn.1 (z▸y▸tF.mpr ⟨x,hx,rfl⟩)
   rw[mY,this];split<;>simp
  ·rw[mY,dA (by simpa using z)];rcases nT.mp he with rfl | he
   ·exact absurd rfl z
   ·exact FA f l hn.2 e he
theorem NT{nm:String}{d o:Addr}{xs:List (List Key×Addr×Value)}{Q:Unit->Shared->Prop}(hdo:d≠o)(hoS:(o==sysModules)=false)(hd:s.heap.DictOfH (tkd prog w) d [])(ho:s.heap.DictOfH (tkd prog w) o xs)
  (hh:(xs.map λx=>(tkd prog w).hash x.1).Nodup) (hz:xs.length<=sizeLine) (hQ:∀h',h'.DictOfH (tkd prog w) d xs->Heap.SameBut d s.heap h'->Q () { s with heap:=h' }):wpAny (model prog w) A (Builtin.Dict.mergeDict nm d o) Q E s:=by
 obtain⟨od,esd,epd,hod,hcd,hdd,hed,hid,hnd⟩:=id hd;obtain⟨oo,eso,epo,hoo,hco,hdo',heo,hio,hno⟩:=id ho;have d0:esd = #[]:=by simpa using hed
 subst d0;have lz:eso.size=xs.length:=size_of_entries heo;unfold Builtin.Dict.mergeDict;rw[dA (by simpa using hdo)];unfold Builtin.Dict.showsAll;rw[dA (by rw[hoS];exact hV)];refine tX (tY ?_);refine tX (wpAny_dictEntries hoo hdo' ?_);dsimp only;by_cases he:xs=[]
 ·subst he;have e0:eso = #[]:=by simpa using heo
  subst e0;rw[dA (by simp)];refine tX (wpAny_dictEpoch hoo hdo' ?_);refine tX (wpAny_dictEntries hoo hdo' ?_);refine tX ?_;rw[Std.Legacy.Range.forIn_eq_forIn_range'];refine tY ?_;exact tY (hQ s.heap hd (Heap.SameBut.refl _ _))
 ·have few:(decide (eso.size<=8)&&eso.all λe=>(keyPart e.key).isSome)=false:=by
   obtain⟨x,r,rfl⟩:∃x r,xs=x::r:=by cases xs with | nil=>exact absurd rfl he | cons x r=>exact⟨x,r,rfl⟩
   have:eso.all (λe=>(keyPart e.key).isSome)=false:=by
    rw[<-Array.all_toList,heo]
    rfl
   rw[this,Bool.and_false]
  rw[few,dC (by decide)];refine tX (wpAny_dictEntries hod hdd ?_);rw[dC (by decide)];refine tX ?_;unfold Builtin.Dict.entriesForEmpty;refine tX (wpAny_dictEntries hoo hdo' ?_);have body:∀e∈eso.toList,∀(s':Shared),s'=s->∀{Q':ForInStep PUnit->Shared->Prop},Q' (.yield PUnit.unit) s'->wpAny (model prog w) A (do
   let q<-Builtin.Dict.quietEq e.key
   if (!q)=true then
    if (eso.filter (·.hash==e.hash)).size>1 then(do let _<-(unsupported s!"{nm}:keys-of-equal-hash" :Sem PUnit);pure (ForInStep.yield PUnit.unit))else pure (ForInStep.yield PUnit.unit)
   else pure (ForInStep.yield PUnit.unit):Sem (ForInStep PUnit)) Q' E s':=by
   rintro e hm s' rfl Q' hq;have hm':=hm;rw[heo]at hm;obtain⟨x,hx,rfl⟩:=tF.mp hm;refine tX ?_;show wpAny _ _ (Builtin.Dict.quietEq (.ref x.2.1)) _ _ _;unfold Builtin.Dict.quietEq;refine tX (wpAny_specialOf (hio x hx).typeIs F.slot_tuple_eq.lookup (tY ?_));rw[dC (by decide),dA ?_]
   ·exact tY hq
   ·have:=FA (λe:DictEntry=>e.hash) eso.toList (by rw[heo,tK];exact hh) _ hm';rw[<-Array.toList_filter,Array.length_toList]at this;exact Nat.not_lt.mpr this
  refine tX ?_;rw[<-Array.forIn_toList];refine wpAny_forIn_list _ (λrest _ s'=>s'=s/\∃pre,eso.toList=pre++rest) _ ?_ ?_ _ _ ⟨rfl,[],rfl⟩
  ·rintro e rest b s' ⟨rfl,pre,hp⟩;refine body e (by rw[hp];simp) _ rfl ?_;exact⟨rfl,pre++[e],by rw[hp];simp⟩
  ·rintro b s' ⟨rfl,_⟩;refine tY ?_;rw[dC (by
    have:eso≠#[]:=λz=>he (List.length_eq_zero_iff.mp (by rw[<-lz,z];rfl));simpa using this)]
   refine tX (wpAny_updateDictKeysTo hod hdd (tY (hQ _ ⟨_,_,epd+1,Heap.get?_update_self _ hod (Obj.isFreed_of_dict (Obj.data_mapDictKeys hdd _)),hcd.mapDictKeys _,Obj.data_mapDictKeys hdd _,heo,λx hx=>?_,hno⟩ (Heap.SameBut.update ..))) (by omega));exact(tkd prog w).keeps (hio x hx) hod hdd (Heap.SameBut.update ..)
theorem TY{o:Addr}{xs:List (List Key×Addr×Value)}{Q:Value->Shared->Prop}(hoS:(o==sysModules)=false)(ho:s.heap.DictOfH (tkd prog w) o xs)(hh:(xs.map λx=>(tkd prog w).hash x.1).Nodup)(hz:xs.length<=sizeLine)
  (h:∀h',h'.DictOfH (tkd prog w) s.heap.objs.size xs->(∀b u,s.heap.get? b=some u->h'.get? b=some u)->Q (.ref s.heap.objs.size) { s with heap:=h' }) :
  wpAny (model prog w) A (call (.type "dict") [.ref o]) Q E s:=by
 refine callType_codes (Q₁:=λobj s₁=>obj=.ref s.heap.objs.size/\s₁ = { s with heap:=s.heap.push { cls:=.type "dict",data:=.dict #[] } }) F.kt_called_dict (F.kt_typeCall_dict_1 _) F.entry_dict_init (kt_code_dict_new _ ⟨rfl,rfl⟩) ?_;rintro obj s₁ ⟨rfl,rfl⟩;have hnew:(s.heap.push { cls:=.type "dict",data:=.dict #[] }).DictOfH (tkd prog w) s.heap.objs.size []:=⟨_,#[],0,gX _ rfl,⟨rfl,rfl,rfl⟩,rfl,rfl,(λx hx=>nomatch hx),nN⟩;have ho':(s.heap.push { cls:=.type "dict",data:=.dict #[] }).DictOfH (tkd prog w) o xs:=by
  obtain⟨oo,es,ep,g1,g2,g3,g4,g5,g6⟩:=ho;exact⟨oo,es,ep,gI _ g1,g2,g3,g4,λx hx=>let ⟨q,its,n,i1,i2⟩:=g5 x hx;⟨q,its,n,gI _ i1,i2⟩,g6⟩
 have hdo:s.heap.objs.size≠o:=by
  obtain⟨_,_,_,hg,_⟩:=ho;exact λe=>absurd (nZ hg) (by rw[e];exact nV _)
 have ty:∀{h1:Heap} {a:Addr} {ys:List (List Key×Addr×Value)},h1.DictOfH (tkd prog w) a ys->(⟨h1,s.gens,s.drawn,s.toks,s.os⟩:Shared).TypeIs (.ref a) "dict":=λD=>let ⟨q,_,_,g1,g2,_⟩:=D;⟨q,g1,g2.1⟩;refine⟨ty hnew,F.args_dict_init_2 _ _, ?_⟩;unfold Builtin.«dict.__init__»;refine tX ?_;unfold Builtin.Dict.selfAndRest;refine tX (wpAny_notOrdered_dict (ty hnew) ?_);show wpAny _ _ (pure (s.heap.objs.size,[Value.ref o])) _ _ _;refine tY ?_;show wpAny _ _ (Builtin.Dict.updateFrom "dict.__init__" s.heap.objs.size (.ref o) [] .none) _ _ _;unfold Builtin.Dict.updateFrom;refine tX (wpAny_typeOf (ty ho') ?_);rw[dA (by decide)];refine tX ?_;unfold Builtin.Dict.merge;refine tX ?_;unfold Builtin.Dict.readDirectly;refine tX (wpAny_isInstance (ty ho') isSubtype_dict_dict ?_);simp only[Bool.not_true,Bool.false_eq_true,if_false];refine tX (wpAny_specialOf (ty ho') F.slot_dict_iter.lookup (tY ?_));simp only[beq_self_eq_true,if_true];refine tX (tY ?_);refine NT hdo hoS hnew ho' hh hz λh' hd' hs'=>?_;show wpAny _ _ (Builtin.Dict.addKeywords s.heap.objs.size [] >>= _) _ _ _;refine tX (tY (tY ⟨rfl,h h' hd' λb u e=>?_⟩));exact(hs'.2 b (tE (nZ e))).trans (gI _ e)
end
section
variable{X:Cx}
end
def UM:Nat->Nat->List (List Int)
 | 0,_=>[[]]
 | m+1,s=>(List.range (s+1)).flatMap λi=>(UM m (s-i)).map λr=>(i:Int)::r
theorem FJ:∀(m s:Nat) (ns:List Int),ns.length=m->(∀n∈ns,0<=n)->ns.sum<=s->ns∈UM m s
 | 0,_,ns,h,_,_=>by rw[List.length_eq_zero_iff.mp h];exact mC.mpr rfl
 | m+1,s,[],h,_,_=>by cases h
 | m+1,s,n::r,h,hp,hs=>by
  have hn:=hp n (mF ..);obtain⟨i,rfl⟩:=Int.eq_ofNat_of_zero_le hn;have hr:0<=r.sum:=by
   have:∀l:List Int,(∀x∈l,0<=x)->0<=l.sum:=λl=>by
    induction l with
    | nil=>exact λ_=>tV _
    | cons a l ih=>
     intro h;have h1:=h a (mF ..);have h2:=ih λx hx=>h x (gR _ hx);rw[nX];omega
   exact this r λx hx=>hp x (gR _ hx)
  rw[nX]at hs;have hi:i<=s:=by omega
  refine List.mem_flatMap.mpr ⟨i,nJ.mpr (by omega),tF.mpr ⟨r, ?_,rfl⟩⟩;exact FJ m (s-i) r (by simpa using h) (λx hx=>hp x (gR _ hx)) (by omega)
def hT(ns:List Int):Int:=reduceHash (Builtin.Tuple.tupleHashOf (ns.map hashInt))
theorem hT1:((UM 1 8).map hT).Nodup:=by decide +kernel
theorem hT2:((UM 2 8).map hT).Nodup:=by decide +kernel
theorem hT3:((UM 3 8).map hT).Nodup:=by decide +kernel
theorem hT4:((UM 4 8).map hT).Nodup:=by decide +kernel
structure PwS(aa:Nat)(ns:List Int):Prop where
 len:ns.length=aa
 nn:∀n∈ns,0<=n
 deg:ns.sum<=8
theorem zH{α β:Type}{f:α->β} :∀{l:List α},(l.map f).Nodup->∀{a b:α},a∈l->b∈l->f a=f b->a=b
 | [],_,_,_,h,_,_=>nomatch h
 | x::r,hn,a,b,ha,hb,e=>by
  rw[nQ,List.nodup_cons]at hn;rcases nT.mp ha with ea | ka
  ·rcases nT.mp hb with eb | kb
   ·rw[ea,eb]
   ·exact absurd (tF.mpr ⟨b,kb,by rw[<-e,ea]⟩) hn.1
  ·rcases nT.mp hb with eb | kb
   ·exact absurd (tF.mpr ⟨a,ka,by rw[e,eb]⟩) hn.1
   ·exact zH hn.2 ka kb e
theorem hT_inj{aa:Nat}(m1:1<=aa)(m4:aa<=4){a b:List Int}(ha:PwS aa a)(hb:PwS aa b)(e:hT a=hT b):a=b:=by
 have h1:=FJ aa 8 a ha.len ha.nn ha.deg;have h2:=FJ aa 8 b hb.len hb.nn hb.deg;have:aa=1∨aa=2∨aa=3∨aa=4:=by omega
 rcases this with rfl | rfl | rfl | rfl
 ·exact zH hT1 h1 h2 e
 ·exact zH hT2 h1 h2 e
 ·exact zH hT3 h1 h2 e
 ·exact zH hT4 h1 h2 e
def KeyS(aa:Nat)(k:List Key):Prop:=∃ns,k=ik ns/\PwS aa ns
theorem QV(P:Program)(w:World)(ns:List Int):(tkd P w).hash (ik ns)=hT ns:=by
 show reduceHash (Builtin.Tuple.tupleHashOf ((ik ns).map (keyH w)))=_;unfold hT
 congr 2
 show List.map (keyH w) (ns.map Sum.inl)=_;rw[tK]
 rfl
theorem XS{P:Program}{w:World}{aa:Nat}(m1:1<=aa)(m4:aa<=4){k k':List Key}(h:KeyS aa k)(h':KeyS aa k')(e:(tkd P w).hash k=(tkd P w).hash k'):k=k':=by
 obtain⟨ns,rfl,hn⟩:=h;obtain⟨ms,rfl,hm⟩:=h';rw[QV,QV]at e;rw[hT_inj m1 m4 hn hm e]
section
variable{X:Cx}
def rDictS:List V->Hp->VK->Prop:=λxs H Q=>∃(a:Addr) (aa:Nat) (ag:List (List Key×V)),xs=[.ref a]/\Rd H a (.dT ag)/\1<=aa/\aa<=4/\(∀p∈ag,KeyS aa p.1)/\New H (.dT ag) Q
theorem FH:CallR X (.type "dict") rDictS:=by
 intro ac s σ H xs us Q I r h;obtain⟨a,aa,ag,rfl,ha,m1,m4,hn,q⟩:=h;obtain⟨u,rfl,ru⟩:=xC r;cases ru;obtain⟨z,lo,ks,rel,dd⟩:=uC I.hok ha;have lz:=Paired.length rel;refine TY lo dd ?_ (by omega) λh' D kk=>?_
 ·have e:=KTkeys rel;obtain⟨_,_,_,_,_,_,_,_,nd⟩:=id dd;have sm:∀x∈ks.map (·.1),KeyS aa x:=λx hx=>by
   rw[<-e]at hx;obtain⟨p,hp,rfl⟩:=tF.mp hx;exact hn p hp
  have:(ks.map λx=>(tkd X.prog X.w).hash x.1)=(ks.map (·.1)).map λk=>(tkd X.prog X.w).hash k:=by rw[tK];rfl
  rw[this];generalize ks.map (·.1)=l at nd sm;refine List.pairwise_map.mpr (List.Pairwise.imp_of_mem (fun {a b} ha hb hab hs=>hab (XS m1 m4 (sm a ha) (sm b hb) hs)) nd)
 ·obtain⟨ob,es,ep,g1,g2,g3,g4,_,g5⟩:=D;refine⟨.ref s.heap.objs.size,_,I.laid (a:=s.heap.objs.size) (o:=.dT ag) (t':=s.toks) kk uU ⟨by omega,beq_eq_false_iff_ne.mpr (Ne.symm (tE I.big)),ks,(KT.keeps rel λc ys e=>?_),ob,es,ep,g1,g2,g3,g4,g5⟩,rfl,q.at (I.hok.fresh uU)⟩;rw[jO (λz=>by rw[z,I.hok.fresh uU]at e;cases e)];exact e
end
section
variable{prog:Program}{w:World}{A:Around}{E:Value->Shared->Prop}{s:Shared}
end
section
variable{X:Cx}
end
section
variable{prog:Program}{w:World}{A:Around}{E:Value->Shared->Prop}{s:Shared}{d it:Addr}{es:Array DictEntry}{ep i:Nat}
end
section
variable{X:Cx}
end
end LwD
namespace Lw
open PySem PySem.Spec PyProof.Rows L2
section
variable{X:Cx}
end
section
variable{X:Cx}
theorem uG{i:Nat}{y:Str}{py spos:Pos}(hN:X.N.Nodup)(hi:X.N[i]? = some y)(hx:Loc X.env.scope y){own:Nat}{idx:List Nat}{N:List Str}{elt target iter:Expr}{scope:Scope}{cl:List (Str×Addr)}{pos:Pos}{wi:TI}{g:TG}{te:TE}(hc:X.calm=true)
  (hk:scope.kind=.function) (hclos:closureFor scope X.env=pure cl) (hcell:∀x∈scope.names,x.2≠.cell) (hnames:∀x∈scope.names,x.2=.local->scope.names.lookup x.1=some .local)
  (hsub:∀x c,cl.lookup x=some c->X.env.cells.lookup x=some c) (hhas:∀x,((relabel scope X.env).names.lookup x=some .cell∨(relabel scope X.env).names.lookup x=some .free)->∃c,cl.lookup x=some c)
  (hlen:N.length=own+idx.length)
  (hidx:∀(k j:Nat) (x:Str),idx[k]? = some j->N[own+k]? = some x->X.N[j]? = some x/\X.env.kindOf x=some .cell/\(relabel scope X.env).names.lookup x=some .cell/\X.env.scope.names.lookup x=some .cell)
  (hit:PI X target iter wi) (hg:∀C fp s2 H2,PG (jK X N scope cl C fp s2 H2) target g) (he:∀C fp s2 H2,PE (jK X N scope cl C fp s2 H2) elt te)
  (hsw:swapsWith (.ListComp elt [⟨target,iter,[],0⟩] scope pos) (some (.Name y py)) spos.line X.env=pure true:=by rfl)
  (hs:∀x,foldedSetIterable iter X.env x=pure x:=by intro _;rfl) (hfn:X.fn y=true∨X.env.scope.names.lookup y=some .local:=by first | exact .inl rfl | exact .inr rfl | assumption):PS X (.Assign [.Name y py] (.ListComp elt [⟨target,iter,[],0⟩] scope pos) spos) (wD (VA own idx wi g te) (kT i)):=by
 intro ac s σ H D I h;rw[exec_Assign_Name_used _ _ _ _ hsw];refine tX (wpAny_standAt (tX ?_));show wpAny _ X.A (do let _<-comprehension (.ListComp elt [⟨target,iter,[],0⟩] scope pos) scope X.env _ (newList []) false (eval iter X.env) (some (assign (.Name y py) X.env))) _ _ s;refine tX (tZ (wpAny_comprehension_free (use:=some (assign (.Name y py) X.env)) (Q:=λ_ s'=>∃σ' H',Inv X ac σ' H' s'/\D.nx σ' H') rfl hs hclos hk hnames (thn (hit ac s σ H _ I h) λv s1 h1=>thn h1 λitv s2 h2=>?_)) (λ_ s' hq=>tY (tY hq)) λ_ _ e=>e);obtain⟨it,fp,tn,J,H1,e,I2,T,st2,f2,hR⟩:=h2;subst e;have hlt:∀b∈fp,b<s2.heap.objs.size:=λb hb=>by
  obtain⟨o,ho,_⟩:=T.obj 0 _ st2 b hb;exact nZ ho
 refine wpAny_newObj_type (wpAny_newFunctionEnv hcell (by intro y hy;simp at hy) (λh₁ hns₁ hsb₁=>?_) hk);dsimp only at hns₁ hsb₁ ⊢;generalize hHH:s2.heap.push { cls:=.type "list",dict:=none,data:=.seq ([]:List Value).toArray } = HH at hns₁ hsb₁ ⊢;have hCe:HH.objs.size=s2.heap.objs.size+1:=by rw[<-hHH,nP]
 have hDC:s2.heap.objs.size≠HH.objs.size:=by rw[hCe];exact tE (mX _)
 have hCle:s2.heap.objs.size<=HH.objs.size:=by rw[hCe];exact Nat.le_succ _
 have old:∀b o,s2.heap.get? b=some o->h₁.get? b=some o:=λb o e=>hsb₁.extBut b o (by rw[hCe];exact tE (Nat.lt_succ_of_lt (nZ e))) (gI _ (hHH▸gI _ e));have hD:h₁.get? s2.heap.objs.size=some { cls:=.type "list",dict:=none,data:=.seq ([]:List Value).toArray } :=hsb₁.extBut _ _ hDC (gI _ (hHH▸gX _ rfl));have nD:H1 s2.heap.objs.size=none:=I2.hok.fresh uU ;obtain⟨W,⟨m0,w0⟩,turn⟩:=hR s2.heap.objs.size _ nD (jY (.lst []) nD) jE;generalize hσ:(List.replicate own none++idx.map λj=>(σ[j]?).getD none:L2.St)=σ0 at turn;have lσ:σ0.length=N.length:=by rw[<-hσ,hU,gM,mZ,hlen]
 have ok:=yP (N:=N) (cl:=cl) (C:=HH.objs.size) I2 hk hsub hhas hCle f2 hlt;have oldC:∀c v,s2.heap.IsCell c v->h₁.IsCell c v:=λc v ⟨o,ho,hd⟩=>⟨o,old c o ho,hd⟩;have I4:Inv (jK X N scope cl HH.objs.size fp s2 H1) [] σ0 (upd H1 s2.heap.objs.size (.lst [])) { s2 with heap:=h₁,toks:=s2.toks+([]:List (Str×Value)).length } :=by
  refine⟨ok,rfl,I2.bare,Un.laid old uU nD,⟨_,hns₁,λi x v e1 e2 _=>?_⟩,(λx c z=>?_), ?_,(λx c z=>?_),(λp hp=>nomatch hp),I2.hok.laid old uU ?_,lσ⟩
  ·
   rw[<-hσ]at e2;by_cases hi':i<own
   ·rw[gD (by rw[gM];exact hi'),List.getElem?_replicate]at e2;split at e2<;>cases e2
   ·obtain⟨k,rfl⟩:∃k,i=own+k:=⟨i-own,by omega⟩;rw[uZ (by rw[gM];omega),gM,Nat.add_sub_cancel_left,mH]at e2;cases ej:idx[k]? with
    | none=>rw[ej]at e2;cases e2
    | some j=>
     rw[ej,Option.map_some]at e2;have e2:=Option.some.inj e2;obtain⟨n1,n2,n3,n4⟩:=hidx k j x ej e1;have e3:σ[j]? = some (some v):=by
      cases q:σ[j]? with
      | none=>rw[q]at e2;cases e2
      | some y=>rw[q,Option.getD_some]at e2;rw[e2]
     obtain⟨m,hm,hl⟩:=I2.loc;obtain⟨u,ru,lk⟩:=hl j x v n1 e3 (.inr (.inl n4));refine⟨u,ru, ?_⟩;rcases lk with⟨kl,_⟩ | ⟨_,c,hcl,hic⟩
     ·rw[n2]at kl;cases kl
     ·obtain⟨c',hc'⟩:=hhas x (.inl n3);have:c'=c:=Option.some.inj ((hsub x c' hc').symm.trans hcl);subst this;exact .inr ⟨.inl n3,c',hc',oldC _ _ hic⟩
  ·obtain⟨v,hv⟩:=I2.cell x c (hsub x c z);exact⟨v,oldC _ _ hv⟩
  ·show(upd H1 s2.heap.objs.size (.lst [])) HH.objs.size=none;rw[jO (Ne.symm hDC)];exact I2.hok.fresh hCle
  ·obtain⟨v,hv⟩:=I2.cell x c (hsub x c z);show(upd H1 s2.heap.objs.size (.lst [])) c=none;rw[jO (tE hv.lt)];exact I2.freeC x c (hsub x c z)
  ·exact⟨by show 0<=sizeLine;decide,[],0,.nil,hD⟩
 have stat:∀{H':Hp},(∀b∈fp,H' b=none)->∀b∈fp,FpOk (jK X N scope cl HH.objs.size fp s2 H1) [] H' b:=λhn b hb=>
  ⟨hn b hb,(ok.exf b hb).1,ok.exfs b hb,.inl hb,(ok.exf b hb).2,λp hp=>nomatch hp⟩
 have st4:tn 0 h₁:=T.keep _ _ _ st2 λb _ o e=>old b o e;have fr4:∀b∈fp,(upd H1 s2.heap.objs.size (.lst [])) b=none:=λb hb=>by
  rw[jO (tE (hlt b hb))];exact(f2 b hb).1
 have loop:codeAny (model X.prog X.w) X.A (.compLoop (.ListComp elt [⟨target,iter,[],0⟩] scope pos) 0 (.ref it) (.ref s2.heap.objs.size) (compEnvC scope cl HH.objs.size X.env))
   (compPost (model X.prog X.w) X.A X.xe (some (assign (.Name y py) X.env)) (λ_ s'=>∃σ' H',Inv X ac σ' H' s'/\D.nx σ' H') (.ref s2.heap.objs.size) HH.objs.size) { s2 with heap:=h₁,toks:=s2.toks+([]:List (Str×Value)).length } :=by
  refine zX (λn s'=>∃i ys H',Inv (jK X N scope cl HH.objs.size fp s2 H1) [] σ0 H' s'/\tn i s'.heap/\(∀b∈fp,H' b=none)/\W i n ys H') ?_ m0 ⟨0,[],_,I4,st4,fr4,w0⟩;rintro n s3 ⟨i,ys,H3,I3,st3,fr3,w3⟩;obtain⟨hp3,hz3,hw⟩:=turn i n ys H3 w3;rcases hw with⟨stop,qn⟩ | ⟨go,step⟩
  ·refine thn (T.done (jK X N scope cl HH.objs.size fp s2 H1) rfl rfl rfl hc i [] s3 _ H3 _ I3 (stat fr3) st3 stop) λr s4 ⟨hr,I5⟩=>?_;subst hr;obtain⟨m,hm,_⟩:=id I5.loc;have U:=I5.base;have fC:H3 HH.objs.size=none:=I5.free;have IX:Inv X ac σ H3 s4:=I2.call' (ch:=fp) (s':=s4) I5.os U I5.hok I5.bare (λb hb=>⟨(f2 b hb).2.2.2.1,(f2 b hb).2.1,(f2 b hb).2.2.2.2.1,(f2 b hb).2.2.2.2.2⟩);have ltC:∀b,b<s2.heap.objs.size->b≠HH.objs.size:=λb hb=>tE (mB hb hCle);show wpAny _ X.A (assign (.Name y py) X.env (.ref s2.heap.objs.size)) _ _ s4;refine wpAny_assign_Name (AW IX hN hi hx (v:=.ref s2.heap.objs.size) rfl (λs5 I6 ⟨a,sb,ha⟩=>?_) hfn);have aC:a≠HH.objs.size:=by
    rcases ha with ha | ha
    ·rw[ha];exact ltC _ I2.lt
    ·obtain⟨v,hv⟩:=I2.cell y a ha;exact ltC _ hv.lt
   refine⟨m,hm.sameBut sb (Ne.symm aC),λh' sb'=>⟨_,H3, ?_,qn⟩⟩;refine I6.turned (it:=HH.objs.size) (t':=s5.toks) (λb o hb e=>sb'.extBut b o hb e) fC (Ne.symm (ltC _ I2.lt)) (.inr (tD I2.sz hCle)) (λx c hc=>?_) (λp hp=>?_)
   ·obtain⟨v,hv⟩:=I2.cell x c hc;exact ltC _ hv.lt
   ·exact ltC _ (nZ (I2.pin p hp).1)
  ·refine tZ (T.item (jK X N scope cl HH.objs.size fp s2 H1) rfl rfl rfl hc i [] s3 _ H3 (λ_ _=>False) I3 (stat fr3) st3 go) (λr s4 ⟨u,hr,h4⟩=>?_) λ_ _ z=>z.elim;subst hr;refine tZ h4 (λ_ s5 ⟨x,H5,I5,r5,y5,st5,fr5⟩=>?_) λ_ _ z=>z.elim;have I5':=I5.pinned (stat fr5) (T.obj _ _ st5);refine tZ (hg _ _ _ _ _ s5 _ H5 x u _ I5' r5 (step x H5 y5)) (λ_ s6 ⟨σ6,H6,I6,kp6,q6⟩=>?_) λ_ _ z=>z.elim;refine tZ (he _ _ _ _ _ s6 σ6 H6 _ I6 q6) (λy s7 ⟨yv,H7,I7,r7,q7⟩=>?_) λ_ _ z=>z.elim;obtain⟨e7,m',hm',w7⟩:=q7;refine tZ (qZ (X:=jK X N scope cl HH.objs.size fp s2 H1) _ s7 σ6 H7 (.ref s2.heap.objs.size) [yv] (.ref s2.heap.objs.size) [y] (λ_ H8=>H8=upd H7 s2.heap.objs.size (.lst (ys++[yv]))) I7 rfl (.cons r7 .nil) ⟨_,ys,yv,rfl,rfl,e7,hz3,rfl⟩) (λ_ s8 ⟨_,H8,I8,_,q8⟩=>?_) λ_ _ z=>z.elim;subst q8;refine⟨m',hm',i+1,_,_,(I8.unpinned).weak (by rw[lσ,I8.len];rfl) kp6,T.keep _ _ _ st5 λb hb o e=>(I8.pin (b,o) (gL _ (gL _ (kA hb e)))).1,λb hb=>?_,w7⟩;obtain⟨o,e,d⟩:=T.obj _ _ st5 b hb;exact(I8.pin (b,o) (gL _ (gL _ (kA hb e)))).2.1
 exact codeAny_compStart_list loop (T.self _ 0 _ _ _ st4 loop)
end
section
variable{prog:Program}{w:World}{A:Around}{R:Result->Shared->Prop}{s:Shared}
theorem wR{elt target iter c:Expr}{scope:Scope}{pos:Pos}{it acc:Value}{env:Env}(I:Nat->Shared->Prop)
  (turn:∀n s,I n s->wpAny (model prog w) A (pyNext it) (λr s₁=>match r with
   | none=>R (.ok .next) s₁
   | some v=>wpAny (model prog w) A (letOwnedTupleGo target it v) (λ_ s₁'=>wpAny (model prog w) A (assign target env v) (λ_ s₂=>wpAny (model prog w) A (isTrue c env (eval c env)) (λb s₂'=>if b=true then wpAny (model prog w) A (eval elt env) (λx s₃=>
     wpAny (model prog w) A (call (.builtin "list.append") [acc,x]) (λ_ s₄=>∃m,m<n/\I m s₄) (notedBy (model prog w) A env λe s'=>R (.error e) s') s₃)
     (notedBy (model prog w) A env λe s'=>R (.error e) s') s₂' else ∃m,m<n/\I m s₂') (notedBy (model prog w) A env λe s'=>R (.error e) s') s₂) (notedBy (model prog w) A env λe s'=>R (.error e) s') s₁') (notedBy (model prog w) A env λe s'=>R (.error e) s') s₁) (notedBy (model prog w) A env λe s'=>R (.error e) s') s)
  (n:Nat) (h:I n s) :
  codeAny (model prog w) A (.compLoop (.ListComp elt [⟨target,iter,[c],0⟩] scope pos) 0 it acc env) R s:=by
 refine codeAny_loop rfl I (λn s hI=>?_) n h;show wpAny _ _ ((compTurn (.ListComp elt [⟨target,iter,[c],0⟩] scope pos) 0 it acc env).onRaise (λx=>do noteFrame x env;theTreesLotGoes x)) _ _ s;refine wpAny_noted ?_;rw[compTurn_list];refine tX (wpAny_standAt (tX (tZ (turn n s hI) (λr s₁ h₁=>?_) λ_ _ h'=>h')));cases r with
 | none=>exact tY h₁
 | some v=>
  refine tX (tZ h₁ (λ_ s₁' h₁'=>?_) λ_ _ h'=>h');refine tX (tZ h₁' (λ_ s₂ h₂=>?_) λ_ _ h'=>h');refine tX ?_;rw[List.forIn_cons];dsimp only;rw[dC rfl];refine tX (tX (tZ h₂ (λb s₂' hb=>tY ?_) λ_ _ h'=>h'));dsimp only;rw[List.forIn_nil];refine tY ?_;cases b with
  | true=>
   rw[dC rfl]at hb ⊢;refine tX ?_;exact(tX (tZ hb (λx s₃ h₃=>tX (tZ h₃
    (λ_ s₄ h₄=>tY (tY ⟨rfl,h₄⟩)) λ_ _ h'=>h')) λ_ _ h'=>h'))
  | false=>
   rw[dA hV]at hb ⊢;exact tY ⟨rfl,hb⟩
end
def CompGoI(n:Nat)(J:It)(g:TG)(tt:TT)(te:TE)(Q:VK)(p:Addr)(H':Hp):Prop:=
 ∃W:Nat->Nat->List V->Hp->Prop,(∃m,W 0 m [] H')/\∀i m ys H2,W i m ys H2->H2 p=some (.lst ys)/\ys.length<sizeLine/\
  ((J.stop i H2/\Q (.ref p) H2)∨(J.go i H2/\∀x H3,J.yld i H2 x H3->g x (List.replicate n none) H3 fun σ4 H4=>tt σ4 H4 λb H5=>if b=true then te σ4 H5 λy H6=>H6 p=some (.lst ys)/\∃m',m'<m/\W (i+1) m' (ys++[y]) (upd H6 p (.lst (ys++[y])))else ∃m',m'<m/\W (i+1) m' ys H5))
def UZ(n:Nat)(wi:TI)(g:TG)(tt:TT)(te:TE):TE:=fun σ H Q=>wi σ H λJ H1=>∀p H',H1 p=none->Same H1 H'->H' p=some (.lst [])->CompGoI n J g tt te Q p H'
section
variable{X:Cx}
theorem WF{N:List Str}{elt target iter c:Expr}{scope:Scope}{pos:Pos}{wi:TI}{g:TG}{tt:TT}{te:TE}(hc:X.calm=true)
  (hk:scope.kind=.function) (hn:∀x,scope.names.lookup x≠some .cell/\scope.names.lookup x≠some .free) (hfree:∀x∈scope.names,x.2≠.free) (hcell:∀x∈scope.names,x.2≠.cell) (hnames:∀x∈scope.names,x.2=.local->scope.names.lookup x.1=some .local)
  (hi:PI X target iter wi) (hg:∀C fp s2 H2,PG (kW X N scope C fp s2 H2) target g) (ht:∀C fp s2 H2,PT (kW X N scope C fp s2 H2) c tt) (he:∀C fp s2 H2,PE (kW X N scope C fp s2 H2) elt te)
  (hs:∀x,foldedSetIterable iter X.env x=pure x:=by intro _;rfl):PE X (.ListComp elt [⟨target,iter,[c],0⟩] scope pos) (UZ N.length wi g tt te):=by
 intro ac s σ H Q I h;refine wpAny_ListComp hfree hk hnames (thn (hi ac s σ H _ I h) λv s1 h1=>thn h1 λitv s2 h2=>?_) hs;obtain⟨it,fp,tn,J,H1,e,I2,T,st2,f2,hR⟩:=h2;subst e;have hlt:∀b∈fp,b<s2.heap.objs.size:=λb hb=>by
  obtain⟨o,ho,_⟩:=T.obj 0 _ st2 b hb;exact nZ ho
 refine wpAny_newObj_type (wpAny_newFunctionEnv hcell (by intro y hy;simp at hy) (λh₁ hns₁ hsb₁=>?_) hk);dsimp only at hns₁ hsb₁ ⊢;generalize hHH:s2.heap.push { cls:=.type "list",dict:=none,data:=.seq ([]:List Value).toArray } = HH at hns₁ hsb₁ ⊢;have hCe:HH.objs.size=s2.heap.objs.size+1:=by rw[<-hHH,nP]
 have hDC:s2.heap.objs.size≠HH.objs.size:=by rw[hCe];exact tE (mX _)
 have hCle:s2.heap.objs.size<=HH.objs.size:=by rw[hCe];exact Nat.le_succ _
 have old:∀b o,s2.heap.get? b=some o->h₁.get? b=some o:=λb o e=>hsb₁.extBut b o (by rw[hCe];exact tE (Nat.lt_succ_of_lt (nZ e))) (gI _ (hHH▸gI _ e));have hD:h₁.get? s2.heap.objs.size=some { cls:=.type "list",dict:=none,data:=.seq ([]:List Value).toArray } :=hsb₁.extBut _ _ hDC (gI _ (hHH▸gX _ rfl));have nD:H1 s2.heap.objs.size=none:=I2.hok.fresh uU ;obtain⟨W,⟨m0,w0⟩,turn⟩:=hR s2.heap.objs.size _ nD (jY (.lst []) nD) jE;have ok:=HM (N:=N) (C:=HH.objs.size) I2 hk hn hCle f2 hlt;have I4:Inv (kW X N scope HH.objs.size fp s2 H1) [] (List.replicate N.length none) (upd H1 s2.heap.objs.size (.lst [])) { s2 with heap:=h₁,toks:=s2.toks+([]:List (Str×Value)).length } :=by
  refine⟨ok,rfl,I2.bare,Un.laid old uU nD,⟨_,hns₁,λi x v _ e2 _=>?_⟩,(λx c z=>nomatch z), ?_,(λx c z=>nomatch z),(λp hp=>nomatch hp),I2.hok.laid old uU ?_,by rw[gM];rfl⟩
  ·rw[List.getElem?_replicate]at e2;split at e2<;>cases e2
  ·show(upd H1 s2.heap.objs.size (.lst [])) HH.objs.size=none;rw[jO (Ne.symm hDC)];exact I2.hok.fresh hCle
  ·exact⟨by show 0<=sizeLine;decide,[],0,.nil,hD⟩
 have stat:∀{H':Hp},(∀b∈fp,H' b=none)->∀b∈fp,FpOk (kW X N scope HH.objs.size fp s2 H1) [] H' b:=λhn b hb=>
  ⟨hn b hb,(ok.exf b hb).1,ok.exfs b hb,.inl hb,(ok.exf b hb).2,λp hp=>nomatch hp⟩
 have st4:tn 0 h₁:=T.keep _ _ _ st2 λb _ o e=>old b o e;have fr4:∀b∈fp,(upd H1 s2.heap.objs.size (.lst [])) b=none:=λb hb=>by
  rw[jO (tE (hlt b hb))];exact(f2 b hb).1
 have loop:codeAny (model X.prog X.w) X.A (.compLoop (.ListComp elt [⟨target,iter,[c],0⟩] scope pos) 0 (.ref it) (.ref s2.heap.objs.size) (compEnv scope HH.objs.size X.env))
   (λr s'=>∃m,s'.heap.Ns HH.objs.size m/\∀h',Heap.SameBut HH.objs.size s'.heap h'->
      match r with | .ok _=>EP X ac σ Q (.ref s2.heap.objs.size) { s' with heap:=h' } | .error x=>wpAny (model X.prog X.w) X.A (passOn "comprehension.variables-let-go" x (compEnv scope HH.objs.size X.env)) (EP X ac σ Q) X.xe { s' with heap:=h' })
   { s2 with heap:=h₁,toks:=s2.toks+([]:List (Str×Value)).length } :=by
  refine wR (λn s'=>∃i ys H',Inv (kW X N scope HH.objs.size fp s2 H1) [] (List.replicate N.length none) H' s'/\tn i s'.heap/\(∀b∈fp,H' b=none)/\W i n ys H') ?_ m0 ⟨0,[],_,I4,st4,fr4,w0⟩;rintro n s3 ⟨i,ys,H3,I3,st3,fr3,w3⟩;obtain⟨hp3,hz3,hw⟩:=turn i n ys H3 w3;rcases hw with⟨stop,qn⟩ | ⟨go,step⟩
  ·refine thn (T.done (kW X N scope HH.objs.size fp s2 H1) rfl rfl rfl hc i [] s3 _ H3 _ I3 (stat fr3) st3 stop) λr s4 ⟨hr,I5⟩=>?_;subst hr;obtain⟨m,hm,_⟩:=id I5.loc;refine⟨m,hm,λh' sb=>⟨.ref s2.heap.objs.size,H3, ?_,rfl,qn⟩⟩;have k:∀b o,b≠HH.objs.size->s4.heap.get? b=some o->h'.get? b=some o:=λb o hb e=>sb.extBut b o hb e;have nb:∀b o,s2.heap.get? b=some o->b≠HH.objs.size:=λb o e=>by rw[hCe];exact tE (Nat.lt_succ_of_lt (nZ e))
   have U:=I5.base;have fC:H3 HH.objs.size=none:=I5.free;refine I2.call' (ch:=fp) (s':={ s4 with heap:=h' }) I5.os ⟨λb o e n hb hx=>k b o (nb b o e) (U.keep b o e n hb hx),λb o e n hb hx=>?_,U.free,λb o e hx=>?_,U.tups,U.frzs,U.tbls⟩ (λb u e=>?_) I5.bare (λb hb=>⟨(f2 b hb).2.2.2.1,(f2 b hb).2.1,(f2 b hb).2.2.2.2.1,(f2 b hb).2.2.2.2.2⟩)
   ·obtain⟨sl,q⟩:=U.slot b o e n hb hx;exact⟨sl,k b _ (nb b o e) q⟩
   ·obtain⟨o',q⟩:=U.there b o e hx;exact⟨o',k b _ (nb b o e) q⟩
   ·refine(I5.hok b u e).stay (λc v hcc q=>k c v ?_ q) (λ_ q=>q) λ_ _ q=>q;rcases hcc with z | z
    ·rw[z];intro y;rw[y,fC]at e;cases e
    ·intro y;rw[y,fC]at z;cases z
  ·refine tZ (T.item (kW X N scope HH.objs.size fp s2 H1) rfl rfl rfl hc i [] s3 _ H3 (λ_ _=>False) I3 (stat fr3) st3 go) (λr s4 ⟨u,hr,h4⟩=>?_) λ_ _ z=>z.elim;subst hr;refine tZ h4 (λ_ s5 ⟨x,H5,I5,r5,y5,st5,fr5⟩=>?_) λ_ _ z=>z.elim;have I5':=I5.pinned (stat fr5) (T.obj _ _ st5);refine tZ (hg _ _ _ _ _ s5 _ H5 x u _ I5' r5 (step x H5 y5)) (λ_ s6 ⟨σ6,H6,I6,q6⟩=>?_) λ_ _ z=>z.elim;refine tZ (ht _ _ _ _ _ s6 σ6 H6 _ I6 q6) (λb s6' ⟨H6',I6',q6'⟩=>?_) λ_ _ z=>z.elim;cases b with
   | false=>
    rw[dA hV]at q6' ⊢;obtain⟨m',hm',w7⟩:=q6';refine⟨m',hm',i+1,_,_,(I6'.unpinned).weak (by rw[gM,I6'.len];rfl) (λj v ev=>?_),T.keep _ _ _ st5 λb hb o e=>(I6'.pin (b,o) (gL _ (gL _ (kA hb e)))).1,λb hb=>?_,w7⟩
    ·rw[List.getElem?_replicate]at ev;split at ev<;>cases ev
    ·obtain⟨o,e,d⟩:=T.obj _ _ st5 b hb;exact(I6'.pin (b,o) (gL _ (gL _ (kA hb e)))).2.1
   | true=>
    rw[dC rfl]at q6' ⊢;refine tZ (he _ _ _ _ _ s6' σ6 H6' _ I6' q6') (λy s7 ⟨yv,H7,I7,r7,q7⟩=>?_) λ_ _ z=>z.elim;obtain⟨e7,m',hm',w7⟩:=q7;refine tZ (qZ (X:=kW X N scope HH.objs.size fp s2 H1) _ s7 σ6 H7 (.ref s2.heap.objs.size) [yv] (.ref s2.heap.objs.size) [y] (λ_ H8=>H8=upd H7 s2.heap.objs.size (.lst (ys++[yv]))) I7 rfl (.cons r7 .nil) ⟨_,ys,yv,rfl,rfl,e7,hz3,rfl⟩) (λ_ s8 ⟨_,H8,I8,_,q8⟩=>?_) λ_ _ z=>z.elim;subst q8;refine⟨m',hm',i+1,_,_,(I8.unpinned).weak (by rw[gM,I8.len];rfl) (λj v ev=>?_),T.keep _ _ _ st5 λb hb o e=>(I8.pin (b,o) (gL _ (gL _ (kA hb e)))).1,λb hb=>?_,w7⟩
    ·rw[List.getElem?_replicate]at ev;split at ev<;>cases ev
    ·obtain⟨o,e,d⟩:=T.obj _ _ st5 b hb;exact(I8.pin (b,o) (gL _ (gL _ (kA hb e)))).2.1
 exact codeAny_compStart_list loop (T.self _ 0 _ _ _ st4 loop)
end
end Lw
namespace LwD
open PySem PySem.Spec PyProof.Rows L2 Lw
section
variable{prog:Program}{w:World}{A:Around}{E:Value->Shared->Prop}{s:Shared}
end
section
variable{X:Cx}
end
section
variable{X:Cx}{k v:Expr}{tk tv:TE}{pos:Pos}
def tDisp1(tk tv:TE):TE:=fun σ H Q=>∀p,H p=none->tk σ (upd H p (.dT [])) λx H1=>tv σ H1 λy H2=>H2 p=some (.dT [])/\∃(b:Addr) (ks:List Key),x=.ref b/\H2 b=some (.tup (ks.map kV))/\Q (.ref p) (upd H2 p (.dT [(ks,y)]))
theorem EI(hu:X.A.units<cLine)(hk:PE X k tk)(hv:PE X v tv):PE X (.Dict [some k] [v] pos) (tDisp1 tk tv):=by
 intro ac s σ H Q I q;have hn:=I.hok.fresh (tP s.heap.objs.size);have I1:=I.laid (a:=s.heap.objs.size) (o:=.dT []) (h':=s.heap.push { cls:=.type "dict",data:=.dict #[] }) (t':=s.toks) (λ_ _ q=>gI _ q) uU (LU s.heap I.big);refine wpAny_Dict_any rfl rfl (by simp) (by simp) (pairTrees_cons_walk (thn (hk ac _ σ _ _ I1 (q _ hn)) λu s1 ⟨x,H1,I2,rx,q1⟩=>thn (hv ac s1 σ H1 _ I2 q1) λu2 s2 ⟨y,H2,I3,ry,e,b,ks,ex,eb,q2⟩=>pairTrees_nil_walk ?_));subst ex;cases rx;unfold storeAll;rw[List.forIn_cons];obtain⟨z,hd,xs,rel,dd⟩:=RC I3.hok e;cases rel;refine tX (tX (wpAny_dictSet_heap (hsz:=by decide) (knd:=tkd X.prog X.w) hu (wO I3.hok eb) dd λh' dd' hs=>tY ?_));dsimp only;rw[List.forIn_nil];refine tY ⟨.ref s.heap.objs.size,_, ?_,rfl,q2⟩;obtain⟨o,es,ep,hq,h2,h3,h4,_,h5⟩:=dd';refine CZ I3 (by rw[e];exact True.intro) hs ⟨o,hq⟩ ⟨show 1<=sizeLine by decide,hd,_, ?_,o,es,ep,hq,h2,h3,h4,h5⟩;refine .cons ⟨rfl, ?_,ry⟩ .nil;rw[jO (XC eb e (λz=>nomatch z))];exact eb
end
end LwD
namespace L2
open PySem PySem.Spec PyProof.Rows
def Itel(K:dD)(a:Addr):It:=
 ⟨λi H=>∃xs x,SqL K H a xs/\xs[i]? = some x,
  λi H v H'=>∃p x,H p=none/\v=.ref p/\H'=upd H p (.tup [.int i,x])/\(∀xs,SqL K H a xs->xs[i]? = some x),
  λi H=>∃xs,SqL K H a xs/\xs.length<=i⟩
theorem MT{P:Program}{w:World}{K:dD}{es:List Expr}{x1}{pos:Pos}(l:Addr){e it:Addr}(hne:e≠it):Turn P w K (.Tuple es x1 pos) (Itel K l) [e,it] e (λi h=>(∃old,IsEnum h e it i old)/\h.IsListIter it l i) where
 mem:=by simp
 obj:=λi h Z b hb=>by
  simp only[nT,mS,or_false]at hb;obtain⟨⟨old,he⟩,⟨o1,g1,c1,d1⟩⟩:=Z;rcases hb with rfl | rfl
  ·exact⟨_,he,λv q=>by cases (show Data.fields _=Data.cell v from q)⟩
  ·exact⟨_,g1,λv q=>by rw[d1]at q;cases q⟩
 keep:=λi h h' Z k=>by
  obtain⟨⟨old,he⟩,s1⟩:=Z;exact⟨⟨old,k e (by simp) _ he⟩,Heap.IsListIter.at s1 λo y=>k it (by simp) o y⟩
 item:=by
  intro X hP hw hK hc i ac s σ H E I hf Z hg;subst hP hw hK;obtain⟨xs,x,q1,hx⟩:=hg;obtain⟨its1,r1,p1,_⟩:=I.list q1;obtain⟨u1,hu1,ru1⟩:=r1.get hx;obtain⟨⟨old,he⟩,hit⟩:=id Z;have ae:l≠e:=FpOk.apartL I (hf e (by simp)) q1;have ai:l≠it:=FpOk.apartL I (hf it (by simp)) q1;refine wpAny_pyNext_enum_item he hit p1.isList (x:=u1) (by simpa using hu1) hne λg out n1 nu _ kk=>⟨_,rfl, ?_⟩;refine wpAny_letOwnedTupleGo_enum out λg2 z2 sb=>?_;have fr:H s.heap.objs.size=none:=I.hok.fresh uU ;have el:e<s.heap.objs.size:=nZ he;have il:it<s.heap.objs.size:=by obtain⟨_,y,_⟩:=hit;exact nZ y
  have fp:∀b∈[e,it],FpOk X ac (upd H s.heap.objs.size (.tup [.int i,x])) b:=λb hb=>by
   have lt:b≠s.heap.objs.size:=by
    simp only[nT,mS,or_false]at hb;rcases hb with rfl | rfl
    ·exact tE el
    ·exact tE il
   exact⟨by rw[jO lt];exact(hf b hb).1,(hf b hb).2⟩
  have I1:Inv X ac σ (upd H s.heap.objs.size (.tup [.int i,x])) { s with heap:=s.heap.push { cls:=.type "tuple",data:=.seq #[.int i s.toks,u1] } } :=I.laid (t':=s.toks) (λb u e=>gI _ e) uU ⟨by simp [sizeLine],[.int i s.toks,u1],.cons ⟨_,rfl⟩ (.cons ru1 .nil),⟨_,gX _ rfl,rfl,_,rfl⟩,.of (gX _ rfl) rfl⟩;have up:∀c o,c≠e->g.get? c=some o->g2.get? c=some o:=λc o cz y=>sb.extBut _ _ cz y;have I2:Inv X ac σ (upd H s.heap.objs.size (.tup [.int i,x])) { s with heap:=g2,toks:=s.toks+1 } :=by
   refine Inv.turnedL (s:={ s with heap:=s.heap.push { cls:=.type "tuple",data:=.seq #[.int i s.toks,u1] } }) (h':=g2) (t':=s.toks+1) I1 fp λb o hb y=>?_;simp only[nT,mS,or_false,not_or]at hb;rcases Heap.get?_push_cases y with⟨e1,e2⟩ | e1
   ·rw[e1,e2];exact up _ _ (Nat.ne_of_gt el) nu
   ·exact up _ _ hb.1 (kk b o hb.1 hb.2 e1)
  exact⟨.ref s.heap.objs.size,_,I2,rfl,⟨_,x,fr,rfl,rfl,λxs' h=>by rw[I.list_inj h q1];exact hx⟩,⟨⟨_,by simpa using z2⟩,Heap.IsListIter.at n1 λo y=>up _ o (Ne.symm hne) y⟩,λb hb=>(fp b hb).1⟩
 done:=by
  intro X hP hw hK hc i ac s σ H E I hf Z hg;subst hP hw hK;obtain⟨xs,q1,hl⟩:=hg;obtain⟨its1,r1,p1,_⟩:=I.list q1;obtain⟨⟨old,he⟩,hit⟩:=id Z;have e1:=r1.length;refine wpAny_pyNext_enum_end (I.ok.hd hc) he hit p1.isList (by simp;omega) λg eb=>⟨rfl,Inv.turnedL (t':=s.toks) I hf λb o hb y=>eb b o (λz=>hb (by simp [z])) y⟩
 self:=λ_ _ _ _ _ Z h=>by
  obtain⟨⟨old,he⟩,_⟩:=Z;exact wpAny_pyIter_enum he h
section
variable{X:Cx}
def iEnumL(K:dD)(ta:TA):TI:=fun σ H R=>ta σ H λvs H1=>∃a,vs=[.ref a]/\(∃xs,SqL K H1 a xs)/\R (Itel K a) H1
theorem AG{es:List Expr}{x1}{tp:Pos}{a:Expr}{ta:TA}{p pos:Pos}(hg:Gl X "enumerate")(hm:X.mg "enumerate" = none)(ha:PA X [a] ta)(hs:starEach [a] X.env=[(false,eval a X.env)]:=by rfl) :
  PI X (.Tuple es x1 tp) (.Call (.Name "enumerate" p) [a] [] pos) (iEnumL X.K ta):=by
 intro ac s σ H R I h;refine Call_ (zA I hg hm (show bootBuiltins "enumerate" = some (.type "enumerate") by decide +kernel) (PyProof.Rows.callWith_type1 (thn (ha pos ac s σ H _ I h) λus s1 ⟨vs,H1,I1,r1,q1⟩=>?_) hs rfl));obtain⟨l1,e,⟨xs,q1⟩,q⟩:=q1;subst e;obtain⟨u,rfl,ru⟩:=xC r1;cases ru;obtain⟨its1,_,p1,_⟩:=I1.list q1;refine call_enumerate_list p1.isList λg he hit _ k=>wpAny_pyIter_enum he ?_;refine⟨_,[s1.heap.objs.size+1,s1.heap.objs.size],_,_,H1,rfl,I1.kept (t':=s1.toks) k,MT l1 (Nat.ne_of_gt (mX _)),⟨⟨_,he⟩,hit⟩,λb hb=>?_,q⟩;have hb':s1.heap.objs.size<=b:=by
  simp only[nT,mS,or_false]at hb;rcases hb with rfl | rfl<;>first | exact Nat.le_add_right _ _ | exact tP _
 exact I1.fpOk hb' (I1.hok.fresh hb')
end
section
variable{prog:Program}{w:World}{A:Around}{E:Value->Shared->Prop}{s:Shared}
theorem SN{r:Addr}{n:Int}{t u v:Tok}{Q:Value->Shared->Prop}(hr:IsRange s.heap r 0 n 1 t u v)(h0:0<=n)(h1:n<2^62)
  (h:Q (.ref s.heap.objs.size) { s with heap:=s.heap.push { cls:=.type "range_iterator",data:=.fields #[rawInt (n-1),rawInt n,rawInt (-1)] } }) :
  wpAny (model prog w) A (call (.builtin "range.__reversed__") [.ref r]) Q E s:=by
 have hT:s.TypeIs (.ref r) "range":=⟨_,hr,rfl⟩;refine wpAny_call_entry F.slot_range_reversed hT F.entry_range_reversed ?_ (F.args_range_reversed_1 _);unfold Builtin.«range.__reversed__»;refine tX (wpAny_of_eq (a:=Value.ref r) rfl ?_);have rf:∀{Q':Int×Int×Int->Shared->Prop} {E':Value->Shared->Prop},Q' (0,n,1) s->wpAny (model prog w) A.in1 (Builtin.Range.rangeFields (.ref r)) Q' E' s:=fun {Q' E'} hq=>by
  unfold Builtin.Range.rangeFields;refine tX (wpAny_field hr rfl (x:=.int 0 t) rfl (tX (tY ?_)));refine tX (wpAny_field hr rfl (x:=.int n u) rfl (tX (tY ?_)));refine tX (wpAny_field hr rfl (x:=.int 1 v) rfl (tX (tY ?_)));exact tY hq
 refine tX (rf ?_);have sz:Builtin.Range.rangeSize 0 n 1=n:=by rw[rangeSize_one];split<;>omega
 have sm:(Builtin.Range.rangeFitsLong 0&&Builtin.Range.rangeFitsLong n&&Builtin.Range.rangeFitsLong 1&&Builtin.Range.rangeFitsLong (-1)&&Builtin.Range.rangeFitsLong (0-1)&&Builtin.Range.rangeFitsLong n)=true:=by
  simp only[Builtin.Range.rangeFitsLong,Bool.and_eq_true,decide_eq_true_eq];omega
 dsimp only;rw[sz,sm];rw[dA (by decide)];have e:0+(n-1)*1=n-1:=by omega
 rw[e];exact tX (wpAny_newObj_type (tY ⟨_,rfl,h⟩))
theorem YZ{r:Addr}{n:Int}{t u v:Tok}{Q₁:Value->Shared->Prop}(hr:IsRange s.heap r 0 n 1 t u v)(h0:0<=n)(h1:n<2^62)
  (h:Q₁ (.ref s.heap.objs.size) { s with heap:=s.heap.push { cls:=.type "range_iterator",data:=.fields #[rawInt (n-1),rawInt n,rawInt (-1)] } }) :
  codeAny (model prog w) A (.call (.builtin "reversed.__new__") ⟨[.type "reversed",.ref r],[]⟩) (wants Q₁ E) s:=by
 have hT:s.TypeIs (.ref r) "range":=⟨_,hr,rfl⟩;refine codeAny_of_tree ?_;show wpAny _ A.in1 (do checkBuiltinCall "reversed.__new__" ⟨[.type "reversed",.ref r],[]⟩;again (.builtin "reversed.__new__" ⟨[.type "reversed",.ref r],[]⟩)) _ _ s;refine tX (wpAny_of_eq (F.newCall_reversed_1 _) (tY ⟨plainId_quiet F.plain_reversed_new _,codeAny_builtin F.entry_reversed_new ?_⟩));rw[Around.under_plainId F.plain_reversed_new _];unfold Builtin.«reversed.__new__»;refine tX (wpAny_of_eq (newClass_reversed _) ?_);try dsimp only
 refine tX (wpAny_of_eq (a:=()) (by first | rfl | kernel_rfl) ?_);refine tX (wpAny_of_eq (a:=()) (by first | rfl | kernel_rfl) ?_);try dsimp only
 refine tX (wpAny_specialOf hT F.slot_range_reversed.lookup ?_);try dsimp only
 refine tX (wpAny_of_eq (F.slot_range_reversed.bind _) ?_);try dsimp only
 first
 | rw[dA (show ¬((Value.builtin "range.__reversed__"==Value.none)=true)from hV)]
 | (show wpAny _ _ (if (Value.builtin "range.__reversed__"==Value.none)=true then _ else _) _ _ _;rw[dA (show ¬((Value.builtin "range.__reversed__"==Value.none)=true)from hV)])
 refine tX (wpAny_rule ?_);refine tX (m:=runValue (.call (.builtin "range.__reversed__") ⟨[.ref r],[]⟩)) (show wpAny _ _ (call (.builtin "range.__reversed__") [.ref r]) _ _ _ from SN hr h0 h1 ?_);first
 | exact tY h
 | exact tX (tY (tY h))
theorem BW:isSubtype (.type "range_iterator") (.type "reversed")=pure false:=by rw[isSubtype_type];kernel_rfl
theorem ZB{r:Addr}{n:Int}{t u v:Tok}{Q:Value->Shared->Prop}(hr:IsRange s.heap r 0 n 1 t u v)(h0:0<=n)(h1:n<2^62)
  (h:Q (.ref s.heap.objs.size) { s with heap:=s.heap.push { cls:=.type "range_iterator",data:=.fields #[rawInt (n-1),rawInt n,rawInt (-1)] } }) :
  wpAny (model prog w) A (call (.type "reversed") [.ref r]) Q E s:=by
 refine callType_other (U:="range_iterator") (Q₁:=λobj s₁=>obj=.ref s.heap.objs.size/\s₁ = { s with heap:=s.heap.push { cls:=.type "range_iterator",data:=.fields #[rawInt (n-1),rawInt n,rawInt (-1)] } }) (by decide +kernel) F.create_reversed ⟨_,_,F.mro_reversed⟩ F.made_reversed BW (F.typeCall_reversed_1 _) (YZ hr h0 h1 ⟨rfl,rfl⟩) ?_;rintro obj s₁ ⟨rfl,rfl⟩;exact⟨⟨_,gX _ rfl,rfl⟩,h⟩
end
def Itd(n:Nat):It:=⟨λi _=>i<n,λi H x H'=>H'=H/\x=.int ((n:Int)-1-i),λi _=>n<=i⟩
theorem RY{P:Program}{w:World}{K:dD}{tg:Expr}(it:Addr)(n:Nat):Turn P w K tg (Itd n) [it] it (λi h=>IsRangeIter h it (((n:Int)-1)+(i:Nat)*(-1)) ((n:Int)-(i:Nat)) (-1)) where
 mem:=by simp
 obj:=λi h st b hb=>by
  have e:b=it:=by simpa using hb
  subst e;exact⟨_,st,λv z=>by
   have z':Data.fields _=Data.cell v:=z;cases z'⟩
 keep:=λi h h' st k=>k it (by simp) _ st
 item:=by
  intro X hP hw hK hc i ac s σ H E I hf st hg;subst hP hw hK;obtain⟨f0,f1,f2,f3,f4,f5⟩:=hf it (by simp);have W:=Walks.range (prog:=X.prog) (w:=X.w) (I.ok.hd hc) it ((n:Int)-1) (-1) n;refine W.item i s _ _ hg st λv h' tk hv st' kk=>?_;obtain⟨t,rfl⟩:=hv;have I1:Inv X ac σ H { s with heap:=h',toks:=tk } :=I.turned (λb o hb e=>kk b o (by simpa using hb) e) f0 f1 f3 f4 f5;refine⟨_,rfl,LM (s:={ s with heap:=h',toks:=tk }) (n:="range_iterator") st' rfl rfl (by decide) ⟨.int ((n:Int)-1-i),H,I1,⟨t, ?_⟩,⟨rfl,rfl⟩,st',λb hb=>(hf b hb).1⟩⟩;rw[show(n:Int)-1+(i:Int)*(-1)=(n:Int)-1-i by omega]
 done:=by
  intro X hP hw hK hc i ac s σ H E I hf st hg;subst hP hw hK;obtain⟨f0,f1,f2,f3,f4,f5⟩:=hf it (by simp);exact wpAny_pyNext_range_end (I.ok.hd hc) st (by have:n<=i:=hg;omega) λh' eb=>⟨rfl,I.turned (t':=s.toks) (λb o hb e=>eb b o hb e) f0 f1 f3 f4 f5⟩
 self:=λ_ _ _ _ _ st h=>wpAny_pyIter_rangeiter st h
section
variable{X:Cx}{tg:Expr}
def rRange:List V->Hp->VK->Prop:=λxs H Q=>∃n:Int,xs=[.int n]/\∀p,H p=none->Q (.ref p) (upd H p (.rng 0 n))
theorem OH:CallR X (.type "range") rRange:=by
 intro ac s σ H xs us Q I r h;obtain⟨n,rfl,q⟩:=h;obtain⟨u,rfl,t,rfl⟩:=xC r;refine call_range_1 ⟨.ref s.heap.objs.size,_,I.laid (a:=s.heap.objs.size) (o:=.rng 0 n) (λb u e=>gI _ e) uU ⟨_,_,_,gX _ rfl⟩,rfl,q _ (I.hok.fresh uU)⟩
def iRev(ta:TA):TI:=fun σ H R=>ta σ H λvs H1=>∃(r:Addr) (n:Nat),vs=[.ref r]/\H1 r=some (.rng 0 n)/\n<2^62/\R (Itd n) H1
theorem pi_rev{a:Expr}{ta:TA}{p pos:Pos}(hg:Gl X "reversed")(hm:X.mg "reversed" = none)(ha:PA X [a] ta)(hs:starEach [a] X.env=[(false,eval a X.env)]:=by rfl):PI X tg (.Call (.Name "reversed" p) [a] [] pos) (iRev ta):=by
 intro ac s σ H R I h;refine Call_ (zA I hg hm (show bootBuiltins "reversed" = some (.type "reversed") by decide +kernel) (PyProof.Rows.callWith_type1 (thn (ha pos ac s σ H _ I h) λus s1 ⟨vs,H1,I1,r1,q1⟩=>?_) hs rfl));obtain⟨r,n,e,hr,hn,q⟩:=q1;subst e;obtain⟨u,rfl,ru⟩:=xC r1;cases ru;obtain⟨t,u,v,ho⟩:=(show ObjOk X.prog X.w H1 s1.heap r (.rng 0 n)from I1.hok r _ hr);refine ZB ho (by omega) (by omega) (wpAny_pyIter_rangeiter (gX _ rfl) ?_);refine⟨s1.heap.objs.size,[s1.heap.objs.size],_,_,H1,rfl,I1.kept (t':=s1.toks) λb o e=>gI _ e,RY _ n, ?_,λb hb=>?_,q⟩
 ·show IsRangeIter _ _ _ _ _;rw[show(n:Int)-1+((0:Nat):Int)*(-1)=n-1 by omega,show(n:Int)-((0:Nat):Int)=n by omega];exact gX _ rfl
 ·have e:b=s1.heap.objs.size:=by simpa using hb
  subst e;exact I1.fpOk uU (I1.hok.fresh uU)
end
open Lw
section
variable{X:Cx}{pos:Pos}
end
section
variable{prog:Program}{w:World}{A:Around}{E:Value->Shared->Prop}{s:Shared}
theorem drawL{it l:Addr}{items:Array Value}(ne:l≠it):∀(n i:Nat) (s:Shared) (Q:List Value->Shared->Prop),s.heap.IsListIter it l i->s.heap.IsList l items->i+n<=items.size->
  (∀g,g.IsListIter it l (i+n)->Heap.SameBut it s.heap g->Q ((items.toList.drop i).take n) { s with heap:=g })->wpAny (model prog w) A (draw (.ref it) n) Q E s
 | 0,i,s,Q,h1,_,_,q=>by
  show wpAny _ _ (pure []) Q E s;exact tY (by simpa using q s.heap h1 (Heap.SameBut.refl ..))
 | n+1,i,s,Q,h1,h2,le,q=>by
  have lt:i<items.size:=by omega
  show wpAny _ _ (pyNext (.ref it) >>= _) Q E s;refine tX (wpAny_pyNext_list_item h1 h2 (x:=items[i]) (by simp [lt]) λg1 k1 b1=>?_);refine tX (wpAny_holding (drawL ne n (i+1) _ _ k1 (h2.extBut b1.extBut ne) (by omega) λg2 k2 b2=>tY ?_));have e:items.toList.drop i=items[i]::items.toList.drop (i+1):=by simp [List.drop_eq_getElem_cons,lt]
  have:=q g2 (by rw[show i+(n+1)=i+1+n by omega];exact k2) (b1.trans b2);rw[e,List.take_succ_cons]at this;exact this
theorem ZM{l:Addr}{items:Array Value}{Q:List Value->Shared->Prop}(hh:A.handled=none)(hl:s.heap.IsList l items)
  (q:∀g,Heap.ExtBut s.heap.objs.size s.heap g->Q items.toList { s with heap:=g }):wpAny (model prog w) A (unpackItems (.ref l) items.size none) Q E s:=by
 have lt:l≠s.heap.objs.size:=by obtain⟨o,ho,_⟩:=hl;exact tE (nZ ho)
 unfold unpackItems;refine tX ?_;unfold notIterableAtAll;refine tX (wpAny_specialOf hl.typeIs slot_list_iter.lookup (tY ?_));simp only[Bool.false_eq_true,if_false];refine tX (wpAny_holding (wpAny_pyIter_list hl ?_));refine tX (wpAny_holding (drawL lt items.size 0 _ _ ⟨_,gX _ rfl,rfl,rfl⟩ (Heap.IsList.push hl _) (by omega) λg1 k1 b1=>?_));rw[show List.take items.size (List.drop 0 items.toList)=items.toList by rw[List.drop_zero];exact gJ (by simp),dA (by simp)];have h1:g1.IsList l items:=Heap.IsList.extBut (Heap.IsList.push hl _) b1.extBut lt;refine tX (wpAny_holding (wpAny_pyNext_list_end hh k1 h1 (by simp) λg2 b2=>?_));simp only[Option.isSome_none,Bool.false_eq_true,if_false];exact tY (q g2 λb o hb e=>b2 b o hb (b1.extBut b o hb (gI _ e)))
end
section
variable{X:Cx}{pos:Pos}
def gTupL(K:dD)(n:Nat)(t:TGs):TG:=λv σ H Q=>∃a xs,v=.ref a/\SqL K H a xs/\xs.length=n/\t xs σ H Q
theorem PR{es:List Expr}{k:Nat}{t:TGs}{n:Nat}(hc:X.calm=true)(h:PGs X es t)
  (hn:(assignEach es X.env).length=n:=by rfl) (hst:(assignEach es X.env).findIdx? (·.1)=none:=by rfl):PG X (.Tuple es k pos) (gTupL X.K n t):=by
 intro ac s σ H v u Q I r hw;obtain⟨a,xs,e1,hq,hl,hw⟩:=hw;subst e1;cases r;obtain⟨its,rv,ht,hz⟩:=I.list hq;rw[PyProof.Rows.assign_Tuple];refine tX (wpAny_standAt ?_);unfold unpack;rw[show(assignEach es X.env).length=its.toArray.size by simp [hn,<-hl,rv.length],hst];refine tX (wpAny_holding (ZM (I.ok.hd hc) ht.isList λh' hx=>?_));have I1:Inv X ac σ H { s with heap:=h' } :=I.kept (t':=s.toks) λb o e=>hx b o (tE (nZ e)) e;exact h ac _ σ H xs _ Q I1 (by simpa using rv) hw
end
structure ZL(z TI TO i1 i2 l1 l2:Addr)(k:Nat)(h:Heap):Prop where
 zz:IsZip h z TI TO .none
 ti:IsPair h TI (.ref i1) (.ref i2)
 to:∃a b,IsPair h TO a b
 one:h.IsListIter i1 l1 k
 two:h.IsListIter i2 l2 k
def ItzL(K:dD)(a b:Addr):It:=
 ⟨λi H=>∃xs ys x y,SqL K H a xs/\SqL K H b ys/\xs[i]? = some x/\ys[i]? = some y,
  λi H v H'=>∃p x y,H p=none/\v=.ref p/\H'=upd H p (.tup [x,y])/\(∀xs,SqL K H a xs->xs[i]? = some x)/\(∀ys,SqL K H b ys->ys[i]? = some y),
  λi H=>∃xs ys,SqL K H a xs/\SqL K H b ys/\(xs.length<=i∨ys.length<=i)⟩
theorem RV{P:Program}{w:World}{K:dD}{es:List Expr}{x1}{pos:Pos}(l1 l2:Addr){z TI TO i1 i2:Addr}(F:Five z TI TO i1 i2):Turn P w K (.Tuple es x1 pos) (ItzL K l1 l2) [z,TI,TO,i1,i2] z (λi h=>ZL z TI TO i1 i2 l1 l2 i h) where
 mem:=by simp
 obj:=λi h Z b hb=>by
  simp only[nT,mS,or_false]at hb;obtain⟨hz,hti,⟨a,c,hto⟩,⟨o1,g1,c1,d1⟩,⟨o2,g2,c2,d2⟩⟩:=Z;rcases hb with rfl | rfl | rfl | rfl | rfl
  ·exact⟨_,hz,λv q=>by cases (show Data.fields _=Data.cell v from q)⟩
  ·exact⟨_,hti,λv q=>by cases (show Data.seq _ _=Data.cell v from q)⟩
  ·exact⟨_,hto,λv q=>by cases (show Data.seq _ _=Data.cell v from q)⟩
  ·exact⟨_,g1,λv q=>by rw[d1]at q;cases q⟩
  ·exact⟨_,g2,λv q=>by rw[d2]at q;cases q⟩
 keep:=λi h h' Z k=>by
  obtain⟨hz,hti,⟨a,c,hto⟩,s1,s2⟩:=Z;exact⟨k z (by simp) _ hz,k TI (by simp) _ hti,⟨a,c,k TO (by simp) _ hto⟩,s1.at λo e=>k i1 (by simp) o e,s2.at λo e=>k i2 (by simp) o e⟩
 item:=by
  intro X hP hw hK hc i ac s σ H E I hf Z hg;subst hP hw hK;obtain⟨xs,ys,x,y,q1,q2,hx,hy⟩:=hg;obtain⟨its1,r1,p1,_⟩:=I.list q1;obtain⟨its2,r2,p2,_⟩:=I.list q2;obtain⟨u1,hu1,ru1⟩:=r1.get hx;obtain⟨u2,hu2,ru2⟩:=r2.get hy;have D:=F.of (λb hb=>FpOk.apartL I (hf b hb) q1) (λb hb=>FpOk.apartL I (hf b hb) q2);obtain⟨a0,b0,hto⟩:=Z.to;refine wpAny_pyNext_zip_item D Z.zz Z.ti hto Z.one Z.two p1.isList p2.isList (x:=u1) (y:=u2) (by simpa using hu1) (by simpa using hu2) λg z1 to1 n1 n2 nu _ kk=>⟨_,rfl, ?_⟩;refine wpAny_letOwnedTupleGo_zip z1 λg2 z2 sb=>?_;have fr:H s.heap.objs.size=none:=I.hok.fresh uU ;have fp:∀b∈[z,TI,TO,i1,i2],FpOk X ac (upd H s.heap.objs.size (.tup [x,y])) b:=λb hb=>by
   have lt:b≠s.heap.objs.size:=by
    simp only[nT,mS,or_false]at hb;obtain⟨hz,hti,⟨a,c,hto⟩,⟨o1,g1,_⟩,⟨o2,g2,_⟩⟩:=Z;rcases hb with rfl | rfl | rfl | rfl | rfl
    ·exact tE (nZ hz)
    ·exact tE (nZ hti)
    ·exact tE (nZ hto)
    ·exact tE (nZ g1)
    ·exact tE (nZ g2)
   exact⟨by rw[jO lt];exact(hf b hb).1,(hf b hb).2⟩
  have I1:Inv X ac σ (upd H s.heap.objs.size (.tup [x,y])) { s with heap:=s.heap.push { cls:=.type "tuple",data:=.seq #[u1,u2] } } :=I.laid (t':=s.toks) (λb u e=>gI _ e) uU ⟨by simp [sizeLine],[u1,u2],.cons ru1 (.cons ru2 .nil),⟨_,gX _ rfl,rfl,_,rfl⟩,.of (gX _ rfl) rfl⟩;have up:∀c o,c≠z->g.get? c=some o->g2.get? c=some o:=λc o cz e=>sb.extBut _ _ cz e;have zs:z≠s.heap.objs.size:=tE (nZ Z.zz);have I2:Inv X ac σ (upd H s.heap.objs.size (.tup [x,y])) { s with heap:=g2 } :=by
   refine Inv.turnedL (s:={ s with heap:=s.heap.push { cls:=.type "tuple",data:=.seq #[u1,u2] } }) (h':=g2) (t':=s.toks) I1 fp λb o hb e=>?_;simp only[nT,mS,or_false,not_or]at hb;rcases Heap.get?_push_cases e with⟨e1,e2⟩ | e1
   ·rw[e1,e2];exact up _ _ (Ne.symm zs) nu
   ·exact up _ _ hb.1 (kk b o hb.1 hb.2.2.1 hb.2.2.2.1 hb.2.2.2.2 e1)
  exact⟨.ref s.heap.objs.size,_,I2,rfl,⟨_,x,y,fr,rfl,rfl,λxs' h=>by rw[I.list_inj h q1];exact hx,λys' h=>by rw[I.list_inj h q2];exact hy⟩,⟨z2,up _ _ D.TIz (kk _ _ D.TIz D.TITO D.TIi1 D.TIi2 Z.ti),⟨_,_,up _ _ D.TOz to1⟩,n1.at λo e=>up _ o D.i1z e,n2.at λo e=>up _ o D.i2z e⟩,λb hb=>(fp b hb).1⟩
 done:=by
  intro X hP hw hK hc i ac s σ H E I hf Z hg;subst hP hw hK;obtain⟨xs,ys,q1,q2,he⟩:=hg;obtain⟨its1,r1,p1,_⟩:=I.list q1;obtain⟨its2,r2,p2,_⟩:=I.list q2;have D:=F.of (λb hb=>FpOk.apartL I (hf b hb) q1) (λb hb=>FpOk.apartL I (hf b hb) q2);have e1:=r1.length;have e2:=r2.length;obtain⟨a0,b0,hto⟩:=Z.to;refine wpAny_pyNext_zip_end (I.ok.hd hc) D Z.zz Z.ti hto Z.one Z.two p1.isList p2.isList ?_ λg kk=>⟨rfl,Inv.turnedL (t':=s.toks) I hf λb o hb e=>by
   simp only[nT,mS,or_false,not_or]at hb;exact kk b o hb.1 hb.2.2.1 hb.2.2.2.1 hb.2.2.2.2 e⟩
  rcases he with h | h
  ·exact .inl (by simp;omega)
  ·exact .inr (by simp;omega)
 self:=λ_ _ _ _ _ Z h=>wpAny_pyIter_zip Z.zz h
section
variable{X:Cx}
def iZipL(K:dD)(ta:TA):TI:=fun σ H R=>ta σ H λvs H1=>∃a b,vs=[.ref a,.ref b]/\(∃xs,SqL K H1 a xs)/\(∃ys,SqL K H1 b ys)/\R (ItzL K a b) H1
theorem IY{es:List Expr}{x1}{tp:Pos}{a b:Expr}{ta:TA}{p pos:Pos}(hg:Gl X "zip")(hm:X.mg "zip" = none)(ha:PA X [a,b] ta)(hs:starEach [a,b] X.env=[(false,eval a X.env),(false,eval b X.env)]:=by rfl)(hs2:starEach [b] X.env=[(false,eval b X.env)]:=by rfl) :
  PI X (.Tuple es x1 tp) (.Call (.Name "zip" p) [a,b] [] pos) (iZipL X.K ta):=by
 intro ac s σ H R I h;refine Call_ (zA I hg hm boot_zip (PyProof.Rows.callWith_type1 (thn (ha pos ac s σ H _ I h) λus s1 ⟨vs,H1,I1,r1,q1⟩=>?_) (by rw[hs,hs2]) (by rw[hs2];rfl)));obtain⟨l1,l2,e,⟨xs,q1⟩,⟨ys,q2⟩,q⟩:=q1;subst e;cases r1 with
 | cons r rr=>
  cases rr with
  | cons r' rr=>
   cases rr;cases r;cases r';obtain⟨its1,_,p1,_⟩:=I1.list q1;obtain⟨its2,_,p2,_⟩:=I1.list q2;refine call_zip_2 p1.isList p2.isList λg z1 z2 z3 z4 z5 _ k=>wpAny_pyIter_zip z1 ?_;refine⟨_,_,_,_,H1,rfl,I1.kept (t':=s1.toks) k,RV l1 l2 ⟨by simp⟩,⟨z1,z2,⟨_,_,z3⟩,z4,z5⟩,λb hb=>?_,q⟩;have hb':s1.heap.objs.size<=b:=by
    simp only[nT,mS,or_false]at hb;rcases hb with rfl | rfl | rfl | rfl | rfl<;>first | exact Nat.le_add_right _ _ | exact tP _
   exact I1.fpOk hb' (I1.hok.fresh hb')
end
end L2
namespace L2
open PySem PySem.Spec PyProof.Rows
section
variable{prog:Program}{w:World}{A:Around}{E:Value->Shared->Prop}{s:Shared}
end
section
variable{X:Cx}{tg:Expr}
end
end L2
namespace Lw
open PySem PySem.Spec PyProof.Rows L2
section
variable{X:Cx}
end
theorem YH{K:dD}{a b:Addr}{xs ys:List V}{g:TG}{tb:TS}{D:Ends}{σ:L2.St}{H:Hp}(Pv:Nat->L2.St->Hp->Prop)(le:ys.length<=xs.length)(h0:Pv 0 σ H)(hl:∀i σ H,i<=ys.length->Pv i σ H->SqL K H a xs/\SqL K H b ys)
  (hs:∀i x y p σ H,xs[i]? = some x->ys[i]? = some y->H p=none->Pv i σ H->g (.ref p) σ (upd H p (.tup [x,y])) fun σ2 H2=>tb { D with nx:=Pv (i+1),ct:=Pv (i+1),bk:=D.nx } σ2 H2) (hd:∀σ H,Pv ys.length σ H->D.nx σ H) :
  ∃W:Nat->Nat->L2.St->Hp->Prop,(∃m,W 0 m σ H)/\∀i m σ H,W i m σ H->
   ((ItzL K a b).stop i H/\D.nx σ H)∨((ItzL K a b).go i H/\∃N:L2.St->Hp->Prop,(∀σ' H',N σ' H'->∃m',m'<m/\W (i+1) m' σ' H')/\∀x H',(ItzL K a b).yld i H x H'->g x σ H' fun σ2 H2=>tb { D with nx:=N,ct:=N,bk:=D.nx } σ2 H2):=by
 refine⟨λi m σ H=>m=ys.length-i/\i<=ys.length/\Pv i σ H,⟨ys.length,by simp,tQ _,h0⟩, ?_⟩;rintro i m σ H ⟨rfl,hi,p⟩;obtain⟨q1,q2⟩:=hl i σ H hi p;by_cases hlt:i<ys.length
 ·have hx:i<xs.length:=by omega
  refine .inr ⟨⟨xs,ys,xs[i],ys[i],q1,q2,by simp [hx],by simp [hlt]⟩,Pv (i+1),fun σ' H' p'=>⟨ys.length-(i+1),by omega,rfl,hlt,p'⟩,λv H' y=>?_⟩;obtain⟨r,x,y',hr,rfl,rfl,e1,e2⟩:=y;exact hs i x y' r σ H (e1 xs q1) (e2 ys q2) hr p
 ·have ei:i=ys.length:=by omega
  subst ei;exact .inl ⟨⟨xs,ys,q1,q2,.inr uU⟩,hd σ H p⟩
section
variable{prog:Program}{w:World}{A:Around}{E:Value->Shared->Prop}{s:Shared}
end
section
variable{X:Cx}
end
section
variable{prog:Program}{w:World}{A:Around}{R:Result->Shared->Prop}{s:Shared}
end
section
variable{X:Cx}
end
section
variable{X:Cx}
end
section
variable{X:Cx}
theorem dlen{A:Around}{E:Value->Shared->Prop}{s:Shared}{d:Addr}{es:Array DictEntry}{ep:Nat}{prog:Program}{w:World}{Q:Value->Shared->Prop}(lo:(d==sysModules)=false)(r:LwD.Raw s.heap d es ep)
  (q:Q (.int es.size s.toks) { s with toks:=s.toks+1 }):wpAny (model prog w) A (call (.builtin "dict.__len__") [.ref d]) Q E s:=by
 obtain⟨o,ho,hc,hdat⟩:=id r;refine wpAny_call_entry PySem.F.slot_dict_len r.ty PySem.F.entry_dict_len ?_ (PySem.F.args_dict_len_1 _);unfold Builtin.«dict.__len__» Builtin.Dict.dictSlotNone Builtin.Dict.pendingCount dictSize;refine tX (tX (wpAny_notOrdered_dict r.ty (show wpAny _ _ (pure (Value.ref d)) _ _ s from tY ?_)));refine tX (show wpAny _ _ (pure d) _ _ s from tY ?_);refine tX (tX (wpAny_dictEntries ho hdat (tY ?_)));rw[dA (by rw[lo];exact hV)];refine tX (tY ?_);refine tX (wpAny_mkInt (tY ⟨_,rfl, ?_⟩));simpa using q
def rLenT:List V->Hp->VK->Prop:=λxs H Q=>∃a ag,xs=[V.ref a]/\Rd H a (.dT ag)/\Q (.int ag.length) H
theorem HP:CallR X (.builtin "len") rLenT:=by
 intro ac s σ H xs us Q I r h;obtain⟨a,ag,rfl,ha,q⟩:=h;obtain⟨u,rfl,ru⟩:=xC r;cases ru;obtain⟨z,lo,ks,rel,dd⟩:=uC I.hok ha;obtain⟨o,es,ep,hd1,hd2,hd3,he,his,hn⟩:=id dd;have raw:LwD.Raw s.heap a es ep:=⟨o,hd1,hd2,hd3⟩;have l1:es.size=ag.length:=(size_of_entries he).trans (Paired.length rel).symm;rw[sizeLine_eq]at z;refine PyProof.Rows.call_len_slot (n:=es.size) raw.ty PySem.F.slot_dict_len (λQ' h=>dlen lo raw h) (by omega) (by omega) ⟨.int es.size,H,I.tok _,⟨_,rfl⟩, ?_⟩;rw[l1];exact q
end
theorem FM(elt t1 i1 t2 i2:Expr)(scope:Scope)(pos:Pos)(it acc:Value)(env:Env) :
  compTurn (.ListComp elt [⟨t1,i1,[],0⟩,⟨t2,i2,[],0⟩] scope pos) 0 it acc env=(standAt i1.pos >>= λ_=>pyNext it >>= λr=>match r with
   | none=>pure (.done .next)
   | some v=>letOwnedTupleGo t1 it v >>= λ_=>assign t1 env v >>= λ_=>
    eval i2 env >>= λx=>standAt i2.pos >>= λ_=>foldedSetIterable i2 env x >>= λx=>holding [x] (pyIter x) >>= λj=>runOwn (.compStart (.ListComp elt [⟨t1,i1,[],0⟩,⟨t2,i2,[],0⟩] scope pos) 1 j acc env) env >>= λ_=>
     again (.compLoop (.ListComp elt [⟨t1,i1,[],0⟩,⟨t2,i2,[],0⟩] scope pos) 0 it acc env)):=by rfl
theorem FL(elt t1 i1 t2 i2:Expr)(scope:Scope)(pos:Pos)(it acc:Value)(env:Env) :
  compTurn (.ListComp elt [⟨t1,i1,[],0⟩,⟨t2,i2,[],0⟩] scope pos) 1 it acc env=(standAt i2.pos >>= λ_=>pyNext it >>= λr=>match r with
   | none=>pure (.done .next)
   | some v=>letOwnedTupleGo t2 it v >>= λ_=>assign t2 env v >>= λ_=>
    (eval elt env >>= λx=>call (.builtin "list.append") [acc,x] >>= λ_=>pure ()) >>= λ_=>
     again (.compLoop (.ListComp elt [⟨t1,i1,[],0⟩,⟨t2,i2,[],0⟩] scope pos) 1 it acc env)):=by rfl
section
variable{prog:Program}{w:World}{A:Around}{R:Result->Shared->Prop}{s:Shared}
theorem FO{elt t1 i1 t2 i2:Expr}{scope:Scope}{pos:Pos}{it acc:Value}{env:Env}(I:Nat->Shared->Prop)(hs:∀x,foldedSetIterable i2 env x=pure x)
  (turn:∀n s,I n s->wpAny (model prog w) A (pyNext it) (λr s₁=>match r with
   | none=>R (.ok .next) s₁
   | some v=>wpAny (model prog w) A (letOwnedTupleGo t1 it v) (λ_ s₁'=>wpAny (model prog w) A (assign t1 env v) (λ_ s₂=>wpAny (model prog w) A (eval i2 env) (λx s₃=>
     wpAny (model prog w) A (pyIter x) (λj s₄=>codeAny (model prog w) A (.compStart (.ListComp elt [⟨t1,i1,[],0⟩,⟨t2,i2,[],0⟩] scope pos) 1 j acc env) (λr s'=>match r with | .ok _=>∃m,m<n/\I m s' | .error e=>cameBackBy (model prog w) A env (notedBy (model prog w) A env λe s'=>R (.error e) s') e s') s₄) (notedBy (model prog w) A env λe s'=>R (.error e) s') s₃)
     (notedBy (model prog w) A env λe s'=>R (.error e) s') s₂) (notedBy (model prog w) A env λe s'=>R (.error e) s') s₁') (notedBy (model prog w) A env λe s'=>R (.error e) s') s₁) (notedBy (model prog w) A env λe s'=>R (.error e) s') s)
  (n:Nat) (h:I n s) :
  codeAny (model prog w) A (.compLoop (.ListComp elt [⟨t1,i1,[],0⟩,⟨t2,i2,[],0⟩] scope pos) 0 it acc env) R s:=by
 refine codeAny_loop rfl I (λn s hI=>?_) n h;show wpAny _ _ ((compTurn (.ListComp elt [⟨t1,i1,[],0⟩,⟨t2,i2,[],0⟩] scope pos) 0 it acc env).onRaise (λx=>do noteFrame x env;theTreesLotGoes x)) _ _ s;refine wpAny_noted ?_;rw[FM];refine tX (wpAny_standAt (tX (tZ (turn n s hI) (λr s₁ h₁=>?_) λ_ _ h'=>h')));cases r with
 | none=>exact tY h₁
 | some v=>
  refine tX (tZ h₁ (λ_ s₁' h₁'=>?_) λ_ _ h'=>h');refine tX (tZ h₁' (λ_ s₂ h₂=>?_) λ_ _ h'=>h');refine tX (tZ h₂ (λx s₃ h₃=>?_) λ_ _ h'=>h');refine tX (wpAny_standAt (tX (wpAny_of_eq (hs x) (tX (wpAny_holding (tZ h₃ (λj s₄ h₄=>?_) λ_ _ h'=>h'))))));exact tX (wpAny_runOwn (codeAny_mono h₄ λr s' h'=>by
   cases r with
   | ok f=>exact tY ⟨rfl,h'⟩
   | error e=>exact h'))
theorem FN{elt t1 i1 t2 i2:Expr}{scope:Scope}{pos:Pos}{it acc:Value}{env:Env}(I:Nat->Shared->Prop)
  (turn:∀n s,I n s->wpAny (model prog w) A (pyNext it) (λr s₁=>match r with
   | none=>R (.ok .next) s₁
   | some v=>wpAny (model prog w) A (letOwnedTupleGo t2 it v) (λ_ s₁'=>wpAny (model prog w) A (assign t2 env v) (λ_ s₂=>wpAny (model prog w) A (eval elt env) (λx s₃=>
     wpAny (model prog w) A (call (.builtin "list.append") [acc,x]) (λ_ s₄=>∃m,m<n/\I m s₄) (notedBy (model prog w) A env λe s'=>R (.error e) s') s₃)
     (notedBy (model prog w) A env λe s'=>R (.error e) s') s₂) (notedBy (model prog w) A env λe s'=>R (.error e) s') s₁') (notedBy (model prog w) A env λe s'=>R (.error e) s') s₁) (notedBy (model prog w) A env λe s'=>R (.error e) s') s)
  (n:Nat) (h:I n s) :
  codeAny (model prog w) A (.compLoop (.ListComp elt [⟨t1,i1,[],0⟩,⟨t2,i2,[],0⟩] scope pos) 1 it acc env) R s:=by
 refine codeAny_loop rfl I (λn s hI=>?_) n h;show wpAny _ _ ((compTurn (.ListComp elt [⟨t1,i1,[],0⟩,⟨t2,i2,[],0⟩] scope pos) 1 it acc env).onRaise (λx=>do noteFrame x env;theTreesLotGoes x)) _ _ s;refine wpAny_noted ?_;rw[FL];refine tX (wpAny_standAt (tX (tZ (turn n s hI) (λr s₁ h₁=>?_) λ_ _ h'=>h')));cases r with
 | none=>exact tY h₁
 | some v=>
  refine tX (tZ h₁ (λ_ s₁' h₁'=>?_) λ_ _ h'=>h');exact tX (tZ h₁' (λ_ s₂ h₂=>tX (tX (tZ h₂ (λx s₃ h₃=>tX (tZ h₃
   (λ_ s₄ h₄=>tY (tY ⟨rfl,h₄⟩)) λ_ _ h'=>h')) λ_ _ h'=>h'))) λ_ _ h'=>h')
theorem FE{elt t1 i1 t2 i2:Expr}{scope:Scope}{pos:Pos}{it acc:Value}{env:Env}
  (h0:codeAny (model prog w) A (.compLoop (.ListComp elt [⟨t1,i1,[],0⟩,⟨t2,i2,[],0⟩] scope pos) 1 it acc env) R s)
  (h:wpAny (model prog w) A (pyIter it) (λit' s'=>codeAny (model prog w) A (.compLoop (.ListComp elt [⟨t1,i1,[],0⟩,⟨t2,i2,[],0⟩] scope pos) 1 it' acc env) R s')
   (notedBy (model prog w) A env λx s'=>R (.error x) s') s) :
  codeAny (model prog w) A (.compStart (.ListComp elt [⟨t1,i1,[],0⟩,⟨t2,i2,[],0⟩] scope pos) 1 it acc env) R s:=by
 refine codeAny_of_tree ?_;show wpAny _ _ ((compStart (.ListComp elt [⟨t1,i1,[],0⟩,⟨t2,i2,[],0⟩] scope pos) 1 it acc env).onRaise (λx=>do noteFrame x env;standAt theWindowsPlace)) _ _ s;refine wpAny_notedAt ?_;unfold compStart;show wpAny _ _ (ask >>= _) _ _ s;refine tX (wpAny_askSetting (wpAny_ite ?_));split
 ·first
   | exact tX (tY (tY (And.intro rfl h0)))
   | exact tY (And.intro rfl h0)
 ·first
   | exact tX (wpAny_rule (tX (wpAny_standAt (tX (tZ h (λit' s' h'=>tY (And.intro rfl h')) λ_ _ x=>x)))))
   | (refine tX (wpAny_rule ?_);show wpAny _ _ (standAt i2.pos >>= _) _ _ s;exact tX (wpAny_standAt (tX (tZ h (λit' s' h'=>tY (And.intro rfl h')) λ_ _ x=>x))))
end
def CompGoFI(σ0:L2.St)(J:It)(g:TG)(tt:TT)(te:TE)(Q:VK)(p:Addr)(H':Hp):Prop:=
 ∃W:Nat->Nat->List V->Hp->Prop,(∃m,W 0 m [] H')/\∀i m ys H2,W i m ys H2->H2 p=some (.lst ys)/\ys.length<sizeLine/\
  ((J.stop i H2/\Q (.ref p) H2)∨(J.go i H2/\∀x H3,J.yld i H2 x H3->g x σ0 H3 fun σ4 H4=>Keep σ0 σ4/\tt σ4 H4 λb H5=>if b=true then te σ4 H5 λy H6=>H6 p=some (.lst ys)/\∃m',m'<m/\W (i+1) m' (ys++[y]) (upd H6 p (.lst (ys++[y])))else ∃m',m'<m/\W (i+1) m' ys H5))
def ID(own:Nat)(idx:List Nat)(wi:TI)(g:TG)(tt:TT)(te:TE):TE:=fun σ H Q=>wi σ H λJ H1=>∀p H',H1 p=none->Same H1 H'->H' p=some (.lst [])->
 CompGoFI (List.replicate own none++idx.map λj=>(σ[j]?).getD none) J g tt te Q p H'
def CompGo2(σ0:L2.St)(J:It)(g:TG)(wi2:TI)(g2:TG)(te:TE)(Q:VK)(p:Addr)(H':Hp):Prop:=
 ∃W:Nat->Nat->Hp->Prop,(∃m,W 0 m H')/\∀i m H2,W i m H2->(J.stop i H2/\Q (.ref p) H2)∨(J.go i H2/\∀x H3,J.yld i H2 x H3->g x σ0 H3 fun σ4 H4=>wi2 σ4 H4 λJ2 H5=>
  ∃W2:Nat->Nat->List V->L2.St->Hp->Prop,(∃m2 ys,W2 0 m2 ys σ4 H5)/\∀j m2 ys σ5 H6,W2 j m2 ys σ5 H6->H6 p=some (.lst ys)/\ys.length<sizeLine/\
   ((J2.stop j H6/\Keep σ0 σ5/\∃m',m'<m/\W (i+1) m' H6)∨(J2.go j H6/\∀y H7,J2.yld j H6 y H7->g2 y σ5 H7 fun σ8 H8=>te σ8 H8 λz H9=>H9 p=some (.lst ys)/\∃m2',m2'<m2/\W2 (j+1) m2' (ys++[z]) σ8 (upd H9 p (.lst (ys++[z]))))))
def ZQ(own:Nat)(idx:List Nat)(wi:TI)(g:TG)(wi2:TI)(g2:TG)(te:TE):TE:=fun σ H Q=>wi σ H λJ H1=>∀p H',H1 p=none->Same H1 H'->H' p=some (.lst [])->
 CompGo2 (List.replicate own none++idx.map λj=>(σ[j]?).getD none) J g wi2 g2 te Q p H'
section
variable{X:Cx}
theorem GJ{own:Nat}{idx:List Nat}{N:List Str}{elt target iter c:Expr}{scope:Scope}{cl:List (Str×Addr)}{pos:Pos}{wi:TI}{g:TG}{tt:TT}{te:TE}(hc:X.calm=true)
  (hk:scope.kind=.function) (hclos:closureFor scope X.env=pure cl) (hcell:∀x∈scope.names,x.2≠.cell) (hnames:∀x∈scope.names,x.2=.local->scope.names.lookup x.1=some .local)
  (hsub:∀x c,cl.lookup x=some c->X.env.cells.lookup x=some c) (hhas:∀x,((relabel scope X.env).names.lookup x=some .cell∨(relabel scope X.env).names.lookup x=some .free)->∃c,cl.lookup x=some c)
  (hlen:N.length=own+idx.length)
  (hidx:∀(k j:Nat) (x:Str),idx[k]? = some j->N[own+k]? = some x->X.N[j]? = some x/\X.env.kindOf x=some .cell/\(relabel scope X.env).names.lookup x=some .cell/\X.env.scope.names.lookup x=some .cell)
  (hi:PI X target iter wi) (hg:∀C fp s2 H2,PG (jK X N scope cl C fp s2 H2) target g) (ht:∀C fp s2 H2,PT (jK X N scope cl C fp s2 H2) c tt) (he:∀C fp s2 H2,PE (jK X N scope cl C fp s2 H2) elt te)
  (hs:∀x,foldedSetIterable iter X.env x=pure x:=by intro _;rfl):PE X (.ListComp elt [⟨target,iter,[c],0⟩] scope pos) (ID own idx wi g tt te):=by
 intro ac s σ H Q I h;rw[eval_ListComp];refine wpAny_comprehension_free (use:=none) rfl hs hclos hk hnames (thn (hi ac s σ H _ I h) λv s1 h1=>thn h1 λitv s2 h2=>?_);obtain⟨it,fp,tn,J,H1,e,I2,T,st2,f2,hR⟩:=h2;subst e;have hlt:∀b∈fp,b<s2.heap.objs.size:=λb hb=>by
  obtain⟨o,ho,_⟩:=T.obj 0 _ st2 b hb;exact nZ ho
 refine wpAny_newObj_type (wpAny_newFunctionEnv hcell (by intro y hy;simp at hy) (λh₁ hns₁ hsb₁=>?_) hk);dsimp only at hns₁ hsb₁ ⊢;generalize hHH:s2.heap.push { cls:=.type "list",dict:=none,data:=.seq ([]:List Value).toArray } = HH at hns₁ hsb₁ ⊢;have hCe:HH.objs.size=s2.heap.objs.size+1:=by rw[<-hHH,nP]
 have hDC:s2.heap.objs.size≠HH.objs.size:=by rw[hCe];exact tE (mX _)
 have hCle:s2.heap.objs.size<=HH.objs.size:=by rw[hCe];exact Nat.le_succ _
 have old:∀b o,s2.heap.get? b=some o->h₁.get? b=some o:=λb o e=>hsb₁.extBut b o (by rw[hCe];exact tE (Nat.lt_succ_of_lt (nZ e))) (gI _ (hHH▸gI _ e));have hD:h₁.get? s2.heap.objs.size=some { cls:=.type "list",dict:=none,data:=.seq ([]:List Value).toArray } :=hsb₁.extBut _ _ hDC (gI _ (hHH▸gX _ rfl));have nD:H1 s2.heap.objs.size=none:=I2.hok.fresh uU ;obtain⟨W,⟨m0,w0⟩,turn⟩:=hR s2.heap.objs.size _ nD (jY (.lst []) nD) jE;generalize hσ:(List.replicate own none++idx.map λj=>(σ[j]?).getD none:L2.St)=σ0 at turn;have lσ:σ0.length=N.length:=by rw[<-hσ,hU,gM,mZ,hlen]
 have ok:=yP (N:=N) (cl:=cl) (C:=HH.objs.size) I2 hk hsub hhas hCle f2 hlt;have oldC:∀c v,s2.heap.IsCell c v->h₁.IsCell c v:=λc v ⟨o,ho,hd⟩=>⟨o,old c o ho,hd⟩;have I4:Inv (jK X N scope cl HH.objs.size fp s2 H1) [] σ0 (upd H1 s2.heap.objs.size (.lst [])) { s2 with heap:=h₁,toks:=s2.toks+([]:List (Str×Value)).length } :=by
  refine⟨ok,rfl,I2.bare,Un.laid old uU nD,⟨_,hns₁,λi x v e1 e2 _=>?_⟩,(λx c z=>?_), ?_,(λx c z=>?_),(λp hp=>nomatch hp),I2.hok.laid old uU ?_,lσ⟩
  ·
   rw[<-hσ]at e2;by_cases hi':i<own
   ·rw[gD (by rw[gM];exact hi'),List.getElem?_replicate]at e2;split at e2<;>cases e2
   ·obtain⟨k,rfl⟩:∃k,i=own+k:=⟨i-own,by omega⟩;rw[uZ (by rw[gM];omega),gM,Nat.add_sub_cancel_left,mH]at e2;cases ej:idx[k]? with
    | none=>rw[ej]at e2;cases e2
    | some j=>
     rw[ej,Option.map_some]at e2;have e2:=Option.some.inj e2;obtain⟨n1,n2,n3,n4⟩:=hidx k j x ej e1;have e3:σ[j]? = some (some v):=by
      cases q:σ[j]? with
      | none=>rw[q]at e2;cases e2
      | some y=>rw[q,Option.getD_some]at e2;rw[e2]
     obtain⟨m,hm,hl⟩:=I2.loc;obtain⟨u,ru,lk⟩:=hl j x v n1 e3 (.inr (.inl n4));refine⟨u,ru, ?_⟩;rcases lk with⟨kl,_⟩ | ⟨_,c,hcl,hic⟩
     ·rw[n2]at kl;cases kl
     ·obtain⟨c',hc'⟩:=hhas x (.inl n3);have:c'=c:=Option.some.inj ((hsub x c' hc').symm.trans hcl);subst this;exact .inr ⟨.inl n3,c',hc',oldC _ _ hic⟩
  ·obtain⟨v,hv⟩:=I2.cell x c (hsub x c z);exact⟨v,oldC _ _ hv⟩
  ·show(upd H1 s2.heap.objs.size (.lst [])) HH.objs.size=none;rw[jO (Ne.symm hDC)];exact I2.hok.fresh hCle
  ·obtain⟨v,hv⟩:=I2.cell x c (hsub x c z);show(upd H1 s2.heap.objs.size (.lst [])) c=none;rw[jO (tE hv.lt)];exact I2.freeC x c (hsub x c z)
  ·exact⟨by show 0<=sizeLine;decide,[],0,.nil,hD⟩
 have stat:∀{H':Hp},(∀b∈fp,H' b=none)->∀b∈fp,FpOk (jK X N scope cl HH.objs.size fp s2 H1) [] H' b:=λhn b hb=>
  ⟨hn b hb,(ok.exf b hb).1,ok.exfs b hb,.inl hb,(ok.exf b hb).2,λp hp=>nomatch hp⟩
 have st4:tn 0 h₁:=T.keep _ _ _ st2 λb _ o e=>old b o e;have fr4:∀b∈fp,(upd H1 s2.heap.objs.size (.lst [])) b=none:=λb hb=>by
  rw[jO (tE (hlt b hb))];exact(f2 b hb).1
 have loop:codeAny (model X.prog X.w) X.A (.compLoop (.ListComp elt [⟨target,iter,[c],0⟩] scope pos) 0 (.ref it) (.ref s2.heap.objs.size) (compEnvC scope cl HH.objs.size X.env))
   (compPost (model X.prog X.w) X.A X.xe none (EP X ac σ Q) (.ref s2.heap.objs.size) HH.objs.size) { s2 with heap:=h₁,toks:=s2.toks+([]:List (Str×Value)).length } :=by
  refine wR (λn s'=>∃i ys H',Inv (jK X N scope cl HH.objs.size fp s2 H1) [] σ0 H' s'/\tn i s'.heap/\(∀b∈fp,H' b=none)/\W i n ys H') ?_ m0 ⟨0,[],_,I4,st4,fr4,w0⟩;rintro n s3 ⟨i,ys,H3,I3,st3,fr3,w3⟩;obtain⟨hp3,hz3,hw⟩:=turn i n ys H3 w3;rcases hw with⟨stop,qn⟩ | ⟨go,step⟩
  ·refine thn (T.done (jK X N scope cl HH.objs.size fp s2 H1) rfl rfl rfl hc i [] s3 _ H3 _ I3 (stat fr3) st3 stop) λr s4 ⟨hr,I5⟩=>?_;subst hr;obtain⟨m,hm,_⟩:=id I5.loc;refine⟨m,hm,λh' sb=>⟨.ref s2.heap.objs.size,H3, ?_,rfl,qn⟩⟩;have k:∀b o,b≠HH.objs.size->s4.heap.get? b=some o->h'.get? b=some o:=λb o hb e=>sb.extBut b o hb e;have nb:∀b o,s2.heap.get? b=some o->b≠HH.objs.size:=λb o e=>by rw[hCe];exact tE (Nat.lt_succ_of_lt (nZ e))
   have U:=I5.base;have fC:H3 HH.objs.size=none:=I5.free;refine I2.call' (ch:=fp) (s':={ s4 with heap:=h' }) I5.os ⟨λb o e n hb hx=>k b o (nb b o e) (U.keep b o e n hb hx),λb o e n hb hx=>?_,U.free,λb o e hx=>?_,U.tups,U.frzs,U.tbls⟩ (λb u e=>?_) I5.bare (λb hb=>⟨(f2 b hb).2.2.2.1,(f2 b hb).2.1,(f2 b hb).2.2.2.2.1,(f2 b hb).2.2.2.2.2⟩)
   ·obtain⟨sl,q⟩:=U.slot b o e n hb hx;exact⟨sl,k b _ (nb b o e) q⟩
   ·obtain⟨o',q⟩:=U.there b o e hx;exact⟨o',k b _ (nb b o e) q⟩
   ·refine(I5.hok b u e).stay (λc v hcc q=>k c v ?_ q) (λ_ q=>q) λ_ _ q=>q;rcases hcc with z | z
    ·rw[z];intro y;rw[y,fC]at e;cases e
    ·intro y;rw[y,fC]at z;cases z
  ·refine tZ (T.item (jK X N scope cl HH.objs.size fp s2 H1) rfl rfl rfl hc i [] s3 _ H3 (λ_ _=>False) I3 (stat fr3) st3 go) (λr s4 ⟨u,hr,h4⟩=>?_) λ_ _ z=>z.elim;subst hr;refine tZ h4 (λ_ s5 ⟨x,H5,I5,r5,y5,st5,fr5⟩=>?_) λ_ _ z=>z.elim;have I5':=I5.pinned (stat fr5) (T.obj _ _ st5);refine tZ (hg _ _ _ _ _ s5 _ H5 x u _ I5' r5 (step x H5 y5)) (λ_ s6 ⟨σ6,H6,I6,kp6,q6⟩=>?_) λ_ _ z=>z.elim;refine tZ (ht _ _ _ _ _ s6 σ6 H6 _ I6 q6) (λb s6' ⟨H6',I6',q6'⟩=>?_) λ_ _ z=>z.elim;cases b with
   | false=>
    rw[dA hV]at q6' ⊢;obtain⟨m',hm',w7⟩:=q6';refine⟨m',hm',i+1,_,_,(I6'.unpinned).weak (by rw[lσ,I6'.len];rfl) kp6,T.keep _ _ _ st5 λb hb o e=>(I6'.pin (b,o) (gL _ (gL _ (kA hb e)))).1,λb hb=>?_,w7⟩;obtain⟨o,e,d⟩:=T.obj _ _ st5 b hb;exact(I6'.pin (b,o) (gL _ (gL _ (kA hb e)))).2.1
   | true=>
    rw[dC rfl]at q6' ⊢;refine tZ (he _ _ _ _ _ s6' σ6 H6' _ I6' q6') (λy s7 ⟨yv,H7,I7,r7,q7⟩=>?_) λ_ _ z=>z.elim;obtain⟨e7,m',hm',w7⟩:=q7;refine tZ (qZ (X:=jK X N scope cl HH.objs.size fp s2 H1) _ s7 σ6 H7 (.ref s2.heap.objs.size) [yv] (.ref s2.heap.objs.size) [y] (λ_ H8=>H8=upd H7 s2.heap.objs.size (.lst (ys++[yv]))) I7 rfl (.cons r7 .nil) ⟨_,ys,yv,rfl,rfl,e7,hz3,rfl⟩) (λ_ s8 ⟨_,H8,I8,_,q8⟩=>?_) λ_ _ z=>z.elim;subst q8;refine⟨m',hm',i+1,_,_,(I8.unpinned).weak (by rw[lσ,I8.len];rfl) kp6,T.keep _ _ _ st5 λb hb o e=>(I8.pin (b,o) (gL _ (gL _ (kA hb e)))).1,λb hb=>?_,w7⟩;obtain⟨o,e,d⟩:=T.obj _ _ st5 b hb;exact(I8.pin (b,o) (gL _ (gL _ (kA hb e)))).2.1
 exact codeAny_compStart_list loop (T.self _ 0 _ _ _ st4 loop)
theorem SV{own:Nat}{idx:List Nat}{N:List Str}{elt target iter t2 i2:Expr}{scope:Scope}{cl:List (Str×Addr)}{pos:Pos}{wi wi2:TI}{g g2:TG}{te:TE}(hc:X.calm=true)
  (hk:scope.kind=.function) (hclos:closureFor scope X.env=pure cl) (hcell:∀x∈scope.names,x.2≠.cell) (hnames:∀x∈scope.names,x.2=.local->scope.names.lookup x.1=some .local)
  (hsub:∀x c,cl.lookup x=some c->X.env.cells.lookup x=some c) (hhas:∀x,((relabel scope X.env).names.lookup x=some .cell∨(relabel scope X.env).names.lookup x=some .free)->∃c,cl.lookup x=some c)
  (hlen:N.length=own+idx.length)
  (hidx:∀(k j:Nat) (x:Str),idx[k]? = some j->N[own+k]? = some x->X.N[j]? = some x/\X.env.kindOf x=some .cell/\(relabel scope X.env).names.lookup x=some .cell/\X.env.scope.names.lookup x=some .cell)
  (hi:PI X target iter wi) (hg:∀C fp s2 H2,PG (jK X N scope cl C fp s2 H2) target g) (hi2:∀C fp s2 H2,PI (jK X N scope cl C fp s2 H2) t2 i2 wi2) (hg2:∀C fp s2 H2,PG (jK X N scope cl C fp s2 H2) t2 g2) (he:∀C fp s2 H2,PE (jK X N scope cl C fp s2 H2) elt te)
  (hs:∀x,foldedSetIterable iter X.env x=pure x:=by intro _;rfl) (hs2:∀(env:Env) x,foldedSetIterable i2 env x=pure x:=by intro _ _;rfl):PE X (.ListComp elt [⟨target,iter,[],0⟩,⟨t2,i2,[],0⟩] scope pos) (ZQ own idx wi g wi2 g2 te):=by
 intro ac s σ H Q I h;rw[eval_ListComp];refine wpAny_comprehension_free (use:=none) rfl hs hclos hk hnames (thn (hi ac s σ H _ I h) λv s1 h1=>thn h1 λitv s2 h2=>?_);obtain⟨it,fp,tn,J,H1,e,I2,T,st2,f2,hR⟩:=h2;subst e;have hlt:∀b∈fp,b<s2.heap.objs.size:=λb hb=>by
  obtain⟨o,ho,_⟩:=T.obj 0 _ st2 b hb;exact nZ ho
 refine wpAny_newObj_type (wpAny_newFunctionEnv hcell (by intro y hy;simp at hy) (λh₁ hns₁ hsb₁=>?_) hk);dsimp only at hns₁ hsb₁ ⊢;generalize hHH:s2.heap.push { cls:=.type "list",dict:=none,data:=.seq ([]:List Value).toArray } = HH at hns₁ hsb₁ ⊢;have hCe:HH.objs.size=s2.heap.objs.size+1:=by rw[<-hHH,nP]
 have hDC:s2.heap.objs.size≠HH.objs.size:=by rw[hCe];exact tE (mX _)
 have hCle:s2.heap.objs.size<=HH.objs.size:=by rw[hCe];exact Nat.le_succ _
 have old:∀b o,s2.heap.get? b=some o->h₁.get? b=some o:=λb o e=>hsb₁.extBut b o (by rw[hCe];exact tE (Nat.lt_succ_of_lt (nZ e))) (gI _ (hHH▸gI _ e));have hD:h₁.get? s2.heap.objs.size=some { cls:=.type "list",dict:=none,data:=.seq ([]:List Value).toArray } :=hsb₁.extBut _ _ hDC (gI _ (hHH▸gX _ rfl));have nD:H1 s2.heap.objs.size=none:=I2.hok.fresh uU ;obtain⟨W,⟨m0,w0⟩,turn⟩:=hR s2.heap.objs.size _ nD (jY (.lst []) nD) jE;generalize hσ:(List.replicate own none++idx.map λj=>(σ[j]?).getD none:L2.St)=σ0 at turn;have lσ:σ0.length=N.length:=by rw[<-hσ,hU,gM,mZ,hlen]
 have ok:=yP (N:=N) (cl:=cl) (C:=HH.objs.size) I2 hk hsub hhas hCle f2 hlt;have oldC:∀c v,s2.heap.IsCell c v->h₁.IsCell c v:=λc v ⟨o,ho,hd⟩=>⟨o,old c o ho,hd⟩;have I4:Inv (jK X N scope cl HH.objs.size fp s2 H1) [] σ0 (upd H1 s2.heap.objs.size (.lst [])) { s2 with heap:=h₁,toks:=s2.toks+([]:List (Str×Value)).length } :=by
  refine⟨ok,rfl,I2.bare,Un.laid old uU nD,⟨_,hns₁,λi x v e1 e2 _=>?_⟩,(λx c z=>?_), ?_,(λx c z=>?_),(λp hp=>nomatch hp),I2.hok.laid old uU ?_,lσ⟩
  ·
   rw[<-hσ]at e2;by_cases hi':i<own
   ·rw[gD (by rw[gM];exact hi'),List.getElem?_replicate]at e2;split at e2<;>cases e2
   ·obtain⟨k,rfl⟩:∃k,i=own+k:=⟨i-own,by omega⟩;rw[uZ (by rw[gM];omega),gM,Nat.add_sub_cancel_left,mH]at e2;cases ej:idx[k]? with
    | none=>rw[ej]at e2;cases e2
    | some j=>
     rw[ej,Option.map_some]at e2;have e2:=Option.some.inj e2;obtain⟨n1,n2,n3,n4⟩:=hidx k j x ej e1;have e3:σ[j]? = some (some v):=by
      cases q:σ[j]? with
      | none=>rw[q]at e2;cases e2
      | some y=>rw[q,Option.getD_some]at e2;rw[e2]
     obtain⟨m,hm,hl⟩:=I2.loc;obtain⟨u,ru,lk⟩:=hl j x v n1 e3 (.inr (.inl n4));refine⟨u,ru, ?_⟩;rcases lk with⟨kl,_⟩ | ⟨_,c,hcl,hic⟩
     ·rw[n2]at kl;cases kl
     ·obtain⟨c',hc'⟩:=hhas x (.inl n3);have:c'=c:=Option.some.inj ((hsub x c' hc').symm.trans hcl);subst this;exact .inr ⟨.inl n3,c',hc',oldC _ _ hic⟩
  ·obtain⟨v,hv⟩:=I2.cell x c (hsub x c z);exact⟨v,oldC _ _ hv⟩
  ·show(upd H1 s2.heap.objs.size (.lst [])) HH.objs.size=none;rw[jO (Ne.symm hDC)];exact I2.hok.fresh hCle
  ·obtain⟨v,hv⟩:=I2.cell x c (hsub x c z);show(upd H1 s2.heap.objs.size (.lst [])) c=none;rw[jO (tE hv.lt)];exact I2.freeC x c (hsub x c z)
  ·exact⟨by show 0<=sizeLine;decide,[],0,.nil,hD⟩
 have stat:∀{H':Hp},(∀b∈fp,H' b=none)->∀b∈fp,FpOk (jK X N scope cl HH.objs.size fp s2 H1) [] H' b:=λhn b hb=>
  ⟨hn b hb,(ok.exf b hb).1,ok.exfs b hb,.inl hb,(ok.exf b hb).2,λp hp=>nomatch hp⟩
 have st4:tn 0 h₁:=T.keep _ _ _ st2 λb _ o e=>old b o e;have fr4:∀b∈fp,(upd H1 s2.heap.objs.size (.lst [])) b=none:=λb hb=>by
  rw[jO (tE (hlt b hb))];exact(f2 b hb).1
 have loop:codeAny (model X.prog X.w) X.A (.compLoop (.ListComp elt [⟨target,iter,[],0⟩,⟨t2,i2,[],0⟩] scope pos) 0 (.ref it) (.ref s2.heap.objs.size) (compEnvC scope cl HH.objs.size X.env))
   (compPost (model X.prog X.w) X.A X.xe none (EP X ac σ Q) (.ref s2.heap.objs.size) HH.objs.size) { s2 with heap:=h₁,toks:=s2.toks+([]:List (Str×Value)).length } :=by
  refine FO (λn s'=>∃i H',Inv (jK X N scope cl HH.objs.size fp s2 H1) [] σ0 H' s'/\tn i s'.heap/\(∀b∈fp,H' b=none)/\W i n H') (hs2 _) ?_ m0 ⟨0,_,I4,st4,fr4,w0⟩;rintro n s3 ⟨i,H3,I3,st3,fr3,w3⟩;have hw:=turn i n H3 w3;rcases hw with⟨stop,qn⟩ | ⟨go,step⟩
  ·refine thn (T.done (jK X N scope cl HH.objs.size fp s2 H1) rfl rfl rfl hc i [] s3 _ H3 _ I3 (stat fr3) st3 stop) λr s4 ⟨hr,I5⟩=>?_;subst hr;obtain⟨m,hm,_⟩:=id I5.loc;refine⟨m,hm,λh' sb=>⟨.ref s2.heap.objs.size,H3, ?_,rfl,qn⟩⟩;have k:∀b o,b≠HH.objs.size->s4.heap.get? b=some o->h'.get? b=some o:=λb o hb e=>sb.extBut b o hb e;have nb:∀b o,s2.heap.get? b=some o->b≠HH.objs.size:=λb o e=>by rw[hCe];exact tE (Nat.lt_succ_of_lt (nZ e))
   have U:=I5.base;have fC:H3 HH.objs.size=none:=I5.free;refine I2.call' (ch:=fp) (s':={ s4 with heap:=h' }) I5.os ⟨λb o e n hb hx=>k b o (nb b o e) (U.keep b o e n hb hx),λb o e n hb hx=>?_,U.free,λb o e hx=>?_,U.tups,U.frzs,U.tbls⟩ (λb u e=>?_) I5.bare (λb hb=>⟨(f2 b hb).2.2.2.1,(f2 b hb).2.1,(f2 b hb).2.2.2.2.1,(f2 b hb).2.2.2.2.2⟩)
   ·obtain⟨sl,q⟩:=U.slot b o e n hb hx;exact⟨sl,k b _ (nb b o e) q⟩
   ·obtain⟨o',q⟩:=U.there b o e hx;exact⟨o',k b _ (nb b o e) q⟩
   ·refine(I5.hok b u e).stay (λc v hcc q=>k c v ?_ q) (λ_ q=>q) λ_ _ q=>q;rcases hcc with z | z
    ·rw[z];intro y;rw[y,fC]at e;cases e
    ·intro y;rw[y,fC]at z;cases z
  ·refine tZ (T.item (jK X N scope cl HH.objs.size fp s2 H1) rfl rfl rfl hc i [] s3 _ H3 (λ_ _=>False) I3 (stat fr3) st3 go) (λr s4 ⟨u,hr,h4⟩=>?_) λ_ _ z=>z.elim;subst hr;refine tZ h4 (λ_ s5 ⟨x,H5,I5,r5,y5,st5,fr5⟩=>?_) λ_ _ z=>z.elim;have I5':=I5.pinned (stat fr5) (T.obj _ _ st5);refine tZ (hg _ _ _ _ _ s5 _ H5 x u _ I5' r5 (step x H5 y5)) (λ_ s6 ⟨σ6,H6,I6,q6⟩=>?_) λ_ _ z=>z.elim;generalize hpins:([]:List (Addr×Obj))++EH fp s5.heap=pins' at I6;have keepT:∀{σ7:L2.St} {H7:Hp} {s7:Shared},Inv (jK X N scope cl HH.objs.size fp s2 H1) pins' σ7 H7 s7->Keep σ0 σ7->∀{m':Nat},m'<n->W (i+1) m' H7->∃m,m<n/\∃i H',Inv (jK X N scope cl HH.objs.size fp s2 H1) [] σ0 H' s7/\tn i s7.heap/\(∀b∈fp,H' b=none)/\W i m H':=fun {σ7 H7 s7} I7 kp {m'} hm' w7=>by
    subst hpins;refine⟨m',hm',i+1,_,(I7.unpinned).weak (by rw[lσ,I7.len];rfl) kp,T.keep _ _ _ st5 λb hb o e=>(I7.pin (b,o) (gL _ (gL _ (kA hb e)))).1,λb hb=>?_,w7⟩;obtain⟨o,e,d⟩:=T.obj _ _ st5 b hb;exact(I7.pin (b,o) (gL _ (gL _ (kA hb e)))).2.1
   refine tZ (hi2 _ _ _ _ _ s6 σ6 H6 _ I6 q6) (λx2 s7 h7=>tZ h7 (λj2 s8 h8=>?_) λ_ _ z=>z.elim) λ_ _ z=>z.elim;obtain⟨it2,fp2,tn2,J2,H8,e8,I8,T2,st8,f8,W2,⟨m20,ys0,w20⟩,turn2⟩:=h8;subst e8;have stat2:∀{H':Hp},(∀b∈fp2,H' b=none)->∀b∈fp2,FpOk (jK X N scope cl HH.objs.size fp s2 H1) pins' H' b:=λhn b hb=>⟨hn b hb,(f8 b hb).2⟩;have loop2:codeAny (model X.prog X.w) X.A (.compLoop (.ListComp elt [⟨target,iter,[],0⟩,⟨t2,i2,[],0⟩] scope pos) 1 (.ref it2) (.ref s2.heap.objs.size) (compEnvC scope cl HH.objs.size X.env)) (λr s'=>match r with | .ok _=>∃m,m<n/\∃i H',Inv (jK X N scope cl HH.objs.size fp s2 H1) [] σ0 H' s'/\tn i s'.heap/\(∀b∈fp,H' b=none)/\W i m H' | .error e=>cameBackBy (model X.prog X.w) X.A (compEnvC scope cl HH.objs.size X.env) (notedBy (model X.prog X.w) X.A (compEnvC scope cl HH.objs.size X.env) λe s'=>compPost (model X.prog X.w) X.A X.xe none (EP X ac σ Q) (.ref s2.heap.objs.size) HH.objs.size (.error e) s') e s') s8:=by
    refine FN (λn2 s'=>∃j ys σ' H',Inv (jK X N scope cl HH.objs.size fp s2 H1) pins' σ' H' s'/\tn2 j s'.heap/\(∀b∈fp2,H' b=none)/\W2 j n2 ys σ' H') ?_ m20 ⟨0,ys0,σ6,H8,I8,st8,λb hb=>(f8 b hb).1,w20⟩;rintro n2 s9 ⟨j,ys,σ9,H9,I9,st9,fr9,w9⟩;obtain⟨hp9,hz9,hw9⟩:=turn2 j n2 ys σ9 H9 w9;rcases hw9 with⟨stop2,kp9,m',hm',w'⟩ | ⟨go2,step2⟩
    ·refine thn (T2.done (jK X N scope cl HH.objs.size fp s2 H1) rfl rfl rfl hc j pins' s9 σ9 H9 _ I9 (stat2 fr9) st9 stop2) λr s10 ⟨hr,I10⟩=>?_;subst hr;exact keepT I10 kp9 hm' w'
    ·refine tZ (T2.item (jK X N scope cl HH.objs.size fp s2 H1) rfl rfl rfl hc j pins' s9 σ9 H9 (λ_ _=>False) I9 (stat2 fr9) st9 go2) (λr s10 ⟨u2,hr,h10⟩=>?_) λ_ _ z=>z.elim;subst hr;refine tZ h10 (λ_ s11 ⟨x11,H11,I11,r11,y11,st11,fr11⟩=>?_) λ_ _ z=>z.elim;have I11':=I11.pinned (stat2 fr11) (T2.obj _ _ st11);refine tZ (hg2 _ _ _ _ _ s11 _ H11 x11 u2 _ I11' r11 (step2 x11 H11 y11)) (λ_ s12 ⟨σ12,H12,I12,q12⟩=>?_) λ_ _ z=>z.elim;refine tZ (he _ _ _ _ _ s12 σ12 H12 _ I12 q12) (λy s13 ⟨yv,H13,I13,r13,q13⟩=>?_) λ_ _ z=>z.elim;obtain⟨e13,m',hm',w13⟩:=q13;refine tZ (qZ (X:=jK X N scope cl HH.objs.size fp s2 H1) _ s13 σ12 H13 (.ref s2.heap.objs.size) [yv] (.ref s2.heap.objs.size) [y] (λ_ H14=>H14=upd H13 s2.heap.objs.size (.lst (ys++[yv]))) I13 rfl (.cons r13 .nil) ⟨_,ys,yv,rfl,rfl,e13,hz9,rfl⟩) (λ_ s14 ⟨_,H14,I14,_,q14⟩=>?_) λ_ _ z=>z.elim;subst q14;refine⟨m',hm',j+1,_,_,_,I14.unpinned,T2.keep _ _ _ st11 λb hb o e=>(I14.pin (b,o) (gL _ (gL _ (kA hb e)))).1,λb hb=>?_,w13⟩;obtain⟨o,e,d⟩:=T2.obj _ _ st11 b hb;exact(I14.pin (b,o) (gL _ (gL _ (kA hb e)))).2.1
   exact FE loop2 (T2.self _ 0 _ _ _ st8 loop2)
 exact codeAny_compStart_list loop (T.self _ 0 _ _ _ st4 loop)
end
end Lw
namespace LwD
open PySem PySem.Spec PyProof.Rows L2
section
variable{prog:Program}{w:World}{A:Around}{E:Value->Shared->Prop}{s:Shared}{d it vw:Addr}{es:Array DictEntry}{ep i:Nat}
theorem SK{Q:Value->Shared->Prop}(lo:(d==sysModules)=false)(r:Raw s.heap d es ep)(q:Q (.ref s.heap.objs.size) { s with heap:=s.heap.push { cls:=.type "dict_values",data:=.fields #[.ref d] } }) :
  wpAny (model prog w) A (call (.builtin "dict.values") [.ref d]) Q E s:=by
 refine wpAny_call_entry PySem.F.slot_dict_values r.ty PySem.F.entry_dict_values ?_ (PySem.F.args_dict_values_1 _);unfold Builtin.«dict.values»;refine tX ?_;unfold Builtin.Dict.noArgs;refine tX (wpAny_notOrdered_dict r.ty ?_);show wpAny _ _ (pure d) _ _ s;refine tY ?_;show wpAny _ _ (Builtin.Dict.showsAll d >>= _) _ _ s;unfold Builtin.Dict.showsAll;rw[dA (by rw[lo];exact hV)];refine tX (tY ?_);exact tX (wpAny_newObj_type (tY ⟨_,rfl,q⟩))
theorem SM{Q:Value->Shared->Prop}(hv:s.heap.IsValuesView vw d)(r:Raw s.heap d es ep)
  (hQ:Q (.ref s.heap.objs.size) { s with heap:=s.heap.push { cls:=.type "dict_valueiterator",data:=.fields #[.ref d,.int 0 0,.int es.size 0,.int ep 0] } }):wpAny (model prog w) A (pyIter (.ref vw)) Q E s:=by
 obtain⟨ov,hov,hcv,hdv⟩:=id hv;obtain⟨o,ho,hc,hdat⟩:=id r;refine wpAny_pyIter_slot hv.typeIs F.slot_dict_values_iter (wpAny_call_entry F.slot_dict_values_iter hv.typeIs F.entry_dict_values_iter ?_ (F.args_dict_values_iter_1 _));unfold Builtin.«dict_values.__iter__»;refine tX (tY ?_);refine tX ?_;unfold Builtin.Dict_items.dictOf;refine tX (wpAny_field hov hdv (x:=.ref d) rfl (tY ?_));refine tX ?_;unfold Builtin.Dict_items.newIterator;refine tX (wpAny_dictEntries ho hdat ?_);refine tX (wpAny_dictEpoch ho hdat ?_);have hown:Builtin.Dict_items.ownsTuple "dict_valueiterator" = false:=by decide
 simp only[hown,Bool.false_eq_true,if_false];refine wpAny_newObj_type (tY ⟨_,rfl,"dict_valueiterator",_,⟨_,gX _ rfl,rfl⟩,F.slot_dict_valueiterator_next.lookup, ?_⟩);simpa [rawInt]using hQ
theorem SL{Q:Option Value->Shared->Prop}(k:s.heap.IsValIter it d i es.size ep)(r:Raw s.heap d es ep)(hi:i<es.size)
  (q:∀h',h'.IsValIter it d (i+1) es.size ep->Heap.SameBut it s.heap h'->Q (some es[i].val) { s with heap:=h' }):wpAny (model prog w) A (pyNext (.ref it)) Q E s:=by
 have ty:=k.typeIs;obtain⟨o,ho,hc,hd⟩:=id k;obtain⟨od,hod,hcd,hdd⟩:=id r;have own:Builtin.Dict_items.ownsTuple "dict_valueiterator" = false:=by decide
 unfold pyNext;refine tX (wpAny_attempt (wpAny_callSpecial?_slot (name:=Str.ofString "__next__") ty PySem.F.slot_dict_valueiterator_next (wpAny_call_entry PySem.F.slot_dict_valueiterator_next ty PySem.F.entry_dict_valueiterator_next ?_ (PySem.F.args_dict_valueiterator_next_1 _))));refine tX (tY (tX (tX ?_)));first | refine tX (wpAny_typeNameOfWhole_valiter ty (tY (tX (wpAny_fieldsOf ho hd ?_)))) | refine tX (wpAny_typeNameOf_valiter ty (tY (tX (wpAny_fieldsOf ho hd ?_))))
 simp only[own,Bool.false_eq_true,if_false];show wpAny _ _ (if (Value.ref d==Value.none)=true then _ else _) _ _ s;rw[dA (show ¬((Value.ref d==Value.none)=true)from hV)];refine tX (tY (tX (wpAny_dictEntries hod hdd ?_)));rw[dA (by simp)];refine tX (tY (tX (wpAny_dictEpoch hod hdd ?_)));rw[dA (by simp)];refine tY ?_;simp only[show ¬((i:Int)<0)from by omega,if_false,mP,Array.getElem?_eq_getElem hi];refine tX ?_;first | refine tX (wpAny_typeNameOfWhole_valiter ty (tY (tX (wpAny_isOneOf_valiter ty ?_)))) | refine tX (wpAny_typeNameOf_valiter ty (tY (tX (wpAny_isOneOf_valiter ty ?_))))
 show wpAny _ _ (setField (.ref it) 1 (rawInt ((i:Int)+1)) >>= _) _ _ s;have k':(s.heap.update it (Obj.mapFields (·.setIfInBounds 1 (rawInt ((i:Int)+1))))).IsValIter it d (i+1) es.size ep:=
  ⟨_,Heap.get?_update_self _ ho (Obj.isFreed_of_fields (Obj.data_mapFields hd _)),(Obj.cls_mapFields ..).trans hc,by rw[Obj.data_mapFields hd];simp [rawInt]⟩
 refine tX (wpAny_setField ho hd (by simp) (tX (wpAny_holding ?_)));refine tX (wpAny_isOneOf_valiter (s:={ s with heap:=s.heap.update it (Obj.mapFields (·.setIfInBounds 1 (rawInt ((i:Int)+1)))) }) k'.typeIs ?_);refine tX (wpAny_isOneOf_valiter (s:={ s with heap:=s.heap.update it (Obj.mapFields (·.setIfInBounds 1 (rawInt ((i:Int)+1)))) }) k'.typeIs ?_);show wpAny _ _ (pure es[i].val) _ _ _;exact tY (tY ⟨_,rfl,tY (q _ k' (Heap.SameBut.update ..))⟩)
theorem VY{Q:Option Value->Shared->Prop}(hh:A.handled=none)(k:s.heap.IsValIter it d es.size es.size ep)(r:Raw s.heap d es ep)(q:∀h',Heap.ExtBut it s.heap h'->Q none { s with heap:=h' }):wpAny (model prog w) A (pyNext (.ref it)) Q E s:=by
 have ty:=k.typeIs;obtain⟨o,ho,hc,hd⟩:=id k;obtain⟨od,hod,hcd,hdd⟩:=id r;have own:Builtin.Dict_items.ownsTuple "dict_valueiterator" = false:=by decide
 unfold pyNext;refine tX (wpAny_attempt (wpAny_callSpecial?_slot (name:=Str.ofString "__next__") ty PySem.F.slot_dict_valueiterator_next (wpAny_call_entry PySem.F.slot_dict_valueiterator_next ty PySem.F.entry_dict_valueiterator_next ?_ (PySem.F.args_dict_valueiterator_next_1 _))));refine tX (tY (tX (tX ?_)));first | refine tX (wpAny_typeNameOfWhole_valiter ty (tY (tX (wpAny_fieldsOf ho hd ?_)))) | refine tX (wpAny_typeNameOf_valiter ty (tY (tX (wpAny_fieldsOf ho hd ?_))))
 simp only[own,Bool.false_eq_true,if_false];show wpAny _ _ (if (Value.ref d==Value.none)=true then _ else _) _ _ s;rw[dA (show ¬((Value.ref d==Value.none)=true)from hV)];refine tX (tY (tX (wpAny_dictEntries hod hdd ?_)));rw[dA (by simp)];refine tX (tY (tX (wpAny_dictEpoch hod hdd ?_)));rw[dA (by simp)];refine tY ?_;simp only[show ¬((es.size:Int)<0)from by omega,if_false,mP,Array.getElem?_eq_none (tP es.size)];refine tX ?_;first | refine tX (wpAny_typeNameOfWhole_valiter ty (tY ?_)) | refine tX (wpAny_typeNameOf_valiter ty (tY ?_))
 show wpAny _ _ (setField (.ref it) 0 .none >>= _) _ _ s;refine tX (wpAny_setField ho hd (by simp) (show wpAny _ _ (newExc (.type "StopIteration") [] >>= _) _ _ _ from tX ?_));simp only[newExc,newTuple];refine tX (wpAny_newObj_type (tX (m:=firstArgMember _ _) (wpAny_of_eq (a:=Value.none) (by first | rfl | (simp only[firstArgMember];rfl)) (wpAny_newObj_type ?_ (by size_fits)))) (by size_fits));simp only[raiseNew];refine tX (wpAny_handled ?_);rw[show A.in1.handled=none from hh];refine tX (tY (wpAny_throw ?_));refine tX (wpAny_isInstance (b:=true) (T:="StopIteration") ⟨_,gX _ rfl,rfl⟩ isSubtype_stop ?_);exact tY (q _ (((Heap.SameBut.update ..).extBut.push _).push _))
theorem MP{h h':Heap}{n:Nat}(x:h.IsValIter it d i n ep)(k:∀o,h.get? it=some o->h'.get? it=some o):h'.IsValIter it d i n ep:=let ⟨o,ho,r⟩:=x;⟨o,k o ho,r⟩
theorem MO{h h':Heap}(x:h.IsValuesView vw d)(k:∀o,h.get? vw=some o->h'.get? vw=some o):h'.IsValuesView vw d:=let ⟨o,ho,r⟩:=x;⟨o,k o ho,r⟩
theorem JL{n:Nat}{Q:Value->Shared->Prop}(k:s.heap.IsValIter it d i n ep)(h:Q (.ref it) s):wpAny (model prog w) A (pyIter (.ref it)) Q E s:=by
 first | exact wpAny_pyIter_valiter k h | exact PySem.W.wpAny_pyIter_valiter k h
theorem NJ(hh:A.handled=none)(hne:d≠it):Walks prog w A it [it,d] [it] es.size (λi v=>∃h:i<es.size,v=es[i].val) (λi h=>h.IsValIter it d i es.size ep/\Raw h d es ep) where
 sub:=λb hb=>by simp at hb;simp [hb]
 frame:=λ_ _ _ st hk=>⟨MP st.1 λo e=>hk it (by simp) o e,st.2.keep λo e=>hk d (by simp) o e⟩
 item:=λi s Q E hi st hQ=>SL st.1 st.2 hi λh' k' hs'=>hQ _ h' s.toks ⟨hi,rfl⟩ ⟨k',st.2.keep λo e=>hs'.extBut d o hne e⟩ λb o hb e=>hs'.extBut b o (λh=>hb (by simp [h])) e
 done:=λs Q E st hQ=>VY hh st.1 st.2 λh' he'=>hQ h' s.toks λb o hb e=>he' b o (λh=>hb (by simp [h])) e
 self:=λ_ _ _ _ st hQ=>JL st.1 hQ
theorem VX:PySem.W.KdlSrc prog w "dict_values" vw d es.size (λi v=>∃h:i<es.size,v=es[i].val) (λh=>h.IsValuesView vw d/\Raw h d es ep) where
 type:=λ_ hm=>hm.1.typeIs
 there:=λ_ hm=>⟨let ⟨_,ho,_⟩:=hm.1;nZ ho,hm.2.lt⟩
 keep:=λ_ _ hm hk=>⟨MO hm.1 λo e=>hk vw (.inl rfl) o e,hm.2.keep λo e=>hk d (.inr rfl) o e⟩
 notList:=by decide
 notTuple:=by decide
 hint:=λ_ _ _ _ hm hq=>PySem.W.kdl_hint_values hm.1.typeIs hq
 iter:=λ_ _ hh hm=>⟨_,_,(λ_ _ hq=>SM hm.1 hm.2 hq),NJ hh (tE hm.2.lt),⟨⟨_,gX _ rfl,rfl,rfl⟩,hm.2.keep λo e=>gI _ e⟩⟩
end
section
variable{X:Cx}
def tListV(to:TE):TE:=fun σ H Q=>to σ H λv H1=>∃d ag,v=.ref d/\H1 d=some (.dT ag)/\Lw.New H1 (.lst (ag.map (·.2))) Q
theorem KTvals{H:Hp} :∀{ag:List (List Key×V)} {xs:List (List Key×Addr×Value)},KT H ag xs->Vals (ag.map (·.2)) (xs.map λx=>x.2.2):=by
 intro ag xs h;induction h with
 | nil=>exact .nil
 | cons k _ ih=>exact .cons k.2.2 ih
theorem WC{o:Expr}{to:TE}{p apos cpos pos:Pos}(hc:X.calm=true)(hg:Gl X "list")(hm:X.mg "list" = none)(ho:PE X o to)(hbase:attributeBase o "values" X.env (eval o X.env)=eval o X.env:=by rfl)(hline:(apos.endLine==cpos.line)=true:=by rfl)
  (hs2:starEach [.Call (.Attribute o "values" apos) [] [] cpos] X.env=[(false,eval (.Call (.Attribute o "values" apos) [] [] cpos) X.env)]:=by rfl) :
  PE X (.Call (.Name "list" p) [.Call (.Attribute o "values" apos) [] [] cpos] [] pos) (tListV to):=by
 intro ac s σ H Q I h;refine wpAny_Call_Name_kw (zA I hg hm (show bootBuiltins "list" = some (.type "list") by decide +kernel) ?_ (by decide) (by decide));refine PyProof.Rows.callWith_type1 ?_ hs2 rfl;rw[hs2];show wpAny _ _ (spliced ((false,eval (.Call (.Attribute o "values" apos) [] [] cpos) X.env)::backTo pos [])) _ _ s;refine Calls.spliced_cons ?_;refine wpAny_Call_method0_late hbase hline (thn (ho ac s σ H _ I h) λv s1 ⟨x,H1,I1,r1,d,ag,e,ed,q⟩=>?_);subst e;cases r1;obtain⟨h1,h2⟩:=MQ I1 (x:=.ref d) rfl (T:="dict") (.inr (.inr (.inl ⟨rfl,.inr ⟨ag,ed⟩⟩)));obtain⟨z,lo,ks,rel,dd⟩:=RC I1.hok ed;obtain⟨o',es,ep,hd1,hd2,hd3,he,his,hn⟩:=id dd;have raw:Raw s1.heap d es ep:=⟨o',hd1,hd2,hd3⟩;have esz:es.size=ag.length:=by rw[size_of_entries he,<-Paired.length rel]
 refine⟨"dict","dict.values",PySem.F.plainAttrs_dict,PySem.F.slot_dict_values,PySem.F.type_dict_values,h1,h2,Calls.callWith_builtin rfl (PySem.evalArgs_none ?_)⟩;refine SK lo raw ?_;refine Calls.spliced_nil ?_;have psz:(s1.heap.push { cls:=.type "dict_values",data:=.fields #[.ref d] }).objs.size=s1.heap.objs.size+1:=nP ..;refine PySem.W.kdl_call (VX (vw:=s1.heap.objs.size) (d:=d) (es:=es) (ep:=ep)) (I1.ok.hd hc) ⟨⟨_,gX _ rfl,rfl,rfl⟩,raw.keep λo e=>gI _ e⟩ (by rw[esz];exact z) λh' tk acc' c' hk hS' hacc=>?_;have n:H1 (s1.heap.push { cls:=.type "dict_values",data:=.fields #[.ref d] }).objs.size=none:=I1.hok.fresh (by rw[psz];exact Nat.le_succ _);have va:acc'.toList=ks.map λx=>x.2.2:=by
  refine mQ λj=>?_;by_cases hj:j<es.size
  ·obtain⟨hj2,ev⟩:=hacc.2 j acc'[j]! (by rw[Array.getElem?_eq_getElem (by rw[hacc.1];exact hj),getElem!_pos acc' j (by rw[hacc.1];exact hj)]);have e1:=entry_at he j;rw[Array.getElem?_eq_getElem hj]at e1;cases e2:ks[j]? with
   | none=>rw[e2]at e1;cases e1
   | some x=>
    rw[e2]at e1;have e3:es[j]=entryOfKey _ x:=Option.some.inj e1;rw[mH,e2,Array.getElem?_toList,Array.getElem?_eq_getElem (by rw[hacc.1];exact hj)];rw[getElem!_pos acc' j (by rw[hacc.1];exact hj)]at ev;rw[ev,e3]
    rfl
  ·rw[gN (by rw[Array.length_toList,hacc.1];omega),gN (by rw[mZ,<-Paired.length rel,<-esz];omega)]
 refine⟨.ref _,_,I1.laid (t':=tk) (o:=.lst (ag.map (·.2))) (λb ob q=>hk b ob (gI _ q)) (by rw[psz];exact Nat.le_succ _) ?_,rfl,q _ _ n (Lw.jY _ n) jE⟩;refine⟨by rw[mZ];exact z,ks.map (λx=>x.2.2),c',KTvals rel, ?_⟩;rw[<-va,Array.toArray_toList];exact hS'
end
end LwD
namespace Lw
open PySem PySem.Spec PyProof.Rows L2
section
variable{X:Cx}
theorem BN{i:Nat}{y:Str}{py spos:Pos}(hN:X.N.Nodup)(hi:X.N[i]? = some y)(hx:Loc X.env.scope y){own:Nat}{idx:List Nat}{N:List Str}{elt target iter c:Expr}{scope:Scope}{cl:List (Str×Addr)}{pos:Pos}{wi:TI}{g:TG}{tt:TT}{te:TE}(hc:X.calm=true)
  (hk:scope.kind=.function) (hclos:closureFor scope X.env=pure cl) (hcell:∀x∈scope.names,x.2≠.cell) (hnames:∀x∈scope.names,x.2=.local->scope.names.lookup x.1=some .local)
  (hsub:∀x c,cl.lookup x=some c->X.env.cells.lookup x=some c) (hhas:∀x,((relabel scope X.env).names.lookup x=some .cell∨(relabel scope X.env).names.lookup x=some .free)->∃c,cl.lookup x=some c)
  (hlen:N.length=own+idx.length)
  (hidx:∀(k j:Nat) (x:Str),idx[k]? = some j->N[own+k]? = some x->X.N[j]? = some x/\X.env.kindOf x=some .cell/\(relabel scope X.env).names.lookup x=some .cell/\X.env.scope.names.lookup x=some .cell)
  (hit:PI X target iter wi) (hg:∀C fp s2 H2,PG (jK X N scope cl C fp s2 H2) target g) (ht:∀C fp s2 H2,PT (jK X N scope cl C fp s2 H2) c tt) (he:∀C fp s2 H2,PE (jK X N scope cl C fp s2 H2) elt te)
  (hsw:swapsWith (.ListComp elt [⟨target,iter,[c],0⟩] scope pos) (some (.Name y py)) spos.line X.env=pure true:=by rfl)
  (hs:∀x,foldedSetIterable iter X.env x=pure x:=by intro _;rfl) (hfn:X.fn y=true∨X.env.scope.names.lookup y=some .local:=by first | exact .inl rfl | exact .inr rfl | assumption):PS X (.Assign [.Name y py] (.ListComp elt [⟨target,iter,[c],0⟩] scope pos) spos) (wD (ID own idx wi g tt te) (kT i)):=by
 intro ac s σ H D I h;rw[exec_Assign_Name_used _ _ _ _ hsw];refine tX (wpAny_standAt (tX ?_));show wpAny _ X.A (do let _<-comprehension (.ListComp elt [⟨target,iter,[c],0⟩] scope pos) scope X.env _ (newList []) false (eval iter X.env) (some (assign (.Name y py) X.env))) _ _ s;refine tX (tZ (wpAny_comprehension_free (use:=some (assign (.Name y py) X.env)) (Q:=λ_ s'=>∃σ' H',Inv X ac σ' H' s'/\D.nx σ' H') rfl hs hclos hk hnames (thn (hit ac s σ H _ I h) λv s1 h1=>thn h1 λitv s2 h2=>?_)) (λ_ s' hq=>tY (tY hq)) λ_ _ e=>e);obtain⟨it,fp,tn,J,H1,e,I2,T,st2,f2,hR⟩:=h2;subst e;have hlt:∀b∈fp,b<s2.heap.objs.size:=λb hb=>by
  obtain⟨o,ho,_⟩:=T.obj 0 _ st2 b hb;exact nZ ho
 refine wpAny_newObj_type (wpAny_newFunctionEnv hcell (by intro y hy;simp at hy) (λh₁ hns₁ hsb₁=>?_) hk);dsimp only at hns₁ hsb₁ ⊢;generalize hHH:s2.heap.push { cls:=.type "list",dict:=none,data:=.seq ([]:List Value).toArray } = HH at hns₁ hsb₁ ⊢;have hCe:HH.objs.size=s2.heap.objs.size+1:=by rw[<-hHH,nP]
 have hDC:s2.heap.objs.size≠HH.objs.size:=by rw[hCe];exact tE (mX _)
 have hCle:s2.heap.objs.size<=HH.objs.size:=by rw[hCe];exact Nat.le_succ _
 have old:∀b o,s2.heap.get? b=some o->h₁.get? b=some o:=λb o e=>hsb₁.extBut b o (by rw[hCe];exact tE (Nat.lt_succ_of_lt (nZ e))) (gI _ (hHH▸gI _ e));have hD:h₁.get? s2.heap.objs.size=some { cls:=.type "list",dict:=none,data:=.seq ([]:List Value).toArray } :=hsb₁.extBut _ _ hDC (gI _ (hHH▸gX _ rfl));have nD:H1 s2.heap.objs.size=none:=I2.hok.fresh uU ;obtain⟨W,⟨m0,w0⟩,turn⟩:=hR s2.heap.objs.size _ nD (jY (.lst []) nD) jE;generalize hσ:(List.replicate own none++idx.map λj=>(σ[j]?).getD none:L2.St)=σ0 at turn;have lσ:σ0.length=N.length:=by rw[<-hσ,hU,gM,mZ,hlen]
 have ok:=yP (N:=N) (cl:=cl) (C:=HH.objs.size) I2 hk hsub hhas hCle f2 hlt;have oldC:∀c v,s2.heap.IsCell c v->h₁.IsCell c v:=λc v ⟨o,ho,hd⟩=>⟨o,old c o ho,hd⟩;have I4:Inv (jK X N scope cl HH.objs.size fp s2 H1) [] σ0 (upd H1 s2.heap.objs.size (.lst [])) { s2 with heap:=h₁,toks:=s2.toks+([]:List (Str×Value)).length } :=by
  refine⟨ok,rfl,I2.bare,Un.laid old uU nD,⟨_,hns₁,λi x v e1 e2 _=>?_⟩,(λx c z=>?_), ?_,(λx c z=>?_),(λp hp=>nomatch hp),I2.hok.laid old uU ?_,lσ⟩
  ·
   rw[<-hσ]at e2;by_cases hi':i<own
   ·rw[gD (by rw[gM];exact hi'),List.getElem?_replicate]at e2;split at e2<;>cases e2
   ·obtain⟨k,rfl⟩:∃k,i=own+k:=⟨i-own,by omega⟩;rw[uZ (by rw[gM];omega),gM,Nat.add_sub_cancel_left,mH]at e2;cases ej:idx[k]? with
    | none=>rw[ej]at e2;cases e2
    | some j=>
     rw[ej,Option.map_some]at e2;have e2:=Option.some.inj e2;obtain⟨n1,n2,n3,n4⟩:=hidx k j x ej e1;have e3:σ[j]? = some (some v):=by
      cases q:σ[j]? with
      | none=>rw[q]at e2;cases e2
      | some y=>rw[q,Option.getD_some]at e2;rw[e2]
     obtain⟨m,hm,hl⟩:=I2.loc;obtain⟨u,ru,lk⟩:=hl j x v n1 e3 (.inr (.inl n4));refine⟨u,ru, ?_⟩;rcases lk with⟨kl,_⟩ | ⟨_,c,hcl,hic⟩
     ·rw[n2]at kl;cases kl
     ·obtain⟨c',hc'⟩:=hhas x (.inl n3);have:c'=c:=Option.some.inj ((hsub x c' hc').symm.trans hcl);subst this;exact .inr ⟨.inl n3,c',hc',oldC _ _ hic⟩
  ·obtain⟨v,hv⟩:=I2.cell x c (hsub x c z);exact⟨v,oldC _ _ hv⟩
  ·show(upd H1 s2.heap.objs.size (.lst [])) HH.objs.size=none;rw[jO (Ne.symm hDC)];exact I2.hok.fresh hCle
  ·obtain⟨v,hv⟩:=I2.cell x c (hsub x c z);show(upd H1 s2.heap.objs.size (.lst [])) c=none;rw[jO (tE hv.lt)];exact I2.freeC x c (hsub x c z)
  ·exact⟨by show 0<=sizeLine;decide,[],0,.nil,hD⟩
 have stat:∀{H':Hp},(∀b∈fp,H' b=none)->∀b∈fp,FpOk (jK X N scope cl HH.objs.size fp s2 H1) [] H' b:=λhn b hb=>
  ⟨hn b hb,(ok.exf b hb).1,ok.exfs b hb,.inl hb,(ok.exf b hb).2,λp hp=>nomatch hp⟩
 have st4:tn 0 h₁:=T.keep _ _ _ st2 λb _ o e=>old b o e;have fr4:∀b∈fp,(upd H1 s2.heap.objs.size (.lst [])) b=none:=λb hb=>by
  rw[jO (tE (hlt b hb))];exact(f2 b hb).1
 have loop:codeAny (model X.prog X.w) X.A (.compLoop (.ListComp elt [⟨target,iter,[c],0⟩] scope pos) 0 (.ref it) (.ref s2.heap.objs.size) (compEnvC scope cl HH.objs.size X.env))
   (compPost (model X.prog X.w) X.A X.xe (some (assign (.Name y py) X.env)) (λ_ s'=>∃σ' H',Inv X ac σ' H' s'/\D.nx σ' H') (.ref s2.heap.objs.size) HH.objs.size) { s2 with heap:=h₁,toks:=s2.toks+([]:List (Str×Value)).length } :=by
  refine wR (λn s'=>∃i ys H',Inv (jK X N scope cl HH.objs.size fp s2 H1) [] σ0 H' s'/\tn i s'.heap/\(∀b∈fp,H' b=none)/\W i n ys H') ?_ m0 ⟨0,[],_,I4,st4,fr4,w0⟩;rintro n s3 ⟨i,ys,H3,I3,st3,fr3,w3⟩;obtain⟨hp3,hz3,hw⟩:=turn i n ys H3 w3;rcases hw with⟨stop,qn⟩ | ⟨go,step⟩
  ·refine thn (T.done (jK X N scope cl HH.objs.size fp s2 H1) rfl rfl rfl hc i [] s3 _ H3 _ I3 (stat fr3) st3 stop) λr s4 ⟨hr,I5⟩=>?_;subst hr;obtain⟨m,hm,_⟩:=id I5.loc;have U:=I5.base;have fC:H3 HH.objs.size=none:=I5.free;have IX:Inv X ac σ H3 s4:=I2.call' (ch:=fp) (s':=s4) I5.os U I5.hok I5.bare (λb hb=>⟨(f2 b hb).2.2.2.1,(f2 b hb).2.1,(f2 b hb).2.2.2.2.1,(f2 b hb).2.2.2.2.2⟩);have ltC:∀b,b<s2.heap.objs.size->b≠HH.objs.size:=λb hb=>tE (mB hb hCle);show wpAny _ X.A (assign (.Name y py) X.env (.ref s2.heap.objs.size)) _ _ s4;refine wpAny_assign_Name (AW IX hN hi hx (v:=.ref s2.heap.objs.size) rfl (λs5 I6 ⟨a,sb,ha⟩=>?_) hfn);have aC:a≠HH.objs.size:=by
    rcases ha with ha | ha
    ·rw[ha];exact ltC _ I2.lt
    ·obtain⟨v,hv⟩:=I2.cell y a ha;exact ltC _ hv.lt
   refine⟨m,hm.sameBut sb (Ne.symm aC),λh' sb'=>⟨_,H3, ?_,qn⟩⟩;refine I6.turned (it:=HH.objs.size) (t':=s5.toks) (λb o hb e=>sb'.extBut b o hb e) fC (Ne.symm (ltC _ I2.lt)) (.inr (tD I2.sz hCle)) (λx c hc=>?_) (λp hp=>?_)
   ·obtain⟨v,hv⟩:=I2.cell x c hc;exact ltC _ hv.lt
   ·exact ltC _ (nZ (I2.pin p hp).1)
  ·refine tZ (T.item (jK X N scope cl HH.objs.size fp s2 H1) rfl rfl rfl hc i [] s3 _ H3 (λ_ _=>False) I3 (stat fr3) st3 go) (λr s4 ⟨u,hr,h4⟩=>?_) λ_ _ z=>z.elim;subst hr;refine tZ h4 (λ_ s5 ⟨x,H5,I5,r5,y5,st5,fr5⟩=>?_) λ_ _ z=>z.elim;have I5':=I5.pinned (stat fr5) (T.obj _ _ st5);refine tZ (hg _ _ _ _ _ s5 _ H5 x u _ I5' r5 (step x H5 y5)) (λ_ s6 ⟨σ6,H6,I6,kp6,q6⟩=>?_) λ_ _ z=>z.elim;refine tZ (ht _ _ _ _ _ s6 σ6 H6 _ I6 q6) (λb s6' ⟨H6',I6',q6'⟩=>?_) λ_ _ z=>z.elim;cases b with
   | false=>
    rw[dA hV]at q6' ⊢;obtain⟨m',hm',w7⟩:=q6';refine⟨m',hm',i+1,_,_,(I6'.unpinned).weak (by rw[lσ,I6'.len];rfl) kp6,T.keep _ _ _ st5 λb hb o e=>(I6'.pin (b,o) (gL _ (gL _ (kA hb e)))).1,λb hb=>?_,w7⟩;obtain⟨o,e,d⟩:=T.obj _ _ st5 b hb;exact(I6'.pin (b,o) (gL _ (gL _ (kA hb e)))).2.1
   | true=>
    rw[dC rfl]at q6' ⊢;refine tZ (he _ _ _ _ _ s6' σ6 H6' _ I6' q6') (λy s7 ⟨yv,H7,I7,r7,q7⟩=>?_) λ_ _ z=>z.elim;obtain⟨e7,m',hm',w7⟩:=q7;refine tZ (qZ (X:=jK X N scope cl HH.objs.size fp s2 H1) _ s7 σ6 H7 (.ref s2.heap.objs.size) [yv] (.ref s2.heap.objs.size) [y] (λ_ H8=>H8=upd H7 s2.heap.objs.size (.lst (ys++[yv]))) I7 rfl (.cons r7 .nil) ⟨_,ys,yv,rfl,rfl,e7,hz3,rfl⟩) (λ_ s8 ⟨_,H8,I8,_,q8⟩=>?_) λ_ _ z=>z.elim;subst q8;refine⟨m',hm',i+1,_,_,(I8.unpinned).weak (by rw[lσ,I8.len];rfl) kp6,T.keep _ _ _ st5 λb hb o e=>(I8.pin (b,o) (gL _ (gL _ (kA hb e)))).1,λb hb=>?_,w7⟩;obtain⟨o,e,d⟩:=T.obj _ _ st5 b hb;exact(I8.pin (b,o) (gL _ (gL _ (kA hb e)))).2.1
 exact codeAny_compStart_list loop (T.self _ 0 _ _ _ st4 loop)
end
end Lw
namespace L2
open PySem PySem.Spec PyProof.Rows
section
variable{X:Cx}
theorem TW{α:Type}{M:Model}{A:Around}{E:Value->Shared->Prop}{s:Shared}{F:Nat->Option α×Unit->Sem (ForInStep (Option α×Unit))}{R:Option α×Unit->Shared->Prop}{j:Nat}
  (h1:∀i (Q:ForInStep (Option α×Unit)->Shared->Prop),i<j->Q (.yield (none,())) s->wpAny M A (F i (none,())) Q E s) (h2:wpAny M A (F j (none,())) (λr s'=>∃a,r=.done (some a,())/\R (some a,()) s') E s) :
  ∀m a:Nat,a<=j->j<a+m->wpAny M A (forIn (List.range' a m) (none,()) F) R E s:=by
 intro m;induction m with
 | zero=>intro a h3 h4;omega
 | succ m ih=>
  intro a h3 h4;rw[List.range'_succ,List.forIn_cons];by_cases e:a=j
  ·subst e;refine tX (tZ h2 (λr s' h=>?_) λ_ _ e=>e);obtain⟨a,rfl,h⟩:=h;exact tY h
  ·exact tX (h1 a _ (by omega) (ih (a+1) (by omega) (by omega)))
def rIndex(K:dD):V->List V->Hp->VK->Prop:=λx xs H Q=>∃(p:Addr) (ys:List V) (y:V) (j:Nat),x=.ref p/\xs=[y]/\SqT K H p ys/\LR y=true/\ys.all LR=true/\j<ys.length/\(∀i z,i<j->ys[i]? = some z->eqV z y=false)/\(∀z,ys[j]? = some z->eqV z y=true)/\Q (.int j) H
theorem XF:MtR X "tuple.index" (rIndex X.K):=by
 intro ac s σ H x xs v us Q I rx rs q;obtain⟨p,ys,y,j,rfl,rfl,hp,fy,fa,hj,hn,hy,q⟩:=q;cases rx;obtain⟨u,rfl,ru⟩:=xC rs;obtain⟨its,rv,pl,hz⟩:=I.tuple hp;have hT:s.TypeIs (.ref p) "tuple":=by
  obtain⟨o,ho,hc,_⟩:=pl;exact⟨o,ho,hc⟩
 refine wpAny_call_entry F.slot_tuple_index hT F.entry_tuple_index ?_ (F.args_tuple_index_2 _ _);unfold Builtin.«tuple.index»;refine tX (m:=selfAndSome "tuple.index" "index" 1 3 _) (tY ?_);refine tX (tupleItemsOf_ pl ?_);refine tX (tY ?_);refine tX (tY ?_);refine tX ?_;rw[Std.Legacy.Range.forIn_eq_forIn_range'];have hl:=rv.length;have esz:([0:min its.toArray.size its.toArray.size]:Std.Legacy.Range).size=its.length:=by
  simp [Std.Legacy.Range.size]
 rw[esz];have e0:List.range' ([0:min its.toArray.size its.toArray.size]:Std.Legacy.Range).start its.length ([0:min its.toArray.size its.toArray.size]:Std.Legacy.Range).step=List.range' 0 its.length:=rfl;rw[e0];have at':∀a,a<ys.length->∃z v,ys[a]? = some z/\its.toArray[a]? = some v/\RelV z v/\LR z=true:=λa ha=>by
  obtain⟨z,hzz⟩:∃z,ys[a]? = some z:=⟨ys[a],by simp [ha]⟩;obtain⟨v,hv,rz⟩:=rv.get hzz;exact⟨z,v,hzz,by simpa using hv,rz,List.all_eq_true.mp fa z (gQ hzz)⟩
 refine TW (j:=j) (λi R hi hR=>?_) ?_ _ 0 (tQ _) (by omega)
 ·obtain⟨z,v,h1,h2,h3,h4⟩:=at' i (by omega);rw[h2];refine tX (YK h3 ru h4 fy _ _ _ _ ?_);rw[hn i z hi h1,dA hV];exact tY hR
 ·obtain⟨z,v,h1,h2,h3,h4⟩:=at' j hj;rw[h2];refine tX (YK h3 ru h4 fy _ _ _ _ ?_);rw[hy z h1,dC rfl];refine tX (m:=retInt (j:Int)) ?_;unfold retInt;refine tX (wpAny_mkInt ?_);exact tY (tY ⟨_,rfl,tY ⟨_,rfl,.int j,H,I.tok _,⟨_,rfl⟩,q⟩⟩)
end
end L2
namespace LwF
def dot(I:List Nat)(a v:Nat->Rat):Rat:=(I.map λi=>a i*v i).sum
theorem vV(a v:Nat->Rat):dot [] a v=0:=rfl
theorem kF(i:Nat)(I:List Nat)(a v:Nat->Rat):dot (i::I) a v=a i*v i+dot I a v:=by
 unfold dot;rw[nQ,nX]
theorem yW(I J:List Nat)(a v:Nat->Rat):dot (I++J) a v=dot I a v+dot J a v:=by
 induction I with
 | nil=>rw[List.nil_append,vV];grind
 | cons i I ih=>rw[List.cons_append,kF,kF,ih];grind
theorem jX{I:List Nat}{a a' v v':Nat->Rat}(h:∀i∈I,a i*v i=a' i*v' i):dot I a v=dot I a' v':=by
 induction I with
 | nil=>rfl
 | cons i I ih=>rw[kF,kF,h i (by simp),ih λj hj=>h j (by simp [hj])]
theorem JR(I:List Nat)(a v v':Nat->Rat):dot I a (λi=>v i+v' i)=dot I a v+dot I a v':=by
 induction I with
 | nil=>simp only[vV];grind
 | cons i I ih=>simp only[kF,ih];grind
theorem xZ(I:List Nat)(a v:Nat->Rat)(t:Rat):dot I a (λi=>t*v i)=t*dot I a v:=by
 induction I with
 | nil=>simp only[vV];grind
 | cons i I ih=>simp only[kF,ih];grind
theorem vG{I:List Nat}{a v:Nat->Rat}(h:∀i∈I,v i=0):dot I a v=0:=by
 induction I with
 | nil=>rfl
 | cons i I ih=>rw[kF,h i (by simp),ih λj hj=>h j (by simp [hj])];grind
theorem YN(I:List Nat)(a b v:Nat->Rat)(c:Rat):dot I (λi=>a i-c*b i) v=dot I a v-c*dot I b v:=by
 induction I with
 | nil=>simp only[vV];grind
 | cons i I ih=>simp only[kF,ih];grind
theorem wW{I:List Nat}{k:Nat}(hk:k∈I)(a v:Nat->Rat):dot I a v=a k*v k+dot (I.erase k) a v:=by
 induction I with
 | nil=>cases hk
 | cons i I ih=>
  by_cases h:i=k
  ·subst h;rw[List.erase_cons_head,kF]
  ·rw[List.erase_cons_tail (by simpa using h),kF,kF,ih (by rcases nT.mp hk with e | e;exact absurd e.symm h;exact e)]
   grind
theorem OC(I:List Nat)(a v:Nat->Rat)(p:Nat->Bool)(h:∀i∈I,p i=false->v i=0):dot I a v=dot (I.filter p) a v:=by
 induction I with
 | nil=>rfl
 | cons i I ih=>
  rw[kF,ih λj hj=>h j (by simp [hj])];by_cases hp:p i=true
  ·rw[List.filter_cons_of_pos hp,kF]
  ·rw[List.filter_cons_of_neg hp,h i (by simp) (by simpa using hp)];grind
theorem VG:∀(A:List (Nat->Rat)) (I:List Nat),I.Nodup->A.length<I.length->∃v:Nat->Rat,(∃i∈I,v i≠0)/\(∀i,i∉I->v i=0)/\∀a∈A,dot I a v=0
 | [],I,_,h=>by
  cases I with
  | nil=>simp at h
  | cons k I=>exact⟨λi=>if i=k then 1 else 0,⟨k,by simp,by simp⟩,λi hi=>dA λz=>hi (by simp [z]),λa ha=>nomatch ha⟩
 | a::A,I,nd,h=>by
  by_cases hz:∀i∈I,a i=0
  ·obtain⟨v,h1,h2,h3⟩:=VG A I nd (by simp at h;omega);refine⟨v,h1,h2,λb hb=>?_⟩;rcases nT.mp hb with rfl | hb
   ·have:dot I b v=dot I (λ_=>0) v:=jX λi hi=>by rw[hz i hi]
    rw[this];clear this;generalize I=J;induction J with
    | nil=>rfl
    | cons j J ih=>rw[kF,ih];grind
   ·exact h3 b hb
  ·obtain⟨k,hk,ak⟩:∃k,k∈I/\a k≠0:=gA λn=>hz λi hi=>gA λm=>n ⟨i,hi,m⟩;have nd':=nd.erase k;have le:(I.erase k).length=I.length-1:=List.length_erase_of_mem hk;obtain⟨v,⟨i,hi,vi⟩,h2,h3⟩:=VG (A.map λb i=>b i-b k/a k*a i) (I.erase k) nd' (by rw[mZ,le];simp at h;omega);have kn:k∉I.erase k:=λz=>(List.Nodup.mem_erase_iff nd).mp z |>.1 rfl;have vk:v k=0:=h2 k kn;let t:=-(dot (I.erase k) a v)/a k;have e:∀b,dot (I.erase k) b (λi=>if i=k then t else v i)=dot (I.erase k) b v:=λb=>jX λi hi=>by rw[dA];rintro rfl;exact kn hi
   have tk:a k*t = -(dot (I.erase k) a v):=by show a k*(-(dot (I.erase k) a v)/a k)=_;grind
   refine⟨λi=>if i=k then t else v i,⟨i,List.mem_of_mem_erase hi, ?_⟩,λj hj=>?_,λb hb=>?_⟩
   ·show(if i=k then t else v i)≠0;rw[dA (λz:i=k=>kn (z▸hi))];exact vi
   ·show(if j=k then t else v j)=0;rw[dA (λz:j=k=>hj (z▸hk))];exact h2 j λz=>hj (List.mem_of_mem_erase z)
   ·rw[wW hk,e];simp only[if_true];rcases nT.mp hb with rfl | hb
    ·rw[tk];grind
    ·have:=h3 _ (List.mem_map_of_mem hb);rw[YN]at this;have tb:b k*t=b k/a k*(a k*t):=by grind
     rw[tb,tk];grind
termination_by A _ _ _=>A.length
decreasing_by all_goals (simp only[mZ,mU];omega)
abbrev Vc:=Nat->Rat
theorem BH{c:Rat}(h:0<c):0<=c⁻¹:=Rat.le_of_lt (Rat.inv_pos.mpr h)
inductive Cone(G:Vc->Prop):Vc->Prop where
 | zero:Cone G λ_=>0
 | gen {g:Vc} {t:Rat} :G g->0<=t->Cone G λi=>t*g i
 | add {a b:Vc} :Cone G a->Cone G b->Cone G λi=>a i+b i
theorem Cone.mono{G G':Vc->Prop}(h:∀g,G g->G' g){x:Vc}(c:Cone G x):Cone G' x:=by
 induction c with
 | zero=>exact .zero
 | gen g t=>exact .gen (h _ g) t
 | add _ _ h1 h2=>exact .add h1 h2
theorem Cone.eq{G:Vc->Prop}{x y:Vc}(c:Cone G x)(h:∀i,y i=x i):Cone G y:=by
 have:y=x:=funext h;rw[this];exact c
theorem Cone.smul{G:Vc->Prop}{x:Vc}(c:Cone G x){t:Rat}(ht:0<=t):Cone G λi=>t*x i:=by
 induction c with
 | zero=>exact Cone.zero.eq λi=>by grind
 | gen g t'=>exact(Cone.gen g (nO ht t')).eq λi=>by grind
 | add _ _ h1 h2=>exact(Cone.add h1 h2).eq λi=>by grind
structure Lin(f:Vc->Rat):Prop where
 add:∀a b:Vc,f (λi=>a i+b i)=f a+f b
 smul:∀(t:Rat) (a:Vc),f (λi=>t*a i)=t*f a
theorem Lin.zero{f:Vc->Rat}(h:Lin f):f (λ_=>0)=0:=by
 have:=h.smul 0 λ_=>0;have e:(λi:Nat=>(0:Rat)*(λ_:Nat=>(0:Rat)) i)=λ_=>0:=by funext i;grind
 rw[e]at this;grind
theorem QJ(I:List Nat)(a:Vc):Lin (dot I a):=⟨λx y=>JR I a x y,λt x=>xZ I a x t⟩
theorem Lin.nn{f:Vc->Rat}(h:Lin f){G:Vc->Prop}(hg:∀g,G g->0<=f g){x:Vc}(c:Cone G x):0<=f x:=by
 induction c with
 | zero=>rw[h.zero];exact tW
 | gen g t=>rw[h.smul];exact nO t (hg _ g)
 | add _ _ h1 h2=>rw[h.add];exact Rat.add_nonneg h1 h2
def FP(f:Vc->Rat)(u d:Vc):Vc:=λi=>u i * -(f d)+d i*f u
def Next(f:Vc->Rat)(G:Vc->Prop):Vc->Prop:=λx=>(G x/\f x=0)∨∃u d,G u/\G d/\0<f u/\f d<0/\x=FP f u d
theorem KR{f:Vc->Rat}(h:Lin f){G:Vc->Prop}{x:Vc}(c:Cone (λg=>G g/\0<f g) x):0<=f x/\(f x=0->∀i,x i=0):=by
 induction c with
 | zero=>exact⟨by rw[h.zero];exact tW,λ_ _=>rfl⟩
 | gen g t=>
  rename_i g0 t0;rw[h.smul];refine⟨nO t (Rat.le_of_lt g.2),λz i=>?_⟩;have:=g.2;have:t0=0:=by rcases Rat.mul_eq_zero.mp z with e | e;exact e;rw[e]at this;exact absurd this (Rat.lt_irrefl)
  rw[this];grind
 | add _ _ h1 h2=>
  rw[h.add];refine⟨Rat.add_nonneg h1.1 h2.1,λz i=>?_⟩;have a1:=h1.1;have a2:=h2.1;show _+_=(0:Rat);rw[h1.2 (by grind) i,h2.2 (by grind) i];grind
theorem XA{f:Vc->Rat}(h:Lin f){G:Vc->Prop}{x:Vc}(c:Cone (λg=>G g/\f g<0) x):f x<=0/\(f x=0->∀i,x i=0):=by
 have h':Lin λv=>-(f v):=⟨λa b=>by show -(f _)=_;rw[h.add];grind,λt a=>by show -(f _)=_;rw[h.smul];grind⟩;have:=KR h' (c.mono (G':=λg=>G g/\0 < -(f g)) λg k=>⟨k.1,by have:=k.2;grind⟩);exact⟨by have:=this.1;grind,λz=>this.2 (by rw[z];grind)⟩
theorem UK{f:Vc->Rat}(h:Lin f){G:Vc->Prop}{p q:Vc}(cp:Cone (λg=>G g/\0<f g) p)(cq:Cone (λg=>G g/\f g<0) q):Cone (Next f G) (FP f p q):=by
 induction cp with
 | zero=>exact Cone.zero.eq λi=>by unfold FP;rw[h.zero];grind
 | add _ _ h1 h2=>exact(Cone.add h1 h2).eq λi=>by unfold FP;rw[h.add];grind
 | gen gu tu=>
  rename_i u t;induction cq with
  | zero=>exact Cone.zero.eq λi=>by unfold FP;rw[h.zero];grind
  | add _ _ h1 h2=>exact(Cone.add h1 h2).eq λi=>by unfold FP;rw[h.add];grind
  | gen gd td=>
   rename_i d r;exact(Cone.gen (G:=Next f G) (g:=FP f u d) (t:=t*r) (.inr ⟨u,d,gu.1,gd.1,gu.2,gd.2,rfl⟩) (nO tu td)).eq λi=>by unfold FP;rw[h.smul,h.smul];grind
theorem parts{f:Vc->Rat}{G:Vc->Prop}{x:Vc}(c:Cone G x):∃o p q,Cone (λg=>G g/\f g=0) o/\Cone (λg=>G g/\0<f g) p/\Cone (λg=>G g/\f g<0) q/\∀i,x i=o i+p i+q i:=by
 induction c with
 | zero=>exact⟨_,_,_,.zero,.zero,.zero,λi=>by grind⟩
 | gen g t=>
  rename_i g0 t0;have tri:f g0<0∨f g0=0∨0<f g0:=by grind
  rcases tri with z | z | z
  ·exact⟨_,_,_,.zero,.zero,.gen ⟨g,z⟩ t,λi=>by grind⟩
  ·exact⟨_,_,_,.gen ⟨g,z⟩ t,.zero,.zero,λi=>by grind⟩
  ·exact⟨_,_,_,.zero,.gen ⟨g,z⟩ t,.zero,λi=>by grind⟩
 | add _ _ h1 h2=>
  obtain⟨o,p,q,a1,a2,a3,a4⟩:=h1;obtain⟨o',p',q',b1,b2,b3,b4⟩:=h2;exact⟨_,_,_,.add a1 b1,.add a2 b2,.add a3 b3,λi=>by show _+_=_;rw[a4,b4];grind⟩
theorem WX{f:Vc->Rat}(h:Lin f){G:Vc->Prop}{x:Vc}(c:Cone G x)(z:f x=0):Cone (Next f G) x:=by
 obtain⟨o,p,q,a1,a2,a3,a4⟩:=parts (f:=f) c;have e:f x=f o+f p+f q:=by
  have:x=λi=>(λi=>o i+p i) i+q i:=funext a4;rw[this,h.add,h.add]
 have o0:f o=0:=by
  have l:=h.nn (G:=λg=>G g/\f g=0) (λg k=>by rw[k.2];exact tW) a1;have h':Lin λv=>-(f v):=⟨λa b=>by show -(f _)=_;rw[h.add];grind,λt a=>by show -(f _)=_;rw[h.smul];grind⟩;have r:=h'.nn (G:=λg=>G g/\f g=0) (λg k=>by show 0<=-(f g);rw[k.2];grind) a1
  grind
 have co:Cone (Next f G) o:=a1.mono λg k=>.inl k;have hp:=KR h a2;have hq:=XA h a3;by_cases c0:f p=0
 ·have q0:f q=0:=by grind
  exact co.eq λi=>by rw[a4,hp.2 c0 i,hq.2 q0 i];grind
 ·have cp:0<f p:=by have:=hp.1;grind
  have fq:f q = -(f p):=by grind
  have b:=(UK h a2 a3).smul (t:=(f p)⁻¹) (BH cp);exact(Cone.add co b).eq λi=>by rw[a4];unfold FP;rw[fq];grind
def yC(n:Nat)(v:Vc):List Nat:=(List.range n).filter λi=>decide (v i≠0)
theorem mem_supp{n:Nat}{v:Vc}{i:Nat} :i∈yC n v↔i<n/\v i≠0:=by unfold yC;simp
structure InC(n:Nat)(A:List Vc)(s:Vc):Prop where
 nn:∀i,0<=s i
 out:∀i,n<=i->s i=0
 z:∀a∈A,dot (List.range n) a s=0
theorem InC.lt{n:Nat}{A:List Vc}{s:Vc}(h:InC n A s){i:Nat}(hi:s i≠0):i<n:=gA λz=>hi (h.out i (by omega))
theorem InC.pos{n:Nat}{A:List Vc}{s:Vc}(h:InC n A s){i:Nat}(hi:s i≠0):0<s i:=by have:=h.nn i;grind
theorem RB{p q:Nat->Bool} :∀{l:List Nat},(∀i∈l,p i=true->q i=true)->∀{j:Nat},j∈l->q j=true->p j=false->(l.filter p).length<(l.filter q).length
 | [],_,_,hj,_,_=>nomatch hj
 | a::l,h,j,hj,qj,pj=>by
  have le:∀l:List Nat,(∀i∈l,p i=true->q i=true)->(l.filter p).length<=(l.filter q).length:=λl h=>by
   induction l with
   | nil=>exact tP _
   | cons b l ih=>
    have:=ih λi hi=>h i (by simp [hi]);rw[mY,mY];split
    ·rename_i hp;rw[dC (h b (by simp) hp)];simp only[mU];omega
    ·split<;>(try simp only[mU])<;>omega
  have hl:∀i∈l,p i=true->q i=true:=λi hi=>h i (by simp [hi]);have:=le l hl;rw[mY,mY];rcases nT.mp hj with rfl | hj
  ·rw[dC qj,dA (by rw[pj];decide),mU];omega
  ·have:=RB hl hj qj pj;split
   ·rename_i hp;rw[dC (h a (by simp) hp)];simp only[mU];omega
   ·split<;>(try simp only[mU])<;>omega
theorem OQ{n:Nat}{v w:Vc}(h:∀i,v i≠0->w i≠0){j:Nat}(hj:j<n)(wj:w j≠0)(vj:v j=0):(yC n v).length<(yC n w).length:=
 RB (λi _ hi=>by simp only[decide_eq_true_eq]at hi ⊢;exact h i hi) (nJ.mpr hj) (by simpa using wj) (by simpa using vj)
theorem LJ(r:Nat->Rat):∀(I:List Nat),I≠[]->∃j∈I,∀i∈I,r j<=r i
 | [],h=>absurd rfl h
 | [a],_=>⟨a,by simp,λi hi=>by simp at hi;rw[hi];exact tW⟩
 | a::b::I,_=>by
  obtain⟨j,hj,hl⟩:=LJ r (b::I) (by simp);by_cases h:r a<=r j
  ·exact⟨a,by simp,λi hi=>by
    rcases nT.mp hi with rfl | hi
    ·exact tW
    ·exact Rat.le_trans h (hl i hi)⟩
  ·exact⟨j,gR _ hj,λi hi=>by
    rcases nT.mp hi with rfl | hi
    ·grind
    ·exact hl i hi⟩
theorem div_le{a b t:Rat}(hb:0<b)(h:t<=a/b):t*b<=a:=by
 have:=Rat.mul_le_mul_of_nonneg_right h (Rat.le_of_lt hb)
 rwa [Rat.div_mul_cancel (by grind)]at this
theorem CY{a b:Rat}(ha:0<a)(hb:0<b):0<a/b:=by
 rw[tT];exact Rat.mul_pos ha (Rat.inv_pos.mpr hb)
theorem EB{n:Nat}{A:List Vc}{s w:Vc}(hs:InC n A s)(wz:∀a∈A,dot (List.range n) a w=0)(sub:∀i,w i≠0->s i≠0){i0:Nat}(h0:0<w i0) :
  ∃t,0<=t/\InC n A (λi=>s i-t*w i)/\(yC n λi=>s i-t*w i).length<(yC n s).length/\(∀i,s i-t*w i≠0->s i≠0):=by
 have w0:w i0≠0:=by grind
 obtain⟨j,hj,hl⟩:=LJ (λi=>s i/w i) ((List.range n).filter λi=>decide (0<w i)) (List.ne_nil_of_mem (a:=i0) (by simp;exact⟨hs.lt (sub i0 w0),h0⟩));simp only[List.mem_filter,nJ,decide_eq_true_eq]at hj hl;obtain⟨jn,wj⟩:=hj;have wj0:w j≠0:=by grind
 have sj:=hs.pos (sub j wj0);have tp:=CY sj wj;have sz:∀i,s i=0->s i-s j/w j*w i=0:=λi h=>by
  have:w i=0:=gA λz=>sub i z h;rw[h,this];grind
 have jz:s j-s j/w j*w j=0:=by rw[Rat.div_mul_cancel wj0];grind
 refine⟨s j/w j,Rat.le_of_lt tp,⟨λi=>?_,λi hi=>sz i (hs.out i hi),λa ha=>?_⟩,OQ (λi h z=>h (sz i z)) jn (sub j wj0) jz,λi h z=>h (sz i z)⟩
 ·by_cases wi:0<w i
  ·have i_n:i<n:=hs.lt (sub i (by grind));have:=div_le wi (hl i ⟨i_n,wi⟩)
   grind
  ·have h1:=hs.nn i;have h2:0<=s j/w j * -(w i):=nO (Rat.le_of_lt tp) (by grind)
   grind
 ·have e:(λi=>s i-s j/w j*w i)=λi=>s i+(λi=>-(s j/w j)*w i) i:=by funext i;grind
  rw[e,JR,xZ,hs.z a ha,wz a ha];grind
theorem cone_in{G:Vc->Prop}(nn:∀g,G g->∀i,0<=g i){s:Vc}(c:Cone G s):(∀i,0<=s i)/\∀i,s i≠0->∃g,G g/\(∃j,g j≠0)/\∀j,g j≠0->s j≠0:=by
 induction c with
 | zero=>exact⟨λ_=>tW,λi h=>absurd rfl h⟩
 | gen g t=>
  rename_i g0 t0;refine⟨λi=>nO t (nn _ g i),λi h=>⟨g0,g,⟨i,λz=>h (by show t0*g0 i=0;rw[z];grind)⟩,λj hj z=>?_⟩⟩;rcases Rat.mul_eq_zero.mp z with e | e
  ·exact h (by show t0*g0 i=0;rw[e];grind)
  ·exact hj e
 | add _ _ h1 h2=>
  rename_i a b _ _;refine⟨λi=>Rat.add_nonneg (h1.1 i) (h2.1 i),λi h=>?_⟩;by_cases ha:a i=0
  ·have hb:b i≠0:=λz=>h (by show a i+b i=0;rw[ha,z];grind);obtain⟨g,k1,k2,k3⟩:=h2.2 i hb;exact⟨g,k1,k2,λj hj z=>k3 j hj (by have:=h1.1 j;have:=h2.1 j;have z:a j+b j=0:=z;grind)⟩
  ·obtain⟨g,k1,k2,k3⟩:=h1.2 i ha;exact⟨g,k1,k2,λj hj z=>k3 j hj (by have:=h1.1 j;have:=h2.1 j;have z:a j+b j=0:=z;grind)⟩
theorem prune{n:Nat}{A:List Vc}{G K:Vc->Prop}(hG:∀g,G g->InC n A g)(gen:∀s,InC n A s->Cone G s)(hK:∀k,K k->InC n A k)(keep:∀g,G g->(yC n g).length<=A.length+1->∃k,K k/\yC n k=yC n g):∀(N:Nat) (s:Vc),(yC n s).length<=N->InC n A s->Cone K s:=by
 intro N;induction N with
 | zero=>
  intro s h hs;refine Cone.zero.eq λi=>gA λz=>?_;have:i∈yC n s:=mem_supp.mpr ⟨hs.lt z,z⟩;rw[List.length_eq_zero_iff.mp (Nat.le_zero.mp h)]at this;cases this
 | succ N ih=>
  intro s h hs;by_cases h0:∀i,s i=0
  ·exact Cone.zero.eq h0
  obtain⟨i0,si0⟩:∃i,s i≠0:=gA λz=>h0 λi=>gA λy=>z ⟨i,y⟩;have n0:=hs.lt si0;by_cases hA:∃m,InC n A m/\(∃i,m i≠0)/\(∀i,m i≠0->s i≠0)/\(yC n m).length<(yC n s).length
  ·obtain⟨m,mc,⟨i,mi⟩,sub,lt⟩:=hA;obtain⟨t,t0,c,l,_⟩:=EB hs mc.z sub (mc.pos mi);have c1:=ih _ (by omega) c;have c2:=ih _ (by omega) mc;exact(Cone.add c1 (c2.smul t0)).eq λi=>by grind
  ·obtain⟨g,Gg,⟨gi,hgi⟩,gs⟩:=(cone_in (λg hg=>(hG g hg).nn) (gen s hs)).2 i0 si0;have gc:=hG g Gg;have sg:∀i,s i≠0->g i≠0:=λi hi z=>hA ⟨g,gc,⟨gi,hgi⟩,gs,OQ gs (hs.lt hi) hi z⟩;have eq:yC n g=yC n s:=by
    unfold yC;refine List.filter_congr λi _=>?_;by_cases z:s i=0
    ·have:g i=0:=gA λy=>gs i y z;simp [z,this]
    ·simp [z,sg i z]
   have few:(yC n s).length<=A.length+1:=gA λaa=>by
    have mem0:i0∈yC n s:=mem_supp.mpr ⟨n0,si0⟩;have nd:(yC n s).Nodup:=List.Nodup.sublist List.filter_sublist List.nodup_range;obtain⟨v,⟨k,hk,vk⟩,vo,vz⟩:=VG A ((yC n s).erase i0) (nd.erase i0) (by rw[List.length_erase_of_mem mem0];omega);have v0:v i0=0:=vo i0 λz=>(List.Nodup.mem_erase_iff nd).mp z |>.1 rfl;have vs:∀i,v i≠0->s i≠0:=λi hi=>(mem_supp.mp (List.mem_of_mem_erase (gA λz=>hi (vo i z)))).2;have dz:∀a∈A,dot (List.range n) a v=0:=λa ha=>by
     rw[OC (List.range n) a v (λi=>decide (s i≠0)) λi _ hi=>gA λz=>by simp at hi;exact vs i z hi];show dot (yC n s) a v=0;rw[wW mem0,v0,vz a ha];grind
    have fin:∀w:Vc,(∀a∈A,dot (List.range n) a w=0)->(∀i,w i≠0->s i≠0)->w i0=0->0<w k->False:=λw wz ws w0 wk=>by
     obtain⟨t,t0,c,l,sb⟩:=EB hs wz ws wk;exact hA ⟨_,c,⟨i0,by show s i0-t*w i0≠0;rw[w0];grind⟩,sb,l⟩
    by_cases p:0<v k
    ·exact fin v dz vs v0 p
    ·exact fin (λi=>-1*v i) (λa ha=>by rw[xZ,dz a ha];grind) (λi hi=>vs i λz=>hi (by show -1*v i=0;rw[z];grind)) (by show -1*v i0=0;rw[v0];grind) (by show 0 < -1*v k;grind)
   obtain⟨k,Kk,ek⟩:=keep g Gg (by rw[eq];exact few);have kc:=hK k Kk;have k0:k i0≠0:=(mem_supp.mp (by rw[ek,eq];exact mem_supp.mpr ⟨n0,si0⟩:i0∈yC n k)).2;have ks:∀i,k i≠0->s i≠0:=λi hi=>(mem_supp.mp (by rw[<-eq,<-ek];exact mem_supp.mpr ⟨kc.lt hi,hi⟩:i∈yC n s)).2;obtain⟨t,t0,c,l,sb⟩:=EB hs kc.z ks (kc.pos k0);have all0:∀i,s i-t*k i=0:=λi=>gA λz=>hA ⟨_,c,⟨i,z⟩,sb,l⟩;exact(Cone.gen Kk t0).eq λi=>by have:=all0 i;grind
abbrev Rw:=List Int
def shr(m:Nat)(r:Rw):Vc:=λi=>((r.getD (m+2+i) 0:Int):Rat)
def zL(u d:Rw)(l:Nat):Rw:=List.zipWith (λx y=>x * -(d.getD l 0)+y*u.getD l 0) u d
def xF(m:Nat)(r:Rw):List Nat:=(List.range (r.length-(m+2))).filter λi=>decide (r.getD (m+2+i) 0≠0)
def ups(l:Nat)(af:List Rw):List Rw:=af.filter λr=>decide (r.getD l 0>0)
def wQ(l:Nat)(af:List Rw):List Rw:=af.filter λr=>decide (r.getD l 0<0)
def LQ(l:Nat)(af:List Rw):List Rw:=af.filter λr=>decide (r.getD l 0=0)
def uA(l:Nat)(us ds:List Rw):List Rw:=us.flatMap λu=>ds.map λd=>zL u d l
def wZ(l:Nat)(af:List Rw):List Rw:=LQ l af++uA l (ups l af) (wQ l af)
def uB(m l:Nat):List (List Nat×Rw)->List Rw->List (List Nat×Rw)
 | F,[]=>F
 | F,r::rs=>if (xF m r).length<=l+2/\xF m r∉F.map (·.1)then uB m l (F++[(xF m r,r)]) rs else uB m l F rs
def wG(m l:Nat)(af:List Rw):List Rw:=(uB m l [] (wZ l af)).map (·.2)
def kG(m:Nat)(af:List Rw):Nat->List Rw
 | 0=>af
 | e+1=>wG m e (kG m af e)
structure RowOk(m S n:Nat)(rim:Nat->Nat->Rat)(e:Nat)(r:Rw):Prop where
 len:r.length=m+2+S
 lin:∀j,j<m+2->((r.getD j 0:Int):Rat)=dot (List.range n) (λi=>rim i j) (shr m r)
 nn:∀i,0<=r.getD (m+2+i) 0
 out:∀i,n<=i->r.getD (m+2+i) 0=0
 z:∀j,j<e->r.getD j 0=0
def fnl(rim:Nat->Nat->Rat)(e:Nat):List Vc:=(List.range e).map λl i=>rim i l
theorem RowOk.inC{m S n e:Nat}{rim:Nat->Nat->Rat}{r:Rw}(h:RowOk m S n rim e r)(he:e<=m):InC n (fnl rim e) (shr m r):=by
 refine⟨λi=>by unfold shr;exact_mod_cast h.nn i,λi hi=>by unfold shr;rw[h.out i hi];rfl,λa ha=>?_⟩;obtain⟨l,hl,rfl⟩:=tF.mp ha;have hl:=nJ.mp hl;rw[<-h.lin l (by omega),h.z l hl];rfl
theorem AO{u d:Rw}{l:Nat}(h:u.length=d.length):(zL u d l).length=u.length:=by unfold zL;rw[List.length_zipWith];omega
theorem yQ{u d:Rw}{l:Nat}(h:u.length=d.length)(j:Nat):(zL u d l).getD j 0=u.getD j 0 * -(d.getD l 0)+d.getD j 0*u.getD l 0:=by
 unfold zL;rw[uY,uY,uY (l:=d),List.getElem?_zipWith];by_cases hj:j<u.length
 ·have hd:j<d.length:=by omega
  simp [gE hj,gE hd]
 ·have hd:d.length<=j:=by omega
  simp [gN (Nat.le_of_not_lt hj),gN hd]
theorem RK{m S n e:Nat}{rim:Nat->Nat->Rat}{u d:Rw}(hu:RowOk m S n rim e u)(hd:RowOk m S n rim e d)(pu:0<u.getD e 0)(pd:d.getD e 0<0):RowOk m S n rim (e+1) (zL u d e):=by
 have hl:u.length=d.length:=hu.len.trans hd.len.symm;refine⟨(AO hl).trans hu.len,λj hj=>?_,λi=>?_,λi hi=>?_,λj hj=>?_⟩
 ·have es:shr m (zL u d e)=λi=>(-(d.getD e 0:Int):Rat)*shr m u i+(λi=>((u.getD e 0:Int):Rat)*shr m d i) i:=by
   funext i
   unfold shr;rw[yQ hl]
   push_cast
   grind
  rw[es,JR,xZ,xZ,<-hu.lin j hj,<-hd.lin j hj,yQ hl]
  push_cast
  grind
 ·rw[yQ hl];exact Int.add_nonneg (Int.mul_nonneg (hu.nn i) (by omega)) (Int.mul_nonneg (hd.nn i) (by omega))
 ·rw[yQ hl,hu.out i hi,hd.out i hi];omega
 ·rw[yQ hl];by_cases h:j=e
  ·subst h;grind
  ·rw[hu.z j (by omega),hd.z j (by omega)];omega
theorem RowOk.up{m S n e:Nat}{rim:Nat->Nat->Rat}{r:Rw}(h:RowOk m S n rim e r)(z:r.getD e 0=0):RowOk m S n rim (e+1) r:=
 ⟨h.len,h.lin,h.nn,h.out,λj hj=>by by_cases k:j=e;rw[k];exact z;exact h.z j (by omega)⟩
theorem mem_cand{l:Nat}{af:List Rw}{c:Rw} :c∈wZ l af↔(c∈af/\c.getD l 0=0)∨∃u d,(u∈af/\0<u.getD l 0)/\(d∈af/\d.getD l 0<0)/\c=zL u d l:=by
 unfold wZ LQ uA ups wQ;simp only[nC,List.mem_filter,List.mem_flatMap,tF,decide_eq_true_eq];constructor
 ·rintro(h | ⟨u,hu,d,hd,rfl⟩)
  ·exact .inl h
  ·exact .inr ⟨u,d,hu,hd,rfl⟩
 ·rintro(h | ⟨u,d,hu,hd,rfl⟩)
  ·exact .inl h
  ·exact .inr ⟨u,hu,d,hd,rfl⟩
theorem zT(m l:Nat):∀(rs:List Rw) (F:List (List Nat×Rw)),(∀x∈F,x.1=xF m x.2)->
  (∀x∈uB m l F rs,x.1=xF m x.2/\(x∈F∨x.2∈rs))/\(∀x∈F,x∈uB m l F rs)/\∀r∈rs,(xF m r).length<=l+2->∃x∈uB m l F rs,xF m x.2=xF m r
 | [],F,h=>⟨λx hx=>⟨h x hx,.inl hx⟩,λ_ hx=>hx,λ_ hr=>nomatch hr⟩
 | r::rs,F,h=>by
  unfold uB;split
  ·rename_i c;obtain⟨i1,i2,i3⟩:=zT m l rs (F++[(xF m r,r)]) λx hx=>by
    rcases nC.mp hx with hx | hx
    ·exact h x hx
    ·rw[mC.mp hx]
   refine⟨λx hx=>⟨(i1 x hx).1, ?_⟩,λx hx=>i2 x (by simp [hx]),λr' hr' hb=>?_⟩
   ·rcases(i1 x hx).2 with y | y
    ·rcases nC.mp y with y | y
     ·exact .inl y
     ·rw[mC.mp y];exact .inr (by simp)
    ·exact .inr (by simp [y])
   ·rcases nT.mp hr' with rfl | hr'
    ·exact⟨(xF m r',r'),i2 _ (by simp),rfl⟩
    ·exact i3 r' hr' hb
  ·rename_i c;obtain⟨i1,i2,i3⟩:=zT m l rs F h;refine⟨λx hx=>⟨(i1 x hx).1,(i1 x hx).2.imp id λy=>by simp [y]⟩,i2,λr' hr' hb=>?_⟩;rcases nT.mp hr' with rfl | hr'
   ·have:xF m r'∈F.map (·.1):=gA λz=>c ⟨hb,z⟩;obtain⟨x,hx,e⟩:=tF.mp this;exact⟨x,i2 x hx,by rw[<-h x hx];exact e⟩
   ·exact i3 r' hr' hb
theorem IU{n S:Nat}(h:n<=S){p:Nat->Bool}(hp:∀i,n<=i->p i=false):(List.range S).filter p=(List.range n).filter p:=by
 obtain⟨k,rfl⟩:∃k,S=n+k:=⟨S-n,by omega⟩;have z:((List.range k).map λx=>n+x).filter p=[]:=List.filter_eq_nil_iff.mpr λi hi=>by
  obtain⟨j,_,rfl⟩:=tF.mp hi;rw[hp _ (by omega)];decide
 rw[List.range_add,List.filter_append,z,List.append_nil]
theorem BL{m S n e:Nat}{rim:Nat->Nat->Rat}{r:Rw}(h:RowOk m S n rim e r)(hn:n<=S):xF m r=yC n (shr m r):=by
 unfold xF yC;rw[h.len,show m+2+S-(m+2)=S by omega,IU hn λi hi=>by rw[h.out i hi];decide];refine List.filter_congr λi _=>?_;unfold shr;by_cases z:r.getD (m+2+i) 0=0
 ·rw[z];simp
 ·have:((r.getD (m+2+i) 0:Int):Rat)≠0:=by exact_mod_cast z
  simp only[ne_eq,z,not_false_eq_true,decide_true,this]
structure StOk(m S n:Nat)(rim:Nat->Nat->Rat)(e:Nat)(af:List Rw):Prop where
 ok:∀r∈af,RowOk m S n rim e r
 gen:∀s,InC n (fnl rim e) s->Cone (λv=>∃r∈af,v=shr m r) s
theorem LP(rim:Nat->Nat->Rat)(e:Nat):fnl rim (e+1)=fnl rim e++[λi=>rim i e]:=by unfold fnl;rw[nF,nA];rfl
theorem AU{m l:Nat}{af:List Rw}{k:Rw}(h:k∈wG m l af):k∈wZ l af:=by
 obtain⟨x,hx,rfl⟩:=tF.mp h;rcases((zT m l (wZ l af) [] λ_ h=>nomatch h).1 x hx).2 with y | y
 ·cases y
 ·exact y
theorem StOk.next{m S n e:Nat}{rim:Nat->Nat->Rat}{af:List Rw}(h:StOk m S n rim e af)(he:e<m)(hn:n<=S):StOk m S n rim (e+1) (wG m e af):=by
 have co:∀c∈wZ e af,RowOk m S n rim (e+1) c:=λc hc=>by
  rcases mem_cand.mp hc with⟨a,b⟩ | ⟨u,d,⟨u1,u2⟩,⟨d1,d2⟩,rfl⟩
  ·exact(h.ok c a).up b
  ·exact RK (h.ok u u1) (h.ok d d1) u2 d2
 have sub:∀k∈wG m e af,k∈wZ e af:=λk hk=>AU hk;refine⟨λr hr=>co r (sub r hr),λs hs=>?_⟩;refine prune (G:=λv=>∃c∈wZ e af,v=shr m c) ?_ ?_ ?_ ?_ _ s uU hs
 ·rintro g ⟨c,hc,rfl⟩;exact(co c hc).inC (by omega)
 ·intro s hs;have fs:dot (List.range n) (λi=>rim i e) s=0:=hs.z _ (by rw[LP];simp);have c0:=h.gen s ⟨hs.nn,hs.out,λa ha=>hs.z a (by rw[LP];simp [ha])⟩;refine(WX (QJ (List.range n) λi=>rim i e) c0 fs).mono ?_;rintro g (⟨⟨r,hr,rfl⟩,z⟩ | ⟨u,d,⟨ru,hu,rfl⟩,⟨rd,hd,rfl⟩,pu,pd,rfl⟩)
  ·rw[<-(h.ok r hr).lin e (by omega)]at z;exact⟨r,mem_cand.mpr (.inl ⟨hr,by exact_mod_cast z⟩),rfl⟩
  ·have lu:=(h.ok ru hu).lin e (by omega);have ld:=(h.ok rd hd).lin e (by omega);rw[<-lu]at pu;rw[<-ld]at pd;refine⟨zL ru rd e,mem_cand.mpr (.inr ⟨ru,rd,⟨hu,by exact_mod_cast pu⟩,⟨hd,by exact_mod_cast pd⟩,rfl⟩), ?_⟩
   funext i
   unfold FP;rw[<-lu,<-ld];unfold shr;rw[yQ ((h.ok ru hu).len.trans (h.ok rd hd).len.symm)]
   push_cast
   rfl
 ·rintro k ⟨r,hr,rfl⟩;exact(co r (sub r hr)).inC (by omega)
 ·rintro g ⟨c,hc,rfl⟩ hl;have lA:(fnl rim (e+1)).length=e+1:=by unfold fnl;simp
  rw[lA,<-BL (co c hc) hn]at hl;obtain⟨x,hx,ex⟩:=(zT m e (wZ e af) [] λ_ h=>nomatch h).2.2 c hc hl;have xm:x.2∈wG m e af:=List.mem_map_of_mem hx;exact⟨_,⟨x.2,xm,rfl⟩,by rw[<-BL (co _ (sub _ xm)) hn,<-BL (co c hc) hn,ex]⟩
theorem yL{m S n:Nat}{rim:Nat->Nat->Rat}{af:List Rw}(h:StOk m S n rim 0 af)(hn:n<=S):∀e,e<=m->StOk m S n rim e (kG m af e)
 | 0,_=>h
 | e+1,he=>(yL h hn e (by omega)).next (by omega) hn
def rw':List Int->List Rat->Rat
 | n::ns,k::ks=>(n:Rat)*k+rw' ns ks
 | _,_=>0
theorem xH(ns:List Int):rw' ns []=0:=by cases ns<;>rfl
def rest(l:Nat)(ks:List Rat)(r:Rw):Rat:=rw' (r.drop (l+1)) ks
def xN(l:Nat)(ks:List Rat)(v:Rat)(r:Rw):Rat:=if ((r.getD l 0:Int):Rat)*v+rest l ks r<0 then rest l ks r/((-(r.getD l 0):Int):Rat)else v
def QD(l:Nat)(ks:List Rat)(af:List Rw):Rat:=af.foldl (xN l ks) 0
def qL(m:Nat)(st:Nat->List Rw)(T:Rat):Nat->List Rat
 | 0=>[T,1]
 | k+1=>QD (m-1-k) (qL m st T k) (st (m-1-k))::qL m st T k
theorem qK(m:Nat)(st:Nat->List Rw)(T:Rat):∀k,(qL m st T k).length=k+2
 | 0=>rfl
 | k+1=>by unfold qL;rw[mU,qK m st T k]
structure Bears(l:Nat)(ks:List Rat)(af:List Rw):Prop where
 z:∀r∈af,r.getD l 0=0->0<=rest l ks r
 p:∀u∈af,∀d∈af,0<u.getD l 0->d.getD l 0<0->0<=((-(d.getD l 0):Int):Rat)*rest l ks u+((u.getD l 0:Int):Rat)*rest l ks d
theorem ZG{N a w X R:Rat}(hN:N<0)(w1:N*w+R=0)(q:0<=-N*X+a*R):0<=a*w+X:=by
 have hR:R = -(N*w):=by grind
 have e: -N*(a*w+X) = -N*X+a*R:=by rw[hR];grind
 refine gA λk=>?_;have:=Rat.mul_pos (a:=-N) (b:=-(a*w+X)) (by grind) (by grind);have e2: -N * -(a*w+X) = -(-N*(a*w+X)):=by grind
 rw[e2,e]at this
 grind
theorem ZF{N a w X R:Rat}(hN:0<N)(w1:N*w+R=0)(q:0<=-a*R+N*X):0<=a*w+X:=by
 have hR:R = -(N*w):=by grind
 have e:N*(a*w+X) = -a*R+N*X:=by rw[hR];grind
 refine gA λk=>?_;have:=Rat.mul_pos (a:=N) (b:=-(a*w+X)) (by grind) (by grind);have e2:N * -(a*w+X) = -(N*(a*w+X)):=by grind
 rw[e2,e]at this
 grind
theorem HA{l:Nat}{ks:List Rat}{af:List Rw}(h:Bears l ks af){done:List Rw}{r:Rw}(hr:r∈af)(hd:∀x∈done,x∈af){v:Rat}(hv:∀x∈done,0<=((x.getD l 0:Int):Rat)*v+rest l ks x) :
  (((r.getD l 0:Int):Rat)*v+rest l ks r<0->r.getD l 0≠0)/\∀x∈done++[r],0<=((x.getD l 0:Int):Rat)*xN l ks v r+rest l ks x:=by
 have nz:((r.getD l 0:Int):Rat)*v+rest l ks r<0->r.getD l 0≠0:=λc z=>by
  have:=h.z r hr z;rw[z]at c;have e:((0:Int):Rat)=0:=rfl
  grind
 refine⟨nz,λx hx=>?_⟩;unfold xN;by_cases c:((r.getD l 0:Int):Rat)*v+rest l ks r<0
 ·rw[dC c];have rz:=nz c;have rq:((r.getD l 0:Int):Rat)≠0:=by exact_mod_cast rz
  have ec:((-(r.getD l 0):Int):Rat) = -((r.getD l 0:Int):Rat):=by push_cast;rfl
  have pp:=h.p;generalize hR:rest l ks r=R at c pp ⊢;generalize hN:((r.getD l 0:Int):Rat)=N at c rq ec ⊢;rw[ec];have w1:N*(R / -N)+R=0:=by grind
  generalize hw:R / -N=w at w1 ⊢;rcases nC.mp hx with hx | hx
  ·have h1:=hv x hx;have xm:=hd x hx;generalize hX:rest l ks x=X at h1 ⊢;generalize hx0:((x.getD l 0:Int):Rat)=a at h1 ⊢;rcases Int.lt_or_gt_of_ne rz with rn | rp
   ·have Nn:N<0:=by rw[<-hN];exact_mod_cast rn
    have wv:w<v:=by
     refine gA λk=>?_;have:=nO (a:=-N) (b:=w-v) (by grind) (by grind)
     grind
    by_cases xp:0<x.getD l 0
    ·have ap:0<a:=by rw[<-hx0];exact_mod_cast xp
     have q:=h.p x xm r hr xp rn;rw[hR,hX,hx0]at q;have e2:((-(r.getD l 0):Int):Rat) = -N:=by rw[<-hN];push_cast;rfl
     rw[e2]at q;exact ZG Nn w1 q
    ·have an:a<=0:=by rw[<-hx0];exact_mod_cast (Int.not_lt.mp xp)
     have:=nO (a:=-a) (b:=v-w) (by grind) (by grind)
     grind
   ·have Np:0<N:=by rw[<-hN];exact_mod_cast rp
    have wv:v<w:=by
     refine gA λk=>?_;have:=nO (a:=N) (b:=v-w) (by grind) (by grind)
     grind
    by_cases xn:x.getD l 0<0
    ·have an:a<0:=by rw[<-hx0];exact_mod_cast xn
     have q:=h.p r hr x xm rp xn;have e2:((-(x.getD l 0):Int):Rat) = -a:=by rw[<-hx0];push_cast;rfl
     rw[hR,hX,e2,hN]at q;exact ZF Np w1 q
    ·have ap:0<=a:=by rw[<-hx0];exact_mod_cast (Int.not_lt.mp xn)
     have:=nO (a:=a) (b:=w-v) (by grind) (by grind)
     grind
  ·rw[mC.mp hx,hN,hR,w1];exact tW
 ·rw[dA c];rcases nC.mp hx with hx | hx
  ·exact hv x hx
  ·rw[mC.mp hx];grind
theorem EO{l:Nat}{ks:List Rat}{af:List Rw}(h:Bears l ks af):∀(todo done:List Rw) (v:Rat),(∀x∈todo,x∈af)->(∀x∈done,x∈af)->(∀x∈done,0<=((x.getD l 0:Int):Rat)*v+rest l ks x)->∀x∈done++todo,0<=((x.getD l 0:Int):Rat)*todo.foldl (xN l ks) v+rest l ks x
 | [],done,v,_,_,h3=>λx hx=>h3 x (by simpa using hx)
 | r::todo,done,v,h1,h2,h3=>λx hx=>by
  have s:=HA h (h1 r (by simp)) h2 h3;have:=EO h todo (done++[r]) (xN l ks v r) (λx hx=>h1 x (by simp [hx])) (λx hx=>by rcases nC.mp hx with y | y;exact h2 x y;rw[mC.mp y];exact h1 r (by simp)) s.2 x (by simpa using hx);exact this
theorem near_nz{l:Nat}{ks:List Rat}{af:List Rw}(h:Bears l ks af){i:Nat}{r:Rw}(hr:af[i]? = some r)(c:((r.getD l 0:Int):Rat)*(af.take i).foldl (xN l ks) 0+rest l ks r<0):r.getD l 0≠0:=
 (HA h (gQ hr) (done:=af.take i) (λx hx=>gW hx) (EO h (af.take i) [] 0 (λx hx=>gW hx) (λ_ hx=>nomatch hx) (λ_ hx=>nomatch hx))).1 c
theorem PJ{a b:Int} :∀{us ds:List Int} {ks:List Rat},us.length=ds.length->rw' (List.zipWith (λx y=>x*a+y*b) us ds) ks=(a:Rat)*rw' us ks+(b:Rat)*rw' ds ks
 | [],[],ks,_=>by
  show(0:Rat)=_*rw' [] ks+_*rw' [] ks;have:rw' [] ks=0:=by cases ks<;>rfl
  rw[this];grind
 | u::us,d::ds,[],_=>by rw[xH,xH,xH];grind
 | u::us,d::ds,k::ks,h=>by
  show((u*a+d*b:Int):Rat)*k+rw' (List.zipWith _ us ds) ks=(a:Rat)*((u:Rat)*k+rw' us ks)+(b:Rat)*((d:Rat)*k+rw' ds ks);rw[PJ (by simpa using h)]
  push_cast
  grind
theorem SI{u d:Rw}{l:Nat}{ks:List Rat}(h:u.length=d.length):rest l ks (zL u d l)=((-(d.getD l 0):Int):Rat)*rest l ks u+((u.getD l 0:Int):Rat)*rest l ks d:=by
 unfold rest zL;rw[List.drop_zipWith];exact PJ (by rw[List.length_drop,List.length_drop,h])
def xOf(l:Nat)(ks:List Rat):Vc:=λj=>if j<l then 0 else ks.getD (j-l) 0
theorem JQ:∀(r:Rw) (ks:List Rat),ks.length<=r.length->dot (List.range ks.length) (λj=>((r.getD j 0:Int):Rat)) (λj=>ks.getD j 0)=rw' r ks
 | r,[],_=>by rw[xH];rfl
 | [],k::ks,h=>by simp at h
 | n::r,k::ks,h=>by
  have ih:=JQ r ks (by simpa using h);show dot (List.range (ks.length+1)) _ _=(n:Rat)*k+rw' r ks;rw[List.range_succ_eq_map,kF,<-ih];unfold dot;rw[tK];simp
  rfl
theorem TX(l:Nat):∀(N:Nat) (a x:Vc),(∀j,j<l->x j=0)->dot (List.range (l+N)) a x=dot (List.range N) (λj=>a (l+j)) (λj=>x (l+j)):=by
 intro N a x h;rw[List.range_add,yW,vG λi hi=>h i (nJ.mp hi)];unfold dot;rw[tK,tG]
 rfl
theorem HG(r:Rw)(l j:Nat):(r.drop l).getD j 0=r.getD (l+j) 0:=by rw[uY,List.getElem?_drop,<-uY]
theorem val_x{m S n e:Nat}{rim:Nat->Nat->Rat}{r:Rw}(h:RowOk m S n rim e r){l:Nat}{ks:List Rat}(hl:l<=m+2)(hk:ks.length=m+2-l):rw' (r.drop l) ks=dot (List.range (m+2)) (λj=>((r.getD j 0:Int):Rat)) (xOf l ks):=by
 have e1:m+2=l+(m+2-l):=by omega
 have xz:∀j,j<l->xOf l ks j=0:=λj hj=>dC hj;rw[e1,TX l _ _ _ xz,<-JQ (r.drop l) ks (by rw[List.length_drop,h.len];omega),hk];refine jX λj hj=>?_;unfold xOf;rw[HG,dA (by omega),show l+j-l=j by omega]
theorem HK(I J:List Nat)(f:Nat->Nat->Rat)(s x:Vc):dot J (λj=>dot I (λi=>f i j) s) x=dot I (λi=>dot J (f i) x) s:=by
 induction J with
 | nil=>simp only[vV];exact(by
   induction I with
   | nil=>rfl
   | cons i I ih=>rw[kF,<-ih];grind)
 | cons j J ih=>
  rw[kF,ih];clear ih;induction I with
  | nil=>simp only[vV];grind
  | cons i I ih=>
   simp only[kF]at ih ⊢;rw[<-ih];grind
theorem StOk.nn{m S n e:Nat}{rim:Nat->Nat->Rat}{af:List Rw}(h:StOk m S n rim e af)(he:e<=m){ks:List Rat}(hk:ks.length=m+2-e)(hv:∀r∈af,0<=rw' (r.drop e) ks){r:Rw}(hr:RowOk m S n rim e r):0<=rw' (r.drop e) ks:=by
 have key:∀r:Rw,RowOk m S n rim e r->rw' (r.drop e) ks=dot (List.range n) (λi=>dot (List.range (m+2)) (rim i) (xOf e ks)) (shr m r):=λr hr=>by
  rw[val_x hr (by omega) hk,<-HK (List.range n) (List.range (m+2)) rim];exact jX λj hj=>by rw[hr.lin j (nJ.mp hj)]
 rw[key r hr];refine(QJ _ _).nn ?_ (h.gen _ (hr.inC he));rintro g ⟨k,hk',rfl⟩;rw[<-key k (h.ok k hk')];exact hv k hk'
theorem StOk.bears{m S n l:Nat}{rim:Nat->Nat->Rat}{af:List Rw}(h:StOk m S n rim l af)(hl:l<m)(hn:n<=S){ks:List Rat}(hk:ks.length=m+1-l)(hv:∀r∈wG m l af,0<=rw' (r.drop (l+1)) ks):Bears l ks af:=by
 have N:=h.next hl hn;refine⟨λr hr z=>N.nn (by omega) (by omega) hv ((h.ok r hr).up z),λu hu d hd pu pd=>?_⟩;rw[<-SI ((h.ok u hu).len.trans (h.ok d hd).len.symm)];exact N.nn (by omega) (by omega) hv (RK (h.ok u hu) (h.ok d hd) pu pd)
theorem xY{r:Rw}{l:Nat}(h:l<r.length):r.drop l=r.getD l 0::r.drop (l+1):=by
 rw[List.drop_eq_getElem_cons h,uY,gE h];rfl
theorem ZW{m S n l:Nat}{rim:Nat->Nat->Rat}{af:List Rw}(h:StOk m S n rim l af)(hl:l<m){ks:List Rat}(B:Bears l ks af):∀r∈af,0<=rw' (r.drop l) (QD l ks af::ks):=λr hr=>by
 rw[xY (by rw[(h.ok r hr).len];omega)];exact EO B af [] 0 (λ_ h=>h) (λ_ h=>nomatch h) (λ_ h=>nomatch h) r (by simpa using hr)
theorem zC{m S n:Nat}{rim:Nat->Nat->Rat}{af:List Rw}(h:StOk m S n rim 0 af)(hn:n<=S){T:Rat}(fin:∀r∈kG m af m,0<=rw' (r.drop m) [T,1]) :
  ∀k,k<=m->(∀r∈kG m af (m-k),0<=rw' (r.drop (m-k)) (qL m (kG m af) T k))/\∀j,j<k->Bears (m-1-j) (qL m (kG m af) T j) (kG m af (m-1-j))
 | 0,_=>⟨fin,λj hj=>by omega⟩
 | k+1,hk=>by
  obtain⟨i1,i2⟩:=zC h hn fin k (by omega);have el:m-(k+1)=m-1-k:=by omega
  have es:m-k=(m-1-k)+1:=by omega
  have st:=yL h hn (m-1-k) (by omega);rw[es]at i1;have B:Bears (m-1-k) (qL m (kG m af) T k) (kG m af (m-1-k)):=st.bears (by omega) hn (by rw[qK];omega) i1;refine⟨?_,λj hj=>?_⟩
  ·rw[el];exact ZW st (by omega) B
  ·by_cases e:j=k
   ·rw[e];exact B
   ·exact i2 j (by omega)
end LwF
namespace Lw
open PySem PySem.Spec PyProof.Rows L2
theorem rvT{K:dD}{H:Hp}{p:Addr}{xs:List V}{i:Int}{v:V}{Q:VK}{σ:L2.St}{a:Nat}(e1:σ[a]? = some (some (.ref p)))(h:SqT K H p xs)(e:atI xs i=some v)(q:Q v H):tOp (rIxT K) (kP a) (tC (.int i)) σ H Q:=⟨_,e1,p,xs,i,v,rfl,rfl,h,e,q⟩
theorem rvL{K:dD}{H:Hp}{p:Addr}{xs:List V}{i:Int}{v:V}{Q:VK}{σ:L2.St}{a:Nat}(e1:σ[a]? = some (some (.ref p)))(h:SqL K H p xs)(e:atI xs i=some v)(q:Q v H):tOp (BY K) (kP a) (tC (.int i)) σ H Q:=⟨_,e1,p,xs,i,v,rfl,rfl,h,e,q⟩
theorem oVV{C:Int->Int->Prop}{g:Int->Int->V}{σ:L2.St}{a b:Nat}{x y:Int}{H:Hp}{Q:VK}(e1:σ[a]? = some (some (.int x)))(e2:σ[b]? = some (some (.int y)))(c:C x y)(q:Q (g x y) H):tOp (rI C g) (kP a) (kP b) σ H Q:=⟨_,e1,_,e2,_,_,rfl,rfl,c,q⟩
theorem XZ{p:Addr}{xs:List V}{i:Int}{j a:Nat}{v:V}{σ:L2.St}{H:Hp}{Q:L2.St->Hp->Prop}(e:σ[a]? = some (some (.ref p)))(h:H p=some (.lst xs))(hj:ixN xs.length i=some j)(q:Q σ (upd H p (.lst (xs.set j v)))):LO (kP a) (tC (.int i)) rSetL v σ H Q:=⟨_,e,p,xs,i,j,rfl,rfl,h,hj,q⟩
def Tape(cl:Addr)(H:Hp)(tp:Addr)(B:Int):Prop:=∃(ns:List Int) (spot rest left:Int),H tp=some (.lst [.ref cl,.int spot,.int rest,.int left])/\H cl=some (.lst (ns.map V.int))/\ns.length<=63/\0<=spot/\spot<=B
theorem Tape.mono{cl:Addr}{H H':Hp}{tp:Addr}{B B':Int}(e:Same H H')(hB:B<=B')(h:Tape cl H tp B):Tape cl H' tp B':=by
 obtain⟨ns,spot,rest,left,h1,h2,h3,h4,h5⟩:=h;exact⟨ns,spot,rest,left,e _ _ h1,e _ _ h2,h3,h4,by omega⟩
def spGcd:Sp:=λvs H Q _=>∃a b:Int,vs=[.int a,.int b]/\0<b/\b.natAbs<2^8000/\Q (.int (Int.gcd a b)) H
def spDraw:Sp:=λvs H Q _=>∃(tp:Addr) (aa B:Int),vs=[.ref tp,.int aa]/\∃cl,Tape cl H tp B/\B<2^40/\0<aa/\aa<2^100/\
 ∀(r:Int) (H':Hp),0<=r->r<aa->Tape cl H' tp (B+1)->But tp H H'->Q (.int r) H'
theorem RI{tp:Addr}{aa B:Int}{cl:Addr}{H:Hp}{Q:VK}{σ:L2.St}{a:Nat}(e:σ[a]? = some (some (.ref tp)))(hT:Tape cl H tp B)(h1:B<2^40)(h2:0<aa)(h3:aa<2^100)(k:∀(r:Int) (H':Hp),0<=r->r<aa->Tape cl H' tp (B+1)->But tp H H'->Q (.int r) H'):tCall spDraw [] E0 (yS (kP a) (yS (tC (.int aa)) tNil)) σ H Q:=⟨_,e,tp,aa,B,rfl,cl,hT,h1,h2,h3,k⟩
def xA(t b:Int):Int:=(if b<0 then 0-t else t)/(Int.gcd t b:Int)
def vU(t b:Int):Int:=(if b<0 then 0-b else b)/(Int.gcd t b:Int)
def LowFit(t b:Int):Prop:=b.natAbs<2^8000∨(t.natAbs<2^13400/\b.natAbs<2^13400)
def spLow:Sp:=λvs H Q _=>∃t b:Int,vs=[.int t,.int b]/\b≠0/\LowFit t b/\
 ∀(p:Addr) (H':Hp),H p=none->Same H H'->H' p=some (.tup [.int (xA t b),.int (vU t b)])->Q (.ref p) H'
def OU(K:dD):Sp:=λvs H Q _=>∃(a:Addr) (ns:List Int),vs=[.ref a]/\SqL K H a (ns.map V.int)/\ns.length<=63/\∀H',Q (.bl true) H'
structure Txt(mg:Str->Option Value):Prop where
 isi:mg "isinstance" = none
 len:mg "len" = none
 int:mg "int" = none
 bool:mg "bool" = none
 tup:mg "tuple" = none
 lst:mg "list" = none
 abs:mg "abs" = none
 rng:mg "range" = none
 lbits:∃t,mg "LONG_BITS" = some (.int 8000 t)
 sum:mg "sum" = none
 zip:mg "zip" = none
 sorted:mg "sorted" = none
 enum:mg "enumerate" = none
 any:mg "any" = none
 all:mg "all" = none
 dct:mg "dict" = none
 max:mg "max" = none
 rev:mg "reversed" = none
 str:mg "str" = none
 min:mg "min" = none
structure Df(K:dD)(mg:Str->Option Value)(x:Str)(st:Stmt)(ps:List Str)(f:Addr)(fd:FuncData):Prop where
 F:Fun K x x st f fd
 b:Binds K fd ps []
 m:mg x=some (.ref f)
variable{P:Program}{w:World}{K:dD}{mg:Str->Option Value}{base:Heap}{f fd:_}
theorem scGcd:FnScope ["one","other"] ["one","other"] (jM SG):=⟨rfl,rfl,rfl,by decide +kernel,rfl,by decide +kernel,by decide +kernel⟩
theorem mt_bits{X:Cx} :MtR X "int.bit_length" (λx xs H Q=>∃i:Int,x=.int i/\xs=[]/\Q (.int (Builtin.Int.intBits i:Nat)) H):=by
 intro ac s σ H x xs v us Q I rx rs q;obtain⟨i,rfl,rfl,q⟩:=q;obtain⟨t,rfl⟩:=rx;cases rs;exact call_int_bit_length ⟨.int (Builtin.Int.intBits i:Nat),H,I.tok _,⟨_,rfl⟩,q⟩
theorem NQ(F:Fun K "greatest_divisor" "greatest_divisor" SG f fd)(T:Txt mg):FnOk P w K mg base CX0 1 f fd ["one","other"] spGcd:=by
 obtain⟨tl,hl⟩:=T.lbits;refine F.ok scGcd (λvs H Q E h=>?_) (λcdv A outer s H vs Q E hr h=>?_)
 ·obtain⟨a,b,rfl,_⟩:=h
  rfl
 ·obtain⟨a,b,rfl,hb,hs,k⟩:=h;refine⟨_,jD (KO PassesOwn.never (jV yG (pv 1) jB (jW _))
    (jF (kS (jV BP (pe_bm0 PySem.F.plainAttrs_int slot_int_bit_length type_int_bit_length mt_bits (pv 1)) (zN (v:=.int 8000) (by rfl) hl ⟨_,rfl⟩) (jW _)) SR
     (jF (NL (i:=0) (j:=1) rfl scGcd.nd rfl rfl (by decide) rfl rfl (jA (pv 1) (jA (jJ yF (pv 0) (pv 1)) jC)) rfl)))))
   (jF (jU (pv 0))), ?_⟩
  try dsimp only[cxK]
  refine JY (fun σ H1=>H1=H/\∃p q:Int,σ=[some (.int p),some (.int q)]/\0<=q/\(0<q∨0<=p)/\q.natAbs<2^8000/\Int.gcd p q=Int.gcd a b)
   (fun σ _=>match σ with | [_,some (.int q)]=>q.toNat | _=>0) ⟨rfl,a,b,rfl,by omega,.inl hb,hs,rfl⟩ ?_ ?_
  ·rintro σ H1 ⟨rfl,p,q,rfl,h0,h1,hq8,h2⟩;refine⟨_,rfl,rfl,_,rfl, ?_⟩;refine EV (λe=>?_) (λe=>?_)
   ·have hq:0<q:=by
     have:q≠0:=λz=>by simp [z]at e
     omega
    have hbits:(Builtin.Int.intBits q)<=8000:=PySem.intBits_le_iff.mpr hq8;refine⟨_,rfl,rfl,_,rfl,rfl,_,_,rfl,rfl,_,rfl,vA (nB (by omega)) ?_⟩;refine⟨_,rfl,_,rfl,_,rfl,_,_,rfl,rfl,hq,_,_,rfl, ?_⟩;have m1:=Int.emod_nonneg p (b:=q) (by omega);have m2:=Int.emod_lt_of_pos p hq;have m3:(p%q).natAbs<=q.natAbs:=by omega
    refine⟨⟨rfl,q,p%q,rfl,m1,.inr h0,hJ m3 hq8,(LwM.LN p q).trans h2⟩, ?_⟩;show(p%q).toNat<q.toNat;omega
   ·have hq:q=0:=by
     by_cases z:q=0
     ·exact z
     ·exact absurd (by simp [z]) e
    subst hq;refine⟨_,rfl, ?_⟩;have:p=((Int.gcd a b:Nat):Int):=by
     rw[<-h2,Int.gcd_zero_right];omega
    rw[this];exact k
  ·rintro σ H1 Q1 Q2 hQ ⟨v,e,hs,k',ek,q⟩;exact⟨v,e,hs,k',ek,hQ _ _ q⟩
theorem scLow:FnScope ["top","bottom","one","other"] ["top","bottom"] (jM KJ):=⟨rfl,rfl,rfl,by decide +kernel,rfl,by decide +kernel,by decide +kernel⟩
theorem WR(F:Fun K "_law_low" "_law_low" KJ f fd)(T:Txt mg):FnOk P w K mg base CX0 1 f fd ["top","bottom"] spLow:=by
 refine F.ok scLow (λvs H Q E h=>?_) (λcdv A outer s H vs Q E hr h=>?_)
 ·obtain⟨t,b,rfl,_⟩:=h
  rfl
 ·obtain⟨t,b,rfl,hb,hs,k⟩:=h;refine⟨_,jD (kS (jV zG (pv 1) jB (jW _)) (jF (NL (i:=0) (j:=1) rfl scLow.nd rfl rfl (by decide) rfl rfl (jA (jJ zO jB (pv 0)) (jA (jJ zO jB (pv 1)) jC)) rfl)) kD)
   (jD (jP (i:=2) scLow.nd rfl (Or.inl rfl) (kO MI (by rfl) T.abs boot_abs (jA (pv 0) jC)))
   (jD (jP (i:=3) scLow.nd rfl (Or.inl rfl) (pv 1))
   (jD (KO PassesOwn.never (jV BP (pv 2) jB (jW _)) (jF (NL (i:=2) (j:=3) rfl scLow.nd rfl rfl (by decide) rfl rfl (jA (jJ yF (pv 3) (pv 2)) (jA (pv 2) jC)) rfl)))
   (jF (jU (pe_tup (jA (jJ LwD.KW (pv 0) (pv 3)) (jA (jJ LwD.KW (pv 1) (pv 3)) jC)))))))), ?_⟩
  try dsimp only[cxK]
  refine⟨_,rfl,_,_,rfl,rfl,_,rfl, ?_⟩;have fin:∀t' b':Int,0<b'->(∀q:Int,0<q->q<=b'->LwD.CDivP t' q/\LwD.CDivP b' q)->t'=(if b<0 then 0-t else t)->b'=(if b<0 then 0-b else b)->Int.gcd t' b'=Int.gcd t b->
    (qU (wD (tCB (λxs H Q=>∃i,xs=[V.int i]/\Q (.int (if i<0 then -i else i)) H) (yS (kP 0) tNil)) (kT 2)) (qU (wD (kP 1) (kT 3)) (qU (MX (OP (tOp (rI0 λi j=>V.bl (decide (j<i))) (kP 2) (tC (.int 0)))) (tPar 2 3 (yS (tOp (rI (λ_ j=>0<j) λi j=>.int (i%j)) (kP 3) (kP 2)) (yS (kP 2) tNil)))) (SC (tTup (yS (tOp (rI LwD.CDivP λi j=>.int (i/j)) (kP 0) (kP 3)) (yS (tOp (rI LwD.CDivP λi j=>.int (i/j)) (kP 1) (kP 3)) tNil))))))) { nx:=λ_ H'=>Q .non H',rt:=Q } [some (.int t'),some (.int b'),none,none] H:=by
   intro t' b' hb' hs' et eb hg;refine⟨_,rfl,_,rfl,_,rfl, ?_⟩;refine JY (fun σ H1=>H1=H/\∃p q:Int,σ=[some (.int t'),some (.int b'),some (.int p),some (.int q)]/\0<=p/\0<q/\Int.gcd q p=Int.gcd t b)
    (fun σ _=>match σ with | [_,_,some (.int p),_]=>p.toNat | _=>0) ⟨rfl,_,b',rfl,by split<;>omega,hb', ?_⟩ ?_ ?_
   ·rw[<-hg,Int.gcd_comm t'];split
    ·exact Int.gcd_neg
    ·rfl
   ·rintro σ H1 ⟨rfl,p,q,rfl,h0,h1,h2⟩;refine⟨_,rfl,_,_,rfl,rfl,_,rfl, ?_⟩;refine EV (λe=>?_) (λe=>?_)
    ·have hp:0<p:=mL e;refine⟨_,rfl,_,rfl,_,_,rfl,rfl,hp,_,rfl,_,_,rfl, ?_⟩;have m1:=Int.emod_nonneg q (b:=p) (by omega);have m2:=Int.emod_lt_of_pos q hp;refine⟨⟨rfl,q%p,p,rfl,m1,hp,(LwM.LN q p).trans h2⟩, ?_⟩;show(q%p).toNat<p.toNat;omega
    ·have hp:p=0:=by
      have:¬0<p:=λz=>e (nH z);omega
     subst hp;have hq:q=((Int.gcd t b:Nat):Int):=by
      rw[<-h2,Int.gcd_zero_right];omega
     have gb:q<=b':=by
      rw[hq,<-hg];exact LwM.XY t' b' hb'
     obtain⟨c1,c2⟩:=hs' q h1 gb;refine⟨_,rfl,_,rfl,_,_,rfl,rfl,c1,_,rfl,_,rfl,_,_,rfl,rfl,c2,uX, ?_⟩;refine fresh λp H' n s1 e1=>k p H' n s1 ?_;rw[e1,hq,et,eb]
     rfl
   ·rintro σ H1 Q1 Q2 hQ ⟨v,e,i,j,e1,e2,k',ek,q⟩;exact⟨v,e,i,j,e1,e2,k',ek,hQ _ _ q⟩
  have hs2:∀t' b':Int,t'.natAbs=t.natAbs->b'.natAbs=b.natAbs->0<b'->∀q:Int,0<q->q<=b'->LwD.CDivP t' q/\LwD.CDivP b' q:=λt' b' e1 e2 h0 q h1 h2=>by
   rcases hs with hs | ⟨ha,hb2⟩
   ·have hq:q.natAbs<2^8000:=hJ (by omega) hs;exact⟨LwD.MF ⟨h1,hq⟩,LwD.MF ⟨h1,hq⟩⟩
   ·exact⟨LwD.FG h1 uU (by rw[e1];exact ha),LwD.FG h1 uU (by rw[e2];exact hb2)⟩
  by_cases n:b<0
  ·refine xP (nH n) ?_;refine⟨_,rfl,_,_,rfl,rfl,_,rfl,_,_,rfl,rfl,_,_,rfl, ?_⟩;refine fin (0-t) (0-b) (by omega) (hs2 _ _ (by omega) (by omega) (by omega)) (by rw[dC n]) (by rw[dC n]) ?_;rw[Int.zero_sub,Int.zero_sub,Int.neg_gcd,Int.gcd_neg]
  ·refine vA (nB n) ?_;exact fin t b (by omega) (hs2 _ _ rfl rfl (by omega)) (by rw[dA n]) (by rw[dA n]) rfl
theorem wT{t b:Int}(h:0<b):xA t b=t/(Int.gcd t b:Int)/\vU t b=b/(Int.gcd t b:Int):=by
 unfold xA vU;rw[dA (by omega),dA (by omega)];exact⟨rfl,rfl⟩
theorem at_ints{ns:List Int}{i:Int}(h0:0<=i)(h1:i<ns.length):∃c:Int,atI (ns.map V.int) i=some (.int c):=by
 obtain⟨j,rfl⟩:=Int.eq_ofNat_of_zero_le h0;have hj:j<ns.length:=by omega
 exact⟨ns[j],AQ (by simp [hj])⟩
theorem scDraw:FnScope ["tape","many","spot","cell","some","rest"] ["tape","many"] (jM FX):=⟨rfl,rfl,rfl,by decide +kernel,rfl,by decide +kernel,by decide +kernel⟩
theorem PZ(F:Fun K "_law_draw" "_law_draw" FX f fd)(T:Txt mg):FnOk P w K mg base CX0 1 f fd ["tape","many"] spDraw:=by
 refine F.ok scDraw (λvs H Q E h=>?_) (λcdv A outer s H vs Q E hr h=>?_)
 ·obtain⟨tp,aa,B,rfl,_⟩:=h
  rfl
 ·obtain⟨tp,aa,B,rfl,cl,⟨ns,spot,rest,left,h1,h2,h3,h4,h5⟩,hB,hm,hm2,k⟩:=h;have hne:cl≠tp:=by
   rintro rfl;rw[h1]at h2;injection h2 with h2
   injection h2 with h2
   cases ns with
   | nil=>cases h2
   | cons n r=>injection h2 with z;cases z
  refine⟨_,jD (kS (jV yH (jN kH (pv 0) jB (λ_ _=>rfl)) jB (jW _))
    (jD (jP (i:=2) scDraw.nd rfl (Or.inl rfl) (jN kH (pv 0) jB (λ_ _=>rfl)))
    (jD (qW (jJ kQ (pv 2) jB) (wK (pv 0) jB xW))
    (jD (jP (i:=3) scDraw.nd rfl (Or.inl rfl) jB)
    (jD (kS (jV BP (kO qD (by rfl) T.len PySem.boot_len (jA (jN kH (pv 0) jB (λ_ _=>rfl)) jC)) jB (jW _))
     (jF (jP (i:=3) scDraw.nd rfl (Or.inl rfl) (jN kH (jN kH (pv 0) jB (λ_ _=>rfl)) (jJ yF (pv 2) (kO qD (by rfl) T.len PySem.boot_len (jA (jN kH (pv 0) jB (λ_ _=>rfl)) jC))) (λ_ _=>rfl)))) kD)
    (jD (kS (PW.pt (yM (jV WK (pv 2) (kO qD (by rfl) T.len PySem.boot_len (jA (jN kH (pv 0) jB (λ_ _=>rfl)) jC)) (jW _)) (yD (jV zG (pv 3) (jJ EK jB jB) (jW _)))))
     (jD (jP (i:=4) scDraw.nd rfl (Or.inl rfl) (jJ kQ (jJ kQ (jJ yF (jJ uI (pv 2) (pv 2)) jB) (jJ uI jB (pv 2))) jB))
     (jD (jP (i:=4) scDraw.nd rfl (Or.inl rfl) (jJ yF (jJ uI (jJ kQ (jJ yF (pv 3) jB) jB) (pv 4)) jB))
     (jF (jU (jJ yF (jJ yF (jJ kQ (jJ op_fdiv (jJ yF (jJ uI (pv 4) (pv 4)) jB) jB) (jJ uI jB (pv 2))) jB) (pv 1)))))) kD)
    (jD (qW (jJ zO (pv 3) (jJ EK jB jB)) (wK (pv 0) jB xW))
    (jF (qW jB (wK (pv 0) jB xW))))))))) kD)
   (jD (qW (jJ zO (jN kH (pv 0) jB (λ_ _=>rfl)) jB) (wK (pv 0) jB xW))
   (jD (jP (i:=5) scDraw.nd rfl (Or.inl rfl) (jN kH (pv 0) jB (λ_ _=>rfl)))
   (jD (qW (jJ qY (pv 5) (pv 1)) (wK (pv 0) jB xW))
   (jF (jU (jJ yF (pv 5) (pv 1))))))), ?_⟩
  try dsimp only[cxK]
  have hmd:aa.natAbs<2^8000:=by
   have:aa.natAbs<2^100:=by
    have h:((2^100:Nat):Int)=2^100:=by decide
    omega
   exact mB this (gS (by decide) (by decide))
  have tail:∀(spot' rest' left':Int) (a b c d:Option V) (H1:Hp),H1 tp=some (.lst [.ref cl,.int spot',.int rest',.int left'])->But tp H H1->0<=spot'->spot'<=B+1->
    (qU (wD (tOp (rI0 λi j=>V.int (i-j)) (tOp (BY K) (kP 0) (tC (.int 3))) (tC (.int 1))) (LO (kP 0) (tC (.int 3)) rSetL))
     (qU (wD (tOp (BY K) (kP 0) (tC (.int 2))) (kT 5))
     (qU (wD (tOp (rI CDivL λi j=>.int (i/j)) (kP 5) (kP 1)) (LO (kP 0) (tC (.int 2)) rSetL))
     (SC (tOp (rI (λ_ j=>0<j) λi j=>.int (i%j)) (kP 5) (kP 1)))))) { nx:=λ_ H'=>Q .non H',rt:=Q } [some (.ref tp),some (.int aa),a,b,c,d] H1:=by
   intro spot' rest' left' a b c d H1 g1 g2 g3 g4;refine(rvL rfl (SqL.of g1) rfl ⟨_,_,rfl,rfl, ?_⟩);refine XZ rfl g1 rfl ?_;refine(rvL rfl (SqL.of jE) rfl ?_);refine oVV rfl rfl ⟨hm,hmd⟩ (XZ rfl jE rfl ?_);refine⟨_,rfl,_,rfl,_,_,rfl,rfl,hm, ?_⟩;refine k _ _ (Int.emod_nonneg _ (by omega)) (Int.emod_lt_of_pos _ hm) ⟨ns,spot',_,_,jE, ?_,h3,g3,g4⟩ ?_
   ·rw[jO hne,jO hne];exact g2 _ _ h2 hne
   ·exact(g2.trans (But.upd _ _ _)).trans (But.upd _ _ _)
  refine(rvL rfl (SqL.of h1) rfl ⟨rfl,_,rfl, ?_⟩);by_cases hl:left=0
  ·subst hl;refine xP (by decide) ?_;refine(rvL rfl (SqL.of h1) rfl ?_);refine⟨_,rfl,_,_,rfl,rfl,XZ rfl h1 rfl ?_⟩;have T1:∀o,(upd H tp o) cl=some (.lst (ns.map V.int)):=λo=>by
    rw[jO hne];exact h2
   have mid:∀(cell:Int) (b c:Option V),(qU (tIfS (tOr (OP (tOp (rI0 λi j=>V.bl (decide (j<=i))) (kP 2) (tCB (λxs H Q=>∃p ys,xs=[V.ref p]/\(SqL K H p ys∨SqT K H p ys)/\Q (.int ys.length) H) (yS (tOp (BY K) (kP 0) (tC (.int 0))) tNil))))
      (OP (tOp (rI0 λi j=>V.bl (decide (i<j))) (kP 3) (tOp (rI CPow λi j=>.int (i^j.toNat)) (tC (.int 10)) (tC (.int 18))))))
     (qU (wD (tOp (rI0 λi j=>V.int (i+j)) (tOp (rI0 λi j=>V.int (i+j)) (tOp (rI (λ_ j=>0<j) λi j=>.int (i%j)) (tOp (rI CMul λi j=>.int (i*j)) (kP 2) (kP 2)) (tC (.int 10007))) (tOp (rI CMul λi j=>.int (i*j)) (tC (.int 61)) (kP 2))) (tC (.int 7))) (kT 4))
     (qU (wD (tOp (rI (λ_ j=>0<j) λi j=>.int (i%j)) (tOp (rI CMul λi j=>.int (i*j)) (tOp (rI0 λi j=>V.int (i+j)) (tOp (rI (λ_ j=>0<j) λi j=>.int (i%j)) (kP 3) (tC (.int 999983))) (tC (.int 3))) (kP 4)) (tC (.int 1000003))) (kT 4))
     (SC (tOp (rI (λ_ j=>0<j) λi j=>.int (i%j)) (tOp (rI (λ_ j=>0<j) λi j=>.int (i%j)) (tOp (rI0 λi j=>V.int (i+j)) (tOp (rI CDiv λi j=>.int (i/j)) (tOp (rI (λ_ j=>0<j) λi j=>.int (i%j)) (tOp (rI CMul λi j=>.int (i*j)) (kP 4) (kP 4)) (tC (.int 999979))) (tC (.int 3))) (tOp (rI CMul λi j=>.int (i*j)) (tC (.int 131)) (kP 2))) (tC (.int 99991))) (kP 1)))))
     tNext)
     (qU (wD (tOp (rI0 λi j=>V.int (i-j)) (kP 3) (tOp (rI CPow λi j=>.int (i^j.toNat)) (tC (.int 10)) (tC (.int 18)))) (LO (kP 0) (tC (.int 2)) rSetL))
     (wD (tC (.int 40)) (LO (kP 0) (tC (.int 3)) rSetL))))
     { nx:=(qU (wD (tOp (rI0 λi j=>V.int (i-j)) (tOp (BY K) (kP 0) (tC (.int 3))) (tC (.int 1))) (LO (kP 0) (tC (.int 3)) rSetL))
     (qU (wD (tOp (BY K) (kP 0) (tC (.int 2))) (kT 5))
     (qU (wD (tOp (rI CDivL λi j=>.int (i/j)) (kP 5) (kP 1)) (LO (kP 0) (tC (.int 2)) rSetL))
     (SC (tOp (rI (λ_ j=>0<j) λi j=>.int (i%j)) (kP 5) (kP 1)))))) { nx:=λ_ H'=>Q .non H',rt:=Q },rt:=Q } [some (.ref tp),some (.int aa),some (.int spot),some (.int cell),b,c] (upd H tp (.lst [.ref cl,.int (spot+1),.int rest,.int 0])):=by
    intro cell b c;have pw:CPow 10 18:=⟨by decide,by decide,by decide⟩;have drawn:(qU (wD (tOp (rI0 λi j=>V.int (i+j)) (tOp (rI0 λi j=>V.int (i+j)) (tOp (rI (λ_ j=>0<j) λi j=>.int (i%j)) (tOp (rI CMul λi j=>.int (i*j)) (kP 2) (kP 2)) (tC (.int 10007))) (tOp (rI CMul λi j=>.int (i*j)) (tC (.int 61)) (kP 2))) (tC (.int 7))) (kT 4))
     (qU (wD (tOp (rI (λ_ j=>0<j) λi j=>.int (i%j)) (tOp (rI CMul λi j=>.int (i*j)) (tOp (rI0 λi j=>V.int (i+j)) (tOp (rI (λ_ j=>0<j) λi j=>.int (i%j)) (kP 3) (tC (.int 999983))) (tC (.int 3))) (kP 4)) (tC (.int 1000003))) (kT 4))
     (SC (tOp (rI (λ_ j=>0<j) λi j=>.int (i%j)) (tOp (rI (λ_ j=>0<j) λi j=>.int (i%j)) (tOp (rI0 λi j=>V.int (i+j)) (tOp (rI CDiv λi j=>.int (i/j)) (tOp (rI (λ_ j=>0<j) λi j=>.int (i%j)) (tOp (rI CMul λi j=>.int (i*j)) (kP 4) (kP 4)) (tC (.int 999979))) (tC (.int 3))) (tOp (rI CMul λi j=>.int (i*j)) (tC (.int 131)) (kP 2))) (tC (.int 99991))) (kP 1))))) { nx:=λ_ _=>False,rt:=Q } [some (.ref tp),some (.int aa),some (.int spot),some (.int cell),b,c] (upd H tp (.lst [.ref cl,.int (spot+1),.int rest,.int 0])):=by
     refine⟨_,rfl,_,rfl,_,_,rfl,rfl,.inl ⟨by omega,by omega⟩,_,_,rfl,rfl,(by show(0:Int)<_;decide), ?_⟩;refine⟨_,rfl,_,_,rfl,rfl,.inl ⟨by omega,by omega⟩,_,_,rfl,rfl,_,_,rfl,rfl, ?_⟩;have c1:=Int.emod_nonneg cell (b:=999983) (by decide);have c2:=Int.emod_lt_of_pos cell (b:=999983) (by decide);refine⟨_,rfl,_,_,rfl,rfl,(by show(0:Int)<_;decide),_,_,rfl,rfl,_,rfl,_,_,rfl,rfl,.inl ⟨by omega,by omega⟩,_,_,rfl,rfl,(by show(0:Int)<_;decide), ?_⟩;generalize hx:((cell%999983+3)*(spot*spot%10007+61*spot+7))=x;have d1:=Int.emod_nonneg x (b:=1000003) (by decide);have d2:=Int.emod_lt_of_pos x (b:=1000003) (by decide);refine⟨_,rfl,_,rfl,_,_,rfl,rfl,.inl ⟨by omega,by omega⟩,_,_,rfl,rfl,(by show(0:Int)<_;decide),_,_,rfl,rfl,⟨by decide,by decide⟩, ?_⟩;refine⟨_,rfl,_,_,rfl,rfl,.inl ⟨by decide,by decide⟩,_,_,rfl,rfl,_,_,rfl,rfl,(by show(0:Int)<_;decide),_,rfl,_,_,rfl,rfl,hm, ?_⟩;exact k _ _ (Int.emod_nonneg _ (by omega)) (Int.emod_lt_of_pos _ hm) ⟨ns,spot+1,_,_,jE,T1 _,h3,by omega,by omega⟩ (But.upd _ _ _)
    refine⟨_,rfl,rvL rfl (SqL.of jE) rfl ⟨cl,_,rfl,.inl (SqL.of (T1 _)),_,_,rfl,rfl,_,rfl, ?_⟩⟩;by_cases z1:((ns.map V.int).length:Int)<=spot
    ·refine xP (nH z1) (NY ?_);exact drawn
    ·refine vA (nB z1) ?_;refine⟨_,rfl,_,_,rfl,rfl,pw,_,_,rfl,rfl,_,rfl, ?_⟩;by_cases z2:cell<(10:Int)^(18:Int).toNat
     ·refine xP (nH z2) ?_;exact drawn
     ·refine vA (nB z2) ?_;refine⟨_,rfl,_,_,rfl,rfl,pw,_,_,rfl,rfl,XZ rfl jE rfl ?_⟩;refine XZ rfl jE rfl ?_;exact tail (spot+1) _ 40 _ _ _ _ _ jE (((But.upd _ _ _).trans (But.upd _ _ _)).trans (But.upd _ _ _)) (by omega) (by omega)
   refine(rvL rfl (SqL.of jE) rfl ⟨cl,_,rfl,.inl (SqL.of (T1 _)),_,_,rfl,rfl,_,rfl, ?_⟩);by_cases hn:(0:Int)<((ns.map V.int).length:Int)
   ·refine xP (nH hn) ?_;obtain⟨c,hc⟩:=at_ints (ns:=ns) (i:=spot%((ns.map V.int).length:Int)) (Int.emod_nonneg _ (by omega)) (by have:=Int.emod_lt_of_pos spot hn;rw[mZ]at this ⊢;exact this);refine(rvL rfl (SqL.of jE) rfl ⟨_,rfl,rvL rfl (SqL.of jE) rfl ⟨cl,_,rfl,.inl (SqL.of (T1 _)),_,_,rfl,rfl,hn,cl,_,_,_,rfl,rfl,SqL.of (T1 _),hc, ?_⟩⟩);exact mid c _ _
   ·refine vA (nB hn) ?_;exact mid 0 _ _
  ·refine vA (nB (by intro z;injection z with z;exact hl z)) ?_;exact tail spot rest left _ _ _ _ H h1 (But.refl _ _) h4 (by omega)
end Lw
namespace LwV
abbrev Pl:=List (List Int×Rat)
def cf:Pl->List Int->Rat
 | [],_=>0
 | x::P,m=>(if x.1=m then x.2 else 0)+cf P m
theorem xT(x:List Int×Rat)(P:Pl)(m:List Int):cf (x::P) m=(if x.1=m then x.2 else 0)+cf P m:=rfl
theorem zZ:∀(P Q:Pl) (m:List Int),cf (P++Q) m=cf P m+cf Q m
 | [],Q,m=>by show cf Q m=0+cf Q m;grind
 | x::P,Q,m=>by rw[List.cons_append,xT,xT,zZ P Q m];grind
theorem RL{P Q:Pl}(h:P.Perm Q)(m:List Int):cf P m=cf Q m:=by
 induction h with
 | nil=>rfl
 | cons x _ ih=>rw[xT,xT,ih]
 | swap x y l=>simp only[xT];grind
 | trans _ _ h1 h2=>exact h1.trans h2
theorem zY{P:Pl}{m:List Int}(h:∀x∈P,x.1≠m):cf P m=0:=by
 induction P with
 | nil=>rfl
 | cons x P ih=>
  rw[xT,dA (h x (by simp)),ih λy hy=>h y (by simp [hy])]
  grind
theorem cf_in{P:Pl}{m:List Int}(h:cf P m≠0):m∈P.map (·.1):=by
 refine gA λn=>h (zY λx hx e=>n ?_);exact tF.mpr ⟨x,hx,e⟩
theorem cf_one{P:Pl}(nd:(P.map (·.1)).Nodup){x:List Int×Rat}(hx:x∈P):cf P x.1=x.2:=by
 induction P with
 | nil=>cases hx
 | cons y P ih=>
  rw[nQ,List.nodup_cons]at nd;rw[xT];rcases nT.mp hx with rfl | h
  ·rw[dC rfl,zY λz hz e=>nd.1 (tF.mpr ⟨z,hz,e⟩)]
   grind
  ·rw[dA λe=>nd.1 (tF.mpr ⟨x,h,e.symm⟩),ih nd.2 h]
   grind
theorem ET{α:Type} [DecidableEq α]:∀{l m:List α},l.Nodup->(∀x∈l,x∈m)->l.length<=m.length
 | [],_,_,_=>tQ _
 | a::l,m,h,s=>by
  rw[List.nodup_cons]at h;have ha:=s a (by simp);have:=ET (l:=l) (m:=m.erase a) h.2 λx hx=>by
   have ne:x≠a:=λe=>h.1 (e▸hx);exact(List.mem_erase_of_ne ne).mpr (s x (by simp [hx]))
  rw[List.length_erase_of_mem ha]at this;have:0<m.length:=List.length_pos_of_mem ha;rw[mU];omega
end LwV
namespace LwQ
theorem NK{t b o u t' b':Int}{R1 R2:Nat}(hb:0<b)(hu:0<u)(h:t'*(b*u)=(t*u+o*b)*b')(h1:t.natAbs<=R1*b.natAbs)(h2:o.natAbs<=R2*u.natAbs):t'.natAbs<=(R1+R2)*b'.natAbs:=by
 have e:=congrArg Int.natAbs h;rw[nI,nI,nI]at e;have k:(t*u+o*b).natAbs<=(R1+R2)*(b.natAbs*u.natAbs):=by
  refine tD (Int.natAbs_add_le _ _) ?_;rw[nI,nI,Nat.add_mul];refine Nat.add_le_add ?_ ?_
  ·calc t.natAbs*u.natAbs<=R1*b.natAbs*u.natAbs:=gU _ h1
    _=R1*(b.natAbs*u.natAbs):=Nat.mul_assoc ..
  ·calc o.natAbs*b.natAbs<=R2*u.natAbs*b.natAbs:=gU _ h2
    _=R2*(b.natAbs*u.natAbs):=by rw[Nat.mul_assoc,Nat.mul_comm u.natAbs]
 have p:0<b.natAbs*u.natAbs:=Nat.mul_pos (by omega) (by omega);refine Nat.le_of_mul_le_mul_right ?_ p;rw[e]
 calc (t*u+o*b).natAbs*b'.natAbs<=(R1+R2)*(b.natAbs*u.natAbs)*b'.natAbs:=gU _ k
  _=(R1+R2)*b'.natAbs*(b.natAbs*u.natAbs):=by grind
end LwQ
namespace Lw
open PySem PySem.Spec PyProof.Rows L2
structure FrOk(n:Nat)(t b:Int):Prop where
 pos:0<b
 low:Int.gcd t b=1
 st:t.natAbs<2^n
 sb:b.natAbs<2^n
def At2(H:Hp)(p:Addr)(t b:Int):Prop:=H p=some (.tup [.int t,.int b])
theorem RQ{a b:Int}{m n:Nat}(ha:a.natAbs<2^m)(hb:b.natAbs<2^n):(a*b).natAbs<2^(m+n):=by
 rw[nI,tU];exact Nat.mul_lt_mul'' ha hb
theorem abs_add{a b:Int}{n:Nat}(ha:a.natAbs<2^n)(hb:b.natAbs<2^n):(a+b).natAbs<2^(n+1):=by
 rw[Nat.pow_succ];omega
theorem kK{a:Int}{m n:Nat}(ha:a.natAbs<2^m)(h:m<=n):a.natAbs<2^n:=mB ha (gS (by decide) h)
theorem vE{a g:Int}{n:Nat}(ha:a.natAbs<2^n)(hg:1<=g):(a/g).natAbs<2^n:=hJ (LwM.AL a g hg) ha
theorem CV{a b:Int}{n:Nat}(hb:0<b)(hs:b.natAbs<2^n):((Int.gcd a b:Nat):Int).natAbs<2^n:=by
 have:=LwM.XY a b hb;have:=LwM.qJ a b hb;omega
theorem vF{t b:Int}(h:0<b):xA t b=t/(Int.gcd t b:Int):=(wT h).1
theorem vY{t b:Int}(h:0<b):vU t b=b/(Int.gcd t b:Int):=(wT h).2
def spTwo(K:dD)(nt nb:Int->Int->Int->Int->Int):Sp:=λvs H Q _=>∃(p q:Addr) (t b o u:Int),vs=[.ref p,.ref q]/\SqT K H p [.int t,.int b]/\SqT K H q [.int o,.int u]/\FrOk 7900 t b/\FrOk 7900 o u/\
 ∀(r:Addr) (H':Hp),H r=none->Same H H'->At2 H' r (xA (nt t b o u) (nb t b o u)) (vU (nt t b o u) (nb t b o u))->Q (.ref r) H'
abbrev OS(K:dD):Sp:=spTwo K (λt _ o _=>t*o) (λ_ b _ u=>b*u)
theorem kI{K:dD}{H H':Hp}{a:Addr}{xs:List V}(s:Same H H')(h:SqT K H a xs):SqT K H' a xs:=by
 rcases h with(h | ⟨o,h⟩) | h
 ·exact .inl (.inl (s _ _ h))
 ·exact .inl (.inr ⟨o,s _ _ h⟩)
 ·exact .inr h
variable{P:Program}{w:World}{K:dD}{mg:Str->Option Value}{base:Heap}{f fd:_}
theorem scMul:FnScope ["one","other","top","bottom","over","under","first","second"] ["one","other"] (jM SF):=⟨rfl,rfl,rfl,by decide +kernel,rfl,by decide +kernel,by decide +kernel⟩
theorem WP{fG:Addr}{fdG:FuncData}(F:Fun K "multiplied" "multiplied" SF f fd)(T:Txt mg)(DG:Df K mg "greatest_divisor" SG ["one","other"] fG fdG):FnOk P w K mg base CX0 2 f fd ["one","other"] (OS K):=by
 have GG:FnOk P w K mg base CX0 1 fG fdG ["one","other"] spGcd:=NQ DG.F T;refine F.ok scMul (λvs H Q E h=>?_) (λcdv A outer s H vs Q E hr h=>?_)
 ·obtain⟨p,q,t,b,o,u,rfl,_⟩:=h
  rfl
 ·obtain⟨p,q,t,b,o,u,rfl,hp,hq,f1,f2,k⟩:=h;refine⟨_,jD (qW (pv 0) (qI rfl (jQ (jI (i:=2) scMul.nd rfl (Or.inl rfl)) (jQ (jI (i:=3) scMul.nd rfl (Or.inl rfl)) kN))))
   (jD (qW (pv 1) (qI rfl (jQ (jI (i:=4) scMul.nd rfl (Or.inl rfl)) (jQ (jI (i:=5) scMul.nd rfl (Or.inl rfl)) kN))))
   (jD (jP (i:=6) scMul.nd rfl (Or.inl rfl) (jG GG hr rfl DG.m DG.F.kp DG.b .nil jR (jA (pv 2) (jA (pv 5) jC))))
   (jD (jP (i:=7) scMul.nd rfl (Or.inl rfl) (jG GG hr rfl DG.m DG.F.kp DG.b .nil jR (jA (pv 4) (jA (pv 3) jC))))
   (jF (jU (jT (jA (jJ qC (jJ qY (pv 2) (pv 6)) (jJ qY (pv 4) (pv 7))) (jA (jJ qC (jJ qY (pv 3) (pv 7)) (jJ qY (pv 5) (pv 6))) jC)))))))), ?_⟩
  try dsimp only[cxK]
  refine⟨_,rfl,p,_,rfl,hp,rfl,_,_,rfl,_,_,rfl,rfl, ?_⟩;refine⟨_,rfl,q,_,rfl,hq,rfl,_,_,rfl,_,_,rfl,rfl, ?_⟩;refine⟨_,rfl,_,rfl,t,u,rfl,f2.pos,kK f2.sb (by decide), ?_⟩;refine⟨_,rfl,_,rfl,o,b,rfl,f1.pos,kK f1.sb (by decide), ?_⟩;have a1:=LwM.qJ t u f2.pos;have a2:=LwM.qJ o b f1.pos;have d1:CDivL t (Int.gcd t u:Int):=⟨by omega,kK (CV f2.pos f2.sb) (by decide)⟩;have d2:CDivL t (Int.gcd o b:Int):=⟨by omega,kK (CV f1.pos f1.sb) (by decide)⟩;have m:=LwM.mul_low f1.pos f2.pos f1.low f2.low;refine⟨_,rfl,_,rfl,_,_,rfl,rfl,d1,_,rfl,_,rfl,_,_,rfl,rfl,d2,_,_,rfl,rfl,⟨kK (vE f1.st a1) (by decide),kK (vE f2.st a2) (by decide)⟩, ?_⟩;refine⟨_,rfl,_,rfl,_,_,rfl,rfl,d2,_,rfl,_,rfl,_,_,rfl,rfl,d1,_,_,rfl,rfl,⟨kK (vE f1.sb a2) (by decide),kK (vE f2.sb a1) (by decide)⟩,uX,λr H' n s e=>?_⟩;refine k r H' n s ?_;have bu:=tR f1.pos f2.pos;show H' r=_;rw[e,vF bu,vY bu];dsimp only;rw[m.1,m.2]
def EC(K:dD):Sp:=λvs H Q _=>∃(p q:Addr) (t b o u:Int),vs=[.ref p,.ref q]/\SqT K H p [.int t,.int b]/\SqT K H q [.int o,.int u]/\FrOk 7900 t b/\FrOk 7900 o u/\o≠0/\
 ∀(r:Addr) (H':Hp),H r=none->Same H H'->At2 H' r (xA (t*u) (b*o)) (vU (t*u) (b*o))->Q (.ref r) H'
theorem CQ{t b:Int}(h:b<0):xA (-t) (-b)=xA t b/\vU (-t) (-b)=vU t b:=by
 unfold xA vU;simp only[dA (show ¬(-b<0) by omega),dC h,Int.neg_gcd,Int.gcd_neg,Int.zero_sub];exact⟨trivial,trivial⟩
theorem scDiv:FnScope ["one","other","over","under"] ["one","other"] (jM NG):=⟨rfl,rfl,rfl,by decide +kernel,rfl,by decide +kernel,by decide +kernel⟩
theorem ok_divN{fM fG:Addr}{fdM fdG:FuncData}(F:Fun K "divided" "divided" NG f fd)(T:Txt mg)(DM:Df K mg "multiplied" SF ["one","other"] fM fdM)(DG:Df K mg "greatest_divisor" SG ["one","other"] fG fdG):FnOk P w K mg base CX0 3 f fd ["one","other"] (EC K):=by
 have GM:FnOk P w K mg base CX0 2 fM fdM ["one","other"] (OS K):=WP DM.F T DG;refine F.ok scDiv (λvs H Q E h=>?_) (λcdv A outer s H vs Q E hr h=>?_)
 ·obtain⟨p,q,t,b,o,u,rfl,_⟩:=h
  rfl
 ·obtain⟨p,q,t,b,o,u,rfl,hp,hq,f1,f2,ho,k⟩:=h;refine⟨_,jD (qW (pv 1) (qI rfl (jQ (jI (i:=2) scDiv.nd rfl (Or.inl rfl)) (jQ (jI (i:=3) scDiv.nd rfl (Or.inl rfl)) kN))))
   (jD (kS (jV yH (pv 2) jB (jW _)) (jF KP) kD)
   (jD (kS (jV zG (pv 2) jB (jW _)) (jF (jU (jG GM hr rfl DM.m DM.F.kp DM.b .nil jR (jA (pv 0) (jA (jT (jA (qX kZ (pv 3)) (jA (qX kZ (pv 2)) jC))) jC))))) kD)
   (jF (jU (jG GM hr rfl DM.m DM.F.kp DM.b .nil jR (jA (pv 0) (jA (jT (jA (pv 3) (jA (pv 2) jC))) jC))))))), ?_⟩
  try dsimp only[cxK]
  refine⟨_,rfl,q,_,rfl,hq,rfl,_,_,rfl,_,_,rfl,rfl, ?_⟩;refine⟨_,rfl,rfl,_,rfl,vA (nB (by intro z;injection z with z;exact ho z)) ?_⟩;refine⟨_,rfl,_,_,rfl,rfl,_,rfl, ?_⟩;have gc:Int.gcd u o=1:=by rw[Int.gcd_comm];exact f2.low
  by_cases hn:o<0
  ·refine xP (nH hn) ?_;refine⟨_,rfl,_,rfl,_,rfl,_,rfl,_,rfl,uX,λz H1 n1 s1 e1=>?_⟩;refine⟨p,z,t,b,-u,-o,rfl,kI s1 hp,SqT.of e1,f1,⟨by omega,by rw[Int.neg_gcd,Int.gcd_neg];exact gc,by rw[nM];exact f2.sb,by rw[nM];exact f2.st⟩,λr H' n s e=>?_⟩;refine k r H' (s1.free n) (s1.trans s) ?_;dsimp only at e;rw[Int.mul_neg,Int.mul_neg,(CQ (Int.mul_neg_of_pos_of_neg f1.pos hn)).1,(CQ (Int.mul_neg_of_pos_of_neg f1.pos hn)).2]at e;exact e
  ·refine vA (nB hn) ?_;refine⟨_,rfl,_,rfl,_,rfl,uX,λz H1 n1 s1 e1=>?_⟩;refine⟨p,z,t,b,u,o,rfl,kI s1 hp,SqT.of e1,f1,⟨by omega,gc,f2.sb,f2.st⟩,λr H' n s e=>?_⟩;exact k r H' (s1.free n) (s1.trans s) e
abbrev NC(K:dD):Sp:=spTwo K (λt b o u=>t*u+o*b) (λ_ b _ u=>b*u)
theorem scAddF:FnScope ["one","other","top","bottom","over","under","shared","total","left"] ["one","other"] (jM KL):=⟨rfl,rfl,rfl,by decide +kernel,rfl,by decide +kernel,by decide +kernel⟩
theorem ok_addF{fG:Addr}{fdG:FuncData}(F:Fun K "added" "added" KL f fd)(T:Txt mg)(DG:Df K mg "greatest_divisor" SG ["one","other"] fG fdG):FnOk P w K mg base CX0 2 f fd ["one","other"] (NC K):=by
 have GG:FnOk P w K mg base CX0 1 fG fdG ["one","other"] spGcd:=NQ DG.F T;refine F.ok scAddF (λvs H Q E h=>?_) (λcdv A outer s H vs Q E hr h=>?_)
 ·obtain⟨p,q,t,b,o,u,rfl,_⟩:=h
  rfl
 ·obtain⟨p,q,t,b,o,u,rfl,hp,hq,f1,f2,k⟩:=h;refine⟨_,jD (qW (pv 0) (qI rfl (jQ (jI (i:=2) scAddF.nd rfl (Or.inl rfl)) (jQ (jI (i:=3) scAddF.nd rfl (Or.inl rfl)) kN))))
   (jD (qW (pv 1) (qI rfl (jQ (jI (i:=4) scAddF.nd rfl (Or.inl rfl)) (jQ (jI (i:=5) scAddF.nd rfl (Or.inl rfl)) kN))))
   (jD (jP (i:=6) scAddF.nd rfl (Or.inl rfl) (jG GG hr rfl DG.m DG.F.kp DG.b .nil jR (jA (pv 3) (jA (pv 5) jC))))
   (jD (jP (i:=7) scAddF.nd rfl (Or.inl rfl) (jJ kQ (jJ qC (pv 2) (jJ qY (pv 5) (pv 6))) (jJ qC (pv 4) (jJ qY (pv 3) (pv 6)))))
   (jD (jP (i:=8) scAddF.nd rfl (Or.inl rfl) (jG GG hr rfl DG.m DG.F.kp DG.b .nil jR (jA (pv 7) (jA (pv 6) jC))))
   (jF (jU (jT (jA (jJ qY (pv 7) (pv 8)) (jA (jJ qC (jJ qY (pv 3) (pv 6)) (jJ qY (pv 5) (pv 8))) jC))))))))), ?_⟩
  refine⟨_,rfl,p,_,rfl,hp,rfl,_,_,rfl,_,_,rfl,rfl, ?_⟩;refine⟨_,rfl,q,_,rfl,hq,rfl,_,_,rfl,_,_,rfl,rfl, ?_⟩;have s1:=LwM.qJ b u f2.pos;have sA:((Int.gcd b u:Nat):Int).natAbs<2^7900:=CV f2.pos f2.sb;have sD:CDivL u (Int.gcd b u:Int):=⟨by omega,kK sA (by decide)⟩;refine⟨_,rfl,_,rfl,b,u,rfl,f2.pos,kK f2.sb (by decide), ?_⟩;refine⟨_,rfl,_,rfl,_,rfl,_,_,rfl,rfl,sD,_,_,rfl,rfl,⟨kK f1.st (by decide),kK (vE f2.sb s1) (by decide)⟩, ?_⟩;refine⟨_,rfl,_,rfl,_,rfl,_,_,rfl,rfl,sD,_,_,rfl,rfl,⟨kK f2.st (by decide),kK (vE f1.sb s1) (by decide)⟩,_,_,rfl,rfl, ?_⟩;have tA:(t*(u/(Int.gcd b u:Int))+o*(b/(Int.gcd b u:Int))).natAbs<2^15801:=abs_add (n:=15800) (RQ (m:=7900) (n:=7900) f1.st (vE f2.sb s1)) (RQ (m:=7900) (n:=7900) f2.st (vE f1.sb s1));refine⟨_,rfl,_,rfl,_,_,rfl,by omega,kK sA (by decide), ?_⟩;have m:=LwM.add_low f1.pos f2.pos f1.low f2.low;have l1:=LwM.qJ (t*(u/(Int.gcd b u:Int))+o*(b/(Int.gcd b u:Int))) (Int.gcd b u:Int) (by omega);have lA:((Int.gcd (t*(u/(Int.gcd b u:Int))+o*(b/(Int.gcd b u:Int))) (Int.gcd b u:Int):Nat):Int).natAbs<2^7900:=CV (by omega) sA;generalize hT:t*(u/(Int.gcd b u:Int))+o*(b/(Int.gcd b u:Int))=T at *;generalize hl:(Int.gcd T (Int.gcd b u:Int):Int)=l at *;have lD:CDivL u l:=⟨by omega,kK lA (by decide)⟩;refine⟨_,rfl,_,rfl,_,_,rfl,rfl,lD,_,rfl,_,rfl,_,_,rfl,rfl,sD,_,rfl,_,rfl,_,_,rfl,rfl,lD,_,_,rfl,rfl,⟨kK (vE f1.sb s1) (by decide),kK (vE f2.sb (by omega)) (by decide)⟩,uX,λr H' n s e=>?_⟩
  refine k r H' n s ?_;have bu:=tR f1.pos f2.pos;show H' r=_;rw[e,vF bu,vY bu];dsimp only;rw[hT,m.1,m.2]
structure FrS(t b:Int):Prop where
 pos:0<b
 low:Int.gcd t b=1
 st:t.natAbs<2^40
 sb:b.natAbs<2^14
def II(c M:Int):Sp:=λvs H Q _=>∃(tp:Addr) (B:Int),vs=[.ref tp]/\∃cl,Tape cl H tp B/\B<M/\
 ∀(r:Addr) (t b:Int) (H':Hp),FrS t b->At2 H' r t b->r≠tp->Tape cl H' tp (B+c)->But tp H H'->(∀c o,H c=some o->c≠r)->Q (.ref r) H'
theorem low_fr{t b:Int}(hb:0<b)(ht:t.natAbs<2^40)(hs:b.natAbs<2^14):FrS (xA t b) (vU t b):=by
 have g1:=LwM.qJ t b hb;have gp:0<Int.gcd t b:=by omega
 rw[vF hb,vY hb];refine⟨?_,Int.gcd_ediv_gcd_ediv_gcd gp,vE ht g1,vE hs g1⟩;exact Int.ediv_pos_of_pos_of_dvd hb (by omega) (mO ..)
theorem CA{cl:Addr}{H:Hp}{tp r:Addr}{B:Int}(T:Tape cl H tp B)(n:H r=none):r≠tp:=by
 obtain⟨ns,spot,rest,left,z,_⟩:=T;rintro rfl;rw[n]at z;cases z
theorem BQ{p:Addr}{H H':Hp}{r:Addr}(b:But p H H')(n:H' r=none)(hr:r≠p):H r=none:=by
 cases q:H r with
 | none=>rfl
 | some o=>rw[b r o q hr]at n;cases n
theorem scNumber:FnScope ["tape","way","top","great"] ["tape"] (jM uT):=⟨rfl,rfl,rfl,by decide +kernel,rfl,by decide +kernel,by decide +kernel⟩
theorem SZ{fD fL:Addr}{fdD fdL:FuncData}(F:Fun K "_law_number" "_law_number" uT f fd)(T:Txt mg)(DD:Df K mg "_law_draw" FX ["tape","many"] fD fdD)(DL:Df K mg "_law_low" KJ ["top","bottom"] fL fdL):FnOk P w K mg base CX0 2 f fd ["tape"] (II 6 (2^38)):=by
 have GD:FnOk P w K mg base CX0 1 fD fdD ["tape","many"] spDraw:=PZ DD.F T;have GL:FnOk P w K mg base CX0 1 fL fdL ["top","bottom"] spLow:=WR DL.F T;refine F.ok scNumber (λvs H Q E h=>?_) (λcdv A outer s H vs Q E hr h=>?_)
 ·obtain⟨tp,B,rfl,_⟩:=h
  rfl
 ·obtain⟨tp,B,rfl,cl,hT,hB,k⟩:=h;refine⟨_,jD (jP (i:=1) scNumber.nd rfl (Or.inl rfl) (jG GD hr rfl DD.m DD.F.kp DD.b .nil jR (jA (pv 0) (jA jB jC))))
   (jD (jP (i:=2) scNumber.nd rfl (Or.inl rfl) (jJ zO (jG GD hr rfl DD.m DD.F.kp DD.b .nil jR (jA (pv 0) (jA jB jC))) jB))
   (jD (kS (jV zG (pv 1) jB (jW _)) (jF (jU (jT (jA (pv 2) (jA jB jC))))) kD)
   (jD (kS (jV zG (pv 1) jB (jW _)) (jF (jU (jG GL hr rfl DL.m DL.F.kp DL.b .nil jR (jA (pv 2) (jA (jJ kQ jB (jG GD hr rfl DD.m DD.F.kp DD.b .nil jR (jA (pv 0) (jA jB jC)))) jC))))) kD)
   (jD (jP (i:=3) scNumber.nd rfl (Or.inl rfl) (jJ uI (jG GD hr rfl DD.m DD.F.kp DD.b .nil jR (jA (pv 0) (jA (jJ EK jB jB) jC))) (jJ zO jB (jJ uI jB (jG GD hr rfl DD.m DD.F.kp DD.b .nil jR (jA (pv 0) (jA jB jC)))))))
   (jF (jU (jG GL hr rfl DL.m DL.F.kp DL.b .nil jR (jA (pv 3) (jA (jJ kQ jB (jG GD hr rfl DD.m DD.F.kp DD.b .nil jR (jA (pv 0) (jA (jJ EK jB jB) jC)))) jC)))))))))
   , ?_⟩
  refine⟨_,rfl,tp,24,B,rfl,_,hT,by omega,by decide,by decide,λway H1 w0 w1 T1 b1=>?_⟩;refine⟨_,rfl,tp,13,_,rfl,_,T1,by omega,by decide,by decide,λtop H2 t0 t1 T2 b2=>⟨_,_,rfl,rfl, ?_⟩⟩;have p10:∀n:Int,0<=n->n<=1000000->CPow 10 n:=λn h0 h1=>⟨h0,h1,by decide⟩;have tell:∀(t b B':Int) (H3:Hp),0<b->t.natAbs<2^40->b.natAbs<2^14->Tape cl H3 tp B'->B'<=B+6->But tp H H3->spLow [.int t,.int b] H3 Q E0:=by
   intro t b B' H3 hb ht hs T3 hB' b3;refine⟨t,b,rfl,by omega,.inl (kK hs (by decide)),λp H4 n4 s4 e4=>?_⟩;refine k p _ _ H4 (low_fr hb ht hs) e4 (CA T3 n4) (T3.mono s4 (by omega)) (b3.trans (But.of s4)) (λc o hc hp=>?_);subst hp;have:=BQ b3 n4 (CA T3 n4);rw[hc]at this;cases this
  refine⟨_,rfl,_,_,rfl,rfl,_,rfl, ?_⟩;refine EV (λ_=>?_) (λ_=>?_)
  ·refine⟨_,rfl,uX,λp H3 n3 s3 e3=>?_⟩;refine k p (top-6) 1 H3 ⟨by decide,by simp,by omega,by decide⟩ e3 (CA T2 n3) (T2.mono s3 (by omega)) ((b1.trans b2).trans (But.of s3)) (λc o hc hp=>?_);subst hp;have:=BQ (b1.trans b2) n3 (CA T2 n3);rw[hc]at this;cases this
  ·refine⟨_,rfl,_,_,rfl,rfl,_,rfl, ?_⟩;refine EV (λ_=>?_) (λ_=>?_)
   ·refine⟨_,rfl,_,rfl,tp,7,_,rfl,_,T2,by omega,by decide,by decide,λc H3 c0 c1 T3 b3=>⟨_,_,rfl,rfl, ?_⟩⟩;exact tell _ _ _ H3 (by omega) (by omega) (by omega) T3 (by omega) ((b1.trans b2).trans b3)
   ·refine⟨_,rfl,_,_,rfl,rfl,p10 12 (by decide) (by decide),tp,_,_,rfl,_,T2,by omega,by decide,by decide,λg H3 g0 g1 T3 b3=>?_⟩;refine⟨_,rfl,tp,2,_,rfl,_,T3,by omega,by decide,by decide,λr H4 r0 r1 T4 b4=>?_⟩;refine⟨_,_,rfl,rfl,.inl ⟨by decide,by decide⟩,_,_,rfl,rfl,_,_,rfl,rfl,.inr ⟨by omega,by omega⟩, ?_⟩;refine⟨_,rfl,_,rfl,_,_,rfl,rfl,p10 4 (by decide) (by decide),tp,_,_,rfl,_,T4,by omega,by decide,by decide,λc H5 c0 c1 T5 b5=>⟨_,_,rfl,rfl, ?_⟩⟩;have e12:(10:Int)^(12:Int).toNat=1000000000000:=by decide +kernel
    have e4:(10:Int)^(4:Int).toNat=10000:=by decide +kernel
    rw[e12]at g1;rw[e4]at c1;have hr2:r=0∨r=1:=by omega
    refine tell _ _ _ H5 (by omega) ?_ (by omega) T5 (by omega) ((((b1.trans b2).trans b3).trans b4).trans b5);rcases hr2 with rfl | rfl
    ·simp only[Int.mul_zero,Int.sub_zero,Int.mul_one];omega
    ·rw[show(1:Int)-2*1 = -1 by decide,Int.mul_neg,Int.mul_one,nM];omega
open LwQ
def spPlus:Sp:=λvs H Q _=>∃(p q:Addr) (t b o u:Int),vs=[.ref p,.ref q]/\At2 H p t b/\At2 H q o u/\0<b/\0<u/\t.natAbs<2^50000/\b.natAbs<2^50000/\o.natAbs<2^50000/\u.natAbs<2^8000/\
 ∀(r:Addr) (t' b':Int) (H':Hp),H r=none->Same H H'->At2 H' r t' b'->0<b'->b'.natAbs<=b.natAbs*u.natAbs->t'*(b*u)=(t*u+o*b)*b'->Q (.ref r) H'
theorem QE{b u:Int}(h:decide (V.int (b%u)=V.int 0)=true):b=u*(b/u):=by
 have e:b%u=0:=by
  have:=mL h;injection this
 have:=Int.mul_ediv_add_emod b u;omega
theorem scPlus:FnScope ["one","other","top"] ["one","other"] (jM BM):=⟨rfl,rfl,rfl,by decide +kernel,rfl,by decide +kernel,by decide +kernel⟩
theorem PY(F:Fun K "_law_plus" "_law_plus" BM f fd):FnOk P w K mg base CX0 1 f fd ["one","other"] spPlus:=by
 refine F.ok scPlus (λvs H Q E h=>?_) (λcdv A outer s H vs Q E hr h=>?_)
 ·obtain⟨p,q,t,b,o,u,rfl,_⟩:=h
  rfl
 ·obtain⟨p,q,t,b,o,u,rfl,hp,hq,hb,hu,st,sb,so,su,k⟩:=h;refine⟨_,jD (kS (jV yH (jJ yF (jN jS (pv 0) jB (λ_ _=>rfl)) (jN jS (pv 1) jB (λ_ _=>rfl))) jB (jW _))
    (jF (jU (jT (jA (jJ kQ (jN jS (pv 0) jB (λ_ _=>rfl)) (jJ qC (jN jS (pv 1) jB (λ_ _=>rfl)) (jJ qY (jN jS (pv 0) jB (λ_ _=>rfl)) (jN jS (pv 1) jB (λ_ _=>rfl))))) (jA (jN jS (pv 0) jB (λ_ _=>rfl)) jC))))) kD)
   (jD (kS (jV yH (jJ yF (jN jS (pv 1) jB (λ_ _=>rfl)) (jN jS (pv 0) jB (λ_ _=>rfl))) jB (jW _))
    (jF (jU (jT (jA (jJ kQ (jN jS (pv 1) jB (λ_ _=>rfl)) (jJ qC (jN jS (pv 0) jB (λ_ _=>rfl)) (jJ qY (jN jS (pv 1) jB (λ_ _=>rfl)) (jN jS (pv 0) jB (λ_ _=>rfl))))) (jA (jN jS (pv 1) jB (λ_ _=>rfl)) jC))))) kD)
   (jD (jP (i:=2) scPlus.nd rfl (Or.inl rfl) (jJ kQ (jJ qC (jN jS (pv 0) jB (λ_ _=>rfl)) (jN jS (pv 1) jB (λ_ _=>rfl))) (jJ qC (jN jS (pv 1) jB (λ_ _=>rfl)) (jN jS (pv 0) jB (λ_ _=>rfl)))))
   (jF (jU (jT (jA (pv 2) (jA (jJ qC (jN jS (pv 0) jB (λ_ _=>rfl)) (jN jS (pv 1) jB (λ_ _=>rfl))) jC))))))), ?_⟩
  have P:=SqT.of (K:=K) hp;have R:=SqT.of (K:=K) hq;have d1:(b/u).natAbs<2^100000:=kK (vE sb hu) (by decide);have d2:(u/b).natAbs<2^100000:=kK (vE su hb) (by decide);have st':t.natAbs<2^100000:=kK st (by decide);have sb':b.natAbs<2^100000:=kK sb (by decide);have so':o.natAbs<2^100000:=kK so (by decide);have su':u.natAbs<2^100000:=kK su (by decide);have lb:b.natAbs<=b.natAbs*u.natAbs:=gG _ (by omega);have lu:u.natAbs<=b.natAbs*u.natAbs:=Nat.le_mul_of_pos_left _ (by omega);refine⟨_,rfl,p,_,_,_,rfl,rfl,P,rfl,_,rfl,q,_,_,_,rfl,rfl,R,rfl,_,_,rfl,rfl,hu,rfl,_,rfl, ?_⟩;refine EV (λe=>?_) (λ_=>?_)
  ·refine⟨_,rfl,p,_,_,_,rfl,rfl,P,rfl,_,rfl,q,_,_,_,rfl,rfl,R,rfl,_,rfl,p,_,_,_,rfl,rfl,P,rfl,_,rfl,q,_,_,_,rfl,rfl,R,rfl,_,_,rfl,rfl,⟨hu,su⟩,_,_,rfl,rfl,⟨so',d1⟩,_,_,rfl,rfl,_,rfl,p,_,_,_,rfl,rfl,P,rfl,uX,λr H1 n1 s1 e1=>?_⟩;refine k r _ _ H1 n1 s1 e1 hb lb ?_;have m:=QE e;generalize b/u=x at m;subst m
   grind
  refine⟨_,rfl,q,_,_,_,rfl,rfl,R,rfl,_,rfl,p,_,_,_,rfl,rfl,P,rfl,_,_,rfl,rfl,hb,rfl,_,rfl, ?_⟩;refine EV (λe=>?_) (λ_=>?_)
  ·have m:=QE e;have bu:b.natAbs<2^8000:=by
    have:b∣u:=⟨_,m⟩;have:=Int.le_of_dvd hu this;exact hJ (by omega) su
   refine⟨_,rfl,q,_,_,_,rfl,rfl,R,rfl,_,rfl,p,_,_,_,rfl,rfl,P,rfl,_,rfl,q,_,_,_,rfl,rfl,R,rfl,_,rfl,p,_,_,_,rfl,rfl,P,rfl,_,_,rfl,rfl,⟨hb,bu⟩,_,_,rfl,rfl,⟨st',d2⟩,_,_,rfl,rfl,_,rfl,q,_,_,_,rfl,rfl,R,rfl,uX,λr H1 n1 s1 e1=>?_⟩;refine k r _ _ H1 n1 s1 e1 hu lu ?_;generalize u/b=x at m;subst m
   grind
  ·refine⟨_,rfl,p,_,_,_,rfl,rfl,P,rfl,_,rfl,q,_,_,_,rfl,rfl,R,rfl,_,_,rfl,rfl,⟨st',su'⟩,_,rfl,q,_,_,_,rfl,rfl,R,rfl,_,rfl,p,_,_,_,rfl,rfl,P,rfl,_,_,rfl,rfl,⟨so',sb'⟩,_,_,rfl,rfl, ?_⟩;refine⟨_,rfl,_,rfl,p,_,_,_,rfl,rfl,P,rfl,_,rfl,q,_,_,_,rfl,rfl,R,rfl,_,_,rfl,rfl,⟨sb',su'⟩,uX,λr H1 n1 s1 e1=>?_⟩;exact k r _ _ H1 n1 s1 e1 (tR hb hu) (Nat.le_of_eq (nI _ _)) rfl
open LwV
structure Kp(H H':Hp):Prop where
 tup:∀a xs,H a=some (.tup xs)->H' a=some (.tup xs)
 frz:∀a o x,H a=some (.frz o x)->H' a=some (.frz o x)
theorem Kp.of{H H':Hp}(s:Same H H'):Kp H H':=⟨λ_ _ e=>s _ _ e,λ_ _ _ e=>s _ _ e⟩
theorem Kp.trans{A B C:Hp}(h:Kp A B)(k:Kp B C):Kp A C:=⟨λ_ _ e=>k.tup _ _ (h.tup _ _ e),λ_ _ _ e=>k.frz _ _ _ (h.frz _ _ _ e)⟩
def Soft:HO->Prop
 | .tup _=>False
 | .frz _ _=>False
 | _=>True
theorem Kp.but{p:Addr}{H H':Hp}{x:HO}(b:But p H H')(e:H p=some x)(s:Soft x):Kp H H':=
 ⟨λa xs h=>b _ _ h λz=>by rw[z,e]at h;cases h;exact s,λa o y h=>b _ _ h λz=>by rw[z,e]at h;cases h;exact s⟩
theorem Kp.butT{cl tp:Addr}{H H':Hp}{B:Int}(b:But tp H H')(T:Tape cl H tp B):Kp H H':=by
 obtain⟨ns,spot,rest,left,z,_⟩:=T;exact Kp.but b z trivial
theorem Kp.upd{p:Addr}{H:Hp}{x y:HO}(e:H p=some x)(s:Soft x):Kp H (upd H p y):=Kp.but (p:=p) (λc o h n=>by rw[jO n];exact h) e s
theorem Kp.sqT{K:dD}{H H':Hp}{a:Addr}{xs:List V}(k:Kp H H')(h:SqT K H a xs):SqT K H' a xs:=by
 rcases h with(h | ⟨o,h⟩) | h
 ·exact .inl (.inl (k.tup _ _ h))
 ·exact .inl (.inr ⟨o,k.frz _ _ _ h⟩)
 ·exact .inr h
structure Ent where
 ns:List Int
 c:Addr
 t:Int
 b:Int
 k:Nat
def Ent.kv(e:Ent):List Key×V:=(LwD.ik e.ns,.ref e.c)
def Ent.pr(e:Ent):List Int×Rat:=(e.ns,(e.t:Rat)/(e.b:Rat))
def pl(E:List Ent):Pl:=E.map Ent.pr
theorem AF(E:List Ent):(pl E).map (·.1)=E.map Ent.ns:=by unfold pl;rw[tK];rfl
structure Sz where
 D:Nat
 v:Nat
 S:Nat
 n:Nat
structure EntOk(H:Hp)(aa D v:Nat)(e:Ent):Prop where
 len:e.ns.length=aa
 nn:∀n∈e.ns,0<=n
 deg:e.ns.sum<=D
 at':At2 H e.c e.t e.b
 pos:0<e.b
 nz:e.t≠0
 sb:e.b.natAbs<=2^e.k
 st:e.t.natAbs<=2^v*e.b.natAbs
theorem EntOk.kp{H H':Hp}{aa D v:Nat}{e:Ent}(h:EntOk H aa D v e)(k:Kp H H'):EntOk H' aa D v e:=⟨h.len,h.nn,h.deg,k.tup _ _ h.at',h.pos,h.nz,h.sb,h.st⟩
theorem EntOk.up{H:Hp}{aa D v v':Nat}{e:Ent}(h:EntOk H aa D v e)(k:v<=v'):EntOk H aa D v' e:=⟨h.len,h.nn,h.deg,h.at',h.pos,h.nz,h.sb,tD h.st (gU _ (gS (by decide) k))⟩
structure DB(H:Hp)(aa:Nat)(z:Sz)(E:List Ent):Prop where
 nd:(E.map Ent.ns).Nodup
 each:∀e∈E,EntOk H aa z.D z.v e
 sum:(E.map Ent.k).sum<=z.S
 few:E.length<=z.n
theorem DB.kp{H H':Hp}{aa:Nat}{z:Sz}{E:List Ent}(h:DB H aa z E)(k:Kp H H'):DB H' aa z E:=⟨h.nd,λe he=>(h.each e he).kp k,h.sum,h.few⟩
theorem DB.up{H:Hp}{aa:Nat}{z z':Sz}{E:List Ent}(h:DB H aa z E)(hD:z.D<=z'.D)(hv:z.v<=z'.v)(hS:z.S<=z'.S)(hn:z.n<=z'.n):DB H aa z' E:=⟨h.nd,λe he=>by
 have k:=(h.each e he).up hv;exact⟨k.len,k.nn,by have:=k.deg;omega,k.at',k.pos,k.nz,k.sb,k.st⟩,tD h.sum hS,tD h.few hn⟩
theorem NU:∀{l:List Nat} {n:Nat},n∈l->n<=l.sum
 | a::r,n,h=>by
  rw[nX];rcases nT.mp h with rfl | h
  ·exact Nat.le_add_right ..
  ·exact tD (NU h) (Nat.le_add_left ..)
theorem DB.k{H:Hp}{aa:Nat}{z:Sz}{E:List Ent}(h:DB H aa z E){e:Ent}(he:e∈E):e.k<=z.S:=tD (NU (List.mem_map_of_mem he)) h.sum
theorem EX{ns ms:List Int}(h:LwD.ik ns=LwD.ik ms):ns=ms:=by
 have:=congrArg (List.map kV) h;rw[LwD.xB,LwD.xB]at this;exact(List.map_inj_right (f:=V.int) (λa b e=>by injection e)).mp this
section
variable{k:List Key}{v v0:V}{L R l:List (List Key×V)}
theorem HX(h:∀p∈l,p.1≠k):xU l k=none:=by
 unfold xU;rw[List.find?_eq_none.mpr λp hp=>by simp [h p hp]]
 rfl
theorem HY(h:∀p∈L,p.1≠k):xU (L++(k,v)::R) k=some v:=by
 unfold xU;rw[List.find?_append,List.find?_eq_none.mpr λp hp=>by simp [h p hp]];simp
theorem CM(h:∀p∈l,p.1≠k):zF l k v=l++[(k,v)]:=by
 unfold zF;rw[dA];intro z;obtain⟨p,hp,e⟩:=List.any_eq_true.mp z;exact h p hp (mL e)
theorem QF(h:∀p∈l,p.1≠k):l.map (λkv=>if kv.1=k then(kv.1,v)else kv)=l:=by
 conv=>rhs;rw[<-List.map_id l]
 exact List.map_congr_left λp hp=>by rw[dA (h p hp)];rfl
theorem ZZ(h1:∀p∈L,p.1≠k)(h2:∀p∈R,p.1≠k):zF (L++(k,v0)::R) k v=L++(k,v)::R:=by
 unfold zF;rw[dC (by simp),nA,nQ,QF h1,QF h2];simp
theorem YL(h1:∀p∈L,p.1≠k)(h2:∀p∈R,p.1≠k):BT (L++(k,v0)::R) k=L++R:=by
 unfold BT;rw[List.filter_append,mY,List.filter_eq_self.mpr (λp hp=>nH (h1 p hp)),List.filter_eq_self.mpr (λp hp=>nH (h2 p hp))];simp
end
theorem xO{E:List Ent}{ns:List Int}(h:ns∉E.map Ent.ns):∀p∈E.map Ent.kv,p.1≠LwD.ik ns:=by
 intro p hp z;obtain⟨e,he,rfl⟩:=tF.mp hp;exact h (tF.mpr ⟨e,he,EX z⟩)
theorem BI{t b o u t' b':Int}(hb:0<b)(hu:0<u)(hb':0<b')(h:t'*(b*u)=(t*u+o*b)*b'):(t':Rat)/(b':Rat)=(t:Rat)/(b:Rat)+(o:Rat)/(u:Rat):=by
 have h1:(b:Rat)≠0:=by simpa using (show b≠0 by omega)
 have h2:(u:Rat)≠0:=by simpa using (show u≠0 by omega)
 have h3:(b':Rat)≠0:=by simpa using (show b'≠0 by omega)
 have e:(t':Rat)*(b*u)=(t*u+o*b)*b':=by exact_mod_cast h
 grind
theorem zE{t b o u t' b':Int}{v:Nat}(hb:0<b)(hu:0<u)(h:t'*(b*u)=(t*u+o*b)*b')(h1:t.natAbs<=2^v*b.natAbs)(h2:o.natAbs<=2^v*u.natAbs):t'.natAbs<=2^(v+1)*b'.natAbs:=by
 have:=NK hb hu h h1 h2;rw[Nat.pow_succ,Nat.mul_two];exact this
def KB(B:List Int->Nat)(E:List Ent):Prop:=∀e∈E,e.k<=B e.ns
theorem DB.kb{H:Hp}{aa:Nat}{z:Sz}{E:List Ent}(h:DB H aa z E):KB (λ_=>z.S) E:=λ_ he=>h.k he
theorem KB.up{B B':List Int->Nat}{E:List Ent}(h:KB B E)(k:∀m,B m<=B' m):KB B' E:=λe he=>tD (h e he) (k _)
def spPut:Sp:=λvs H Q _=>∃(d b q:Addr) (ns:List Int) (o u:Int) (aa j:Nat) (z:Sz) (E:List Ent) (B:List Int->Nat),vs=[.ref d,.ref b,.ref q]/\H d=some (.dT (E.map Ent.kv))/\DB H aa z E/\KB B E/\B ns<=40000/\j<=7900/\z.v<=4000/\z.n<=1000/\H b=some (.tup (ns.map V.int))/\ns.length=aa/\(∀n∈ns,0<=n)/\ns.sum<=z.D/\
 At2 H q o u/\0<u/\u.natAbs<=2^j/\o.natAbs<=2^z.v*u.natAbs/\∀(E':List Ent) (H':Hp),But d H H'->H' d=some (.dT (E'.map Ent.kv))->DB H' aa ⟨z.D,z.v+1,z.S+j,z.n+1⟩ E'->KB (λm=>B m+if m=ns then j else 0) E'->
  (∀m,cf (pl E') m=cf (pl E) m+if ns=m then(o:Rat)/(u:Rat)else 0)->Q .non H'
theorem vQ{t b:Int}{v S:Nat}(ht:t.natAbs<=2^v*b.natAbs)(hb:b.natAbs<=2^S)(h:v+S<50000):t.natAbs<2^50000:=by
 have h1:=tD ht (gZ _ hb);rw[<-tU]at h1;exact hJ h1 (gT (by decide) (by omega))
theorem vD{b:Int}{S n:Nat}(hb:b.natAbs<=2^S)(h:S<n):b.natAbs<2^n:=hJ hb (gT (by decide) h)
theorem scPut:FnScope ["found","powers","number","some"] ["found","powers","number"] (jM NE):=⟨rfl,rfl,rfl,by decide +kernel,rfl,by decide +kernel,by decide +kernel⟩
theorem ok_put{fP:Addr}{fdP:FuncData}(F:Fun K "_law_put" "_law_put" NE f fd)(DP:Df K mg "_law_plus" BM ["one","other"] fP fdP):FnOk P w K mg base CX0 2 f fd ["found","powers","number"] spPut:=by
 have GP:FnOk P w K mg base CX0 1 fP fdP ["one","other"] spPlus:=PY DP.F;refine F.ok scPut (λvs H Q E h=>?_) (λcdv A outer s H vs Q E hr h=>?_)
 ·obtain⟨d,b,q,ns,o,u,aa,j,z,E',B,rfl,_⟩:=h
  rfl
 ·obtain⟨d,b,q,ns,o,u,aa,j,z,EE,BB,rfl,hd,hD,kB,hS,hj,hv,hn,hb,hl,hns,hsum,hq,pu,su,so,go⟩:=h;have hu:_+1<cLine:=hJ (Nat.add_le_add_left (by decide:1<=64) _) hr.units;refine⟨_,jD (jP (i:=3) scPut.nd rfl (Or.inl rfl) (jG GP hr rfl DP.m DP.F.kp DP.b .nil jR (jA (EJ hu (pv 0) (pv 1) (jT (jA jB (jA jB jC))) ⟨rfl,rfl,rfl,rfl⟩) (jA (pv 2) jC))))
   (jF (kS (jV yG (jN jS (pv 3) jB (λ_ _=>rfl)) jB (jW _)) (jF (AE hu (pv 0) (pv 1) (pv 3) rfl))
    (jF (kS (BD (WH hu (pv 1) (pv 0))) (jF (xJ (LwD.WD hu (pv 0) (pv 1) ⟨rfl,rfl,rfl,rfl⟩))) kD)))), ?_⟩
  have hb':H b=some (.tup ((LwD.ik ns).map kV)):=by rw[LwD.xB];exact hb
  have few:=hD.few;have kz:(EE.map Ent.kv).length<sizeLine:=by rw[mZ];exact hJ (tD few hn) (by decide)
  refine⟨_,rfl,d,rfl,.inr ⟨_,.inl hd⟩,_,rfl,uX,λz1 H1 n1 s1 e1=>⟨xU (EE.map Ent.kv) (LwD.ik ns),DGet.t (s1 _ _ hd) (s1 _ _ hb'),_,rfl, ?_⟩⟩;have uf:u.natAbs<2^8000:=vD su (by omega);have of:o.natAbs<2^50000:=vQ so su (by omega);have fin:∀(t b0 t' b':Int) (r:Addr) (H2:Hp),Same H H2->At2 H2 r t' b'->H1 r=none->0<b'->0<b0->t'*(b0*u)=(t*u+o*b0)*b'->t.natAbs<=2^z.v*b0.natAbs->
    (t':Rat)/(b':Rat)=(t:Rat)/(b0:Rat)+(o:Rat)/(u:Rat)/\t'.natAbs<=2^(z.v+1)*b'.natAbs/\r≠d:=λt b0 t' b' r H2 s2 e2 n2 pb pb0 eq ht=>
   ⟨BI pb0 pu pb eq,zE pb0 pu eq ht so,λzz=>by rw[zz,s1 _ _ hd]at n2;cases n2⟩
  by_cases hin:ns∈EE.map Ent.ns
  ·obtain⟨e,he,en⟩:=tF.mp hin;obtain⟨L,R,eE⟩:=List.append_of_mem he;have hE:=hD.each e he;have nd:=hD.nd;rw[eE,nA,nQ]at nd;have nL:ns∉L.map Ent.ns:=λy=>by
    rw[<-en]at y;exact(mN.mp nd).2.2 _ y _ (mF ..) rfl
   have nR:ns∉R.map Ent.ns:=λy=>by
    rw[<-en]at y;exact(List.nodup_cons.mp (mN.mp nd).2.1).1 y
   have km:EE.map Ent.kv=L.map Ent.kv++(LwD.ik ns,V.ref e.c)::R.map Ent.kv:=by
    rw[eE,nA,nQ,<-en]
    rfl
   have ev:xU (EE.map Ent.kv) (LwD.ik ns)=some (.ref e.c):=by rw[km];exact HY (xO nL)
   rw[ev];have ke:e.k<=BB ns:=en▸kB e he;have ks:(L.map Ent.k).sum+(e.k+(R.map Ent.k).sum)<=z.S:=by
    have:=hD.sum
    rwa [eE,nA,nQ,List.sum_append,nX]at this
   have kf:L.length+(R.length+1)<=z.n:=by
    have:=few
    rwa [eE,hU,mU]at this
   refine⟨e.c,q,e.t,e.b,o,u,rfl,s1 _ _ hE.at',s1 _ _ hq,hE.pos,pu,vQ hE.st hE.sb (by omega),vD hE.sb (by omega),of,uf,λr t' b' H2 n2 s2 e2 pb lb eq=>?_⟩;have s12:Same H H2:=s1.trans s2;obtain⟨ex,rt,rd⟩:=fin e.t e.b t' b' r H2 s12 e2 n2 pb hE.pos eq hE.st;have hd2:H2 d=some (.dT (EE.map Ent.kv)):=s12 _ _ hd;have hb2:H2 b=some (.tup ((LwD.ik ns).map kV)):=s12 _ _ hb';have bd:∀o,But d H (upd H2 d o):=λo x y hx hn=>by
    rw[jO hn];exact s12 _ _ hx
   have tu:∀o:HO,Kp H (upd H2 d o):=λo=>(Kp.of s12).trans (Kp.upd hd2 trivial);have cE:∀m,cf (pl EE) m=(if ns=m then(e.t:Rat)/(e.b:Rat)else 0)+(cf (pl L) m+cf (pl R) m):=λm=>by
    rw[eE,pl,nA,nQ,zZ,xT];show cf (pl L) m+((if e.ns=m then(e.t:Rat)/(e.b:Rat)else 0)+cf (pl R) m)=_;rw[en]
    grind
   refine⟨_,rfl,r,_,_,_,rfl,rfl,SqT.of e2,rfl,rfl,_,rfl, ?_⟩;refine EV (λnz=>?_) (λnz=>?_)
   ·refine⟨_,rfl,_,rfl,_,rfl,d,_,rfl,DPut.t (k:=LwD.ik ns) hd2 hb2 kz, ?_⟩;have tz:t'≠0:=λy=>by rw[y]at nz;simp at nz
    refine go (L++⟨ns,r,t',b',e.k+j⟩::R) _ (bd _) ?_ ⟨?_,λx hx=>?_, ?_, ?_⟩ (λx hx=>?_) λm=>?_
    ·rw[jE,km,ZZ (xO nL) (xO nR),nA,nQ]
     rfl
    ·rw[nA,nQ];rw[en]at nd;exact nd
    ·rcases nC.mp hx with hx | hx
     ·exact((hD.each x (by rw[eE];exact List.mem_append_left _ hx)).kp (tu _)).up (Nat.le_succ _)
     ·rcases nT.mp hx with rfl | hx
      ·refine⟨hl,hns,hsum,by show At2 _ r t' b';rw[At2,jO rd];exact e2,pb,tz, ?_,rt⟩;refine tD lb ?_;rw[tU];exact nK hE.sb su
      ·exact((hD.each x (by rw[eE];exact gL _ (gR _ hx))).kp (tu _)).up (Nat.le_succ _)
    ·rw[nA,nQ,List.sum_append,nX];show(L.map Ent.k).sum+(e.k+j+(R.map Ent.k).sum)<=z.S+j;omega
    ·rw[hU,mU];show L.length+(R.length+1)<=z.n+1;omega
    ·rcases nC.mp hx with hx | hx
     ·exact tD (kB x (by rw[eE];exact List.mem_append_left _ hx)) (Nat.le_add_right ..)
     ·rcases nT.mp hx with rfl | hx
      ·show e.k+j<=BB ns+if ns=ns then j else 0
       rw[dC rfl];omega
      ·exact tD (kB x (by rw[eE];exact gL _ (gR _ hx))) (Nat.le_add_right ..)
    ·rw[cE,pl,nA,nQ,zZ,xT];show cf (pl L) m+((if ns=m then(t':Rat)/(b':Rat)else 0)+cf (pl R) m)=_;rw[ex];split<;>grind
   ·refine⟨_,rfl,_,rfl,d,_,rfl,DGet.t (k:=LwD.ik ns) hd2 hb2,_,rfl, ?_⟩;rw[ev];refine NY ⟨_,rfl,d,rfl,.inr ⟨_,.inl hd2⟩,_,rfl,_,LwD.ik ns,_,b,hd2,rfl,hb2,ev, ?_⟩;have tz:t'=0:=by
     by_cases y:t'=0
     ·exact y
     ·exact absurd (by simp [y]) nz
    refine go (L++R) _ (bd _) ?_ ⟨?_,λx hx=>?_, ?_, ?_⟩ (λx hx=>tD (kB x ?_) (Nat.le_add_right ..)) λm=>?_
    ·rw[jE,km,YL (xO nL) (xO nR),nA]
    ·rw[nA];rw[mN]at nd ⊢;exact⟨nd.1,(List.nodup_cons.mp nd.2.1).2,λa ha b hb=>nd.2.2 a ha b (gR _ hb)⟩
    ·refine((hD.each x ?_).kp (tu _)).up (Nat.le_succ _);rw[eE];rcases nC.mp hx with hx | hx
     ·exact List.mem_append_left _ hx
     ·exact gL _ (gR _ hx)
    ·rw[nA,List.sum_append];show _<=z.S+j;omega
    ·rw[hU];show _<=z.n+1;omega
    ·rw[eE];rcases nC.mp hx with hx | hx
     ·exact List.mem_append_left _ hx
     ·exact gL _ (gR _ hx)
    ·rw[cE,pl,nA,zZ];show cf (pl L) m+cf (pl R) m=_;rw[tz]at ex;have:(e.t:Rat)/(e.b:Rat)+(o:Rat)/(u:Rat)=0:=by rw[<-ex];show((0:Int):Rat)/_=0;grind
     split<;>grind
  ·have ev:xU (EE.map Ent.kv) (LwD.ik ns)=none:=HX (xO hin);rw[ev];refine⟨z1,q,0,1,o,u,rfl,e1,s1 _ _ hq,by decide,pu,by show 0<_;exact Nat.pow_pos (by decide),by show 1<_;exact Nat.one_lt_pow (by decide) (by decide),of,uf,λr t' b' H2 n2 s2 e2 pb lb eq=>?_⟩;have s12:Same H H2:=s1.trans s2;obtain⟨ex,rt,rd⟩:=fin 0 1 t' b' r H2 s12 e2 n2 pb (by decide) eq (tQ _);have hd2:H2 d=some (.dT (EE.map Ent.kv)):=s12 _ _ hd;have hb2:H2 b=some (.tup ((LwD.ik ns).map kV)):=s12 _ _ hb';have bd:∀o,But d H (upd H2 d o):=λo x y hx hn=>by
    rw[jO hn];exact s12 _ _ hx
   have tu:∀o:HO,Kp H (upd H2 d o):=λo=>(Kp.of s12).trans (Kp.upd hd2 trivial);have ex':(t':Rat)/(b':Rat)=(o:Rat)/(u:Rat):=by rw[ex];show((0:Int):Rat)/_+_=_;grind
   refine⟨_,rfl,r,_,_,_,rfl,rfl,SqT.of e2,rfl,rfl,_,rfl, ?_⟩;refine EV (λnz=>?_) (λnz=>?_)
   ·refine⟨_,rfl,_,rfl,_,rfl,d,_,rfl,DPut.t (k:=LwD.ik ns) hd2 hb2 kz, ?_⟩;have tz:t'≠0:=λy=>by rw[y]at nz;simp at nz
    refine go (EE++[⟨ns,r,t',b',j⟩]) _ (bd _) ?_ ⟨?_,λx hx=>?_, ?_, ?_⟩ (λx hx=>?_) λm=>?_
    ·rw[jE,CM (xO hin),nA]
     rfl
    ·rw[nA,mN];refine⟨hD.nd,by simp,λa ha b hb=>?_⟩;have:b=ns:=by simpa using hb
     rintro rfl;rw[this]at ha;exact hin ha
    ·rcases nC.mp hx with hx | hx
     ·exact((hD.each x hx).kp (tu _)).up (Nat.le_succ _)
     ·rw[mC]at hx;subst hx;refine⟨hl,hns,hsum,by show At2 _ r t' b';rw[At2,jO rd];exact e2,pb,tz, ?_,rt⟩;refine tD lb ?_;rw[Int.natAbs_one,Nat.one_mul];exact su
    ·rw[nA,List.sum_append];have:=hD.sum;show(EE.map Ent.k).sum+(j+0)<=z.S+j;omega
    ·rw[hU];show EE.length+1<=z.n+1;omega
    ·rcases nC.mp hx with hx | hx
     ·exact tD (kB x hx) (Nat.le_add_right ..)
     ·rw[mC]at hx;subst hx;show j<=BB ns+if ns=ns then j else 0
      rw[dC rfl];omega
    ·rw[pl,nA,zZ];show cf (pl EE) m+((if ns=m then(t':Rat)/(b':Rat)else 0)+0)=_;rw[ex'];split<;>grind
   ·refine⟨_,rfl,_,rfl,d,_,rfl,DGet.t (k:=LwD.ik ns) hd2 hb2,_,rfl, ?_⟩;rw[ev];have tz:t'=0:=by
     by_cases y:t'=0
     ·exact y
     ·exact absurd (by simp [y]) nz
    have o0:(o:Rat)/(u:Rat)=0:=by rw[<-ex',tz];show((0:Int):Rat)/_=0;grind
    refine yR ?_;refine go EE H2 (But.of s12) hd2 ((hD.kp (Kp.of s12)).up uU (Nat.le_succ _) (Nat.le_add_right ..) (Nat.le_succ _)) (kB.up λm=>Nat.le_add_right ..) λm=>?_;rw[o0];split<;>grind
structure FQ(H:Hp)(d:Addr)(aa:Nat)(z:Sz)(E:List Ent):Prop where
 fr:∃o,H d=some (.frz o (.dT (E.map Ent.kv)))
 db:DB H aa z E
theorem FQ.kp{H H':Hp}{d:Addr}{aa:Nat}{z:Sz}{E:List Ent}(h:FQ H d aa z E)(k:Kp H H'):FQ H' d aa z E:=⟨h.fr.elim λo e=>⟨o,k.frz _ _ _ e⟩,h.db.kp k⟩
theorem FQ.rd{H:Hp}{d:Addr}{aa:Nat}{z:Sz}{E:List Ent}(h:FQ H d aa z E):Rd H d (.dT (E.map Ent.kv)):=.inr h.fr
theorem val_in{E:List Ent}(nd:(E.map Ent.ns).Nodup){e:Ent}(he:e∈E):xU (E.map Ent.kv) (LwD.ik e.ns)=some (.ref e.c):=by
 obtain⟨L,R,rfl⟩:=List.append_of_mem he;rw[nA,nQ]at nd ⊢;refine HY (xO λy=>?_);exact(mN.mp nd).2.2 _ y _ (mF ..) rfl
theorem VW{H:Hp}{d b:Addr}{E:List Ent}(h:Rd H d (.dT (E.map Ent.kv)))(nd:(E.map Ent.ns).Nodup){e:Ent}(he:e∈E)(hb:H b=some (.tup (e.ns.map V.int))):DGet H d (.ref b) (some (.ref e.c)):=
 .inr ⟨_,LwD.ik e.ns,b,h,rfl,by rw[LwD.xB];exact hb,(val_in nd he).symm⟩
theorem FQ.get{H:Hp}{d b:Addr}{aa:Nat}{z:Sz}{E:List Ent}(h:FQ H d aa z E){e:Ent}(he:e∈E)(hb:H b=some (.tup (e.ns.map V.int))):DGet H d (.ref b) (some (.ref e.c)):=VW h.rd h.db.nd he hb
theorem CU(E:List Ent):∀p∈E.map Ent.kv,∃ns:List Int,p.1=LwD.ik ns:=λp hp=>by
 obtain⟨e,_,rfl⟩:=tF.mp hp;exact⟨e.ns,rfl⟩
theorem DB.keyS{H:Hp}{aa:Nat}{z:Sz}{E:List Ent}(h:DB H aa z E)(hD:z.D<=8):∀p∈E.map Ent.kv,LwD.KeyS aa p.1:=λp hp=>by
 obtain⟨e,he,rfl⟩:=tF.mp hp;have k:=h.each e he;exact⟨e.ns,rfl,k.len,k.nn,by have:=k.deg;omega⟩
theorem EZ{d:Addr}{o:Obj}{E:List Ent}{ys:List V}{g:TG}{tb:TS}{D:Ends}{σ:L2.St}{H H0:Hp}(ks:LwD.Keyed H0 ys (E.map Ent.kv))(Pv:Nat->L2.St->Hp->Prop)(h0:Pv 0 σ H)(hl:∀i σ H,Pv i σ H->H d=some (.frz o (.dT (E.map Ent.kv)))/\Kp H0 H)
  (hs:∀i e b σ H,E[i]? = some e->e∈E->H b=some (.tup (e.ns.map V.int))->Pv i σ H->g (.ref b) σ H fun σ2 H2=>tb { D with nx:=Pv (i+1),ct:=Pv (i+1),bk:=D.nx } σ2 H2) (hd:∀σ H,Pv E.length σ H->D.nx σ H) :
  ∃W:Nat->Nat->L2.St->Hp->Prop,(∃m,W 0 m σ H)/\∀i m σ H,W i m σ H->
   ((LwD.Itk d o (E.map Ent.kv) ys).stop i H/\D.nx σ H)∨((LwD.Itk d o (E.map Ent.kv) ys).go i H/\∃N:L2.St->Hp->Prop,(∀σ' H',N σ' H'->∃m',m'<m/\W (i+1) m' σ' H')/\∀x H',(LwD.Itk d o (E.map Ent.kv) ys).yld i H x H'->g x σ H' fun σ2 H2=>tb { D with nx:=N,ct:=N,bk:=D.nx } σ2 H2):=by
 have lk:ys.length=E.length:=by rw[ks.1,mZ]
 refine LwD.YI Pv h0 (λi σ H h=>(hl i σ H h).1) (λi x σ H hx h=>?_) (fun σ H h=>hd σ H (by rw[<-lk];exact h));have hi:i<E.length:=by rw[<-lk];exact(gC.mp hx).1
 obtain⟨e,he⟩:∃e,E[i]? = some e:=⟨E[i],by simp [hi]⟩;obtain⟨b,ns',rfl,hb,hns⟩:=ks.2 i x e.kv hx (by rw[mH,he];rfl);have ens:e.ns=ns':=EX hns;subst ens;exact hs i e b σ H he (gQ he) ((hl i σ H h).2.tup _ _ hb) h
theorem CN{E:List Ent}{i:Nat}{e:Ent}(he:E[i]? = some e):pl (E.take (i+1))=pl (E.take i)++[e.pr]:=by
 rw[mJ,he];unfold pl;rw[nA]
 rfl
theorem JK{E:List Ent}{i:Nat}{e:Ent}(he:E[i]? = some e):((E.take (i+1)).map Ent.k).sum=((E.take i).map Ent.k).sum+e.k:=by
 rw[mJ,he,nA,List.sum_append]
 rfl
theorem ks_le(E:List Ent)(i:Nat):((E.take i).map Ent.k).sum<=(E.map Ent.k).sum:=by
 conv=>rhs;rw[<-List.take_append_drop i E,nA,List.sum_append]
 exact Nat.le_add_right ..
theorem jZ{H H':Hp}{l:Addr}{o:HO}(s:Same H H')(n:H l=none):Same H (upd H' l o):=λc u h=>by
 rw[jO (kM h n)];exact s c u h
structure CmI(F:Nat->List V)(q:Addr)(H1:Hp)(i:Nat)(ys:List V)(H2:Hp):Prop where
 s:Same H1 H2
 e:H2 q=some (.lst ys)
 y:ys=F i
def IG(K:dD):Sp:=λvs H Q _=>∃(p q:Addr) (t b o u:Int),vs=[.ref p,.ref q]/\SqT K H p [.int t,.int b]/\SqT K H q [.int o,.int u]/\t.natAbs<2^50000/\b.natAbs<2^50000/\o.natAbs<2^50000/\u.natAbs<2^50000/\
 ∀(r:Addr) (H':Hp),H r=none->Same H H'->At2 H' r (t*o) (b*u)->Q (.ref r) H'
def spLike:Sp:=λvs H Q _=>∃(p q:Addr) (t b o u:Int),vs=[.ref p,.ref q]/\At2 H p t b/\At2 H q o u/\t.natAbs<2^50000/\b.natAbs<2^50000/\o.natAbs<2^50000/\u.natAbs<2^50000/\Q (.bl (decide (t*u=o*b))) H
theorem qG(a b:Int):decide (V.int a=V.int b)=decide (a=b):=by
 by_cases h:a=b
 ·rw[h];simp
 ·rw[nB h,nB];intro z;injection z with z
  exact h z
theorem scLMul:FnScope ["one","other"] ["one","other"] (jM FW):=⟨rfl,rfl,rfl,by decide +kernel,rfl,by decide +kernel,by decide +kernel⟩
theorem ok_lmul(F:Fun K "_law_mul" "_law_mul" FW f fd):FnOk P w K mg base CX0 1 f fd ["one","other"] (IG K):=by
 refine F.ok scLMul (λvs H Q E h=>?_) (λcdv A outer s H vs Q E hr h=>?_)
 ·obtain⟨p,q,t,b,o,u,rfl,_⟩:=h
  rfl
 ·obtain⟨p,q,t,b,o,u,rfl,hp,hq,st,sb,so,su,k⟩:=h;refine⟨_,jF (jU (jT (jA (jJ qC (jN jS (pv 0) jB (λ_ _=>rfl)) (jN jS (pv 1) jB (λ_ _=>rfl))) (jA (jJ qC (jN jS (pv 0) jB (λ_ _=>rfl)) (jN jS (pv 1) jB (λ_ _=>rfl))) jC)))), ?_⟩;try dsimp only[cxK]
  have up:∀{a:Int},a.natAbs<2^50000->a.natAbs<2^100000:=λh=>kK h (by decide);exact rvT rfl hp rfl (rvT rfl hq rfl ⟨_,_,rfl,rfl,⟨up st,up so⟩,rvT rfl hp rfl (rvT rfl hq rfl ⟨_,_,rfl,rfl,⟨up sb,up su⟩,uX,k⟩)⟩)
theorem scLike:FnScope ["one","other"] ["one","other"] (jM KK):=⟨rfl,rfl,rfl,by decide +kernel,rfl,by decide +kernel,by decide +kernel⟩
theorem ok_like(F:Fun K "_law_like" "_law_like" KK f fd):FnOk P w K mg base CX0 1 f fd ["one","other"] spLike:=by
 refine F.ok scLike (λvs H Q E h=>?_) (λcdv A outer s H vs Q E hr h=>?_)
 ·obtain⟨p,q,t,b,o,u,rfl,_⟩:=h
  rfl
 ·obtain⟨p,q,t,b,o,u,rfl,hp,hq,st,sb,so,su,k⟩:=h;refine⟨_,jF (jU (xK yH (jJ qC (jN jS (pv 0) jB (λ_ _=>rfl)) (jN jS (pv 1) jB (λ_ _=>rfl))) (jJ qC (jN jS (pv 1) jB (λ_ _=>rfl)) (jN jS (pv 0) jB (λ_ _=>rfl))) (jW _))), ?_⟩;try dsimp only[cxK]
  have up:∀{a:Int},a.natAbs<2^50000->a.natAbs<2^100000:=λh=>kK h (by decide);refine rvT rfl (SqT.of hp) rfl (rvT rfl (SqT.of hq) rfl ⟨_,_,rfl,rfl,⟨up st,up su⟩,rvT rfl (SqT.of hq) rfl (rvT rfl (SqT.of hp) rfl ⟨_,_,rfl,rfl,⟨up so,up sb⟩,rfl, ?_⟩)⟩);rw[qG];exact k
theorem VO{p:Addr}{H H1 H2:Hp}(s:Same H H1)(b:But p H1 H2)(n:H p=none):Same H H2:=λc o h=>b _ _ (s _ _ h) (λz=>by rw[z,n]at h;cases h)
def spAdded:Sp:=λvs H Q _=>∃(d1 d2:Addr) (aa:Nat) (z y:Sz) (E1 E2:List Ent) (B1 B2:List Int->Nat),vs=[.ref d1,.ref d2]/\FQ H d1 aa z E1/\FQ H d2 aa y E2/\1<=aa/\aa<=4/\y.D<=z.D/\y.v<=z.v/\z.D<=8/\KB B1 E1/\KB B2 E2/\(∀m,B1 m<=40000)/\(∀m,B2 m<=7900)/\z.v+y.n<=4000/\z.n+y.n<=1000/\
 ∀(p:Addr) (E':List Ent) (H':Hp),H p=none->Same H H'->H' p=some (.dT (E'.map Ent.kv))->DB H' aa ⟨z.D,z.v+y.n,z.S+y.S,z.n+y.n⟩ E'->KB (λm=>B1 m+B2 m) E'->(∀m,cf (pl E') m=cf (pl E1) m+cf (pl E2) m)->Q (.ref p) H'
inductive AdI(H H1:Hp)(d1 d2 p:Addr)(aa:Nat)(z:Sz)(E1 E2:List Ent)(B1 B2:List Int->Nat)(i:Nat):L2.St->Hp->Prop where
 | mk {u:Option V} {H':Hp} {E':List Ent} (s:Same H H') (k:Kp H1 H') (e:H' p=some (.dT (E'.map Ent.kv))) (db:DB H' aa ⟨z.D,z.v+i,z.S+((E2.take i).map Ent.k).sum,z.n+i⟩ E') (kb:KB (λm=>B1 m+if m∈(E2.take i).map Ent.ns then B2 m else 0) E') (c:∀m,cf (pl E') m=cf (pl E1) m+cf (pl (E2.take i)) m):AdI H H1 d1 d2 p aa z E1 E2 B1 B2 i [some (.ref d1),some (.ref d2),some (.ref p),u] H'
theorem KA{t b:Int}{v v':Nat}(h:t.natAbs<=2^v*b.natAbs)(k:v<=v'):t.natAbs<=2^v'*b.natAbs:=tD h (gU _ (gS (by decide) k))
theorem JD{E:List Ent}{i:Nat}{e:Ent}(nd:(E.map Ent.ns).Nodup)(he:E[i]? = some e):e.ns∉(E.take i).map Ent.ns:=λh=>by
 rw[nY]at h;obtain⟨j,hj⟩:=gO.mp h;have hi:i<E.length:=(gC.mp he).1;have hji:j<i:=by
  have:=(gC.mp hj).1;rw[mR]at this;omega
 rw[gF hji]at hj;have g2:(E.map Ent.ns)[i]? = some e.ns:=by rw[mH,he];rfl
 have:=(List.getElem?_inj (by rw[mZ];omega) nd).mp (hj.trans g2.symm);omega
theorem scAdded:FnScope ["one","other","found","powers"] ["one","other"] (jM IS):=⟨rfl,rfl,rfl,by decide +kernel,rfl,by decide +kernel,by decide +kernel⟩
theorem ok_ladd{fT:Addr}{fdT:FuncData}(F:Fun K "_law_added" "_law_added" IS f fd)(T:Txt mg)(DT:Df K mg "_law_put" NE ["found","powers","number"] fT fdT)(GT:FnOk P w K mg base CX0 2 fT fdT ["found","powers","number"] spPut):FnOk P w K mg base CX0 3 f fd ["one","other"] spAdded:=by
 refine F.ok scAdded (λvs H Q E h=>?_) (λcdv A outer s H vs Q E hr h=>?_)
 ·obtain⟨d1,d2,aa,z,y,E1,E2,B1,B2,rfl,_⟩:=h
  rfl
 ·obtain⟨d1,d2,aa,z,y,E1,E2,B1,B2,rfl,h1,h2,m1,m4,hyD,hyv,hD,kb1,kb2,hb1,hb2,hv,hn,go⟩:=h;have hu:_+1<cLine:=hJ (Nat.add_le_add_left (by decide:1<=64) _) hr.units;refine⟨_,jD (jP (i:=2) scAdded.nd rfl (Or.inl rfl) (kL LwD.FH (by rfl) T.dct boot_dict (jA (pv 0) jC)))
   (jD (qM PassesOwn.never rfl (LwD.CO (pv 1)) (jI (i:=3) scAdded.nd rfl (Or.inl rfl))
    (jF (xJ (jG GT hr rfl DT.m DT.F.kp DT.b .nil jR (jA (pv 2) (jA (pv 3) (jA (yU hu (pv 1) (pv 3) (λ_ _=>rfl)) jC)))))))
   (jF (jU (pv 2)))), ?_⟩
  try dsimp only[cxK]
  refine⟨_,rfl,d1,aa,_,rfl,h1.rd,m1,m4,h1.db.keyS hD,λp H1 n1 s1 e1=>?_⟩;obtain⟨o2,f2⟩:=(h2.kp (Kp.of s1)).fr;refine⟨_,rfl,d2,o2,_,rfl,f2,CU E2,λks hks=>?_⟩;refine EZ hks (AdI H H1 d1 d2 p aa z E1 E2 B1 B2) (.mk s1 (Kp.of (Same.refl _)) e1 ((h1.db.kp (Kp.of s1)).up uU uU (Nat.le_add_right ..) uU) (kb1.up λm=>Nat.le_add_right ..) λm=>by show _=_+(0:Rat);grind) (λi σ H2 h=>?_) (λi e b σ H2 he eM hb h=>?_) (fun σ H2 h=>?_)
  ·obtain⟨s2,k,e2,db,kb,c⟩:=h;exact⟨k.frz _ _ _ f2,k⟩
  ·obtain⟨s2,k,e2,db,kb,c⟩:=h;have kE:=(h2.db.each e eM).kp (Kp.of s2);have hk:=h2.db.k eM;have ss:=JK he;have sl:=ks_le E2 (i+1);have sm:=h2.db.sum;have hi:i<E2.length:=(gC.mp he).1;have fw:=h2.db.few;refine⟨_,rfl,_,rfl,_,rfl,_,rfl,d2,_,rfl,(h2.kp (Kp.of s2)).get eM hb,p,b,e.c,e.ns,e.t,e.b,aa,e.k,_,_,_,rfl,e2,db,kb, ?_, ?_, ?_, ?_,hb,kE.len,kE.nn, ?_,kE.at',kE.pos,kE.sb,KA kE.st ?_,λE' H3 b3 e3 db3 kb3 c3=>?_⟩
   ·show B1 e.ns+_<=40000;rw[dA (JD h2.db.nd he)];exact hb1 e.ns
   ·exact tD (kb2 e eM) (hb2 _)
   ·show z.v+i<=4000;omega
   ·show z.n+i<=1000;omega
   ·show _<=((z.D:Nat):Int);have:=kE.deg;omega
   ·show y.v<=z.v+i;omega
   ·refine .mk (VO s2 b3 n1) (k.trans (Kp.but b3 e2 trivial)) e3 ?_ (kb3.up λm=>?_) λm=>?_
    ·rw[ss];exact db3.up uU uU (by show z.S+_+e.k<=z.S+(_+e.k);omega) uU 
    ·show B1 m+_+_<=B1 m+_;rw[mJ,he,nA];by_cases q:m=e.ns
     ·rw[dC q,dC (gL _ (by rw[q];exact mF ..)),q,dA (JD h2.db.nd he)];have:=kb2 e eM;omega
     ·rw[dA q];by_cases r:m∈(E2.take i).map Ent.ns
      ·rw[dC r,dC (List.mem_append_left _ r)];exact tP _
      ·rw[dA r];omega
    ·rw[c3,c,CN he,zZ];show _=_+(_+((if e.ns=m then(e.t:Rat)/(e.b:Rat)else 0)+0))
     grind
  ·obtain⟨s2,k,e2,db,kb,c⟩:=h;rw[mT]at db c;exact⟨_,rfl,go p _ H2 n1 s2 e2 (db.up uU (by show z.v+E2.length<=z.v+y.n;have:=h2.db.few;omega) (by show z.S+_<=z.S+y.S;have:=h2.db.sum;omega) (by show z.n+E2.length<=z.n+y.n;have:=h2.db.few;omega)) (kb.up λm=>by split<;>omega) c⟩
theorem IA{X:Cx}{scope:Scope}{own j0 j1:Nat}{N:List Str}{x0 x1:Str}(h0:N[own]? = some x0)(h1:N[own+1]? = some x1)(a:X.N[j0]? = some x0/\X.env.kindOf x0=some .cell/\(relabel scope X.env).names.lookup x0=some .cell/\X.env.scope.names.lookup x0=some .cell)
  (b:X.N[j1]? = some x1/\X.env.kindOf x1=some .cell/\(relabel scope X.env).names.lookup x1=some .cell/\X.env.scope.names.lookup x1=some .cell) :
  ∀(k j:Nat) (x:Str),[j0,j1][k]? = some j->N[own+k]? = some x->X.N[j]? = some x/\X.env.kindOf x=some .cell/\(relabel scope X.env).names.lookup x=some .cell/\X.env.scope.names.lookup x=some .cell:=by
 intro k j x e1 e2
 match k,e1,e2 with
 | 0,e1,e2=>
  cases e1;rw[tN,h0]at e2;cases e2;exact a
 | 1,e1,e2=>
  cases e1;rw[h1]at e2;cases e2;exact b
 | k+2,e1,_=>cases e1
theorem EQ{a b c d x y:Nat}(h1:a<=2^x*b)(h2:c<=2^y*d):a*c<=2^(x+y)*(b*d):=by
 rw[tU]
 calc a*c<=2^x*b*(2^y*d):=nK h1 h2
  _=2^x*2^y*(b*d):=by grind
def KD(K:dD):Sp:=λvs H Q _=>∃(d q:Addr) (aa j x:Nat) (z:Sz) (E:List Ent) (o u:Int) (B:List Int->Nat),vs=[.ref d,.ref q]/\FQ H d aa z E/\SqT K H q [.int o,.int u]/\0<u/\u.natAbs<=2^j/\o.natAbs<=2^x*u.natAbs/\KB B E/\(∀m,B m<=40000)/\z.v<=4000/\z.n<=1000/\j<=7900/\x<=4000/\
 ∀(p:Addr) (E':List Ent) (H':Hp),H p=none->Same H H'->H' p=some (.dT (E'.map Ent.kv))->DB H' aa ⟨z.D,z.v+x,z.S+z.n*j,z.n⟩ E'->KB (λm=>B m+j) E'->(∀m,cf (pl E') m=(o:Rat)/(u:Rat)*cf (pl E) m)->(o = -1->u=1->pl E'=(pl E).map λx=>(x.1,-1*x.2))->Q (.ref p) H'
inductive ScI(H H1:Hp)(d q p:Addr)(aa j x:Nat)(z:Sz)(o u:Int)(E:List Ent)(B:List Int->Nat)(i:Nat):L2.St->Hp->Prop where
 | mk {v:Option V} {H':Hp} {E':List Ent} (s:Same H H') (k:Kp H1 H') (e:H' p=some (.dT (E'.map Ent.kv))) (db:DB H' aa ⟨z.D,z.v+x,((E.take i).map Ent.k).sum+i*j,i⟩ E') (kb:KB (λm=>B m+j) E') (ky:∀n∈E'.map Ent.ns,n∈(E.take i).map Ent.ns) (c:∀m,cf (pl E') m=(o:Rat)/(u:Rat)*cf (pl (E.take i)) m)
   (ng:o = -1->u=1->pl E'=(pl (E.take i)).map λx=>(x.1,-1*x.2)):ScI H H1 d q p aa j x z o u E B i [some (.ref d),some (.ref q),some (.ref p),v] H'
theorem scScaled:FnScope ["one","number","found","powers"] ["one","number"] (jM CD):=⟨rfl,rfl,rfl,by decide +kernel,rfl,by decide +kernel,by decide +kernel⟩
theorem SX{fM:Addr}{fdM:FuncData}(F:Fun K "_law_scaled" "_law_scaled" CD f fd)(DM:Df K mg "_law_mul" FW ["one","other"] fM fdM)(GM:FnOk P w K mg base CX0 1 fM fdM ["one","other"] (IG K)):FnOk P w K mg base CX0 2 f fd ["one","number"] (KD K):=by
 refine F.ok scScaled (λvs H Q E h=>?_) (λcdv A outer s H vs Q E hr h=>?_)
 ·obtain⟨d,q,aa,j,x,z,E1,o,u,B,rfl,_⟩:=h
  rfl
 ·obtain⟨d,q,aa,j,x,z,EE,o,u,BB,rfl,h1,hq,pu,su,so,kB,hS,hv,hn,hj,hx,go⟩:=h;have hu:_+1<cLine:=hJ (Nat.add_le_add_left (by decide:1<=64) _) hr.units;refine⟨_,jD (jP (i:=2) scScaled.nd rfl (Or.inl rfl) AH)
   (jD (qM PassesOwn.never rfl (LwD.CO (pv 0)) (jI (i:=3) scScaled.nd rfl (Or.inl rfl))
    (jF (kS (jV yG (jN jS (pv 1) jB (λ_ _=>rfl)) jB (jW _))
     (jF (AE hu (pv 2) (pv 3) (jG GM hr rfl DM.m DM.F.kp DM.b .nil jR (jA (yU hu (pv 0) (pv 3) (λ_ _=>rfl)) (jA (pv 1) jC))) rfl)) kD)))
   (jF (jU (pv 2)))), ?_⟩
  try dsimp only[cxK]
  intro p np;have s1:Same H (upd H p (.dT [])):=jY _ np;generalize hH1:upd H p (.dT [])=H1 at s1;have e1:H1 p=some (.dT (([]:List Ent).map Ent.kv)):=hH1▸jE;obtain⟨o2,f2⟩:=(h1.kp (Kp.of s1)).fr;have few:=h1.db.few;refine⟨_,rfl,d,o2,_,rfl,f2,CU EE,λks hks=>?_⟩;refine EZ hks (ScI H H1 d q p aa j x z o u EE BB) (.mk s1 (Kp.of (Same.refl _)) e1 ⟨nN,(λe h=>nomatch h),tQ _,tQ _⟩ (λn h=>nomatch h) (λn h=>nomatch h) (λm=>by show(0:Rat)=_*0;grind) λ_ _=>rfl) (λi σ H2 h=>?_) (λi e b σ H2 he eM hb h=>?_) (fun σ H2 h=>?_)
  ·obtain⟨s2,k,e2,db,kb,ky,c,ng⟩:=h;exact⟨k.frz _ _ _ f2,k⟩
  ·obtain⟨s2,k,e2,db,kb,ky,c,ng⟩:=h;rename_i E0;have kE:=h1.db.each e eM;have ke:=tD (kB e eM) (hS e.ns);have hi:i<EE.length:=(gC.mp he).1;have sk:=JK he;refine rvT rfl (kI s2 hq) rfl ⟨rfl,_,rfl, ?_⟩;rw[qG];by_cases o0:o=0
   ·refine vA (by rw[nH o0];rfl) ?_;refine .mk s2 k e2 (db.up uU uU (by show((EE.take i).map Ent.k).sum+i*j<=((EE.take (i+1)).map Ent.k).sum+(i+1)*j;rw[sk,Nat.succ_mul];omega) (Nat.le_succ _)) kb (λn hn'=>?_) (λm=>?_) λh=>by omega
    ·rw[mJ,nA];exact List.mem_append_left _ (ky n hn')
    ·rw[c,o0];show((0:Int):Rat)/_*_=((0:Int):Rat)/_*_
     grind
   ·refine xP (by rw[nB o0];rfl) ?_;refine⟨_,rfl,_,rfl,d,_,rfl,(h1.kp (Kp.of s2)).get eM hb,_,rfl,e.c,q,e.t,e.b,o,u,rfl,SqT.of ((h1.kp (Kp.of s2)).db.each e eM).at',kI s2 hq,vQ kE.st kE.sb (by omega),vD kE.sb (by omega),vQ so su (by omega),vD su (by omega),λr H3 n3 s3 e3=>?_⟩;have nw:e.ns∉E0.map Ent.ns:=λhh=>JD h1.db.nd he (ky e.ns hh);have hd3:=s3 _ _ e2;have kz:(List.map Ent.kv E0).length<sizeLine:=hJ (by rw[mZ];exact tD db.few (show i<=1000 by omega)) (by decide);refine⟨_,rfl,_,rfl,p,_,rfl,DPut.t (k:=LwD.ik e.ns) hd3 (by rw[LwD.xB];exact s3 _ _ hb) kz, ?_⟩;have k3:Kp H2 (upd H3 p (.dT (zF (List.map Ent.kv E0) (LwD.ik e.ns) (.ref r)))):=(Kp.of s3).trans (Kp.upd hd3 trivial);have rp:r≠p:=λzz=>by rw[zz,e2]at n3;cases n3
    have em:((e.t*o:Int):Rat)/((e.b*u:Int):Rat)=(o:Rat)/(u:Rat)*((e.t:Rat)/(e.b:Rat)):=by
     rw[nE,nE]
     grind
    refine .mk (E':=E0++[⟨e.ns,r,e.t*o,e.b*u,e.k+j⟩]) (jZ (s2.trans s3) np) (k.trans k3) ?_ ⟨?_,λy hy=>?_, ?_, ?_⟩ (λy hy=>?_) (λn hn'=>?_) (λm=>?_) λh1 h2=>?_
    ·rw[jE,CM (xO nw),nA]
     rfl
    ·rw[nA,mN];refine⟨db.nd,by simp,λa ha b hb=>?_⟩;have:b=e.ns:=by simpa using hb
     rintro rfl;rw[this]at ha;exact nw ha
    ·rcases nC.mp hy with hy | hy
     ·exact(db.each y hy).kp k3
     ·rw[mC]at hy;subst hy;refine⟨kE.len,kE.nn,kE.deg,by show At2 _ r _ _;rw[At2,jO rp];exact e3,tR kE.pos pu,Int.mul_ne_zero kE.nz o0, ?_, ?_⟩
      ·show(e.b*u).natAbs<=2^(e.k+j);rw[nI,tU];exact nK kE.sb su
      ·show(e.t*o).natAbs<=2^(z.v+x)*(e.b*u).natAbs;rw[nI,nI];exact EQ kE.st so
    ·rw[nA,List.sum_append,sk];have:=db.sum;show _+(e.k+j+0)<=_+e.k+(i+1)*j;rw[Nat.succ_mul];have:(List.map Ent.k E0).sum<=((EE.take i).map Ent.k).sum+i*j:=db.sum;omega
    ·rw[hU];exact Nat.succ_le_succ db.few
    ·rcases nC.mp hy with hy | hy
     ·exact kb y hy
     ·rw[mC]at hy;subst hy;have:=kB e eM;show e.k+j<=BB e.ns+j;omega
    ·rw[mJ,he,nA];rw[nA]at hn';rcases nC.mp hn' with hn' | hn'
     ·exact List.mem_append_left _ (ky n hn')
     ·exact gL _ hn'
    ·rw[CN he,zZ,pl,nA,zZ];have:=c m;unfold pl at this;rw[this];show _+((if e.ns=m then((e.t*o:Int):Rat)/((e.b*u:Int):Rat)else 0)+0)=_*(_+((if e.ns=m then(e.t:Rat)/(e.b:Rat)else 0)+0));rw[em];unfold pl;split<;>grind
    ·rw[CN he,pl,nA,nA];have:=ng h1 h2;unfold pl at this;rw[this];unfold pl
     congr 1
     show [(e.ns,((e.t*o:Int):Rat)/((e.b*u:Int):Rat))]=[(e.ns,-1*((e.t:Rat)/(e.b:Rat)))];rw[em,h1,h2]
     congr 2
     show((-1:Int):Rat)/((1:Int):Rat)*_=_;have e1:((-1:Int):Rat) = -1:=rfl;have e2:((1:Int):Rat)=1:=rfl;rw[e1,e2]
     grind
  ·obtain⟨s2,k,e2,db,kb,ky,c,ng⟩:=h;rw[mT]at db c ng;refine⟨_,rfl,go p _ H2 np s2 e2 (db.up uU uU ?_ few) kb c ng⟩;have:=h1.db.sum;have:=gU j few;show(EE.map Ent.k).sum+EE.length*j<=z.S+z.n*j;omega
def spSame:Sp:=λvs H Q _=>∃(d1 d2:Addr) (aa:Nat) (z y:Sz) (E1 E2:List Ent) (B1 B2:List Int->Nat),vs=[.ref d1,.ref d2]/\FQ H d1 aa z E1/\FQ H d2 aa y E2/\KB B1 E1/\KB B2 E2/\(∀m,B1 m<=40000)/\z.v<=4000/\z.n<=1000/\(∀m,B2 m<=40000)/\y.v<=4000/\
 ∀(b:Bool) (H':Hp),Same H H'->(b=true↔∀m,cf (pl E1) m=cf (pl E2) m)->Q (.bl b) H'
def okE(E2:List Ent)(e:Ent):Bool:=match E2.find? λe2=>decide (e2.ns=e.ns)with
 | some e2=>decide (e.t*e2.b=e2.t*e.b)
 | none=>false
theorem NS{E2:List Ent}(nd:(E2.map Ent.ns).Nodup){e e2:Ent}(h2:e2∈E2)(h:e2.ns=e.ns):okE E2 e=decide (e.t*e2.b=e2.t*e.b):=by
 unfold okE;have:E2.find? (λe2=>decide (e2.ns=e.ns))=some e2:=by
  obtain⟨L,R,rfl⟩:=List.append_of_mem h2;rw[nA,nQ]at nd;rw[List.find?_append,List.find?_eq_none.mpr λx hx=>by
   have:x.ns≠e.ns:=λz=>(mN.mp nd).2.2 x.ns (List.mem_map_of_mem hx) e2.ns (mF ..) (z.trans h.symm);simp [this]]
  simp [h]
 rw[this]
theorem QA{E2:List Ent}{e:Ent}(h:e.ns∉E2.map Ent.ns):okE E2 e=false:=by
 unfold okE;rw[List.find?_eq_none.mpr λx hx=>by
  have:x.ns≠e.ns:=λz=>h (tF.mpr ⟨x,hx,z⟩);simp [this]]
theorem JO{t b o u:Int}(hb:0<b)(hu:0<u):t*u=o*b↔(t:Rat)/(b:Rat)=(o:Rat)/(u:Rat):=by
 have h1:(b:Rat)≠0:=by simpa using (show b≠0 by omega)
 have h2:(u:Rat)≠0:=by simpa using (show u≠0 by omega)
 constructor
 ·intro h;have e:(t:Rat)*u=o*b:=by exact_mod_cast h
  grind
 ·intro h;have e:(t:Rat)*u=o*b:=by grind
  exact_mod_cast e
theorem DB.plnz{H:Hp}{aa:Nat}{z:Sz}{E:List Ent}(h:DB H aa z E){e:Ent}(he:e∈E):(e.t:Rat)/(e.b:Rat)≠0:=by
 have k:=h.each e he;have h1:(e.t:Rat)≠0:=by simpa using k.nz
 have h2:(e.b:Rat)≠0:=by simpa using (show e.b≠0 by have:=k.pos;omega)
 grind
theorem DB.cf{H:Hp}{aa:Nat}{z:Sz}{E:List Ent}(h:DB H aa z E){e:Ent}(he:e∈E):LwV.cf (pl E) e.ns=(e.t:Rat)/(e.b:Rat):=
 cf_one (P:=pl E) (by rw[AF];exact h.nd) (x:=e.pr) (List.mem_map_of_mem he)
theorem VN{H:Hp}{aa:Nat}{z y:Sz}{E1 E2:List Ent}(h1:DB H aa z E1)(h2:DB H aa y E2):(E1.length=E2.length/\E1.all (okE E2)=true)↔∀m,cf (pl E1) m=cf (pl E2) m:=by
 constructor
 ·rintro⟨hl,ha⟩ m;have sub:∀e∈E1,∃e2∈E2,e2.ns=e.ns/\(e.t:Rat)/(e.b:Rat)=(e2.t:Rat)/(e2.b:Rat):=λe he=>by
   have k:=List.all_eq_true.mp ha e he;by_cases hin:e.ns∈E2.map Ent.ns
   ·obtain⟨e2,m2,q⟩:=tF.mp hin;rw[NS h2.nd m2 q]at k;exact⟨e2,m2,q,(JO (h1.each e he).pos (h2.each e2 m2).pos).mp (mL k)⟩
   ·rw[QA hin]at k;cases k
  by_cases hm:m∈E1.map Ent.ns
  ·obtain⟨e,he,rfl⟩:=tF.mp hm;obtain⟨e2,m2,q,v⟩:=sub e he;rw[h1.cf he,v,<-q,h2.cf m2]
  ·have hm2:m∉E2.map Ent.ns:=λhm2=>by
    have:=ET (l:=m::E1.map Ent.ns) (m:=E2.map Ent.ns) (List.nodup_cons.mpr ⟨hm,h1.nd⟩) λx hx=>by
     rcases nT.mp hx with rfl | hx
     ·exact hm2
     ·obtain⟨e,he,rfl⟩:=tF.mp hx;obtain⟨e2,m2,q,v⟩:=sub e he;exact tF.mpr ⟨e2,m2,q⟩
    rw[mU,mZ,mZ]at this;omega
   rw[zY λx hx e=>hm (by rw[<-AF];exact tF.mpr ⟨x,hx,e⟩),zY λx hx e=>hm2 (by rw[<-AF];exact tF.mpr ⟨x,hx,e⟩)]
 ·intro h;have s12:∀n∈E1.map Ent.ns,n∈E2.map Ent.ns:=λn hn=>by
   obtain⟨e,he,rfl⟩:=tF.mp hn;rw[<-AF];refine cf_in ?_;rw[<-h,h1.cf he];exact h1.plnz he
  have s21:∀n∈E2.map Ent.ns,n∈E1.map Ent.ns:=λn hn=>by
   obtain⟨e,he,rfl⟩:=tF.mp hn;rw[<-AF];refine cf_in ?_;rw[h,h2.cf he];exact h2.plnz he
  have l1:=ET h1.nd s12;have l2:=ET h2.nd s21;rw[mZ,mZ]at l1 l2;refine⟨by omega,List.all_eq_true.mpr λe he=>?_⟩;obtain⟨e2,m2,q⟩:=tF.mp (s12 e.ns (List.mem_map_of_mem he));rw[NS h2.nd m2 q];refine nH ((JO (h1.each e he).pos (h2.each e2 m2).pos).mpr ?_);rw[<-h1.cf he,<-h2.cf m2,q,h]
theorem UF{d:Addr}{o:Obj}{E:List Ent}{ks:List V}{σ0:L2.St}{g:TG}{te:TE}{Q:VK}{p:Addr}{H' H0:Hp}(hks:LwD.Keyed H0 ks (E.map Ent.kv))(F:Ent->V)(hz:E.length<=1000)(n0:H0 p=none)(s0:Same H0 H')(e0:H' p=some (.lst []))
  (fr:H0 d=some (.frz o (.dT (E.map Ent.kv))))
  (hs:∀e b H2 (R:VK),e∈E->Same H0 H2->H2 b=some (.tup (e.ns.map V.int))->(∀H5,Same H2 H5->R (F e) H5)->g (.ref b) σ0 H2 fun σ4 H4=>Keep σ0 σ4/\te σ4 H4 R)
  (hd:∀H2,Same H0 H2->H2 p=some (.lst (E.map F))->Q (.ref p) H2):CompGoF σ0 (LwD.Itk d o (E.map Ent.kv) ks) g te Q p H':=by
 have lk:ks.length=E.length:=by rw[hks.1,mZ]
 refine DF (xs:=ks) (CmI (λi=>(E.take i).map F) p H0) (by rw[lk];exact hJ hz (by decide)) ⟨s0,e0,rfl⟩ (λi ys H2 h hi=>⟨⟨h.s _ _ fr,hi⟩,λx H3 y=>y⟩) (λys H2 h=>⟨h.s _ _ fr,rfl⟩) (λi ys H2 h=>h.e) ?_ ?_
 ·rintro i m ys x H2 hx hm hy ⟨s2,e2,ey⟩;have hi:i<E.length:=by rw[<-lk];exact(gC.mp hx).1
  obtain⟨e,he⟩:∃e,E[i]? = some e:=⟨E[i],by simp [hi]⟩;obtain⟨b,ns',rfl,hb,hns⟩:=hks.2 i x e.kv hx (by rw[mH,he];rfl);have ens:e.ns=ns':=EX hns;subst ens;refine hs e b H2 _ (gQ he) s2 (s2 _ _ hb) λH5 s5=>qB hx hm hy (s5 _ _ e2) ⟨jZ (s2.trans s5) n0,jE, ?_⟩;rw[ey,mJ,he,nA]
  rfl
 ·rintro ys H2 hy ⟨s2,e2,ey⟩;rw[lk,mT]at ey;exact hd H2 s2 (ey▸e2)
theorem keep1t{a b:Option V}{x:Option V} :Keep [none,a,b] [x,a,b]:=zJ
theorem scSame:FnScope ["one","other"] ["one","other"] (jM OW):=⟨rfl,rfl,rfl,by decide +kernel,rfl,by decide +kernel,by decide +kernel⟩
theorem ok_same{fL:Addr}{fdL:FuncData}(F:Fun K "_law_same" "_law_same" OW f fd)(T:Txt mg)(DL:Df K mg "_law_like" KK ["one","other"] fL fdL)(GL:FnOk P w K mg base CX0 1 fL fdL ["one","other"] spLike):FnOk P w K mg base CX0 2 f fd ["one","other"] spSame:=by
 refine F.ok scSame (λvs H Q E h=>?_) (λcdv A outer s H vs Q E hr h=>?_)
 ·obtain⟨d1,d2,aa,z,y,E1,E2,B1,B2,rfl,_⟩:=h
  rfl
 ·obtain⟨d1,d2,aa,z,y,E1,E2,B1,B2,rfl,h1,h2,kb1,kb2,hS,hv,hn,hS2,hv2,go⟩:=h;have hu:_+1<cLine:=hJ (Nat.add_le_add_left (by decide:1<=64) _) hr.units;refine⟨_,jD (kS (jV yG (kO HP (by rfl) T.len PySem.boot_len (jA (pv 0) jC)) (kO HP (by rfl) T.len PySem.boot_len (jA (pv 1) jC)) (jW _)) (jF (jU wB)) kD)
   (jF (jU (kO (MH rfl) (by rfl) T.all boot_all (jA
    (vL (own:=1) (idx:=[0,1]) (N:=["powers","one","other"]) rfl rfl rfl (by decide +kernel) (by decide +kernel) (λ_ _ h=>h) (vC rfl) rfl (IA rfl rfl ⟨rfl,rfl,rfl,rfl⟩ ⟨rfl,rfl,rfl,rfl⟩) (LwD.CO (pv 0))
     (λC fp s2 H2=>jI (i:=0) (show List.Nodup (["powers","one","other"]:List Str) by decide +kernel) rfl (Or.inl rfl) (Or.inr rfl))
     (λC fp s2 H2=>JB (pe_cmp (WH hu (pv 0) (pv 2))) (JA (jG GL hr rfl DL.m DL.F.kp DL.b .nil jR (jA (yU hu (pv 1) (pv 0) (λ_ _=>rfl)) (jA (yU hu (pv 2) (pv 0) (λ_ _=>rfl)) jC)))))) jC)))), ?_⟩
  try dsimp only[cxK]
  have iff:=VN h1.db h2.db;refine⟨_,rfl,d1,_,rfl,h1.rd,_,rfl,d2,_,rfl,h2.rd,rfl,_,rfl, ?_⟩;rw[qG,mZ,mZ];by_cases hl:E1.length=E2.length
  ·refine vA (by simp [hl]) ?_;obtain⟨o1,f1⟩:=h1.fr;refine⟨_,rfl,d1,o1,_,rfl,f1,CU E1,λks hks p H1 n1 s1 e1=>?_⟩;refine UF hks (λe=>V.bl (okE E2 e)) (tD h1.db.few hn) n1 s1 e1 f1 (λe b H2 R he s2 hb kr=>?_) λH2 s2 e2=>?_
   ·have g1:=(h1.kp (Kp.of s2)).get he hb;have k1:=(h1.kp (Kp.of s2)).db.each e he;have hz1:=tD (kb1 e he) (hS _);refine⟨keep1t, ?_⟩;by_cases hin:e.ns∈E2.map Ent.ns
    ·obtain⟨e2,m2,q⟩:=tF.mp hin;have k2:=(h2.kp (Kp.of s2)).db.each e2 m2;have hz2:=tD (kb2 e2 m2) (hS2 _);have g2:=(h2.kp (Kp.of s2)).get m2 (by rw[q];exact hb);refine⟨_,rfl,_,rfl,d2,_,rfl,g2,_,rfl,NY ?_⟩;refine⟨_,rfl,_,rfl,d1,_,rfl,g1,_,rfl,_,rfl,d2,_,rfl,g2,e.c,e2.c,e.t,e.b,e2.t,e2.b,rfl,k1.at',k2.at',vQ k1.st k1.sb (by omega),vD k1.sb (by omega),vQ k2.st k2.sb (by omega),vD k2.sb (by omega), ?_⟩;rw[<-NS h2.db.nd m2 q];exact kr H2 (Same.refl _)
    ·have g2:DGet H2 d2 (.ref b) none:=.inr ⟨_,LwD.ik e.ns,b,(h2.kp (Kp.of s2)).rd,rfl,by rw[LwD.xB];exact hb,(HX (xO hin)).symm⟩;refine⟨_,rfl,_,rfl,d2,_,rfl,g2,_,rfl,yR ?_⟩;have:=kr H2 (Same.refl _);rw[QA hin]at this;exact this
   ·refine⟨p,E1.map (okE E2),rfl,SqL.of (by rw[e2,tK];rfl), ?_⟩;refine go _ H2 s2 ?_;rw[List.all_map,<-iff];exact⟨λh=>⟨hl,h⟩,λh=>h.2⟩
  ·refine xP (by rw[nB (by omega)];rfl) (go false H (Same.refl _) ?_);rw[<-iff];exact⟨(λh=>nomatch h),λh=>absurd h.1 hl⟩
section
variable{X:Cx}
def rTupZ(K:dD):List V->Hp->VK->Prop:=λxs H Q=>∃p ys,xs=[.ref p]/\SqL K H p ys/\∀(l:Addr) (o:Obj),H l=none->o.dict=none->Q (.ref l) (upd H l (.frz o (.tup ys)))
theorem MG:CallR X (.type "tuple") (rTupZ X.K):=by
 intro ac s σ H xs us Q I r h;obtain⟨p,ys,rfl,hq,q⟩:=h;obtain⟨u,rfl,rx⟩:=xC r;cases rx;obtain⟨its,r',pl,hz⟩:=I.list hq;have hlen:=r'.length;refine call_tuple_list pl.isList (λh' kp=>?_) (by simp only[mI]<;>omega);have I1:Inv X ac σ H { s with heap:=h' } :=I.kept (t':=s.toks) kp;have I2:Inv X ac σ (upd H h'.objs.size (.frz { cls:=.type "tuple",data:=.seq its.toArray } (.tup ys))) { s with heap:=h'.push { cls:=.type "tuple",data:=.seq its.toArray } } :=
  I1.laid (t':=s.toks) (λb o e=>gI _ e) uU (show ObjOk X.prog X.w _ _ _ (.frz _ (.tup ys))from⟨gX _ rfl,hz,its,r',IsTup.new _ _,.of (gX _ rfl) rfl⟩)
 exact⟨.ref h'.objs.size,_,I2,rfl,q _ _ (I1.hok.fresh uU) rfl⟩
end
theorem ST{α β:Type}{f:α->β}{zs l:List β}(p:zs.Perm l):∀E:List α,l=E.map f->∃E':List α,E'.Perm E/\zs=E'.map f:=by
 induction p with
 | nil=>
  intro E h;have:E=[]:=by simpa using h.symm
  exact⟨[],by rw[this],rfl⟩
 | @cons x l1 l2 _ ih=>
  intro E h
  match E,h with
  | e::E2,h=>
   rw[nQ]at h;injection h with h1 h2
   obtain⟨E',p',rfl⟩:=ih E2 h2;exact⟨e::E',p'.cons e,by rw[nQ,h1]⟩
 | @swap x y l=>
  intro E h
  match E,h with
  | e1::e2::E2,h=>
   rw[nQ,nQ]at h;injection h with h1 h2
   injection h2 with h2 h3
   exact⟨e2::e1::E2,List.Perm.swap ..,by rw[nQ,nQ,h1,h2,h3]⟩
 | @trans l1 l2 l3 _ _ ih1 ih2=>
  intro E h;obtain⟨E2,p2,e2⟩:=ih2 E h;obtain⟨E1,p1,e1⟩:=ih1 E2 e2;exact⟨E1,p1.trans p2,e1⟩
theorem Rd.same{H H':Hp}{d:Addr}{o:HO}(h:Rd H d o)(s:Same H H'):Rd H' d o:=by
 rcases h with h | ⟨u,h⟩
 ·exact .inl (s _ _ h)
 ·exact .inr ⟨u,s _ _ h⟩
structure Trm where
 ns:List Int
 t:Int
 b:Int
 k:Nat
def Trm.pr(x:Trm):List Int×Rat:=(x.ns,(x.t:Rat)/(x.b:Rat))
def tl(ts:List Trm):Pl:=ts.map Trm.pr
structure TmOk(aa D v:Nat)(x:Trm):Prop where
 len:x.ns.length=aa
 nn:∀n∈x.ns,0<=n
 deg:x.ns.sum<=D
 pos:0<x.b
 nz:x.t≠0
 low:Int.gcd x.t x.b=1
 sb:x.b.natAbs<=2^x.k
 st:x.t.natAbs<=2^v*x.b.natAbs
structure TrmV(H:Hp)(v:V)(x:Trm):Prop where
 ex:∃r b c:Addr,v=.ref r/\H r=some (.tup [.ref b,.ref c])/\H b=some (.tup (x.ns.map V.int))/\At2 H c x.t x.b
theorem TrmV.kp{H H':Hp}{v:V}{x:Trm}(h:TrmV H v x)(k:Kp H H'):TrmV H' v x:=by
 obtain⟨r,b,c,e1,e2,e3,e4⟩:=h.ex;exact⟨r,b,c,e1,k.tup _ _ e2,k.tup _ _ e3,k.tup _ _ e4⟩
theorem Paired.to{α β:Type}{F G:α->β->Prop}(f:∀a b,F a b->G a b):∀{l₁:List α} {l₂:List β},Paired F l₁ l₂->Paired G l₁ l₂
 | _,_,.nil=>.nil
 | _,_,.cons h t=>.cons (f _ _ h) (Paired.to f t)
theorem Paired.app{α β:Type}{F:α->β->Prop} :∀{a b:List α} {c d:List β},Paired F a c->Paired F b d->Paired F (a++b) (c++d)
 | _,_,_,_,.nil,h=>h
 | _,_,_,_,.cons h t,k=>.cons h (Paired.app t k)
theorem Paired.at{α β:Type}{F:α->β->Prop} :∀{l₁:List α} {l₂:List β} {i:Nat} {x:α},Paired F l₁ l₂->l₁[i]? = some x->∃y,l₂[i]? = some y/\F x y
 | _,_,_,_,.nil,h=>by simp at h
 | _,_,0,_,.cons h t,e=>by
  cases (Option.some.inj e);exact⟨_,rfl,h⟩
 | _,_,i+1,_,.cons h t,e=>Paired.at t (i:=i) e
structure Poly(H:Hp)(p:Addr)(aa:Nat)(z:Sz)(ts:List Trm):Prop where
 ex:∃(q:Addr) (o:Obj) (xs:List V),H p=some (.tup [.int aa,.ref q])/\H q=some (.frz o (.tup xs))/\o.dict=none/\Paired (TrmV H) xs ts
 nd:(ts.map Trm.ns).Nodup
 each:∀x∈ts,TmOk aa z.D z.v x
 sum:(ts.map Trm.k).sum<=z.S
 few:ts.length<=z.n
theorem Poly.kp{H H':Hp}{p:Addr}{aa:Nat}{z:Sz}{ts:List Trm}(h:Poly H p aa z ts)(k:Kp H H'):Poly H' p aa z ts:=by
 obtain⟨q,o,xs,e1,e2,e3,e4⟩:=h.ex;exact⟨⟨q,o,xs,k.tup _ _ e1,k.frz _ _ _ e2,e3,Paired.to (λ_ _ h=>h.kp k) e4⟩,h.nd,h.each,h.sum,h.few⟩
theorem JG{t b:Int}{v k:Nat}(hb:0<b)(nz:t≠0)(sb:b.natAbs<=2^k)(st:t.natAbs<=2^v*b.natAbs):0<vU t b/\xA t b≠0/\Int.gcd (xA t b) (vU t b)=1/\(vU t b).natAbs<=2^k/\(xA t b).natAbs<=2^v*(vU t b).natAbs:=by
 have g1:=LwM.qJ t b hb;have gp:0<Int.gcd t b:=by omega
 rw[vF hb,vY hb];have d1:(Int.gcd t b:Int)∣t:=mW ..;have d2:(Int.gcd t b:Int)∣b:=mO ..;have hp:0<b/(Int.gcd t b:Int):=Int.ediv_pos_of_pos_of_dvd hb (by omega) d2;have e1:t/(Int.gcd t b:Int)*(Int.gcd t b:Int)=t:=Int.ediv_mul_cancel d1;have e2:b/(Int.gcd t b:Int)*(Int.gcd t b:Int)=b:=Int.ediv_mul_cancel d2;refine⟨hp,λz=>nz ?_,Int.gcd_ediv_gcd_ediv_gcd gp,tD (LwM.AL b _ g1) sb, ?_⟩
 ·rw[<-e1,z,Int.zero_mul]
 ·have st:(t/(Int.gcd t b:Int)*(Int.gcd t b:Int)).natAbs<=2^v*(b/(Int.gcd t b:Int)*(Int.gcd t b:Int)).natAbs:=by rw[e1,e2];exact st
  rw[nI,nI]at st;generalize t/(Int.gcd t b:Int)=t' at st;generalize b/(Int.gcd t b:Int)=b' at st;refine Nat.le_of_mul_le_mul_right (c:=(Int.gcd t b:Int).natAbs) ?_ (by omega);rw[Nat.mul_assoc];exact st
theorem JF{t b:Int}(hb:0<b):((xA t b:Int):Rat)/((vU t b:Int):Rat)=(t:Rat)/(b:Rat):=by
 have g1:=LwM.qJ t b hb;rw[vF hb,vY hb];have d1:(Int.gcd t b:Int)∣t:=mW ..;have d2:(Int.gcd t b:Int)∣b:=mO ..;have hp:0<b/(Int.gcd t b:Int):=Int.ediv_pos_of_pos_of_dvd hb (by omega) d2;have e1:t/(Int.gcd t b:Int)*(Int.gcd t b:Int)=t:=Int.ediv_mul_cancel d1;have e2:b/(Int.gcd t b:Int)*(Int.gcd t b:Int)=b:=Int.ediv_mul_cancel d2;refine(JO hp hb).mp ?_;generalize t/(Int.gcd t b:Int)=t' at *;generalize b/(Int.gcd t b:Int)=b' at *;generalize (Int.gcd t b:Int)=g at *;rw[<-e1,<-e2]
 grind
def Ent.tm(e:Ent):Trm:=⟨e.ns,xA e.t e.b,vU e.t e.b,e.k⟩
def spLSum:Sp:=λvs H Q _=>∃(d:Addr) (aa:Nat) (z:Sz) (E:List Ent),vs=[.int aa,.ref d]/\Rd H d (.dT (E.map Ent.kv))/\DB H aa z E/\1<=aa/\z.n<=63/\z.S<=7900/\
 ∀(p:Addr) (ts:List Trm) (H':Hp),H p=none->Same H H'->Poly H' p aa z ts->(tl ts).Perm (pl E)->Q (.ref p) H'
inductive LsI(H H2:Hp)(d l sl:Addr)(aa:Nat)(ys:List V)(E0:List Ent)(i:Nat):L2.St->Hp->Prop where
 | mk {u v:Option V} {H':Hp} {xs:List V} (s:Same H H') (k:Kp H2 H') (es:H' sl=some (.lst ys)) (e:H' l=some (.lst xs)) (h:Paired (TrmV H') xs ((E0.take i).map Ent.tm)):LsI H H2 d l sl aa ys E0 i [some (.int aa),some (.ref d),some (.ref l),u,v] H'
theorem scLSum:FnScope ["many","one","terms","powers","number"] ["many","one"] (jM PB):=⟨rfl,rfl,rfl,by decide +kernel,rfl,by decide +kernel,by decide +kernel⟩
theorem ok_lsum{fL:Addr}{fdL:FuncData}(F:Fun K "_law_sum" "_law_sum" PB f fd)(T:Txt mg)(DL:Df K mg "_law_low" KJ ["top","bottom"] fL fdL)(GL:FnOk P w K mg base CX0 1 fL fdL ["top","bottom"] spLow):FnOk P w K mg base CX0 2 f fd ["many","one"] spLSum:=by
 refine F.ok scLSum (λvs H Q E h=>?_) (λcdv A outer s H vs Q E hr h=>?_)
 ·obtain⟨d,aa,z,E',rfl,_⟩:=h
  rfl
 ·obtain⟨d,aa,z,EE,rfl,hR,hD,m1,n63,S7,go⟩:=h;have hu:_+1<cLine:=hJ (Nat.add_le_add_left (by decide:1<=64) _) hr.units;refine⟨_,jD (jP (i:=2) scLSum.nd rfl (Or.inl rfl) (qO jC)) (jD (qM PassesOwn.never rfl (qF (kO (LwD.OG rfl) (by rfl) T.sorted boot_sorted (jA (pv 1) jC))) (jI (i:=3) scLSum.nd rfl (Or.inl rfl)) (jF (kS (jV yG (jN jS (yU hu (pv 1) (pv 3) (λ_ _=>rfl)) jB (λ_ _=>rfl)) jB (jW _)) (jD (jP (i:=4) scLSum.nd rfl (Or.inl rfl) (jG GL hr rfl DL.m DL.F.kp DL.b .nil jR (jA (jN jS (yU hu (pv 1) (pv 3) (λ_ _=>rfl)) jB (λ_ _=>rfl)) (jA (jN jS (yU hu (pv 1) (pv 3) (λ_ _=>rfl)) jB (λ_ _=>rfl)) jC)))) (jF (xJ (KU PySem.F.plainAttrs_list PySem.F.slot_list_append PySem.F.type_list_append qZ (pv 2) (jA (jT (jA (pv 3) (jA (pv 4) jC))) jC))))) kD))) (jF (jU (jT (jA (pv 0) (jA (kL MG (by rfl) T.tup boot_tuple (jA (pv 2) jC)) jC)))))), ?_⟩;try dsimp only[cxK]
  refine⟨uV,λl H1 n1 s1 e1=>?_⟩;refine⟨_,rfl,d,_,rfl,Rd.same hR s1,by rw[mZ];exact hJ (tD hD.few n63) (by decide),λp hp=>?_,λys zs pz ky pw sl H2 n2 s2 e2=>⟨sl,rfl,⟨ys,SqL.of e2⟩, ?_⟩⟩
  ·obtain⟨e,he,rfl⟩:=tF.mp hp;exact⟨e.ns,rfl,λz=>by have:=(hD.each e he).len;rw[z]at this;simp at this;omega⟩
  obtain⟨E0,pE,rfl⟩:=ST pz EE rfl;have s12:Same H H2:=s1.trans s2;have ls:sl≠l:=λz=>by rw[z,e1]at n2;cases n2
  have yl:ys.length=E0.length:=by rw[ky.1,mZ]
  have l63:E0.length<=63:=by rw[pE.length_eq];exact tD hD.few n63
  refine xX (K:=K) (a:=sl) (xs:=ys) (LsI H H2 d l sl aa ys E0) (.mk s12 (Kp.of (Same.refl _)) e2 (s2 _ _ e1) .nil) (λi σ H3 _ h=>?_) (λi y σ H3 hyi h=>?_) (fun σ H3 h=>?_)
  ·obtain⟨_,_,es,_,_⟩:=h;exact SqL.of es
  ·obtain⟨s3,k3,es,el,hx⟩:=h;have hiy:i<ys.length:=(gC.mp hyi).1;have hie:i<E0.length:=by omega
   obtain⟨e,he⟩:∃e,E0[i]? = some e:=⟨E0[i],by simp [hie]⟩;obtain⟨b,ns,rfl,hb1,hk⟩:=ky.2 i y e.kv hyi (by rw[mH,he];rfl);have ens:e.ns=ns:=EX hk;subst ens;have eE:e∈EE:=pE.mem_iff.mp (gQ he);have hE:=(hD.kp (Kp.of s3)).each e eE;have hb3:H3 b=some (.tup (e.ns.map V.int)):=k3.tup _ _ (s2 _ _ hb1);have g3:=VW (Rd.same hR s3) hD.nd eE hb3;have c3:=SqT.of (K:=K) hE.at';have ke:=hD.k eE;refine⟨_,rfl,_,rfl,d,_,rfl,g3,e.c,_,_,_,rfl,rfl,c3,rfl,rfl,_,rfl, ?_⟩;rw[qG];refine xP (by rw[nB hE.nz];rfl) ?_;refine⟨_,rfl,_,rfl,d,_,rfl,g3,e.c,_,_,_,rfl,rfl,c3,rfl,_,rfl,_,rfl,d,_,rfl,g3,e.c,_,_,_,rfl,rfl,c3,rfl,e.t,e.b,rfl, ?_,.inl (vD hE.sb (by omega)),λr H4 n4 s4 e4=>?_⟩
   ·have:=hE.pos;omega
   refine⟨_,rfl,.inl ⟨rfl,_,SqL.of (s4 _ _ el)⟩,_,rfl,_,rfl,uX,λq H5 n5 s5 e5=>?_⟩;have s45:=s4.trans s5;have el5:=s45 _ _ el;have lx:=Paired.length hx;rw[mZ,mR]at lx;refine⟨l,_,_,rfl,rfl,el5,hJ (show _<=63 by omega) (by decide), ?_⟩;have ku:∀o:HO,Kp H5 (upd H5 l o):=λo=>Kp.upd el5 trivial;refine .mk (jZ (s3.trans s45) n1) ((k3.trans (Kp.of s45)).trans (ku _)) ?_ jE ?_
   ·rw[jO ls];exact s45 _ _ es
   ·rw[mJ,he,nA];refine Paired.app (Paired.to (λ_ _ h=>h.kp ((Kp.of s45).trans (ku _))) hx) (.cons ⟨q,b,r,rfl,(ku _).tup _ _ e5,(ku _).tup _ _ (s45 _ _ hb3),(ku _).tup _ _ (s5 _ _ e4)⟩ .nil)
  ·obtain⟨s3,k3,es,el,hx⟩:=h;rename_i xs3;rw[yl,mT]at hx;refine⟨_,rfl,_,rfl,l,_,rfl,SqL.of el,λq oq nq dq=>⟨uX,λp H5 n5 s5 e5=>?_⟩⟩;have s4:Same H3 (upd H3 q (.frz oq (.tup xs3))):=jY _ nq;refine go p (E0.map Ent.tm) H5 ((s3.trans s4).free n5) (s3.trans (s4.trans s5)) ⟨⟨q,oq,_,e5,s5 _ _ jE,dq,Paired.to (λ_ _ h=>h.kp (Kp.of (s4.trans s5))) hx⟩, ?_,λx hx=>?_, ?_, ?_⟩ ?_
   ·rw[tK];exact(pE.map Ent.ns).nodup_iff.mpr hD.nd
   ·obtain⟨e,he,rfl⟩:=tF.mp hx;have k:=hD.each e (pE.mem_iff.mp he);obtain⟨a1,a2,a3,a4,a5⟩:=JG k.pos k.nz k.sb k.st;exact⟨k.len,k.nn,k.deg,a1,a2,a3,a4,a5⟩
   ·rw[tK];have:(E0.map (Trm.k ∘ Ent.tm)).sum=(EE.map Ent.k).sum:=(pE.map Ent.k).sum_nat;rw[this];exact hD.sum
   ·rw[mZ,pE.length_eq];exact hD.few
   ·have:tl (E0.map Ent.tm)=pl E0:=by
     unfold tl pl;rw[tK];refine List.map_congr_left λe he=>?_;have k:=hD.each e (pE.mem_iff.mp he);show(e.ns,_)=(e.ns,_)
     congr 1
     exact JF k.pos
    rw[this];exact pE.map _
end Lw
namespace LwQ
def fv(t b:Int):Rat:=(t:Rat)/(b:Rat)
theorem cne{b:Int}(h:0<b):(b:Rat)≠0:=by
 intro z;have:b=0:=Rat.intCast_inj.mp (by rw[z];rfl);omega
theorem YC{t b o u:Int}(hb:0<b)(hu:0<u)(h:t*u=o*b):fv t b=fv o u:=by
 have h1:=cne hb;have h2:=cne hu;have h3:(t:Rat)*(u:Rat)=(o:Rat)*(b:Rat):=by rw[<-nE,<-nE,h]
 unfold fv
 grind
theorem YB{t b o u:Int}(hb:0<b)(hu:0<u)(h:fv t b=fv o u):t*u=o*b:=by
 have h1:=cne hb;have h2:=cne hu;unfold fv at h;have h3:(t:Rat)*(u:Rat)=(o:Rat)*(b:Rat):=by grind
 rw[<-nE,<-nE]at h3;exact Rat.intCast_inj.mp h3
theorem YD{t b o u:Int}(hb:0<b)(hu:0<u):fv (t*u+o*b) (b*u)=fv t b+fv o u:=by
 have h1:=cne hb;have h2:=cne hu;unfold fv;rw[Rat.intCast_add,nE,nE,nE]
 grind
theorem OA{t b o u:Int}(hb:0<b)(hu:0<u):fv (t*o) (b*u)=fv t b*fv o u:=by
 have h1:=cne hb;have h2:=cne hu;unfold fv;rw[nE,nE]
 grind
theorem QX{t b o u t' b':Int}(hb:0<b)(hu:0<u)(hb':0<b')(h:t'*(b*u)=(t*u+o*b)*b'):fv t' b'=fv t b+fv o u:=by
 rw[<-YD hb hu];exact YC hb' (tR hb hu) h
theorem fv_one(t:Int):fv t 1=(t:Rat):=by
 unfold fv;have:((1:Int):Rat)=1:=rfl;rw[this]
 grind
theorem QW:fv 0 1=0:=by rw[fv_one];rfl
theorem AM{b t u:Int}(g:Int.gcd t b=1)(h:b∣t*u):b∣u:=by
 have h:=Int.natAbs_dvd_natAbs.mpr h;rw[nI]at h;have c:Nat.Coprime b.natAbs t.natAbs:=by
  have:Nat.gcd t.natAbs b.natAbs=1:=g;rw[Nat.gcd_comm]at this;exact this
 exact Int.natAbs_dvd_natAbs.mp (c.dvd_of_dvd_mul_left h)
theorem XN{t b o u:Int}(hb:0<b)(hu:0<u)(g1:Int.gcd t b=1)(g2:Int.gcd o u=1)(h:t*u=o*b):t=o/\b=u:=by
 have d1:b∣u:=by
  have:b∣t*u:=⟨o,by rw[h,tO]⟩;exact AM g1 this
 have d2:u∣b:=by
  have:u∣o*b:=⟨t,by rw[<-h,tO]⟩;exact AM g2 this
 have e:b=u:=Int.dvd_antisymm (by omega) (by omega) d1 d2;subst e;exact⟨Int.eq_of_mul_eq_mul_right (by omega) h,rfl⟩
theorem qQ(x:Rat):fv x.num x.den=x:=by
 unfold fv;have:=Rat.num_divInt_den x;rw[Rat.divInt_eq_div]at this;exact this
theorem qV(x:Rat):0<(x.den:Int)/\Int.gcd x.num x.den=1:=⟨by have:=x.den_pos;omega,x.reduced⟩
theorem EM{t b:Int}(hb:0<b)(g:Int.gcd t b=1):(fv t b).num=t/\((fv t b).den:Int)=b:=by
 have n:=qV (fv t b);have e:=YB n.1 hb (qQ (fv t b));exact XN n.1 hb n.2 g e
def Wh(D:Int)(x:Rat):Prop:=∃z:Int,x*(D:Rat)=(z:Rat)
theorem Wh.dvd{D t b:Int}(hb:0<b)(g:Int.gcd t b=1)(h:Wh D (fv t b)):b∣D:=by
 obtain⟨z,hz⟩:=h;have h1:=cne hb;have e:(t:Rat)*(D:Rat)=(z:Rat)*(b:Rat):=by unfold fv at hz;grind
 rw[<-nE,<-nE]at e;have e:=Rat.intCast_inj.mp e;have:b∣t*D:=⟨z,by rw[e,tO]⟩;exact AM g this
theorem Wh.of{t b:Int}(hb:0<b):Wh b (fv t b):=⟨t,by have h1:=cne hb;unfold fv;grind⟩
end LwQ
namespace Lw
open PySem PySem.Spec PyProof.Rows L2 LwQ
theorem TJ{n d:Int}(hd:0<d):xA n d*d=n*vU n d:=by
 rw[vF hd,vY hd];obtain⟨a,ha⟩:=mW (a:=n) (b:=d);obtain⟨b,hb⟩:=mO (a:=n) (b:=d);have g1:=LwM.qJ n d hd;generalize (Int.gcd n d:Int)=g at ha hb g1;subst ha hb;rw[Int.mul_ediv_cancel_left _ (by omega),Int.mul_ediv_cancel_left _ (by omega)]
 grind
theorem LG{n d:Int}(hd:0<d):0<vU n d:=by
 have g1:=LwM.qJ n d hd;rw[vY hd];exact Int.ediv_pos_of_pos_of_dvd hd (by omega) (mO ..)
theorem CS{n d:Int}(hd:0<d):Int.gcd (xA n d) (vU n d)=1:=by
 have g1:=LwM.qJ n d hd;rw[vF hd,vY hd];exact Int.gcd_ediv_gcd_ediv_gcd (by omega)
theorem lowT_le{n d:Int}(hd:0<d):(xA n d).natAbs<=n.natAbs:=by
 rw[vF hd];exact LwM.AL _ _ (LwM.qJ n d hd)
theorem QI{n d:Int}(hd:0<d):(vU n d).natAbs<=d.natAbs:=by
 rw[vY hd];exact LwM.AL _ _ (LwM.qJ n d hd)
theorem fv_low{n d:Int}(hd:0<d):fv (xA n d) (vU n d)=fv n d:=YC (LG hd) hd (TJ hd)
theorem cross{x:Rat}{t b:Int}(hb:0<b)(h:x=fv t b):x.num*b=t*x.den:=by
 have n:=qV x;exact YB n.1 hb (by rw[qQ,h])
def SzR(n:Nat)(x:Rat):Prop:=x.num.natAbs<2^n/\x.den<2^n
theorem SzR.fr{n:Nat}{x:Rat}(h:SzR n x)(k:n<=7900):FrOk 7900 x.num x.den:=
 ⟨(qV x).1,(qV x).2,kK h.1 k,kK (by rw[mD];exact h.2) k⟩
theorem JV{H:Hp}{r:Addr}{N D:Int}{z:Rat}(h:At2 H r (xA N D) (vU N D))(hD:0<D)(e:fv N D=z):At2 H r z.num z.den:=by
 have nm:=EM (LG (n:=N) hD) (CS hD);rw[fv_low hD,e]at nm;unfold At2;rw[nm.1,nm.2];exact h
theorem at_lowN{H:Hp}{r:Addr}{N D:Int}{z:Rat}(h:At2 H r (xA N D) (vU N D))(hD:D≠0)(e:fv N D=z):At2 H r z.num z.den:=by
 by_cases p:0<D
 ·exact JV h p e
 ·have q:D<0:=by omega
  rw[<-(CQ q).1,<-(CQ q).2]at h;refine JV h (by omega) ?_;rw[<-e];unfold fv;rw[nG,nG];have:(D:Rat)≠0:=λz=>hD (Rat.intCast_inj.mp (by rw[z];rfl))
  grind
theorem den_dvd{x:Rat}{t b:Int}(hb:0<b)(h:x=fv t b):(x.den:Int)∣b/\x.num.natAbs<=t.natAbs:=by
 have n:=qV x;have d:(x.den:Int)∣b:=Wh.dvd n.1 n.2 (by rw[qQ,h];exact Wh.of hb);refine⟨d, ?_⟩;obtain⟨k,hk⟩:=d;have c:=cross hb h;have k0:k≠0:=λz=>by rw[z,Int.mul_zero]at hk;omega
 have:x.num*k=t:=by
  have e:x.den*(x.num*k)=x.den*t:=by rw[hk]at c;grind
  exact Int.eq_of_mul_eq_mul_left (by omega) e
 rw[<-this,nI];exact gG _ (by omega)
structure Ov(D:Int)(n:Nat)(x:Rat):Prop where
 ex:∃z:Int,x=fv z D/\z.natAbs<=2^n
theorem Ov.sz{D:Int}{n d k:Nat}{x:Rat}(h:Ov D n x)(hD:0<D)(hd:D.natAbs<=2^d)(h1:n<k)(h2:d<k):SzR k x:=by
 obtain⟨z,e,hz⟩:=h.ex;have q:=den_dvd hD e;have l:x.den<=D.natAbs:=by
  have:=Int.natAbs_dvd_natAbs.mpr q.1;rw[mD]at this;exact Nat.le_of_dvd (by omega) this
 exact⟨hJ (tD q.2 hz) (gT (by decide) h1),hJ (tD l hd) (gT (by decide) h2)⟩
theorem Ov.up{D:Int}{n m:Nat}{x:Rat}(h:Ov D n x)(k:n<=m):Ov D m x:=let ⟨z,e,hz⟩:=h.ex;⟨z,e,tD hz (gS (by decide) k)⟩
theorem Ov.zero(D:Int)(n:Nat):Ov D n 0:=⟨0,by unfold fv;rw[show((0:Int):Rat)=0 from rfl,tT,tJ],tQ _⟩
theorem Ov.scale{D c:Int}{n b:Nat}{x:Rat}(h:Ov D n x)(hD:0<D)(hc:0<c)(hb:c.natAbs<=2^b):Ov (D*c) (n+b) x:=by
 obtain⟨z,e,hz⟩:=h.ex;refine⟨z*c, ?_, ?_⟩
 ·rw[e];exact YC hD (tR hD hc) (by grind)
 ·rw[nI,tU];exact nK hz hb
theorem fv_addD{z y D:Int}(hD:0<D):fv z D+fv y D=fv (z+y) D:=by
 have h1:=cne hD;unfold fv;rw[Rat.intCast_add]
 grind
theorem Ov.add{D:Int}{n:Nat}{x y:Rat}(h:Ov D n x)(k:Ov D n y)(hD:0<D):Ov D (n+1) (x+y):=by
 obtain⟨z,e,hz⟩:=h.ex;obtain⟨z',e',hz'⟩:=k.ex;refine⟨z+z',by rw[e,e',fv_addD hD], ?_⟩;rw[Nat.pow_succ];omega
theorem Ov.imul{D i:Int}{n b:Nat}{x:Rat}(h:Ov D n x)(hi:i.natAbs<=2^b):Ov D (n+b) ((i:Rat)*x):=by
 obtain⟨z,e,hz⟩:=h.ex;refine⟨i*z, ?_, ?_⟩
 ·rw[e];unfold fv;rw[nE,tT,tT,nU]
 ·rw[nI,Nat.add_comm,tU];exact nK hi hz
theorem Ov.div{D c:Int}{n:Nat}{x:Rat}(h:Ov D n x)(hD:0<D)(hc:c≠0):Ov (D*(c.natAbs:Int)) n (x/((c:Int):Rat)):=by
 obtain⟨z,e,hz⟩:=h.ex;have h1:=cne hD;have h2:(c:Rat)≠0:=λy=>hc (Rat.intCast_inj.mp (by rw[y];rfl));by_cases p:0<c
 ·refine⟨z, ?_,hz⟩;rw[show(c.natAbs:Int)=c by omega,e];unfold fv;rw[nE]
  grind
 ·refine⟨-z, ?_,by rw[nM];exact hz⟩;rw[show(c.natAbs:Int) = -c by omega,e];unfold fv;rw[nE,nG,nG]
  grind
theorem JM(i:Int):((i:Int):Rat).num=i/\(((i:Int):Rat).den:Int)=1:=⟨Rat.num_intCast i,by rw[Rat.den_intCast];rfl⟩
theorem EW{i:Int}{n:Nat}(h:i.natAbs<2^n)(hn:0<n):SzR n ((i:Int):Rat):=⟨by rw[(JM i).1];exact h,by rw[Rat.den_intCast];exact Nat.one_lt_two_pow (by omega)⟩
def NumK(K:dD)(H:Hp)(v:V)(x:Rat):Prop:=∃p,v=.ref p/\SqT K H p [.int x.num,.int x.den]
theorem NumK.same{K:dD}{H H':Hp}{v:V}{x:Rat}(h:NumK K H v x)(s:Same H H'):NumK K H' v x:=let ⟨p,e,q⟩:=h;⟨p,e,kI s q⟩
theorem NumK.of{K:dD}{H:Hp}{p:Addr}{x:Rat}(h:At2 H p x.num x.den):NumK K H (.ref p) x:=⟨p,rfl,SqT.of h⟩
theorem uD{K:dD}{H:Hp}{p:Addr}{i:Int}(h:SqT K H p [.int i,.int 1]):SqT K H p [.int ((i:Int):Rat).num,.int ((i:Int):Rat).den]:=by rw[(JM i).1,(JM i).2];exact h
theorem addAt{H:Hp}{r:Addr}{x y:Rat}(e:At2 H r (xA (x.num*y.den+y.num*x.den) (x.den*y.den)) (vU (x.num*y.den+y.num*x.den) (x.den*y.den))):At2 H r (x+y).num (x+y).den:=
 JV e (tR (qV x).1 (qV y).1) (by rw[YD (qV x).1 (qV y).1,qQ,qQ])
theorem mulAt{H:Hp}{r:Addr}{x y:Rat}(e:At2 H r (xA (x.num*y.num) (x.den*y.den)) (vU (x.num*y.num) (x.den*y.den))):At2 H r (x*y).num (x*y).den:=
 JV e (tR (qV x).1 (qV y).1) (by rw[OA (qV x).1 (qV y).1,qQ,qQ])
theorem JC{y:Rat}(ny:y≠0):y.num≠0:=λz=>ny (by rw[<-qQ y,z];unfold fv;rw[show((0:Int):Rat)=0 from rfl,tT,tJ])
theorem YQ{H:Hp}{r:Addr}{x y:Rat}(ny:y≠0)(e:At2 H r (xA (x.num*y.den) (x.den*y.num)) (vU (x.num*y.den) (x.den*y.num))):At2 H r (x/y).num (x/y).den:=by
 have yn:=JC ny;refine at_lowN e (Int.mul_ne_zero (by have:=(qV x).1;omega) yn) ?_;have h1:=cne (qV x).1;have h2:=cne (qV y).1;have h3:((y.num:Int):Rat)≠0:=λz=>yn (Rat.intCast_inj.mp (by rw[z];rfl))
 conv=>rhs;rw[<-qQ x,<-qQ y]
 unfold fv;rw[nE,nE]
 grind
open LwF
def Ngt(K:dD)(mg:Str->Option Value):Prop:=∃a,mg "NOUGHT" = some (.ref a)/\∀H,SqT K H a (([0,1]:List Int).map V.int)
def One1(K:dD)(mg:Str->Option Value):Prop:=∃a,mg "ONE" = some (.ref a)/\∀H,SqT K H a (([1,1]:List Int).map V.int)
theorem IT:∀{ns:List Int} {ks:List Rat} {i:Nat} {n:Int} {k:Rat},ns[i]? = some n->ks[i]? = some k->rw' (ns.take (i+1)) (ks.take (i+1))=rw' (ns.take i) (ks.take i)+(n:Rat)*k
 | [],_,_,_,_,h,_=>by simp at h
 | _::_,[],_,_,_,_,h=>by simp at h
 | a::ns,b::ks,0,n,k,h1,h2=>by
  cases (Option.some.inj h1);cases (Option.some.inj h2);show(a:Rat)*b+rw' (ns.take 0) (ks.take 0)=0+(a:Rat)*b;rw[List.take_zero,List.take_zero];show(a:Rat)*b+0=_
  grind
 | a::ns,b::ks,i+1,n,k,h1,h2=>by
  show(a:Rat)*b+rw' (ns.take (i+1)) (ks.take (i+1))=((a:Rat)*b+rw' (ns.take i) (ks.take i))+(n:Rat)*k;rw[IT (i:=i) h1 h2]
  grind
theorem PH:∀{ns:List Int} {ks:List Rat},rw' (ns.take ks.length) ks=rw' ns ks
 | _,[]=>by rw[xH,xH]
 | [],_::_=>rfl
 | a::ns,b::ks=>by
  show(a:Rat)*b+rw' (ns.take ks.length) ks=(a:Rat)*b+rw' ns ks;rw[PH]
structure KnP(K:dD)(H:Hp)(b:Addr)(us:List V)(ks:List Rat)(D:Int)(n d:Nat):Prop where
 at':H b=some (.lst us)
 pr:Paired (NumK K H) us ks
 pos:0<D
 sd:D.natAbs<=2^d
 ov:∀k∈ks,Ov D n k
theorem KnP.same{K:dD}{H H':Hp}{b:Addr}{us:List V}{ks:List Rat}{D:Int}{n d:Nat}(h:KnP K H b us ks D n d)(s:Same H H'):KnP K H' b us ks D n d:=
 ⟨s _ _ h.at',Paired.to (λ_ _ k=>k.same s) h.pr,h.pos,h.sd,h.ov⟩
def spRW(K:dD):Sp:=λvs H Q _=>∃(a b:Addr) (ns:List Int) (us:List V) (ks:List Rat) (D:Int) (n d bt:Nat),vs=[.ref a,.ref b]/\H a=some (.lst (ns.map V.int))/\KnP K H b us ks D n d/\ks.length<=ns.length/\ks.length<=5/\(∀i∈ns,i.natAbs<=2^bt)/\n+bt<7890/\d<7900/\
 ∀(v:V) (H':Hp),Same H H'->NumK K H' v (rw' ns ks)->Ov D (n+bt+5) (rw' ns ks)->Q v H'
inductive RwI(K:dD)(H:Hp)(a b:Addr)(ns:List Int)(ks:List Rat)(D:Int)(N i:Nat):L2.St->Hp->Prop where
 | mk {H':Hp} {tv:V} {u3 u4:Option V} (s:Same H H') (t:NumK K H' tv (rw' (ns.take i) (ks.take i))) (o:Ov D (N+i) (rw' (ns.take i) (ks.take i))):RwI K H a b ns ks D N i [some (.ref a),some (.ref b),some tv,u3,u4] H'
variable{P:Program}{w:World}{K:dD}{mg:Str->Option Value}{base:Heap}{f fd:_}
theorem wE{K:dD}{H:Hp}{p:Addr}(h:SqT K H p (([0,1]:List Int).map V.int)):NumK K H (.ref p) 0:=⟨p,rfl,h⟩
theorem one_num{K:dD}{H:Hp}{p:Addr}(h:SqT K H p (([1,1]:List Int).map V.int)):NumK K H (.ref p) 1:=⟨p,rfl,h⟩
theorem scRW:FnScope ["numbers","known","total","number","fraction"] ["numbers","known"] (jM CG):=⟨rfl,rfl,rfl,by decide +kernel,rfl,by decide +kernel,by decide +kernel⟩
theorem ok_rw{fA fM:Addr}{fdA fdM:FuncData}(F:Fun K "row_worth" "row_worth" CG f fd)(T:Txt mg)(N:Ngt K mg)(DA:Df K mg "added" KL ["one","other"] fA fdA)(GA:FnOk P w K mg base CX0 2 fA fdA ["one","other"] (NC K))(DM:Df K mg "multiplied" SF ["one","other"] fM fdM)(GM:FnOk P w K mg base CX0 2 fM fdM ["one","other"] (OS K)):FnOk P w K mg base CX0 3 f fd ["numbers","known"] (spRW K):=by
 obtain⟨na,hN,hna⟩:=N;refine F.ok scRW (λvs H Q E h=>?_) (λcdv A outer s H vs Q E hr h=>?_)
 ·obtain⟨a,b,ns,us,ks,D,n,d,bt,rfl,_⟩:=h
  rfl
 ·obtain⟨a,b,ns,us,ks,D,n,d,bt,rfl,ha,kp,hl,h5,hb,hn,hd,go⟩:=h;refine⟨_,jD (jP (i:=2) scRW.nd rfl (Or.inl rfl) (zN (v:=.ref na) (by rfl) hN rfl)) (jD (qM PassesOwn.never rfl (IY (by rfl) T.zip (jA (pv 0) (jA (pv 1) jC))) (qI rfl (jQ (jI (i:=3) scRW.nd rfl (Or.inl rfl)) (jQ (jI (i:=4) scRW.nd rfl (Or.inl rfl)) kN))) (jF (jP (i:=2) scRW.nd rfl (Or.inl rfl) (jG GA hr rfl DA.m DA.F.kp DA.b .nil jR (jA (pv 2) (jA (jG GM hr rfl DM.m DM.F.kp DM.b .nil jR (jA (jT (jA (pv 3) (jA jB jC))) (jA (pv 4) jC))) jC)))))) (jF (jU (pv 2)))), ?_⟩;try dsimp only[cxK]
  have lu:us.length=ks.length:=Paired.length kp.pr;refine⟨_,rfl,_,rfl,a,b,rfl,⟨_,SqL.of ha⟩,⟨_,SqL.of kp.at'⟩, ?_⟩;refine YH (K:=K) (xs:=ns.map V.int) (ys:=us) (RwI K H a b ns ks D (n+bt)) (by rw[mZ,lu];exact hl) (.mk (Same.refl _) (wE (hna H)) (Ov.zero _ _)) (λi σ H2 _ h=>?_) (λi x y p σ H2 hx hy hp h=>?_) (fun σ H2 h=>?_)
  ·obtain⟨s2,_,_⟩:=h;exact⟨SqL.of (s2 _ _ ha),SqL.of (s2 _ _ kp.at')⟩
  ·obtain⟨s2,t2,o2⟩:=h;rename_i tv u3 u4;rw[mH]at hx;obtain⟨nn,hnn,rfl⟩:=Option.map_eq_some_iff.mp hx;obtain⟨k,hk,nk⟩:=Paired.at kp.pr hy;have km:=gQ hk;have ik:i<ks.length:=(gC.mp hk).1;have s3:Same H2 (upd H2 p (.tup [.int nn,y])):=jY _ hp;have e3:(upd H2 p (.tup [.int nn,y])) p=some (.tup [.int nn,y]):=jE;generalize upd H2 p (.tup [.int nn,y])=H3 at s3 e3;obtain⟨pt,rfl,qt⟩:=t2.same s3;obtain⟨pk,rfl,qk⟩:=nk.same (s2.trans s3);refine⟨p,_,rfl,SqT.of e3,rfl,_,_,rfl,_,_,rfl,rfl, ?_⟩;have nb:=hb nn (gQ hnn);have ot:Ov D (n+bt) ((nn:Rat)*k):=(kp.ov k km).imul nb;refine⟨_,rfl,_,rfl,uX,λr4 H4 n4 s4 e4=>⟨_,rfl, ?_⟩⟩;refine⟨r4,pk,_,_,_,_,rfl,uD (SqT.of e4),kI s4 qk,(EW (hJ nb (gT (by decide) (by omega))) (by decide)).fr uU,((kp.ov k km).sz kp.pos kp.sd (by omega) hd).fr uU,λr5 H5 n5 s5 e5=>?_⟩;have e5:=mulAt e5;refine⟨pt,r5,_,_,_,_,rfl,kI (s4.trans s5) qt,SqT.of e5,(o2.sz kp.pos kp.sd (by omega) hd).fr uU,(ot.sz kp.pos kp.sd (by omega) hd).fr uU,λr6 H6 n6 s6 e6=>?_⟩;have e6:=addAt e6;refine .mk (s2.trans (s3.trans (s4.trans (s5.trans s6)))) ?_ ?_
   ·rw[IT hnn hk];exact NumK.of e6
   ·rw[IT hnn hk];exact o2.add (ot.up (by omega)) kp.pos
  ·obtain⟨s2,t2,o2⟩:=h;rename_i tv u3 u4;rw[lu,mT,PH]at t2 o2;exact⟨_,rfl,go tv H2 s2 t2 (o2.up (by omega))⟩
structure RwsP(H:Hp)(a:Addr)(xs:List V)(af:List Rw):Prop where
 at':H a=some (.lst xs)
 pr:Paired (λv r=>∃p,v=.ref p/\H p=some (.lst (r.map V.int))) xs af
theorem RwsP.same{H H':Hp}{a:Addr}{xs:List V}{af:List Rw}(h:RwsP H a xs af)(s:Same H H'):RwsP H' a xs af:=⟨s _ _ h.at',Paired.to (λ_ _ ⟨p,e,q⟩=>⟨p,e,s _ _ q⟩) h.pr⟩
def OvC(D:Int)(n bt:Nat)(x:Rat):Prop:=∃c:Int,0<c/\c.natAbs<=2^bt/\Ov (D*c) n x
def spNr(K:dD):Sp:=λvs H Q _=>∃(a b:Addr) (l:Nat) (xs:List V) (af:List Rw) (us:List V) (ks:List Rat) (D:Int) (n d bt:Nat),vs=[.ref a,.int l,.ref b]/\RwsP H a xs af/\KnP K H b us ks D n d/\ks.length<=5/\(∀r∈af,l+1+ks.length<=r.length)/\(∀r∈af,∀i∈r,i.natAbs<=2^bt)/\Bears l ks af/\n+2*bt<7880/\d+bt<7890/\l<2^20/\
 ∀(v:V) (H':Hp),Same H H'->NumK K H' v (QD l ks af)->OvC D (n+bt+5) bt (QD l ks af)->Q v H'
inductive NrI(K:dD)(H:Hp)(a b:Addr)(l:Nat)(ks:List Rat)(af:List Rw)(D:Int)(N bt i:Nat):L2.St->Hp->Prop where
 | mk {H':Hp} {tv:V} {u4 u5:Option V} (s:Same H H') (t:NumK K H' tv ((af.take i).foldl (xN l ks) 0)) (o:OvC D N bt ((af.take i).foldl (xN l ks) 0)):NrI K H a b l ks af D N bt i [some (.ref a),some (.int l),some (.ref b),some tv,u4,u5] H'
theorem OvC.sz{D:Int}{n d bt k:Nat}{x:Rat}(h:OvC D n bt x)(hD:0<D)(hd:D.natAbs<=2^d)(h1:n<k)(h2:d+bt<k):SzR k x:=by
 obtain⟨c,c0,c1,o⟩:=h;refine o.sz (tR hD c0) (d:=d+bt) ?_ h1 h2;rw[nI,tU];exact nK hd c1
theorem xI{r:Rw}{l:Nat}(h:l<r.length):atI (r.map V.int) (l:Int)=some (.int (r.getD l 0)):=by
 refine AQ ?_;rw[mH,gE h,uY,gE h]
 rfl
theorem FD(xs:List V)(k:Nat):zV xs (some (k:Int)) none=xs.drop k:=by
 unfold zV;rw[HT.sIx_nat,HT.sIx_none];by_cases h:k<=xs.length
 ·rw[Nat.min_eq_left h];exact gJ (by rw[List.length_drop];exact tP _)
 ·rw[Nat.min_eq_right (by omega),gK uU,gK (by omega),List.take_nil]
theorem CP{x:Rat} :decide (x.num<0)=decide (x<0):=by
 have k:x.num<0↔x<0:=by
  have:=Rat.num_nonneg (q:=x);constructor
  ·intro h;refine gA λz=>?_;have:=this.mpr (by grind);omega
  ·intro h;refine gA λz=>?_;have:=this.mp (by omega);grind
 by_cases h:x<0
 ·rw[nH h,nH (k.mpr h)]
 ·rw[nB h,nB λz=>h (k.mp z)]
theorem scNr:FnScope ["rows","letter","known","value","row","rest"] ["rows","letter","known"] (jM OY):=⟨rfl,rfl,rfl,by decide +kernel,rfl,by decide +kernel,by decide +kernel⟩
theorem ok_nr{fA fM fD fW:Addr}{fdA fdM fdD fdW:FuncData}(F:Fun K "nearest" "nearest" OY f fd)(T:Txt mg)(N:Ngt K mg)(DA:Df K mg "added" KL ["one","other"] fA fdA)(GA:FnOk P w K mg base CX0 2 fA fdA ["one","other"] (NC K))(DM:Df K mg "multiplied" SF ["one","other"] fM fdM)(GM:FnOk P w K mg base CX0 2 fM fdM ["one","other"] (OS K))
  (DD:Df K mg "divided" NG ["one","other"] fD fdD) (GD:FnOk P w K mg base CX0 3 fD fdD ["one","other"] (EC K)) (DW:Df K mg "row_worth" CG ["numbers","known"] fW fdW) (GW:FnOk P w K mg base CX0 3 fW fdW ["numbers","known"] (spRW K)):FnOk P w K mg base CX0 4 f fd ["rows","letter","known"] (spNr K):=by
 obtain⟨na,hN,hna⟩:=N;refine F.ok scNr (λvs H Q E h=>?_) (λcdv A outer s H vs Q E hr h=>?_)
 ·obtain⟨a,b,l,xs,af,us,ks,D,n,d,bt,rfl,_⟩:=h
  rfl
 ·obtain⟨a,b,l,xs,af,us,ks,D,n,d,bt,rfl,rp,kp,h5,hlen,hbt,B,hn,hd,hl20,go⟩:=h;have hr2:Room 2 _:=hr.mono (by decide);refine⟨_,jD (jP (i:=3) scNr.nd rfl (Or.inl rfl) (zN (v:=.ref na) (by rfl) hN rfl)) (jD (qM PassesOwn.never rfl (qF (pv 0)) (jI (i:=4) scNr.nd rfl (Or.inl rfl)) (jD (jP (i:=5) scNr.nd rfl (Or.inl rfl) (jG GW hr rfl DW.m DW.F.kp DW.b .nil jR (jA (vK vJ (pv 4) (vH (jJ kQ (pv 1) jB)) yT) (jA (pv 2) jC)))) (jF (kS (jV zG (jN jS (jG GA hr2 rfl DA.m DA.F.kp DA.b .nil jR (jA (jG GM hr2 rfl DM.m DM.F.kp DM.b .nil jR (jA (jT (jA (jN kH (pv 4) (pv 1) (λ_ _=>rfl)) (jA jB jC))) (jA (pv 3) jC))) (jA (pv 5) jC))) jB (λ_ _=>rfl)) jB (jW _)) (jF (jP (i:=3) scNr.nd rfl (Or.inl rfl) (jG GD hr rfl DD.m DD.F.kp DD.b .nil jR (jA (pv 5) (jA (jT (jA (qX kZ (jN kH (pv 4) (pv 1) (λ_ _=>rfl))) (jA jB jC))) jC))))) kD)))) (jF (jU (pv 3)))), ?_⟩;try dsimp only[cxK]
  have lx:xs.length=af.length:=Paired.length rp.pr;refine⟨_,rfl,a,rfl,⟨_,SqL.of rp.at'⟩, ?_⟩;refine xX (K:=K) (a:=a) (xs:=xs) (NrI K H a b l ks af D (n+bt+5) bt) (.mk (Same.refl _) (wE (hna H)) ⟨1,by decide,mE,Ov.zero _ _⟩) (λi σ H2 _ h=>?_) (λi x σ H2 hx h=>?_) (fun σ H2 h=>?_)
  ·obtain⟨s2,_,_⟩:=h;exact SqL.of (s2 _ _ rp.at')
  ·obtain⟨s2,t2,o2⟩:=h;rename_i tv u4 u5;obtain⟨r,hr',p,rfl,er⟩:=Paired.at rp.pr hx;have rm:=gQ hr';have er2:=s2 _ _ er;have hL:=hlen r rm;have ll:l<r.length:=by omega
   have rl:(r.getD l 0).natAbs<=2^bt:=by
    rw[uY,gE ll];exact hbt r rm _ (mV ll)
   refine⟨_,rfl,_,rfl,_,_,rfl,rfl,_,rfl,p,_,rfl,SqL.of er2,λq3 H3 n3 s3 e3=>⟨_,rfl, ?_⟩⟩;have cd:zV (r.map V.int) (some ((l:Int)+1)) none=(r.drop (l+1)).map V.int:=by
    rw[show((l:Int)+1)=((l+1:Nat):Int) by omega,FD,List.map_drop]
   rw[cd]at e3;have kp3:=kp.same (s2.trans s3);refine⟨q3,b,r.drop (l+1),us,ks,D,n,d,bt,rfl,e3,kp3,by rw[List.length_drop];omega,h5,λi hi=>hbt r rm i (List.mem_of_mem_drop hi),by omega,by omega,λrv H4 s4 nv ov=>?_⟩;have nv:NumK K H4 rv (rest l ks r):=nv;have ov:Ov D (n+bt+5) (rest l ks r):=ov;have er4:=(s3.trans s4) _ _ er2;obtain⟨pr,rfl,qr⟩:=nv;obtain⟨pt,rfl,qt⟩:=t2.same (s3.trans s4);dsimp only[kT];refine⟨_,rfl,_,rfl,p,_,_,_,rfl,rfl,SqL.of er4,xI ll,uX,λr5 H5 n5 s5 e5=>⟨_,rfl, ?_⟩⟩;have sv:SzR 7900 ((af.take i).foldl (xN l ks) 0):=o2.sz kp.pos kp.sd (by omega) (by omega);have si:SzR 7900 (((r.getD l 0:Int)):Rat):=EW (hJ rl (gT (by decide) (by omega))) (by decide);have op:SzR 7900 (((r.getD l 0:Int):Rat)*(af.take i).foldl (xN l ks) 0):=by
    obtain⟨c,c0,c1,o⟩:=o2;refine(o.imul rl).sz (d:=d+bt) (tR kp.pos c0) ?_ (by omega) (by omega);rw[nI,tU];exact nK kp.sd c1
   refine⟨r5,pt,_,_,_,_,rfl,uD (SqT.of e5),kI s5 qt,si.fr uU,sv.fr uU,λr6 H6 n6 s6 e6=>⟨_,rfl, ?_⟩⟩;have e6:=mulAt e6;refine⟨r6,pr,_,_,_,_,rfl,SqT.of e6,kI (s5.trans s6) qr,op.fr uU,(ov.sz kp.pos kp.sd (by omega) (by omega)).fr uU,λr7 H7 n7 s7 e7=>?_⟩;have e7:=addAt e7;refine⟨r7,_,_,_,rfl,rfl,SqT.of e7,rfl,_,_,rfl,rfl,_,rfl, ?_⟩;have s27:=s3.trans (s4.trans (s5.trans (s6.trans s7)));have tk:(af.take (i+1)).foldl (xN l ks) 0=xN l ks ((af.take i).foldl (xN l ks) 0) r:=by
    rw[mJ,hr'];simp
   rw[CP];refine EV (λc=>?_) (λc=>?_)
   ·have c:=mL c;have rz:=near_nz B hr' c;refine⟨_,rfl,_,rfl,_,rfl,p,_,_,_,rfl,rfl,SqL.of ((s5.trans (s6.trans s7)) _ _ er4),xI ll,_,rfl,uX,λr8 H8 n8 s8 e8=>?_⟩;have e8:H8 r8=some (.tup [.int (-(r.getD l 0)),.int 1]):=e8;have nz:(((-(r.getD l 0):Int)):Rat)≠0:=λz=>rz (by have:(-(r.getD l 0):Int)=0:=Rat.intCast_inj.mp (by rw[z];rfl);omega);refine⟨pr,r8,_,_,_,_,rfl,kI (s5.trans (s6.trans (s7.trans s8))) qr,uD (SqT.of e8),(ov.sz kp.pos kp.sd (by omega) (by omega)).fr uU,(EW (by rw[nM];exact hJ rl (gT (by decide) (by omega))) (by decide)).fr uU,JC nz,λr9 H9 n9 s9 e9=>?_⟩;have e9:=YQ nz e9;have ee:xN l ks ((af.take i).foldl (xN l ks) 0) r=rest l ks r/((-(r.getD l 0):Int):Rat):=dC c;refine .mk (s2.trans (s27.trans (s8.trans s9))) (by rw[tk,ee];exact NumK.of e9) ?_;rw[tk,ee];refine⟨((-(r.getD l 0)).natAbs:Int),by omega,by rw[mD,nM];exact rl,ov.div kp.pos (by omega)⟩
   ·have c:=λz=>c (nH z);have ee:xN l ks ((af.take i).foldl (xN l ks) 0) r=(af.take i).foldl (xN l ks) 0:=dA c;exact .mk (s2.trans s27) (by rw[tk,ee];exact t2.same s27) (by rw[tk,ee];exact o2)
  ·obtain⟨s2,t2,o2⟩:=h;rename_i tv u4 u5;rw[lx,mT]at t2 o2;exact⟨_,rfl,go tv H2 s2 t2 o2⟩
theorem YJ{n:Nat}{g:TG}{tb:TS}{D:Ends}{σ:L2.St}{H:Hp}(Pv:Nat->L2.St->Hp->Prop)(h0:Pv 0 σ H)
  (hs:∀i σ H,i<n->Pv i σ H->g (.int ((n:Int)-1-i)) σ H fun σ2 H2=>tb { D with nx:=Pv (i+1),ct:=Pv (i+1),bk:=D.nx } σ2 H2) (hd:∀σ H,Pv n σ H->D.nx σ H) :
  ∃W:Nat->Nat->L2.St->Hp->Prop,(∃m,W 0 m σ H)/\∀i m σ H,W i m σ H->
   ((Itd n).stop i H/\D.nx σ H)∨((Itd n).go i H/\∃N:L2.St->Hp->Prop,(∀σ' H',N σ' H'->∃m',m'<m/\W (i+1) m' σ' H')/\∀x H',(Itd n).yld i H x H'->g x σ H' fun σ2 H2=>tb { D with nx:=N,ct:=N,bk:=D.nx } σ2 H2):=by
 refine⟨λi m σ H=>m=n-i/\i<=n/\Pv i σ H,⟨n,by simp,tQ _,h0⟩, ?_⟩;rintro i m σ H ⟨rfl,hi,p⟩;by_cases hlt:i<n
 ·refine .inr ⟨hlt,Pv (i+1),fun σ' H' p'=>⟨n-(i+1),by omega,rfl,hlt,p'⟩,λx H' y=>?_⟩;obtain⟨e,y⟩:=y;subst e y;exact hs i σ _ hlt p
 ·have e:i=n:=by omega
  subst e;exact .inl ⟨tP _,hd σ H p⟩
def gB:Nat->Nat
 | 0=>650
 | 1=>851
 | e+2=>2*gB (e+1)+1
def nS(m:Nat):Nat->Nat
 | 0=>gB m
 | k+1=>nS m k+gB (m-1-k)+5
theorem nS_ok{m k:Nat}(h:m<=3)(hk:k<m):nS m k+2*gB (m-1-k)<7880:=by
 have:m=1∨m=2∨m=3:=by omega
 rcases this with rfl | rfl | rfl
 ·obtain rfl:k=0:=by omega
  decide
 ·have:k=0∨k=1:=by omega
  rcases this with rfl | rfl<;>decide
 ·have:k=0∨k=1∨k=2:=by omega
  rcases this with rfl | rfl | rfl<;>decide
theorem nS_end{m:Nat}(h:m<=3):nS m m<6630:=by
 have:m=0∨m=1∨m=2∨m=3:=by omega
 rcases this with rfl | rfl | rfl | rfl<;>decide
structure StP(H:Hp)(a:Addr)(m:Nat)(st:Nat->List Rw):Prop where
 ex:∃fs,H a=some (.lst fs)/\fs.length=m+1/\∀e,e<=m->∃pa xs,fs[e]? = some (.ref pa)/\RwsP H pa xs (st e)
theorem StP.same{H H':Hp}{a:Addr}{m:Nat}{st:Nat->List Rw}(h:StP H a m st)(s:Same H H'):StP H' a m st:=by
 obtain⟨fs,e1,e2,e3⟩:=h.ex;exact⟨fs,s _ _ e1,e2,λe he=>by obtain⟨pa,xs,q1,q2⟩:=e3 e he;exact⟨pa,xs,q1,q2.same s⟩⟩
def IF(K:dD):Sp:=λvs H Q _=>∃(a:Addr) (lv:V) (m:Nat) (st:Nat->List Rw) (T:Rat) (D:Int),vs=[.ref a,.int m,lv]/\StP H a m st/\NumK K H lv T/\m<=3/\(∀j,j<m->Bears (m-1-j) (qL m st T j) (st (m-1-j)))/\(∀e,e<m->∀r∈st e,m+2<=r.length/\∀i∈r,i.natAbs<=2^gB e)/\0<D/\D.natAbs<=2^gB m/\Ov D (gB m) T/\
 ∀(p:Addr) (ys:List V) (H':Hp),H p=none->Same H H'->H' p=some (.tup ys)->Paired (NumK K H') ys ((qL m st T m).take m)->(∀k∈(qL m st T m).take m,SzR 6630 k)->Q (.ref p) H'
inductive SpI(K:dD)(H:Hp)(a:Addr)(lv:V)(m:Nat)(st:Nat->List Rw)(T:Rat)(k:Nat):L2.St->Hp->Prop where
 | mk {H':Hp} {b:Addr} {us:List V} {D:Int} {u:Option V} (s:Same H H') (kp:KnP K H' b us (qL m st T k) D (nS m k) (nS m k)):SpI K H a lv m st T k [some (.ref a),some (.int m),some lv,some (.ref b),u] H'
theorem LY(xs:List V)(k:Nat):zV xs none (some (k:Int))=xs.take k:=by
 unfold zV;rw[HT.sIx_nat,HT.sIx_none,List.drop_zero,Nat.sub_zero];by_cases h:k<=xs.length
 ·rw[Nat.min_eq_left h]
 ·rw[Nat.min_eq_right (by omega),mT,gJ (by omega)]
theorem wM{α β:Type}{F:α->β->Prop} :∀{l:List α} {k:List β} (n:Nat),Paired F l k->Paired F (l.take n) (k.take n)
 | _,_,0,_=>by rw[List.take_zero,List.take_zero];exact .nil
 | _,_,n+1,.nil=>.nil
 | _,_,n+1,.cons h t=>.cons h (wM n t)
theorem scSp:FnScope ["found","many","level","known","letter"] ["found","many","level"] (jM FV):=⟨rfl,rfl,rfl,by decide +kernel,rfl,by decide +kernel,by decide +kernel⟩
theorem ok_spot{fN:Addr}{fdN:FuncData}(F:Fun K "spot_of" "spot_of" FV f fd)(T:Txt mg)(O:One1 K mg)(DN:Df K mg "nearest" OY ["rows","letter","known"] fN fdN)(GN:FnOk P w K mg base CX0 4 fN fdN ["rows","letter","known"] (spNr K)):FnOk P w K mg base CX0 5 f fd ["found","many","level"] (IF K):=by
 obtain⟨oa,hO,hoa⟩:=O;refine F.ok scSp (λvs H Q E h=>?_) (λcdv A outer s H vs Q E hr h=>?_)
 ·obtain⟨a,lv,m,st,T,D,rfl,_⟩:=h
  rfl
 ·obtain⟨a,lv,m,st,TT,D,rfl,sp,nl,m3,B,hb,D0,D1,oT,go⟩:=h;refine⟨_,jD (jP (i:=3) scSp.nd rfl (Or.inl rfl) (qO (jA (pv 2) (jA (zN (v:=.ref oa) (by rfl) hO rfl) jC)))) (jD (qM PassesOwn.never rfl (pi_rev (by rfl) T.rev (jA (kL OH (by rfl) T.rng boot_range (jA (pv 1) jC)) jC)) (jI (i:=4) scSp.nd rfl (Or.inl rfl)) (jF (jP (i:=3) scSp.nd rfl (Or.inl rfl) (jJ xL (qO (jA (jG GN hr rfl DN.m DN.F.kp DN.b .nil jR (jA (jN kH (pv 0) (pv 4) (λ_ _=>rfl)) (jA (pv 4) (jA (pv 3) jC)))) jC)) (pv 3))))) (jF (jU (kL vZ (by rfl) T.tup boot_tuple (jA (vK vJ (pv 3) yT (vH (pv 1))) jC))))), ?_⟩;try dsimp only[cxK]
  refine⟨_,rfl,uX,λb1 H1 n1 s1 e1=>?_⟩;have o1:Ov D (gB m) 1:=⟨D,by unfold fv;rw[tT,Rat.mul_inv_cancel _ (cne D0)],D1⟩;refine⟨_,rfl,_,rfl,λpr npr=>?_⟩;have s2:Same H1 (upd H1 pr (.rng 0 m)):=jY _ npr;have e2:(upd H1 pr (.rng 0 m)) pr=some (.rng 0 m):=jE;generalize upd H1 pr (.rng 0 m)=H2 at s2 e2;refine⟨pr,m,rfl,e2,hJ m3 (by decide), ?_⟩;refine YJ (n:=m) (SpI K H a lv m st TT) (.mk (us:=[lv,.ref oa]) (D:=D) (s1.trans s2) ⟨s2 _ _ e1,.cons (nl.same (s1.trans s2)) (.cons (one_num (hoa H2)) .nil),D0,D1,λk hk=>by
    rcases nT.mp hk with rfl | hk
    ·exact oT
    ·rw[mC.mp hk];exact o1⟩) (λk σ H3 hk h=>?_) (fun σ H3 h=>?_)
  ·obtain⟨s3,kp⟩:=h;rename_i b us D' u;obtain⟨fs,f1,f2,f3⟩:=(sp.same s3).ex;have le:m-1-k<=m:=by omega
   obtain⟨pa,xs,q1,q2⟩:=f3 (m-1-k) le;have el:((m:Int)-1-(k:Int))=((m-1-k:Nat):Int):=by omega
   rw[el];refine⟨_,rfl,_,rfl,a,_,_,_,rfl,rfl,SqL.of f1,AQ q1,_,rfl,_,rfl, ?_⟩;have nk:=nS_ok m3 hk;refine⟨pa,b,m-1-k,xs,_,us,_,D',_,_,gB (m-1-k),rfl,q2,kp,by rw[qK];omega,λr hr'=>?_,λr hr'=>(hb _ (by omega) r hr').2,B k hk,nk,by omega,by omega,λv H4 s4 nv ov=>?_⟩
   ·rw[qK];have:=(hb _ (by omega) r hr').1;omega
   obtain⟨c,c0,c1,oc⟩:=ov;have kp4:=kp.same s4;refine⟨uW,λb5 H5 n5 s5 e5=>⟨_,rfl,b5,b,_,us,rfl,rfl,e5,s5 _ _ kp4.at', ?_,λb6 H6 n6 s6 e6=>?_⟩⟩
   ·have:us.length=k+2:=by rw[Paired.length kp.pr,qK]
    rw[gP,this,sizeLine_eq];omega
   have s56:=s5.trans s6;have es:nS m (k+1)=nS m k+gB (m-1-k)+5:=rfl;refine .mk (s3.trans (s4.trans s56)) ⟨e6,.cons (nv.same s56) (Paired.to (λ_ _ h=>h.same s56) kp4.pr),tR kp.pos c0, ?_,λx hx=>?_⟩
   ·rw[nI];have:=nK kp.sd c1;rw[<-tU]at this;exact tD this (gS (by decide) (by omega))
   ·rcases nT.mp hx with rfl | hx
    ·exact oc.up (by omega)
    ·exact((kp.ov x hx).scale kp.pos c0 c1).up (by omega)
  ·obtain⟨s3,kp⟩:=h;rename_i b us D' u;have ne:=nS_end m3;refine⟨_,rfl,_,rfl,_,rfl,b,us,rfl,SqL.of kp.at',λb4 H4 n4 s4 e4=>⟨b4,_,rfl,.inl ⟨SqL.of e4,λt nt=>?_⟩⟩⟩;rw[LY];have s5:Same H4 (upd H4 t (.tup (us.take m))):=jY _ nt;refine go t _ _ ((s3.trans s4).free nt) (s3.trans (s4.trans s5)) jE (Paired.to (λ_ _ h=>h.same (s4.trans s5)) (wM m kp.pr)) λx hx=>?_;exact(kp.ov x (gW hx)).sz kp.pos kp.sd (by omega) (by omega)
def CW{α:Type}(xs:List α)(Pv:Nat->List V->Hp->Prop)(i m:Nat)(ys:List V)(H:Hp):Prop:=m=xs.length-i/\i<=xs.length/\Pv i ys H
theorem AN{α:Type}{xs:List α}{Pv:Nat->List V->Hp->Prop}{i m:Nat}{ys:List V}{H:Hp}{x:α}(h:xs[i]? = some x)(hm:m=xs.length-i)(q:Pv (i+1) ys H):∃m',m'<m/\CW xs Pv (i+1) m' ys H:=by
 have:=(gC.mp h).1;exact⟨_,by omega,rfl,this,q⟩
theorem BU{K:dD}{a:Addr}{xs:List V}{σ0:L2.St}{g:TG}{tt:TT}{te:TE}{Q:VK}{p:Addr}{H':Hp}(Pv:Nat->List V->Hp->Prop)(hz:xs.length<sizeLine)(h0:Pv 0 [] H')
  (hl:∀i ys H2,Pv i ys H2->SqL K H2 a xs/\H2 p=some (.lst ys)/\ys.length<=i)
  (hs:∀i m ys x H2,xs[i]? = some x->m=xs.length-i->Pv i ys H2->g x σ0 H2 fun σ4 H4=>Keep σ0 σ4/\tt σ4 H4 λb H5=>if b=true then te σ4 H5 λy H6=>H6 p=some (.lst ys)/\∃m',m'<m/\CW xs Pv (i+1) m' (ys++[y]) (upd H6 p (.lst (ys++[y])))else ∃m',m'<m/\CW xs Pv (i+1) m' ys H5)
  (hd:∀ys H2,Pv xs.length ys H2->Q (.ref p) H2):CompGoFI σ0 (Itl K a) g tt te Q p H':=by
 refine⟨CW xs Pv,⟨_,rfl,tQ _,h0⟩, ?_⟩;rintro i m ys H2 ⟨hm,hi,hp⟩;obtain⟨q,e,hy⟩:=hl i ys H2 hp;refine⟨e,by omega, ?_⟩;by_cases hlt:i<xs.length
 ·refine .inr ⟨⟨xs,xs[i],q,by simp [hlt]⟩, ?_⟩;rintro x H3 ⟨rfl,y⟩;exact hs i m ys x _ (y xs q) hm hp
 ·obtain rfl:i=xs.length:=by omega
  exact .inl ⟨⟨xs,q,tP _⟩,hd ys H2 hp⟩
theorem MC{K:dD}{a:Addr}{xs:List V}{n:Nat}{g:TG}{tt:TT}{te:TE}{Q:VK}{p:Addr}{H':Hp}(Pv:Nat->List V->Hp->Prop)(hz:xs.length<sizeLine)(h0:Pv 0 [] H')
  (hl:∀i ys H2,Pv i ys H2->SqL K H2 a xs/\H2 p=some (.lst ys)/\ys.length<=i)
  (hs:∀i m ys x c H2,xs[i]? = some x->m=xs.length-i->Pv i ys H2->H2 c=none->g (.ref c) (List.replicate n none) (upd H2 c (.tup [.int i,x])) fun σ4 H4=>tt σ4 H4 λb H5=>if b=true then te σ4 H5 λy H6=>H6 p=some (.lst ys)/\∃m',m'<m/\CW xs Pv (i+1) m' (ys++[y]) (upd H6 p (.lst (ys++[y])))else ∃m',m'<m/\CW xs Pv (i+1) m' ys H5)
  (hd:∀ys H2,Pv xs.length ys H2->Q (.ref p) H2):CompGoI n (Itel K a) g tt te Q p H':=by
 refine⟨CW xs Pv,⟨_,rfl,tQ _,h0⟩, ?_⟩;rintro i m ys H2 ⟨hm,hi,hp⟩;obtain⟨q,e,hy⟩:=hl i ys H2 hp;refine⟨e,by omega, ?_⟩;by_cases hlt:i<xs.length
 ·refine .inr ⟨⟨xs,xs[i],q,by simp [hlt]⟩, ?_⟩;rintro x H3 ⟨c,y,hc,rfl,rfl,h⟩;exact hs i m ys y c _ (h xs q) hm hp hc
 ·obtain rfl:i=xs.length:=by omega
  exact .inl ⟨⟨xs,q,tP _⟩,hd ys H2 hp⟩
def CW2{α:Type}(zs:List α)(Pj:Nat->List V->L2.St->Hp->Prop)(j m:Nat)(ys:List V)(σ:L2.St)(H:Hp):Prop:=m=zs.length-j/\j<=zs.length/\Pj j ys σ H
theorem YV{α:Type}{zs:List α}{Pj:Nat->List V->L2.St->Hp->Prop}{j m:Nat}{ys:List V}{σ:L2.St}{H:Hp}{x:α}(h:zs[j]? = some x)(hm:m=zs.length-j)(q:Pj (j+1) ys σ H):∃m',m'<m/\CW2 zs Pj (j+1) m' ys σ H:=by
 have:=(gC.mp h).1;exact⟨_,by omega,rfl,this,q⟩
theorem MD{K:dD}{a:Addr}{xs:List V}{σ0:L2.St}{g:TG}{wi2:TI}{g2:TG}{te:TE}{Q:VK}{p:Addr}{H':Hp}(Pv:Nat->Hp->Prop)(h0:Pv 0 H')(hl:∀i H2,Pv i H2->SqL K H2 a xs)
  (hs:∀i m x H2,xs[i]? = some x->m=xs.length-i->Pv i H2->g x σ0 H2 fun σ4 H4=>wi2 σ4 H4 λJ2 H5=>
   ∃W2:Nat->Nat->List V->L2.St->Hp->Prop,(∃m2 ys,W2 0 m2 ys σ4 H5)/\∀j m2 ys σ5 H6,W2 j m2 ys σ5 H6->H6 p=some (.lst ys)/\ys.length<sizeLine/\
    ((J2.stop j H6/\Keep σ0 σ5/\∃m',m'<m/\m'=xs.length-(i+1)/\i+1<=xs.length/\Pv (i+1) H6)∨(J2.go j H6/\∀y H7,J2.yld j H6 y H7->g2 y σ5 H7 fun σ8 H8=>te σ8 H8 λz H9=>H9 p=some (.lst ys)/\∃m2',m2'<m2/\W2 (j+1) m2' (ys++[z]) σ8 (upd H9 p (.lst (ys++[z]))))))
  (hd:∀H2,Pv xs.length H2->Q (.ref p) H2):CompGo2 σ0 (Itl K a) g wi2 g2 te Q p H':=by
 refine⟨λi m H=>m=xs.length-i/\i<=xs.length/\Pv i H,⟨_,rfl,tQ _,h0⟩, ?_⟩;rintro i m H2 ⟨hm,hi,hp⟩;have q:=hl i H2 hp;by_cases hlt:i<xs.length
 ·refine .inr ⟨⟨xs,xs[i],q,by simp [hlt]⟩, ?_⟩;rintro x H3 ⟨rfl,y⟩;exact hs i m x _ (y xs q) hm hp
 ·obtain rfl:i=xs.length:=by omega
  exact .inl ⟨⟨xs,q,tP _⟩,hd H2 hp⟩
theorem NZ{K:dD}{b:Addr}{zs:List V}{σ0:L2.St}{g2:TG}{te:TE}{p:Addr}{σ4:L2.St}{H5:Hp}{ys0:List V}{F:Hp->Prop}(Pj:Nat->List V->L2.St->Hp->Prop)(h0:Pj 0 ys0 σ4 H5)(hl:∀j ys σ H,Pj j ys σ H->SqL K H b zs/\H p=some (.lst ys)/\ys.length<sizeLine)
  (hs:∀j m ys z σ H,zs[j]? = some z->m=zs.length-j->Pj j ys σ H->g2 z σ H fun σ8 H8=>te σ8 H8 λy H9=>H9 p=some (.lst ys)/\∃m',m'<m/\CW2 zs Pj (j+1) m' (ys++[y]) σ8 (upd H9 p (.lst (ys++[y])))) (hd:∀ys σ H,Pj zs.length ys σ H->Keep σ0 σ/\F H) :
  ∃W2:Nat->Nat->List V->L2.St->Hp->Prop,(∃m2 ys,W2 0 m2 ys σ4 H5)/\∀j m2 ys σ5 H6,W2 j m2 ys σ5 H6->H6 p=some (.lst ys)/\ys.length<sizeLine/\
    (((Itl K b).stop j H6/\Keep σ0 σ5/\F H6)∨((Itl K b).go j H6/\∀y H7,(Itl K b).yld j H6 y H7->g2 y σ5 H7 fun σ8 H8=>te σ8 H8 λz H9=>H9 p=some (.lst ys)/\∃m2',m2'<m2/\W2 (j+1) m2' (ys++[z]) σ8 (upd H9 p (.lst (ys++[z]))))):=by
 refine⟨CW2 zs Pj,⟨_,ys0,rfl,tQ _,h0⟩, ?_⟩;rintro j m ys σ H ⟨hm,hj,hp⟩;obtain⟨q,e,hy⟩:=hl j ys σ H hp;refine⟨e,hy, ?_⟩;by_cases hlt:j<zs.length
 ·refine .inr ⟨⟨zs,zs[j],q,by simp [hlt]⟩, ?_⟩;rintro x H3 ⟨rfl,y⟩;exact hs j m ys x σ _ (y zs q) hm hp
 ·obtain rfl:j=zs.length:=by omega
  exact .inl ⟨⟨zs,q,tP _⟩,hd ys σ H hp⟩
theorem UD{K:dD}{a b:Addr}{ts us:List V}{σ0:L2.St}{g:TG}{te:TE}{Q:VK}{p:Addr}{H':Hp}(Pv:Nat->List V->Hp->Prop)(hle:us.length=ts.length)(hz:us.length<sizeLine)(h0:Pv 0 [] H')
  (hl:∀i ys H2,Pv i ys H2->SqL K H2 a ts/\SqL K H2 b us/\H2 p=some (.lst ys))
  (hs:∀i m ys x y c H2,ts[i]? = some x->us[i]? = some y->m=us.length-i->ys.length=i->Pv i ys H2->H2 c=none->g (.ref c) σ0 (upd H2 c (.tup [x,y])) fun σ4 H4=>Keep σ0 σ4/\te σ4 H4 λy H5=>H5 p=some (.lst ys)/\∃m',m'<m/\CompW us Pv (i+1) m' (ys++[y]) (upd H5 p (.lst (ys++[y]))))
  (hd:∀ys H2,ys.length=us.length->Pv us.length ys H2->Q (.ref p) H2):CompGoF σ0 (ItzL K a b) g te Q p H':=by
 refine⟨CompW us Pv,⟨_,rfl,tQ _,rfl,h0⟩, ?_⟩;rintro i m ys H2 ⟨hm,hi,hy,hp⟩;obtain⟨q1,q2,e⟩:=hl i ys H2 hp;refine⟨e,by omega, ?_⟩;by_cases hlt:i<us.length
 ·have h2:i<ts.length:=by omega
  refine .inr ⟨⟨ts,us,ts[i],us[i],q1,q2,by simp [h2],by simp [hlt]⟩, ?_⟩;rintro _ _ ⟨c,x,y,hc,rfl,rfl,h1,h2⟩;exact hs i m ys x y c H2 (h1 _ q1) (h2 _ q2) hm hy hp hc
 ·obtain rfl:i=us.length:=by omega
  exact .inl ⟨⟨ts,us,q1,q2,.inr uU⟩,hd ys H2 hy hp⟩
theorem SB{X:Cx}{scope:Scope}{own j0 j1 j2:Nat}{N:List Str}{x0 x1 x2:Str}(h0:N[own]? = some x0)(h1:N[own+1]? = some x1)(h2:N[own+2]? = some x2)(a:X.N[j0]? = some x0/\X.env.kindOf x0=some .cell/\(relabel scope X.env).names.lookup x0=some .cell/\X.env.scope.names.lookup x0=some .cell)
  (b:X.N[j1]? = some x1/\X.env.kindOf x1=some .cell/\(relabel scope X.env).names.lookup x1=some .cell/\X.env.scope.names.lookup x1=some .cell) (c:X.N[j2]? = some x2/\X.env.kindOf x2=some .cell/\(relabel scope X.env).names.lookup x2=some .cell/\X.env.scope.names.lookup x2=some .cell) :
  ∀(k j:Nat) (x:Str),[j0,j1,j2][k]? = some j->N[own+k]? = some x->X.N[j]? = some x/\X.env.kindOf x=some .cell/\(relabel scope X.env).names.lookup x=some .cell/\X.env.scope.names.lookup x=some .cell:=by
 intro k j x e1 e2
 match k,e1,e2 with
 | 0,e1,e2=>cases e1;rw[tN,h0]at e2;cases e2;exact a
 | 1,e1,e2=>cases e1;rw[h1]at e2;cases e2;exact b
 | 2,e1,e2=>cases e1;rw[h2]at e2;cases e2;exact c
 | k+3,e1,_=>cases e1
theorem vW{cl cells:List (Str×Addr)}(h:∀y∈cl,cells.lookup y.1=some y.2):∀x c,cl.lookup x=some c->cells.lookup x=some c:=λx c e=>h (x,c) (PySem.mem_of_lookup e)
theorem SU{X:Cx}{N:List Str}{elt target iter c:Expr}{scope:Scope}{pos:Pos}{wi:TI}{g:TG}{tt:TT}{te:TE}(hc:X.calm=true)
  (hk:scope.kind=.function) (hfree:∀x∈scope.names,x.2≠.free) (hcell:∀x∈scope.names,x.2≠.cell) (hnames:∀x∈scope.names,x.2=.local->scope.names.lookup x.1=some .local)
  (hi:PI X target iter wi) (hg:∀C fp s2 H2,PG (kW X N scope C fp s2 H2) target g) (ht:∀C fp s2 H2,PT (kW X N scope C fp s2 H2) c tt) (he:∀C fp s2 H2,PE (kW X N scope C fp s2 H2) elt te)
  (hs:∀x,foldedSetIterable iter X.env x=pure x:=by intro _;rfl):PE X (.ListComp elt [⟨target,iter,[c],0⟩] scope pos) (UZ N.length wi g tt te):=
 WF hc hk (λx=>⟨λz=>hcell _ (PySem.mem_of_lookup z) rfl,λz=>hfree _ (PySem.mem_of_lookup z) rfl⟩) hfree hcell hnames hi hg ht he hs
def spComb:Sp:=λvs H Q _=>∃(a b:Addr) (u d:Rw) (l:Nat),vs=[.ref a,.ref b,.int l]/\H a=some (.lst (u.map V.int))/\H b=some (.lst (d.map V.int))/\u.length=d.length/\l<u.length/\u.length<=1000/\(∀i∈u,i.natAbs<2^50000)/\(∀i∈d,i.natAbs<2^50000)/\
 ∀(p:Addr) (H':Hp),H p=none->Same H H'->H' p=some (.lst ((zL u d l).map V.int))->Q (.ref p) H'
theorem vO{r:Rw}{l:Nat}(h:l<r.length):r.getD l 0∈r:=by
 rw[uY,gE h];exact mV h
theorem scCb:FnScope ["up","down","letter"] ["up","down","letter"] (jM PF):=⟨rfl,rfl,rfl,by decide +kernel,rfl,by decide +kernel,by decide +kernel⟩
theorem ok_comb(F:Fun K "combined" "combined" PF f fd)(T:Txt mg):FnOk P w K mg base CX0 1 f fd ["up","down","letter"] spComb:=by
 refine F.ok scCb (λvs H Q E h=>?_) (λcdv A outer s H vs Q E hr h=>?_)
 ·obtain⟨a,b,u,d,l,rfl,_⟩:=h
  rfl
 ·obtain⟨a,b,u,d,l,rfl,ha,hb,hl,hll,h1000,bu,bd,go⟩:=h;refine⟨_,jF (jU (vL (own:=2) (idx:=[0,1,2]) (N:=["first","second","up","down","letter"]) rfl rfl rfl (by decide +kernel) (by decide +kernel) (vW (by intro y hy;simp only[nT,mS,or_false]at hy;rcases hy with rfl | rfl | rfl<;>rfl)) (vC rfl) rfl (SB rfl rfl rfl ⟨rfl,rfl,rfl,rfl⟩ ⟨rfl,rfl,rfl,rfl⟩ ⟨rfl,rfl,rfl,rfl⟩) (IY (by rfl) T.zip (jA (pv 0) (jA (pv 1) jC))) (λC fp s2 H2=>show PG (jK _ ["first","second","up","down","letter"] _ _ C fp s2 H2) _ (TU K 2 (wP (kT 0) (wP (kT 1) gNil)))from qI (X:=jK _ ["first","second","up","down","letter"] _ _ C fp s2 H2) rfl (jQ (jI (i:=0) (show List.Nodup (["first","second","up","down","letter"]:List Str) by decide +kernel) rfl (Or.inl rfl) (Or.inr rfl)) (jQ (jI (i:=1) (show List.Nodup (["first","second","up","down","letter"]:List Str) by decide +kernel) rfl (Or.inl rfl) (Or.inr rfl)) kN))) (λC fp s2 H2=>jJ kQ (jJ qC (pv 0) (qX kZ (jN (show IxR (jK _ ["first","second","up","down","letter"] _ _ C fp s2 H2) (BY K)from kH) (pv 3) (pv 4) (λ_ _=>rfl)))) (jJ qC (pv 1) (jN (show IxR (jK _ ["first","second","up","down","letter"] _ _ C fp s2 H2) (BY K)from kH) (pv 2) (pv 4) (λ_ _=>rfl)))))), ?_⟩;try dsimp only[cxK]
  have up5:∀{i:Int},i.natAbs<2^50000->i.natAbs<2^100000:=λh=>kK h (by decide);have lz:l<d.length:=by omega
  refine⟨_,rfl,_,rfl,a,b,rfl,⟨_,SqL.of ha⟩,⟨_,SqL.of hb⟩,λp H1 n1 s1 e1=>?_⟩;refine UD (ts:=u.map V.int) (us:=d.map V.int) (CmI (λk=>((zL u d l).take k).map V.int) p H) (by simp [hl]) (by rw[mZ,<-hl];exact hJ h1000 (by decide)) ⟨s1,e1,rfl⟩ (λi ys H2 h=>⟨SqL.of (h.s _ _ ha),SqL.of (h.s _ _ hb),h.e⟩) ?_ ?_
  ·rintro k m ys x y c H2 hx hy hm hyl ⟨s2,h2,ey⟩ hc;rw[mH]at hx hy;obtain⟨x',hx',rfl⟩:=Option.map_eq_some_iff.mp hx;obtain⟨y',hy',rfl⟩:=Option.map_eq_some_iff.mp hy;have s3:Same H2 (upd H2 c (.tup [.int x',.int y'])):=jY _ hc;have e3:(upd H2 c (.tup [.int x',.int y'])) c=some (.tup [.int x',.int y']):=jE;generalize upd H2 c (.tup [.int x',.int y'])=H3 at s3 e3;have s23:=s2.trans s3;have dl:=bd _ (vO lz);have ul:=bu _ (vO hll);refine⟨c,_,rfl,SqT.of e3,rfl,_,_,rfl,_,_,rfl,rfl,QQ, ?_⟩;refine⟨_,rfl,_,rfl,_,rfl,b,_,_,_,rfl,rfl,SqL.of (s23 _ _ hb),xI lz,_,rfl,_,_,rfl,rfl,⟨up5 (bu _ (gQ hx')),up5 (by rw[nM];exact dl)⟩, ?_⟩;refine⟨_,rfl,_,rfl,_,rfl,a,_,_,_,rfl,rfl,SqL.of (s23 _ _ ha),xI hll,_,_,rfl,rfl,⟨up5 (bd _ (gQ hy')),up5 ul⟩,_,_,rfl,rfl, ?_⟩;refine qB (by rw[mH,hy'];rfl) hm hyl (s3 _ _ h2) ⟨jZ s23 n1,jE, ?_⟩;rw[ey,mJ,nA]
   congr 1
   have:(zL u d l)[k]? = some (x' * -(d.getD l 0)+y'*u.getD l 0):=by unfold zL;rw[List.getElem?_zipWith,hx',hy']
   rw[this]
   rfl
  ·rintro ys H2 hyl ⟨s2,h2,ey⟩;have el:(zL u d l).length=(d.map V.int).length:=by rw[AO hl,mZ,hl]
   rw[<-el,mT]at ey;exact go p H2 n1 s2 (by rw[h2,ey])
def RR(H:Hp)(v:V)(r:Rw):Prop:=∃p,v=.ref p/\H p=some (.lst (r.map V.int))
theorem RR.same{H H':Hp}{v:V}{r:Rw}(h:RR H v r)(s:Same H H'):RR H' v r:=let ⟨p,e,q⟩:=h;⟨p,e,s _ _ q⟩
structure FlI(H1:Hp)(q:Addr)(af:List Rw)(pr:Rw->Bool)(i:Nat)(ys:List V)(H2:Hp):Prop where
 s:Same H1 H2
 e:H2 q=some (.lst ys)
 n:ys.length<=i
 pr:Paired (RR H1) ys ((af.take i).filter pr)
theorem dFlt{K:dD}{a:Addr}{xs:List V}{af:List Rw}{H1:Hp}{σ:L2.St}{l:Nat}{tt:TT}{pr:Rw->Bool}{Q:VK}(e0:σ[0]? = some (some (.ref a)))(e1:σ[1]? = some (some (.int l)))(rp:RwsP H1 a xs af)(hl:∀r∈af,l<r.length)(hz:af.length<=3200)
  (ht:∀(p:Addr) (r:Rw) (H2:Hp) (F:Bool->Hp->Prop),H2 p=some (.lst (r.map V.int))->l<r.length->F (pr r) H2->tt [some (.ref p),some (.int l)] H2 F) (go:∀(q:Addr) (ys:List V) (H':Hp),H1 q=none->Same H1 H'->RwsP H' q ys (af.filter pr)->Q (.ref q) H'):ID 1 [1] (XW K (kP 0)) (kT 0) tt (kP 0) σ H1 Q:=by
 have lx:xs.length=af.length:=Paired.length rp.pr;refine⟨_,e0,a,rfl,⟨_,SqL.of rp.at'⟩,λq H2 n2 s2 e2=>?_⟩;have es:(List.replicate 1 none++[1].map λj=>(σ[j]?).getD none:L2.St)=[none,some (.int l)]:=by
  show none::[(σ[1]?).getD none]=_;rw[e1];rfl
 rw[es];refine BU (K:=K) (a:=a) (xs:=xs) (FlI H1 q af pr) (by rw[lx];exact hJ hz (by decide)) ⟨s2,e2,tP _,.nil⟩ (λi ys H3 h=>⟨SqL.of (h.s _ _ rp.at'),h.e,h.n⟩) ?_ ?_
 ·intro i m ys x H3 hx hm h;obtain⟨r,hr,p,rfl,er⟩:=Paired.at rp.pr hx;have rm:=gQ hr;refine⟨zJ,ht p r H3 _ (h.s _ _ er) (hl r rm) ?_⟩;have tk:(af.take (i+1)).filter pr=(af.take i).filter pr++[r].filter pr:=by rw[mJ,hr,List.filter_append];rfl
  cases hp:pr r with
  | true=>
   refine NY ⟨_,rfl,h.e,AN hx hm ⟨jZ h.s n2,jE,by rw[hU,gP];have:=h.n;omega, ?_⟩⟩;rw[tk,List.filter_cons_of_pos hp,List.filter_nil];exact Paired.app h.pr (.cons ⟨p,rfl,er⟩ .nil)
  | false=>
   refine yR (AN hx hm ⟨h.s,h.e,by have:=h.n;omega, ?_⟩);rw[tk,List.filter_cons_of_neg (by rw[hp];decide),List.filter_nil,List.append_nil];exact h.pr
 ·intro ys H3 h;have:=h.pr;rw[lx,mT]at this;exact go q ys H3 n2 h.s ⟨h.e,Paired.to (λ_ _ k=>k.same h.s) this⟩
def uL(m l:Nat)(F:List (List Nat×Rw))(r:Rw):List (List Nat×Rw):=if (xF m r).length<=l+2/\xF m r∉F.map (·.1)then F++[(xF m r,r)]else F
theorem uK(m l:Nat):∀(rs:List Rw) (F:List (List Nat×Rw)),uB m l F rs=rs.foldl (uL m l) F
 | [],_=>rfl
 | r::rs,F=>by
  show(if _ then _ else _)=rs.foldl (uL m l) (uL m l F r);unfold uL;split
  ·exact uK m l rs _
  ·exact uK m l rs _
def ikN(b:List Nat):List Key:=LwD.ik (b.map λ(i:Nat)=>((i:Nat):Int))
theorem QT{b c:List Nat}(h:ikN b=ikN c):b=c:=by
 have:=EX h;exact(List.map_inj_right (f:=λ(i:Nat)=>((i:Nat):Int)) (λ_ _ e=>by omega)).mp this
def KeptD(H:Hp)(ag:List (List Key×V))(F:List (List Nat×Rw)):Prop:=Paired (λkv x=>kv.1=ikN x.1/\RR H kv.2 x.2) ag F
theorem kd_val{H:Hp} :∀{ag:List (List Key×V)} {F:List (List Nat×Rw)},KeptD H ag F->∀(b:List Nat),((xU ag (ikN b))=none↔b∉F.map (·.1)):=by
 intro ag F h b;induction h with
 | nil=>exact⟨(λ_ z=>nomatch z),λ_=>rfl⟩
 | @cons kv x ag F k t ih=>
  unfold xU at ih ⊢;rw[List.find?_cons];by_cases e:kv.1=ikN b
  ·have xb:x.1=b:=QT (k.1.symm.trans e);simp [e,xb]
  ·have xb:x.1≠b:=λz=>e (by rw[k.1,z]);simp only[nB e];rw[ih];simp [Ne.symm xb]
theorem kd_put{H:Hp}{ag:List (List Key×V)}{F:List (List Nat×Rw)}{b:List Nat}{r:Rw}{v:V}(h:KeptD H ag F)(n:b∉F.map (·.1))(hv:RR H v r):KeptD H (zF ag (ikN b) v) (F++[(b,r)]):=by
 rw[CM]
 ·exact Paired.app h (.cons ⟨rfl,hv⟩ .nil)
 ·intro p hp z;obtain⟨i,hi⟩:=gO.mp hp;obtain⟨x,hx,k,_⟩:=Paired.at h hi;exact n (tF.mpr ⟨x,gQ hx,QT (k.symm.trans z)⟩)
structure BeI(H:Hp)(q:Addr)(r:Rw)(m i:Nat)(ys:List V)(H2:Hp):Prop where
 s:Same H H2
 e:H2 q=some (.lst ys)
 y:ys=(((List.range i).filter λj=>decide (r.getD (m+2+j) 0≠0)).map λ(j:Nat)=>V.int (j:Int))
structure PrI(H1:Hp)(q:Addr)(us ds:List Rw)(l i:Nat)(H2:Hp):Prop where
 s:Same H1 H2
 ex:∃ys,H2 q=some (.lst ys)/\Paired (RR H2) ys (uA l (us.take i) ds)
structure PjI(H1:Hp)(q:Addr)(pu dl:Addr)(us ds:List Rw)(u:Rw)(l i j:Nat)(ys:List V)(σ:L2.St)(H2:Hp):Prop where
 s:Same H1 H2
 e:H2 q=some (.lst ys)
 pr:Paired (RR H2) ys (uA l (us.take i) ds++(ds.take j).map λd=>zL u d l)
 st:∃x,σ=[some (.ref pu),x,some (.int l),some (.ref dl)]
theorem GQ(l:Nat)(us ds:List Rw):(uA l us ds).length=us.length*ds.length:=by
 unfold uA;induction us with
 | nil=>simp
 | cons u us ih=>rw[List.flatMap_cons,hU,ih,mZ,mU,Nat.succ_mul,Nat.add_comm]
theorem NO{l i:Nat}{us ds:List Rw}{u:Rw}(h:us[i]? = some u):uA l (us.take (i+1)) ds=uA l (us.take i) ds++ds.map λd=>zL u d l:=by
 unfold uA;rw[mJ,h,List.flatMap_append];simp
theorem EF{H:Hp}{q:Addr}{ys:List V}{o:HO}{zs:List V}{R:List Rw}(hq:H q=some (.lst ys))(ne:∀v∈zs,v≠.ref q)(h:Paired (RR H) zs R):Paired (RR (upd H q o)) zs R:=by
 induction h with
 | nil=>exact .nil
 | cons k t ih=>
  refine .cons ?_ (ih λv hv=>ne v (gR _ hv));obtain⟨p,rfl,e⟩:=k;exact⟨p,rfl,by rw[jO λz=>ne _ (mF ..) (by rw[z])];exact e⟩
theorem VR{H:Hp}{q:Addr}{ys:List V}{R:List Rw}(hq:H q=some (.lst ys))(h:Paired (RR H) ys R):∀v∈ys,v≠.ref q:=λv hv z=>by
 obtain⟨i,hi⟩:=gO.mp hv;obtain⟨r,_,p,e,q'⟩:=Paired.at h hi;rw[z]at e;cases e;rw[hq]at q';have:ys=r.map V.int:=by injection (Option.some.inj q')
 rw[this]at hv;obtain⟨n,_,y⟩:=tF.mp hv;rw[z]at y;cases y
inductive TkI(K:dD)(H:Hp)(a dn cn:Addr)(ycs:List V)(l m:Nat)(R:List Rw)(d:Addr)(i:Nat):L2.St->Hp->Prop where
 | mk {H':Hp} {ag:List (List Key×V)} {F:List (List Nat×Rw)} {u3 u5 u7 u8:Option V} (s:Same H H') (ed:H' d=some (.dT ag)) (kd:KeptD H' ag F) (ec:H' cn=some (.lst ycs)) (pc:Paired (RR H') ycs R) (eF:F=(R.take i).foldl (uL m l) []) (nl:F.length<=i):TkI K H a dn cn ycs l m R d i [some (.ref a),some (.int l),some (.int m),u3,some (.ref dn),u5,some (.ref d),u7,u8] H'
def spTk:Sp:=λvs H Q _=>∃(a:Addr) (l m S:Nat) (xs:List V) (af:List Rw),vs=[.ref a,.int l,.int m]/\RwsP H a xs af/\(∀r∈af,r.length=m+2+S)/\l<m/\m<=4/\S<=20/\af.length<=3200/\(∀r∈af,∀i∈r,i.natAbs<2^50000)/\
 ∀(p:Addr) (ys:List V) (H':Hp),H p=none->Same H H'->RwsP H' p ys (wG m l af)->Q (.ref p) H'
theorem scTk:FnScope ["rows","letter","many","ups","downs","others","found","row","bearers"] ["rows","letter","many"] (jM IM):=⟨rfl,rfl,rfl,by decide +kernel,rfl,by decide +kernel,by decide +kernel⟩
theorem ok_tk{fC:Addr}{fdC:FuncData}(F:Fun K "taken_away" "taken_away" IM f fd)(T:Txt mg)(DC:Df K mg "combined" PF ["up","down","letter"] fC fdC)(GC:FnOk P w K mg base CX0 1 fC fdC ["up","down","letter"] spComb):FnOk P w K mg base CX0 2 f fd ["rows","letter","many"] spTk:=by
 refine F.ok scTk (λvs H Q E h=>?_) (λcdv A outer s H vs Q E hr h=>?_)
 ·obtain⟨a,l,m,S,xs,af,rfl,_⟩:=h
  rfl
 ·obtain⟨a,l,m,S,xs,af,rfl,rp,hlen,hlm,m4,S20,hR,hb,go⟩:=h;have hu:_+1<cLine:=hJ (Nat.add_le_add_left (by decide:1<=64) _) hr.units;refine⟨_,jD (BN (i:=3) scTk.nd rfl (Or.inl rfl) (own:=1) (idx:=[1]) (N:=["row","letter"]) rfl rfl rfl (by decide +kernel) (by decide +kernel) (vW (by intro y hy;simp only[nT,mS,or_false]at hy;rcases hy with rfl;rfl)) (vC rfl) rfl (vR rfl ⟨rfl,rfl,rfl,rfl⟩) (qF (pv 0)) (λC fp s2 H2=>(jI (i:=0) (show List.Nodup (["row","letter"]:List Str) by decide +kernel) rfl (Or.inl rfl) (Or.inr rfl))) (λC fp s2 H2=>jV BP (jN (show IxR (jK _ ["row","letter"] _ _ C fp s2 H2) (BY K)from kH) (pv 0) (pv 1) (λ_ _=>rfl)) jB (jW _)) (λC fp s2 H2=>pv 0)) (jD (jP (i:=4) scTk.nd rfl (Or.inr rfl) (GJ (own:=1) (idx:=[1]) (N:=["row","letter"]) rfl rfl rfl (by decide +kernel) (by decide +kernel) (vW (by intro y hy;simp only[nT,mS,or_false]at hy;rcases hy with rfl;rfl)) (vC rfl) rfl (vR rfl ⟨rfl,rfl,rfl,rfl⟩) (qF (pv 0)) (λC fp s2 H2=>(jI (i:=0) (show List.Nodup (["row","letter"]:List Str) by decide +kernel) rfl (Or.inl rfl) (Or.inr rfl))) (λC fp s2 H2=>jV zG (jN (show IxR (jK _ ["row","letter"] _ _ C fp s2 H2) (BY K)from kH) (pv 0) (pv 1) (λ_ _=>rfl)) jB (jW _)) (λC fp s2 H2=>pv 0))) (jD (BN (i:=5) scTk.nd rfl (Or.inl rfl) (own:=1) (idx:=[1]) (N:=["row","letter"]) rfl rfl rfl (by decide +kernel) (by decide +kernel) (vW (by intro y hy;simp only[nT,mS,or_false]at hy;rcases hy with rfl;rfl)) (vC rfl) rfl (vR rfl ⟨rfl,rfl,rfl,rfl⟩) (qF (pv 0)) (λC fp s2 H2=>(jI (i:=0) (show List.Nodup (["row","letter"]:List Str) by decide +kernel) rfl (Or.inl rfl) (Or.inr rfl))) (λC fp s2 H2=>jV yH (jN (show IxR (jK _ ["row","letter"] _ _ C fp s2 H2) (BY K)from kH) (pv 0) (pv 1) (λ_ _=>rfl)) jB (jW _)) (λC fp s2 H2=>pv 0)) (jD (jP (i:=6) scTk.nd rfl (Or.inl rfl) (AH)) (jD (qM PassesOwn.never rfl (qF (jJ xL (pv 5) (SV (own:=2) (idx:=[1,4]) (N:=["up","down","letter","downs"]) rfl rfl rfl (by decide +kernel) (by decide +kernel) (vW (by intro y hy;simp only[nT,mS,or_false]at hy;rcases hy with rfl | rfl<;>rfl)) (vC rfl) rfl (IA rfl rfl ⟨rfl,rfl,rfl,rfl⟩ ⟨rfl,rfl,rfl,rfl⟩) (qF (pv 3)) (λC fp s2 H2=>(jI (i:=0) (show List.Nodup (["up","down","letter","downs"]:List Str) by decide +kernel) rfl (Or.inl rfl) (Or.inr rfl))) (λC fp s2 H2=>show PI (jK _ ["up","down","letter","downs"] _ _ C fp s2 H2) _ _ (XW K (kP 3))from qF (pv 3)) (λC fp s2 H2=>(jI (i:=1) (show List.Nodup (["up","down","letter","downs"]:List Str) by decide +kernel) rfl (Or.inl rfl) (Or.inr rfl))) (λC fp s2 H2=>jG GC hr rfl DC.m DC.F.kp DC.b .nil jR (jA (pv 0) (jA (pv 1) (jA (pv 2) jC))))))) (jI (i:=7) scTk.nd rfl (Or.inl rfl)) (jD (jP (i:=8) scTk.nd rfl (Or.inl rfl) (kL vZ (by rfl) T.tup boot_tuple (jA (SU (N:=["at","share"]) rfl rfl (by decide +kernel) (by decide +kernel) (by decide +kernel) (AG (by rfl) T.enum (jA (vK vJ (pv 7) (vH (jJ kQ (pv 2) jB)) yT) jC)) (λC fp s2 H2=>show PG (kW _ ["at","share"] _ C fp s2 H2) _ (TU K 2 (wP (kT 0) (wP (kT 1) gNil)))from qI (X:=kW _ ["at","share"] _ C fp s2 H2) rfl (jQ (jI (i:=0) (show List.Nodup (["at","share"]:List Str) by decide +kernel) rfl (Or.inl rfl) (Or.inl rfl)) (jQ (jI (i:=1) (show List.Nodup (["at","share"]:List Str) by decide +kernel) rfl (Or.inl rfl) (Or.inl rfl)) kN))) (λC fp s2 H2=>jV yG (pv 1) jB (jW _)) (λC fp s2 H2=>pv 0)) jC))) (jF (kS (PW.pt (IW (jV op_le (kO qD (by rfl) T.len PySem.boot_len (jA (pv 8) jC)) (jJ kQ (pv 1) jB) (jW _)) (CL (BD (SW hu (pv 8) (pv 6)))))) (jF (AE hu (pv 6) (pv 8) (pv 7) rfl)) kD)))) (jF (jU (LwD.WC rfl (by rfl) T.lst (pv 6)))))))), ?_⟩
  try dsimp only[cxK]
  have ll:∀r∈af,l<r.length:=λr hr'=>by rw[hlen r hr'];omega
  refine dFlt (pr:=λr=>decide (r.getD l 0>0)) rfl rfl rp ll hR (λp r H2 F e h k=>⟨_,rfl,_,rfl,p,_,_,_,rfl,rfl,SqL.of e,xI h,_,_,rfl,rfl,_,rfl,k⟩) λu1 y1 H1 n1 s1 p1=>?_;refine dFlt (pr:=λr=>decide (r.getD l 0<0)) rfl rfl (rp.same s1) ll hR (λp r H2 F e h k=>⟨_,rfl,_,rfl,p,_,_,_,rfl,rfl,SqL.of e,xI h,_,_,rfl,rfl,_,rfl,k⟩) λu2 y2 H2 n2 s2 p2=>?_;refine dFlt (pr:=λr=>decide (r.getD l 0=0)) rfl rfl (rp.same (s1.trans s2)) ll hR (λp r H2 F e h k=>⟨_,rfl,_,rfl,p,_,_,_,rfl,rfl,SqL.of e,xI h,rfl,_,rfl,by rw[qG];exact k⟩) λu3 y3 H3 n3 s3 p3=>?_;intro d nd;have s4:Same H3 (upd H3 d (.dT [])):=jY _ nd;have e4:(upd H3 d (.dT [])) d=some (.dT []):=jE;generalize upd H3 d (.dT [])=H4 at s4 e4;have sH4:Same H H4:=s1.trans (s2.trans (s3.trans s4));have q1:RwsP H4 u1 y1 (ups l af):=p1.same (s2.trans (s3.trans s4));have q2:RwsP H4 u2 y2 (wQ l af):=p2.same (s3.trans s4);have q3:RwsP H4 u3 y3 (LQ l af):=p3.same s4;have ul:(ups l af).length<=af.length:=List.length_filter_le ..;have dl:(wQ l af).length<=af.length:=List.length_filter_le ..;have fl:(LQ l af).length<=af.length:=List.length_filter_le ..;have umem:∀r∈ups l af,r∈af:=λr h=>(List.mem_filter.mp h).1;have dmem:∀r∈wQ l af,r∈af:=λr h=>(List.mem_filter.mp h).1;have pl:∀i,(uA l ((ups l af).take i) (wQ l af)).length<=10240000:=λi=>by
   rw[GQ];have:((ups l af).take i).length<=3200:=by rw[mR];omega
   exact tD (nK this (tD dl hR)) (by decide)
  refine⟨_,rfl,_,rfl,u1,rfl,⟨_,SqL.of q1.at'⟩,λq H5 n5 s5 e5=>?_⟩;refine MD (K:=K) (a:=u1) (xs:=y1) (PrI H4 q (ups l af) (wQ l af) l) ⟨s5,_,e5,.nil⟩ (λi H6 h=>SqL.of (h.s _ _ q1.at')) ?_ ?_
  ·intro i m' x H6 hx hm h;obtain⟨u,hu',pu,rfl,eu⟩:=Paired.at q1.pr hx;obtain⟨ys6,e6,pr6⟩:=h.ex;refine⟨_,rfl,u2,rfl,⟨_,SqL.of (h.s _ _ q2.at')⟩, ?_⟩;refine NZ (K:=K) (b:=u2) (zs:=y2) (ys0:=ys6) (PjI H4 q pu u2 (ups l af) (wQ l af) u l i) ⟨h.s,e6,by rw[List.take_zero,List.map_nil,List.append_nil];exact pr6,_,rfl⟩ (λj ys σ H7 h2=>⟨SqL.of (h2.s _ _ q2.at'),h2.e, ?_⟩) ?_ ?_
   ·rw[Paired.length h2.pr,hU,mZ,mR,sizeLine_eq];have:=pl i;omega
   ·intro j m2 ys z σ H7 hz hm2 h2;obtain⟨dr,hd',pd,rfl,ed⟩:=Paired.at q2.pr hz;obtain⟨xx,rfl⟩:=h2.st;have um:=umem u (gQ hu');have dm:=dmem dr (gQ hd');have lu:=hlen u um;have ld:=hlen dr dm;refine⟨_,rfl,_,rfl,_,rfl,pu,pd,u,dr,l,rfl,h2.s _ _ eu,h2.s _ _ ed,lu.trans ld.symm,by omega,by omega,hb u um,hb dr dm,λp8 H8 n8 s8 e8=>⟨s8 _ _ h2.e,YV hz hm2 ⟨jZ (h2.s.trans s8) n5,jE, ?_,_,rfl⟩⟩⟩;have tk:(wQ l af).take (j+1)=(wQ l af).take j++[dr]:=by rw[mJ,hd'];rfl
    rw[tk,nA,<-mK];refine Paired.app (EF (s8 _ _ h2.e) (VR h2.e h2.pr) (Paired.to (λ_ _ k=>k.same s8) h2.pr)) (.cons ⟨p8,rfl, ?_⟩ .nil);rw[jO λz=>by rw[z,h2.e]at n8;cases n8];exact e8
   ·intro ys σ H7 h2;obtain⟨xx,rfl⟩:=h2.st;have ix:i<y1.length:=(gC.mp hx).1;refine⟨QQ,_,by omega,rfl,ix,h2.s,ys,h2.e, ?_⟩;have:=h2.pr;rw[Paired.length q2.pr,mT]at this;rw[NO hu'];exact this
  intro H6 h;obtain⟨ys6,e6,pr6⟩:=h.ex;rw[Paired.length q1.pr,mT]at pr6;have l6:ys6.length<=10240000:=by rw[Paired.length pr6];have:=pl (ups l af).length;rw[mT]at this;exact this
  refine⟨u3,q,y3,ys6,rfl,rfl,h.s _ _ q3.at',e6, ?_,λcn H7 n7 s7 e7=>⟨cn,rfl,⟨_,SqL.of e7⟩, ?_⟩⟩
  ·rw[Paired.length q3.pr,sizeLine_eq];omega
  have s47:Same H4 H7:=h.s.trans s7;have pc7:Paired (RR H7) (y3++ys6) (wZ l af):=Paired.app (Paired.to (λ_ _ k=>RR.same k s47) q3.pr) (Paired.to (λ_ _ k=>k.same s7) pr6);have cl:(y3++ys6).length=(wZ l af).length:=Paired.length pc7;have cok:∀r∈wZ l af,r.length=m+2+S:=λr hr'=>by
   rcases mem_cand.mp hr' with⟨h1,_⟩ | ⟨u,d',⟨h1,_⟩,⟨h2,_⟩,rfl⟩
   ·exact hlen r h1
   ·rw[AO ((hlen u h1).trans (hlen d' h2).symm)];exact hlen u h1
  refine xX (K:=K) (a:=cn) (xs:=y3++ys6) (TkI K H a u2 cn (y3++ys6) l m (wZ l af) d) (.mk (F:=[]) (sH4.trans s47) (s47 _ _ e4) .nil e7 pc7 rfl uU) (λi σ H8 _ h=>?_) (λi x σ H8 hx h=>?_) (fun σ H8 h=>?_)
  ·obtain⟨_,_,_,ec,_,_,_⟩:=h;exact SqL.of ec
  ·obtain⟨s8,ed,kd,ec,pc,eF,nl⟩:=h;rename_i ag FF v3 v5 v7 v8;obtain⟨r,hr',p,rfl,er⟩:=Paired.at pc hx;have rm:=gQ hr';have rL:=cok r rm;refine⟨_,rfl,_,rfl,_,_,rfl,rfl,_,rfl,p,_,rfl,SqL.of er,λq1' Ha na sa ea=>⟨q1',rfl,⟨_,SqL.of ea⟩,λq2' Hb nb sb eb=>?_⟩⟩;have cd:zV (r.map V.int) (some ((m:Int)+2)) none=(r.drop (m+2)).map V.int:=by
    rw[show((m:Int)+2)=((m+2:Nat):Int) by omega,FD,List.map_drop]
   rw[cd]at ea;refine MC (K:=K) (a:=q1') (xs:=(r.drop (m+2)).map V.int) (BeI Ha q2' r m) (by rw[mZ,List.length_drop,rL,sizeLine_eq];omega) ⟨sb,eb,rfl⟩ (λj ys H9 h=>⟨SqL.of (h.s _ _ ea),h.e, ?_⟩) ?_ ?_
   ·rw[h.y,mZ];exact tD (List.length_filter_le ..) (by rw[mM];exact tP _)
   ·intro j m' ys x c H9 hx' hm h hc;rw[mH]at hx';obtain⟨sv,hsv,rfl⟩:=Option.map_eq_some_iff.mp hx';have gj:r.getD (m+2+j) 0=sv:=by rw[<-HG,uY,hsv];rfl
    have s10:Same H9 (upd H9 c (.tup [.int j,.int sv])):=jY _ hc;refine⟨c,_,rfl,SqT.of jE,rfl,_,_,rfl,_,_,rfl,rfl,_,rfl,rfl,_,rfl, ?_⟩;rw[qG];have tk:∀b:Bool,decide (r.getD (m+2+j) 0≠0)=b->(List.range (j+1)).filter (λj=>decide (r.getD (m+2+j) 0≠0))=(List.range j).filter (λj=>decide (r.getD (m+2+j) 0≠0))++(if b then [j]else []):=λb hb=>by
     rw[nF,List.filter_append,mY,hb,List.filter_nil]
    by_cases z:sv=0
    ·refine vA (by rw[nH z];rfl) (AN (by rw[mH,hsv];rfl) hm ⟨h.s.trans s10,s10 _ _ h.e, ?_⟩);rw[h.y,tk false (by rw[gj,z];rfl)];simp
    ·refine xP (by rw[nB z];rfl) ⟨_,rfl,s10 _ _ h.e,AN (by rw[mH,hsv];rfl) hm ⟨jZ (h.s.trans s10) nb,jE, ?_⟩⟩;rw[h.y,tk true (by rw[gj];exact nH z)];simp
   intro ys H9 hB;have yB:ys=(xF m r).map λ(j:Nat)=>V.int (j:Int):=by
    rw[hB.y,mZ,List.length_drop]
    rfl
   refine⟨q2',ys,rfl,.inl ⟨SqL.of hB.e,λt nt=>?_⟩⟩;have s9t:Same H9 (upd H9 t (.tup ys)):=jY _ nt;have et:(upd H9 t (.tup ys)) t=some (.tup ys):=jE;generalize upd H9 t (.tup ys)=Ht at s9t et;have s8t:Same H8 Ht:=sa.trans (hB.s.trans s9t);dsimp only[kT];have yi:ys=((xF m r).map λ(j:Nat)=>((j:Nat):Int)).map V.int:=by rw[yB,tK];rfl
   have yl:ys.length=(xF m r).length:=by rw[yB,mZ]
   have tb:Ht t=some (.tup ((ikN (xF m r)).map kV)):=by rw[ikN,LwD.xB,<-yi];exact et
   have dg:DGet Ht d (.ref t) (xU ag (ikN (xF m r))):=.inr ⟨ag,ikN (xF m r),t,.inl (s8t _ _ ed),rfl,tb,rfl⟩;have vn:=kd_val kd (xF m r);have kd':KeptD Ht ag FF:=Paired.to (λ_ _ ⟨k1,k2⟩=>⟨k1,k2.same s8t⟩) kd;have tk:((wZ l af).take (i+1)).foldl (uL m l) []=uL m l FF r:=by
    rw[mJ,hr',List.foldl_append,<-eF]
    rfl
   have stay:¬((xF m r).length<=l+2/\xF m r∉FF.map (·.1))->TkI K H a u2 cn (y3++ys6) l m (wZ l af) d (i+1) [some (.ref a),some (.int l),some (.int m),v3,some (.ref u2),v5,some (.ref d),some (.ref p),some (.ref t)] Ht:=λnc=>
    .mk (s8.trans s8t) (s8t _ _ ed) kd' (s8t _ _ ec) (Paired.to (λ_ _ k=>RR.same k s8t) pc) (by rw[tk];exact(dA nc).symm) (by omega)
   refine⟨_,rfl,t,ys,rfl,.inr (SqT.of et),_,rfl,_,_,rfl,rfl,_,_,rfl,rfl,_,rfl, ?_⟩;by_cases c1:(xF m r).length<=l+2
   ·refine xP (nH (by rw[yl];omega)) ⟨_,rfl,_,rfl,d,_,rfl,dg,_,rfl, ?_⟩;cases hv:xU ag (ikN (xF m r))with
    | some w'=>
     refine yR (stay λc=>?_);rw[vn.mpr c.2]at hv;cases hv
    | none=>
     have nin:=vn.mp hv;have hd0:H d=none:=(s1.trans (s2.trans s3)).free nd;have kl:ag.length<sizeLine:=by rw[Paired.length kd,sizeLine_eq];have:=(gC.mp hx).1;rw[hU,Paired.length q3.pr]at this;omega
     have ru:∀{v:V} {x:Rw},RR Ht v x->RR (upd Ht d (.dT (zF ag (ikN (xF m r)) (.ref p)))) v x:=fun {v x} ⟨p',e',q'⟩=>⟨p',e',by rw[jO λz=>by rw[z,s8t _ _ ed]at q';cases q'];exact q'⟩;refine NY ⟨_,rfl,_,rfl,_,rfl,d,_,rfl,.inr ⟨ag,ikN (xF m r),t,s8t _ _ ed,rfl,tb,kl,rfl⟩, ?_⟩;refine .mk (jZ (s8.trans s8t) hd0) jE (Paired.to (λ_ _ ⟨k1,k2⟩=>⟨k1,ru k2⟩) (kd_put kd' nin ⟨p,rfl,s8t _ _ er⟩)) (by rw[jO λz=>by have:=s8t _ _ ec;rw[z,s8t _ _ ed]at this;cases this];exact s8t _ _ ec) (Paired.to (λ_ _ k=>ru (RR.same k s8t)) pc) (by rw[tk];exact(dC ⟨c1,nin⟩).symm) (by rw[hU,gP];omega)
   ·exact vA (nB (by rw[yl];omega)) (yR (stay λc=>c1 c.1))
  ·obtain⟨s8,ed,kd,ec,pc,eF,nl⟩:=h;rename_i ag FF v3 v5 v7 v8;rw[cl,mT]at eF;refine⟨_,rfl,d,ag,rfl,ed,λp9 H9 n9 s9 e9=>go p9 _ H9 (s8.free n9) (s8.trans s9) ⟨e9, ?_⟩⟩;unfold wG;rw[uK,<-eF];have:∀{ag:List (List Key×V)} {F:List (List Nat×Rw)},KeptD H8 ag F->Paired (λv r=>∃p,v=.ref p/\H9 p=some (.lst (r.map V.int))) (ag.map (·.2)) (F.map (·.2)):=λh=>by
    induction h with
    | nil=>exact .nil
    | cons k _ ih=>exact .cons (RR.same k.2 s9) ih
   exact this kd
theorem BK{u d:Rw}{l a b:Nat}(h:u.length=d.length)(hu:∀i∈u,i.natAbs<=2^a)(hd:∀i∈d,i.natAbs<=2^b):∀i∈zL u d l,i.natAbs<=2^(a+b+1):=λi hi=>by
 have g0:∀(r:Rw) (j n:Nat),(∀i∈r,i.natAbs<=2^n)->(r.getD j 0).natAbs<=2^n:=λr j n hr=>by
  by_cases hj:j<r.length
  ·exact hr _ (vO hj)
  ·rw[uY,gN (by omega)];exact tQ _
 obtain⟨j,hj⟩:=gO.mp hi;have e:=yQ (l:=l) h j;rw[uY,hj,Option.getD_some]at e;rw[e];have h1:=nK (g0 u j a hu) (g0 d l b hd);have h2:=nK (g0 d j b hd) (g0 u l a hu);rw[<-tU,<-nI,Nat.add_comm b a]at h2;rw[<-tU,<-nM (d.getD l 0),<-nI]at h1;refine tD (Int.natAbs_add_le _ _) ?_;rw[Nat.pow_succ];omega
theorem AJ{fs:List V}{i:Nat}{v:V}(h:fs.length=i+1)(hv:fs[i]? = some v):atI fs (-1)=some v:=by
 have:fs=fs.take i++[v]:=by
  have:=List.take_append_drop i fs;rw[List.drop_eq_getElem_cons (by omega),gK (by omega),(gC.mp hv).2]at this;exact this.symm
 rw[this];exact FI _ _
theorem BG(m l:Nat):∀(rs:List Rw) (F:List (List Nat×Rw)),(uB m l F rs).length<=F.length+rs.length
 | [],F=>tP _
 | r::rs,F=>by
  unfold uB;split
  ·have:=BG m l rs (F++[(xF m r,r)]);rw[hU,gP]at this;rw[mU];omega
  ·have:=BG m l rs F;rw[mU];omega
theorem FS(m l:Nat)(af:List Rw):(wG m l af).length<=af.length+af.length*af.length:=by
 unfold wG;rw[mZ];refine tD (BG m l _ []) ?_;unfold wZ;rw[List.length_nil,Nat.zero_add,hU,GQ];have h1:(LQ l af).length<=af.length:=List.length_filter_le ..;have h2:(ups l af).length<=af.length:=List.length_filter_le ..;have h3:(wQ l af).length<=af.length:=List.length_filter_le ..;have:=nK h2 h3;omega
structure StB(m S:Nat)(e:Nat)(af:List Rw):Prop where
 len:∀r∈af,r.length=m+2+S
 bit:∀r∈af,∀i∈r,i.natAbs<=2^gB e
structure St0(m S:Nat)(af:List Rw):Prop where
 b:StB m S 0 af
 pr:∀u∈af,∀d∈af,0<u.getD 0 0->d.getD 0 0<0->(∀i∈u,i.natAbs<=2^200)∨∀i∈d,i.natAbs<=2^200
theorem gB_up(e:Nat):gB e<=gB (e+1):=by
 cases e with
 | zero=>decide
 | succ e=>show gB (e+1)<=2*gB (e+1)+1;omega
theorem StB.next{m S e:Nat}{af:List Rw}(h:StB m S e af)(hc:∀u∈af,∀d∈af,0<u.getD e 0->d.getD e 0<0->∀i∈zL u d e,i.natAbs<=2^gB (e+1)):StB m S (e+1) (wG m e af):=by
 refine⟨λr hr=>?_,λr hr i hi=>?_⟩
 ·rcases mem_cand.mp (AU hr)with⟨h1,_⟩ | ⟨u,d,⟨h1,_⟩,⟨h2,_⟩,rfl⟩
  ·exact h.len r h1
  ·rw[AO ((h.len u h1).trans (h.len d h2).symm)];exact h.len u h1
 ·rcases mem_cand.mp (AU hr)with⟨h1,_⟩ | ⟨u,d,⟨h1,p1⟩,⟨h2,p2⟩,rfl⟩
  ·exact tD (h.bit r h1 i hi) (gS (by decide) (gB_up e))
  ·exact hc u h1 d h2 p1 p2 i hi
theorem yI{m S:Nat}{af:List Rw}(h:St0 m S af):∀e,StB m S e (kG m af e)
 | 0=>h.b
 | 1=>h.b.next λu hu d hd p1 p2 i hi=>by
  have hl:=(h.b.len u hu).trans (h.b.len d hd).symm;rcases h.pr u hu d hd p1 p2 with k | k
  ·exact BK hl k (h.b.bit d hd) i hi
  ·exact BK hl (h.b.bit u hu) k i hi
 | e+2=>(yI h (e+1)).next λu hu d hd _ _ i hi=>by
  have hl:=((yI h (e+1)).len u hu).trans ((yI h (e+1)).len d hd).symm;refine tD (BK hl ((yI h (e+1)).bit u hu) ((yI h (e+1)).bit d hd) i hi) (gS (by decide) ?_);show gB (e+1)+gB (e+1)+1<=2*gB (e+1)+1;omega
theorem FU{m:Nat}{af:List Rw}(h:af.length<=7):(kG m af 1).length<=56/\(kG m af 2).length<=3192:=by
 have h1:=FS m 0 af;have e1:(kG m af 1).length<=56:=by
  refine tD h1 ?_;have:=nK h h;omega
 have h2:=FS m 1 (kG m af 1);refine⟨e1,tD h2 ?_⟩;have:=nK e1 e1;omega
theorem SD{m:Nat}{af:List Rw}(h:af.length<=7):∀e,e<=2->(kG m af e).length<=3200
 | 0,_=>by show af.length<=_;omega
 | 1,_=>by have:=(FU (m:=m) h).1;omega
 | 2,_=>by have:=(FU (m:=m) h).2;omega
 | e+3,h=>by omega
def spStg:Sp:=λvs H Q _=>∃(a:Addr) (m S:Nat) (xs:List V) (af:List Rw),vs=[.ref a,.int m]/\RwsP H a xs af/\St0 m S af/\m<=3/\S<=20/\af.length<=7/\
 ∀(p:Addr) (H':Hp),H p=none->Same H H'->StP H' p m (kG m af)->Q (.ref p) H'
inductive StI(H:Hp)(a p:Addr)(m:Nat)(af:List Rw)(i:Nat):L2.St->Hp->Prop where
 | mk {H':Hp} {u3:Option V} (s:Same H H') (st:∃fs,H' p=some (.lst fs)/\fs.length=i+1/\∀e,e<=i->∃pa xs,fs[e]? = some (.ref pa)/\RwsP H' pa xs (kG m af e)/\pa≠p/\∀v∈xs,v≠.ref p):StI H a p m af i [some (.ref a),some (.int m),some (.ref p),u3] H'
theorem YA{e:Nat}(h:e<=3):gB e<=3407:=by
 have:e=0∨e=1∨e=2∨e=3:=by omega
 rcases this with rfl | rfl | rfl | rfl<;>decide
theorem RwsP.put{H:Hp}{q:Addr}{ys:List V}{o:HO}{a:Addr}{xs:List V}{af:List Rw}(h:RwsP H a xs af)(hq:H q=some (.lst ys))(n1:a≠q)(n2:∀v∈xs,v≠.ref q):RwsP (upd H q o) a xs af:=
 ⟨by rw[jO n1];exact h.at',EF hq n2 h.pr⟩
theorem scSt:FnScope ["rows","many","found","letter"] ["rows","many"] (jM wS):=⟨rfl,rfl,rfl,by decide +kernel,rfl,by decide +kernel,by decide +kernel⟩
theorem ok_stg{fT:Addr}{fdT:FuncData}(F:Fun K "stages" "stages" wS f fd)(T:Txt mg)(DT:Df K mg "taken_away" IM ["rows","letter","many"] fT fdT)(GT:FnOk P w K mg base CX0 2 fT fdT ["rows","letter","many"] spTk):FnOk P w K mg base CX0 3 f fd ["rows","many"] spStg:=by
 refine F.ok scSt (λvs H Q E h=>?_) (λcdv A outer s H vs Q E hr h=>?_)
 ·obtain⟨a,m,S,xs,af,rfl,_⟩:=h
  rfl
 ·obtain⟨a,m,S,xs,af,rfl,rp,sb,m3,S20,r7,go⟩:=h;refine⟨_,jD (jP (i:=2) scSt.nd rfl (Or.inl rfl) (qO (jA (pv 0) jC))) (jD (qM PassesOwn.never rfl (xD (by rfl) T.rng (jA (pv 1) jC)) (jI (i:=3) scSt.nd rfl (Or.inl rfl)) (jF (xJ (KU PySem.F.plainAttrs_list PySem.F.slot_list_append PySem.F.type_list_append qZ (pv 2) (jA (jG GT hr rfl DT.m DT.F.kp DT.b .nil jR (jA (jN kH (pv 2) (qX kZ jB) (λ_ _=>rfl)) (jA (pv 3) (jA (pv 1) jC)))) jC))))) (jF (jU (pv 2)))), ?_⟩;try dsimp only[cxK]
  refine⟨_,rfl,uW,λp H1 n1 s1 e1=>?_⟩;refine⟨_,rfl,m,rfl,by omega,by omega, ?_⟩;refine wU (n:=m) (StI H a p m af) (.mk s1 ⟨_,e1,rfl,λe he=>?_⟩) (λi σ H2 hi h=>?_) (fun σ H2 h=>?_)
  ·obtain rfl:e=0:=by omega
   refine⟨a,xs,rfl,rp.same s1,kM rp.at' n1,λv hv z=>?_⟩;obtain⟨k,hk⟩:=gO.mp hv;obtain⟨r,_,p',e',q'⟩:=Paired.at rp.pr hk;rw[z]at e';cases e';rw[n1]at q';cases q'
  ·obtain⟨s2,st⟩:=h;rename_i u3;obtain⟨fs,f1,f2,f3⟩:=st;obtain⟨pa,ys,q1,q2,_,_⟩:=f3 i uU ;have sbi:=yI sb i;have last:=AJ f2 q1;refine⟨_,rfl,.inl ⟨rfl,_,SqL.of f1⟩,_,rfl,_,rfl,p,_,_,_,rfl,rfl,SqL.of f1,last,_,rfl,_,rfl, ?_⟩;refine⟨pa,i,m,S,ys,_,by rw[Int.zero_add];rfl,q2,sbi.len,hi,by omega,S20,SD r7 i (by omega),λr hr' j hj=>hJ (sbi.bit r hr' j hj) (gT (by decide) (by have:=YA (show i<=3 by omega);omega)),λp3 y3 H3 n3 s3 r3=>?_⟩;refine⟨p,_,_,rfl,rfl,s3 _ _ f1,by rw[f2,sizeLine_eq];omega, ?_⟩;have f1':=s3 _ _ f1;have fm:V.ref pa∈fs:=gQ q1;have y3n:∀v∈y3,v≠.ref p:=λv hv z=>by
    obtain⟨k,hk⟩:=gO.mp hv;obtain⟨r,_,p',e',q'⟩:=Paired.at r3.pr hk;rw[z]at e';cases e';rw[f1']at q';have:fs=r.map V.int:=by injection (Option.some.inj q')
    rw[this]at fm;obtain⟨n,_,y⟩:=tF.mp fm;cases y
   have p3n:p3≠p:=λz=>by rw[z,f1]at n3;cases n3
   refine .mk (jZ (s2.trans s3) n1) ⟨_,jE,by rw[hU,gP,f2],λe he=>?_⟩;by_cases h:e<=i
   ·obtain⟨pe,xe,g1,g2,g3,g4⟩:=f3 e h;exact⟨pe,xe,by rw[gD (by omega)];exact g1,(g2.same s3).put f1' g3 g4,g3,g4⟩
   ·obtain rfl:e=i+1:=by omega
    exact⟨p3,y3,by rw[uZ (by omega),f2,tM];rfl,r3.put f1' p3n y3n,p3n,y3n⟩
  ·obtain⟨s2,fs,f1,f2,f3⟩:=h;exact⟨_,rfl,go p H2 n1 s2 ⟨fs,f1,f2,λe he=>by obtain⟨pa,xs,h1,h2,_⟩:=f3 e he;exact⟨pa,xs,h1,h2⟩⟩⟩
open LwV
def lvS(b:Int)(r:Rat):Int:=b*xA (r.den:Int) b
def lvD(rs:List Rat):Int:=rs.foldl lvS 1
def lvT(rs:List Rat):List Int:=rs.map λr=>r.num*(lvD rs/(r.den:Int))
theorem QG{b:Int}(hb:0<b)(r:Rat):0<lvS b r:=by
 unfold lvS;rw[vF hb];have g:=LwM.qJ (r.den:Int) b hb;have d:=r.den_pos;have:0<(r.den:Int)/(Int.gcd (r.den:Int) b:Int):=by
  have h1:(Int.gcd (r.den:Int) b:Int)∣(r.den:Int):=mW ..;obtain⟨k,hk⟩:=h1;generalize (Int.gcd (r.den:Int) b:Int)=G at *;rw[hk,Int.mul_ediv_cancel_left _ (by omega)];by_cases z:0<k
  ·exact z
  ·have:G*k<=0:=Int.mul_nonpos_of_nonneg_of_nonpos (by omega) (by omega);omega
 exact tR hb this
theorem lvS_dvd{b:Int}(hb:0<b)(r:Rat):b∣lvS b r/\(r.den:Int)∣lvS b r:=by
 unfold lvS;refine⟨Int.dvd_mul_right .., ?_⟩;rw[vF hb];have g:=LwM.qJ (r.den:Int) b hb;obtain⟨k,hk⟩:(Int.gcd (r.den:Int) b:Int)∣(r.den:Int):=mW ..;obtain⟨m,hm⟩:(Int.gcd (r.den:Int) b:Int)∣b:=mO ..;generalize (Int.gcd (r.den:Int) b:Int)=G at *;refine⟨m, ?_⟩;have:(r.den:Int)/G=k:=by rw[hk,Int.mul_ediv_cancel_left _ (by omega)]
 rw[this,hk]
 conv=>lhs;rw[hm]
 grind
theorem lvF:∀(rs:List Rat) (b:Int),0<b->0<rs.foldl lvS b/\b∣rs.foldl lvS b/\∀r∈rs,(r.den:Int)∣rs.foldl lvS b
 | [],b,h=>⟨h,Int.dvd_refl _,λ_ z=>nomatch z⟩
 | r::rs,b,h=>by
  obtain⟨h1,h2,h3⟩:=lvF rs (lvS b r) (QG h r);have d:=lvS_dvd h r;refine⟨h1,Int.dvd_trans d.1 h2,λq hq=>?_⟩;rcases nT.mp hq with rfl | hq
  ·exact Int.dvd_trans d.2 h2
  ·exact h3 q hq
theorem vS(rs:List Rat):0<lvD rs:=(lvF rs 1 (by decide)).1
theorem QH{rs:List Rat}{r:Rat}(h:r∈rs):(r.den:Int)∣lvD rs:=(lvF rs 1 (by decide)).2.2 r h
theorem lvS_of{b D:Int}(hb:0<b){r:Rat}(h:b∣D)(k:(r.den:Int)∣D):lvS b r∣D:=by
 unfold lvS;rw[vF hb];have g:=LwM.qJ (r.den:Int) b hb;have lg:=CS (n:=(r.den:Int)) hb;rw[vF hb,vY hb]at lg;obtain⟨y,hy⟩:(Int.gcd (r.den:Int) b:Int)∣(r.den:Int):=mW ..;obtain⟨m,hm⟩:(Int.gcd (r.den:Int) b:Int)∣b:=mO ..;generalize (Int.gcd (r.den:Int) b:Int)=G at *;have e1:(r.den:Int)/G=y:=by rw[hy,Int.mul_ediv_cancel_left _ (by omega)]
 have e2:b/G=m:=by rw[hm,Int.mul_ediv_cancel_left _ (by omega)]
 rw[e1,e2]at lg;rw[e1];obtain⟨x,hx⟩:=h;obtain⟨z,hz⟩:=k;have:y∣m*x:=⟨z,by
  have:G*(m*x)=G*(y*z):=by rw[<-nW,<-hm,<-hx,hz,hy,nW]
  exact Int.eq_of_mul_eq_mul_left (by omega) this⟩
 have:y∣x:=AM (by rw[Int.gcd_comm];exact lg) this;obtain⟨q,hq⟩:=this;exact⟨q,by rw[hx,hq,nW]⟩
theorem XI{D:Int} :∀(rs:List Rat) (b:Int),0<b->b∣D->(∀r∈rs,(r.den:Int)∣D)->rs.foldl lvS b∣D
 | [],_,_,h,_=>h
 | r::rs,b,h0,h,k=>XI rs (lvS b r) (QG h0 r) (lvS_of h0 h (k r (mF ..))) λq hq=>k q (gR _ hq)
theorem XM{D:Int}{rs:List Rat}(k:∀r∈rs,(r.den:Int)∣D):lvD rs∣D:=XI rs 1 (by decide) ⟨D,by omega⟩ k
theorem JP{a D:Int}(h:a∣D)(h0:0<D):a.natAbs<=D.natAbs:=Nat.le_of_dvd (by omega) (Int.natAbs_dvd_natAbs.mpr h)
theorem XJ(rs:List Rat)(r:Rat):lvD (rs++[r])=lvS (lvD rs) r:=by
 unfold lvD;rw[List.foldl_append]
 rfl
theorem lv_val{rs:List Rat}{r:Rat}(h:r∈rs):((r.num*(lvD rs/(r.den:Int)):Int):Rat)=r*(lvD rs:Rat):=by
 obtain⟨k,hk⟩:=QH h;have d:=r.den_pos;rw[hk,Int.mul_ediv_cancel_left _ (by omega),nE,nE];have h1:=qQ r;unfold fv at h1;have h2:((r.den:Int):Rat)≠0:=cne (by omega);generalize ((r.den:Int):Rat)=D at *;generalize (r.num:Rat)=N at *;rw[<-h1]
 grind
theorem vB(rs:List Rat):(lvT rs).length=rs.length:=by simp [lvT]
theorem YE{t:Int}{n:Nat}(h:t.natAbs<2^n)(hn:0<n):FrOk n t 1:=⟨by decide,by simp,h,by
 show 1<2^n;exact Nat.one_lt_two_pow (by omega)⟩
def yA(aa:Nat)(ns:List Int):Nat:=if ns.sum=1 then ns.idxOf 1 else aa
def jL(aa:Nat)(ts:List Trm):List Rat:=ts.foldl (λL x=>L.set (yA aa x.ns) (fv x.t x.b)) (List.replicate (aa+1) 0)
theorem qA(aa:Nat)(ts:List Trm):(jL aa ts).length=aa+1:=by
 unfold jL;have:∀(ts:List Trm) (L:List Rat),(ts.foldl (λL x=>L.set (yA aa x.ns) (fv x.t x.b)) L).length=L.length:=λts=>by
  induction ts with
  | nil=>exact λ_=>rfl
  | cons x ts ih=>exact λL=>by rw[List.foldl_cons,ih,List.length_set]
 rw[this,gM]
theorem BE{aa:Nat}{ts:List Trm} :∀r∈jL aa ts,r=0∨∃x∈ts,r=fv x.t x.b:=by
 unfold jL;have:∀(ts:List Trm) (L:List Rat),∀r∈ts.foldl (λL x=>L.set (yA aa x.ns) (fv x.t x.b)) L,r∈L∨∃x∈ts,r=fv x.t x.b:=λts=>by
  induction ts with
  | nil=>exact λL r h=>.inl h
  | cons x ts ih=>
   intro L r h;rcases ih _ r h with h | ⟨y,hy,e⟩
   ·rcases List.mem_or_eq_of_mem_set h with h | h
    ·exact .inl h
    ·exact .inr ⟨x,by simp,h⟩
   ·exact .inr ⟨y,by simp [hy],e⟩
 intro r h;rcases this ts _ r h with h | h
 ·exact .inl (List.mem_replicate.mp h).2
 ·exact .inr h
theorem CB:∀{ns:List Int},(∀n∈ns,0<=n)->ns.sum=1->(1:Int)∈ns
 | [],_,h=>by simp at h
 | a::ns,hn,h=>by
  have h0:=hn a (by simp);have nn:∀l:List Int,(∀n∈l,0<=n)->0<=l.sum:=λl hl=>by
   induction l with
   | nil=>decide
   | cons b l ih=>rw[nX];have:=hl b (by simp);have:=ih λn hn=>hl n (by simp [hn]);omega
  have h1:=nn ns λn hn'=>hn n (by simp [hn']);rw[nX]at h;by_cases e:a=1
  ·rw[e];simp
  ·exact gR _ (CB (λn hn'=>hn n (by simp [hn'])) (by omega))
theorem CT:∀{ns:List Int} {n:Int},(∀x∈ns,0<=x)->n∈ns->n<=ns.sum
 | a::r,n,h,hn=>by
  have h1:=h a (mF ..);have hr:∀x∈r,0<=x:=λx hx=>h x (gR _ hx);have nn:∀l:List Int,(∀n∈l,0<=n)->0<=l.sum:=λl hl=>by
   induction l with
   | nil=>decide
   | cons b l ih=>rw[nX];have:=hl b (by simp);have:=ih λn hn=>hl n (by simp [hn]);omega
  have:=nn r hr;rw[nX];rcases nT.mp hn with rfl | hn
  ·omega
  ·have:=CT hr hn;omega
theorem OF{aa:Nat}{ns:List Int}(hl:ns.length=aa)(hn:∀n∈ns,0<=n):yA aa ns<aa+1:=by
 unfold yA;split
 ·rename_i h;have:=List.idxOf_lt_length_of_mem (CB hn h);omega
 ·omega
def BO(ts:List Trm):Int:=(ts.map Trm.b).foldr (· * ·) 1
theorem EG:∀{ts:List Trm},(∀x∈ts,0<x.b/\x.b.natAbs<=2^x.k)->0<BO ts/\(BO ts).natAbs<=2^(ts.map Trm.k).sum/\∀x∈ts,x.b∣BO ts
 | [],_=>⟨by decide,by decide,λ_ h=>nomatch h⟩
 | x::ts,h=>by
  obtain⟨h1,h2,h3⟩:=EG (ts:=ts) λy hy=>h y (by simp [hy]);have hx:=h x (by simp);have e:BO (x::ts)=x.b*BO ts:=rfl;rw[e];refine⟨tR hx.1 h1, ?_,λy hy=>?_⟩
  ·rw[nI,nQ,nX,tU];exact nK hx.2 h2
  ·rcases nT.mp hy with rfl | hy
   ·exact Int.dvd_mul_right ..
   ·exact Int.dvd_trans (h3 y hy) (Int.dvd_mul_left ..)
structure NumsB(aa:Nat)(ts:List Trm)(b:Nat):Prop where
 D:(lvD (jL aa ts)).natAbs<=2^b
 T:∀z∈lvT (jL aa ts),z.natAbs<=2^b
theorem EN{x:Trm}{aa D v:Nat}(h:TmOk aa D v x):(fv x.t x.b).num=x.t/\((fv x.t x.b).den:Int)=x.b:=EM h.pos h.low
theorem WV{H:Hp}{p:Addr}{aa:Nat}{z:Sz}{ts:List Trm}(h:Poly H p aa z ts):∀r∈jL aa ts,(r.den:Int)∣BO ts:=λr hr=>by
 have pb:=EG λx hx=>⟨(h.each x hx).pos,(h.each x hx).sb⟩;rcases BE r hr with rfl | ⟨x,hx,rfl⟩
 ·exact Int.one_dvd _
 ·rw[(EN (h.each x hx)).2];exact pb.2.2 x hx
theorem nums_of{H:Hp}{p:Addr}{aa:Nat}{z:Sz}{ts:List Trm}{d b:Nat}(h:Poly H p aa z ts)(D:(lvD (jL aa ts)).natAbs<=2^d)(hb:z.v+d<=b):NumsB aa ts b:=by
 refine⟨tD D (gS (by decide) (by omega)),λw hw=>?_⟩;unfold lvT at hw;obtain⟨r,hr,rfl⟩:=tF.mp hw;obtain⟨k,hk⟩:=QH hr;have dp:=r.den_pos;rw[hk,Int.mul_ediv_cancel_left _ (by omega),nI];have hD:r.den*k.natAbs<=2^d:=by have:=D;rw[hk,nI,mD]at this;exact this
 have hn:r.num.natAbs<=2^z.v*r.den:=by
  rcases BE r hr with rfl | ⟨x,hx,rfl⟩
  ·exact tQ _
  ·have nf:=EN (h.each x hx);have:=(h.each x hx).st;rw[nf.1];rw[<-nf.2,mD]at this;exact this
 calc r.num.natAbs*k.natAbs<=2^z.v*r.den*k.natAbs:=gU _ hn
  _=2^z.v*(r.den*k.natAbs):=Nat.mul_assoc ..
  _<=2^z.v*2^d:=gZ _ hD
  _=2^(z.v+d):=(tU ..).symm
  _<=2^b:=gS (by decide) hb
def IE(K:dD):Sp:=λvs H Q _=>∃(p:Addr) (aa:Nat) (z:Sz) (ts:List Trm),vs=[.ref p]/\Poly H p aa z ts/\z.D<=1/\1<=aa/\aa<=4/\z.v+z.S<=2200/\z.n<=1000/\
 ∀(r l:Addr) (H':Hp),H r=none->Same H H'->H' r=some (.tup [.ref l,.int (lvD (jL aa ts))])->H' l=some (.lst ((lvT (jL aa ts)).map V.int))->Q (.ref r) H'
theorem NumK.upd{K:dD}{H:Hp}{v:V}{x:Rat}{l:Addr}{ys:List V}{o:HO}(h:NumK K H v x)(e:H l=some (.lst ys)):NumK K (upd H l o) v x:=by
 obtain⟨p,rfl,q⟩:=h;refine⟨p,rfl, ?_⟩;rcases q with(q | ⟨u,q⟩) | q
 ·exact .inl (.inl (by rw[jO λz=>by rw[z,e]at q;cases q];exact q))
 ·exact .inl (.inr ⟨u,by rw[jO λz=>by rw[z,e]at q;cases q];exact q⟩)
 ·exact .inr q
theorem uH{α β:Type}{F:α->β->Prop}{x:α}{y:β}(h:F x y):∀{a:List α} {b:List β} (j:Nat),Paired F a b->Paired F (a.set j x) (b.set j y)
 | _,_,_,.nil=>.nil
 | _,_,0,.cons _ t=>.cons h t
 | _,_,j+1,.cons k t=>.cons k (uH h j t)
inductive WnI(K:dD)(H:Hp)(p q l:Addr)(aa:Nat)(ts:List Trm)(i:Nat):L2.St->Hp->Prop where
 | mk {H':Hp} {us:List V} {u4 u5 u6 u7 u8:Option V} (s:Same H H') (e:H' l=some (.lst us)) (pr:Paired (NumK K H') us (jL aa (ts.take i))):WnI K H p q l aa ts i [some (.ref p),some (.int aa),some (.ref q),some (.ref l),u4,u5,u6,u7,u8] H'
inductive WbI(H1:Hp)(p q l:Addr)(aa:Nat)(rs:List Rat)(i:Nat):L2.St->Hp->Prop where
 | mk {H':Hp} {u4 u5 u7 u8:Option V} (s:Same H1 H'):WbI H1 p q l aa rs i [some (.ref p),some (.int aa),some (.ref q),some (.ref l),u4,u5,some (.int (lvD (rs.take i))),u7,u8] H'
theorem eq_int(a b:Int):eqV (.int a) (.int b)=decide (a=b):=by
 show(a==b)=_
 rfl
theorem scWh:FnScope ["one","many","terms","numbers","powers","number","bottom","top","under"] ["one"] (jM ED):=⟨rfl,rfl,rfl,by decide +kernel,rfl,by decide +kernel,by decide +kernel⟩
theorem WL{fD:Addr}{fdD:FuncData}(F:Fun K "whole_numbers" "whole_numbers" ED f fd)(T:Txt mg)(N:Ngt K mg)(DD:Df K mg "divided" NG ["one","other"] fD fdD)(GD:FnOk P w K mg base CX0 3 fD fdD ["one","other"] (EC K)):FnOk P w K mg base CX0 4 f fd ["one"] (IE K):=by
 obtain⟨na,hN,hna⟩:=N;refine F.ok scWh (λvs H Q E h=>?_) (λcdv A outer s H vs Q E hr h=>?_)
 ·obtain⟨p,aa,z,ts,rfl,_⟩:=h
  rfl
 ·obtain⟨p,aa,z,ts,rfl,hP,zD,m1,m4,zb,zn,go⟩:=h;refine⟨_,jD (qW (pv 0) (qI rfl (jQ (jI (i:=1) scWh.nd rfl (Or.inl rfl)) (jQ (jI (i:=2) scWh.nd rfl (Or.inl rfl)) kN)))) (jD (jP (i:=3) scWh.nd rfl (Or.inl rfl) (jJ WJ (qO (jA (zN (v:=.ref na) (by rfl) hN rfl) jC)) (jJ kQ (pv 1) jB))) (jD (qM PassesOwn.never rfl (IZ (pv 2)) (qI rfl (jQ (jI (i:=4) scWh.nd rfl (Or.inl rfl)) (jQ (jI (i:=5) scWh.nd rfl (Or.inl rfl)) kN))) (jF (qW (pv 5) (wK (pv 3) (KS (jV yH (kO (HN rfl) (by rfl) T.sum boot_sum (jA (pv 4) jC)) jB (jW _)) (KU PySem.F.plainAttrs_tuple PySem.F.slot_tuple_index PySem.F.type_tuple_index XF (pv 4) (jA jB jC)) (pv 1)) xW)))) (jD (jP (i:=6) scWh.nd rfl (Or.inr rfl) (jB)) (jD (qM PassesOwn.never rfl (qF (pv 3)) (qI rfl (jQ (jI (i:=7) scWh.nd rfl (Or.inl rfl)) (jQ (jI (i:=8) scWh.nd rfl (Or.inl rfl)) kN))) (jF (jP (i:=6) scWh.nd rfl (Or.inr rfl) (jJ qC (pv 6) (jN jS (jG GD hr rfl DD.m DD.F.kp DD.b .nil jR (jA (jT (jA (pv 8) (jA jB jC))) (jA (jT (jA (pv 6) (jA jB jC))) jC))) jB (λ_ _=>rfl)))))) (jF (jU (jT (jA (vL (own:=2) (idx:=[6]) (N:=["top","under","bottom"]) rfl rfl rfl (by decide +kernel) (by decide +kernel) (vW (by intro y hy;simp only[nT,mS,or_false]at hy;rcases hy with rfl;rfl)) (vC rfl) rfl (vR rfl ⟨rfl,rfl,rfl,rfl⟩) (qF (pv 3)) (λC fp s2 H2=>show PG (jK _ ["top","under","bottom"] _ _ C fp s2 H2) _ (TU K 2 (wP (kT 0) (wP (kT 1) gNil)))from qI (X:=jK _ ["top","under","bottom"] _ _ C fp s2 H2) rfl (jQ (jI (i:=0) (show List.Nodup (["top","under","bottom"]:List Str) by decide +kernel) rfl (Or.inl rfl) (Or.inr rfl)) (jQ (jI (i:=1) (show List.Nodup (["top","under","bottom"]:List Str) by decide +kernel) rfl (Or.inl rfl) (Or.inr rfl)) kN))) (λC fp s2 H2=>jJ qC (pv 0) (jJ qY (pv 2) (pv 1)))) (jA (pv 6) jC))))))))), ?_⟩
  try dsimp only[cxK]
  obtain⟨q,o,xs,e1,e2,eo,pr⟩:=hP.ex;refine⟨_,rfl,p,_,rfl,SqT.of e1,rfl,_,_,rfl,_,_,rfl,rfl, ?_⟩;refine⟨uW,λl0 H1 n1 s1 e1'=>⟨_,rfl,_,_,rfl,rfl,l0,_,_,rfl,rfl,e1',by omega,by omega,by rw[sizeLine_eq];show 1*((aa:Int)+1).toNat<=_;omega,λl nl=>?_⟩⟩;have er:(List.replicate ((aa:Int)+1).toNat [V.ref na]).flatten=List.replicate (aa+1) (V.ref na):=by
   rw[show((aa:Int)+1).toNat=aa+1 by omega,List.flatten_replicate_singleton]
  rw[er];have s2:Same H1 (upd H1 l (.lst (List.replicate (aa+1) (V.ref na)))):=jY _ nl;have e3:(upd H1 l (.lst (List.replicate (aa+1) (V.ref na)))) l=some (.lst (List.replicate (aa+1) (V.ref na))):=jE;generalize upd H1 l (.lst (List.replicate (aa+1) (V.ref na)))=H2 at s2 e3;have s02:=s1.trans s2;have hl0:H l=none:=s1.free nl;have lx:xs.length=ts.length:=Paired.length pr;have sq:∀{H':Hp},Same H H'->SqT K H' q xs:=λs=>.inl (.inr ⟨o,s _ _ e2⟩);refine⟨_,rfl,q,rfl,⟨xs,sq s02⟩, ?_⟩;refine QY (K:=K) (a:=q) (xs:=xs) (WnI K H p q l aa ts) (.mk s02 e3 ?_) (λi σ H3 _ h=>?_) (λi x σ H3 hx h=>?_) (fun σ H3 h=>?_)
  ·show Paired _ (List.replicate (aa+1) (V.ref na)) (List.replicate (aa+1) (0:Rat));have:∀n,Paired (NumK K H2) (List.replicate n (V.ref na)) (List.replicate n (0:Rat)):=λn=>by
    induction n with
    | zero=>exact .nil
    | succ n ih=>rw[List.replicate_succ,List.replicate_succ];exact .cons (wE (hna H2)) ih
   exact this _
  ·obtain⟨s3,_,_⟩:=h;exact sq s3
  ·obtain⟨s3,e,pn⟩:=h;rename_i us u4 u5 u6 u7 u8;obtain⟨x',hx',tv⟩:=Paired.at pr hx;obtain⟨r,b,c,rfl,r1,r2,r3⟩:=tv.ex;have tm:=hP.each x' (gQ hx');have r2':=s3 _ _ r2;have dg:=tm.deg;have le1:x'.ns.sum<=1:=by omega
   have b40:∀n∈x'.ns,0<=n/\n<=2^40:=λn hn=>⟨tm.nn n hn,by have:=CT tm.nn hn;omega⟩;have col:=OF tm.len tm.nn;have lus:us.length=aa+1:=by rw[Paired.length pn,qA]
   have nx:NumK K H3 (.ref c) (fv x'.t x'.b):=by
    have:=s3 _ _ r3;exact NumK.of (by unfold At2;rw[(EN tm).1,(EN tm).2];exact this)
   have tk:jL aa (ts.take (i+1))=(jL aa (ts.take i)).set (yA aa x'.ns) (fv x'.t x'.b):=by
    unfold jL;rw[mJ,hx',List.foldl_append]
    rfl
   have fin:∀(j:Nat),j=yA aa x'.ns->WnI K H p q l aa ts (i+1) [some (.ref p),some (.int aa),some (.ref q),some (.ref l),some (.ref b),some (.ref c),u6,u7,u8] (upd H3 l (.lst (us.set j (.ref c)))):=λj hj=>by
    subst hj;refine .mk (jZ s3 hl0) jE ?_;rw[tk];exact Paired.to (λ_ _ h=>h.upd e) (uH nx _ pn)
   refine⟨r,_,rfl,SqT.of (s3 _ _ r1),rfl,_,_,rfl,_,_,rfl,rfl, ?_⟩;refine⟨_,rfl,_,rfl,_,rfl,b,x'.ns,rfl,SqT.of r2',b40,by rw[tm.len];omega,rfl,_,rfl, ?_⟩;rw[qG];refine EV (λc1=>?_) (λc1=>?_)
   ·have c1:=mL c1;have ix:=List.idxOf_lt_length_of_mem (CB tm.nn c1);refine⟨_,rfl,.inr (.inr (.inr (.inr ⟨rfl,_,r2'⟩))),b,_,_,x'.ns.idxOf 1,rfl,rfl,SqT.of r2',rfl, ?_,by rw[mZ];exact ix,λk y hk hy=>?_,λy hy=>?_,l,us,_,x'.ns.idxOf 1,rfl,rfl,e, ?_,fin _ (by unfold yA;rw[dC c1])⟩
    ·rw[List.all_map];exact List.all_eq_true.mpr λ_ _=>rfl
    ·rw[mH]at hy;obtain⟨n,hn,rfl⟩:=Option.map_eq_some_iff.mp hy;rw[eq_int];refine nB λz=>?_;have:=List.not_of_lt_findIdx hk;rw[(gC.mp hn).2,z]at this;simp at this
    ·rw[mH]at hy;obtain⟨n,hn,rfl⟩:=Option.map_eq_some_iff.mp hy;rw[eq_int];refine nH ?_;have:=List.getElem_idxOf ix;rw[(gC.mp hn).2]at this;exact this
    ·unfold ixN;rw[dC (by omega),dC (by rw[lus];have:=tm.len;omega),mP]
   ·have c1:=λz=>c1 (nH z);refine⟨_,rfl,l,us,_,aa,rfl,rfl,e, ?_,fin _ (by unfold yA;rw[dA c1])⟩;unfold ixN;rw[dC (by omega),dC (by rw[lus];omega),mP]
  ·obtain⟨s3,e,pn⟩:=h;rename_i us u4 u5 u6 u7 u8;rw[lx,mT]at pn;generalize hrs:jL aa ts=rs at pn;have lrs:rs.length=aa+1:=by rw[<-hrs,qA]
   have lus:us.length=rs.length:=Paired.length pn;have pb:=EG λx hx=>⟨(hP.each x hx).pos,(hP.each x hx).sb⟩;have dd:∀r∈rs,(r.den:Int)∣BO ts:=by rw[<-hrs];exact WV hP
   have dB:(BO ts).natAbs<=2^2200:=tD pb.2.1 (gS (by decide) (by have:=hP.sum;omega));have bdD:∀(ys:List Rat),(∀r∈ys,r∈rs)->(lvD ys).natAbs<=2^2200:=λys hy=>tD (JP (XM λr hr=>dd r (hy r hr)) pb.1) dB;have bn:∀r∈rs,r.num.natAbs<2^2201:=λr hr'=>by
    rw[<-hrs]at hr';rcases BE r hr' with rfl | ⟨x,hx,rfl⟩
    ·exact Nat.two_pow_pos _
    ·have tm:=hP.each x hx;rw[(EN tm).1];have h1:=tD tm.st (gZ _ tm.sb);rw[<-tU]at h1;have h2:=NU (List.mem_map_of_mem (f:=Trm.k) hx);exact hJ h1 (gT (by decide) (by have:=hP.sum;omega))
   have bd':∀r∈rs,((r.den:Int)).natAbs<2^2201:=λr hr'=>hJ (tD (JP (dd r hr') pb.1) dB) (gT (by decide) (by decide));refine⟨_,rfl,l,rfl,⟨us,SqL.of e⟩,xX (K:=K) (a:=l) (xs:=us) (WbI H3 p q l aa rs) (.mk (Same.refl _)) (λi σ H4 _ h=>?_) (λi x σ H4 hx h=>?_) (fun σ H4 h=>?_)⟩
   ·obtain⟨s4⟩:=h;exact SqL.of (s4 _ _ e)
   ·obtain⟨s4⟩:=h;rename_i v4 v5 v7 v8;obtain⟨r,hr',a,rfl,sa⟩:=Paired.at pn hx;have rm:=gQ hr';have tk:rs.take (i+1)=rs.take i++[r]:=by rw[mJ,hr'];rfl
    have bi:=bdD (rs.take i) λq hq=>gW hq;have pi:=vS (rs.take i);have dp:=r.den_pos;have bi':(lvD (rs.take i)).natAbs<2^2201:=hJ bi (gT (by decide) (by decide));have bdr:=bd' r rm;refine⟨a,_,rfl,kI s4 sa,rfl,_,_,rfl,_,_,rfl,rfl, ?_⟩;refine⟨_,rfl,_,rfl,uX,λz1 H5 n5 s5 e5=>⟨_,rfl,uX,λy1 H6 n6 s6 e6=>?_⟩⟩;refine⟨z1,y1,(r.den:Int),1,lvD (rs.take i),1,rfl,SqT.of (s6 _ _ e5),SqT.of e6,YE (kK bdr (by decide)) (by decide),YE (kK bi' (by decide)) (by decide),by omega,λq7 H7 n7 s7 e7=>?_⟩;rw[Int.mul_one,Int.one_mul]at e7;have lt:=lowT_le (n:=(r.den:Int)) pi;refine⟨q7,_,_,_,rfl,rfl,SqT.of e7,rfl,_,_,rfl,rfl,⟨kK bi' (by decide),hJ lt (kK bdr (by decide))⟩, ?_⟩;have fin:WbI H3 p q l aa rs (i+1) [some (.ref p),some (.int aa),some (.ref q),some (.ref l),v4,v5,some (.int (lvD (rs.take (i+1)))),some (.int r.num),some (.int r.den)] H7:=.mk (s4.trans (s5.trans (s6.trans s7)));rw[tk,XJ]at fin;exact fin
   ·obtain⟨s4⟩:=h;rename_i v4 v5 v7 v8;rw[lus,mT];have bD':(lvD rs).natAbs<2^2201:=hJ (bdD rs λ_ h=>h) (gT (by decide) (by decide));have pD:=vS rs;refine⟨_,rfl,l,rfl,⟨us,SqL.of (s4 _ _ e)⟩,λq5 H5 n5 s5 e5=>?_⟩;refine xQ (K:=K) (a:=l) (xs:=us) (CmI (λk=>((lvT rs).take k).map V.int) q5 H4) (by rw[lus,lrs,sizeLine_eq];omega) ⟨s5,e5,rfl⟩ (λi ys H6 h=>⟨SqL.of ((s4.trans h.s) _ _ e),h.e⟩) ?_ ?_
    ·rintro i m' ys x H6 hx hm hy ⟨s6,e6,ey⟩;obtain⟨r,hr',a,rfl,sa⟩:=Paired.at pn hx;have rm:=gQ hr';have dp:=r.den_pos;refine⟨a,_,rfl,kI (s4.trans s6) sa,rfl,_,_,rfl,_,_,rfl,rfl,QQ, ?_⟩;have bq:(lvD rs/(r.den:Int)).natAbs<2^2201:=vE bD' (by omega);refine⟨_,rfl,_,rfl,_,rfl,_,_,rfl,rfl,⟨by omega,kK (bd' r rm) (by decide)⟩,_,_,rfl,rfl,⟨kK (bn r rm) (by decide),kK bq (by decide)⟩, ?_⟩;refine qB hx hm hy e6 ⟨jZ s6 n5,jE, ?_⟩;have:(lvT rs)[i]? = some (r.num*(lvD rs/(r.den:Int))):=by
      unfold lvT;rw[mH,hr']
      rfl
     rw[ey,mJ,this,nA]
     rfl
    ·rintro ys H6 hy ⟨s6,e6,ey⟩;refine⟨_,rfl,uX,λt7 H7 n7 s7 e7=>?_⟩;rw[lus,<-vB rs,mT]at ey;rw[ey]at e6;rw[hrs]at go;exact go t7 q5 H7 ((s3.trans (s4.trans s6)).free n7) (s3.trans (s4.trans (s6.trans s7))) e7 (s7 _ _ e6)
theorem YY{K:dD}{a:Addr}{xs:List V}{n:Nat}{g:TG}{te:TE}{Q:VK}{p:Addr}{H':Hp}(Pv:Nat->List V->Hp->Prop)(hz:xs.length<sizeLine)(h0:Pv 0 [] H')
  (hl:∀i ys H2,Pv i ys H2->SqT K H2 a xs/\H2 p=some (.lst ys))
  (hs:∀i m ys x H2,xs[i]? = some x->m=xs.length-i->ys.length=i->Pv i ys H2->g x (List.replicate n none) H2 fun σ4 H4=>te σ4 H4 λy H5=>H5 p=some (.lst ys)/\∃m',m'<m/\CompW xs Pv (i+1) m' (ys++[y]) (upd H5 p (.lst (ys++[y]))))
  (hd:∀ys H2,ys.length=xs.length->Pv xs.length ys H2->Q (.ref p) H2):CompGo n (Itt K a) g te Q p H':=by
 refine⟨CompW xs Pv,⟨_,rfl,tQ _,rfl,h0⟩, ?_⟩;rintro i m ys H2 ⟨hm,hi,hy,hp⟩;obtain⟨q,e⟩:=hl i ys H2 hp;refine⟨e,by omega, ?_⟩;by_cases hlt:i<xs.length
 ·refine .inr ⟨⟨xs,xs[i],q,by simp [hlt]⟩, ?_⟩;rintro x H3 ⟨rfl,y⟩;exact hs i m ys x _ (y xs q) hm hy hp
 ·obtain rfl:i=xs.length:=by omega
  exact .inl ⟨⟨xs,q,tP _⟩,hd ys H2 hy hp⟩
def HZ(n:Nat):List V:=(List.range n).map λ(i:Nat)=>V.int (0+(i:Int))
theorem uM(n:Nat):(HZ n).length=n:=by simp [HZ]
theorem uN{n i:Nat}{x:V}(h:(HZ n)[i]? = some x):x=.int (0+(i:Int))/\i<n:=by
 unfold HZ at h;rw[mH]at h;cases e:(List.range n)[i]? with
 | none=>rw[e]at h;cases h
 | some j=>
  rw[e]at h;obtain⟨h1,h2⟩:=gC.mp e;rw[List.getElem_range]at h2;subst h2;rw[mM]at h1;exact⟨(Option.some.inj h).symm,h1⟩
theorem yY{n:Nat}{σ0:L2.St}{g:TG}{te:TE}{Q:VK}{p:Addr}{H':Hp}(Pv:Nat->List V->Hp->Prop)(hz:n<sizeLine)(h0:Pv 0 [] H')(hl:∀i ys H2,Pv i ys H2->H2 p=some (.lst ys))
  (hs:∀i m ys x H2,(HZ n)[i]? = some x->m=(HZ n).length-i->ys.length=i->Pv i ys H2->g (.int (0+(i:Int))) σ0 H2 fun σ4 H4=>Keep σ0 σ4/\te σ4 H4 λy H5=>H5 p=some (.lst ys)/\∃m',m'<m/\CompW (HZ n) Pv (i+1) m' (ys++[y]) (upd H5 p (.lst (ys++[y]))))
  (hd:∀ys H2,ys.length=n->Pv n ys H2->Q (.ref p) H2):CompGoF σ0 (Itr 0 n) g te Q p H':=by
 refine DF (xs:=HZ n) Pv (by rw[uM];exact hz) h0 (λi ys H2 _ hi=>?_) (λys H2 _=>by rw[uM];exact tP n) hl (λi m ys x H2 hx hm hy hp=>?_) (λys H2 hy hp=>?_)
 ·rw[uM]at hi;refine⟨hi, ?_⟩;rintro x H3 ⟨rfl,rfl⟩;exact⟨rfl,by unfold HZ;rw[mH,gY hi];rfl⟩
 ·obtain⟨e,_⟩:=uN hx;subst e;exact hs i m ys _ H2 hx hm hy hp
 ·rw[uM]at hy hp;exact hd ys H2 hy hp
theorem MB{K:dD}{a:Addr}{xs:List V}{σ0:L2.St}{g:TG}{te:TE}{Q:VK}{p:Addr}{H':Hp}(Pv:Nat->List V->Hp->Prop)(hz:xs.length<sizeLine)(h0:Pv 0 [] H')
  (hl:∀i ys H2,Pv i ys H2->SqL K H2 a xs/\H2 p=some (.lst ys))
  (hs:∀i m ys x c H2,xs[i]? = some x->m=xs.length-i->ys.length=i->Pv i ys H2->H2 c=none->g (.ref c) σ0 (upd H2 c (.tup [.int i,x])) fun σ4 H4=>Keep σ0 σ4/\te σ4 H4 λy H5=>H5 p=some (.lst ys)/\∃m',m'<m/\CompW xs Pv (i+1) m' (ys++[y]) (upd H5 p (.lst (ys++[y]))))
  (hd:∀ys H2,ys.length=xs.length->Pv xs.length ys H2->Q (.ref p) H2):CompGoF σ0 (Itel K a) g te Q p H':=by
 refine⟨CompW xs Pv,⟨_,rfl,tQ _,rfl,h0⟩, ?_⟩;rintro i m ys H2 ⟨hm,hi,hy,hp⟩;obtain⟨q1,e⟩:=hl i ys H2 hp;refine⟨e,by omega, ?_⟩;by_cases hlt:i<xs.length
 ·refine .inr ⟨⟨xs,xs[i],q1,by simp [hlt]⟩, ?_⟩;rintro _ _ ⟨c,x,hc,rfl,rfl,h1⟩;exact hs i m ys x c H2 (h1 _ q1) hm hy hp hc
 ·obtain rfl:i=xs.length:=by omega
  exact .inl ⟨⟨xs,q1,tP _⟩,hd ys H2 hy hp⟩
abbrev rLenS(K:dD):List V->Hp->VK->Prop:=λxs H Q=>∃p ys,xs=[V.ref p]/\(SqL K H p ys∨SqT K H p ys)/\Q (V.int ys.length) H
def kU(aa:Nat)(ts:List Trm)(i count:Nat):Rw:=(lvT (jL aa ts)).take aa++[0,(lvT (jL aa ts)).getD aa 0]++(List.range (count+1)).map λj=>if j=i then lvD (jL aa ts)else 0
def KE(K:dD):Sp:=λvs H Q _=>∃(p:Addr) (i count aa:Nat) (z:Sz) (ts:List Trm),vs=[.ref p,.int i,.int count]/\Poly H p aa z ts/\z.D<=1/\1<=aa/\aa<=4/\z.v+z.S<=2200/\z.n<=1000/\count<=10/\
 ∀(r:Addr) (H':Hp),H r=none->Same H H'->H' r=some (.lst ((kU aa ts i count).map V.int))->Q (.ref r) H'
theorem LZ{xs:List V}{n:Nat}(h:xs.length=n+1):zV xs none (some (-1))=xs.take n:=by
 unfold zV;rw[HT.sIx_none,List.drop_zero,Nat.sub_zero];have:HT.sIx xs.length xs.length (some (-1))=n:=by
  show(if (-1:Int)<0 then((-1:Int)+(xs.length:Int)).toNat else min (-1:Int).toNat xs.length)=n;rw[dC (by decide)];omega
 rw[this]
theorem LK{ns:List Int}{n:Nat}(h:ns.length=n+1):atI (ns.map V.int) (-1)=some (.int (ns.getD n 0)):=by
 have e:ns=ns.take n++[ns.getD n 0]:=by
  have:=List.take_append_drop n ns;rw[xY (by omega),gK (by omega)]at this;exact this.symm
 rw[e,nA];have:(List.take n ns++[ns.getD n 0]).getD n 0=ns.getD n 0:=by rw[<-e]
 rw[this];exact FI _ _
theorem scRr:FnScope ["rim","at","count","numbers","bottom","shares"] ["rim","at","count"] (jM CF):=⟨rfl,rfl,rfl,by decide +kernel,rfl,by decide +kernel,by decide +kernel⟩
theorem SY{fW:Addr}{fdW:FuncData}(F:Fun K "rim_row" "rim_row" CF f fd)(T:Txt mg)(DW:Df K mg "whole_numbers" ED ["one"] fW fdW)(GW:FnOk P w K mg base CX0 4 fW fdW ["one"] (IE K)):FnOk P w K mg base CX0 5 f fd ["rim","at","count"] (KE K):=by
 refine F.ok scRr (λvs H Q E h=>?_) (λcdv A outer s H vs Q E hr h=>?_)
 ·obtain⟨p,i,count,aa,z,ts,rfl,_⟩:=h
  rfl
 ·obtain⟨p,i,count,aa,z,ts,rfl,hP,zD,m1,m4,zb,zn,c10,go⟩:=h;refine⟨_,jD (qW (jG GW hr rfl DW.m DW.F.kp DW.b .nil jR (jA (pv 0) jC)) (qI rfl (jQ (jI (i:=3) scRr.nd rfl (Or.inl rfl)) (jQ (jI (i:=4) scRr.nd rfl (Or.inr rfl)) kN)))) (jD (uG (i:=5) scRr.nd rfl (Or.inl rfl) (own:=1) (idx:=[4,1]) (N:=["place","bottom","at"]) rfl rfl rfl (by decide +kernel) (by decide +kernel) (vW (by intro y hy;simp only[nT,mS,or_false]at hy;rcases hy with rfl | rfl<;>rfl)) (vC rfl) rfl (IA rfl rfl ⟨rfl,rfl,rfl,rfl⟩ ⟨rfl,rfl,rfl,rfl⟩) (xD (by rfl) T.rng (jA (jJ kQ (pv 2) jB) jC)) (λC fp s2 H2=>(jI (i:=0) (show List.Nodup (["place","bottom","at"]:List Str) by decide +kernel) rfl (Or.inl rfl) (Or.inr rfl))) (λC fp s2 H2=>KS (jV yH (pv 0) (pv 2) (jW _)) (pv 1) jB)) (jF (jU (jJ xL (jJ xL (vK vJ (pv 3) yT (vH (qX kZ jB))) (qO (jA jB (jA (jN kH (pv 3) (qX kZ jB) (λ_ _=>rfl)) jC)))) (pv 5))))), ?_⟩;try dsimp only[cxK]
  refine⟨_,rfl,p,aa,z,ts,rfl,hP,zD,m1,m4,zb,zn,λr l H1 n1 s1 e1 e2=>?_⟩;have ln:(lvT (jL aa ts)).length=aa+1:=by rw[vB,qA]
  refine⟨r,_,rfl,SqT.of e1,rfl,_,_,rfl,_,_,rfl,rfl, ?_⟩;refine⟨_,rfl,_,_,rfl,rfl,count+1,by rfl,by omega,by omega,λq H2 n2 s2 e3=>?_⟩;refine yY (n:=count+1) (CmI (λk=>((List.range k).map λj=>if j=i then lvD (jL aa ts)else 0).map V.int) q H1) (by rw[sizeLine_eq];omega) ⟨s2,e3,rfl⟩ (λ_ _ _ h=>h.e) ?_ ?_
  ·rintro k m' ys x H3 hx hm hy ⟨s3,e4,ey⟩;refine⟨zJ,_,rfl,_,rfl,rfl,_,rfl, ?_⟩;have nx:∀v:Int,v=(if k=i then lvD (jL aa ts)else 0)->CmI (λk=>((List.range k).map λj=>if j=i then lvD (jL aa ts)else 0).map V.int) q H1 (k+1) (ys++[.int v]) (upd H3 q (.lst (ys++[.int v]))):=λv hv=>⟨jZ s3 n2,jE,by
    rw[ey,nF,nA,nA,hv]
    rfl⟩
   rw[qG,Int.zero_add];by_cases c:k=i
   ·exact xP (nH (by omega)) ⟨_,rfl,qB hx hm hy e4 (nx _ (dC c).symm)⟩
   ·exact vA (nB (by omega)) (qB hx hm hy e4 (nx _ (dA c).symm))
  ·rintro ys H3 hy ⟨s3,e4,ey⟩;have s13:=s3;have e2':=s3 _ _ e2;dsimp only[kT];refine⟨_,rfl,_,rfl,_,rfl,l,_,rfl,SqL.of e2',λl4 H4 n4 s4 e5=>⟨_,rfl,_,rfl,l,_,_,_,rfl,rfl,SqL.of (s4 _ _ e2'),LK ln,uX,λl5 H5 n5 s5 e6=>?_⟩⟩;rw[LZ (n:=aa) (by rw[mZ];exact ln),<-nY]at e5;refine⟨l4,l5,_,_,rfl,rfl,s5 _ _ e5,e6,by rw[mZ,mR,sizeLine_eq];show min aa _+2<=_;omega,λl6 H6 n6 s6 e7=>⟨_,rfl,l6,q,_,ys,rfl,rfl,e7, ?_, ?_,λl7 H7 n7 s7 e8=>?_⟩⟩
   ·exact(s4.trans (s5.trans s6)) _ _ e4
   ·rw[hU,mZ,mR,hy,sizeLine_eq];show min aa _+2+(count+1)<=_;omega
   refine go l7 H7 ((s1.trans (s3.trans (s4.trans (s5.trans s6)))).free n7) (s1.trans (s3.trans (s4.trans (s5.trans (s6.trans s7))))) ?_;rw[e8,ey];unfold kU;rw[nA,nA]
   rfl
structure RimsP(H:Hp)(a:Addr)(xs:List V)(aa:Nat)(z:Sz)(ad:List (List Trm)):Prop where
 at':H a=some (.lst xs)
 pr:Paired (λv ts=>∃p,v=.ref p/\Poly H p aa z ts) xs ad
theorem RimsP.same{H H':Hp}{a:Addr}{xs:List V}{aa:Nat}{z:Sz}{ad:List (List Trm)}(h:RimsP H a xs aa z ad)(s:Same H H'):RimsP H' a xs aa z ad:=⟨s _ _ h.at',Paired.to (λ_ _ ⟨p,e,q⟩=>⟨p,e,q.kp (Kp.of s)⟩) h.pr⟩
def kC(aa:Nat)(ad:List (List Trm)):List Rw:=(List.range ad.length).map λi=>kU aa (ad.getD i []) i ad.length
def AX(K:dD):Sp:=λvs H Q _=>∃(a:Addr) (xs:List V) (aa:Nat) (z:Sz) (ad:List (List Trm)),vs=[.ref a]/\RimsP H a xs aa z ad/\z.D<=1/\1<=aa/\aa<=4/\z.v+z.S<=2200/\z.n<=1000/\ad.length<=10/\
 ∀(p:Addr) (ys:List V) (H':Hp),H p=none->Same H H'->RwsP H' p ys (kC aa ad)->Q (.ref p) H'
structure RsI(H1:Hp)(q:Addr)(aa:Nat)(ad:List (List Trm))(i:Nat)(ys:List V)(H2:Hp):Prop where
 s:Same H1 H2
 e:H2 q=some (.lst ys)
 pr:Paired (RR H2) ys ((kC aa ad).take i)
theorem scRs:FnScope ["rims"] ["rims"] (jM wI):=⟨rfl,rfl,rfl,by decide +kernel,rfl,by decide +kernel,by decide +kernel⟩
theorem NP{fR:Addr}{fdR:FuncData}(F:Fun K "rim_rows" "rim_rows" wI f fd)(T:Txt mg)(DR:Df K mg "rim_row" CF ["rim","at","count"] fR fdR)(GR:FnOk P w K mg base CX0 5 fR fdR ["rim","at","count"] (KE K)):FnOk P w K mg base CX0 6 f fd ["rims"] (AX K):=by
 refine F.ok scRs (λvs H Q E h=>?_) (λcdv A outer s H vs Q E hr h=>?_)
 ·obtain⟨a,xs,aa,z,ad,rfl,_⟩:=h
  rfl
 ·obtain⟨a,xs,aa,z,ad,rfl,hR,zD,m1,m4,zb,zn,t10,go⟩:=h;refine⟨_,jF (jU (vL (own:=2) (idx:=[0]) (N:=["at","rim","rims"]) rfl rfl rfl (by decide +kernel) (by decide +kernel) (vW (by intro y hy;simp only[nT,mS,or_false]at hy;rcases hy with rfl;rfl)) (vC rfl) rfl (vR rfl ⟨rfl,rfl,rfl,rfl⟩) (AG (by rfl) T.enum (jA (pv 0) jC)) (λC fp s2 H2=>show PG (jK _ ["at","rim","rims"] _ _ C fp s2 H2) _ (TU K 2 (wP (kT 0) (wP (kT 1) gNil)))from qI (X:=jK _ ["at","rim","rims"] _ _ C fp s2 H2) rfl (jQ (jI (i:=0) (show List.Nodup (["at","rim","rims"]:List Str) by decide +kernel) rfl (Or.inl rfl) (Or.inr rfl)) (jQ (jI (i:=1) (show List.Nodup (["at","rim","rims"]:List Str) by decide +kernel) rfl (Or.inl rfl) (Or.inr rfl)) kN))) (λC fp s2 H2=>jG GR hr rfl DR.m DR.F.kp DR.b .nil jR (jA (pv 1) (jA (pv 0) (jA (kO (show CallR (jK _ ["at","rim","rims"] _ _ C fp s2 H2) (.builtin "len") (rLenS K)from qD) (by rfl) T.len PySem.boot_len (jA (pv 2) jC)) jC)))))), ?_⟩;try dsimp only[cxK]
  have lx:xs.length=ad.length:=Paired.length hR.pr;have lr:(kC aa ad).length=ad.length:=by unfold kC;rw[mZ,mM]
  refine⟨_,rfl,a,rfl,⟨_,SqL.of hR.at'⟩,λq H1 n1 s1 e1=>?_⟩;refine MB (K:=K) (a:=a) (xs:=xs) (RsI H q aa ad) (by rw[lx,sizeLine_eq];omega) ⟨s1,e1,.nil⟩ (λi ys H2 h=>⟨SqL.of (h.s _ _ hR.at'),h.e⟩) ?_ ?_
  ·intro i m' ys x c H2 hx hm hy h hc;obtain⟨ts,hts,p,rfl,hP⟩:=Paired.at hR.pr hx;have s2:Same H2 (upd H2 c (.tup [.int i,.ref p])):=jY _ hc;have e2:(upd H2 c (.tup [.int i,.ref p])) c=some (.tup [.int i,.ref p]):=jE;generalize upd H2 c (.tup [.int i,.ref p])=H3 at s2 e2;have s03:=h.s.trans s2;refine⟨c,_,rfl,SqT.of e2,rfl,_,_,rfl,_,_,rfl,rfl,QQ, ?_⟩;refine⟨_,rfl,_,rfl,_,rfl,a,xs,rfl,.inl (SqL.of (s03 _ _ hR.at')),p,i,xs.length,aa,z,ts,rfl,hP.kp (Kp.of s03),zD,m1,m4,zb,zn,by omega,λr H4 n4 s4 e4=>?_⟩;refine qB hx hm hy ((s2.trans s4) _ _ h.e) ⟨jZ (s03.trans s4) n1,jE, ?_⟩;have e5:=(s2.trans s4) _ _ h.e;have pr4:Paired (RR H4) ys ((kC aa ad).take i):=Paired.to (λ_ _ k=>RR.same k (s2.trans s4)) h.pr;have tk:(kC aa ad).take (i+1)=(kC aa ad).take i++[kU aa ts i xs.length]:=by
    rw[mJ];have il:i<ad.length:=(gC.mp hts).1;have:(kC aa ad)[i]? = some (kU aa ts i xs.length):=by
     unfold kC;rw[mH,gY il,lx];show some (kU aa (ad.getD i []) i ad.length)=_;rw[uY,hts]
     rfl
    rw[this]
    rfl
   rw[tk];refine Paired.app (EF e5 (VR e5 pr4) pr4) (.cons ⟨r,rfl, ?_⟩ .nil);rw[jO λz=>by rw[z,s2 _ _ h.e]at n4;cases n4];exact e4
  ·intro ys H2 hy h;have:=h.pr;rw[lx,<-lr,mT]at this;exact go q ys H2 n1 h.s ⟨h.e,this⟩
def spDeg:Sp:=λvs H Q _=>∃(p:Addr) (aa:Nat) (z:Sz) (ts:List Trm),vs=[.ref p]/\Poly H p aa z ts/\aa<=4/\z.n<=1000/\z.D<=1000/\∀(m:Int) (H':Hp),Same H H'->m<=z.D->Q (.int m) H'
def spRefB:Sp:=λvs H Q _=>∃(a:Addr) (xs:List V) (aa:Nat) (z:Sz) (ad:List (List Trm)),vs=[.ref a]/\RimsP H a xs aa z ad/\z.D<=1/\aa<=4/\z.n<=1000/\∀H',Same H H'->Q .non H'
theorem VM:FnScope ["one"] ["one"] (jM CI):=⟨rfl,rfl,rfl,by decide +kernel,rfl,by decide +kernel,by decide +kernel⟩
theorem TD(F:Fun K "degree" "degree" CI f fd)(T:Txt mg):FnOk P w K mg base CX0 1 f fd ["one"] spDeg:=by
 refine F.ok VM (λvs H Q E h=>?_) (λcdv A outer s H vs Q E hr h=>?_)
 ·obtain⟨p,aa,z,ts,rfl,_⟩:=h
  rfl
 ·obtain⟨p,aa,z,ts,rfl,hP,m4,zn,zD,go⟩:=h;refine⟨_,jF (jU (LwMx.pe_maxD rfl (by rfl) T.max (jA (WE (N:=["powers","fraction"]) rfl rfl (by decide +kernel) (by decide +kernel) (by decide +kernel) (IZ (jN jS (pv 0) jB (λ_ _=>rfl))) (λC fp s2 H2=>show PG (kW _ ["powers","fraction"] _ C fp s2 H2) _ (TU K 2 (wP (kT 0) (wP (kT 1) gNil)))from qI (X:=kW _ ["powers","fraction"] _ C fp s2 H2) rfl (jQ (jI (i:=0) (show List.Nodup (["powers","fraction"]:List Str) by decide +kernel) rfl (Or.inl rfl) (Or.inl rfl)) (jQ (jI (i:=1) (show List.Nodup (["powers","fraction"]:List Str) by decide +kernel) rfl (Or.inl rfl) (Or.inl rfl)) kN))) (λC fp s2 H2=>kO (show CallR (kW _ ["powers","fraction"] _ C fp s2 H2) (.builtin "sum") (rSumT K)from HN rfl) (by rfl) T.sum boot_sum (jA (pv 0) jC))) jC) (pk_cons jB pk_nil))), ?_⟩;obtain⟨q,o,xs,e1,e2,eo,pr⟩:=hP.ex;have lx:xs.length=ts.length:=Paired.length pr;have sq:∀{H':Hp},Same H H'->SqT K H' q xs:=λs=>.inl (.inr ⟨o,s _ _ e2⟩);refine⟨_,rfl,p,_,_,_,rfl,rfl,SqT.of e1,rfl,q,rfl,⟨xs,sq (Same.refl _)⟩,λl H1 n1 s1 e3=>?_⟩;refine YY (K:=K) (a:=q) (xs:=xs) (CmI (λk=>(ts.take k).map λx=>V.int x.ns.sum) l H) (by rw[lx];exact hJ (tD hP.few zn) (by decide)) ⟨s1,e3,rfl⟩ (λi ys H2 h=>⟨sq h.s,h.e⟩) ?_ ?_
  ·rintro i m ys x H2 hx hm hy ⟨s2,e4,ey⟩;obtain⟨x',hx',tv⟩:=Paired.at pr hx;obtain⟨r,b,c,rfl,r1,r2,r3⟩:=tv.ex;have tm:=hP.each x' (gQ hx');refine⟨r,_,rfl,SqT.of (s2 _ _ r1),rfl,_,_,rfl,_,_,rfl,rfl, ?_⟩;refine⟨_,rfl,b,x'.ns,rfl,SqT.of (s2 _ _ r2),λn hn=>⟨tm.nn n hn, ?_⟩,by rw[tm.len];omega, ?_⟩
   ·have:=CT tm.nn hn;have:=tm.deg;omega
   ·refine qB hx hm hy e4 ⟨jZ s2 n1,jE, ?_⟩;rw[ey,mJ,hx',nA]
    rfl
  ·rintro ys H2 hl ⟨s2,e4,ey⟩;rw[lx,mT]at ey;have hm:ys=(ts.map λx=>x.ns.sum).map V.int:=by rw[ey,tK];rfl
   refine⟨0,rfl,l,ts.map (λx=>x.ns.sum),rfl,by rw[<-hm];exact e4,λz=>?_,λm h1 h2=>?_⟩
   ·exact go 0 H2 s2 (by omega)
   ·obtain⟨x,hx,rfl⟩:=tF.mp h1;exact go _ H2 s2 (hP.each x hx).deg
inductive RbI(H:Hp)(a:Addr)(i:Nat):L2.St->Hp->Prop where
 | mk {H':Hp} {u:Option V} (s:Same H H'):RbI H a i [some (.ref a),u] H'
theorem scRb:FnScope ["some","one"] ["some"] (jM KI):=⟨rfl,rfl,rfl,by decide +kernel,rfl,by decide +kernel,by decide +kernel⟩
theorem ok_refb{fD:Addr}{fdD:FuncData}(F:Fun K "refuse_bent" "refuse_bent" KI f fd)(DD:Df K mg "degree" CI ["one"] fD fdD)(GD:FnOk P w K mg base CX0 1 fD fdD ["one"] spDeg):FnOk P w K mg base CX0 2 f fd ["some"] spRefB:=by
 refine F.ok scRb (λvs H Q E h=>?_) (λcdv A outer s H vs Q E hr h=>?_)
 ·obtain⟨a,xs,aa,z,ad,rfl,_⟩:=h
  rfl
 ·obtain⟨a,xs,aa,z,ad,rfl,hR,zD,m4,zn,go⟩:=h;refine⟨_,jF (qM PassesOwn.never rfl (qF (pv 0)) (jI (i:=1) scRb.nd rfl (Or.inl rfl)) (jF (kS (jV BP (jG GD hr rfl DD.m DD.F.kp DD.b .nil jR (jA (pv 1) jC)) jB (jW _)) (jF KP) kD))), ?_⟩;try dsimp only[cxK]
  refine⟨_,rfl,a,rfl,⟨_,SqL.of hR.at'⟩,xX (K:=K) (a:=a) (xs:=xs) (RbI H a) (.mk (Same.refl _)) (λi σ H1 _ h=>?_) (λi x σ H1 hx h=>?_) (fun σ H1 h=>?_)⟩
  ·obtain⟨s1⟩:=h;exact SqL.of (s1 _ _ hR.at')
  ·obtain⟨s1⟩:=h;obtain⟨ts,hts,p,rfl,hP⟩:=Paired.at hR.pr hx;refine⟨_,rfl,p,aa,z,ts,rfl,hP.kp (Kp.of s1),m4,zn,by omega,λm H2 s2 hm=>⟨_,_,rfl,rfl,_,rfl,vA (nB (by omega)) (.mk (s1.trans s2))⟩⟩
  ·obtain⟨s1⟩:=h;exact go H1 s1
def shL(m n:Nat)(r:Rw):List Int:=(List.range n).map λi=>r.getD (m+2+i) 0
def wtL(m n:Nat)(r:Rw)(b:Int):List Rat:=(shL m n r).map λs=>((s:Int):Rat)/((b:Int):Rat)
theorem OE{r:Rw}{m n:Nat}(h:r.length=m+2+(n+1)):zV (r.map V.int) (some ((m:Int)+2)) (some (-1))=(shL m n r).map V.int:=by
 unfold zV;have e1:HT.sIx (r.map V.int).length 0 (some ((m:Int)+2))=m+2:=by
  rw[show((m:Int)+2)=((m+2:Nat):Int) by omega,HT.sIx_nat,mZ];omega
 have e2:HT.sIx (r.map V.int).length (r.map V.int).length (some (-1))=m+2+n:=by
  show(if (-1:Int)<0 then((-1:Int)+((r.map V.int).length:Int)).toNat else min (-1:Int).toNat (r.map V.int).length)=_;rw[dC (by decide),mZ];omega
 rw[e1,e2,show m+2+n-(m+2)=n by omega,<-List.map_drop,<-nY]
 congr 1
 refine mQ λj=>?_;unfold shL;rw[mH];by_cases hj:j<n
 ·rw[gF hj,List.getElem?_drop,gY hj,gE (by omega)];show _=some (r.getD (m+2+j) 0);rw[uY,gE (by omega)]
  rfl
 ·rw[gN (by rw[mR];omega),gN (by rw[mM];omega)]
  rfl
def VD(K:dD):Sp:=λvs H Q _=>∃(a:Addr) (m n:Nat) (b:Int) (r:Rw),vs=[.ref a,.int m,.int b]/\H a=some (.lst (r.map V.int))/\r.length=m+2+(n+1)/\n<=20/\b≠0/\b.natAbs<=2^3407/\(∀i∈r,i.natAbs<=2^3407)/\
 ∀(q:Addr) (ys:List V) (H':Hp),H q=none->Same H H'->H' q=some (.lst ys)->Paired (NumK K H') ys (wtL m n r b)->Q (.ref q) H'
structure ShI(K:dD)(H1:Hp)(q:Addr)(ws:List Rat)(i:Nat)(ys:List V)(H2:Hp):Prop where
 s:Same H1 H2
 e:H2 q=some (.lst ys)
 pr:Paired (NumK K H2) ys (ws.take i)
theorem nk_put{K:dD}{H:Hp}{q:Addr}{ys zs:List V}{o:HO}{ws:List Rat}(e:H q=some (.lst ys))(h:Paired (NumK K H) zs ws):Paired (NumK K (upd H q o)) zs ws:=Paired.to (λ_ _ k=>k.upd e) h
theorem scSh:FnScope ["row","many","bottom"] ["row","many","bottom"] (jM uS):=⟨rfl,rfl,rfl,by decide +kernel,rfl,by decide +kernel,by decide +kernel⟩
theorem ok_sho{fD:Addr}{fdD:FuncData}(F:Fun K "shares_over" "shares_over" uS f fd)(DD:Df K mg "divided" NG ["one","other"] fD fdD)(GD:FnOk P w K mg base CX0 3 fD fdD ["one","other"] (EC K)):FnOk P w K mg base CX0 4 f fd ["row","many","bottom"] (VD K):=by
 refine F.ok scSh (λvs H Q E h=>?_) (λcdv A outer s H vs Q E hr h=>?_)
 ·obtain⟨a,m,n,b,r,rfl,_⟩:=h
  rfl
 ·obtain⟨a,m,n,b,r,rfl,ha,hl,n20,hb,bb,br,go⟩:=h;refine⟨_,jF (jU (vL (own:=1) (idx:=[2]) (N:=["share","bottom"]) rfl rfl rfl (by decide +kernel) (by decide +kernel) (vW (by intro y hy;simp only[nT,mS,or_false]at hy;rcases hy with rfl;rfl)) (vC rfl) rfl (vR rfl ⟨rfl,rfl,rfl,rfl⟩) (qF (vK vJ (pv 0) (vH (jJ kQ (pv 1) jB)) (vH (qX kZ jB)))) (λC fp s2 H2=>(jI (i:=0) (show List.Nodup (["share","bottom"]:List Str) by decide +kernel) rfl (Or.inl rfl) (Or.inr rfl))) (λC fp s2 H2=>jG GD hr rfl DD.m DD.F.kp DD.b .nil jR (jA (jT (jA (pv 0) (jA jB jC))) (jA (jT (jA (pv 1) (jA jB jC))) jC))))), ?_⟩;try dsimp only[cxK]
  refine⟨_,rfl,_,rfl,_,_,rfl,rfl,_,rfl,_,rfl,_,rfl,a,_,rfl,SqL.of ha,λq1 H1 n1 s1 e1=>⟨q1,rfl,⟨_,SqL.of e1⟩,λq H2 n2 s2 e2=>?_⟩⟩;rw[OE hl]at e1;have nb:((b:Int):Rat)≠0:=λz=>hb (Rat.intCast_inj.mp (by rw[z];rfl));have lsh:(shL m n r).length=n:=by unfold shL;rw[mZ,mM]
  have lw:(wtL m n r b).length=n:=by unfold wtL;rw[mZ,lsh]
  have up:∀{i:Int},i.natAbs<=2^3407->SzR 7900 ((i:Int):Rat):=λh=>EW (hJ h (gT (by decide) (by decide))) (by decide);refine xQ (K:=K) (a:=q1) (xs:=(shL m n r).map V.int) (ShI K H1 q (wtL m n r b)) (by rw[mZ,lsh,sizeLine_eq];omega) ⟨s2,e2,.nil⟩ (λi ys H3 h=>⟨SqL.of (h.s _ _ e1),h.e⟩) ?_ ?_
  ·intro i m' ys x H3 hx hm hy h;rw[mH]at hx;obtain⟨sv,hsv,rfl⟩:=Option.map_eq_some_iff.mp hx;have sm:sv.natAbs<=2^3407:=by
    unfold shL at hsv;rw[mH]at hsv;obtain⟨j,hj,rfl⟩:=Option.map_eq_some_iff.mp hsv;by_cases k:m+2+j<r.length
    ·exact br _ (vO k)
    ·rw[uY,gN (by omega)];exact tQ _
   refine⟨zJ,_,rfl,uX,λz1 H4 n4 s4 e4=>⟨_,rfl,uX,λz2 H5 n5 s5 e5=>?_⟩⟩;refine⟨z1,z2,_,_,_,_,rfl,uD (SqT.of (s5 _ _ e4)),uD (SqT.of e5),(up sm).fr uU,(up bb).fr uU,JC nb,λz3 H6 n6 s6 e6=>?_⟩;have e6:=YQ nb e6;have s36:=s4.trans (s5.trans s6);refine qB (by rw[mH,hsv];rfl) hm hy (s36 _ _ h.e) ⟨jZ (h.s.trans s36) n2,jE, ?_⟩;have tk:(wtL m n r b).take (i+1)=(wtL m n r b).take i++[((sv:Int):Rat)/((b:Int):Rat)]:=by
    rw[mJ];have:(wtL m n r b)[i]? = some (((sv:Int):Rat)/((b:Int):Rat)):=by unfold wtL;rw[mH,hsv];rfl
    rw[this];rfl
   rw[tk];exact nk_put (s36 _ _ h.e) (Paired.app (Paired.to (λ_ _ k=>k.same s36) h.pr) (.cons (NumK.of e6) .nil))
  ·intro ys H3 hy h;have:=h.pr;rw[mZ,lsh,gJ (Nat.le_of_eq lw)]at this;exact go q ys H3 (s1.free n2) (s1.trans h.s) h.e this
def brk(m:Nat)(r:Rw):Bool:=decide (r.getD m 0=0)&&decide (r.getD (m+1) 0<0)
def VF(K:dD):Sp:=λvs H Q _=>∃(a:Addr) (m n:Nat) (xs:List V) (af:List Rw),vs=[.ref a,.int m]/\RwsP H a xs af/\(∀r∈af,r.length=m+2+(n+1))/\n<=20/\m<=4/\(∀r∈af,∀i∈r,i.natAbs<=2^3407)/\
 ((∀r∈af,brk m r=false)->∀H',Same H H'->Q .non H')/\(∀r∈af,brk m r=true->∀(q:Addr) (ys:List V) (H':Hp),H q=none->Same H H'->H' q=some (.lst ys)->Paired (NumK K H') ys (wtL m n r (-(r.getD (m+1) 0)))->Q (.ref q) H')
inductive BrI(H:Hp)(a:Addr)(m:Nat)(af:List Rw)(i:Nat):L2.St->Hp->Prop where
 | mk {H':Hp} {u2 u3 u4:Option V} (s:Same H H') (nb:∀r∈af.take i,brk m r=false):BrI H a m af i [some (.ref a),some (.int m),u2,u3,u4] H'
theorem RJ{r:Rw}{m:Nat}(h:m+2<=r.length):zV (r.map V.int) (some (m:Int)) (some ((m:Int)+2))=[V.int (r.getD m 0),.int (r.getD (m+1) 0)]:=by
 unfold zV;rw[show((m:Int)+2)=((m+2:Nat):Int) by omega,HT.sIx_nat,HT.sIx_nat,mZ,Nat.min_eq_left (show m+2<=r.length from h),Nat.min_eq_left (show m<=r.length by omega),show m+2-m=2 by omega,<-List.map_drop,<-nY,xY (by omega),xY (by omega)]
 rfl
theorem scBr:FnScope ["rows","many","row","level","lone"] ["rows","many"] (jM AB):=⟨rfl,rfl,rfl,by decide +kernel,rfl,by decide +kernel,by decide +kernel⟩
theorem ok_brk{fS:Addr}{fdS:FuncData}(F:Fun K "broken" "broken" AB f fd)(DS:Df K mg "shares_over" uS ["row","many","bottom"] fS fdS)(GS:FnOk P w K mg base CX0 4 fS fdS ["row","many","bottom"] (VD K)):FnOk P w K mg base CX0 5 f fd ["rows","many"] (VF K):=by
 refine F.ok scBr (λvs H Q E h=>?_) (λcdv A outer s H vs Q E hr h=>?_)
 ·obtain⟨a,m,n,xs,af,rfl,_⟩:=h
  rfl
 ·obtain⟨a,m,n,xs,af,rfl,rp,hl,n20,m4,hb,go1,go2⟩:=h;refine⟨_,jD (qM PassesOwn.never rfl (qF (pv 0)) (jI (i:=2) scBr.nd rfl (Or.inl rfl)) (jD (qW (vK vJ (pv 2) (vH (pv 1)) (vH (jJ kQ (pv 1) jB))) (PR rfl (jQ (jI (i:=3) scBr.nd rfl (Or.inl rfl)) (jQ (jI (i:=4) scBr.nd rfl (Or.inl rfl)) kN)))) (jF (kS (PW.pt (IW (jV yH (pv 3) jB (jW _)) (CL (jV zG (pv 4) jB (jW _))))) (jF (jU (jG GS hr rfl DS.m DS.F.kp DS.b .nil jR (jA (pv 2) (jA (pv 1) (jA (qX kZ (pv 4)) jC)))))) kD)))) (jF (jU WB)), ?_⟩;try dsimp only[cxK]
  have lx:xs.length=af.length:=Paired.length rp.pr;refine⟨_,rfl,a,rfl,⟨_,SqL.of rp.at'⟩,xX (K:=K) (a:=a) (xs:=xs) (BrI H a m af) (.mk (Same.refl _) (λr h=>nomatch h)) (λi σ H1 _ h=>?_) (λi x σ H1 hx h=>?_) (fun σ H1 h=>?_)⟩
  ·obtain⟨s1,_⟩:=h;exact SqL.of (s1 _ _ rp.at')
  ·obtain⟨s1,nb⟩:=h;rename_i u2 u3 u4;obtain⟨r,hr',p,rfl,er⟩:=Paired.at rp.pr hx;have rm:=gQ hr';have rl:=hl r rm;have er1:=s1 _ _ er;refine⟨_,rfl,_,rfl,_,rfl,_,rfl,_,_,rfl,rfl,_,rfl,p,_,rfl,SqL.of er1,λq2 H2 n2 s2 e2=>?_⟩;rw[RJ (by omega)]at e2;refine⟨q2,_,rfl,SqL.of e2,rfl,_,_,rfl,_,_,rfl,rfl, ?_⟩;have next:brk m r=false->BrI H a m af (i+1) [some (.ref a),some (.int m),some (.ref p),some (.int (r.getD m 0)),some (.int (r.getD (m+1) 0))] H2:=λhb'=>.mk (s1.trans s2) λr' h'=>by
    rw[mJ,hr']at h';rcases nC.mp h' with h' | h'
    ·exact nb r' h'
    ·rw[mC.mp h'];exact hb'
   refine⟨_,rfl,rfl,_,rfl, ?_⟩;rw[qG];by_cases c1:r.getD m 0=0
   ·refine xP (nH c1) ⟨_,rfl,_,_,rfl,rfl,_,rfl, ?_⟩;by_cases c2:r.getD (m+1) 0<0
    ·have bt:brk m r=true:=by unfold brk;rw[nH c1,nH c2];rfl
     have mb:(r.getD (m+1) 0).natAbs<=2^3407:=hb r rm _ (vO (by omega));refine xP (nH c2) ⟨_,rfl,_,rfl,_,rfl,_,rfl,p,m,n,-(r.getD (m+1) 0),r,rfl,s2 _ _ er1,rl,n20,by omega,by rw[nM];exact mb,hb r rm,λq3 ys H3 n3 s3 e3 pr3=>?_⟩;exact go2 r rm bt q3 ys H3 ((s1.trans s2).free n3) (s1.trans (s2.trans s3)) e3 pr3
    ·exact vA (nB c2) (next (by unfold brk;rw[nB c2,Bool.and_false]))
   ·exact vA (nB c1) (yR (next (by unfold brk;rw[nB c1,Bool.false_and])))
  ·obtain⟨s1,nb⟩:=h;rw[lx,mT]at nb;exact go1 nb H1 s1
def AD(aa:Nat)(ad:List (List Trm))(i j:Nat):Rat:=if j<aa then(jL aa (ad.getD i [])).getD j 0 else if j=aa then 0 else(jL aa (ad.getD i [])).getD aa 0
theorem yV(rs:List Rat)(j:Nat):(((lvT rs).getD j 0:Int):Rat)=rs.getD j 0*((lvD rs:Int):Rat):=by
 unfold lvT;rw[uY,uY,mH];cases e:rs[j]? with
 | none=>show((0:Int):Rat)=0*_;rw[tJ];rfl
 | some r=>exact lv_val (gQ e)
theorem uF(aa:Nat)(ts:List Trm)(i c:Nat):(kU aa ts i c).length=aa+2+(c+1):=by
 unfold kU;rw[hU,hU,mR,vB,qA,mZ,mM,Nat.min_eq_left (by omega)]
 rfl
theorem SH{aa:Nat}{ts:List Trm}{i c j:Nat}(h:j<aa):(kU aa ts i c).getD j 0=(lvT (jL aa ts)).getD j 0:=by
 have l:=vB (jL aa ts);rw[qA]at l;unfold kU;rw[uY,mK,gD (by rw[mR];omega),gF h,uY]
theorem BA{aa:Nat}{ts:List Trm}{i c:Nat}(j:Nat):(kU aa ts i c).getD (aa+j) 0=([0,(lvT (jL aa ts)).getD aa 0]++(List.range (c+1)).map λk=>if k=i then lvD (jL aa ts)else 0).getD j 0:=by
 have l:=vB (jL aa ts);rw[qA]at l;unfold kU;have lt:((lvT (jL aa ts)).take aa).length=aa:=by rw[mR];omega
 rw[uY,mK,uZ (by omega),lt,Nat.add_sub_cancel_left,<-uY]
theorem AZ{aa:Nat}{ts:List Trm}{i c:Nat}(hi:i<=c)(k:Nat):(kU aa ts i c).getD (aa+2+k) 0=if k=i then lvD (jL aa ts)else 0:=by
 rw[show aa+2+k=aa+(2+k) by omega,BA,uY,uZ (by show 2<=2+k;omega)];show(((List.range (c+1)).map λk=>if k=i then lvD (jL aa ts)else 0)[2+k-2]?).getD 0=_;rw[Nat.add_sub_cancel_left,mH];by_cases h:k<c+1
 ·rw[gY h];rfl
 ·rw[gN (by rw[mM];omega),dA (by omega)];rfl
theorem RD{n i:Nat}(hi:i<n){a v:Nat->Rat}(h:∀k,k≠i->v k=0):dot (List.range n) a v=a i*v i:=by
 rw[wW (nJ.mpr hi),vG (I:=(List.range n).erase i) λk hk=>h k ((List.nodup_range.mem_erase_iff.mp hk).1),tH]
theorem uQ{aa:Nat}{ts:List Trm}{i c:Nat}(hi:i<=c)(k:Nat):shr aa (kU aa ts i c) k=if k=i then((lvD (jL aa ts):Int):Rat)else 0:=by
 unfold shr;rw[AZ hi];split<;>rfl
theorem VU{aa:Nat}{ad:List (List Trm)}{i:Nat}(hi:i<ad.length):RowOk aa (ad.length+1) ad.length (AD aa ad) 0 (kU aa (ad.getD i []) i ad.length):=by
 refine⟨uF ..,λj hj=>?_,λk=>?_,λk hk=>?_,λj hj=>by omega⟩
 ·rw[RD hi λk hk=>by rw[uQ (by omega),dA hk],uQ (by omega),dC rfl];unfold AD;by_cases h1:j<aa
  ·rw[dC h1,SH h1,yV]
  ·by_cases h2:j=aa
   ·rw[dA h1,dC h2,h2,tJ];have:=BA (aa:=aa) (ts:=ad.getD i []) (i:=i) (c:=ad.length) 0;rw[tN]at this;rw[this]
    rfl
   ·obtain rfl:j=aa+1:=by omega
    rw[dA h1,dA h2,BA 1,<-yV]
    rfl
 ·rw[AZ (by omega)];have:=vS (jL aa (ad.getD i []));split<;>omega
 ·rw[AZ (by omega),dA (by omega)]
theorem rimRows_mem{aa:Nat}{ad:List (List Trm)}{r:Rw} :r∈kC aa ad↔∃i,i<ad.length/\r=kU aa (ad.getD i []) i ad.length:=by
 unfold kC;rw[tF];exact⟨λ⟨i,h,e⟩=>⟨i,nJ.mp h,e.symm⟩,λ⟨i,h,e⟩=>⟨i,nJ.mpr h,e.symm⟩⟩
theorem CK(aa:Nat)(ad:List (List Trm)):StOk aa (ad.length+1) ad.length (AD aa ad) 0 (kC aa ad):=by
 refine⟨λr hr=>?_,λs hs=>?_⟩
 ·obtain⟨i,hi,rfl⟩:=rimRows_mem.mp hr;exact VU hi
 ·have key:∀k,k<=ad.length->Cone (λv=>∃r∈kC aa ad,v=shr aa r) λi=>if i<k then s i else 0:=λk=>by
   induction k with
   | zero=>exact λ_=>Cone.zero.eq λi=>dA (by omega)
   | succ k ih=>
    intro hk;have D0:(0:Rat)<((lvD (jL aa (ad.getD k [])):Int):Rat):=by exact_mod_cast vS _
    refine(Cone.add (ih (by omega)) (Cone.gen (t:=s k*(((lvD (jL aa (ad.getD k [])):Int):Rat))⁻¹) ⟨_,rimRows_mem.mpr ⟨k,by omega,rfl⟩,rfl⟩ (nO (hs.nn k) (BH D0)))).eq λi=>?_;rw[uQ (by omega)];by_cases h1:i<k
    ·rw[dC (by omega),dC h1,dA (by omega),tI,tH]
    ·by_cases h2:i=k
     ·rw[dC (by omega),dA h1,dC h2,h2,tG,nU,Rat.inv_mul_cancel _ (by grind),tS]
     ·rw[dA (by omega),dA h1,dA h2,tI,tH]
  refine(key ad.length uU).eq λi=>?_;by_cases h:i<ad.length
  ·rw[dC h]
  ·rw[dA h,hs.out i (by omega)]
def vI(aa:Nat)(ad:List (List Trm))(ws:List Rat)(j:Nat):Rat:=dot (List.range ad.length) (λi=>(jL aa (ad.getD i [])).getD j 0) (λi=>ws.getD i 0)
def zI(aa:Nat)(ad:List (List Trm)):Bool:=!(kG aa (kC aa ad) aa).any (brk aa)
theorem UR{m n:Nat}{r:Rw}{b:Int}{i:Nat}(h:i<n):(wtL m n r b).getD i 0=shr m r i/((b:Int):Rat):=by
 unfold wtL shL;rw[uY,tK,mH,gY h]
 rfl
theorem RE(I:List Nat)(a v:Nat->Rat)(b:Rat):dot I a (λi=>v i/b)=dot I a v/b:=by
 rw[tT,Rat.mul_comm,<-xZ];refine jX λi _=>?_;rw[tT,Rat.mul_comm (v i)]
theorem QB{aa:Nat}{ad:List (List Trm)}{r:Rw}(hr:r∈kG aa (kC aa ad) aa)(hb:brk aa r=true):(∀j,j<aa->vI aa ad (wtL aa ad.length r (-(r.getD (aa+1) 0))) j=0)/\vI aa ad (wtL aa ad.length r (-(r.getD (aa+1) 0))) aa = -1/\∀w∈wtL aa ad.length r (-(r.getD (aa+1) 0)),0<=w:=by
 have ro:=(yL (CK aa ad) (by omega) aa uU).ok r hr;unfold brk at hb;rw[Bool.and_eq_true]at hb;obtain⟨b1,b2⟩:=hb;have b1:=mL b1;have b2:=mL b2;have b0:(0:Rat)<((-(r.getD (aa+1) 0):Int):Rat):=by exact_mod_cast (show(0:Int) < -(r.getD (aa+1) 0) by omega)
 have ws:∀j,vI aa ad (wtL aa ad.length r (-(r.getD (aa+1) 0))) j=dot (List.range ad.length) (λi=>(jL aa (ad.getD i [])).getD j 0) (shr aa r)/((-(r.getD (aa+1) 0):Int):Rat):=λj=>by
  unfold vI;rw[<-RE];exact jX λi hi=>by rw[UR (nJ.mp hi)]
 refine⟨λj hj=>?_, ?_,λw hw=>?_⟩
 ·have l:=ro.lin j (by omega);rw[ro.z j hj]at l;rw[ws,tT];have:dot (List.range ad.length) (λi=>(jL aa (ad.getD i [])).getD j 0) (shr aa r)=0:=by
   refine Eq.trans ?_ l.symm;exact jX λi _=>by unfold AD;rw[dC hj]
  rw[this,tJ]
 ·have l:=ro.lin (aa+1) (by omega);have:dot (List.range ad.length) (λi=>(jL aa (ad.getD i [])).getD aa 0) (shr aa r)=((r.getD (aa+1) 0:Int):Rat):=by
   rw[l];exact jX λi _=>by unfold AD;rw[dA (by omega),dA (by omega)]
  rw[ws,this];have e:((-(r.getD (aa+1) 0):Int):Rat) = -((r.getD (aa+1) 0:Int):Rat):=by push_cast;rfl
  rw[e]at b0 ⊢
  grind
 ·unfold wtL shL at hw;rw[tK]at hw;obtain⟨i,_,rfl⟩:=tF.mp hw;show 0<=((r.getD (aa+2+i) 0:Int):Rat)/_;rw[tT];exact nO (by exact_mod_cast ro.nn i) (BH b0)
def lnV(N ks:List Rat):Rat:=dot (List.range ks.length) (λj=>N.getD j 0) (λj=>ks.getD j 0)+N.getD ks.length 0
theorem yK(m:Nat)(st:Nat->List Rw)(T:Rat):∀k,qL m st T k=(qL m st T k).take k++[T,1]
 | 0=>rfl
 | k+1=>by
  show _::qL m st T k=_::((qL m st T k).take k++[T,1]);rw[<-yK m st T k]
theorem uE:∀(as bs:List Int) (ks ls:List Rat),as.length=ks.length->rw' (as++bs) (ks++ls)=rw' as ks+rw' bs ls
 | [],bs,[],ls,_=>by show rw' bs ls=0+_;rw[tG]
 | a::as,bs,k::ks,ls,h=>by
  show _+rw' (as++bs) (ks++ls)=_+rw' as ks+_;rw[uE as bs ks ls (by simpa using h),Rat.add_assoc]
 | [],_,_::_,_,h=>by simp at h
 | _::_,_,[],_,h=>by simp at h
theorem VV{aa:Nat}{ts:List Trm}{i c:Nat}{ks:List Rat}(hk:ks.length=aa):rw' (kU aa ts i c) (ks++[0,1])=((lvD (jL aa ts):Int):Rat)*lnV (jL aa ts) ks:=by
 have l:=vB (jL aa ts);rw[qA]at l;unfold kU;rw[mK,uE _ _ _ _ (by rw[mR];omega)];show _+(((0:Int):Rat)*0+((((lvT (jL aa ts)).getD aa 0:Int):Rat)*1+rw' _ []))=_;rw[xH,yV];have:=JQ ((lvT (jL aa ts)).take aa) ks (by rw[mR];omega);rw[<-this];unfold lnV;rw[hk];have e:dot (List.range aa) (λj=>((((lvT (jL aa ts)).take aa).getD j 0:Int):Rat)) (λj=>ks.getD j 0)=((lvD (jL aa ts):Int):Rat)*dot (List.range aa) (λj=>(jL aa ts).getD j 0) (λj=>ks.getD j 0):=by
  rw[<-xZ];refine jX λj hj=>?_;rw[uY,gF (nJ.mp hj),<-uY,yV,nU]
 rw[e]
 grind
theorem LL{aa:Nat}{ad:List (List Trm)}(hk:zI aa ad=true):∀r∈kG aa (kC aa ad) aa,0<=rw' (r.drop aa) [0,1]:=λr hr=>by
 have ro:=(yL (CK aa ad) (by omega) aa uU).ok r hr;unfold zI at hk;have nb:brk aa r=false:=by
  cases e:brk aa r with
  | false=>rfl
  | true=>rw[List.any_eq_true.mpr ⟨r,hr,e⟩]at hk;cases hk
 have l:=ro.lin aa (by omega);rw[jX (a':=λ_=>0) (v':=λ_=>0) (λi _=>by unfold AD;rw[dA (by omega),dC rfl,tJ,tJ]),vG (λ_ _=>rfl)]at l;have z:r.getD aa 0=0:=by exact_mod_cast l
 unfold brk at nb;rw[nH z,Bool.true_and]at nb;have nb:=of_decide_eq_false nb;have:=ro.len;rw[xY (by omega),xY (by omega)];show 0<=((r.getD aa 0:Int):Rat)*0+(((r.getD (aa+1) 0:Int):Rat)*1+rw' _ []);rw[xH,tI,tG,tS,tH]
 exact_mod_cast (show(0:Int)<=_ by omega)
theorem QP{aa:Nat}{ad:List (List Trm)}(hk:zI aa ad=true):∀ts∈ad,0<=lnV (jL aa ts) ((qL aa (kG aa (kC aa ad)) 0 aa).take aa):=λts ht=>by
 obtain⟨i,hi⟩:=gO.mp ht;have il:=(gC.mp hi).1;have g:=(zC (CK aa ad) (by omega) (T:=0) (LL hk) aa uU).1;rw[tM]at g;have g:=g _ (rimRows_mem.mpr ⟨i,il,rfl⟩);have sl:=qK aa (kG aa (kC aa ad)) 0 aa;rw[List.drop_zero,yK,VV (by rw[mR];omega),uY,hi,Option.getD_some]at g;have D0:(0:Rat)<((lvD (jL aa ts):Int):Rat):=by exact_mod_cast vS _
 refine gA λn=>?_;have:=Rat.mul_pos D0 (b:=-lnV (jL aa ts) ((qL aa (kG aa (kC aa ad)) 0 aa).take aa)) (by grind)
 grind
def jH(aa j:Nat):List Int:=(List.range aa).map λk=>if k=j then 1 else 0
theorem qE(aa j:Nat):(jH aa j).length=aa:=by simp [jH]
theorem yJ{aa j k:Nat}(h:k<aa):(jH aa j)[k]? = some (if k=j then 1 else 0):=by
 unfold jH;rw[mH,gY h]
 rfl
theorem AV:∀l:List Int,(∀n∈l,0<=n)->0<=l.sum
 | [],_=>by decide
 | b::l,h=>by rw[nX];have:=h b (by simp);have:=AV l λn hn=>h n (by simp [hn]);omega
theorem EA{l:List Int}(h:∀n∈l,0<=n)(z:l.sum<=0):∀n∈l,n=0:=λn hn=>by
 have:=CT h hn;have:=h n hn;omega
theorem OK{aa:Nat}{ns:List Int}(hl:ns.length=aa)(hn:∀n∈ns,0<=n)(hd:ns.sum<=1):ns=jH aa (yA aa ns):=by
 have s0:=AV ns hn;refine mQ λk=>?_;by_cases hk:k<aa
 ·rw[yJ hk,gE (by omega)]
  congr 1
  unfold yA;by_cases c:ns.sum=1
  ·rw[dC c];have hm:=CB hn c;have hi:=List.idxOf_lt_length_of_mem hm;have e1:ns[ns.idxOf 1]=1:=List.getElem_idxOf hi;generalize ns.idxOf 1=i at hi e1;have sp:ns=ns.take i++1::ns.drop (i+1):=by
    have:=List.take_append_drop i ns;rw[List.drop_eq_getElem_cons hi,e1]at this;exact this.symm
   have ss:(ns.take i).sum+(1+(ns.drop (i+1)).sum)=1:=by
    rw[sp,List.sum_append,nX]at c;exact c
   have n1:∀n∈ns.take i,0<=n:=λn h=>hn n (gW h);have n2:∀n∈ns.drop (i+1),0<=n:=λn h=>hn n (List.mem_of_mem_drop h);have t1:=AV _ n1;have t2:=AV _ n2;by_cases e:k=i
   ·subst e;rw[dC rfl];exact e1
   ·rw[dA e];by_cases lt:k<i
    ·refine EA n1 (by omega) _ (gO.mpr ⟨k, ?_⟩);rw[gF lt,gE]
    ·refine EA n2 (by omega) _ (gO.mpr ⟨k-(i+1), ?_⟩);rw[List.getElem?_drop,show i+1+(k-(i+1))=k by omega,gE]
  ·rw[dA c,dA (by omega)];exact EA hn (by omega) _ (mV _)
 ·rw[gN (by omega),gN (by rw[qE];omega)]
theorem xG{aa i j:Nat}(hi:i<=aa)(hj:j<=aa)(h:jH aa i=jH aa j):i=j:=by
 by_cases e:i=j
 ·exact e
 ·have key:∀a b:Nat,a<aa->a≠b->jH aa a≠jH aa b:=λa b ha n z=>by
   have g1:=yJ (j:=a) ha;rw[z,yJ ha,dC rfl,dA n]at g1;cases g1
  by_cases c:i<aa
  ·exact absurd h (key i j c e)
  ·exact absurd h.symm (key j i (by omega) λz=>e z.symm)
theorem ZN{aa D v:Nat}{x:Trm}(h:TmOk aa D v x)(hD:D<=1):x.ns=jH aa (yA aa x.ns)/\yA aa x.ns<=aa:=
 ⟨OK h.len h.nn (by have:=h.deg;omega),by have:=OF h.len h.nn;omega⟩
theorem KY{aa D v:Nat}(hD:D<=1){j:Nat}(hj:j<=aa):∀(ts:List Trm) (L:List Rat),L.length=aa+1->(∀x∈ts,TmOk aa D v x)->(ts.map Trm.ns).Nodup->
  (ts.foldl (λL x=>L.set (yA aa x.ns) (fv x.t x.b)) L).getD j 0=cf (tl ts) (jH aa j)+if jH aa j∈ts.map Trm.ns then 0 else L.getD j 0
 | [],L,_,_,_=>by
  show L.getD j 0=0+if _∈[]then _ else _
  rw[dA (by simp),tG]
 | x::ts,L,hL,ht,nd=>by
  rw[nQ,List.nodup_cons]at nd;rw[List.foldl_cons,KY hD hj ts _ (by rw[List.length_set];exact hL) (λy hy=>ht y (by simp [hy])) nd.2];obtain⟨xe,xc⟩:=ZN (ht x (by simp)) hD;show _=(if x.ns=jH aa j then fv x.t x.b else 0)+cf (tl ts) (jH aa j)+_;rw[uY (l:=L.set _ _)];by_cases e:yA aa x.ns=j
  ·have xj:x.ns=jH aa j:=by rw[<-e];exact xe
   have nin:jH aa j∉ts.map Trm.ns:=xj▸nd.1;rw[dC xj,dA nin,nQ,dC (by rw[xj];simp),e,List.getElem?_set_self (by omega),zY (P:=tl ts) λy hy z=>?_]
   ·show 0+fv x.t x.b=fv x.t x.b+0+0
    grind
   ·unfold tl at hy;obtain⟨y',hy',rfl⟩:=tF.mp hy;exact nin (tF.mpr ⟨y',hy',z⟩)
  ·have xj:x.ns≠jH aa j:=λz=>e (xG xc hj (by rw[<-xe];exact z));rw[dA xj,List.getElem?_set_ne e,<-uY,nQ];by_cases q:jH aa j∈ts.map Trm.ns
   ·rw[dC q,dC (gR _ q)];grind
   ·rw[dA q,dA (λz=>by rcases nT.mp z with z | z;exact xj z.symm;exact q z)];grind
theorem GU{H:Hp}{p:Addr}{aa:Nat}{z:Sz}{ts:List Trm}(h:Poly H p aa z ts)(hD:z.D<=1){j:Nat}(hj:j<=aa):(jL aa ts).getD j 0=cf (tl ts) (jH aa j):=by
 unfold jL;rw[KY hD hj ts _ (by rw[gM]) h.each h.nd];have:(List.replicate (aa+1) (0:Rat)).getD j 0=0:=by rw[uY,List.getElem?_replicate];split<;>rfl
 rw[this];split<;>grind
def BC(g:List Int->Rat)(P:Pl):Rat:=(P.map λy=>y.2*g y.1).sum
theorem SQ(g:List Int->Rat)(y:List Int×Rat)(P:Pl):BC g (y::P)=y.2*g y.1+BC g P:=by unfold BC;rw[nQ,nX]
theorem LW(I:List Nat)(a b v:Nat->Rat):dot I (λi=>a i+b i) v=dot I a v+dot I b v:=by
 induction I with
 | nil=>show(0:Rat)=0+0;grind
 | cons i I ih=>rw[kF,kF,kF,ih];grind
theorem LV{n i:Nat}(hi:i<n){a v:Nat->Rat}(h:∀k,k<n->k≠i->a k=0):dot (List.range n) a v=a i*v i:=by
 rw[wW (nJ.mpr hi)];have:dot ((List.range n).erase i) a v=0:=by
  rw[jX (a':=λ_=>0) (v':=λ_=>0) (λk hk=>by
   have:=List.nodup_range.mem_erase_iff.mp hk;rw[h k (nJ.mp this.2) this.1,tJ,tJ]),vG λ_ _=>rfl]
 rw[this,tH]
theorem FZ{g:List Int->Rat}{aa:Nat} :∀{P:Pl},(∀x∈P,∃j,j<=aa/\x.1=jH aa j)->BC g P=dot (List.range (aa+1)) (λj=>cf P (jH aa j)) (λj=>g (jH aa j))
 | [],_=>by
  rw[jX (a':=λ_=>0) (v':=λ_=>0) (λk hk=>by show 0*_=_;rw[tJ,tJ]),vG λ_ _=>rfl]
  rfl
 | x::P,h=>by
  rw[SQ,FZ λy hy=>h y (by simp [hy])];obtain⟨j,hj,e⟩:=h x (by simp);have:(λj=>cf (x::P) (jH aa j))=λj=>(if x.1=jH aa j then x.2 else 0)+cf P (jH aa j):=rfl;rw[this,LW,LV (i:=j) (by omega) λk hk n=>dA λz=>n (xG (by omega) hj (by rw[<-z];exact e)),dC e,<-e]
def pw:List Rat->List Int->Rat
 | s::S,n::ns=>s^n.toNat*pw S ns
 | _,_=>1
theorem DZ(n:Nat):jH (n+1) 0=1::jH n n:=by
 unfold jH;rw[List.range_succ_eq_map,nQ,tK]
 congr 1
 refine List.map_congr_left λk hk=>?_;have:=nJ.mp hk;show(if k+1=0 then(1:Int)else 0)=_;rw[dA (by omega),dA (by omega)]
theorem AS(n j:Nat):jH (n+1) (j+1)=0::jH n j:=by
 unfold jH;rw[List.range_succ_eq_map,nQ,tK,dA (by omega)]
 congr 1
 refine List.map_congr_left λk hk=>?_;show(if k+1=j+1 then(1:Int)else 0)=_;by_cases e:k=j
 ·rw[dC e,dC (by omega)]
 ·rw[dA e,dA (by omega)]
theorem IV:∀S:List Rat,pw S (jH S.length S.length)=1
 | []=>rfl
 | s::S=>by
  rw[mU,AS];show s^0*pw S (jH S.length S.length)=1;rw[IV S,Rat.pow_zero,tS]
theorem PN:∀(S:List Rat) (j:Nat),j<S.length->pw S (jH S.length j)=S.getD j 0
 | s::S,0,_=>by
  rw[mU,DZ];show s^1*pw S (jH S.length S.length)=s;rw[IV,Rat.pow_succ,Rat.pow_zero,Rat.one_mul,tS]
 | s::S,j+1,h=>by
  rw[mU,AS];show s^0*pw S (jH S.length j)=S.getD j 0;rw[PN S j (by simpa using h),Rat.pow_zero,Rat.one_mul]
def qP(aa:Nat)(N:List Rat)(c:Nat):Rw:=((lvT N).take aa).map (λz=>-z)++[lvD N,-((lvT N).getD aa 0)]++List.replicate c 0++[lvD N]
theorem BF{aa:Nat}{N:List Rat}(h:N.length=aa+1)(c:Nat):(qP aa N c).length=aa+2+(c+1):=by
 have l:=vB N;unfold qP;rw[hU,hU,hU,mZ,mR,gM,l,h,Nat.min_eq_left (by omega)];show aa+2+c+1=_;omega
theorem XH{aa:Nat}{N:List Rat}(h:N.length=aa+1){c j:Nat}(hj:j<aa):(qP aa N c).getD j 0 = -((lvT N).getD j 0):=by
 have l:=vB N;unfold qP;rw[uY,mK,mK,gD (by rw[mZ,mR];omega),mH,gF hj,uY,gE (by omega)]
 rfl
theorem ES{aa:Nat}{N:List Rat}(h:N.length=aa+1){c:Nat}(j:Nat):(qP aa N c).getD (aa+j) 0=(lvD N::-((lvT N).getD aa 0)::(List.replicate c 0++[lvD N])).getD j 0:=by
 have l:=vB N;unfold qP;have lt:(((lvT N).take aa).map (λz=>-z)).length=aa:=by rw[mZ,mR];omega
 rw[uY,mK,mK,uZ (by omega),lt,Nat.add_sub_cancel_left,<-uY]
 rfl
theorem ER{aa:Nat}{N:List Rat}(h:N.length=aa+1){c:Nat}(k:Nat):(qP aa N c).getD (aa+2+k) 0=if k=c then lvD N else 0:=by
 rw[show aa+2+k=aa+(k+2) by omega,ES h,uY,gH,gH];by_cases h1:k<c
 ·rw[gD (by rw[gM];exact h1),List.getElem?_replicate,dC h1,dA (by omega)];rfl
 ·rw[uZ (by rw[gM];omega),gM];by_cases h2:k=c
  ·rw[h2,tM,dC rfl];rfl
  ·rw[gN (by show 1<=k-c;omega),dA h2];rfl
theorem IK{aa:Nat}{N:List Rat}(h:N.length=aa+1){c:Nat}(k:Nat):shr aa (qP aa N c) k=if k=c then((lvD N:Int):Rat)else 0:=by
 unfold shr;rw[ER h];split<;>rfl
def wY(aa:Nat)(ad:List (List Trm))(N:List Rat)(i j:Nat):Rat:=if i<ad.length then AD aa ad i j else if j<aa then -(N.getD j 0)else if j=aa then 1 else -(N.getD aa 0)
def kJ(aa:Nat)(ad:List (List Trm))(N:List Rat):List Rw:=kC aa ad++[qP aa N ad.length]
theorem VS{m S n e:Nat}{rim rim':Nat->Nat->Rat}{r:Rw}(h:RowOk m S n rim e r)(he:∀i j,i<n->rim' i j=rim i j):RowOk m S (n+1) rim' e r:=by
 refine⟨h.len,λj hj=>?_,h.nn,λi hi=>h.out i (by omega),h.z⟩;have z:shr m r n=0:=by unfold shr;rw[h.out n uU];rfl
 rw[nF,yW,kF,vV,z,tI,tH,tH,h.lin j hj];exact jX λi hi=>by rw[he i j (nJ.mp hi)]
theorem lv_ok{aa:Nat}{ad:List (List Trm)}{N:List Rat}(h:N.length=aa+1):RowOk aa (ad.length+1) (ad.length+1) (wY aa ad N) 0 (qP aa N ad.length):=by
 refine⟨BF h _,λj hj=>?_,λk=>?_,λk hk=>?_,λj hj=>by omega⟩
 ·rw[RD (mX _) λk hk=>by rw[IK h,dA hk],IK h,dC rfl];unfold wY;rw[dA (nV _)];by_cases h1:j<aa
  ·rw[dC h1,XH h h1,nG,yV,Rat.neg_mul]
  ·by_cases h2:j=aa
   ·rw[dA h1,dC h2,h2,Rat.one_mul];have:=ES h (c:=ad.length) 0;rw[tN]at this;rw[this]
    rfl
   ·obtain rfl:j=aa+1:=by omega
    rw[dA h1,dA h2,ES h 1];show((-((lvT N).getD aa 0):Int):Rat)=_;rw[nG,yV,Rat.neg_mul]
 ·rw[ER h];have:=vS N;split<;>omega
 ·rw[ER h,dA (by omega)]
theorem VB{m n:Nat}{A:List Vc}{af:List Rw}(h:∀i,i<n->∃r∈af,∃d:Rat,0<d/\∀k,shr m r k=if k=i then d else 0):∀s,InC n A s->Cone (λv=>∃r∈af,v=shr m r) s:=λs hs=>by
 have key:∀k,k<=n->Cone (λv=>∃r∈af,v=shr m r) λi=>if i<k then s i else 0:=λk=>by
  induction k with
  | zero=>exact λ_=>Cone.zero.eq λi=>dA (by omega)
  | succ k ih=>
   intro hk;obtain⟨r,hr,d,D0,e⟩:=h k (by omega);refine(Cone.add (ih (by omega)) (Cone.gen (t:=s k*d⁻¹) ⟨r,hr,rfl⟩ (nO (hs.nn k) (BH D0)))).eq λi=>?_;rw[e];by_cases h1:i<k
   ·rw[dC (by omega),dC h1,dA (by omega),tI,tH]
   ·by_cases h2:i=k
    ·rw[dC (by omega),dA h1,dC h2,h2,tG,nU,Rat.inv_mul_cancel _ (by grind),tS]
    ·rw[dA (by omega),dA h1,dA h2,tI,tH]
 refine(key n uU).eq λi=>?_;by_cases c:i<n
 ·rw[dC c]
 ·rw[dA c,hs.out i (by omega)]
theorem all_mem{aa:Nat}{ad:List (List Trm)}{N:List Rat}{r:Rw} :r∈kJ aa ad N↔(∃i,i<ad.length/\r=kU aa (ad.getD i []) i ad.length)∨r=qP aa N ad.length:=by
 unfold kJ;rw[nC,mC,rimRows_mem]
theorem RP{aa:Nat}{ad:List (List Trm)}{N:List Rat}(h:N.length=aa+1)(i:Nat)(hi:i<ad.length+1):∃r∈kJ aa ad N,∃d:Rat,0<d/\∀k,shr aa r k=if k=i then d else 0:=by
 by_cases c:i<ad.length
 ·exact⟨_,all_mem.mpr (.inl ⟨i,c,rfl⟩),_,(by exact_mod_cast vS (jL aa (ad.getD i []))),λk=>uQ (by omega) k⟩
 ·obtain rfl:i=ad.length:=by omega
  exact⟨_,all_mem.mpr (.inr rfl),_,(by exact_mod_cast vS N),λk=>IK h k⟩
theorem JX{aa:Nat}{ad:List (List Trm)}{N:List Rat}(h:N.length=aa+1):∀r∈kJ aa ad N,RowOk aa (ad.length+1) (ad.length+1) (wY aa ad N) 0 r:=λr hr=>by
 rcases all_mem.mp hr with⟨i,hi,rfl⟩ | rfl
 ·exact VS (VU hi) λi j hi=>dC hi
 ·exact lv_ok h
theorem JW{aa:Nat}{ad:List (List Trm)}{N:List Rat}(h:N.length=aa+1):StOk aa (ad.length+1) (ad.length+1) (wY aa ad N) 0 (kJ aa ad N):=
 ⟨JX h,VB (RP h)⟩
abbrev xE(aa:Nat)(ad:List (List Trm))(N:List Rat):List Rw:=kG aa (kJ aa ad N) aa
abbrev VQ(aa:Nat)(ad:List (List Trm))(r:Rw)(j:Nat):Rat:=dot (List.range ad.length) (λi=>(jL aa (ad.getD i [])).getD j 0) (shr aa r)
structure EndOk(aa:Nat)(ad:List (List Trm))(N:List Rat)(r:Rw):Prop where
 lev:r.getD aa 0=r.getD (aa+2+ad.length) 0
 lv0:0<=r.getD aa 0
 let':∀j,j<aa->VQ aa ad r j=N.getD j 0*((r.getD aa 0:Int):Rat)
 lone:((r.getD (aa+1) 0:Int):Rat)=VQ aa ad r aa-N.getD aa 0*((r.getD aa 0:Int):Rat)
 nn:∀i,0<=r.getD (aa+2+i) 0
 len:r.length=aa+2+(ad.length+1)
theorem FB{aa:Nat}{ad:List (List Trm)}{N:List Rat}(h:N.length=aa+1){r:Rw}(hr:r∈xE aa ad N):EndOk aa ad N r:=by
 have ro:=(yL (JW h) uU aa uU).ok r hr;have sp:∀j,dot (List.range (ad.length+1)) (λi=>wY aa ad N i j) (shr aa r)=dot (List.range ad.length) (λi=>AD aa ad i j) (shr aa r)+wY aa ad N ad.length j*shr aa r ad.length:=λj=>by
  rw[nF,yW,kF,vV,tH]
  congr 1
  exact jX λi hi=>by unfold wY;rw[dC (nJ.mp hi)]
 have l0:=ro.lin aa (by omega);have ra:wY aa ad N ad.length aa=1:=by unfold wY;rw[dA (nV _),dA (nV _),dC rfl]
 have z0:dot (List.range ad.length) (λi=>AD aa ad i aa) (shr aa r)=0:=by
  rw[jX (a':=λ_=>0) (v':=λ_=>0) (λi _=>by unfold AD;rw[dA (nV _),dC rfl,tJ,tJ]),vG λ_ _=>rfl]
 rw[sp,ra,z0,tG,Rat.one_mul]at l0;have e0:r.getD aa 0=r.getD (aa+2+ad.length) 0:=by unfold shr at l0;exact_mod_cast l0
 refine⟨e0,by rw[e0];exact ro.nn _,λj hj=>?_, ?_,ro.nn,ro.len⟩
 ·have l:=ro.lin j (by omega);rw[ro.z j hj,sp]at l;have rb:wY aa ad N ad.length j = -(N.getD j 0):=by unfold wY;rw[dA (nV _),dC hj]
  have rc:dot (List.range ad.length) (λi=>AD aa ad i j) (shr aa r)=VQ aa ad r j:=jX λi _=>by unfold AD;rw[dC hj]
  rw[rb,rc,<-l0]at l;have:((0:Int):Rat)=0:=rfl
  grind
 ·have l:=ro.lin (aa+1) (by omega);rw[sp]at l;have rb:wY aa ad N ad.length (aa+1) = -(N.getD aa 0):=by unfold wY;rw[dA (nV _),dA (by omega),dA (by omega)]
  have rc:dot (List.range ad.length) (λi=>AD aa ad i (aa+1)) (shr aa r)=VQ aa ad r aa:=jX λi _=>by unfold AD;rw[dA (by omega),dA (by omega)]
  rw[rb,rc,<-l0]at l;rw[l]
  grind
theorem OI{aa:Nat}{ad:List (List Trm)}{r:Rw}{b:Int}(j:Nat):vI aa ad (wtL aa ad.length r b) j=VQ aa ad r j/((b:Int):Rat):=by
 unfold vI;rw[<-RE];exact jX λi hi=>by rw[UR (nJ.mp hi)]
theorem wt_nn{aa:Nat}{ad:List (List Trm)}{N:List Rat}{r:Rw}(h:EndOk aa ad N r){b:Int}(hb:0<b):∀w∈wtL aa ad.length r b,0<=w:=λw hw=>by
 unfold wtL shL at hw;rw[tK]at hw;obtain⟨i,_,rfl⟩:=tF.mp hw;show 0<=((r.getD (aa+2+i) 0:Int):Rat)/_;rw[tT];exact nO (by exact_mod_cast h.nn i) (BH (by exact_mod_cast hb))
theorem WW{aa:Nat}{ad:List (List Trm)}{N:List Rat}(h:N.length=aa+1){r:Rw}(hr:r∈xE aa ad N)(hb:brk aa r=true):(∀j,j<aa->vI aa ad (wtL aa ad.length r (-(r.getD (aa+1) 0))) j=0)/\vI aa ad (wtL aa ad.length r (-(r.getD (aa+1) 0))) aa = -1/\∀w∈wtL aa ad.length r (-(r.getD (aa+1) 0)),0<=w:=by
 have eo:=FB h hr;unfold brk at hb;rw[Bool.and_eq_true]at hb;have b1:=mL hb.1;have b2:=mL hb.2;have b0:(0:Rat)<((-(r.getD (aa+1) 0):Int):Rat):=by exact_mod_cast (show(0:Int) < -(r.getD (aa+1) 0) by omega)
 have lo:=eo.lone;have e:((-(r.getD (aa+1) 0):Int):Rat) = -((r.getD (aa+1) 0:Int):Rat):=by push_cast;rfl
 have z:((0:Int):Rat)=0:=rfl;rw[b1,z,tI]at lo;refine⟨λj hj=>?_, ?_,wt_nn eo (by omega)⟩
 ·rw[OI,eo.let' j hj,b1,z,tI,tT,tJ]
 ·rw[OI];rw[e]at b0 ⊢
  grind
theorem ZH{aa:Nat}{ad:List (List Trm)}{N:List Rat}(h:N.length=aa+1){r:Rw}(hr:r∈xE aa ad N)(hb:0<r.getD aa 0):(∀j,j<aa->vI aa ad (wtL aa ad.length r (r.getD aa 0)) j=N.getD j 0)/\((-(r.getD (aa+1) 0):Int):Rat)/((r.getD aa 0:Int):Rat)+vI aa ad (wtL aa ad.length r (r.getD aa 0)) aa=N.getD aa 0/\∀w∈wtL aa ad.length r (r.getD aa 0),0<=w:=by
 have eo:=FB h hr;have b0:(0:Rat)<((r.getD aa 0:Int):Rat):=by exact_mod_cast hb
 have lo:=eo.lone;have e:((-(r.getD (aa+1) 0):Int):Rat) = -((r.getD (aa+1) 0:Int):Rat):=by push_cast;rfl
 refine⟨λj hj=>?_, ?_,wt_nn eo hb⟩
 ·rw[OI,eo.let' j hj];generalize ((r.getD aa 0:Int):Rat)=L at *
  grind
 ·rw[OI,e,lo];generalize ((r.getD aa 0:Int):Rat)=L at *
  grind
def zM(m:Nat)(b:Option Rw)(r:Rw):Option Rw:=if r.getD m 0>0/\(∀x∈b,r.getD (m+1) 0*x.getD m 0<x.getD (m+1) 0*r.getD m 0)then some r else b
def wF(m:Nat)(af:List Rw):Option Rw:=af.foldl (zM m) none
structure TgOk(m:Nat)(af:List Rw)(b:Option Rw):Prop where
 some:∀x∈b,x∈af/\0<x.getD m 0/\∀r∈af,0<r.getD m 0->x.getD (m+1) 0*r.getD m 0<=r.getD (m+1) 0*x.getD m 0
 none:b=none->∀r∈af,r.getD m 0<=0
theorem mul_tr{a A b B c C:Int}(hA:0<A)(hB:0<B)(hC:0<C)(h1:a*B<b*A)(h2:b*C<=c*B):a*C<=c*A:=by
 have k1:a*B*C<=b*A*C:=Int.mul_le_mul_of_nonneg_right (Int.le_of_lt h1) (Int.le_of_lt hC);have k2:b*C*A<=c*B*A:=Int.mul_le_mul_of_nonneg_right h2 (Int.le_of_lt hA);have:a*C*B<=c*A*B:=by
  have e1:a*C*B=a*B*C:=by grind
  have e2:c*A*B=c*B*A:=by grind
  have e3:b*A*C=b*C*A:=by grind
  rw[e1,e2];exact Int.le_trans k1 (e3▸k2)
 exact Int.le_of_mul_le_mul_right this hB
theorem UY{m:Nat}{done:List Rw}{b:Option Rw}(h:TgOk m done b)(r:Rw):TgOk m (done++[r]) (zM m b r):=by
 unfold zM;by_cases c:r.getD m 0>0/\(∀x∈b,r.getD (m+1) 0*x.getD m 0<x.getD (m+1) 0*r.getD m 0)
 ·rw[dC c];refine⟨λx hx=>?_,λz=>by cases z⟩;cases hx;refine⟨by simp,c.1,λr' hr' p=>?_⟩;rcases nC.mp hr' with q | q
  ·cases hb:b with
   | none=>exact absurd p (Int.not_lt.mpr (h.none hb r' q))
   | some x=>
    have hx:=h.some x hb;exact mul_tr c.1 hx.2.1 p (c.2 x hb) (hx.2.2 r' q p)
  ·rw[mC.mp q];exact tV _
 ·rw[dA c];refine⟨λx hx=>?_,λz r' hr'=>?_⟩
  ·obtain⟨h1,h2,h3⟩:=h.some x hx;refine⟨by simp [h1],h2,λr' hr' p=>?_⟩;rcases nC.mp hr' with q | q
   ·exact h3 r' q p
   ·rw[mC.mp q]at p ⊢;refine Int.not_lt.mp λk=>c ⟨p,λy hy=>?_⟩;have e:y=x:=Option.some.inj (hy.symm.trans hx);rw[e];exact k
  ·rcases nC.mp hr' with q | q
   ·exact h.none z r' q
   ·rw[mC.mp q];refine Int.not_lt.mp λk=>c ⟨k,λy hy=>by rw[z]at hy;cases hy⟩
theorem OO{m:Nat} :∀(todo done:List Rw) (b:Option Rw),TgOk m done b->TgOk m (done++todo) (todo.foldl (zM m) b)
 | [],done,b,h=>by rw[List.append_nil];exact h
 | r::todo,done,b,h=>by
  have:=OO todo (done++[r]) _ (UY h r);rw[mK]at this;exact this
theorem uO(m:Nat)(af:List Rw):TgOk m af (wF m af):=OO af [] none ⟨(λx h=>nomatch h),(λ_ r h=>nomatch h)⟩
def yZ(m:Nat)(r:Rw):Rat:=((-(r.getD (m+1) 0):Int):Rat)/((r.getD m 0:Int):Rat)
theorem NH{m:Nat}{r:Rw}(h:m+2<=r.length)(T:Rat):rw' (r.drop m) [T,1]=((r.getD m 0:Int):Rat)*T+((r.getD (m+1) 0:Int):Rat):=by
 rw[xY (by omega),xY (by omega)];show _*T+(_*1+rw' _ [])=_;rw[xH,tS,tH]
theorem LS{aa:Nat}{ad:List (List Trm)}{N:List Rat}(h:N.length=aa+1)(nb:∀r∈xE aa ad N,brk aa r=false){b:Rw}(hb:wF aa (xE aa ad N)=some b):∀r∈xE aa ad N,0<=rw' (r.drop aa) [yZ aa b,1]:=λr hr=>by
 have eo:=FB h hr;obtain⟨b1,b2,b3⟩:=(uO aa (xE aa ad N)).some b hb;rw[NH (by rw[eo.len];omega)];unfold yZ;have B0:(0:Rat)<((b.getD aa 0:Int):Rat):=by exact_mod_cast b2
 have e:((-(b.getD (aa+1) 0):Int):Rat) = -((b.getD (aa+1) 0:Int):Rat):=by push_cast;rfl
 rw[e];rcases Int.lt_or_eq_of_le eo.lv0 with p | p
 ·have q:((b.getD (aa+1) 0:Int):Rat)*((r.getD aa 0:Int):Rat)<=((r.getD (aa+1) 0:Int):Rat)*((b.getD aa 0:Int):Rat):=by exact_mod_cast b3 r hr p
  generalize ((b.getD (aa+1) 0:Int):Rat)=a at *;generalize ((b.getD aa 0:Int):Rat)=A at *;generalize ((r.getD (aa+1) 0:Int):Rat)=c at *;generalize ((r.getD aa 0:Int):Rat)=C at *;have e2:A*(C*(-a/A)+c)=c*A-a*C:=by grind
  refine gA λk=>?_;have:=Rat.mul_pos (a:=A) (b:=-(C*(-a/A)+c)) B0 (by grind)
  grind
 ·have nb:=nb r hr;unfold brk at nb;rw[nH p.symm,Bool.true_and]at nb;have nb:=of_decide_eq_false nb;rw[<-p];have z:((0:Int):Rat)=0:=rfl;rw[z,tJ,tG]
  exact_mod_cast (show(0:Int)<=_ by omega)
theorem RA{aa:Nat}{ad:List (List Trm)}{N:List Rat}(h:N.length=aa+1)(nb:∀r∈xE aa ad N,brk aa r=false)(hb:wF aa (xE aa ad N)=none)(T:Rat):∀r∈xE aa ad N,r.getD aa 0=0/\0<=rw' (r.drop aa) [T,1]:=λr hr=>by
 have eo:=FB h hr;have l:=(uO aa (xE aa ad N)).none hb r hr;have p:r.getD aa 0=0:=by have:=eo.lv0;omega
 have nb:=nb r hr;unfold brk at nb;rw[nH p,Bool.true_and]at nb;have nb:=of_decide_eq_false nb;refine⟨p, ?_⟩;rw[NH (by rw[eo.len];omega),p];have z:((0:Int):Rat)=0:=rfl;rw[z,tJ,tG]
 exact_mod_cast (show(0:Int)<=_ by omega)
theorem ZX{aa:Nat}{ts:List Trm}{i c:Nat}{ks:List Rat}(hk:ks.length=aa)(T:Rat):rw' (kU aa ts i c) (ks++[T,1])=((lvD (jL aa ts):Int):Rat)*lnV (jL aa ts) ks:=by
 rw[<-VV hk];have l:=vB (jL aa ts);rw[qA]at l;unfold kU;rw[mK,uE _ _ _ _ (by rw[mR];omega),uE _ _ _ _ (by rw[mR];omega)]
 congr 1
 show((0:Int):Rat)*T+_=((0:Int):Rat)*0+_;have z:((0:Int):Rat)=0:=rfl;rw[z,tJ,tJ]
def lnH(N ks:List Rat):Rat:=dot (List.range ks.length) (λj=>N.getD j 0) (λj=>ks.getD j 0)
theorem NI:∀(as:List Int) (ks:List Rat),rw' (as.map λz=>-z) ks = -(rw' as ks)
 | [],ks=>by show(0:Rat) = -0;rw[Rat.neg_zero]
 | a::as,[]=>by rw[xH,xH,Rat.neg_zero]
 | a::as,k::ks=>by
  show((-a:Int):Rat)*k+rw' (as.map _) ks = -((a:Rat)*k+rw' as ks);rw[NI as ks,nG]
  grind
theorem JJ{aa:Nat}{N:List Rat}(h:N.length=aa+1){ks:List Rat}(hk:ks.length=aa):rw' ((lvT N).take aa) ks=((lvD N:Int):Rat)*lnH N ks:=by
 have l:=vB N;have:=JQ ((lvT N).take aa) ks (by rw[mR];omega);rw[<-this];unfold lnH;rw[hk,<-xZ];refine jX λj hj=>?_;rw[uY,gF (nJ.mp hj),<-uY,yV,nU]
theorem lv_at{aa:Nat}{N:List Rat}(h:N.length=aa+1){c:Nat}{ks:List Rat}(hk:ks.length=aa)(T:Rat):rw' (qP aa N c) (ks++[T,1])=((lvD N:Int):Rat)*(T-lnV N ks):=by
 have l:=vB N;unfold qP;rw[mK,mK,uE _ _ _ _ (by rw[mZ,mR];omega),NI,JJ h hk];show _+(((lvD N:Int):Rat)*T+(((-((lvT N).getD aa 0):Int):Rat)*1+rw' _ []))=_;rw[xH,nG,yV];unfold lnV lnH;rw[hk]
 grind
theorem NM{d x:Rat}(hd:0<d)(h:0<=d*x):0<=x:=by
 refine gA λn=>?_;have:=Rat.mul_pos (a:=d) (b:=-x) hd (by grind)
 grind
theorem MY{aa:Nat}{ad:List (List Trm)}{N:List Rat}(h:N.length=aa+1){T:Rat}(fin:∀r∈xE aa ad N,0<=rw' (r.drop aa) [T,1]) :
  (∀ts∈ad,0<=lnV (jL aa ts) ((qL aa (kG aa (kJ aa ad N)) T aa).take aa))/\lnV N ((qL aa (kG aa (kJ aa ad N)) T aa).take aa)<=T:=by
 have g:=(zC (JW h) uU fin aa uU).1;rw[tM]at g;have sl:=qK aa (kG aa (kJ aa ad N)) T aa;have lk:((qL aa (kG aa (kJ aa ad N)) T aa).take aa).length=aa:=by rw[mR];omega
 refine⟨λts ht=>?_, ?_⟩
 ·obtain⟨i,hi⟩:=gO.mp ht;have il:=(gC.mp hi).1;have g:=g _ (all_mem.mpr (.inl ⟨i,il,rfl⟩));rw[List.drop_zero,yK,ZX lk,uY,hi,Option.getD_some]at g;exact NM (by exact_mod_cast vS _) g
 ·have g:=g _ (all_mem.mpr (.inr rfl));rw[List.drop_zero,yK,lv_at h lk]at g;have:=NM (by exact_mod_cast vS N) g
  grind
theorem ln_ws{aa:Nat}{ad:List (List Trm)}{N:List Rat}{ws ks:List Rat}{T:Rat}(hk:ks.length=aa)(h1:∀j,j<aa->vI aa ad ws j=N.getD j 0)(h2:T+vI aa ad ws aa=N.getD aa 0):lnV N ks=T+dot (List.range ad.length) (λi=>lnV (jL aa (ad.getD i [])) ks) (λi=>ws.getD i 0):=by
 unfold lnV;rw[hk];have e1:dot (List.range aa) (λj=>N.getD j 0) (λj=>ks.getD j 0)=dot (List.range aa) (λj=>vI aa ad ws j) (λj=>ks.getD j 0):=jX λj hj=>by rw[h1 j (nJ.mp hj)]
 have e2:=HK (List.range ad.length) (List.range aa) (λi j=>(jL aa (ad.getD i [])).getD j 0) (λi=>ws.getD i 0) (λj=>ks.getD j 0);have e3:dot (List.range aa) (λj=>vI aa ad ws j) (λj=>ks.getD j 0)=dot (List.range ad.length) (λi=>dot (List.range aa) (λj=>(jL aa (ad.getD i [])).getD j 0) (λj=>ks.getD j 0)) (λi=>ws.getD i 0):=e2;rw[e1,e3,<-h2,LW];unfold vI
 grind
theorem YO{I:List Nat}{a v:Nat->Rat}(h1:∀i∈I,0<=a i)(h2:∀i∈I,0<=v i):0<=dot I a v:=by
 induction I with
 | nil=>exact tW
 | cons i I ih=>rw[kF];exact Rat.add_nonneg (nO (h1 i (by simp)) (h2 i (by simp))) (ih (λj hj=>h1 j (by simp [hj])) λj hj=>h2 j (by simp [hj]))
theorem EU{aa:Nat}{ad:List (List Trm)}{N:List Rat}{ws ks:List Rat}{T:Rat}(hk:ks.length=aa)(h1:∀j,j<aa->vI aa ad ws j=N.getD j 0)(h2:T+vI aa ad ws aa=N.getD aa 0)(wn:∀w∈ws,0<=w)(kn:∀ts∈ad,0<=lnV (jL aa ts) ks)(le:lnV N ks<=T):lnV N ks=T:=by
 have e:=ln_ws hk h1 h2;have p:0<=dot (List.range ad.length) (λi=>lnV (jL aa (ad.getD i [])) ks) (λi=>ws.getD i 0):=YO (λi hi=>by
  have hi:=nJ.mp hi;rw[uY,gE hi];exact kn _ (mV hi)) λi _=>by
  rw[uY];cases c:ws[i]? with
  | none=>exact tW
  | some w=>exact wn w (gQ c)
 grind
def kY(m:Nat)(r:Rw)(x:Int):Rw:=r.take m++[0,x]++r.drop (m+2)
def kX(aa:Nat)(ad:List (List Trm))(N:List Rat):List Rw:=(kC aa ad).map (λr=>kY aa r 0)++[kY aa (qP aa N ad.length) (-1)]
def BX(aa:Nat)(ad:List (List Trm))(N:List Rat)(i j:Nat):Rat:=if j<aa then wY aa ad N i j else if j=aa then 0 else if i<ad.length then 0 else -(((lvD N:Int):Rat)⁻¹)
theorem UO{m:Nat}{r:Rw}(h:m+2<=r.length){x:Int}{j:Nat}(hj:j<m):(kY m r x).getD j 0=r.getD j 0:=by
 unfold kY;rw[uY,mK,gD (by rw[mR];omega),gF hj,uY]
theorem MK{m:Nat}{r:Rw}(h:m+2<=r.length){x:Int}(j:Nat):(kY m r x).getD (m+j) 0=(0::x::r.drop (m+2)).getD j 0:=by
 unfold kY;have lt:(r.take m).length=m:=by rw[mR];omega
 rw[uY,mK,uZ (by omega),lt,Nat.add_sub_cancel_left,<-uY]
 rfl
theorem UP{m:Nat}{r:Rw}(h:m+2<=r.length){x:Int}(j:Nat):(kY m r x).getD (m+2+j) 0=r.getD (m+2+j) 0:=by
 rw[show m+2+j=m+(j+2) by omega,MK h,uY,gH,gH,List.getElem?_drop,uY,show m+(j+2)=m+2+j by omega]
theorem ML{m:Nat}{r:Rw}(h:m+2<=r.length)(x:Int):(kY m r x).length=r.length:=by
 unfold kY;rw[hU,hU,mR,List.length_drop];show min m r.length+2+_=_;omega
theorem MJ{m:Nat}{r:Rw}(h:m+2<=r.length)(x:Int):shr m (kY m r x)=shr m r:=by
 funext i
 unfold shr;rw[UP h]
theorem way_mem{aa:Nat}{ad:List (List Trm)}{N:List Rat}{r:Rw} :r∈kX aa ad N↔(∃i,i<ad.length/\r=kY aa (kU aa (ad.getD i []) i ad.length) 0)∨r=kY aa (qP aa N ad.length) (-1):=by
 unfold kX;rw[nC,mC,tF];refine or_congr ⟨?_, ?_⟩ Iff.rfl
 ·rintro⟨r',h,rfl⟩;obtain⟨i,hi,rfl⟩:=rimRows_mem.mp h;exact⟨i,hi,rfl⟩
 ·rintro⟨i,hi,rfl⟩;exact⟨_,rimRows_mem.mpr ⟨i,hi,rfl⟩,rfl⟩
theorem wy_ok{aa:Nat}{ad:List (List Trm)}{N:List Rat}{r:Rw}{x:Int}(ro:RowOk aa (ad.length+1) (ad.length+1) (wY aa ad N) 0 r)(hx:((x:Int):Rat) = -(((lvD N:Int):Rat)⁻¹)*shr aa r ad.length):RowOk aa (ad.length+1) (ad.length+1) (BX aa ad N) 0 (kY aa r x):=by
 have hl:aa+2<=r.length:=by rw[ro.len];omega
 refine⟨(ML hl x).trans ro.len,λj hj=>?_,λi=>by rw[UP hl];exact ro.nn i,λi hi=>by rw[UP hl];exact ro.out i hi,λj hj=>by omega⟩;rw[MJ hl];by_cases h1:j<aa
 ·rw[UO hl h1,ro.lin j (by omega)];exact jX λi _=>by unfold BX;rw[dC h1]
 ·by_cases h2:j=aa
  ·have:=MK hl (x:=x) 0;rw[tN]at this;rw[h2,this,jX (a':=λ_=>0) (v':=λ_=>0) (λi _=>by unfold BX;rw[dA (nV _),dC rfl,tJ,tJ]),vG λ_ _=>rfl]
   rfl
  ·obtain rfl:j=aa+1:=by omega
   rw[MK hl 1];show((x:Int):Rat)=_;rw[hx,nF,yW,kF,vV,tH];have z:dot (List.range ad.length) (λi=>BX aa ad N i (aa+1)) (shr aa r)=0:=by
    rw[jX (a':=λ_=>0) (v':=λ_=>0) (λi hi=>by unfold BX;rw[dA (by omega),dA (by omega),dC (nJ.mp hi),tJ,tJ]),vG λ_ _=>rfl]
   have y:BX aa ad N ad.length (aa+1) = -(((lvD N:Int):Rat)⁻¹):=by unfold BX;rw[dA (by omega),dA (by omega),dA (nV _)]
   rw[z,y,tG]
theorem MN{aa:Nat}{ad:List (List Trm)}{N:List Rat}(h:N.length=aa+1):StOk aa (ad.length+1) (ad.length+1) (BX aa ad N) 0 (kX aa ad N):=by
 have D0:(0:Rat)<((lvD N:Int):Rat):=by exact_mod_cast vS N
 refine⟨λr hr=>?_,VB λi hi=>?_⟩
 ·rcases way_mem.mp hr with⟨i,hi,rfl⟩ | rfl
  ·refine wy_ok (JX h _ (all_mem.mpr (.inl ⟨i,hi,rfl⟩))) ?_;rw[uQ (by omega),dA (by omega),tI]
   rfl
  ·refine wy_ok (lv_ok h) ?_;rw[IK h,dC rfl,Rat.neg_mul,Rat.inv_mul_cancel _ (by grind)]
   rfl
 ·obtain⟨r,hr,d,d0,e⟩:=RP h i hi;have hl:aa+2<=r.length:=by rw[(JX h r hr).len];omega
  rcases all_mem.mp hr with⟨k,hk,rfl⟩ | rfl
  ·exact⟨_,way_mem.mpr (.inl ⟨k,hk,rfl⟩),d,d0,λk=>by rw[MJ hl];exact e k⟩
  ·exact⟨_,way_mem.mpr (.inr rfl),d,d0,λk=>by rw[MJ hl];exact e k⟩
theorem QZ{aa:Nat}{ad:List (List Trm)}{N:List Rat}(h:N.length=aa+1)(z:∀r∈xE aa ad N,r.getD aa 0=0):∀r∈kG aa (kX aa ad N) aa,0<=rw' (r.drop aa) [0,1]:=λr hr=>by
 have wo:=yL (MN (ad:=ad) h) uU aa uU ;have ao:=yL (JW (ad:=ad) h) uU aa uU ;have ro:=wo.ok r hr;have ic:=ro.inC uU ;have ic':InC (ad.length+1) (fnl (wY aa ad N) aa) (shr aa r):=⟨ic.nn,ic.out,λa ha=>by
  unfold fnl at ha;obtain⟨l,hl,rfl⟩:=tF.mp ha;have hl:=nJ.mp hl;have:=ic.z (λi=>BX aa ad N i l) (by unfold fnl;exact tF.mpr ⟨l,nJ.mpr hl,rfl⟩);rw[<-this];exact jX λi _=>by unfold BX;rw[dC hl]⟩
 have cn:=ao.gen _ ic';have s0:shr aa r ad.length=0:=by
  have lin:Lin λv=>-(v ad.length):=⟨λa b=>by show -(_+_)=_;grind,λt a=>by show -(t*_)=_;grind⟩;have p:=lin.nn (G:=λv=>∃r∈xE aa ad N,v=shr aa r) (λg hg=>by
   obtain⟨r',hr',rfl⟩:=hg;have e:=(FB h hr').lev;rw[z r' hr']at e;show 0<=-(shr aa r' ad.length);unfold shr;rw[<-e];exact tW) cn
  have q:=ic.nn ad.length;have p:0<=-(shr aa r ad.length):=p
  grind
 have l:=ro.lin (aa+1) (by omega);have z2:dot (List.range (ad.length+1)) (λi=>BX aa ad N i (aa+1)) (shr aa r)=0:=by
  rw[nF,yW,kF,vV,s0,tI,tH,tH];rw[jX (a':=λ_=>0) (v':=λ_=>0) (λi hi=>by unfold BX;rw[dA (by omega),dA (by omega),dC (nJ.mp hi),tJ,tJ]),vG λ_ _=>rfl]
 rw[NH (by rw[ro.len];omega),l,z2,tI,tH];exact tW
theorem way_x{aa:Nat}{ad:List (List Trm)}{N:List Rat}(h:N.length=aa+1)(z:∀r∈xE aa ad N,r.getD aa 0=0) :
  (∀ts∈ad,0<=lnH (jL aa ts) ((qL aa (kG aa (kX aa ad N)) 0 aa).take aa))/\lnH N ((qL aa (kG aa (kX aa ad N)) 0 aa).take aa)<0:=by
 have g:=(zC (MN (ad:=ad) h) uU (T:=0) (QZ h z) aa uU).1;rw[tM]at g;have sl:=qK aa (kG aa (kX aa ad N)) 0 aa;have lk:((qL aa (kG aa (kX aa ad N)) 0 aa).take aa).length=aa:=by rw[mR];omega
 refine⟨λts ht=>?_, ?_⟩
 ·obtain⟨i,hi⟩:=gO.mp ht;have il:=(gC.mp hi).1;have g:=g _ (way_mem.mpr (.inl ⟨i,il,rfl⟩));have lt:=uF aa (ad.getD i []) i ad.length;have l:=vB (jL aa (ad.getD i []));rw[qA]at l;rw[List.drop_zero,yK]at g;unfold kY at g;rw[mK,uE _ _ _ _ (by rw[mR,lk];omega)]at g;have t1:(kU aa (ad.getD i []) i ad.length).take aa=(lvT (jL aa (ad.getD i []))).take aa:=by
   unfold kU;rw[mK,List.take_append_of_le_length (by rw[mR];omega),List.take_take,Nat.min_self]
  have t2:rw' ([0,0]++(kU aa (ad.getD i []) i ad.length).drop (aa+2)) [0,1]=0:=by
   show((0:Int):Rat)*0+(((0:Int):Rat)*1+rw' _ [])=0;have z:((0:Int):Rat)=0:=rfl;rw[xH,z]
   grind
  rw[t1,t2,tH,JJ (qA _ _) lk,uY,hi,Option.getD_some]at g;exact NM (by exact_mod_cast vS _) g
 ·have g:=g _ (way_mem.mpr (.inr rfl));have lt:=BF h ad.length;have l:=vB N;rw[List.drop_zero,yK]at g;unfold kY at g;rw[mK,uE _ _ _ _ (by rw[mR,lk];omega)]at g;have t1:(qP aa N ad.length).take aa=((lvT N).take aa).map λz=>-z:=by
   unfold qP;rw[mK,mK,List.take_append_of_le_length (by rw[mZ,mR];omega),gJ (by rw[mZ,mR];omega)]
  have t2:rw' ([0,-1]++(qP aa N ad.length).drop (aa+2)) [0,1] = -1:=by
   show((0:Int):Rat)*0+(((-1:Int):Rat)*1+rw' _ []) = -1;have z:((0:Int):Rat)=0:=rfl;have y:((-1:Int):Rat) = -1:=rfl;rw[xH,z,y]
   grind
  rw[t1,t2,NI,JJ h lk]at g;refine gA λn=>?_;have:=nO (a:=((lvD N:Int):Rat)) (b:=lnH N ((qL aa (kG aa (kX aa ad N)) 0 aa).take aa)) (Rat.le_of_lt (by exact_mod_cast vS N)) (by grind)
  grind
def spLevel:Sp:=λvs H Q _=>∃(p:Addr) (count aa:Nat) (z:Sz) (ts:List Trm),vs=[.ref p,.int count]/\Poly H p aa z ts/\z.D<=1/\1<=aa/\aa<=4/\z.v+z.S<=2200/\z.n<=1000/\count<=10/\
 ∀(r:Addr) (H':Hp),H r=none->Same H H'->H' r=some (.lst ((qP aa (jL aa ts) count).map V.int))->Q (.ref r) H'
theorem scLv:FnScope ["one","count","numbers","bottom"] ["one","count"] (jM IQ):=⟨rfl,rfl,rfl,by decide +kernel,rfl,by decide +kernel,by decide +kernel⟩
theorem WS{fW:Addr}{fdW:FuncData}(F:Fun K "level_row" "level_row" IQ f fd)(DW:Df K mg "whole_numbers" ED ["one"] fW fdW)(GW:FnOk P w K mg base CX0 4 fW fdW ["one"] (IE K)):FnOk P w K mg base CX0 5 f fd ["one","count"] spLevel:=by
 refine F.ok scLv (λvs H Q E h=>?_) (λcdv A outer s H vs Q E hr h=>?_)
 ·obtain⟨p,count,aa,z,ts,rfl,_⟩:=h
  rfl
 ·obtain⟨p,count,aa,z,ts,rfl,hP,zD,m1,m4,zb,zn,c10,go⟩:=h;refine⟨_,jD (qW (jG GW hr rfl DW.m DW.F.kp DW.b .nil jR (jA (pv 0) jC)) (qI rfl (jQ (jI (i:=2) scLv.nd rfl (Or.inl rfl)) (jQ (jI (i:=3) scLv.nd rfl (Or.inl rfl)) kN)))) (jF (jU (jJ xL (jJ xL (jJ xL (vL (own:=1) (idx:=[]) (N:=["number"]) rfl rfl rfl (by decide +kernel) (by decide +kernel) (λ_ _ h=>nomatch h) (vC rfl) rfl (λ_ _ _ h=>nomatch h) (qF (vK vJ (pv 2) yT (vH (qX kZ jB)))) (λC fp s2 H2=>(jI (i:=0) (show List.Nodup (["number"]:List Str) by decide +kernel) rfl (Or.inl rfl) (Or.inr rfl))) (λC fp s2 H2=>qX kZ (pv 0))) (qO (jA (pv 3) (jA (qX kZ (jN kH (pv 2) (qX kZ jB) (λ_ _=>rfl))) jC)))) (jJ WJ (qO (jA jB jC)) (pv 1))) (qO (jA (pv 3) jC))))), ?_⟩;try dsimp only[cxK]
  refine⟨_,rfl,p,aa,z,ts,rfl,hP,zD,m1,m4,zb,zn,λr l H1 n1 s1 e1 e2=>?_⟩;have ln:(lvT (jL aa ts)).length=aa+1:=by rw[vB,qA]
  refine⟨r,_,rfl,SqT.of e1,rfl,_,_,rfl,_,_,rfl,rfl, ?_⟩;refine⟨_,rfl,_,rfl,_,rfl,l,_,rfl,SqL.of e2,λl2 H2 n2 s2 e3=>?_⟩;rw[LZ (n:=aa) (by rw[mZ];exact ln),<-nY]at e3;refine⟨l2,rfl,⟨_,SqL.of e3⟩,λq H3 n3 s3 e4=>?_⟩;have lt:((lvT (jL aa ts)).take aa).length=aa:=by rw[mR];omega
  refine xQ (K:=K) (a:=l2) (xs:=((lvT (jL aa ts)).take aa).map V.int) (CmI (λk=>((((lvT (jL aa ts)).take aa).take k).map λz=>-z).map V.int) q H2) (by rw[mZ,lt,sizeLine_eq];omega) ⟨s3,e4,rfl⟩ (λi ys H4 h=>⟨SqL.of (h.s _ _ e3),h.e⟩) ?_ ?_
  ·rintro i m' ys x H4 hx hm hy ⟨s4,e5,ey⟩;have hx0:=hx;rw[mH]at hx;obtain⟨nn,hnn,rfl⟩:=Option.map_eq_some_iff.mp hx;refine⟨zJ,_,rfl,_,rfl, ?_⟩;refine qB hx0 hm hy e5 ⟨jZ s4 n3,jE, ?_⟩;rw[ey,mJ,hnn,nA,nA]
   rfl
  ·rintro ys H4 hy ⟨s4,e5,ey⟩;rw[mZ,lt,gJ (by omega)]at ey;have s14:=s2.trans s4;refine⟨_,rfl,_,rfl,_,rfl,l,_,_,_,rfl,rfl,SqL.of (s14 _ _ e2),LK ln,_,rfl,uX,λl5 H5 n5 s5 e6=>?_⟩;refine⟨q,l5,_,_,rfl,rfl,s5 _ _ e5,e6,by rw[ey,mZ,mZ,lt,sizeLine_eq];show aa+2<=_;omega,λl6 H6 n6 s6 e7=>?_⟩;refine⟨uW,λl7 H7 n7 s7 e8=>⟨_,rfl,l7,_,_,rfl,rfl,e8,by omega,by omega,by rw[sizeLine_eq];show 1*((count:Int)).toNat<=_;omega,λl8 n8=>?_⟩⟩;have er:(List.replicate ((count:Int)).toNat [V.int 0]).flatten=List.replicate count (V.int 0):=by
    rw[mP,List.flatten_replicate_singleton]
   rw[er];have s8:Same H7 (upd H7 l8 (.lst (List.replicate count (V.int 0)))):=jY _ n8;have e9:(upd H7 l8 (.lst (List.replicate count (V.int 0)))) l8=some (.lst (List.replicate count (V.int 0))):=jE;generalize upd H7 l8 (.lst (List.replicate count (V.int 0)))=H8 at s8 e9;refine⟨l6,l8,_,_,rfl,rfl,(s7.trans s8) _ _ e7,e9, ?_,λl9 H9 n9 s9 e10=>?_⟩
   ·rw[hU,ey,mZ,mZ,lt,gM,sizeLine_eq];show aa+2+count<=_;omega
   refine⟨_,rfl,uW,λl10 H10 n10 s10 e11=>⟨l9,l10,_,_,rfl,rfl,s10 _ _ e10,e11, ?_,λl11 H11 n11 s11 e12=>?_⟩⟩
   ·rw[hU,hU,ey,mZ,mZ,lt,gM,sizeLine_eq];show aa+2+count+1<=_;omega
   have sx:=s1.trans (s14.trans (s5.trans (s6.trans (s7.trans (s8.trans (s9.trans s10))))));refine go l11 H11 (sx.free n11) (sx.trans s11) ?_;rw[e12,ey];unfold qP;rw[nA,nA,nA,List.map_replicate]
   rfl
inductive BsV(H:Hp):Option Rw->V->Prop where
 | non:BsV H none .non
 | row {r:Rw} {p:Addr} (e:H p=some (.lst (r.map V.int))):BsV H (some r) (.ref p)
theorem BsV.same{H H':Hp}{b:Option Rw}{v:V}(h:BsV H b v)(s:Same H H'):BsV H' b v:=by
 cases h with
 | non=>exact .non
 | row e=>exact .row (s _ _ e)
def spTight:Sp:=λvs H Q _=>∃(a:Addr) (m n:Nat) (xs:List V) (af:List Rw),vs=[.ref a,.int m]/\RwsP H a xs af/\(∀r∈af,r.length=m+2+n)/\m<=4/\(∀r∈af,∀i∈r,i.natAbs<=2^3407)/\
 ∀(v:V) (H':Hp),Same H H'->BsV H' (wF m af) v->Q v H'
inductive TgI(H:Hp)(a:Addr)(m:Nat)(af:List Rw)(i:Nat):L2.St->Hp->Prop where
 | mk {H':Hp} {v:V} {u3 u4 u5:Option V} (s:Same H H') (b:BsV H' ((af.take i).foldl (zM m) none) v):TgI H a m af i [some (.ref a),some (.int m),some v,u3,u4,u5] H'
theorem ON{m:Nat} :∀(af:List Rw) (b:Option Rw) (x:Rw),af.foldl (zM m) b=some x->x∈af∨b=some x
 | [],b,x,h=>.inr h
 | r::af,b,x,h=>by
  rcases ON af (zM m b r) x h with q | q
  ·exact .inl (gR _ q)
  ·unfold zM at q;split at q
   ·exact .inl (by cases q;simp)
   ·exact .inr q
theorem scTg:FnScope ["rows","many","best","row","level","lone"] ["rows","many"] (jM IL):=⟨rfl,rfl,rfl,by decide +kernel,rfl,by decide +kernel,by decide +kernel⟩
theorem WM(F:Fun K "tightest" "tightest" IL f fd):FnOk P w K mg base CX0 1 f fd ["rows","many"] spTight:=by
 refine F.ok scTg (λvs H Q E h=>?_) (λcdv A outer s H vs Q E hr h=>?_)
 ·obtain⟨a,m,n,xs,af,rfl,_⟩:=h
  rfl
 ·obtain⟨a,m,n,xs,af,rfl,rp,hl,m4,hb,go⟩:=h;refine⟨_,jD (jP (i:=2) scTg.nd rfl (Or.inl rfl) (WB)) (jD (qM PassesOwn.never rfl (qF (pv 0)) (jI (i:=3) scTg.nd rfl (Or.inl rfl)) (jD (qW (vK vJ (pv 3) (vH (pv 1)) (vH (jJ kQ (pv 1) jB))) (PR rfl (jQ (jI (i:=4) scTg.nd rfl (Or.inl rfl)) (jQ (jI (i:=5) scTg.nd rfl (Or.inl rfl)) kN)))) (jF (kS (PW.pt (IW (jV BP (pv 4) jB (jW _)) (CL (PW.pt (yM (BD (WG (pv 2))) (yD (jV zG (jJ qC (pv 5) (jN kH (pv 2) (pv 1) (λ_ _=>rfl))) (jJ qC (jN kH (pv 2) (jJ kQ (pv 1) jB) (λ_ _=>rfl)) (pv 4)) (jW _)))))))) (jF (jP (i:=2) scTg.nd rfl (Or.inl rfl) (pv 3))) kD)))) (jF (jU (pv 2)))), ?_⟩;try dsimp only[cxK]
  have lx:xs.length=af.length:=Paired.length rp.pr;refine⟨_,rfl,a,rfl,⟨_,SqL.of rp.at'⟩,xX (K:=K) (a:=a) (xs:=xs) (TgI H a m af) (.mk (Same.refl _) .non) (λi σ H1 _ h=>?_) (λi x σ H1 hx h=>?_) (fun σ H1 h=>?_)⟩
  ·obtain⟨s1,_⟩:=h;exact SqL.of (s1 _ _ rp.at')
  ·obtain⟨s1,bs⟩:=h;rename_i bv u3 u4 u5;obtain⟨r,hr',p,rfl,er⟩:=Paired.at rp.pr hx;have rm:=gQ hr';have rl:=hl r rm;have er1:=s1 _ _ er;refine⟨_,rfl,_,rfl,_,rfl,_,rfl,_,_,rfl,rfl,_,rfl,p,_,rfl,SqL.of er1,λq2 H2 n2 s2 e2=>?_⟩;rw[RJ (by omega)]at e2;refine⟨q2,_,rfl,SqL.of e2,rfl,_,_,rfl,_,_,rfl,rfl, ?_⟩;have tk:(af.take (i+1)).foldl (zM m) none=zM m ((af.take i).foldl (zM m) none) r:=by
    rw[mJ,hr',List.foldl_append]
    rfl
   have sub:∀x,(af.take i).foldl (zM m) none=some x->x∈af:=λx hx=>by
    rcases ON _ _ _ hx with q | q
    ·exact gW q
    ·cases q
   have bs2:=bs.same s2;have s12:=s1.trans s2;generalize (af.take i).foldl (zM m) none=bo at bs2 tk sub;have keep:zM m bo r=bo->TgI H a m af (i+1) [some (.ref a),some (.int m),some bv,some (.ref p),some (.int (r.getD m 0)),some (.int (r.getD (m+1) 0))] H2:=λe=>.mk s12 (by rw[tk,e];exact bs2);have next:zM m bo r=some r->TgI H a m af (i+1) [some (.ref a),some (.int m),some (.ref p),some (.ref p),some (.int (r.getD m 0)),some (.int (r.getD (m+1) 0))] H2:=λe=>.mk s12 (by rw[tk,e];exact .row (s2 _ _ er1));have up:∀x∈af,∀j,(x.getD j 0).natAbs<2^100000:=λx hx j=>by
    by_cases k:j<x.length
    ·exact kK (m:=3408) (hJ (hb x hx _ (vO k)) (gT (by decide) (by decide))) (by decide)
    ·rw[uY,gN (by omega)];exact Nat.two_pow_pos _
   refine⟨_,rfl,_,_,rfl,rfl,_,rfl, ?_⟩;by_cases c1:r.getD m 0>0
   ·refine xP (nH c1) ?_;cases bs2 with
    | non=>
     refine⟨_,rfl,_,rfl,xP (nH rfl) (NY ?_)⟩;exact⟨_,rfl,next (by unfold zM;rw[dC ⟨c1,λx h=>nomatch h⟩])⟩
    | @row y yp ey=>
     have ym:=sub y rfl;have yl:=hl y ym;have g2:atI (y.map V.int) ((m:Int)+1)=some (.int (y.getD (m+1) 0)):=xI (l:=m+1) (by omega);refine⟨_,rfl,_,rfl,vA (nB λz=>by cases z) ?_⟩;refine⟨_,rfl,_,rfl,_,rfl,yp,_,_,_,rfl,rfl,SqL.of ey,xI (by omega),_,_,rfl,rfl,⟨up r rm _,up y ym _⟩,_,rfl,_,rfl,_,_,rfl,rfl,yp,_,_,_,rfl,rfl,SqL.of ey,g2,_,rfl,_,_,rfl,rfl,⟨up y ym _,up r rm _⟩,_,_,rfl,rfl,_,rfl, ?_⟩;by_cases c2:r.getD (m+1) 0*y.getD m 0<y.getD (m+1) 0*r.getD m 0
     ·exact xP (nH c2) ⟨_,rfl,next (by unfold zM;rw[dC ⟨c1,λx h=>by cases h;exact c2⟩])⟩
     ·exact vA (nB c2) (keep (by unfold zM;rw[dA λh=>c2 (h.2 y rfl)]))
   ·exact vA (nB c1) (yR (keep (by unfold zM;rw[dA λh=>c1 h.1])))
  ·obtain⟨s1,bs⟩:=h;rw[lx,mT]at bs;exact⟨_,rfl,go _ H1 s1 bs⟩
theorem wy_set{m:Nat}{r:Rw}(h:m<=r.length)(x y:Int):(kY m r x).set (m+1) y=kY m r y:=by
 unfold kY;have lt:(r.take m).length=m:=by rw[mR];omega
 rw[mK,mK,List.set_append_right _ _ (by omega),lt,show m+1-m=1 by omega]
 rfl
theorem HV{m n:Nat}{r:Rw}{x:Int}(h:∀i∈r,i.natAbs<=2^n)(hx:x.natAbs<=1):∀i∈kY m r x,i.natAbs<=2^n:=λi hi=>by
 unfold kY at hi;rcases nC.mp hi with hi | hi
 ·rcases nC.mp hi with hi | hi
  ·exact h i (gW hi)
  ·rcases nT.mp hi with rfl | hi
   ·exact tQ _
   ·rw[mC.mp hi];exact tD hx mE
 ·exact h i (List.mem_of_mem_drop hi)
theorem HW{aa:Nat}{ad:List (List Trm)}{N:List Rat}{w:Rw}(hw:w∈kX aa ad N):∃r∈kJ aa ad N,∃x:Int,x.natAbs<=1/\w=kY aa r x:=by
 rcases way_mem.mp hw with⟨i,hi,rfl⟩ | rfl
 ·exact⟨_,all_mem.mpr (.inl ⟨i,hi,rfl⟩),0,by decide,rfl⟩
 ·exact⟨_,all_mem.mpr (.inr rfl),-1,by decide,rfl⟩
theorem ZJ{aa:Nat}{ad:List (List Trm)}{N:List Rat}(m1:1<=aa)(h:St0 aa (ad.length+1) (kJ aa ad N)):St0 aa (ad.length+1) (kX aa ad N):=by
 have hl:∀r∈kJ aa ad N,aa+2<=r.length:=λr hr=>by rw[h.b.len r hr];omega
 refine⟨⟨λw hw=>?_,λw hw=>?_⟩,λu hu d hd pu pd=>?_⟩
 ·obtain⟨r,hr,x,hx,rfl⟩:=HW hw;rw[ML (hl r hr)];exact h.b.len r hr
 ·obtain⟨r,hr,x,hx,rfl⟩:=HW hw;exact HV (h.b.bit r hr) hx
 ·obtain⟨r,hr,x,hx,rfl⟩:=HW hu;obtain⟨r2,hr2,x2,hx2,rfl⟩:=HW hd;rw[UO (hl r hr) (by omega)]at pu;rw[UO (hl r2 hr2) (by omega)]at pd;rcases h.pr r hr r2 hr2 pu pd with k | k
  ·exact .inl (HV k hx)
  ·exact .inr (HV k hx2)
theorem BV(aa:Nat)(ad:List (List Trm))(N:List Rat):(kJ aa ad N).length=ad.length+1:=by
 unfold kJ kC;rw[hU,mZ,mM]
 rfl
def VC(K:dD):Sp:=λvs H Q _=>∃(a:Addr) (m:Nat) (ad:List (List Trm)) (N:List Rat) (xs:List V),vs=[.ref a,.int m]/\RwsP H a xs (kJ m ad N)/\N.length=m+1/\St0 m (ad.length+1) (kJ m ad N)/\1<=m/\m<=3/\ad.length<=6/\(∀r∈xE m ad N,r.getD m 0=0)/\
 ∀(p:Addr) (ys:List V) (H':Hp),H p=none->Same H H'->H' p=some (.tup ys)->Paired (NumK K H') ys ((qL m (kG m (kX m ad N)) 0 m).take m)->(∀k∈(qL m (kG m (kX m ad N)) 0 m).take m,SzR 6630 k)->Q (.ref p) H'
structure WyI(H1:Hp)(q:Addr)(af:List Rw)(m i:Nat)(ys:List V)(H2:Hp):Prop where
 s:Same H1 H2
 e:H2 q=some (.lst ys)
 pr:Paired (RR H2) ys ((af.map λr=>kY m r 0).take i)
 nd:ys.Nodup
 fr:∀p,V.ref p∈ys->H1 p=none
theorem CC{m S n:Nat}{rim:Nat->Nat->Rat}{af:List Rw}{T:Rat}(h:StOk m S n rim 0 af)(hn:n<=S)(hb:St0 m S af)(fin:∀r∈kG m af m,0<=rw' (r.drop m) [T,1]) :
  (∀j,j<m->Bears (m-1-j) (qL m (kG m af) T j) (kG m af (m-1-j)))/\∀e,e<m->∀r∈kG m af e,m+2<=r.length/\∀i∈r,i.natAbs<=2^gB e:=by
 refine⟨(zC h hn fin m uU).2,λe he r hr=>?_⟩;have se:=yI hb e;exact⟨by rw[se.len r hr];omega,se.bit r hr⟩
theorem scWd:FnScope ["rows","many","steps"] ["rows","many"] (jM OV):=⟨rfl,rfl,rfl,by decide +kernel,rfl,by decide +kernel,by decide +kernel⟩
theorem ok_wayd{fS fP:Addr}{fdS fdP:FuncData}(F:Fun K "way_down" "way_down" OV f fd)(N:Ngt K mg)(DS:Df K mg "stages" wS ["rows","many"] fS fdS)(GS:FnOk P w K mg base CX0 3 fS fdS ["rows","many"] spStg)(DP:Df K mg "spot_of" FV ["found","many","level"] fP fdP)(GP:FnOk P w K mg base CX0 5 fP fdP ["found","many","level"] (IF K)):FnOk P w K mg base CX0 6 f fd ["rows","many"] (VC K):=by
 obtain⟨na,hN,hna⟩:=N;refine F.ok scWd (λvs H Q E h=>?_) (λcdv A outer s H vs Q E hr h=>?_)
 ·obtain⟨a,m,ad,N,xs,rfl,_⟩:=h
  rfl
 ·obtain⟨a,m,ad,N,xs,rfl,rp,hN1,sb,m1,m3,t6,hz,go⟩:=h;have hr3:Room 3 _:=hr.mono (by decide);refine⟨_,jD (uG (i:=2) scWd.nd rfl (Or.inl rfl) (own:=1) (idx:=[1]) (N:=["row","many"]) rfl rfl rfl (by decide +kernel) (by decide +kernel) (vW (by intro y hy;simp only[nT,mS,or_false]at hy;rcases hy with rfl;rfl)) (vC rfl) rfl (vR rfl ⟨rfl,rfl,rfl,rfl⟩) (qF (pv 0)) (λC fp s2 H2=>(jI (i:=0) (show List.Nodup (["row","many"]:List Str) by decide +kernel) rfl (Or.inl rfl) (Or.inr rfl))) (λC fp s2 H2=>jJ xL (jJ xL (vK (show SlR (jK _ ["row","many"] _ _ C fp s2 H2) (WA K)from vJ) (pv 0) yT (vH (pv 1))) (qO (jA jB (jA jB jC)))) (vK (show SlR (jK _ ["row","many"] _ _ C fp s2 H2) (WA K)from vJ) (pv 0) (vH (jJ kQ (pv 1) jB)) yT))) (jD (qW (qX kZ jB) (wK (jN kH (pv 2) (qX kZ jB) (λ_ _=>rfl)) (jJ kQ (pv 1) jB) xW)) (jF (jU (jG GP hr rfl DP.m DP.F.kp DP.b .nil jR (jA (jG GS hr3 rfl DS.m DS.F.kp DS.b .nil jR (jA (pv 2) (jA (pv 1) jC))) (jA (pv 1) (jA (zN (v:=.ref na) (by rfl) hN rfl) jC))))))), ?_⟩;try dsimp only[cxK]
  have lx:xs.length=(kJ m ad N).length:=Paired.length rp.pr;have la:=BV m ad N;refine⟨_,rfl,a,rfl,⟨xs,SqL.of rp.at'⟩,λq H1 n1 s1 e1=>?_⟩;refine xQ (K:=K) (a:=a) (xs:=xs) (WyI H q (kJ m ad N) m) (by rw[lx,la,sizeLine_eq];omega) ⟨s1,e1,.nil,nN,λ_ h=>nomatch h⟩ (λj ys H2 h=>⟨SqL.of (h.s _ _ rp.at'),h.e⟩) ?_ ?_
  ·rintro j m' ys x H2 hx hm hy ⟨s2,e2,pr2,nd2,fr2⟩;obtain⟨r,hr',p,rfl,er⟩:=Paired.at rp.pr hx;have rm:=gQ hr';have rl:r.length=m+2+(ad.length+1):=sb.b.len r rm;have er2:=s2 _ _ er;refine⟨zJ,_,rfl,_,rfl,_,rfl,p,_,rfl,SqL.of er2,λl3 H3 n3 s3 e3=>⟨uX,λl4 H4 n4 s4 e4=>?_⟩⟩;rw[LY,<-nY]at e3;refine⟨l3,l4,_,_,rfl,rfl,s4 _ _ e3,e4,by rw[mZ,mR,sizeLine_eq];show min m r.length+2<=_;omega,λl5 H5 n5 s5 e5=>?_⟩;refine⟨_,rfl,_,rfl,_,_,rfl,rfl,_,rfl,p,_,rfl,SqL.of ((s3.trans (s4.trans s5)) _ _ er2),λl6 H6 n6 s6 e6=>?_⟩;rw[show((m:Int)+2)=((m+2:Nat):Int) by omega,FD,<-List.map_drop]at e6;refine⟨l5,l6,_,_,rfl,rfl,s6 _ _ e5,e6,by rw[hU,mZ,mZ,mR,List.length_drop,sizeLine_eq];show min m r.length+2+_<=_;omega,λl7 H7 n7 s7 e7=>?_⟩;have s27:=s3.trans (s4.trans (s5.trans (s6.trans s7)));have e27:=s27 _ _ e2;have e7':H7 l7=some (.lst ((kY m r 0).map V.int)):=by
    rw[e7];unfold kY;rw[nA,nA]
    rfl
   have n72:H2 l7=none:=(s3.trans (s4.trans (s5.trans s6))).free n7;have pr7:Paired (RR H7) ys (((kJ m ad N).map λr=>kY m r 0).take j):=Paired.to (λ_ _ k=>RR.same k s27) pr2;refine qB hx hm hy e27 ⟨jZ (s2.trans s27) n1,jE, ?_, ?_,λp' hp'=>?_⟩
   ·rw[mJ,mH,hr'];refine Paired.app (EF e27 (VR e27 pr7) pr7) (.cons ⟨l7,rfl, ?_⟩ .nil);rw[jO λz=>by rw[z,e2]at n72;cases n72];exact e7'
   ·rw[mN];refine⟨nd2,by simp,λy hy z hz e=>?_⟩;rw[mC.mp hz]at e;obtain⟨k,hk⟩:=gO.mp hy;obtain⟨_,_,p',e',q'⟩:=Paired.at pr2 hk;rw[e]at e';cases e';rw[n72]at q';cases q'
   ·rcases nC.mp hp' with h | h
    ·exact fr2 p' h
    ·cases mC.mp h;exact s2.free n72
  ·rintro ys H2 hy ⟨s2,e2,pr2,nd2,fr2⟩;rw[lx,gJ (by rw[mZ];exact tP _)]at pr2;have ly:ys.length=ad.length+1:=by rw[hy,lx,la]
   have sp:(kJ m ad N).map (λr=>kY m r 0)=(kC m ad).map (λr=>kY m r 0)++[kY m (qP m N ad.length) 0]:=by
    unfold kJ;rw[nA]
    rfl
   have lrr:(kC m ad).length=ad.length:=by unfold kC;rw[mZ,mM]
   obtain⟨pl,hpl⟩:∃pl,ys[ad.length]? = some (.ref pl):=by
    obtain⟨_,_,p,e,_⟩:=Paired.at pr2 (gE (show ad.length<ys.length by omega));exact⟨p,by rw[gE (show ad.length<ys.length by omega),e]⟩
   obtain⟨w0,hw0,p0,ep0,el⟩:=Paired.at pr2 hpl;cases ep0;rw[sp,uZ (by rw[mZ,lrr];exact tP _),mZ,lrr,tM]at hw0;cases hw0;have ysp:ys=ys.take ad.length++[.ref pl]:=by
    have:=List.take_append_drop ad.length ys;rw[List.drop_eq_getElem_cons (by omega),gK (by omega),(gC.mp hpl).2]at this;exact this.symm
   have last:atI ys (-1)=some (.ref pl):=by
    rw[ysp];exact FI _ _
   have lvl:=BF hN1 ad.length;dsimp only[kT];refine⟨_,rfl,_,rfl,_,rfl,q,_,_,_,rfl,rfl,SqL.of e2,last,_,rfl,_,_,rfl,rfl,pl,_,_,m+1,rfl,rfl,el, ?_, ?_⟩
   ·unfold ixN;rw[dC (by omega),dC (by rw[mZ,ML (by omega),lvl];omega)]
    congr 1
   have nq:H2 q≠H2 pl:=λz=>by
    rw[e2,el]at z;have z:ys=(kY m (qP m N ad.length) 0).map V.int:=by injection (Option.some.inj z)
    have:=gQ hpl;rw[z]at this;obtain⟨n,_,y⟩:=tF.mp this;cases y
   have ew:(List.map V.int (kY m (qP m N ad.length) 0)).set (m+1) (V.int (-1))=(kY m (qP m N ad.length) (-1)).map V.int:=by
    have:=wy_set (m:=m) (r:=qP m N ad.length) (by omega) 0 (-1);rw[<-this,List.map_set]
   rw[ew];have npl:H pl=none:=fr2 pl (gQ hpl);have qp:q≠pl:=λz=>nq (by rw[z]);have ndy:=nd2;rw[ysp,mN]at ndy;have tk:((kJ m ad N).map λr=>kY m r 0).take ad.length=(kC m ad).map λr=>kY m r 0:=by
    rw[sp,List.take_append_of_le_length (by rw[mZ,lrr];exact tP _),gJ (by rw[mZ,lrr];exact tP _)]
   have pr3:Paired (RR H2) (ys.take ad.length) ((kC m ad).map λr=>kY m r 0):=by
    have:=wM ad.length pr2
    rwa [tk]at this
   have s3:Same H (upd H2 pl (.lst ((kY m (qP m N ad.length) (-1)).map V.int))):=jZ s2 npl;have rw3:RwsP (upd H2 pl (.lst ((kY m (qP m N ad.length) (-1)).map V.int))) q ys (kX m ad N):=by
    refine⟨by rw[jO qp];exact e2, ?_⟩;rw[ysp];unfold kX;exact Paired.app (EF el (λv hv=>ndy.2.2 v hv _ (by simp)) pr3) (.cons ⟨pl,rfl,jE⟩ .nil)
   generalize upd H2 pl (.lst ((kY m (qP m N ad.length) (-1)).map V.int))=H3 at s3 rw3;have wb:=ZJ m1 sb;have lw:(kX m ad N).length=ad.length+1:=by
    unfold kX;rw[hU,mZ,lrr]
    rfl
   refine⟨_,rfl,_,rfl,q,m,ad.length+1,ys,_,rfl,rw3,wb,m3,by omega,by omega,λp4 H4 n4 s4 st4=>?_⟩;obtain⟨B,bits⟩:=CC (MN (ad:=ad) hN1) uU wb (QZ hN1 hz);refine⟨_,rfl,p4,.ref na,m,kG m (kX m ad N),0,1,rfl,st4,wE (hna _),m3,B,bits,by decide,mE,Ov.zero 1 _,λp5 y5 H5 n5 s5 e5 pr5 sz5=>?_⟩;exact go p5 y5 H5 ((s3.trans s4).free n5) (s3.trans (s4.trans s5)) e5 pr5 sz5
theorem Poly.up{H:Hp}{p:Addr}{aa:Nat}{z z':Sz}{ts:List Trm}(h:Poly H p aa z ts)(h1:z.D<=z'.D)(h2:z.v<=z'.v)(h3:z.S<=z'.S)(h4:z.n<=z'.n):Poly H p aa z' ts:=
 ⟨h.ex,h.nd,λx hx=>let t:=h.each x hx;⟨t.len,t.nn,Int.le_trans t.deg (by omega),t.pos,t.nz,t.low,t.sb,tD t.st (gU _ (gS (by decide) h2))⟩,tD h.sum h3,tD h.few h4⟩
theorem FY{aa:Nat}{ts:List Trm}{i c b:Nat}(nb:NumsB aa ts b):∀j∈kU aa ts i c,j.natAbs<=2^b:=λj hj=>by
 unfold kU at hj;rcases nC.mp hj with hi | hi
 ·rcases nC.mp hi with hi | hi
  ·exact nb.T j (gW hi)
  ·rcases nT.mp hi with rfl | hi
   ·exact tQ _
   ·rw[mC.mp hi,uY];cases e:(lvT (jL aa ts))[aa]? with
    | none=>exact tQ _
    | some v=>exact nb.T v (gQ e)
 ·obtain⟨j,_,rfl⟩:=tF.mp hi;split
  ·exact nb.D
  ·exact tQ _
theorem XG{aa:Nat}{ts:List Trm}{c b:Nat}(nb:NumsB aa ts b):∀j∈qP aa (jL aa ts) c,j.natAbs<=2^b:=λj hj=>by
 unfold qP at hj;rcases nC.mp hj with hj | hj
 ·rcases nC.mp hj with hj | hj
  ·rcases nC.mp hj with hj | hj
   ·obtain⟨k,hk,rfl⟩:=tF.mp hj;rw[nM];exact nb.T k (gW hk)
   ·rcases nT.mp hj with rfl | hj
    ·exact nb.D
    ·rw[mC.mp hj,nM,uY];cases e:(lvT (jL aa ts))[aa]? with
     | none=>exact tQ _
     | some v=>exact nb.T v (gQ e)
  ·rw[(List.mem_replicate.mp hj).2];exact tQ _
 ·rw[mC.mp hj];exact nb.D
theorem all_st0{aa:Nat}{ad:List (List Trm)}{ts1:List Trm}(h1:NumsB aa ts1 650)(h2:∀ts∈ad,NumsB aa ts 200):St0 aa (ad.length+1) (kJ aa ad (jL aa ts1)):=by
 have hN:=qA aa ts1;have sm:∀i,i<ad.length->∀j∈kU aa (ad.getD i []) i ad.length,j.natAbs<=2^200:=λi hi=>by
  have:ad.getD i []=ad[i]:=by rw[uY,gE hi];rfl
  rw[this];exact FY (h2 _ (mV hi))
 refine⟨⟨λr hr=>(JX hN r hr).len,λr hr=>?_⟩,λu hu d hd pu pd=>?_⟩
 ·rcases all_mem.mp hr with⟨i,hi,rfl⟩ | rfl
  ·exact λj hj=>tD (sm i hi j hj) (gS (by decide) (by decide))
  ·exact XG h1
 ·rcases all_mem.mp hu with⟨i,hi,rfl⟩ | rfl
  ·exact .inl (sm i hi)
  ·rcases all_mem.mp hd with⟨i,hi,rfl⟩ | rfl
   ·exact .inr (sm i hi)
   ·omega
def uJ(aa:Nat)(ad:List (List Trm))(N:List Rat):Nat:=if (xE aa ad N).any (brk aa)then 0 else if (wF aa (xE aa ad N)).isSome then 2 else 1
def zQ(aa:Nat)(ad:List (List Trm))(N:List Rat):Rat:=match wF aa (xE aa ad N)with
 | some b=>yZ aa b
 | none=>0
theorem NumK.kp{K:dD}{H H':Hp}{v:V}{x:Rat}(h:NumK K H v x)(k:Kp H H'):NumK K H' v x:=let ⟨p,e,q⟩:=h;⟨p,e,k.sqT q⟩
structure SptP(K:dD)(H:Hp)(q:Addr)(aa:Nat)(ks:List Rat):Prop where
 ex:∃us,H q=some (.tup us)/\Paired (NumK K H) us ks
 len:ks.length=aa
 sz:∀k∈ks,SzR 6630 k
theorem SptP.kp{K:dD}{H H':Hp}{q:Addr}{aa:Nat}{ks:List Rat}(h:SptP K H q aa ks)(k:Kp H H'):SptP K H' q aa ks:=let ⟨us,e,p⟩:=h.ex;⟨⟨us,k.tup _ _ e,Paired.to (λ_ _ h=>h.kp k) p⟩,h.len,h.sz⟩
structure WtsP(K:dD)(H:Hp)(q:Addr)(n:Nat)(ws:List Rat):Prop where
 ex:∃us,H q=some (.lst us)/\Paired (NumK K H) us ws
 len:ws.length=n
 sz:∀w∈ws,0<=w/\SzR 3410 w
theorem WtsP.same{K:dD}{H H':Hp}{q:Addr}{n:Nat}{ws:List Rat}(h:WtsP K H q n ws)(s:Same H H'):WtsP K H' q n ws:=let ⟨us,e,p⟩:=h.ex;⟨⟨us,s _ _ e,Paired.to (λ_ _ h=>h.same s) p⟩,h.len,h.sz⟩
inductive LowK(K:dD)(H0 H:Hp)(aa:Nat)(ad:List (List Trm))(N:List Rat)(p:Addr):Nat->Prop where
 | none {q:Addr} {ws:List Rat} (e:H p=some (.tup [.str "none",.ref q])) (nq:H0 q=none) (w:WtsP K H q ad.length ws) (c0:∀j,j<aa->vI aa ad ws j=0) (c1:vI aa ad ws aa = -1):LowK K H0 H aa ad N p 0
 | falls {q q2:Addr} {ks hs:List Rat} (e:H p=some (.tup [.str "falls",.ref q,.ref q2])) (sp:SptP K H q aa ks) (wy:SptP K H q2 aa hs) (k1:∀ts∈ad,0<=lnV (jL aa ts) ks) (k2:lnV N ks<0) (h1:∀ts∈ad,0<=lnH (jL aa ts) hs) (h2:lnH N hs<0):LowK K H0 H aa ad N p 1
 | least {n q r:Addr} {ks ws:List Rat} (e:H p=some (.tup [.str "least",.ref n,.ref q,.ref r])) (nr:H0 r=none) (nn:At2 H n (zQ aa ad N).num (zQ aa ad N).den) (ns:SzR 3410 (zQ aa ad N)) (sp:SptP K H q aa ks) (w:WtsP K H r ad.length ws) (k1:∀ts∈ad,0<=lnV (jL aa ts) ks) (k2:lnV N ks=zQ aa ad N) (c0:∀j,j<aa->vI aa ad ws j=N.getD j 0) (c1:zQ aa ad N+vI aa ad ws aa=N.getD aa 0):LowK K H0 H aa ad N p 2
def wH(K:dD):Sp:=λvs H Q _=>∃(p a:Addr) (xs:List V) (aa:Nat) (z1 z:Sz) (ts1:List Trm) (ad:List (List Trm)),vs=[.ref p,.ref a]/\Poly H p aa z1 ts1/\RimsP H a xs aa z ad/\z1.D<=1/\z.D<=1/\1<=aa/\aa<=3/\z1.v+z1.S<=2200/\z.v+z.S<=2200/\z1.n<=1000/\z.n<=1000/\ad.length<=6/\NumsB aa ts1 650/\(∀ts∈ad,NumsB aa ts 200)/\
 ∀(r:Addr) (H':Hp),H r=none->Same H H'->LowK K H H' aa ad (jL aa ts1) r (uJ aa ad (jL aa ts1))->Q (.ref r) H'
theorem UQ{m n:Nat}{r:Rw}{b:Int}(hb:b≠0)(bb:b.natAbs<=2^3407)(br:∀i∈r,i.natAbs<=2^3407):∀w∈wtL m n r b,SzR 3410 w:=λw hw=>by
 unfold wtL shL at hw;rw[tK]at hw;obtain⟨i,_,rfl⟩:=tF.mp hw;show SzR 3410 (((r.getD (m+2+i) 0:Int):Rat)/((b:Int):Rat));have sb:(r.getD (m+2+i) 0).natAbs<=2^3407:=by
  by_cases k:m+2+i<r.length
  ·exact br _ (vO k)
  ·rw[uY,gN (by omega)];exact tQ _
 have o:Ov 1 3407 ((r.getD (m+2+i) 0:Int):Rat):=⟨r.getD (m+2+i) 0,by unfold fv;rw[tT,show((1:Int):Rat)=1 from rfl];grind,sb⟩;have o:=o.div (by decide) hb;rw[Int.one_mul]at o;exact o.sz (by omega) (by rw[mD];exact bb) (by omega) (by omega)
theorem best_ov{m b:Nat}{r:Rw}(h0:0<r.getD m 0)(hb:(r.getD (m+1) 0).natAbs<=2^b):Ov (r.getD m 0) b (yZ m r):=by
 have o:Ov 1 b ((-(r.getD (m+1) 0):Int):Rat):=⟨-(r.getD (m+1) 0),by unfold fv;rw[tT,show((1:Int):Rat)=1 from rfl];grind,by rw[nM];exact hb⟩;have o:=o.div (c:=r.getD m 0) (by decide) (by omega);rw[Int.one_mul,Int.natAbs_of_nonneg (by omega)]at o;exact o
theorem XB{K:dD}{H:Hp}{p:Addr}(h:At2 H p (-1) 1):NumK K H (.ref p) (-1):=NumK.of h
theorem MM(m n:Nat)(r:Rw)(b:Int):(wtL m n r b).length=n:=by
 unfold wtL shL;rw[mZ,mZ,mM]
theorem scLe:FnScope ["one","rims","many","rows","found","weights","best","number"] ["one","rims"] (jM AA):=⟨rfl,rfl,rfl,by decide +kernel,rfl,by decide +kernel,by decide +kernel⟩
theorem TB{fB fR fV fS fK fT fP fW fD fH:Addr}{fdB fdR fdV fdS fdK fdT fdP fdW fdD fdH:FuncData}(F:Fun K "low_end" "low_end" AA f fd)(T:Txt mg)(DB:Df K mg "refuse_bent" KI ["some"] fB fdB)(GB:FnOk P w K mg base CX0 2 fB fdB ["some"] spRefB)(DR:Df K mg "rim_rows" wI ["rims"] fR fdR)(GR:FnOk P w K mg base CX0 6 fR fdR ["rims"] (AX K))(DV:Df K mg "level_row" IQ ["one","count"] fV fdV)(GV:FnOk P w K mg base CX0 5 fV fdV ["one","count"] spLevel)
  (DS:Df K mg "stages" wS ["rows","many"] fS fdS) (GS:FnOk P w K mg base CX0 3 fS fdS ["rows","many"] spStg) (DK:Df K mg "broken" AB ["rows","many"] fK fdK) (GK:FnOk P w K mg base CX0 5 fK fdK ["rows","many"] (VF K)) (DT:Df K mg "tightest" IL ["rows","many"] fT fdT) (GT:FnOk P w K mg base CX0 1 fT fdT ["rows","many"] spTight) (DP:Df K mg "spot_of" FV ["found","many","level"] fP fdP) (GP:FnOk P w K mg base CX0 5 fP fdP ["found","many","level"] (IF K))
  (DW:Df K mg "way_down" OV ["rows","many"] fW fdW) (GW:FnOk P w K mg base CX0 6 fW fdW ["rows","many"] (VC K)) (DD:Df K mg "divided" NG ["one","other"] fD fdD) (GD:FnOk P w K mg base CX0 3 fD fdD ["one","other"] (EC K)) (DH:Df K mg "shares_over" uS ["row","many","bottom"] fH fdH) (GH:FnOk P w K mg base CX0 4 fH fdH ["row","many","bottom"] (VD K)):FnOk P w K mg base CX0 7 f fd ["one","rims"] (wH K):=by
 refine F.ok scLe (λvs H Q E h=>?_) (λcdv A outer s H vs Q E hr h=>?_)
 ·obtain⟨p,a,xs,aa,z1,z,ts1,ad,rfl,_⟩:=h
  rfl
 ·obtain⟨p,a,xs,aa,z1,z,ts1,ad,rfl,hP,hR,z1D,zD,m1,m3,zb1,zb,zn1,zn,t6,nb1,nb2,go⟩:=h;have hr1:Room 1 _:=hr.mono (by decide);have hr2:Room 2 _:=hr.mono (by decide);have hr3:Room 3 _:=hr.mono (by decide);have hr4:Room 4 _:=hr.mono (by decide);have hr5:Room 5 _:=hr.mono (by decide);refine⟨_,jD (xJ (jG GB hr2 rfl DB.m DB.F.kp DB.b .nil jR (jA (jJ xL (qO (jA (pv 0) jC)) (pv 1)) jC))) (jD (jP (i:=2) scLe.nd rfl (Or.inl rfl) (jN jS (pv 0) jB (λ_ _=>rfl))) (jD (jP (i:=3) scLe.nd rfl (Or.inl rfl) (jJ xL (jG GR hr rfl DR.m DR.F.kp DR.b .nil jR (jA (pv 1) jC)) (qO (jA (jG GV hr5 rfl DV.m DV.F.kp DV.b .nil jR (jA (pv 0) (jA (kO qD (by rfl) T.len PySem.boot_len (jA (pv 1) jC)) jC))) jC)))) (jD (jP (i:=4) scLe.nd rfl (Or.inl rfl) (jG GS hr3 rfl DS.m DS.F.kp DS.b .nil jR (jA (pv 3) (jA (pv 2) jC)))) (jD (jP (i:=5) scLe.nd rfl (Or.inl rfl) (jG GK hr5 rfl DK.m DK.F.kp DK.b .nil jR (jA (jN kH (pv 4) (qX kZ jB) (λ_ _=>rfl)) (jA (pv 2) jC)))) (jD (kS (BD (PX (pv 5))) (jF (jU (jT (jA vX (jA (pv 5) jC))))) kD) (jD (jP (i:=6) scLe.nd rfl (Or.inl rfl) (jG GT hr1 rfl DT.m DT.F.kp DT.b .nil jR (jA (jN kH (pv 4) (qX kZ jB) (λ_ _=>rfl)) (jA (pv 2) jC)))) (jD (kS (BD (WG (pv 6))) (jF (jU (jT (jA vX (jA (jG GP hr5 rfl DP.m DP.F.kp DP.b .nil jR (jA (pv 4) (jA (pv 2) (jA (jT (jA (qX kZ jB) (jA jB jC))) jC)))) (jA (jG GW hr rfl DW.m DW.F.kp DW.b .nil jR (jA (pv 3) (jA (pv 2) jC))) jC)))))) kD) (jD (jP (i:=7) scLe.nd rfl (Or.inl rfl) (jG GD hr3 rfl DD.m DD.F.kp DD.b .nil jR (jA (jT (jA (qX kZ (jN kH (pv 6) (jJ kQ (pv 2) jB) (λ_ _=>rfl))) (jA jB jC))) (jA (jT (jA (jN kH (pv 6) (pv 2) (λ_ _=>rfl)) (jA jB jC))) jC)))) (jF (jU (jT (jA vX (jA (pv 7) (jA (jG GP hr5 rfl DP.m DP.F.kp DP.b .nil jR (jA (pv 4) (jA (pv 2) (jA (pv 7) jC)))) (jA (jG GH hr4 rfl DH.m DH.F.kp DH.b .nil jR (jA (pv 6) (jA (pv 2) (jA (jN kH (pv 6) (pv 2) (λ_ _=>rfl)) jC)))) jC))))))))))))))), ?_⟩
  try dsimp only[cxK]
  have lx:xs.length=ad.length:=Paired.length hR.pr;refine⟨_,rfl,uW,λl1 H1 n1 s1 e1=>⟨_,rfl,l1,a,_,_,rfl,rfl,e1,s1 _ _ hR.at',by rw[gP,lx,sizeLine_eq];omega,λl2 H2 n2 s2 e2=>?_⟩⟩;have s02:=s1.trans s2;refine⟨l2,_,aa,⟨1,z1.v+z.v,z1.S+z.S,1000⟩,ts1::ad,rfl,⟨e2,.cons ⟨p,rfl,(hP.kp (Kp.of s02)).up z1D (Nat.le_add_right ..) (Nat.le_add_right ..) zn1⟩ (Paired.to (λ_ _ ⟨q,e,h⟩=>⟨q,e,(h.kp (Kp.of s02)).up zD (Nat.le_add_left ..) (Nat.le_add_left ..) zn⟩) hR.pr)⟩,tP _,by omega,tP _,λH3 s3=>?_⟩;have s03:=s02.trans s3;obtain⟨q0,o0,x0,g1,g2,_⟩:=hP.ex;refine⟨_,rfl,p,_,_,_,rfl,rfl,SqT.of (s03 _ _ g1),rfl, ?_⟩;refine⟨_,rfl,a,xs,aa,z,ad,rfl,hR.same s03,zD,m1,by omega,zb,zn,by omega,λp4 y4 H4 n4 s4 r4=>?_⟩;have s04:=s03.trans s4;refine⟨_,rfl,_,rfl,a,xs,rfl,.inl (SqL.of (s04 _ _ hR.at')),p,xs.length,aa,z1,ts1,rfl,hP.kp (Kp.of s04),z1D,m1,by omega,zb1,zn1,by omega,λp5 H5 n5 s5 e5=>?_⟩;rw[lx]at e5;have s05:=s04.trans s5;have r5:=r4.same s5;have lr:(kC aa ad).length=ad.length:=by unfold kC;rw[mZ,mM]
  have ly:y4.length=ad.length:=by rw[Paired.length r4.pr,lr]
  refine⟨uW,λl6 H6 n6 s6 e6=>⟨p4,l6,_,_,rfl,rfl,s6 _ _ r5.at',e6,by rw[gP,ly,sizeLine_eq];omega,λl7 H7 n7 s7 e7=>?_⟩⟩;have s57:=s6.trans s7;have hN:=qA aa ts1;have af:RwsP H7 l7 (y4++[.ref p5]) (kJ aa ad (jL aa ts1)):=⟨e7,Paired.app (r5.same s57).pr (.cons ⟨p5,rfl,s57 _ _ e5⟩ .nil)⟩;have sb:=all_st0 nb1 nb2;have la:=BV aa ad (jL aa ts1);have s07:=s05.trans s57;clear r4 r5;generalize hNN:jL aa ts1=N at af sb la hN go;refine⟨_,rfl,_,rfl,l7,aa,ad.length+1,_,_,rfl,af,sb,m3,by omega,by omega,λp8 H8 n8 s8 st8=>?_⟩;obtain⟨fs,f1,f2,f3⟩:=st8.ex;obtain⟨pa,x9,h9,r9⟩:=f3 aa uU ;have last:=AJ f2 h9;have sm:=yI sb aa;have g3:=YA m3;have smb:∀r∈xE aa ad N,∀i∈r,i.natAbs<=2^3407:=λr hr' i hi=>tD (sm.bit r hr' i hi) (gS (by decide) g3);have s08:=s07.trans s8;have aok:=JW (ad:=ad) hN;refine⟨_,rfl,_,rfl,p8,_,_,_,rfl,rfl,SqL.of f1,last,_,rfl,pa,aa,ad.length,x9,_,rfl,r9,sm.len,by omega,by omega,smb,λhn H9 s9=>?_,λr hr' hb q us H9 nq s9 e9 pr9=>?_⟩
  ·refine⟨_,rfl,_,rfl,vA (by rfl) ?_⟩;have anyF:(xE aa ad N).any (brk aa)=false:=by
    cases e:(xE aa ad N).any (brk aa)with
    | false=>rfl
    | true=>
     obtain⟨r,hr1,hr2⟩:=List.any_eq_true.mp e;rw[hn r hr1]at hr2;cases hr2
   refine⟨_,rfl,_,rfl,p8,_,_,_,rfl,rfl,SqL.of (s9 _ _ f1),last,_,rfl,pa,aa,ad.length+1,x9,_,rfl,r9.same s9,sm.len,by omega,smb,λbv H10 s10 bs=>?_⟩;have s010:=s08.trans (s9.trans s10);have st10:=st8.same (s9.trans s10);generalize hbo:wF aa (xE aa ad N)=bo at bs;cases bs with
   | non=>
    have lW:uJ aa ad N=1:=by unfold uJ;rw[anyF,hbo];rfl
    have fl:=RA (N:=N) hN hn hbo (-1);obtain⟨B,bits⟩:=CC aok uU sb λr hr=>(fl r hr).2;refine⟨_,rfl,_,rfl,xP (nH rfl) ?_⟩;refine⟨_,rfl,_,rfl,_,rfl,uX,λl11 H11 n11 s11 e11=>?_⟩;have D1:Ov 1 (gB aa) (-1):=⟨-1,by unfold fv;rw[show((-1:Int):Rat) = -1 from rfl,show((1:Int):Rat)=1 from rfl];grind,by show 1<=_;exact mE⟩;refine⟨p8,.ref l11,aa,kG aa (kJ aa ad N),-1,1,rfl,st10.same s11,XB e11,m3,B,bits,by decide,mE,D1,λp12 y12 H12 n12 s12 e12 pr12 sz12=>?_⟩;have s712:=s8.trans (s9.trans (s10.trans (s11.trans s12)));refine⟨_,rfl,_,rfl,l7,aa,ad,N,_,rfl,af.same s712,hN,sb,m1,m3,t6,λr hr=>(fl r hr).1,λp13 y13 H13 n13 s13 e13 pr13 sz13=>?_⟩;refine⟨(by show 3<=sizeLine;decide),λp14 H14 n14 s14 e14=>?_⟩;have sx:=MY (ad:=ad) hN λr hr=>(fl r hr).2;have wx:=way_x (ad:=ad) hN λr hr=>(fl r hr).1;have l1:=qK aa (kG aa (kJ aa ad N)) (-1) aa;have l2:=qK aa (kG aa (kX aa ad N)) 0 aa;have s014:=s07.trans (s712.trans (s13.trans s14));refine go p14 H14 ((s07.trans (s712.trans s13)).free n14) s014 ?_;rw[lW];have s1314:=s13.trans s14;exact .falls e14 ⟨⟨y12,s1314 _ _ e12,Paired.to (λ_ _ h=>h.same s1314) pr12⟩,by rw[mR];omega,sz12⟩ ⟨⟨y13,s14 _ _ e13,Paired.to (λ_ _ h=>h.same s14) pr13⟩,by rw[mR];omega,sz13⟩ sx.1 (by have:=sx.2;grind) wx.1 wx.2
   | @row b bp eb=>
    have lW:uJ aa ad N=2:=by unfold uJ;rw[anyF,hbo];rfl
    have lN:zQ aa ad N=yZ aa b:=by unfold zQ;rw[hbo]
    have fl:=LS (N:=N) hN hn hbo;obtain⟨b1,b2,b3⟩:=(uO aa (xE aa ad N)).some b hbo;obtain⟨B,bits⟩:=CC aok uU sb fl;have bl:=sm.len b b1;have c1:(b.getD (aa+1) 0).natAbs<=2^gB aa:=sm.bit b b1 _ (vO (by omega));have c0:(b.getD aa 0).natAbs<=2^gB aa:=sm.bit b b1 _ (vO (by omega));have ov:=best_ov b2 c1;have szT:SzR 3410 (yZ aa b):=ov.sz b2 c0 (by omega) (by omega);have bw:=ZH hN b1 b2;have gl:atI (b.map V.int) ((aa:Int)+1)=some (.int (b.getD (aa+1) 0)):=xI (l:=aa+1) (by omega);have gv:atI (b.map V.int) (aa:Int)=some (.int (b.getD aa 0)):=xI (l:=aa) (by omega);have nz:((b.getD aa 0:Int):Rat)≠0:=λz=>by
     have:b.getD aa 0=0:=Rat.intCast_inj.mp (by rw[z];rfl);omega
    have up:∀{i:Int},i.natAbs<=2^gB aa->SzR 7900 ((i:Int):Rat):=λh=>EW (hJ h (gT (by decide) (by omega))) (by decide);refine⟨_,rfl,_,rfl,vA (nB λz=>by cases z) ?_⟩;refine⟨_,rfl,_,rfl,_,_,rfl,rfl,bp,_,_,_,rfl,rfl,SqL.of eb,gl,_,rfl,uX,λl11 H11 n11 s11 e11=>?_⟩;refine⟨_,rfl,_,rfl,bp,_,_,_,rfl,rfl,SqL.of (s11 _ _ eb),gv,uX,λl12 H12 n12 s12 e12=>?_⟩;refine⟨l11,l12,_,_,_,_,rfl,uD (SqT.of (s12 _ _ e11)),uD (SqT.of e12),(up (by rw[nM];exact c1)).fr uU,(up c0).fr uU,JC nz,λl13 H13 n13 s13 e13=>?_⟩;have e13:=YQ nz e13;have nk:NumK K H13 (.ref l13) (yZ aa b):=NumK.of e13;have s1013:=s11.trans (s12.trans s13);refine⟨_,rfl,_,rfl,_,rfl,_,rfl,p8,.ref l13,aa,kG aa (kJ aa ad N),yZ aa b,b.getD aa 0,rfl,st10.same s1013,nk,m3,B,bits,b2,c0,ov,λp14 y14 H14 n14 s14 e14 pr14 sz14=>?_⟩;have s1014:=s1013.trans s14;refine⟨_,rfl,_,rfl,_,rfl,_,rfl,bp,_,_,_,rfl,rfl,SqL.of (s1014 _ _ eb),gv,bp,aa,ad.length,b.getD aa 0,b,rfl,s1014 _ _ eb,bl,by omega,by omega,tD c0 (gS (by decide) g3),smb b b1,λq15 y15 H15 n15 s15 e15 pr15=>?_⟩;refine⟨(by show 4<=sizeLine;decide),λp16 H16 n16 s16 e16=>?_⟩;have sx:=MY (ad:=ad) hN fl;have l1:=qK aa (kG aa (kJ aa ad N)) (yZ aa b) aa;have s015:=s010.trans (s1014.trans s15);have s1516:=s15.trans s16;refine go p16 H16 (s015.free n16) (s015.trans s16) ?_
    rw[lW];have lk:((qL aa (kG aa (kJ aa ad N)) (yZ aa b) aa).take aa).length=aa:=by rw[mR];omega
    refine .least (n:=l13) (q:=p14) (r:=q15) e16 ((s010.trans s1014).free n15) (by rw[lN];exact(s14.trans s1516) _ _ e13) (by rw[lN];exact szT) ⟨⟨y14,s1516 _ _ e14,Paired.to (λ_ _ h=>h.same s1516) pr14⟩,lk,sz14⟩ ⟨⟨y15,s16 _ _ e15,Paired.to (λ_ _ h=>h.same s16) pr15⟩,MM ..,λw hw=>⟨bw.2.2 w hw,UQ (by omega) (tD c0 (gS (by decide) g3)) (smb b b1) w hw⟩⟩ sx.1 ?_ bw.1 (by rw[lN];exact bw.2.1);rw[lN];exact EU lk bw.1 bw.2.1 bw.2.2 sx.1 sx.2
  ·have anyT:(xE aa ad N).any (brk aa)=true:=List.any_eq_true.mpr ⟨r,hr',hb⟩;have lW:uJ aa ad N=0:=by unfold uJ;rw[anyT];rfl
   have ws:=WW hN hr' hb;have lone:r.getD (aa+1) 0<0:=by
    unfold brk at hb;rw[Bool.and_eq_true]at hb;exact mL hb.2
   have ml:=sm.len r hr';have sz:=UQ (m:=aa) (n:=ad.length) (r:=r) (b:=-(r.getD (aa+1) 0)) (by omega) (by rw[nM];exact smb r hr' _ (vO (by omega))) (smb r hr');refine⟨_,rfl,_,rfl,xP (by rfl) ⟨_,rfl,uX,λp6 H10 n10 s10 e10=>?_⟩⟩;refine go p6 H10 ((s08.trans s9).free n10) (s08.trans (s9.trans s10)) ?_;rw[lW];exact .none e10 (s08.free nq) ⟨⟨us,s10 _ _ e9,Paired.to (λ_ _ h=>h.same s10) pr9⟩,MM ..,λw hw=>⟨ws.2.2 w hw,sz w hw⟩⟩ ws.1 ws.2.1
section
variable{X:Cx}
def rIsiT(K:dD)(T:String)(f:Kd->Bool):List V->Hp->VK->Prop:=λxs H Q=>match xs with
 | [x,y]=>y=.ty T/\∃a ys,x=.ref a/\SqT K H a ys/\Q (.bl (f .tup)) H
 | _=>False
theorem UI{T:String}{f:Kd->Bool}(hf:Isi T f):CallR X (.builtin "isinstance") (rIsiT X.K T f):=by
 intro ac s σ H xs us Q I r h
 match xs,h with
 | [x,y],h=>
  obtain⟨rfl,a,ys,rfl,hq,q⟩:=h;obtain⟨u,w',rfl,ru,rw'⟩:=vals2 r;cases (show w'=Value.type T from rw');cases (show u=Value.ref a from ru);obtain⟨its,rv,⟨o,ho,hc,p⟩,hz⟩:=I.tuple hq;exact PySem.W.kia_one PySem.W.kitx_tuple I.kIn ⟨o,ho,hc⟩ (hf X.K .tup) (λz=>nomatch z) λtk=>⟨.bl (f .tup),H,I.tok tk,rfl,q⟩
theorem PU{T:String}{f:Kd->Bool}{x:Str}{e:Expr}{te:TE}{p p2 pos:Pos}(hf:Isi T f)(hm:X.mg "isinstance" = none)(hm2:X.mg x=none)(hb:bootBuiltins x=some (.type T))(he:PE X e te)
  (hg:Gl X "isinstance":=by rfl) (hg2:Gl X x:=by rfl) (hn:x≠"__name__":=by decide) (hd:(x==("__debug__" :Str))=false:=by decide)
  (hs:starEach [e,.Name x p2] X.env=(false,eval e X.env)::starEach [.Name x p2] X.env:=by rfl) (hs2:starEach [.Name x p2] X.env=(false,eval (.Name x p2) X.env)::starEach [] X.env:=by rfl)
  (hpl:(backTo pos (starEach [.Name x p2] X.env)).any (·.1)=false:=by rfl):PE X (.Call (.Name "isinstance" p) [e,.Name x p2] [] pos) (tCB (rIsiT X.K T f) (yS te (yS (tC (.ty T)) tNil))):=
 kO (X:=X) (p:=p) (pos:=pos) (UI hf) hg hm boot_isinstance (jA he (jA (PV (v:=.ty T) hg2 hm2 hb rfl hn hd) jC hs2) hs) (by decide) (by decide) hs hpl
end
def kLst:Kd->Bool
 | .lst=>true
 | _=>false
theorem isi_lst:Isi "list" kLst:=λK k=>by cases k<;>rfl
def NA(K:dD):Sp:=λvs H Q _=>∃(a:Addr) (t b:Int),vs=[.ref a]/\SqT K H a [.int t,.int b]/\0<b/\Int.gcd t b=1/\b.natAbs<2^8000/\∀H',Same H H'->Q (.bl true) H'
theorem scNum:FnScope ["thing","one"] ["thing"] (jM VP):=⟨rfl,rfl,rfl,by decide +kernel,rfl,by decide +kernel,by decide +kernel⟩
theorem ok_numK{fL:Addr}{fdL:FuncData}(F:Fun K "_law_is_number" "_law_is_number" VP f fd)(T:Txt mg)(DL:Df K mg "_law_low" KJ ["top","bottom"] fL fdL)(GL:FnOk P w K mg base CX0 1 fL fdL ["top","bottom"] spLow):FnOk P w K mg base CX0 2 f fd ["thing"] (NA K):=by
 refine F.ok scNum (λvs H Q E h=>?_) (λcdv A outer s H vs Q E hr h=>?_)
 ·obtain⟨a,t,b,rfl,_⟩:=h
  rfl
 ·obtain⟨a,t,b,rfl,ha,pb,lw,sb,q⟩:=h;have hu:=hr.units0;refine⟨_,jD (kS (PW.pt (yM (yN (yE (PU QS T.isi T.tup boot_tuple (pv 0)))) (yD (jV yG (kO qD (by rfl) T.len PySem.boot_len (jA (pv 0) jC)) jB (jW _))))) (jF (jU wB)) kD)
   (jD (qM PassesOwn.never rfl (IZ (pv 0)) (jI (i:=1) scNum.nd rfl (Or.inl rfl))
    (jF (kS (PW.pt (yM (yN (yE (NN isi_int T.isi T.int boot_int (pv 1)))) (yD (yE (NN XU T.isi T.bool boot_bool (pv 1)))))) (jF (jU wB)) kD)))
   (jF (jU (JB (xK BP (jN jS (pv 0) jB (λ_ _=>rfl)) jB (jW _))
    (JA (xK (op_eqT hu) (jG GL hr rfl DL.m DL.F.kp DL.b .nil jR (jA (jN jS (pv 0) jB (λ_ _=>rfl)) (jA (jN jS (pv 0) jB (λ_ _=>rfl)) jC))) (pv 0) (jW _))))))), ?_⟩
  try dsimp only[cxK]
  have hs:=ha;refine⟨_,rfl,rfl,a,_,rfl,hs,_,rfl,yR ?_⟩;refine⟨_,rfl,a,_,rfl,.inr hs,rfl,_,rfl,yR ?_⟩;refine⟨_,rfl,a,rfl,⟨_,hs⟩,QY (K:=K) (a:=a) (xs:=[.int t,.int b]) (λi σ H1=>H1=H/\∃v,σ=[some (.ref a),v]) ⟨rfl,_,rfl⟩ (λi σ H1 _ h=>by obtain⟨rfl,_⟩:=h;exact hs) ?_ ?_⟩
  ·rintro i z σ H1 hz ⟨rfl,v,rfl⟩;obtain⟨n,rfl⟩:∃n,z=.int n:=by
    match i,hz with
    | 0,hz=>cases hz;exact⟨_,rfl⟩
    | 1,hz=>cases hz;exact⟨_,rfl⟩
    | _+2,hz=>cases hz
   refine⟨_,rfl,rfl,.int,.int n,_,rfl,yR ⟨_,rfl,rfl,.int,.int n,_,rfl,yR ?_⟩⟩;exact⟨rfl,_,rfl⟩
  ·rintro σ H1 ⟨rfl,v,rfl⟩;refine(rvT rfl hs rfl ⟨_,_,rfl,rfl,_,rfl,xP (nH pb) ?_⟩);refine(rvT rfl hs rfl (rvT rfl hs rfl ⟨t,b,rfl,by omega,.inl sb,λp H' n s1 e1=>?_⟩));refine⟨_,rfl,p,a,[xA t b,vU t b],[t,b],rfl,rfl,SqT.of e1,kI s1 hs, ?_⟩;have e:[xA t b,vU t b]=[t,b]:=by
    obtain⟨z1,z2⟩:=(LwM.XO t b pb).mpr lw;rw[(wT pb).1,(wT pb).2,z1,z2]
   rw[nH e];exact q H' s1
theorem PP:∀{S:List Rat} {ns:List Int} {j:Nat} {s:Rat} {n:Int},S[j]? = some s->ns[j]? = some n->pw (S.take (j+1)) (ns.take (j+1))=pw (S.take j) (ns.take j)*s^n.toNat
 | a::S,b::ns,0,s,n,h1,h2=>by
  cases (Option.some.inj h1);cases (Option.some.inj h2);show _*pw [] []=1*_;show _*1=1*_;rw[tS,Rat.one_mul]
 | a::S,b::ns,j+1,s,n,h1,h2=>by
  show a^b.toNat*pw (S.take (j+1)) (ns.take (j+1))=a^b.toNat*pw (S.take j) (ns.take j)*s^n.toNat;rw[PP (j:=j) h1 h2,nU]
 | [],_,_,_,_,h1,_=>by simp at h1
 | _::_,[],_,_,_,_,h2=>by simp at h2
theorem MW{ns:List Int}(hn:∀n∈ns,0<=n)(j:Nat):0<=(ns.take j).sum/\(ns.take j).sum<=ns.sum:=by
 have h1:=AV (ns.take j) λn h=>hn n (gW h);have h2:=AV (ns.drop j) λn h=>hn n (List.mem_of_mem_drop h);have h3:ns.sum=(ns.take j).sum+(ns.drop j).sum:=by rw[<-List.sum_append,List.take_append_drop]
 omega
theorem ZO{ns:List Int}{j:Nat}{n:Int}(h:ns[j]? = some n):(ns.take (j+1)).sum=(ns.take j).sum+n:=by
 rw[mJ,h,List.sum_append];show _+(n+0)=_;omega
structure SpB(S:List Rat)(c x:Nat):Prop where
 d:∀s∈S,s.den<=2^c
 n:∀s∈S,s.num.natAbs<=2^x*s.den
def spAt(K:dD):Sp:=λvs H Q _=>∃(d sp:Addr) (aa c x kk:Nat) (z:Sz) (E:List Ent) (us:List V) (S:List Rat),vs=[.ref d,.ref sp]/\FQ H d aa z E/\z.D<=1/\H sp=some (.tup us)/\Paired (NumK K H) us S/\S.length=aa/\SpB S c x/\z.S+z.n*c+(z.v+x+z.n)<=40000/\KB (λ_=>kk) E/\kk+c<8000/\c+x<=20000/\
 ∀(r:Addr) (T B:Int) (H':Hp),H r=none->Same H H'->At2 H' r T B->0<B->B.natAbs<=2^(z.S+z.n*c)->T.natAbs<=2^(z.v+x+z.n)*B.natAbs->fv T B=BC (pw S) (pl E)->Q (.ref r) H'
structure NB(H:Hp)(nr:Addr)(t u:Int)(k c v x g:Nat)(y:Rat):Prop where
 at':At2 H nr t u
 pos:0<u
 sb:u.natAbs<=2^(k+c*g)
 st:t.natAbs<=2^(v+x*g)*u.natAbs
 val:fv t u=y
inductive AtI(H H1:Hp)(d sp:Addr)(c x v:Nat)(E:List Ent)(S:List Rat)(i:Nat):L2.St->Hp->Prop where
 | mk {H':Hp} {tr:Addr} {T B:Int} {u3 u4 u5 u6 u7:Option V} (s:Same H1 H') (nw:H tr=none) (a:At2 H' tr T B) (pos:0<B) (sb:B.natAbs<=2^(((E.take i).map Ent.k).sum+i*c)) (st:T.natAbs<=2^(v+x+i)*B.natAbs) (val:fv T B=BC (pw S) (pl (E.take i))):AtI H H1 d sp c x v E S i [some (.ref d),some (.ref sp),some (.ref tr),u3,u4,u5,u6,u7] H'
inductive AtZ(H:Hp)(d sp tr b:Addr)(c x v:Nat)(e:Ent)(S:List Rat)(j:Nat):L2.St->Hp->Prop where
 | mk {H':Hp} {nr:Addr} {t u:Int} {u5 u6 u7:Option V} (s:Same H H') (nb:NB H' nr t u e.k c v x (e.ns.take j).sum.toNat (fv e.t e.b*pw (S.take j) (e.ns.take j))):AtZ H d sp tr b c x v e S j [some (.ref d),some (.ref sp),some (.ref tr),some (.ref b),some (.ref nr),u5,u6,u7] H'
inductive AtR(H:Hp)(d sp tr b:Addr)(n:Int)(cc:Addr)(c x v:Nat)(e:Ent)(g:Nat)(y s:Rat)(q:Nat):L2.St->Hp->Prop where
 | mk {H':Hp} {nr:Addr} {t u:Int} {u7:Option V} (s':Same H H') (nb:NB H' nr t u e.k c v x (g+q) (y*s^q)):AtR H d sp tr b n cc c x v e g y s q [some (.ref d),some (.ref sp),some (.ref tr),some (.ref b),some (.ref nr),some (.int n),some (.ref cc),u7] H'
theorem SO{g:List Int->Rat}{E:List Ent}{i:Nat}{e:Ent}(he:E[i]? = some e):BC g (pl (E.take (i+1)))=BC g (pl (E.take i))+fv e.t e.b*g e.ns:=by
 rw[CN he];unfold BC;rw[nA,List.sum_append];show _+(_+0)=_;rw[tH]
 rfl
theorem qH{a b:Nat}(h:a<=b):2^a<=2^b:=gS (by decide) h
theorem qN{a b:Nat}(h:a<b):2^a<2^b:=gT (by decide) h
theorem scAt:FnScope ["one","spot","total","powers","number","power","place","turn"] ["one","spot"] (jM sAt):=⟨rfl,rfl,rfl,by decide +kernel,rfl,by decide +kernel,by decide +kernel⟩
theorem ok_at{fP fM:Addr}{fdP fdM:FuncData}(F:Fun K "_law_at" "_law_at" sAt f fd)(T:Txt mg)(DP:Df K mg "_law_plus" BM ["one","other"] fP fdP)(GP:FnOk P w K mg base CX0 1 fP fdP ["one","other"] spPlus)(DM:Df K mg "_law_mul" FW ["one","other"] fM fdM)(GM:FnOk P w K mg base CX0 1 fM fdM ["one","other"] (IG K)):FnOk P w K mg base CX0 2 f fd ["one","spot"] (spAt K):=by
 refine F.ok scAt (λvs H Q E h=>?_) (λcdv A outer s H vs Q E hr h=>?_)
 ·obtain⟨d,sp,aa,c,x,kk,z,E',us,S,rfl,_⟩:=h
  rfl
 ·obtain⟨d,sp,aa,c,x,kk,z,EE,us,S,rfl,fq,zD,hsp,pS,lS,sB,big,kb,big2,big3,go⟩:=h;have hu:_+1<cLine:=hJ (Nat.add_le_add_left (by decide:1<=64) _) hr.units;refine⟨_,jD (jP (i:=2) scAt.nd rfl (Or.inl rfl) (jT (jA jB (jA jB jC)))) (jD (qM PassesOwn.never rfl (LwD.CO (pv 0)) (jI (i:=3) scAt.nd rfl (Or.inl rfl)) (jD (jP (i:=4) scAt.nd rfl (Or.inl rfl) (yU hu (pv 0) (pv 3) (λ_ _=>rfl))) (jD (qM PassesOwn.never rfl (pi_zipT (by rfl) T.zip (jA (pv 3) (jA (pv 1) jC))) (qI rfl (jQ (jI (i:=5) scAt.nd rfl (Or.inl rfl)) (jQ (jI (i:=6) scAt.nd rfl (Or.inl rfl)) kN))) (jF (qM PassesOwn.never rfl (xD (by rfl) T.rng (jA (pv 5) jC)) (jI (i:=7) scAt.nd rfl (Or.inl rfl)) (jF (jP (i:=4) scAt.nd rfl (Or.inl rfl) (jG GM hr rfl DM.m DM.F.kp DM.b .nil jR (jA (pv 4) (jA (pv 6) jC)))))))) (jF (jP (i:=2) scAt.nd rfl (Or.inl rfl) (jG GP hr rfl DP.m DP.F.kp DP.b .nil jR (jA (pv 2) (jA (pv 4) jC)))))))) (jF (jU (pv 2)))), ?_⟩;try dsimp only[cxK]
  refine⟨uX,λz0 H1 n1 s1 e1=>?_⟩;have lu:us.length=S.length:=Paired.length pS;obtain⟨o2,f2⟩:=(fq.kp (Kp.of s1)).fr;refine⟨_,rfl,d,o2,_,rfl,f2,CU EE,λks hks=>?_⟩;refine EZ hks (AtI H H1 d sp c x z.v EE S) (.mk (Same.refl _) n1 e1 (by decide) (by show(1:Nat)<=2^(0+0*c);rw[Nat.zero_mul];decide) (tQ _) QW) (λi σ H2 h=>?_) (λi e b σ H2 he eM hb h=>?_) (fun σ H2 h=>?_)
  ·obtain⟨s2,_⟩:=h;exact⟨s2 _ _ f2,Kp.of s2⟩
  ·obtain⟨s2,nw,a2,pB,bB,bT,vT⟩:=h;rename_i tr T0 B0 u3 u4 u5 u6 u7;have s12:=s1.trans s2;have fq2:=fq.kp (Kp.of s12);have eo:=fq2.db.each e eM;have ek:=fq.db.k eM;have ek2:e.k<=kk:=kb e eM;have ss:=JK he;have sl:=tD (ks_le EE (i+1)) fq.db.sum;have hi:i<EE.length:=(gC.mp he).1;have few:=fq.db.few;have ic:(i+1)*c<=z.n*c:=gU _ (by omega);rw[Nat.succ_mul]at ic;refine⟨_,rfl,_,rfl,d,_,rfl,fq2.get eM hb, ?_⟩;refine⟨_,rfl,_,rfl,b,sp,rfl,⟨_,SqT.of hb⟩,⟨us,SqT.of (s12 _ _ hsp)⟩, ?_⟩;have ly:(e.ns.map V.int).length=us.length:=by rw[mZ,eo.len,lu,lS]
   refine YG (K:=K) (a:=b) (b:=sp) (xs:=e.ns.map V.int) (ys:=us) (AtZ H2 d sp tr b c x z.v e S) ly (.mk (Same.refl _) ⟨eo.at',eo.pos,by show _<=2^(e.k+c*0);rw[Nat.mul_zero];exact eo.sb,by show _<=2^(z.v+x*0)*_;rw[Nat.mul_zero];exact eo.st,by show _=_*1;rw[tS]⟩) (λj σ H3 _ h=>?_) (λj xv yv pr σ H3 hxj hyj hpr h=>?_) (fun σ H3 h=>?_)
   ·obtain⟨s3,_⟩:=h;exact⟨SqT.of (s3 _ _ hb),SqT.of ((s12.trans s3) _ _ hsp)⟩
   ·obtain⟨s3,nb⟩:=h;rename_i nr t u v5 v6 v7;rw[mH]at hxj;obtain⟨n,hn,rfl⟩:=Option.map_eq_some_iff.mp hxj;obtain⟨sv,hsv,cc,rfl,atc⟩:=Paired.at pS hyj;have n0:=eo.nn n (gQ hn);obtain⟨nn,rfl⟩:=Int.eq_ofNat_of_zero_le n0;have c0:=MW eo.nn j;have c1:=MW eo.nn (j+1);have cs:=ZO hn;have dg:=eo.deg;have s4:Same H3 (upd H3 pr (.tup [.int (nn:Int),.ref cc])):=jY _ hpr;have at4:(upd H3 pr (.tup [.int (nn:Int),.ref cc])) pr=some (.tup [.int (nn:Int),.ref cc]):=jE;generalize upd H3 pr (.tup [.int (nn:Int),.ref cc])=H4 at s4 at4;have s24:=s3.trans s4;have sm:=gQ hsv;have sd:=sB.d sv sm;have sn:=sB.n sv sm;have dp:=sv.den_pos;have nb5:sv.den<2^50000:=hJ sd (qN (by omega));have nn5:sv.num.natAbs<2^50000:=by
     refine hJ (tD sn (gZ _ sd)) ?_;rw[<-tU];exact qN (by omega)
    generalize hg:(e.ns.take j).sum=cj at c0 cs nb;refine⟨pr,_,rfl,SqT.of at4,rfl,_,_,rfl,_,_,rfl,rfl, ?_⟩;refine⟨_,rfl,nn,rfl,by omega,by omega, ?_⟩;refine wU (n:=nn) (AtR H4 d sp tr b (nn:Int) cc c x z.v e cj.toNat (fv e.t e.b*pw (S.take j) (e.ns.take j)) sv) (.mk (Same.refl _) ⟨s4 _ _ nb.at',nb.pos,nb.sb,nb.st,by rw[nb.val,Rat.pow_zero,tS]⟩) (λq σ H5 hq h=>?_) (fun σ H5 h=>?_)
    ·obtain⟨s5,nb5'⟩:=h;rename_i nr2 t2 u2 w7;have gq:cj.toNat+q=0:=by omega
     rw[gq]at nb5';have b1:=nb5'.sb;have b2:=nb5'.st;rw[Nat.mul_zero,tN]at b1 b2;refine⟨_,rfl,_,rfl,nr2,cc,t2,u2,sv.num,sv.den,rfl,SqT.of nb5'.at',kI (s12.trans (s24.trans s5)) atc,vQ b2 b1 (by omega),vD b1 (by omega),nn5,(by rw[mD];exact nb5),λr H6 n6 s6 e6=>?_⟩;refine .mk (s5.trans s6) ⟨e6,tR nb5'.pos (by omega), ?_, ?_, ?_⟩
     ·rw[show cj.toNat+(q+1)=1 by omega,Nat.mul_one,nI,mD,tU];exact nK b1 sd
     ·rw[show cj.toNat+(q+1)=1 by omega,Nat.mul_one,nI,nI,mD];exact EQ b2 sn
     ·rw[OA nb5'.pos (by omega),nb5'.val,qQ,Rat.pow_succ,nU]
    ·obtain⟨s5,nb5'⟩:=h;have ec:(e.ns.take (j+1)).sum.toNat=cj.toNat+nn:=by omega
     refine .mk (s24.trans s5) (t:=_) (u:=_) (by
      rw[ec,PP hsv hn,mP,<-nU];exact nb5')
   ·obtain⟨s3,nb⟩:=h;rename_i nr t u v5 v6 v7;rw[mZ]at nb;have c0:=MW eo.nn e.ns.length;rw[mT]at nb c0;rw[show S.take e.ns.length=S by rw[eo.len,<-lS];exact mT]at nb;have dg:=eo.deg;have g1:e.ns.sum.toNat<=1:=by omega
    have b1:u.natAbs<=2^(e.k+c):=tD nb.sb (qH (by have:=gZ c g1;omega));have b2:t.natAbs<=2^(z.v+x)*u.natAbs:=tD nb.st (gU _ (qH (by have:=gZ x g1;omega)));refine⟨_,rfl,_,rfl,tr,nr,T0,B0,t,u,rfl,s3 _ _ a2,nb.at',pB,nb.pos,vQ bT bB (by omega),vD bB (by omega),vQ b2 b1 (by omega),vD b1 (by omega),λr T' B' H4 n4 s4 e4 pB' lB' eq=>?_⟩;refine .mk (s2.trans (s3.trans s4)) ((s12.trans s3).free n4) e4 pB' ?_ ?_ ?_
    ·refine tD lB' (tD (nK bB b1) ?_);rw[<-tU];exact qH (by rw[ss,Nat.succ_mul];omega)
    ·exact zE pB nb.pos eq bT (KA b2 (Nat.le_add_right ..))
    ·rw[QX pB nb.pos pB' eq,vT,SO he,nb.val]
  ·obtain⟨s2,nw,a2,pB,bB,bT,vT⟩:=h;rw[mT]at bB vT;have few:=fq.db.few;have sm:=fq.db.sum;have lc:=gU c few;refine⟨_,rfl,go _ _ _ H2 nw (s1.trans s2) a2 pB (tD bB (qH (by omega))) (tD bT (gU _ (qH (by omega)))) vT⟩
theorem Tape.ne{cl:Addr}{H:Hp}{tp:Addr}{B:Int}(T:Tape cl H tp B){d:Addr}{o:HO}(e:H d=some o)(ho:∀xs,o≠.lst xs):d≠tp/\d≠cl:=by
 obtain⟨ns,spot,rest,left,h1,h2,_⟩:=T;refine⟨λz=>?_,λz=>?_⟩
 ·rw[z,h1]at e;cases e;exact ho _ rfl
 ·rw[z,h2]at e;cases e;exact ho _ rfl
theorem Tape.off{cl:Addr}{H:Hp}{tp:Addr}{B:Int}(T:Tape cl H tp B){d:Addr}(e:H d=none):d≠tp/\d≠cl:=by
 obtain⟨ns,spot,rest,left,h1,h2,_⟩:=T;refine⟨λz=>?_,λz=>?_⟩
 ·rw[z,h1]at e;cases e
 ·rw[z,h2]at e;cases e
theorem Tape.upd{cl:Addr}{H:Hp}{tp:Addr}{B B':Int}(T:Tape cl H tp B){l:Addr}(o:HO)(h1:l≠tp)(h2:l≠cl)(hB:B<=B'):Tape cl (upd H l o) tp B':=by
 obtain⟨ns,spot,rest,left,e1,e2,e3,e4,e5⟩:=T;exact⟨ns,spot,rest,left,by rw[jO (Ne.symm h1)];exact e1,by rw[jO (Ne.symm h2)];exact e2,e3,e4,by omega⟩
theorem JU{p l:Addr}{H H':Hp}{o:HO}(b:But p H H')(n:H l=none):But p H (upd H' l o):=λc u h hc=>by
 rw[jO (kM h n)];exact b c u h hc
theorem xV:∀aa j:Nat,(jH aa j).sum<=1/\∀n∈jH aa j,0<=n
 | 0,j=>⟨by show(0:Int)<=1;decide,λn h=>nomatch h⟩
 | n+1,0=>by
  rw[DZ];have z:∀x∈jH n n,x=0:=λx hx=>by
   unfold jH at hx;obtain⟨k,hk,rfl⟩:=tF.mp hx;exact dA (by have:=nJ.mp hk;omega)
  have s0:(jH n n).sum=0:=by
   have key:∀l:List Int,(∀x∈l,x=0)->l.sum=0:=λl=>by
    induction l with
    | nil=>exact λ_=>rfl
    | cons a l ih=>exact λh=>by rw[nX,h a (by simp),ih λx hx=>h x (by simp [hx])];rfl
   exact key _ z
  refine⟨by rw[nX,s0];decide,λx hx=>?_⟩;rcases nT.mp hx with rfl | hx
  ·decide
  ·rw[z x hx];exact tV _
 | n+1,j+1=>by
  rw[AS];obtain⟨h1,h2⟩:=xV n j;refine⟨by rw[nX,Int.zero_add];exact h1,λx hx=>?_⟩;rcases nT.mp hx with rfl | hx
  ·exact tV _
  ·exact h2 x hx
def spLine:Sp:=λvs H Q _=>∃(tp:Addr) (aa:Nat) (B:Int),vs=[.ref tp,.int aa]/\1<=aa/\aa<=3/\∃cl,Tape cl H tp B/\B<2^31/\
 ∀(d:Addr) (E:List Ent) (H':Hp),H d=none->But tp H H'->Tape cl H' tp (B+28)->H' d=some (.dT (E.map Ent.kv))->DB H' aa ⟨1,40,56,4⟩ E->Q (.ref d) H'
inductive LnI(H:Hp)(cl tp d:Addr)(aa:Nat)(B:Int)(i:Nat):L2.St->Hp->Prop where
 | mk {u v x:Option V} {H':Hp} {E:List Ent} (b:But tp H H') (T:Tape cl H' tp (B+7*i)) (e:H' d=some (.dT (E.map Ent.kv))) (db:DB H' aa ⟨1,40,14*i,i⟩ E) (ky:∀n∈E.map Ent.ns,∃j,j<i/\n=jH aa j):LnI H cl tp d aa B i [some (.ref tp),some (.int aa),some (.ref d),u,v,x] H'
theorem AR{aa j k:Nat}(h:k<aa):(jH aa j).take (k+1)=(jH aa j).take k++[if k=j then 1 else 0]:=by
 rw[mJ,yJ h]
 rfl
theorem scLine:FnScope ["tape","many","found","letter","powers","number"] ["tape","many"] (jM OZ):=⟨rfl,rfl,rfl,by decide +kernel,rfl,by decide +kernel,by decide +kernel⟩
theorem ok_line{fD fN:Addr}{fdD fdN:FuncData}(F:Fun K "_law_line" "_law_line" OZ f fd)(T:Txt mg)(DD:Df K mg "_law_draw" FX ["tape","many"] fD fdD)(GD:FnOk P w K mg base CX0 1 fD fdD ["tape","many"] spDraw)
  (DN:Df K mg "_law_number" uT ["tape"] fN fdN) (GN:FnOk P w K mg base CX0 2 fN fdN ["tape"] (II 6 (2^38))):FnOk P w K mg base CX0 3 f fd ["tape","many"] spLine:=by
 refine F.ok scLine (λvs H Q E h=>?_) (λcdv A outer s H vs Q E hr h=>?_)
 ·obtain⟨tp,aa,B,rfl,_⟩:=h
  rfl
 ·obtain⟨tp,aa,B,rfl,m1,m4,cl,hT,hB,go⟩:=h;have hr1:Room 1 _:=hr.mono (by decide);have hu:_+1<cLine:=hJ (Nat.add_le_add_left (by decide:1<=64) _) hr.units;refine⟨_,jD (jP (i:=2) scLine.nd rfl (Or.inl rfl) (AH)) (jD (qM PassesOwn.never rfl (xD (by rfl) T.rng (jA (jJ kQ (pv 1) jB) jC)) (jI (i:=3) scLine.nd rfl (Or.inr rfl)) (jD (jP (i:=4) scLine.nd rfl (Or.inl rfl) (kL vZ (by rfl) T.tup boot_tuple (jA (vL (own:=1) (idx:=[3]) (N:=["k","letter"]) rfl rfl rfl (by decide +kernel) (by decide +kernel) (vW (by intro y hy;simp only[nT,mS,or_false]at hy;rcases hy with rfl;rfl)) (vC rfl) rfl (vR rfl ⟨rfl,rfl,rfl,rfl⟩) (xD (by rfl) T.rng (jA (pv 1) jC)) (λC fp s2 H2=>(jI (i:=0) (show List.Nodup (["k","letter"]:List Str) by decide +kernel) rfl (Or.inl rfl) (Or.inr rfl))) (λC fp s2 H2=>kL (show CallR (jK _ ["k","letter"] _ _ C fp s2 H2) (.type "int") _ from wX) (by rfl) T.int boot_int (jA (xK yH (pv 0) (pv 1) (jW _)) jC))) jC))) (jD (jP (i:=5) scLine.nd rfl (Or.inl rfl) (jG GN hr rfl DN.m DN.F.kp DN.b .nil jR (jA (pv 0) jC))) (jF (kS (PW.pt (IW (jV BP (jG GD hr1 rfl DD.m DD.F.kp DD.b .nil jR (jA (pv 0) (jA jB jC))) jB (jW _)) (CL (jV yG (jN jS (pv 5) jB (λ_ _=>rfl)) jB (jW _))))) (jF (AE hu (pv 2) (pv 4) (pv 5) rfl)) kD))))) (jF (jU (pv 2)))), ?_⟩
  try dsimp only[cxK]
  intro d nd;have od:=hT.off nd;have T0:Tape cl (upd H d (.dT [])) tp B:=hT.upd _ od.1 od.2 (tV _);refine⟨_,rfl,_,_,rfl,rfl,aa+1,by rfl,by omega,by omega, ?_⟩;have p30:(2:Int)^31+300<2^37:=by decide
  refine wU (n:=aa+1) (LnI H cl tp d aa B) (.mk (E:=[]) (JU (But.refl tp H) nd) (T0.mono (Same.refl _) (by omega)) jE ⟨nN,(λe h=>nomatch h),tP _,tP _⟩ (λn h=>nomatch h)) (λi σ H2 hi h=>?_) (fun σ H2 h=>?_)
  ·obtain⟨b2,T2,e2,db,ky⟩:=h;rename_i E2;refine⟨_,rfl,aa,rfl,by omega,by omega,λq H3 n3 s3 e3=>?_⟩;refine yY (n:=aa) (CmI (λk=>((jH aa i).take k).map V.int) q H2) (by rw[sizeLine_eq];omega) ⟨s3,e3,rfl⟩ (λ_ _ _ h=>h.e) ?_ ?_
   ·rintro k m' ys x H4 hx hm hy ⟨s4,e4,ey⟩;obtain⟨_,hk⟩:=uN hx;refine⟨zJ,_,rfl,_,rfl,rfl,.inr ⟨_,rfl, ?_⟩⟩;refine qB hx hm hy e4 ⟨jZ s4 n3,jE, ?_⟩;rw[AR hk,nA,ey,qG];by_cases c:k=i
    ·rw[dC c,dC (by rw[c];simp)];rfl
    ·rw[dA c,dA (by simp;omega)];rfl
   ·rintro ys H4 hy ⟨s4,e4,ey⟩;rw[gJ (by rw[qE];exact tP _)]at ey;refine⟨q,_,rfl,.inl ⟨SqL.of e4,λb nb=>?_⟩⟩;rw[ey];have sb:Same H4 (upd H4 b (.tup ((jH aa i).map V.int))):=jY _ nb;have eb:(upd H4 b (.tup ((jH aa i).map V.int))) b=some (.tup ((jH aa i).map V.int)):=jE;generalize upd H4 b (.tup ((jH aa i).map V.int))=H5 at sb eb;have s25:=s4.trans sb;have T5:=T2.mono s25 (tV _);have bo:=(T2.mono s4 (tV _)).off nb;have dn:=T5.ne (s25 _ _ e2) (λ_ z=>by cases z);refine⟨_,rfl,tp,_,rfl,cl,T5,by omega,λr t b' H6 fr e6 rne T6 b6 nw=>?_⟩;have d6:=b6 _ _ (s25 _ _ e2) dn.1;have k6:=(Kp.of s25).trans (Kp.butT b6 T5);have eb6:=b6 _ _ eb bo.1;refine RI rfl T6 (by omega) (by decide) (by decide) λc H7 c0 c1 T7 b7=>⟨_,_,rfl,rfl,_,rfl, ?_⟩;have k7:=k6.trans (Kp.butT b7 T6);have dn6:=T6.ne d6 (λ_ z=>by cases z);have d7:=b7 _ _ d6 dn6.1;have bb7:But tp H H7:=b2.trans ((But.of s25).trans (b6.trans b7));have next:LnI H cl tp d aa B (i+1) [some (.ref tp),some (.int aa),some (.ref d),some (.int (0+(i:Int))),some (.ref b),some (.ref r)] H7:=
     .mk bb7 (T7.mono (Same.refl _) (by omega)) d7 ((db.kp k7).up uU uU (by show 14*i<=14*(i+1);omega) (Nat.le_succ _)) λn hn=>by
      obtain⟨j,hj,e⟩:=ky n hn;exact⟨j,by omega,e⟩
    refine EV (λ_=>?_) (λ_=>yR next);have e7:=b7 _ _ e6 rne;refine rvT rfl (SqT.of e7) rfl ⟨rfl,_,rfl, ?_⟩;rw[qG];by_cases t0:t=0
    ·exact vA (by rw[nH t0];rfl) next
    refine xP (by rw[nB t0];rfl) ?_;have us:=xV aa i;have nin:jH aa i∉E2.map Ent.ns:=λhh=>by
     obtain⟨j,hj,e⟩:=ky _ hh;have:=xG (by omega) (by omega) e;omega
    have eb7:H7 b=some (.tup ((jH aa i).map V.int)):=b7 _ _ eb6 bo.1;refine⟨_,rfl,_,rfl,_,rfl,d,_,rfl,DPut.t (k:=LwD.ik (jH aa i)) d7 (by rw[LwD.xB];exact eb7) (hJ (by rw[mZ];exact tD db.few (show i<=4 by omega)) (by decide)), ?_⟩;have rd:r≠d:=λz=>by rw[z,d7]at e7;cases e7
    have k8:=k7.trans (Kp.upd (y:=.dT (zF (List.map Ent.kv E2) (LwD.ik (jH aa i)) (.ref r))) d7 trivial);have dt7:=T7.ne d7 (λ_ z=>by cases z);refine .mk (E:=E2++[⟨jH aa i,r,t,b',14⟩]) (JU bb7 nd) (T7.upd _ dt7.1 dt7.2 (by omega)) ?_ ⟨?_,λy hy=>?_, ?_, ?_⟩ λn hn=>?_
    ·rw[jE,CM (xO nin),nA]
     rfl
    ·rw[nA,mN];refine⟨db.nd,by simp,λa ha b hb=>?_⟩;have:b=jH aa i:=by simpa using hb
     rintro rfl;rw[this]at ha;exact nin ha
    ·rcases nC.mp hy with hy | hy
     ·exact(db.each y hy).kp k8
     ·rw[mC]at hy;subst hy;refine⟨qE ..,us.2,us.1,by show At2 _ r _ _;rw[At2,jO rd];exact e7,fr.pos,t0,tL fr.sb, ?_⟩;refine tD (tL fr.st) (gG _ ?_);have:=fr.pos;show 0<b'.natAbs;omega
    ·rw[nA,List.sum_append];have:=db.sum;show(E2.map Ent.k).sum+(14+0)<=14*(i+1);have:(E2.map Ent.k).sum<=14*i:=this;omega
    ·rw[hU];exact Nat.succ_le_succ db.few
    ·rw[nA]at hn;rcases nC.mp hn with hn | hn
     ·obtain⟨j,hj,e⟩:=ky n hn;exact⟨j,by omega,e⟩
     ·exact⟨i,by omega,by simpa using hn⟩
  ·obtain⟨b2,T2,e2,db,ky⟩:=h;exact⟨_,rfl,go d _ H2 nd b2 (T2.mono (Same.refl _) (by omega)) e2 (db.up uU uU (by show 14*(aa+1)<=56;omega) (by show aa+1<=4;omega))⟩
def Dn(D:Int)(f:List Int->Rat):Prop:=∀m,∃z:Int,(D:Rat)*f m=(z:Rat)
theorem Dn.add{D:Int}{f g h:List Int->Rat}(hf:Dn D f)(hg:Dn D g)(e:∀m,h m=f m+g m):Dn D h:=λm=>by
 obtain⟨z,ez⟩:=hf m;obtain⟨y,ey⟩:=hg m;exact⟨z+y,by rw[e,Rat.intCast_add,<-ez,<-ey,Rat.mul_add]⟩
theorem int_of{D:Int}{x:Rat}(h:(x.den:Int)∣D):∃z:Int,(D:Rat)*x=(z:Rat):=by
 obtain⟨k,rfl⟩:=h;refine⟨k*x.num, ?_⟩;have h1:=qQ x;unfold fv at h1;have h2:((x.den:Int):Rat)≠0:=cne (by have:=x.den_pos;omega);rw[nE,nE];generalize ((x.den:Int):Rat)=B at *;generalize (x.num:Rat)=A at *;rw[<-h1]
 grind
theorem den_of{D:Int}{x:Rat}(h:∃z:Int,(D:Rat)*x=(z:Rat)):(x.den:Int)∣D:=by
 obtain⟨z,e⟩:=h;have h1:=qQ x;unfold fv at h1;have h2:((x.den:Int):Rat)≠0:=cne (by have:=x.den_pos;omega);have k:(D:Rat)*(x.num:Rat)=(z:Rat)*((x.den:Int):Rat):=by
  rw[<-e];generalize ((x.den:Int):Rat)=B at *;generalize (x.num:Rat)=A at *;rw[<-h1]
  grind
 have k:D*x.num=z*(x.den:Int):=by exact_mod_cast k
 have g:Int.gcd x.num (x.den:Int)=1:=x.reduced;exact AM g ⟨z,by rw[tO x.num,k,tO]⟩
def GF(E:List Ent):Int:=(E.map Ent.b).foldr (· * ·) 1
theorem KQ:∀{E:List Ent},(∀x∈E,0<x.b/\x.b.natAbs<=2^x.k)->0<GF E/\(GF E).natAbs<=2^(E.map Ent.k).sum/\Dn (GF E) (cf (pl E))
 | [],_=>⟨by decide,by decide,λm=>⟨0,by show _*0=_;rw[tI];rfl⟩⟩
 | x::E,h=>by
  obtain⟨h1,h2,h3⟩:=KQ (E:=E) λy hy=>h y (by simp [hy]);have hx:=h x (by simp);have e:GF (x::E)=x.b*GF E:=rfl;rw[e];refine⟨tR hx.1 h1, ?_,λm=>?_⟩
  ·rw[nI,nQ,nX,tU];exact nK hx.2 h2
  ·obtain⟨z,ez⟩:=h3 m;show ∃y:Int,_*((if x.ns=m then(x.t:Rat)/(x.b:Rat)else 0)+cf (pl E) m)=_;have b0:=cne hx.1;by_cases c:x.ns=m
   ·refine⟨GF E*x.t+x.b*z, ?_⟩;rw[dC c,Rat.intCast_add,nE,nE,nE,<-ez];generalize (x.b:Rat)=B at *
    grind
   ·refine⟨x.b*z, ?_⟩;rw[dA c,nE,nE,<-ez,tG,nU]
theorem YS{H:Hp}{aa:Nat}{z:Sz}{E:List Ent}(h:DB H aa z E):∃q:Int,0<q/\q.natAbs<=2^z.S/\Dn q (cf (pl E)):=by
 obtain⟨h1,h2,h3⟩:=KQ λx hx=>⟨(h.each x hx).pos,(h.each x hx).sb⟩;exact⟨_,h1,tD h2 (gS (by decide) h.sum),h3⟩
theorem LT{H:Hp}{aa D v:Nat}{e:Ent}(h:EntOk H aa D v e)(hD:D<=1):e.ns=jH aa (yA aa e.ns)/\yA aa e.ns<=aa:=
 ⟨OK h.len h.nn (by have:=h.deg;omega),by have:=OF h.len h.nn;omega⟩
theorem DB.few4{H:Hp}{aa:Nat}{z:Sz}{E:List Ent}(h:DB H aa z E)(hD:z.D<=1)(m3:aa<=3):DB H aa ⟨z.D,z.v,z.S,4⟩ E:=by
 refine⟨h.nd,h.each,h.sum, ?_⟩;have:=ET (l:=E.map Ent.ns) (m:=(List.range (aa+1)).map (jH aa)) h.nd λn hn=>by
  obtain⟨e,he,rfl⟩:=tF.mp hn;obtain⟨e1,e2⟩:=LT (h.each e he) hD;exact tF.mpr ⟨_,nJ.mpr (by omega),e1.symm⟩
 rw[mZ,mZ,mM]at this;show E.length<=4;omega
theorem zB(aa:Nat):jH aa aa=List.replicate aa 0:=by
 refine mQ λk=>?_;by_cases h:k<aa
 ·rw[yJ h,dA (by omega),List.getElem?_replicate,dC h]
 ·rw[gN (by rw[qE];omega),gN (by rw[gM];omega)]
def KF(K:dD):Sp:=λvs H Q _=>∃(a:Addr) (aa:Nat) (us:List V) (ks:List Rat),vs=[.ref a,.int aa]/\H a=some (.tup us)/\Paired (NumK K H) us ks/\ks.length=aa/\aa<=4/\(∀k∈ks,SzR 6630 k)/\∀H',Same H H'->Q (.bl true) H'
theorem scIs:FnScope ["thing","many"] ["thing","many"] (jM CH):=⟨rfl,rfl,rfl,by decide +kernel,rfl,by decide +kernel,by decide +kernel⟩
theorem TC{fN:Addr}{fdN:FuncData}(F:Fun K "_law_is_spot" "_law_is_spot" CH f fd)(T:Txt mg)(DN:Df K mg "_law_is_number" VP ["thing"] fN fdN)(GN:FnOk P w K mg base CX0 2 fN fdN ["thing"] (NA K)):FnOk P w K mg base CX0 3 f fd ["thing","many"] (KF K):=by
 refine F.ok scIs (λvs H Q E h=>?_) (λcdv A outer s H vs Q E hr h=>?_)
 ·obtain⟨a,aa,us,ks,rfl,_⟩:=h
  rfl
 ·obtain⟨a,aa,us,ks,rfl,ha,pr,lk,m4,sz,go⟩:=h;refine⟨_,jD (kS (PW.pt (yM (yN (yE (PU QS T.isi T.tup boot_tuple (pv 0)))) (yD (jV yG (kO qD (by rfl) T.len PySem.boot_len (jA (pv 0) jC)) (pv 1) (jW _))))) (jF (jU wB)) kD) (jF (jU (kO (MH rfl) (by rfl) T.all boot_all (jA (vL (own:=1) (idx:=[]) (N:=["one"]) rfl rfl rfl (by decide +kernel) (by decide +kernel) (λ_ _ h=>nomatch h) (vC rfl) rfl (λ_ _ _ h=>nomatch h) (IZ (pv 0)) (λC fp s2 H2=>(jI (i:=0) (show List.Nodup (["one"]:List Str) by decide +kernel) rfl (Or.inl rfl) (Or.inr rfl))) (λC fp s2 H2=>jG GN hr rfl DN.m DN.F.kp DN.b .nil jR (jA (pv 0) jC))) jC)))), ?_⟩;try dsimp only[cxK]
  have lu:us.length=ks.length:=Paired.length pr;have hs:=SqT.of (K:=K) ha;refine⟨_,rfl,rfl,a,_,rfl,hs,_,rfl,yR ?_⟩;refine⟨_,rfl,a,_,rfl,.inr hs,_,rfl,rfl,_,rfl, ?_⟩;rw[qG];refine vA (by rw[nH (by omega)];rfl) ?_;refine⟨_,rfl,a,rfl,⟨us,hs⟩,λq H1 n1 s1 e1=>?_⟩;refine UE (K:=K) (a:=a) (xs:=us) (CmI (λk=>List.replicate k (V.bl true)) q H) (by rw[sizeLine_eq];omega) ⟨s1,e1,rfl⟩ (λi ys H2 h=>⟨kI h.s hs,h.e⟩) ?_ ?_
  ·rintro i m ys x H2 hx hm hy ⟨s2,e2,ey⟩;obtain⟨k,hk,p,rfl,hp⟩:=Paired.at pr hx;have km:=gQ hk;have dp:=k.den_pos;refine⟨zJ,_,rfl,p,k.num,k.den,rfl,kI s2 hp,by omega, ?_, ?_,λH3 s3=>?_⟩
   ·have:=k.reduced;exact this
   ·rw[mD];exact Nat.lt_trans (sz k km).2 (gT (by decide) (by decide))
   ·refine qB hx hm hy (s3 _ _ e2) ⟨jZ (s2.trans s3) n1,jE, ?_⟩;rw[List.replicate_succ',ey]
  ·rintro ys H2 hy ⟨s2,e2,ey⟩;refine⟨q,List.replicate us.length true,rfl,SqL.of (by rw[e2,ey];simp), ?_⟩;have:(List.replicate us.length true).all id=true:=by simp
   rw[this];exact go H2 s2
def RmP(H:Hp)(aa:Nat)(z:Sz)(v:V)(E:List Ent):Prop:=∃d,v=.ref d/\FQ H d aa z E
theorem RmP.kp{H H':Hp}{aa:Nat}{z:Sz}{v:V}{E:List Ent}(h:RmP H aa z v E)(k:Kp H H'):RmP H' aa z v E:=let ⟨d,e,q⟩:=h;⟨d,e,q.kp k⟩
abbrev zR(i:Nat):Sz:=⟨1,85+i,168+8*i,4⟩
theorem TV{K:dD}{a b:Addr}{xs ys:List V}{g:TG}{tb:TS}{D:Ends}{σ:L2.St}{H:Hp}(Pv:Nat->L2.St->Hp->Prop)(le:xs.length=ys.length)(h0:Pv 0 σ H)(hl:∀i σ H,i<=xs.length->Pv i σ H->SqL K H a xs/\SqL K H b ys)
  (hs:∀i x y p σ H,xs[i]? = some x->ys[i]? = some y->H p=none->Pv i σ H->g (.ref p) σ (upd H p (.tup [x,y])) fun σ2 H2=>tb { D with nx:=Pv (i+1),ct:=Pv (i+1),bk:=D.nx } σ2 H2) (hd:∀σ H,Pv xs.length σ H->D.nx σ H) :
  ∃W:Nat->Nat->L2.St->Hp->Prop,(∃m,W 0 m σ H)/\∀i m σ H,W i m σ H->
   ((ItzL K a b).stop i H/\D.nx σ H)∨((ItzL K a b).go i H/\∃N:L2.St->Hp->Prop,(∀σ' H',N σ' H'->∃m',m'<m/\W (i+1) m' σ' H')/\∀x H',(ItzL K a b).yld i H x H'->g x σ H' fun σ2 H2=>tb { D with nx:=N,ct:=N,bk:=D.nx } σ2 H2):=by
 refine⟨λi m σ H=>m=xs.length-i/\i<=xs.length/\Pv i σ H,⟨xs.length,by simp,tQ _,h0⟩, ?_⟩;rintro i m σ H ⟨rfl,hi,p⟩;obtain⟨q1,q2⟩:=hl i σ H hi p;by_cases hlt:i<xs.length
 ·refine .inr ⟨⟨xs,ys,xs[i],ys[i]'(by omega),q1,q2,by simp [hlt],by simp [le▸hlt]⟩,Pv (i+1),fun σ' H' p'=>⟨xs.length-(i+1),by omega,rfl,hlt,p'⟩,λv H' y=>?_⟩;obtain⟨r,x,y,hr,rfl,rfl,hx,hy⟩:=y;exact hs i x y r σ H (hx xs q1) (hy ys q2) hr p
 ·have ei:i=xs.length:=by omega
  subst ei;exact .inl ⟨⟨xs,ys,q1,q2,.inl uU⟩,hd σ H p⟩
def wcf:List (List Ent)->List Rat->List Int->Rat
 | E::Es,w::ws,m=>w*cf (pl E) m+wcf Es ws m
 | _,_,_=>0
theorem DJ:∀{Es:List (List Ent)} {ws:List Rat} {i:Nat} {E:List Ent} {w:Rat} (m:List Int),Es[i]? = some E->ws[i]? = some w->wcf (Es.take (i+1)) (ws.take (i+1)) m=wcf (Es.take i) (ws.take i) m+w*cf (pl E) m
 | _::_,_::_,0,_,_,m,h1,h2=>by
  cases (Option.some.inj h1);cases (Option.some.inj h2);show _+0=0+_;rw[tH,tG]
 | _::Es,_::ws,i+1,_,_,m,h1,h2=>by
  show _+wcf (Es.take (i+1)) (ws.take (i+1)) m=_+wcf (Es.take i) (ws.take i) m+_;rw[DJ (i:=i) m h1 h2,Rat.add_assoc]
 | [],_,_,_,_,_,h,_=>by simp at h
 | _::_,[],_,_,_,_,_,h=>by simp at h
def AY(K:dD):Sp:=λvs H Q _=>∃(na l ls dd:Addr) (aa:Nat) (xs:List V) (Es:List (List Ent)) (ws:List Rat) (Ed:List Ent) (T:Rat) (zd:Sz),vs=[.int aa,.ref na,.ref l,.ref ls,.ref dd]/\1<=aa/\aa<=3/\At2 H na T.num T.den/\SzR 3410 T/\H l=some (.lst xs)/\Paired (RmP H aa (zR 5)) xs Es/\WtsP K H ls Es.length ws/\Es.length<=6/\FQ H dd aa zd Ed/\zd.v<=4000/\KB (λ_=>40000) Ed/\
 (∀m,(if m=jH aa aa then T else 0)+wcf Es ws m=cf (pl Ed) m)/\∀H',Same H H'->Q (.bl true) H'
inductive BbI(H:Hp)(na l ls dd:Addr)(aa:Nat)(Es:List (List Ent))(ws:List Rat)(T:Rat)(i:Nat):L2.St->Hp->Prop where
 | mk {H':Hp} {td:Addr} {E':List Ent} {u6 u7:Option V} (s:Same H H') (nt:H td=none) (e:H' td=some (.dT (E'.map Ent.kv))) (db:DB H' aa ⟨1,3500+4*i,3410+13848*i,4⟩ E') (kb:KB (λ_=>3410+3618*i) E') (c:∀m,cf (pl E') m=(if m=jH aa aa then T else 0)+wcf (Es.take i) (ws.take i) m) :
  BbI H na l ls dd aa Es ws T i [some (.int aa),some (.ref na),some (.ref l),some (.ref ls),some (.ref dd),some (.ref td),u6,u7] H'
theorem scBb:FnScope ["many","number","rims","weights","due","total","rim","weight"] ["many","number","rims","weights","due"] (jM AC):=⟨rfl,rfl,rfl,by decide +kernel,rfl,by decide +kernel,by decide +kernel⟩
theorem NR{fN fA fS fM:Addr}{fdN fdA fdS fdM:FuncData}(F:Fun K "_law_borne_by" "_law_borne_by" AC f fd)(T:Txt mg)(DN:Df K mg "_law_is_number" VP ["thing"] fN fdN)(GN:FnOk P w K mg base CX0 2 fN fdN ["thing"] (NA K))(DA:Df K mg "_law_added" IS ["one","other"] fA fdA)(GA:FnOk P w K mg base CX0 3 fA fdA ["one","other"] spAdded)
  (DS:Df K mg "_law_scaled" CD ["one","number"] fS fdS) (GS:FnOk P w K mg base CX0 2 fS fdS ["one","number"] (KD K)) (DM:Df K mg "_law_same" OW ["one","other"] fM fdM) (GM:FnOk P w K mg base CX0 2 fM fdM ["one","other"] spSame):FnOk P w K mg base CX0 4 f fd ["many","number","rims","weights","due"] (AY K):=by
 refine F.ok scBb (λvs H Q E h=>?_) (λcdv A outer s H vs Q E hr h=>?_)
 ·obtain⟨na,l,ls,dd,aa,xs,Es,ws,Ed,T0,zd,rfl,_⟩:=h
  rfl
 ·obtain⟨na,l,ls,dd,aa,xs,Es,ws,Ed,T0,zd,rfl,m1,m3,hna,szT,hl,pr,hw,l6,fd',zdv,kbd,eq,go⟩:=h;obtain⟨us,hls,pw⟩:=hw.ex;have lw:=hw.len;have wok:=hw.sz;have hu:_+1<cLine:=hJ (Nat.add_le_add_left (by decide:1<=64) _) hr.units;have hr2:Room 2 _:=hr.mono (by decide);refine⟨_,jD (kS (PW.pt (yM (yN (yE (NN isi_lst T.isi T.lst boot_list (pv 3)))) (yD (jV yG (kO qD (by rfl) T.len PySem.boot_len (jA (pv 3) jC)) (kO qD (by rfl) T.len PySem.boot_len (jA (pv 2) jC)) (jW _))))) (jF (jU wB)) kD) (jD (jP (i:=5) scBb.nd rfl (Or.inl rfl) (AH)) (jD (kS (jV yG (jN jS (pv 1) jB (λ_ _=>rfl)) jB (jW _)) (jF (AE hu (pv 5) (jJ LwD.zP (jT (jA jB jC)) (pv 0)) (pv 1) rfl)) kD) (jD (qM PassesOwn.never rfl (IY (by rfl) T.zip (jA (pv 2) (jA (pv 3) jC))) (qI rfl (jQ (jI (i:=6) scBb.nd rfl (Or.inl rfl)) (jQ (jI (i:=7) scBb.nd rfl (Or.inl rfl)) kN))) (jD (kS (PW.pt (yM (yN (yE (jG GN hr2 rfl DN.m DN.F.kp DN.b .nil jR (jA (pv 7) jC)))) (yD (jV zG (jN jS (pv 7) jB (λ_ _=>rfl)) jB (jW _))))) (jF (jU wB)) kD) (jF (jP (i:=5) scBb.nd rfl (Or.inl rfl) (jG GA hr rfl DA.m DA.F.kp DA.b .nil jR (jA (LwD.wL (pv 5)) (jA (LwD.wL (jG GS hr2 rfl DS.m DS.F.kp DS.b .nil jR (jA (pv 6) (jA (pv 7) jC)))) jC))))))) (jF (jU (jG GM hr2 rfl DM.m DM.F.kp DM.b .nil jR (jA (LwD.wL (pv 5)) (jA (pv 4) jC)))))))), ?_⟩
  try dsimp only[cxK]
  have lx:xs.length=Es.length:=Paired.length pr;have lu:us.length=ws.length:=Paired.length pw;refine⟨_,rfl,rfl,.lst,.lst hls,_,rfl,yR ?_⟩;refine⟨_,rfl,ls,_,rfl,.inl (SqL.of hls),_,rfl,l,_,rfl,.inl (SqL.of hl),rfl,_,rfl, ?_⟩;rw[qG];refine vA (by rw[nH (by omega)];rfl) ?_;intro td nt;have s1:Same H (upd H td (.dT [])):=jY _ nt;have e1:(upd H td (.dT [])) td=some (.dT (([]:List Ent).map Ent.kv)):=jE;generalize upd H td (.dT [])=H1 at s1 e1;have dT:=T0.den_pos;dsimp only[kT];refine VH (t:=tIfS _ _ _) (BbI H na l ls dd aa Es ws T0 0) ?_ (λgo2=>?_)
  rotate_left
  ·refine rvT rfl (SqT.of (s1 _ _ hna)) rfl ⟨rfl,_,rfl, ?_⟩;rw[qG];by_cases c0:T0.num=0
   ·have z0:T0=0:=by
     have:=qQ T0;unfold fv at this;rw[<-this,c0,show((0:Int):Rat)=0 from rfl,tT,tJ]
    refine vA (by rw[nH c0];rfl) (go2 _ _ (.mk (E':=[]) s1 nt e1 ⟨nN,(λe h=>nomatch h),tQ _,tQ _⟩ (λe h=>nomatch h) λm=>?_));show 0=(if m=jH aa aa then T0 else 0)+0;rw[z0];split<;>rw[tH]
   ·refine xP (by rw[nB c0];rfl) ?_;refine⟨_,rfl,_,rfl,uW,λz1 H2 n2 s2 e2=>⟨_,rfl,z1,aa,_,rfl,rfl,e2,m1,by omega,λb H3 s3 e3=>?_⟩⟩;have hz:List.replicate aa (V.int 0)=(jH aa aa).map V.int:=by rw[zB];simp
    rw[hz]at e3;have s13:=s2.trans s3;have e13:=s13 _ _ e1;refine⟨td,_,rfl,DPut.t (k:=LwD.ik (jH aa aa)) e13 (by rw[LwD.xB];exact e3) (by show 0<sizeLine;decide), ?_⟩;have k4:Kp H3 (upd H3 td (.dT (zF (List.map Ent.kv []) (LwD.ik (jH aa aa)) (.ref na)))):=Kp.upd e13 trivial;have s03:=s1.trans s13;have us':=xV aa aa;refine go2 _ _ (.mk (E':=[⟨jH aa aa,na,T0.num,T0.den,3410⟩]) (jZ s03 nt) nt (by rw[jE];rfl) ⟨by simp,λx hx=>?_,by show 3410+0<=3410+13848*0;omega,by show 1<=4;decide⟩ (λx hx=>?_) λm=>?_)
    ·rw[mC]at hx;subst hx;refine⟨qE ..,us'.2,us'.1,k4.tup _ _ (s03 _ _ hna),by show(0:Int)<T0.den;omega,c0, ?_, ?_⟩
     ·show((T0.den:Int)).natAbs<=2^3410;rw[mD];exact tL szT.2
     ·show T0.num.natAbs<=2^(3500+4*0)*((T0.den:Int)).natAbs;rw[mD];exact tD (tL szT.1) (tD (qH (by decide)) (gG _ dT))
    ·rw[mC]at hx;subst hx;show 3410<=3410+3618*0;omega
    ·show(if jH aa aa=m then((T0.num:Int):Rat)/((T0.den:Int):Rat)else 0)+0=(if m=jH aa aa then T0 else 0)+0;have:=qQ T0;unfold fv at this;rw[this];by_cases c:m=jH aa aa
     ·rw[dC c,dC c.symm]
     ·rw[dA c,dA λz=>c z.symm]
  rintro σ H1' ⟨s1',nt',e1'',db0,kb0,c0⟩;rename_i td0 E0' v6 v7;refine⟨_,rfl,_,rfl,l,ls,rfl,⟨_,SqL.of (s1' _ _ hl)⟩,⟨_,SqL.of (s1' _ _ hls)⟩, ?_⟩;refine TV (K:=K) (a:=l) (b:=ls) (xs:=xs) (ys:=us) (BbI H na l ls dd aa Es ws T0) (by omega) (.mk s1' nt' e1'' db0 kb0 c0) (λi σ H2 _ h=>?_) (λi x y pt σ H2 hx hy npt h=>?_) (fun σ H2 h=>?_)
  ·obtain⟨s2,_⟩:=h;exact⟨SqL.of (s2 _ _ hl),SqL.of (s2 _ _ hls)⟩
  ·obtain⟨s2,nt,e2,db,kb,c⟩:=h;rename_i td E' u6 u7;obtain⟨Ei,hEi,di,rfl,fq⟩:=Paired.at pr hx;obtain⟨wi,hwi,wa,rfl,hwa⟩:=Paired.at pw hy;have wm:=wok wi (gQ hwi);have s3:Same H2 (upd H2 pt (.tup [.ref di,.ref wa])):=jY _ npt;have e3:(upd H2 pt (.tup [.ref di,.ref wa])) pt=some (.tup [.ref di,.ref wa]):=jE;generalize upd H2 pt (.tup [.ref di,.ref wa])=H3 at s3 e3;have s03:=s2.trans s3;refine⟨pt,_,rfl,SqT.of e3,rfl,_,_,rfl,_,_,rfl,rfl, ?_⟩;have dp:=wi.den_pos;have hi:i<Es.length:=(gC.mp hEi).1;have den5:wi.den<2^8000:=Nat.lt_trans wm.2.2 (qN (by decide));refine⟨_,rfl,wa,wi.num,wi.den,rfl,kI s03 hwa,by omega,wi.reduced,by rw[mD];exact den5,λH4 s4=>⟨_,rfl,yR ?_⟩⟩;have s04:=s03.trans s4;have wn:¬wi.num<0:=λz=>by
    have:wi<0:=mL (by rw[<-CP];exact nH z);have:=wm.1
    grind
   refine rvT rfl (kI s04 hwa) rfl ⟨_,_,rfl,rfl,_,rfl,vA (nB wn) ?_⟩;have e4:=(s3.trans s4) _ _ e2;refine⟨_,rfl,td,_,rfl,e4,λo5=>?_⟩;have k5:Kp H4 (upd H4 td (.frz o5 (.dT (E'.map Ent.kv)))):=Kp.upd e4 trivial;have e5:(upd H4 td (.frz o5 (.dT (E'.map Ent.kv)))) td=some (.frz o5 (.dT (E'.map Ent.kv))):=jE;have s05:Same H (upd H4 td (.frz o5 (.dT (E'.map Ent.kv)))):=jZ s04 nt;generalize upd H4 td (.frz o5 (.dT (E'.map Ent.kv)))=H5 at k5 e5 s05;have fq5:FQ H5 td aa ⟨1,3500+4*i,3410+13848*i,4⟩ E':=⟨⟨o5,e5⟩,(db.kp (Kp.of (s3.trans s4))).kp k5⟩;have fr5:=fq.kp (Kp.of s05);refine⟨_,rfl,_,rfl,di,wa,aa,3410,3410,zR 5,Ei,wi.num,wi.den,λ_=>208,rfl,fr5,kI s05 hwa,by omega,by rw[mD];exact tL wm.2.2, ?_,fr5.db.kb,(λ_=>by show 208<=40000;decide),by decide,by decide,by decide,by decide,λp6 E6 H6 n6 s6 e6 db6 kb6 c6 _=>?_⟩
   ·rw[mD];exact tD (tL wm.2.1) (gG _ dp)
   refine⟨p6,_,rfl,e6,λo7=>?_⟩;have k7:Kp H6 (upd H6 p6 (.frz o7 (.dT (E6.map Ent.kv)))):=Kp.upd e6 trivial;have e7:(upd H6 p6 (.frz o7 (.dT (E6.map Ent.kv)))) p6=some (.frz o7 (.dT (E6.map Ent.kv))):=jE;have s57:Same H5 (upd H6 p6 (.frz o7 (.dT (E6.map Ent.kv)))):=jZ s6 n6;generalize upd H6 p6 (.frz o7 (.dT (E6.map Ent.kv)))=H7 at k7 e7 s57;have fq7:FQ H7 p6 aa ⟨1,3500,13848,4⟩ E6:=⟨⟨o7,e7⟩,db6.kp k7⟩;refine⟨td,p6,aa,⟨1,3500+4*i,3410+13848*i,4⟩,⟨1,3500,13848,4⟩,E',E6,λ_=>3410+3618*i,λ_=>3618,rfl,fq5.kp (Kp.of s57),fq7,m1,by omega,tP _,by show 3500<=3500+4*i;omega,(by show 1<=8;decide),kb,kb6,(λ_=>by show 3410+3618*i<=40000;omega),(λ_=>by show 3618<=7900;decide),by show 3500+4*i+4<=4000;omega,(by show 4+4<=1000;decide),λp8 E8 H8 n8 s8 e8 db8 kb8 c8=>?_⟩;refine .mk (s05.trans (s57.trans s8)) ((s05.trans s57).free n8) e8 ((db8.few4 uU m3).up uU (by show 3500+4*i+4<=3500+4*(i+1);omega) (by show 3410+13848*i+13848<=3410+13848*(i+1);omega) uU) (kb8.up λ_=>by show 3410+3618*i+3618<=3410+3618*(i+1);omega) λm=>?_;rw[c8,c,c6,DJ m hEi hwi,Rat.add_assoc]
   congr 1
   congr 1
   congr 1
   exact qQ wi
  ·obtain⟨s2,nt,e2,db,kb,c⟩:=h;rename_i td E' u6 u7;rw[lx]at db kb;rw[show xs.length=Es.length from lx,mT,show Es.length=ws.length from lw.symm,mT]at c;refine⟨_,rfl,td,_,rfl,e2,λo3=>?_⟩;have k3:Kp H2 (upd H2 td (.frz o3 (.dT (E'.map Ent.kv)))):=Kp.upd e2 trivial;have e3:(upd H2 td (.frz o3 (.dT (E'.map Ent.kv)))) td=some (.frz o3 (.dT (E'.map Ent.kv))):=jE;have s03:Same H (upd H2 td (.frz o3 (.dT (E'.map Ent.kv)))):=jZ s2 nt;generalize upd H2 td (.frz o3 (.dT (E'.map Ent.kv)))=H3 at k3 e3 s03;refine⟨_,rfl,td,dd,aa,_,zd,E',Ed,λ_=>3410+3618*Es.length,λ_=>40000,rfl,⟨⟨o3,e3⟩,db.kp k3⟩,fd'.kp (Kp.of s03),kb,kbd,(λ_=>by show 3410+3618*Es.length<=40000;omega),by show 3500+4*Es.length<=4000;omega,by show 4<=1000;decide,(λ_=>tP _),zdv,λb H4 s4 hb=>?_⟩;have:b=true:=hb.mpr λm=>by rw[c,eq]
   rw[this];exact go H4 (s03.trans s4)
def IH(K:dD):Sp:=λvs H Q _=>∃(l sp:Addr) (aa:Nat) (xs:List V) (Es:List (List Ent)) (ks:List Rat),vs=[.int aa,.ref l,.ref sp]/\aa<=3/\H l=some (.lst xs)/\Paired (RmP H aa (zR 5)) xs Es/\Es.length<=6/\SptP K H sp aa ks/\(∀E∈Es,0<=BC (pw ks) (pl E))/\
 ∀H',Same H H'->Q (.bl true) H'
structure KeI(H1:Hp)(p:Addr)(i:Nat)(ys:List V)(H':Hp):Prop where
 s:Same H1 H'
 e:H' p=some (.lst [])
 y:ys=[]
theorem SptP.b{K:dD}{H:Hp}{q:Addr}{aa:Nat}{ks:List Rat}(h:SptP K H q aa ks):SpB ks 6630 6630:=⟨λk hk=>tL (h.sz k hk).2,λk hk=>tD (tL (h.sz k hk).1) (gG _ k.den_pos)⟩
theorem UV{T B:Int}(pB:0<B)(h:0<=fv T B):¬T<0:=λz=>by
 unfold fv at h;have h1:((T:Int):Rat)<0:=by exact_mod_cast z
 have h2:(0:Rat)<((B:Int):Rat):=by exact_mod_cast pB
 have h3:=nO h (Rat.le_of_lt h2);rw[tT,nU,Rat.inv_mul_cancel _ (by grind),tS]at h3
 grind
theorem OM{T B:Int}(pB:0<B)(h:fv T B<0):T<0:=Int.not_le.mp λz=>by
 have h1:(0:Rat)<=((T:Int):Rat):=by exact_mod_cast z
 have h2:(0:Rat)<((B:Int):Rat):=by exact_mod_cast pB
 have:=nO h1 (BH h2);unfold fv at h;rw[tT]at h
 grind
theorem scKe:FnScope ["many","rims","spot"] ["many","rims","spot"] (jM IR):=⟨rfl,rfl,rfl,by decide +kernel,rfl,by decide +kernel,by decide +kernel⟩
theorem WT{fI fA:Addr}{fdI fdA:FuncData}(F:Fun K "_law_keeps" "_law_keeps" IR f fd)(T:Txt mg)(DI:Df K mg "_law_is_spot" CH ["thing","many"] fI fdI)(GI:FnOk P w K mg base CX0 3 fI fdI ["thing","many"] (KF K))(DA:Df K mg "_law_at" sAt ["one","spot"] fA fdA)(GA:FnOk P w K mg base CX0 2 fA fdA ["one","spot"] (spAt K)):FnOk P w K mg base CX0 4 f fd ["many","rims","spot"] (IH K):=by
 refine F.ok scKe (λvs H Q E h=>?_) (λcdv A outer s H vs Q E hr h=>?_)
 ·obtain⟨l,sp,aa,xs,Es,ks,rfl,_⟩:=h
  rfl
 ·obtain⟨l,sp,aa,xs,Es,ks,rfl,m3,hl,pr,l6,hS,nn,go⟩:=h;obtain⟨us,hsp,pk⟩:=hS.ex;have lk:=hS.len;have hr2:Room 2 _:=hr.mono (by decide);have hu:=hr.units;refine⟨_,jF (jU (JB (jG GI hr rfl DI.m DI.F.kp DI.b .nil jR (jA (pv 2) (jA (pv 0) jC))) (JA (xK (op_eqD hu) (GJ (own:=1) (idx:=[2]) (N:=["rim","spot"]) rfl rfl rfl (by decide +kernel) (by decide +kernel) (vW (by intro y hy;simp only[nT,mS,or_false]at hy;rcases hy with rfl;rfl)) (vC rfl) rfl (vR rfl ⟨rfl,rfl,rfl,rfl⟩) (qF (pv 1)) (λC fp s2 H2=>(jI (i:=0) (show List.Nodup (["rim","spot"]:List Str) by decide +kernel) rfl (Or.inl rfl) (Or.inr rfl))) (λC fp s2 H2=>jV zG (jN (show IxR (jK _ ["rim","spot"] _ _ C fp s2 H2) (rIxT K)from jS) (jG GA hr2 rfl DA.m DA.F.kp DA.b .nil jR (jA (pv 0) (jA (pv 1) jC))) jB (λ_ _=>rfl)) jB (jW _)) (λC fp s2 H2=>pv 0)) (qO jC) (jW _))))), ?_⟩;try dsimp only[cxK]
  have lx:xs.length=Es.length:=Paired.length pr;refine⟨_,rfl,_,rfl,sp,aa,us,ks,rfl,hsp,pk,lk,by omega,hS.sz,λH1 s1=>⟨_,rfl,NY ?_⟩⟩;refine⟨_,rfl,l,rfl,⟨xs,SqL.of (s1 _ _ hl)⟩,λp H2 n2 s2 e2=>?_⟩;refine BU (K:=K) (a:=l) (xs:=xs) (KeI H1 p) (by rw[lx,sizeLine_eq];omega) ⟨s2,e2,rfl⟩ (λi ys H3 h=>⟨SqL.of ((s1.trans h.s) _ _ hl),by rw[h.y];exact h.e,by rw[h.y];exact tQ _⟩) ?_ ?_
  ·rintro i m ys x H3 hx hm ⟨s3,e3,rfl⟩;obtain⟨Ei,hEi,d,rfl,fq⟩:=Paired.at pr hx;have s13:=s1.trans s3;refine⟨zJ, ?_⟩;refine⟨_,rfl,_,rfl,d,sp,aa,6630,6630,208,zR 5,Ei,us,ks,rfl,fq.kp (Kp.of s13),tP _,s13 _ _ hsp,Paired.to (λ_ _ h=>h.same s13) pk,lk,hS.b,by decide,fq.db.kb,by decide,by decide,λr T0 B0 H4 n4 s4 e4 pB _ _ vT=>?_⟩;have tn:¬T0<0:=UV pB (by rw[vT];exact nn Ei (gQ hEi));refine⟨r,_,_,_,rfl,rfl,SqT.of e4,rfl,_,_,rfl,rfl,_,rfl,vA (nB tn) ?_⟩;exact AN hx hm ⟨s3.trans s4,s4 _ _ e3,rfl⟩
  ·rintro ys H3 ⟨s3,e3,rfl⟩;refine⟨uV,λq H4 n4 s4 e4=>⟨.list [],.list [],.lst (s4 _ _ e3) .nil,.lst e4 .nil,⟨rfl,by decide⟩,⟨rfl,by decide⟩, ?_⟩⟩;exact go H4 (s1.trans (s3.trans s4))
theorem AI{H:Hp}{p:Addr}{aa d b:Nat}{z:Sz}{ts:List Trm}{E:List Ent}{D:Int}(h:Poly H p aa z ts)(hD:z.D<=1)(pm:(tl ts).Perm (pl E))(D0:0<D)(D1:D.natAbs<=2^d)(dn:Dn D (cf (pl E)))(hb:z.v+d<=b):NumsB aa ts b:=by
 refine nums_of h (tD (JP (XM λr hr=>?_) D0) D1) hb;obtain⟨j,hj⟩:=gO.mp hr;have jl:=(gC.mp hj).1;rw[qA]at jl;have g:=GU h hD (j:=j) (by omega);rw[uY,hj,Option.getD_some,RL pm]at g;rw[g];exact den_of (dn _)
theorem OJ{Es:List (List Ent)}{ws:List Rat}(m:List Int)(lw:ws.length=Es.length):∀n,n<=Es.length->wcf (Es.take n) (ws.take n) m=dot (List.range n) (λi=>cf (pl (Es.getD i [])) m) (λi=>ws.getD i 0)
 | 0,_=>by
  rw[List.take_zero,List.take_zero]
  rfl
 | n+1,h=>by
  have h1:n<Es.length:=by omega
  have h2:n<ws.length:=by omega
  rw[DJ m (gE h1) (gE h2),OJ m lw n (by omega),nF,yW,kF,vV,tH]
  congr 1
  rw[uY,uY,gE h1,gE h2,Rat.mul_comm]
  rfl
structure Same2(aa:Nat)(ts:List Trm)(E:List Ent):Prop where
 nm:∀j,j<=aa->(jL aa ts).getD j 0=cf (pl E) (jH aa j)
 un:∀e∈E,∃j,j<=aa/\e.ns=jH aa j
theorem KH{H H':Hp}{p d:Addr}{aa:Nat}{z z':Sz}{ts:List Trm}{E:List Ent}(h:Poly H p aa z ts)(hD:z.D<=1)(fq:FQ H' d aa z' E)(hD':z'.D<=1)(pm:(tl ts).Perm (pl E)):Same2 aa ts E:=
 ⟨λj hj=>by rw[GU h hD hj,RL pm],λe he=>by
  obtain⟨e1,e2⟩:=LT (fq.db.each e he) hD';exact⟨_,e2,e1⟩⟩
theorem Same2.un'{aa:Nat}{ts:List Trm}{E:List Ent}(h:Same2 aa ts E):∀x∈pl E,∃j,j<=aa/\x.1=jH aa j:=λx hx=>by
 unfold pl at hx;obtain⟨e,he,rfl⟩:=tF.mp hx;exact h.un e he
theorem Same2.out{aa:Nat}{ts:List Trm}{E:List Ent}(h:Same2 aa ts E){m:List Int}(hm:∀j,j<=aa->m≠jH aa j):cf (pl E) m=0:=
 zY (P:=pl E) λy hy z=>by
  obtain⟨j,hj,e⟩:=h.un' y hy;exact hm j hj (by rw[<-z];exact e)
theorem Same2.ln{aa:Nat}{ts:List Trm}{E:List Ent}(h:Same2 aa ts E){S:List Rat}(hS:S.length=aa):BC (pw S) (pl E)=lnV (jL aa ts) S:=by
 rw[FZ h.un'];unfold lnV;rw[nF,yW,hS,kF,vV,h.nm aa uU];have e1:pw S (jH aa aa)=1:=by rw[<-hS];exact IV S
 rw[e1,tS,tH]
 congr 1
 refine jX λj hj=>?_;have hj:=nJ.mp hj;rw[h.nm j (by omega)]
 congr 1
 rw[<-hS];exact PN S j (by omega)
abbrev PT(aa:Nat)(ad:List (List Trm))(Es:List (List Ent)):Prop:=Paired (Same2 aa) ad Es
theorem PQ{aa:Nat}{ad:List (List Trm)}{Es:List (List Ent)}(pt:PT aa ad Es){i:Nat}{E:List Ent}(hi:Es[i]? = some E):∃ts,ad[i]? = some ts/\Same2 aa ts E:=by
 have le:ad.length=Es.length:=Paired.length pt;have il:=(gC.mp hi).1;obtain⟨E',hE',s⟩:=Paired.at pt (gE (show i<ad.length by omega));rw[hi]at hE';cases hE';exact⟨_,gE (show i<ad.length by omega),s⟩
theorem MU{aa:Nat}{ad:List (List Trm)}{Es:List (List Ent)}{ks:List Rat}(pt:PT aa ad Es)(lk:ks.length=aa)(h:∀ts∈ad,0<=lnV (jL aa ts) ks):∀E∈Es,0<=BC (pw ks) (pl E):=λE hE=>by
 obtain⟨i,hi⟩:=gO.mp hE;obtain⟨ts,hts,s⟩:=PQ pt hi;rw[s.ln lk];exact h ts (gQ hts)
theorem tol_w{aa:Nat}{ad:List (List Trm)}{Es:List (List Ent)}{ws:List Rat}(pt:PT aa ad Es)(lw:ws.length=ad.length)(m:List Int):(∀j,j<=aa->m=jH aa j->wcf Es ws m=vI aa ad ws j)/\((∀j,j<=aa->m≠jH aa j)->wcf Es ws m=0):=by
 have le:ad.length=Es.length:=Paired.length pt;have wd:=OJ (Es:=Es) (ws:=ws) m (by omega) Es.length uU ;rw[mT,show Es.length=ws.length by omega,mT]at wd;rw[wd];refine⟨λj hj e=>?_,λhm=>?_⟩
 ·unfold vI;rw[lw];refine jX λi hi=>?_;have hi:=nJ.mp hi;obtain⟨ts,hts,s⟩:=PQ pt (gE (show i<Es.length by omega));have g1:Es.getD i []=Es[i]:=by rw[uY,gE (show i<Es.length by omega)];rfl
  have g2:ad.getD i []=ts:=by rw[uY,hts];rfl
  rw[g1,g2,s.nm j hj,e]
 ·rw[jX (a':=λ_=>0) (v':=λ_=>0) (λi hi=>?_),vG λ_ _=>rfl];have hi:=nJ.mp hi;obtain⟨ts,hts,s⟩:=PQ pt (gE (show i<Es.length by omega));have g1:Es.getD i []=Es[i]:=by rw[uY,gE (show i<Es.length by omega)];rfl
  rw[g1,s.out hm,tJ,tJ]
theorem VT{aa:Nat}{ad:List (List Trm)}(h2:∀ts∈ad,NumsB aa ts 200):St0 aa (ad.length+1) (kC aa ad):=by
 have sm:∀r∈kC aa ad,∀j∈r,j.natAbs<=2^200:=λr hr=>by
  obtain⟨i,hi,rfl⟩:=rimRows_mem.mp hr;have:ad.getD i []=ad[i]:=by rw[uY,gE hi];rfl
  rw[this];exact FY (h2 _ (mV hi))
 refine⟨⟨λr hr=>?_,λr hr j hj=>tD (sm r hr j hj) (gS (by decide) (by decide))⟩,λu hu d _ _ _=>.inl (sm u hu)⟩;obtain⟨i,_,rfl⟩:=rimRows_mem.mp hr;exact uF ..
inductive KepK(K:dD)(H0 H:Hp)(aa:Nat)(ad:List (List Trm))(p:Addr):Bool->Prop where
 | kept {q:Addr} {ks:List Rat} (e:H p=some (.tup [.str "kept",.ref q])) (sp:SptP K H q aa ks) (k1:∀ts∈ad,0<=lnV (jL aa ts) ks):KepK K H0 H aa ad p true
 | none {q:Addr} {ws:List Rat} (e:H p=some (.tup [.str "none",.ref q])) (nq:H0 q=none) (w:WtsP K H q ad.length ws) (c0:∀j,j<aa->vI aa ad ws j=0) (c1:vI aa ad ws aa = -1):KepK K H0 H aa ad p false
def VE(K:dD):Sp:=λvs H Q _=>∃(a:Addr) (xs:List V) (aa:Nat) (z:Sz) (ad:List (List Trm)),vs=[.ref a]/\RimsP H a xs aa z ad/\z.D<=1/\1<=aa/\aa<=3/\z.v+z.S<=2200/\z.n<=1000/\1<=ad.length/\ad.length<=6/\(∀ts∈ad,NumsB aa ts 200)/\
 ∀(p:Addr) (H':Hp),H p=none->Same H H'->KepK K H H' aa ad p (zI aa ad)->Q (.ref p) H'
theorem scKp:FnScope ["rims","many","found","weights"] ["rims"] (jM PD):=⟨rfl,rfl,rfl,by decide +kernel,rfl,by decide +kernel,by decide +kernel⟩
theorem ok_kept{fB fR fS fK fP:Addr}{fdB fdR fdS fdK fdP:FuncData}(F:Fun K "kept" "kept" PD f fd)(N:Ngt K mg)(DB:Df K mg "refuse_bent" KI ["some"] fB fdB)(GB:FnOk P w K mg base CX0 2 fB fdB ["some"] spRefB)(DR:Df K mg "rim_rows" wI ["rims"] fR fdR)(GR:FnOk P w K mg base CX0 6 fR fdR ["rims"] (AX K))(DS:Df K mg "stages" wS ["rows","many"] fS fdS)(GS:FnOk P w K mg base CX0 3 fS fdS ["rows","many"] spStg)(DK:Df K mg "broken" AB ["rows","many"] fK fdK)(GK:FnOk P w K mg base CX0 5 fK fdK ["rows","many"] (VF K))(DP:Df K mg "spot_of" FV ["found","many","level"] fP fdP)(GP:FnOk P w K mg base CX0 5 fP fdP ["found","many","level"] (IF K)):FnOk P w K mg base CX0 7 f fd ["rims"] (VE K):=by
 obtain⟨na,hN,hna⟩:=N;refine F.ok scKp (λvs H Q E h=>?_) (λcdv A outer s H vs Q E hr h=>?_)
 ·obtain⟨a,xs,aa,z,ad,rfl,_⟩:=h
  rfl
 ·obtain⟨a,xs,aa,z,ad,rfl,hR,zD,m1,m3,zb,zn,t1,t6,nb,go⟩:=h;have hr2:Room 2 _:=hr.mono (by decide);have hr3:Room 3 _:=hr.mono (by decide);have hr5:Room 5 _:=hr.mono (by decide);refine⟨_,jD (xJ (jG GB hr2 rfl DB.m DB.F.kp DB.b .nil jR (jA (pv 0) jC))) (jD (jP (i:=1) scKp.nd rfl (Or.inl rfl) (jN jS (jN kH (pv 0) jB (λ_ _=>rfl)) jB (λ_ _=>rfl))) (jD (jP (i:=2) scKp.nd rfl (Or.inl rfl) (jG GS hr3 rfl DS.m DS.F.kp DS.b .nil jR (jA (jG GR hr rfl DR.m DR.F.kp DR.b .nil jR (jA (pv 0) jC)) (jA (pv 1) jC)))) (jD (jP (i:=3) scKp.nd rfl (Or.inl rfl) (jG GK hr5 rfl DK.m DK.F.kp DK.b .nil jR (jA (jN kH (pv 2) (qX kZ jB) (λ_ _=>rfl)) (jA (pv 1) jC)))) (jD (kS (BD (PX (pv 3))) (jF (jU (jT (jA vX (jA (pv 3) jC))))) kD) (jF (jU (jT (jA vX (jA (jG GP hr5 rfl DP.m DP.F.kp DP.b .nil jR (jA (pv 2) (jA (pv 1) (jA (zN (v:=.ref na) (by rfl) hN rfl) jC)))) jC))))))))), ?_⟩;try dsimp only[cxK]
  have lx:xs.length=ad.length:=Paired.length hR.pr;refine⟨_,rfl,a,xs,aa,z,ad,rfl,hR,zD,by omega,zn,λH1 s1=>?_⟩;obtain⟨ts0,ht0,p0,e0,hP⟩:=Paired.at hR.pr (gE (show 0<xs.length by omega));have hx0:xs[0]? = some (.ref p0):=by rw[gE (show 0<xs.length by omega),e0]
  obtain⟨q0,o0,x0,g1,g2,_⟩:=hP.ex;refine⟨_,rfl,a,_,_,_,rfl,rfl,SqL.of (s1 _ _ hR.at'),AQ (j:=0) hx0,p0,_,_,_,rfl,rfl,SqT.of (s1 _ _ g1),rfl, ?_⟩;refine⟨_,rfl,a,xs,aa,z,ad,rfl,hR.same s1,zD,m1,by omega,zb,zn,by omega,λp2 y2 H2 n2 s2 r2=>?_⟩;have sb:=VT nb;refine⟨_,rfl,p2,aa,ad.length+1,y2,_,rfl,r2,sb,m3,by omega,by unfold kC;rw[mZ,mM];omega,λp3 H3 n3 s3 st3=>?_⟩;obtain⟨fs,f1,f2,f3⟩:=st3.ex;obtain⟨pa,x4,h4,r4⟩:=f3 aa uU ;have last:=AJ f2 h4;have sm:=yI sb aa;have smb:∀r∈kG aa (kC aa ad) aa,∀i∈r,i.natAbs<=2^3407:=λr hr' i hi=>tD (sm.bit r hr' i hi) (gS (by decide) (YA m3));have s03:=s1.trans (s2.trans s3);refine⟨_,rfl,_,rfl,p3,_,_,_,rfl,rfl,SqL.of f1,last,_,rfl,pa,aa,ad.length,x4,_,rfl,r4,sm.len,by omega,by omega,smb,λhn H4 s4=>?_,λr hr' hb q us H4 nq s4 e4 pr4=>?_⟩
  ·refine⟨_,rfl,_,rfl,vA (by rfl) ?_⟩;have kb:zI aa ad=true:=by
    unfold zI;cases e:(kG aa (kC aa ad) aa).any (brk aa)with
    | false=>rfl
    | true=>
     obtain⟨r,hr1,hr2⟩:=List.any_eq_true.mp e;rw[hn r hr1]at hr2;cases hr2
   obtain⟨B,bits⟩:=CC (CK aa ad) (by omega) sb (LL kb);refine⟨_,rfl,_,rfl,p3,.ref na,aa,kG aa (kC aa ad),0,1,rfl,st3.same s4,wE (hna _),m3,B,bits,by decide,mE,Ov.zero 1 _,λp5 y5 H5 n5 s5 e5 pr5 sz5=>?_⟩;refine⟨uX,λp6 H6 n6 s6 e6=>?_⟩;have sl:=qK aa (kG aa (kC aa ad)) 0 aa;refine go p6 H6 ((s03.trans (s4.trans s5)).free n6) (s03.trans (s4.trans (s5.trans s6))) ?_;rw[kb];exact .kept e6 ⟨⟨y5,s6 _ _ e5,Paired.to (λ_ _ h=>h.same s6) pr5⟩,by rw[mR];omega,sz5⟩ (QP kb)
  ·have kb:zI aa ad=false:=by
    unfold zI;rw[List.any_eq_true.mpr ⟨r,hr',hb⟩]
    rfl
   refine⟨_,rfl,_,rfl,xP (by rfl) ⟨_,rfl,uX,λp6 H6 n6 s6 e6=>?_⟩⟩;have ws:=QB hr' hb;have ml:=sm.len r hr';have lone:r.getD (aa+1) 0<0:=by
    unfold brk at hb;rw[Bool.and_eq_true]at hb;exact mL hb.2
   have sz:=UQ (m:=aa) (n:=ad.length) (r:=r) (b:=-(r.getD (aa+1) 0)) (by omega) (by rw[nM];exact smb r hr' _ (vO (by omega))) (smb r hr');refine go p6 H6 ((s03.trans s4).free n6) (s03.trans (s4.trans s6)) ?_;rw[kb];exact .none e6 (s03.free nq) ⟨⟨us,s6 _ _ e4,Paired.to (λ_ _ h=>h.same s6) pr4⟩,MM ..,λw hw=>⟨ws.2.2 w hw,sz w hw⟩⟩ ws.1 ws.2.1
def ovW(aa:Nat)(ad:List (List Trm))(N:List Rat):Nat:=if uJ aa ad N=0 then 0 else if uJ aa ad N=1∨(zQ aa ad N).num<0 then 1 else 2
inductive OvrK(K:dD)(H0 H:Hp)(aa:Nat)(ad:List (List Trm))(N:List Rat)(p:Addr):Nat->Prop where
 | none {q:Addr} {ws:List Rat} (e:H p=some (.tup [.str "none",.ref q])) (nq:H0 q=none) (w:WtsP K H q ad.length ws) (c0:∀j,j<aa->vI aa ad ws j=0) (c1:vI aa ad ws aa = -1):OvrK K H0 H aa ad N p 0
 | below {q:Addr} {ks:List Rat} (e:H p=some (.tup [.str "below",.ref q])) (sp:SptP K H q aa ks) (k1:∀ts∈ad,0<=lnV (jL aa ts) ks) (k2:lnV N ks<0):OvrK K H0 H aa ad N p 1
 | so {n r:Addr} {ws:List Rat} (e:H p=some (.tup [.str "so",.ref n,.ref r])) (nr:H0 r=none) (nn:At2 H n (zQ aa ad N).num (zQ aa ad N).den) (ns:SzR 3410 (zQ aa ad N)) (n0:0<=(zQ aa ad N).num) (w:WtsP K H r ad.length ws) (c0:∀j,j<aa->vI aa ad ws j=N.getD j 0) (c1:zQ aa ad N+vI aa ad ws aa=N.getD aa 0):OvrK K H0 H aa ad N p 2
def MZ(K:dD):Sp:=λvs H Q _=>∃(p a:Addr) (xs:List V) (aa:Nat) (z1 z:Sz) (ts1:List Trm) (ad:List (List Trm)),vs=[.ref p,.ref a]/\Poly H p aa z1 ts1/\RimsP H a xs aa z ad/\z1.D<=1/\z.D<=1/\1<=aa/\aa<=3/\z1.v+z1.S<=2200/\z.v+z.S<=2200/\z1.n<=1000/\z.n<=1000/\ad.length<=6/\NumsB aa ts1 650/\(∀ts∈ad,NumsB aa ts 200)/\
 ∀(r:Addr) (H':Hp),H r=none->Same H H'->OvrK K H H' aa ad (jL aa ts1) r (ovW aa ad (jL aa ts1))->Q (.ref r) H'
theorem scOv:FnScope ["one","rims","told","word","number","spot","weights"] ["one","rims"] (jM OX):=⟨rfl,rfl,rfl,by decide +kernel,rfl,by decide +kernel,by decide +kernel⟩
theorem ok_over{fL:Addr}{fdL:FuncData}(F:Fun K "over" "over" OX f fd)(DL:Df K mg "low_end" AA ["one","rims"] fL fdL)(GL:FnOk P w K mg base CX0 7 fL fdL ["one","rims"] (wH K)):FnOk P w K mg base CX0 8 f fd ["one","rims"] (MZ K):=by
 refine F.ok scOv (λvs H Q E h=>?_) (λcdv A outer s H vs Q E hr h=>?_)
 ·obtain⟨p,a,xs,aa,z1,z,ts1,ad,rfl,_⟩:=h
  rfl
 ·obtain⟨p,a,xs,aa,z1,z,ts1,ad,rfl,hP,hR,z1D,zD,m1,m3,zb1,zb,zn1,zn,t6,nb1,nb2,go⟩:=h;refine⟨_,jD (jP (i:=2) scOv.nd rfl (Or.inl rfl) (jG GL hr rfl DL.m DL.F.kp DL.b .nil jR (jA (pv 0) (jA (pv 1) jC)))) (jD (kS (jV yH (jN jS (pv 2) jB (λ_ _=>rfl)) vX (jW _)) (jF (jU (pv 2))) kD) (jD (kS (jV yH (jN jS (pv 2) jB (λ_ _=>rfl)) vX (jW _)) (jF (jU (jT (jA vX (jA (jN jS (pv 2) jB (λ_ _=>rfl)) jC))))) kD) (jD (qW (pv 2) (qI rfl (jQ (jI (i:=3) scOv.nd rfl (Or.inl rfl)) (jQ (jI (i:=4) scOv.nd rfl (Or.inl rfl)) (jQ (jI (i:=5) scOv.nd rfl (Or.inl rfl)) (jQ (jI (i:=6) scOv.nd rfl (Or.inl rfl)) kN)))))) (jD (kS (jV zG (jN jS (pv 4) jB (λ_ _=>rfl)) jB (jW _)) (jF (jU (jT (jA vX (jA (pv 5) jC))))) kD) (jF (jU (jT (jA vX (jA (pv 4) (jA (pv 6) jC)))))))))), ?_⟩;try dsimp only[cxK]
  refine⟨_,rfl,_,rfl,p,a,xs,aa,z1,z,ts1,ad,rfl,hP,hR,z1D,zD,m1,m3,zb1,zb,zn1,zn,t6,nb1,nb2,λr H1 n1 s1 lk=>?_⟩;generalize hN:jL aa ts1=N at lk go;generalize hW:uJ aa ad N=wd at lk;cases lk with
  | @none q ws e nq w c0 c1=>
   have ow:ovW aa ad N=0:=by unfold ovW;rw[dC hW]
   rw[ow]at go;refine rvT rfl (SqT.of e) rfl ⟨rfl,_,rfl,xP (by decide) ⟨_,rfl, ?_⟩⟩;exact go r H1 n1 s1 (.none e nq w c0 c1)
  | @falls q q2 ks hs e sp wy k1 k2 h1 h2=>
   have ow:ovW aa ad N=1:=by unfold ovW;rw[hW,dA (by decide),dC (.inl rfl)]
   rw[ow]at go;refine rvT rfl (SqT.of e) rfl ⟨rfl,_,rfl,vA (by decide) ?_⟩;refine rvT rfl (SqT.of e) rfl ⟨rfl,_,rfl,xP (by decide) ?_⟩;refine rvT rfl (SqT.of e) rfl ⟨uX,λp2 H2 n2 s2 e2=>?_⟩;exact go p2 H2 (s1.free n2) (s1.trans s2) (.below e2 (sp.kp (Kp.of s2)) k1 k2)
  | @least n q r2 ks ws e nr nn ns sp w k1 k2 c0 c1=>
   refine rvT rfl (SqT.of e) rfl ⟨rfl,_,rfl,vA (by decide) ?_⟩;refine rvT rfl (SqT.of e) rfl ⟨rfl,_,rfl,vA (by decide) ?_⟩;refine⟨_,rfl,r,_,rfl,SqT.of e,rfl,_,_,rfl,_,_,rfl,_,_,rfl,_,_,rfl,rfl, ?_⟩;refine rvT rfl (SqT.of nn) rfl ⟨_,_,rfl,rfl,_,rfl, ?_⟩;by_cases c:(zQ aa ad N).num<0
   ·have ow:ovW aa ad N=1:=by unfold ovW;rw[hW,dA (by decide),dC (.inr c)]
    rw[ow]at go;refine xP (nH c) ⟨_,rfl,uX,λp2 H2 n2 s2 e2=>?_⟩;refine go p2 H2 (s1.free n2) (s1.trans s2) (.below e2 (sp.kp (Kp.of s2)) k1 ?_);rw[k2];exact mL (by rw[<-CP];exact nH c)
   ·have ow:ovW aa ad N=2:=by unfold ovW;rw[hW,dA (by decide),dA (λz=>by rcases z with z | z;exact absurd z (by decide);exact c z)]
    rw[ow]at go;refine vA (nB c) ⟨_,rfl,_,rfl,(by show 3<=sizeLine;decide),λp2 H2 n2 s2 e2=>?_⟩;exact go p2 H2 (s1.free n2) (s1.trans s2) (.so e2 nr (s2 _ _ nn) ns (by omega) (w.same s2) c0 c1)
theorem QC{aa:Nat}{ad:List (List Trm)}{ws ks:List Rat}(hk:ks.length=aa)(wn:∀w∈ws,0<=w)(c0:∀j,j<aa->vI aa ad ws j=0)(c1:vI aa ad ws aa = -1)(kn:∀ts∈ad,0<=lnV (jL aa ts) ks):False:=by
 have z:∀j,(List.replicate (aa+1) (0:Rat)).getD j 0=0:=λj=>by rw[uY,List.getElem?_replicate];split<;>rfl
 have l0:lnV (List.replicate (aa+1) (0:Rat)) ks=0:=by
  unfold lnV;rw[jX (a':=λ_=>0) (v':=λ_=>0) (λj _=>by rw[z,tJ,tJ]),vG λ_ _=>rfl,z,tH]
 have e:=EU (N:=List.replicate (aa+1) (0:Rat)) (T:=1) hk (λj hj=>by rw[z];exact c0 j hj) (by rw[z,c1];grind) wn kn (by rw[l0];grind);rw[l0]at e
 grind
theorem scRe:FnScope ["one","rims"] ["one","rims"] (jM IO):=⟨rfl,rfl,rfl,by decide +kernel,rfl,by decide +kernel,by decide +kernel⟩
theorem WO{fL:Addr}{fdL:FuncData}(F:Fun K "reach" "reach" IO f fd)(DL:Df K mg "low_end" AA ["one","rims"] fL fdL)(GL:FnOk P w K mg base CX0 7 fL fdL ["one","rims"] (wH K)):FnOk P w K mg base CX0 8 f fd ["one","rims"] (wH K):=by
 refine F.ok scRe (λvs H Q E h=>?_) (λcdv A outer s H vs Q E hr h=>?_)
 ·obtain⟨p,a,xs,aa,z1,z,ts1,ad,rfl,_⟩:=h
  rfl
 ·have h0:=h;obtain⟨p,a,xs,aa,z1,z,ts1,ad,rfl,_⟩:=h0;exact⟨_,jF (jU (jG GL hr rfl DL.m DL.F.kp DL.b .nil jR (jA (pv 0) (jA (pv 1) jC)))),_,rfl,_,rfl,h⟩
def SdE(aa:Nat)(E:List Ent)(j:Nat)(s c:Rat):Prop:=∀m,cf (pl E) m=(if jH aa j=m then s else 0)+if jH aa aa=m then c else 0
theorem side_v{aa:Nat}{ts:List Trm}{E:List Ent}{j:Nat}{s c:Rat}(h:Same2 aa ts E)(e:SdE aa E j s c)(hj:j<aa){ks:List Rat}(lk:ks.length=aa):lnV (jL aa ts) ks=s*ks.getD j 0+c/\lnH (jL aa ts) ks=s*ks.getD j 0:=by
 have n1:∀i,i<aa->(jL aa ts).getD i 0=if i=j then s else 0:=λi hi=>by
  rw[h.nm i (by omega),e,dA (c:=jH aa aa=jH aa i) (λz=>by have:=xG (aa:=aa) uU (by omega) z;omega),tH];by_cases c:i=j
  ·rw[c,dC rfl,dC rfl]
  ·rw[dA c,dA λz=>c (xG (by omega) (by omega) z).symm]
 have n2:(jL aa ts).getD aa 0=c:=by
  rw[h.nm aa uU,e,dC (c:=jH aa aa=jH aa aa) rfl,dA (c:=jH aa j=jH aa aa) (λz=>by have:=xG (aa:=aa) (by omega) uU z;omega),tG]
 have d:dot (List.range aa) (λi=>(jL aa ts).getD i 0) (λi=>ks.getD i 0)=s*ks.getD j 0:=by
  rw[LV hj λi hi c=>by rw[n1 i hi,dA c],n1 j hj,dC rfl]
 unfold lnV lnH;rw[lk,d,n2];exact⟨rfl,rfl⟩
structure BoxT(aa:Nat)(ad:List (List Trm))(lo hi:Nat->Rat):Prop where
 len:ad.length=2*aa
 lw:∀j,j<aa->∀ks:List Rat,ks.length=aa->lnV (jL aa (ad.getD (2*j) [])) ks=ks.getD j 0-lo j/\lnH (jL aa (ad.getD (2*j) [])) ks=ks.getD j 0
 hw:∀j,j<aa->∀ks:List Rat,ks.length=aa->lnV (jL aa (ad.getD (2*j+1) [])) ks=hi j-ks.getD j 0/\lnH (jL aa (ad.getD (2*j+1) [])) ks = -(ks.getD j 0)
theorem BoxT.keeps{aa:Nat}{ad:List (List Trm)}{lo hi:Nat->Rat}(b:BoxT aa ad lo hi){ks:List Rat}(lk:ks.length=aa)(h:∀j,j<aa->lo j<=ks.getD j 0/\ks.getD j 0<=hi j):∀ts∈ad,0<=lnV (jL aa ts) ks:=λts ht=>by
 obtain⟨i,hi'⟩:=gO.mp ht;have il:=(gC.mp hi').1;have bl:=b.len;have g:ad.getD i []=ts:=by rw[uY,hi'];rfl
 by_cases c:i%2=0
 ·have e:i=2*(i/2):=by omega
  have:=(b.lw (i/2) (by omega) ks lk).1;rw[<-e,g]at this;have:=(h (i/2) (by omega)).1
  grind
 ·have e:i=2*(i/2)+1:=by omega
  have:=(b.hw (i/2) (by omega) ks lk).1;rw[<-e,g]at this;have:=(h (i/2) (by omega)).2
  grind
theorem BoxT.mem{aa:Nat}{ad:List (List Trm)}{lo hi:Nat->Rat}(b:BoxT aa ad lo hi){i:Nat}(hi':i<2*aa):ad.getD i []∈ad:=by
 have bl:=b.len;rw[uY,gE (by omega)];exact mV _
theorem BoxT.inside{aa:Nat}{ad:List (List Trm)}{lo hi:Nat->Rat}(b:BoxT aa ad lo hi){ks:List Rat}(lk:ks.length=aa)(h:∀ts∈ad,0<=lnV (jL aa ts) ks):∀j,j<aa->lo j<=ks.getD j 0/\ks.getD j 0<=hi j:=λj hj=>by
 have h1:=h _ (b.mem (i:=2*j) (by omega));have h2:=h _ (b.mem (i:=2*j+1) (by omega));rw[(b.lw j hj ks lk).1]at h1;rw[(b.hw j hj ks lk).1]at h2;constructor<;>grind
def crn(aa:Nat)(N:List Rat)(lo hi:Nat->Rat):List Rat:=(List.range aa).map λj=>if N.getD j 0<0 then hi j else lo j
theorem JS{aa:Nat}{N:List Rat}{lo hi:Nat->Rat}{j:Nat}(h:j<aa):(crn aa N lo hi).getD j 0=if N.getD j 0<0 then hi j else lo j:=by
 unfold crn;rw[uY,mH,gY h]
 rfl
theorem zW(aa:Nat)(N:List Rat)(lo hi:Nat->Rat):(crn aa N lo hi).length=aa:=by unfold crn;rw[mZ,mM]
theorem dot_le{I:List Nat}{a v w:Nat->Rat}(h:∀i∈I,a i*v i<=a i*w i):dot I a v<=dot I a w:=by
 induction I with
 | nil=>exact tW
 | cons i I ih=>
  rw[kF,kF];have h1:=h i (by simp);have h2:=ih λj hj=>h j (by simp [hj])
  grind
theorem UC{aa:Nat}{N:List Rat}{lo hi:Nat->Rat}{ks:List Rat}(lk:ks.length=aa)(h:∀j,j<aa->lo j<=ks.getD j 0/\ks.getD j 0<=hi j):lnV N (crn aa N lo hi)<=lnV N ks:=by
 unfold lnV;rw[zW,lk];have:dot (List.range aa) (λj=>N.getD j 0) (λj=>(crn aa N lo hi).getD j 0)<=dot (List.range aa) (λj=>N.getD j 0) (λj=>ks.getD j 0):=dot_le λj hj=>by
  have hj:=nJ.mp hj;obtain⟨h1,h2⟩:=h j hj;rw[JS hj];by_cases c:N.getD j 0<0
  ·rw[dC c];have:=nO (a:=-(N.getD j 0)) (b:=hi j-ks.getD j 0) (by grind) (by grind)
   grind
  ·rw[dA c];have:=nO (a:=N.getD j 0) (b:=ks.getD j 0-lo j) (by grind) (by grind)
   grind
 grind
theorem YW{aa:Nat}{N:List Rat}{lo hi:Nat->Rat}(le:∀j,j<aa->lo j<=hi j):∀j,j<aa->lo j<=(crn aa N lo hi).getD j 0/\(crn aa N lo hi).getD j 0<=hi j:=λj hj=>by
 rw[JS hj];have:=le j hj;split
 ·exact⟨this,tW⟩
 ·exact⟨tW,this⟩
theorem ZE{aa:Nat}{ad:List (List Trm)}{lo hi:Nat->Rat}(b:BoxT aa ad lo hi)(le:∀j,j<aa->lo j<=hi j):zI aa ad=true:=by
 cases e:zI aa ad with
 | true=>rfl
 | false=>
  have h:=e;unfold zI at h;have h:(kG aa (kC aa ad) aa).any (brk aa)=true:=by simpa using h
  obtain⟨r,hr,hb⟩:=List.any_eq_true.mp h;have nw:=QB hr hb;exact(QC (zW aa [] lo hi) nw.2.2 nw.1 nw.2.1 (b.keeps (zW ..) (YW le))).elim
theorem ZD{aa:Nat}{ad:List (List Trm)}{lo hi:Nat->Rat}(b:BoxT aa ad lo hi){j:Nat}(hj:j<aa)(lt:hi j<lo j):zI aa ad=false:=by
 cases e:zI aa ad with
 | false=>rfl
 | true=>
  have sl:=qK aa (kG aa (kC aa ad)) 0 aa;have:=b.inside (by rw[mR];omega) (QP e) j hj
  grind
theorem UJ{aa:Nat}{ad:List (List Trm)}{lo hi:Nat->Rat}{N:List Rat}(hN:N.length=aa+1)(b:BoxT aa ad lo hi)(le:∀j,j<aa->lo j<=hi j):uJ aa ad N=2/\zQ aa ad N=lnV N (crn aa N lo hi):=by
 have kc:=b.keeps (zW aa N lo hi) (YW le);have anyF:(xE aa ad N).any (brk aa)=false:=by
  cases e:(xE aa ad N).any (brk aa)with
  | false=>rfl
  | true=>
   obtain⟨r,hr,hb⟩:=List.any_eq_true.mp e;have nx:=WW hN hr hb;exact(QC (zW aa N lo hi) nx.2.2 nx.1 nx.2.1 kc).elim
 have nb:∀r∈xE aa ad N,brk aa r=false:=λr hr=>by
  cases e:brk aa r with
  | false=>rfl
  | true=>rw[List.any_eq_true.mpr ⟨r,hr,e⟩]at anyF;cases anyF
 cases hb:wF aa (xE aa ad N)with
 | none=>
  have fl:=RA hN nb hb (-1);obtain⟨h1,h2⟩:=way_x hN λr hr=>(fl r hr).1;have sl:=qK aa (kG aa (kX aa ad N)) 0 aa;have lk:((qL aa (kG aa (kX aa ad N)) 0 aa).take aa).length=aa:=by rw[mR];omega
  generalize (qL aa (kG aa (kX aa ad N)) 0 aa).take aa=hs at h1 h2 lk;have z:∀j,j<aa->hs.getD j 0=0:=λj hj=>by
   have a1:=h1 _ (b.mem (i:=2*j) (by omega));have a2:=h1 _ (b.mem (i:=2*j+1) (by omega));rw[(b.lw j hj hs lk).2]at a1;rw[(b.hw j hj hs lk).2]at a2
   grind
  have:lnH N hs=0:=by
   unfold lnH;rw[lk];exact vG λj hj=>z j (nJ.mp hj)
  rw[this]at h2;exact absurd h2 (by grind)
 | some r=>
  have lW:uJ aa ad N=2:=by unfold uJ;rw[anyF,hb];rfl
  have lN:zQ aa ad N=yZ aa r:=by unfold zQ;rw[hb]
  obtain⟨r1,r2,r3⟩:=(uO aa (xE aa ad N)).some r hb;have bw:=ZH hN r1 r2;have sx:=MY hN (LS hN nb hb);have sl:=qK aa (kG aa (kJ aa ad N)) (yZ aa r) aa;have lk:((qL aa (kG aa (kJ aa ad N)) (yZ aa r) aa).take aa).length=aa:=by rw[mR];omega
  have eq:=EU lk bw.1 bw.2.1 bw.2.2 sx.1 sx.2;refine⟨lW, ?_⟩;rw[lN];have up:=UC (N:=N) lk (b.inside lk sx.1);have dn:=ln_ws (zW aa N lo hi) bw.1 bw.2.1;have p:0<=dot (List.range ad.length) (λi=>lnV (jL aa (ad.getD i [])) (crn aa N lo hi)) (λi=>(wtL aa ad.length r (r.getD aa 0)).getD i 0):=YO (λi hi=>by
   have hi:=nJ.mp hi;rw[uY,gE hi];exact kc _ (mV hi)) λi _=>by
   rw[uY];cases c:(wtL aa ad.length r (r.getD aa 0))[i]? with
   | none=>exact tW
   | some w=>exact bw.2.2 w (gQ c)
  rw[eq]at up;have t:yZ aa r=((-(r.getD (aa+1) 0):Int):Rat)/((r.getD aa 0:Int):Rat):=rfl;rw[<-t]at dn
  grind
structure BxP(H:Hp)(v:V)(b:Rat×Rat):Prop where
 ex:∃p x y,v=.ref p/\H p=some (.tup [.ref x,.ref y])/\At2 H x b.1.num b.1.den/\At2 H y b.2.num b.2.den
 ld:b.1.den<=2^14
 ln:b.1.num.natAbs<=2^40
 hd:b.2.den<=2^28
 hn:b.2.num.natAbs<=2^42*b.2.den
 lt:b.1<=b.2
theorem BxP.kp{H H':Hp}{v:V}{b:Rat×Rat}(h:BxP H v b)(k:Kp H H'):BxP H' v b:=let ⟨p,x,y,e,e1,e2,e3⟩:=h.ex;⟨⟨p,x,y,e,k.tup _ _ e1,k.tup _ _ e2,k.tup _ _ e3⟩,h.ld,h.ln,h.hd,h.hn,h.lt⟩
def spBox:Sp:=λvs H Q _=>∃(tp:Addr) (aa:Nat) (B:Int),vs=[.ref tp,.int aa]/\aa<=3/\∃cl,Tape cl H tp B/\B<2^30/\
 ∀(l:Addr) (xs:List V) (bs:List (Rat×Rat)) (H':Hp),H l=none->But tp H H'->Tape cl H' tp (B+40)->H' l=some (.lst xs)->Paired (BxP H') xs bs->bs.length=aa->Q (.ref l) H'
inductive BoI(H:Hp)(cl tp l:Addr)(aa:Nat)(B:Int)(i:Nat):L2.St->Hp->Prop where
 | mk {H':Hp} {xs:List V} {bs:List (Rat×Rat)} {u3 u4 u5 u6:Option V} (b:But tp H H') (T:Tape cl H' tp (B+12*i)) (e:H' l=some (.lst xs)) (pr:Paired (BxP H') xs bs) (len:bs.length=i):BoI H cl tp l aa B i [some (.ref tp),some (.int aa),some (.ref l),u3,u4,u5,u6] H'
theorem abs_abs(i:Int):(if i<0 then -i else i).natAbs=i.natAbs:=by
 split
 ·exact nM _
 ·rfl
theorem fr_num{t b:Int}(h:FrS t b):(fv t b).num=t/\((fv t b).den:Int)=b/\(fv t b).den<=2^14/\t.natAbs<=2^40:=by
 obtain⟨h1,h2⟩:=EM h.pos h.low;refine⟨h1,h2, ?_,tL h.st⟩;have:=h.sb;rw[<-h2,mD]at this;omega
theorem scBx:FnScope ["tape","many","box","letter","low","wide","high"] ["tape","many"] (jM ZV):=⟨rfl,rfl,rfl,by decide +kernel,rfl,by decide +kernel,by decide +kernel⟩
theorem ok_box{fN fP fL:Addr}{fdN fdP fdL:FuncData}(F:Fun K "_law_box" "_law_box" ZV f fd)(T:Txt mg)(DN:Df K mg "_law_number" uT ["tape"] fN fdN)(GN:FnOk P w K mg base CX0 2 fN fdN ["tape"] (II 6 (2^38)))(DP:Df K mg "_law_plus" BM ["one","other"] fP fdP)(GP:FnOk P w K mg base CX0 1 fP fdP ["one","other"] spPlus)(DL:Df K mg "_law_low" KJ ["top","bottom"] fL fdL)(GL:FnOk P w K mg base CX0 1 fL fdL ["top","bottom"] spLow):FnOk P w K mg base CX0 3 f fd ["tape","many"] spBox:=by
 refine F.ok scBx (λvs H Q E h=>?_) (λcdv A outer s H vs Q E hr h=>?_)
 ·obtain⟨tp,aa,B,rfl,_⟩:=h
  rfl
 ·obtain⟨tp,aa,B,rfl,m3,cl,hT,hB,go⟩:=h;have hr1:Room 1 _:=hr.mono (by decide);refine⟨_,jD (jP (i:=2) scBx.nd rfl (Or.inl rfl) (qO jC)) (jD (qM PassesOwn.never rfl (xD (by rfl) T.rng (jA (pv 1) jC)) (jI (i:=3) scBx.nd rfl (Or.inl rfl)) (jD (jP (i:=4) scBx.nd rfl (Or.inl rfl) (jG GN hr rfl DN.m DN.F.kp DN.b .nil jR (jA (pv 0) jC))) (jD (jP (i:=5) scBx.nd rfl (Or.inl rfl) (jG GN hr rfl DN.m DN.F.kp DN.b .nil jR (jA (pv 0) jC))) (jD (jP (i:=6) scBx.nd rfl (Or.inl rfl) (jG GP hr1 rfl DP.m DP.F.kp DP.b .nil jR (jA (pv 4) (jA (jT (jA (jJ kQ (kO MI (by rfl) T.abs boot_abs (jA (jN jS (pv 5) jB (λ_ _=>rfl)) jC)) jB) (jA (jN jS (pv 5) jB (λ_ _=>rfl)) jC))) jC)))) (jF (xJ (KU PySem.F.plainAttrs_list PySem.F.slot_list_append PySem.F.type_list_append qZ (pv 2) (jA (jT (jA (pv 4) (jA (jG GL hr1 rfl DL.m DL.F.kp DL.b .nil jR (jA (jN jS (pv 6) jB (λ_ _=>rfl)) (jA (jN jS (pv 6) jB (λ_ _=>rfl)) jC))) jC))) jC)))))))) (jF (jU (pv 2)))), ?_⟩;try dsimp only[cxK]
  have p37:(2:Int)^30+300<2^37:=by decide
  refine⟨uV,λl H1 nl s1 e1=>?_⟩;have lt:=hT.off nl;refine⟨_,rfl,aa,rfl,by omega,by omega, ?_⟩;refine wU (n:=aa) (BoI H cl tp l aa B) (.mk (But.of s1) (hT.mono s1 (by omega)) e1 .nil rfl) (λi σ H2 hi h=>?_) (fun σ H2 h=>?_)
  ·obtain⟨b2,T2,e2,pr2,len2⟩:=h;rename_i xs bs u3 u4 u5 u6;refine⟨_,rfl,tp,_,rfl,cl,T2,by omega,λr t b H3 fr e3 rne T3 b3 nw3=>?_⟩;refine⟨_,rfl,tp,_,rfl,cl,T3,by omega,λr' t' b' H4 fr' e4 rne' T4 b4 nw4=>?_⟩;have k24:=(Kp.butT b3 T2).trans (Kp.butT b4 T3);have e24:=b4 _ _ (b3 _ _ e2 lt.1) lt.1;have r4:=b4 _ _ e3 rne;have q4:=SqT.of (K:=K) e4;refine⟨_,rfl,rvT rfl q4 rfl ⟨t',rfl,_,_,rfl,rfl,rvT rfl q4 rfl ⟨uX,λz5 H5 n5 s5 e5=>?_⟩⟩⟩;obtain⟨f1,f2,f3,f4⟩:=fr_num fr;have ft:=fr'.st;have fb:=fr'.sb;have fp:=fr'.pos;have ab:=abs_abs t';refine⟨r,z5,t,b,_,b',rfl,s5 _ _ r4,e5,fr.pos,fp,Nat.lt_trans fr.st (qN (by decide)),Nat.lt_trans fr.sb (qN (by decide)), ?_,Nat.lt_trans fb (qN (by decide)),λr6 t6 b6 H6 n6 s6 e6 pb6 lb6 eq6=>?_⟩
   ·refine hJ (show((if t'<0 then -t' else t')+1).natAbs<=2^41 by omega) (qN (by decide))
   have q6:=SqT.of (K:=K) e6;have lb:b6.natAbs<=2^28:=tD lb6 (by
    have:=nK (tL fr.sb) (tL fb);rw[<-tU]at this;exact this)
   have v6:=BI fr.pos fp pb6 eq6;have s46:=s5.trans s6;refine⟨_,rfl,.inl ⟨rfl,_,SqL.of (s46 _ _ e24)⟩,_,rfl,rvT rfl q6 rfl (rvT rfl q6 rfl ⟨t6,b6,rfl,by omega,.inl (hJ lb (qN (by decide))),λr7 H7 n7 s7 e7=>⟨uX,λp8 H8 n8 s8 e8=>?_⟩⟩)⟩;have s48:=s46.trans (s7.trans s8);have e28:=s48 _ _ e24;refine⟨l,_,_,rfl,rfl,e28,by rw[Paired.length pr2,len2,sizeLine_eq];omega, ?_⟩;have k9:Kp H8 (upd H8 l (.lst (xs++[.ref p8]))):=Kp.upd e28 trivial;have k29:=(k24.trans (Kp.of s48)).trans k9;have T8:=T4.mono s48 (tV _);have so:((if t'<0 then -t' else t')+1).natAbs<=2^41*b'.natAbs:=tD (show((if t'<0 then -t' else t')+1).natAbs<=2^41 by omega) (gG _ (by omega));have st:t.natAbs<=2^41*b.natAbs:=tD (tL fr.st) (tD (qH (show 40<=41 by decide)) (gG _ (by have:=fr.pos;omega)));have r6':=zE fr.pos fp eq6 st so;have ap:0<(if t'<0 then -t' else t')+1:=by split<;>omega
   have vp:(0:Rat)<(((if t'<0 then -t' else t')+1:Int):Rat)/((b':Int):Rat):=CY (by exact_mod_cast ap) (by exact_mod_cast fp);have lo7:xA t6 b6=(fv t6 b6).num/\vU t6 b6=((fv t6 b6).den:Int):=by
    have g:=CS (n:=t6) pb6;have gp:0<vU t6 b6:=by rw[(wT pb6).2];exact Int.ediv_pos_of_pos_of_dvd pb6 (by have:=LwM.qJ t6 b6 pb6;omega) (mO ..)
    obtain⟨n1,n2⟩:=EM gp g;have v:fv (xA t6 b6) (vU t6 b6)=fv t6 b6:=JF pb6;rw[v]at n1 n2;exact⟨n1.symm,n2.symm⟩
   have b6d:(fv t6 b6).den<=2^28:=by
    have:=QI (n:=t6) pb6;rw[lo7.2,mD]at this;exact tD this lb
   have b6n:(fv t6 b6).num.natAbs<=2^42*(fv t6 b6).den:=by
    by_cases z:t6=0
    ·have:fv t6 b6=0:=by unfold fv;rw[z,show((0:Int):Rat)=0 from rfl,tT,tJ]
     rw[this];exact tQ _
    ·have:=(JG pb6 z lb r6').2.2.2.2;rw[lo7.1,lo7.2,mD]at this;exact this
   refine .mk (bs:=bs++[(fv t b,fv t6 b6)]) (JU (b2.trans (b3.trans (b4.trans (But.of s48)))) nl) (T8.upd _ lt.1 lt.2 (by omega)) jE (Paired.app (Paired.to (λ_ _ h=>h.kp k29) pr2) (.cons ⟨⟨p8,r,r7,rfl,k9.tup _ _ e8, ?_, ?_⟩,f3,by rw[f1];exact f4,b6d,b6n, ?_⟩ .nil)) (by rw[hU,len2];rfl)
   ·show At2 _ r (fv t b).num ((fv t b).den:Int);rw[f1,f2];exact k9.tup _ _ (s48 _ _ r4)
   ·show At2 _ r7 (fv t6 b6).num ((fv t6 b6).den:Int);rw[<-lo7.1,<-lo7.2];exact k9.tup _ _ (s8 _ _ e7)
   ·show fv t b<=fv t6 b6;unfold fv;rw[v6]
    grind
  ·obtain⟨b2,T2,e2,pr2,len2⟩:=h;exact⟨_,rfl,go l _ _ H2 nl b2 (T2.mono (Same.refl _) (by omega)) e2 pr2 len2⟩
structure SideOk(aa:Nat)(bs:List (Rat×Rat))(i:Nat)(E:List Ent):Prop where
 sd:SdE aa E (i/2) (if i%2=0 then 1 else -1) (if i%2=0 then -(bs.getD (i/2) (0,0)).1 else(bs.getD (i/2) (0,0)).2)
 dn:∃D:Int,0<D/\D.natAbs<=2^28/\Dn D (cf (pl E))
def OR(K:dD):Sp:=λvs H Q _=>∃(bl:Addr) (aa:Nat) (xs:List V) (bs:List (Rat×Rat)),vs=[.int aa,.ref bl]/\1<=aa/\aa<=3/\H bl=some (.lst xs)/\Paired (BxP H) xs bs/\bs.length=aa/\
 ∀(l:Addr) (ys:List V) (Es:List (List Ent)) (H':Hp),H l=none->Same H H'->H' l=some (.lst ys)->Paired (RmP H' aa (zR 5)) ys Es->Es.length=2*aa->(∀i E,Es[i]? = some E->SideOk aa bs i E)->Q (.ref l) H'
structure SdS(H:Hp)(l:Addr)(aa:Nat)(bs:List (Rat×Rat))(i:Nat)(ys:List V)(Es:List (List Ent))(H':Hp):Prop where
 s:Same H H'
 e:H' l=some (.lst ys)
 pr:Paired (RmP H' aa (zR 5)) ys Es
 len:Es.length=i
 ok:∀k E,Es[k]? = some E->SideOk aa bs k E
inductive SdI(H:Hp)(bl l:Addr)(aa:Nat)(bs:List (Rat×Rat))(i:Nat):L2.St->Hp->Prop where
 | mk {H':Hp} {ys:List V} {Es:List (List Ent)} {u3 u4 u5 u6 u7 u8 u9:Option V} (h:SdS H l aa bs (2*i) ys Es H'):SdI H bl l aa bs i [some (.int aa),some (.ref bl),some (.ref l),u3,u4,u5,u6,u7,u8,u9] H'
inductive SdJ(H H1:Hp)(bl l pw':Addr)(aa j:Nat)(bs:List (Rat×Rat))(i:Nat):L2.St->Hp->Prop where
 | mk {H':Hp} {ys:List V} {Es:List (List Ent)} {u3 u4 u5 u7 u8 u9:Option V} (k:Kp H1 H') (kl:∀c zs,H1 c=some (.lst zs)->c≠l->H' c=some (.lst zs)) (h:SdS H l aa bs (2*j+i) ys Es H'):SdJ H H1 bl l pw' aa j bs i [some (.int aa),some (.ref bl),some (.ref l),u3,u4,u5,some (.ref pw'),u7,u8,u9] H'
theorem HI{a:Addr}{xs:List V}{g:TG}{tb:TS}{D:Ends}{σ:L2.St}{H:Hp}(Pv:Nat->L2.St->Hp->Prop)(h0:Pv 0 σ H)(hl:∀i σ H,i<=xs.length->Pv i σ H->SqL K H a xs)
  (hs:∀i x p σ H,xs[i]? = some x->H p=none->Pv i σ H->g (.ref p) σ (upd H p (.tup [.int i,x])) fun σ2 H2=>tb { D with nx:=Pv (i+1),ct:=Pv (i+1),bk:=D.nx } σ2 H2) (hd:∀σ H,Pv xs.length σ H->D.nx σ H) :
  ∃W:Nat->Nat->L2.St->Hp->Prop,(∃m,W 0 m σ H)/\∀i m σ H,W i m σ H->
   ((Itel K a).stop i H/\D.nx σ H)∨((Itel K a).go i H/\∃N:L2.St->Hp->Prop,(∀σ' H',N σ' H'->∃m',m'<m/\W (i+1) m' σ' H')/\∀x H',(Itel K a).yld i H x H'->g x σ H' fun σ2 H2=>tb { D with nx:=N,ct:=N,bk:=D.nx } σ2 H2):=by
 refine⟨λi m σ H=>m=xs.length-i/\i<=xs.length/\Pv i σ H,⟨xs.length,by simp,tQ _,h0⟩, ?_⟩;rintro i m σ H ⟨rfl,hi,p⟩;have q1:=hl i σ H hi p;by_cases hlt:i<xs.length
 ·refine .inr ⟨⟨xs,xs[i],q1,by simp [hlt]⟩,Pv (i+1),fun σ' H' p'=>⟨xs.length-(i+1),by omega,rfl,hlt,p'⟩,λv H' y=>?_⟩;obtain⟨r,x,hr,rfl,rfl,hx⟩:=y;exact hs i x r σ H (hx xs q1) hr p
 ·have ei:i=xs.length:=by omega
  subst ei;exact .inl ⟨⟨xs,q1,tP _⟩,hd σ H p⟩
theorem scSd:FnScope ["many","box","rims","letter","low","high","powers","sign","end","rim"] ["many","box"] (jM IN):=⟨rfl,rfl,rfl,by decide +kernel,rfl,by decide +kernel,by decide +kernel⟩
theorem WN{fP:Addr}{fdP:FuncData}(F:Fun K "_law_sides" "_law_sides" IN f fd)(T:Txt mg)(DP:Df K mg "_law_put" NE ["found","powers","number"] fP fdP)(GP:FnOk P w K mg base CX0 2 fP fdP ["found","powers","number"] spPut):FnOk P w K mg base CX0 3 f fd ["many","box"] (OR K):=by
 refine F.ok scSd (λvs H Q E h=>?_) (λcdv A outer s H vs Q E hr h=>?_)
 ·obtain⟨bl,aa,xs,bs,rfl,_⟩:=h
  rfl
 ·obtain⟨bl,aa,xs,bs,rfl,m1,m3,hb,pb,lb,go⟩:=h;have hu:=hr.units0;refine⟨_,jD (jP (i:=2) scSd.nd rfl (Or.inl rfl) (qO jC)) (jD (qM PassesOwn.never rfl (AG (by rfl) T.enum (jA (pv 1) jC)) (qI rfl (jQ (jI (i:=3) scSd.nd rfl (Or.inr rfl)) (jQ (qI rfl (jQ (jI (i:=4) scSd.nd rfl (Or.inl rfl)) (jQ (jI (i:=5) scSd.nd rfl (Or.inl rfl)) kN))) kN))) (jD (jP (i:=6) scSd.nd rfl (Or.inl rfl) (kL vZ (by rfl) T.tup boot_tuple (jA (vL (own:=1) (idx:=[3]) (N:=["k","letter"]) rfl rfl rfl (by decide +kernel) (by decide +kernel) (vW (by intro y hy;simp only[nT,mS,or_false]at hy;rcases hy with rfl;rfl)) (vC rfl) rfl (vR rfl ⟨rfl,rfl,rfl,rfl⟩) (xD (by rfl) T.rng (jA (pv 0) jC)) (λC fp s2 H2=>(jI (i:=0) (show List.Nodup (["k","letter"]:List Str) by decide +kernel) rfl (Or.inl rfl) (Or.inr rfl))) (λC fp s2 H2=>kL wX (by rfl) T.int boot_int (jA (xK yH (pv 0) (pv 1) (jW _)) jC))) jC))) (jF (qM PassesOwn.never rfl (qF (qO (jA (jT (jA jB (jA (pv 4) jC))) (jA (jT (jA (qX kZ jB) (jA (pv 5) jC))) jC)))) (qI rfl (jQ (jI (i:=7) scSd.nd rfl (Or.inl rfl)) (jQ (jI (i:=8) scSd.nd rfl (Or.inl rfl)) kN))) (jD (jP (i:=9) scSd.nd rfl (Or.inl rfl) (LwD.EI hu (pv 6) (jT (jA (pv 7) (jA jB jC))))) (jD (xJ (jG GP hr rfl DP.m DP.F.kp DP.b .nil jR (jA (pv 9) (jA (jJ LwD.zP (jT (jA jB jC)) (pv 0)) (jA (jT (jA (jJ zO jB (jJ qC (pv 7) (jN jS (pv 8) jB (λ_ _=>rfl)))) (jA (jN jS (pv 8) jB (λ_ _=>rfl)) jC))) jC))))) (jF (xJ (KU PySem.F.plainAttrs_list PySem.F.slot_list_append PySem.F.type_list_append qZ (pv 2) (jA (LwD.wL (pv 9)) jC)))))))))) (jF (jU (pv 2)))), ?_⟩
  try dsimp only[cxK]
  have lx:xs.length=bs.length:=Paired.length pb;refine⟨uV,λl H1 nl s1 e1=>?_⟩;refine⟨_,rfl,bl,rfl,⟨_,SqL.of (s1 _ _ hb)⟩, ?_⟩;refine HI (K:=K) (a:=bl) (xs:=xs) (SdI H bl l aa bs) (.mk ⟨s1,e1,.nil,rfl,λk E h=>by simp at h⟩) (λi σ H2 _ h=>?_) (λi x p σ H2 hx hp h=>?_) (fun σ H2 h=>?_)
  ·obtain⟨h2⟩:=h;exact SqL.of (h2.s _ _ hb)
  ·obtain⟨h2⟩:=h;rename_i ys Es u3 u4 u5 u6 u7 u8 u9;obtain⟨b,hb',bx⟩:=Paired.at pb hx;obtain⟨q,y1,y2,rfl,q1,q2,q3⟩:=bx.ex;have hi:i<aa:=by have:=(gC.mp hx).1;omega
   have s3:Same H2 (upd H2 p (.tup [.int i,.ref q])):=jY _ hp;have e3:(upd H2 p (.tup [.int i,.ref q])) p=some (.tup [.int i,.ref q]):=jE;generalize upd H2 p (.tup [.int i,.ref q])=H3 at s3 e3;have s03:=h2.s.trans s3;refine⟨p,_,rfl,SqT.of e3,rfl,_,_,rfl,_,_,rfl,q,_,rfl,SqT.of (s03 _ _ q1),rfl,_,_,rfl,_,_,rfl,rfl,rfl, ?_⟩;have bx3:=bx.kp (Kp.of s03);have h3:SdS H l aa bs (2*i+0) ys Es H3:=⟨s03,s3 _ _ h2.e,Paired.to (λ_ _ q=>q.kp (Kp.of s3)) h2.pr,h2.len,h2.ok⟩;have q23:=s03 _ _ q2;have q33:=s03 _ _ q3;refine⟨_,rfl,aa,rfl,by omega,by omega,λc4 H4 n4 s4 e4=>?_⟩;refine yY (n:=aa) (CmI (λk=>((jH aa i).take k).map V.int) c4 H3) (by rw[sizeLine_eq];omega) ⟨s4,e4,rfl⟩ (λ_ _ _ h=>h.e) ?_ ?_
   ·rintro k m' zs x H5 hx5 hm hy ⟨s5,e5,ey⟩;obtain⟨_,hk⟩:=uN hx5;refine⟨zJ,_,rfl,_,rfl,rfl,.inr ⟨_,rfl, ?_⟩⟩;refine qB hx5 hm hy e5 ⟨jZ s5 n4,jE, ?_⟩;rw[AR hk,nA,ey,qG];by_cases c:k=i
    ·rw[dC c,dC (by rw[c];simp)];rfl
    ·rw[dA c,dA (by simp;omega)];rfl
   ·rintro zs H5 hy ⟨s5,e5,ey⟩;rw[gJ (by rw[qE];exact tP _)]at ey;refine⟨c4,_,rfl,.inl ⟨SqL.of e5,λpa na=>?_⟩⟩;rw[ey];have s6:Same H5 (upd H5 pa (.tup ((jH aa i).map V.int))):=jY _ na;have e6:(upd H5 pa (.tup ((jH aa i).map V.int))) pa=some (.tup ((jH aa i).map V.int)):=jE;generalize upd H5 pa (.tup ((jH aa i).map V.int))=H6 at s6 e6;refine⟨_,rfl,uX,λt1 H7 n7 s7 e7=>⟨_,rfl,_,rfl,uX,λt2 H8 n8 s8 e8=>⟨uX,λpl' H9 n9 s9 e9=>?_⟩⟩⟩;have s39:=s5.trans (s6.trans (s7.trans (s8.trans s9)));have h9:SdS H l aa bs (2*i+0) ys Es H9:=⟨h3.s.trans s39,s39 _ _ h3.e,Paired.to (λ_ _ q=>q.kp (Kp.of s39)) h3.pr,h3.len,h3.ok⟩;have pl_l:pl'≠l:=λz=>by rw[z,(s5.trans (s6.trans (s7.trans s8))) _ _ h3.e]at n9;cases n9
    have a9:=(s7.trans (s8.trans s9)) _ _ e6;have t19:=(s8.trans s9) _ _ e7;have t29:=s9 _ _ e8;have y19:=s39 _ _ q23;have y29:=s39 _ _ q33;refine⟨pl',rfl,⟨_,SqL.of e9⟩, ?_⟩;refine xX (K:=K) (a:=pl') (xs:=[.ref t1,.ref t2]) (SdJ H H9 bl l pa aa i bs) (.mk (Kp.of (Same.refl _)) (λ_ _ h _=>h) h9) (λi2 σ H10 _ h=>?_) (λi2 x σ H10 hx2 h=>?_) (fun σ H10 h=>?_)
    ·obtain⟨_,kl,_⟩:=h;exact SqL.of (kl _ _ e9 pl_l)
    ·obtain⟨k10,kl,h10⟩:=h;rename_i ys2 Es2 w3 w4 w5 w7 w8 w9;obtain⟨tt,sg,ye,ev,rfl,g1,g2,g3,g4,g5,g6,g7⟩:∃(tt:Addr) (sg:Int) (ye:Addr) (ev:Rat),x=.ref tt/\H10 tt=some (.tup [.int sg,.ref ye])/\At2 H10 ye ev.num ev.den/\sg.natAbs=1/\ev.den<=2^28/\ev.num.natAbs<=2^42*ev.den/\((sg:Int):Rat)=(if (2*i+i2)%2=0 then 1 else -1)/\-(((sg:Int):Rat)*ev)=(if (2*i+i2)%2=0 then -(bs.getD ((2*i+i2)/2) (0,0)).1 else(bs.getD ((2*i+i2)/2) (0,0)).2):=by
      have gb:bs.getD i (0,0)=b:=by rw[uY,hb'];rfl
      have o1:((1:Int):Rat)=1:=rfl;have o2:((-1:Int):Rat) = -1:=rfl
      match i2,hx2 with
      | 0,hx2=>
       cases hx2;refine⟨t1,1,y1,b.1,rfl,k10.tup _ _ t19,k10.tup _ _ y19,rfl,tD bx.ld (qH (by decide)),tD bx.ln (tD (qH (show 40<=42 by decide)) (gG _ b.1.den_pos)),by rw[dC (by omega)];rfl, ?_⟩;rw[dC (by omega),show(2*i+0)/2=i by omega,gb,o1,Rat.one_mul]
      | 1,hx2=>
       cases hx2;refine⟨t2,-1,y2,b.2,rfl,k10.tup _ _ t29,k10.tup _ _ y29,rfl,bx.hd,bx.hn,by rw[dA (by omega)];rfl, ?_⟩;rw[dA (by omega),show(2*i+1)/2=i by omega,gb,o2]
       grind
      | n+2,hx2=>simp at hx2
     have i2':(2*i+i2)/2=i/\i2<2:=by
      have:i2<2:=(gC.mp hx2).1;exact⟨by omega,this⟩
     refine⟨tt,_,rfl,SqT.of g1,rfl,_,_,rfl,_,_,rfl,rfl, ?_⟩;intro dd ndd;have sd:Same H10 (upd H10 dd (.dT [])):=jY _ ndd;have ed:(upd H10 dd (.dT [])) dd=some (.dT []):=jE;generalize upd H10 dd (.dT [])=H11 at sd ed;refine⟨_,rfl,_,rfl,uX,λz12 H12 n12 s12 e12=>?_⟩;have a12:=(sd.trans s12) _ _ (k10.tup _ _ a9);have ed12:=s12 _ _ ed;refine⟨ed12,pa,LwD.ik (jH aa i),rfl,by rw[LwD.xB];exact a12, ?_⟩;have s13:Same H10 (upd H12 dd (.dT [(LwD.ik (jH aa i),.ref z12)])):=jZ (sd.trans s12) ndd;have k13:Kp H12 (upd H12 dd (.dT [(LwD.ik (jH aa i),.ref z12)])):=Kp.upd ed12 trivial;have e13:(upd H12 dd (.dT [(LwD.ik (jH aa i),.ref z12)])) dd=some (.dT (([⟨jH aa i,z12,sg,1,1⟩]:List Ent).map Ent.kv)):=jE;have z13:=k13.tup _ _ e12;generalize upd H12 dd (.dT [(LwD.ik (jH aa i),.ref z12)])=H13 at s13 k13 e13 z13;have us:=xV aa i;have us0:=xV aa aa;have db13:DB H13 aa ⟨1,42,1,1⟩ [⟨jH aa i,z12,sg,1,1⟩]:=⟨by simp,λx hx=>by
      rw[mC]at hx;subst hx;refine⟨qE ..,us.2,us.1,z13,by show(0:Int)<1;decide,by show sg≠0;omega,by show(1:Nat)<=2^1;decide, ?_⟩;show sg.natAbs<=2^42*1;rw[g3]
      decide,tP _,tP _⟩
     dsimp only[kT];refine⟨_,rfl,uW,λz14 H14 n14 s14 e14=>⟨_,rfl,z14,aa,_,rfl,rfl,e14,m1,by omega,λzb H15 s15 e15=>?_⟩⟩;have hz:List.replicate aa (V.int 0)=(jH aa aa).map V.int:=by rw[zB];simp
     rw[hz]at e15;have s1315:=s14.trans s15;have y15:=(s13.trans s1315) _ _ g2;have qy:=SqT.of (K:=K) y15;have bn:ev.num.natAbs<2^100000:=hJ (tD g5 (gZ _ g4)) (by rw[<-tU];exact qN (by decide));refine⟨_,rfl,rvT rfl qy rfl ⟨_,_,rfl,rfl,⟨by rw[g3];exact Nat.one_lt_two_pow (by decide),bn⟩,_,_,rfl,rfl,rvT rfl qy rfl ⟨uX,λz16 H16 n16 s16 e16=>?_⟩⟩⟩;have s1316:=s1315.trans s16;have dp:=ev.den_pos;refine⟨dd,zb,z16,jH aa aa,0-sg*ev.num,ev.den,aa,28,⟨1,42,1,1⟩,_,λ_=>1,rfl,s1316 _ _ e13,db13.kp (Kp.of s1316),db13.kb,by show 1<=40000;decide,by decide,by decide,by decide,s16 _ _ e15,qE ..,us0.2,us0.1,e16,by omega,by rw[mD];exact g4, ?_,λE' H17 b17 e17 db17 _ c17=>?_⟩
     ·rw[Int.zero_sub,nM,nI,g3,Nat.one_mul,mD];exact g5
     have s17:Same H10 H17:=λc o h=>b17 _ _ ((s13.trans s1316) _ _ h) (kM h ndd);have l17:=s17 _ _ h10.e;refine⟨_,rfl,.inl ⟨rfl,_,SqL.of l17⟩,_,rfl,dd,_,rfl,e17,λo=>?_⟩;have k18:Kp H17 (upd H17 dd (.frz o (.dT (E'.map Ent.kv)))):=Kp.upd e17 trivial;have e18:(upd H17 dd (.frz o (.dT (E'.map Ent.kv)))) dd=some (.frz o (.dT (E'.map Ent.kv))):=jE;have s18:Same H10 (upd H17 dd (.frz o (.dT (E'.map Ent.kv)))):=jZ s17 ndd;generalize upd H17 dd (.frz o (.dT (E'.map Ent.kv)))=H18 at k18 e18 s18;have l18:=s18 _ _ h10.e;refine⟨l,_,_,rfl,rfl,l18,by rw[Paired.length h10.pr,h10.len,sizeLine_eq];omega, ?_⟩;have k19:Kp H18 (upd H18 l (.lst (ys2++[.ref dd]))):=Kp.upd l18 trivial;have kk:=(Kp.of s18).trans k19;have v1:fv (0-sg*ev.num) (ev.den:Int) = -(((sg:Int):Rat)*ev):=by
      have h1:=qQ ev;unfold fv at h1 ⊢;have d0:((ev.den:Int):Rat)≠0:=cne (by omega);rw[Int.zero_sub,nG,nE];generalize ((ev.den:Int):Rat)=D at *;generalize ((ev.num:Int):Rat)=N at *;rw[<-h1]
      grind
     have so:SideOk aa bs (2*i+i2) E':=by
      refine⟨λm=>?_,(ev.den:Int),by omega,by rw[mD];exact g4, ?_⟩
      ·rw[c17,<-g6,<-g7,<-v1,i2'.1];show(if jH aa i=m then((sg:Int):Rat)/((1:Int):Rat)else 0)+0+_=_;rw[show((1:Int):Rat)=1 from rfl,tH];have:((sg:Int):Rat)/1=((sg:Int):Rat):=by grind
       rw[this]
       rfl
      ·refine Dn.add (f:=λm=>(if jH aa i=m then((sg:Int):Rat)/((1:Int):Rat)else 0)+0) (λm=>?_) (λm=>?_) c17
       ·show ∃z:Int,_*((if jH aa i=m then((sg:Int):Rat)/((1:Int):Rat)else 0)+0)=_;rw[show((1:Int):Rat)=1 from rfl];by_cases c:jH aa i=m
        ·exact⟨(ev.den:Int)*sg,by rw[dC c,nE];grind⟩
        ·exact⟨0,by rw[dA c,tH,tI];rfl⟩
       ·by_cases c:jH aa aa=m
        ·refine⟨0-sg*ev.num, ?_⟩;have d0:((ev.den:Int):Rat)≠0:=cne (by omega);rw[dC c];generalize ((ev.den:Int):Rat)=D at *
         grind
        ·exact⟨0,by rw[dA c,tI];rfl⟩
     refine .mk (k10.trans kk) (λc zs' h n=>?_) ⟨jZ (h10.s.trans s18) nl,jE,Paired.app (Paired.to (λ_ _ q=>q.kp kk) h10.pr) (.cons ⟨dd,rfl,⟨o,k19.frz _ _ _ e18⟩,((db17.kp k18).kp k19).up uU (by decide) (by decide) (by decide)⟩ .nil),by rw[hU,h10.len];rfl,λk E hk=>?_⟩
     ·rw[jO n];exact s18 _ _ (kl c zs' h n)
     ·by_cases c:k<Es2.length
      ·rw[gD c]at hk;exact h10.ok k E hk
      ·rw[uZ (by omega)]at hk;obtain rfl:k=Es2.length:=by
        have:=(gC.mp hk).1;rw[gP]at this;omega
       rw[tM]at hk;cases hk;rw[h10.len];exact so
    ·obtain⟨_,_,h10⟩:=h;exact .mk h10
  ·obtain⟨h2⟩:=h;rename_i ys Es u3 u4 u5 u6 u7 u8 u9;exact⟨_,rfl,go l ys Es H2 nl h2.s h2.e h2.pr (by rw[h2.len];omega) h2.ok⟩
theorem cf_at{E:List Ent}(nd:(E.map Ent.ns).Nodup){e:Ent}(he:e∈E):cf (pl E) e.ns=fv e.t e.b:=by
 obtain⟨L,R,rfl⟩:=List.append_of_mem he;rw[nA,nQ,mN]at nd;have nL:∀y∈pl L,y.1≠e.ns:=λy hy z=>by
  unfold pl at hy;obtain⟨y',hy',rfl⟩:=tF.mp hy;exact nd.2.2 _ (List.mem_map_of_mem hy') _ (mF ..) z
 have nR:∀y∈pl R,y.1≠e.ns:=λy hy z=>by
  unfold pl at hy;obtain⟨y',hy',rfl⟩:=tF.mp hy;exact(List.nodup_cons.mp nd.2.1).1 (tF.mpr ⟨y',hy',z⟩)
 unfold pl;rw[nA,nQ,zZ,xT];have a1:cf (L.map Ent.pr) e.ns=0:=zY (P:=pl L) nL;have a2:cf (R.map Ent.pr) e.ns=0:=zY (P:=pl R) nR;rw[a1,a2];show 0+((if e.ns=e.ns then fv e.t e.b else 0)+0)=_;rw[dC rfl];rw[tH,tG]
structure GotV(H:Hp)(v:V)(x:Rat)(S vv:Nat):Prop where
 ex:∃a t b,v=.ref a/\At2 H a t b/\0<b/\b.natAbs<=2^S/\t.natAbs<=2^vv*b.natAbs/\fv t b=x
theorem YF{H:Hp}{d b z0:Addr}{aa:Nat}{z:Sz}{E:List Ent}{ns:List Int}(h:FQ H d aa z E)(hb:H b=some (.tup (ns.map V.int)))(h0:At2 H z0 0 1):∃o,DGet H d (.ref b) o/\GotV H (o.getD (.ref z0)) (cf (pl E) ns) z.S z.v:=by
 refine⟨xU (E.map Ent.kv) (LwD.ik ns),.inr ⟨_,LwD.ik ns,b,h.rd,rfl,by rw[LwD.xB];exact hb,rfl⟩, ?_⟩;by_cases hin:ns∈E.map Ent.ns
 ·obtain⟨e,he,en⟩:=tF.mp hin;obtain⟨L,R,eE⟩:=List.append_of_mem he;have nd:=h.db.nd;have eo:=h.db.each e he;have ek:=h.db.k he;rw[<-en,cf_at nd he];rw[eE,nA,nQ,mN]at nd;have nL:ns∉L.map Ent.ns:=λy=>nd.2.2 _ y _ (mF ..) en.symm;have km:E.map Ent.kv=L.map Ent.kv++(LwD.ik ns,V.ref e.c)::R.map Ent.kv:=by
   rw[eE,nA,nQ,<-en]
   rfl
  rw[en,km,HY (xO nL)];exact⟨e.c,e.t,e.b,rfl,eo.at',eo.pos,tD eo.sb (gS (by decide) ek),eo.st,rfl⟩
 ·rw[HX (xO hin),zY (P:=pl E) λy hy e=>hin (by
   unfold pl at hy;obtain⟨y',hy',rfl⟩:=tF.mp hy;exact tF.mpr ⟨y',hy',e⟩)]
  exact⟨z0,0,1,rfl,h0,by decide,mE,tQ _,QW⟩
def crS(x:Nat->Rat)(bs:List (Rat×Rat))(i:Nat):Rat:=dot (List.range i) x λj=>if x j<0 then(bs.getD j (0,0)).2 else(bs.getD j (0,0)).1
def KG(K:dD):Sp:=λvs H Q _=>∃(bl d:Addr) (aa:Nat) (xs:List V) (bs:List (Rat×Rat)) (E:List Ent),vs=[.int aa,.ref bl,.ref d]/\1<=aa/\aa<=3/\H bl=some (.lst xs)/\Paired (BxP H) xs bs/\bs.length=aa/\FQ H d aa ⟨1,40,56,4⟩ E/\
 ∀(r:Addr) (D:Rat) (H':Hp),Same H H'->At2 H' r D.num D.den->D=cf (pl E) (jH aa aa)+crS (λj=>cf (pl E) (jH aa j)) bs aa->D.den<=2^308->D.num.natAbs<=2^88*D.den->Q (.ref r) H'
inductive CoI(H:Hp)(bl d:Addr)(aa:Nat)(bs:List (Rat×Rat))(E:List Ent)(i:Nat):L2.St->Hp->Prop where
 | mk {H':Hp} {tr:Addr} {t b:Int} {u4 u5 u6 u7 u8:Option V} (s:Same H H') (a:At2 H' tr t b) (pb:0<b) (sb:b.natAbs<=2^(56+84*i)) (st:t.natAbs<=2^(84+i)*b.natAbs) (v:fv t b=cf (pl E) (jH aa aa)+crS (λj=>cf (pl E) (jH aa j)) bs i):CoI H bl d aa bs E i [some (.int aa),some (.ref bl),some (.ref d),some (.ref tr),u4,u5,u6,u7,u8] H'
theorem YX(x:Nat->Rat)(bs:List (Rat×Rat))(i:Nat):crS x bs (i+1)=crS x bs i+x i*(if x i<0 then(bs.getD i (0,0)).2 else(bs.getD i (0,0)).1):=by
 unfold crS;rw[nF,yW,kF,vV,tH]
theorem fv_lt{t b:Int}(hb:0<b):(fv t b<0)=(t<0):=by
 refine propext ⟨OM hb,λh=>?_⟩;refine gA λn=>UV hb (by grind) h
theorem scCo:FnScope ["many","box","one","total","letter","low","high","powers","factor"] ["many","box","one"] (jM CJ):=⟨rfl,rfl,rfl,by decide +kernel,rfl,by decide +kernel,by decide +kernel⟩
theorem TF{fP fM fL:Addr}{fdP fdM fdL:FuncData}(F:Fun K "_law_corner_least" "_law_corner_least" CJ f fd)(T:Txt mg)(DP:Df K mg "_law_plus" BM ["one","other"] fP fdP)(GP:FnOk P w K mg base CX0 1 fP fdP ["one","other"] spPlus)(DM:Df K mg "_law_mul" FW ["one","other"] fM fdM)(GM:FnOk P w K mg base CX0 1 fM fdM ["one","other"] (IG K))(DL:Df K mg "_law_low" KJ ["top","bottom"] fL fdL)(GL:FnOk P w K mg base CX0 1 fL fdL ["top","bottom"] spLow):FnOk P w K mg base CX0 2 f fd ["many","box","one"] (KG K):=by
 refine F.ok scCo (λvs H Q E h=>?_) (λcdv A outer s H vs Q E hr h=>?_)
 ·obtain⟨bl,d,aa,xs,bs,E',rfl,_⟩:=h
  rfl
 ·obtain⟨bl,d,aa,xs,bs,EE,rfl,m1,m3,hb,pb,lb,fq,go⟩:=h;have hu:_+1<cLine:=hJ (Nat.add_le_add_left (by decide:1<=64) _) hr.units;refine⟨_,jD (jP (i:=3) scCo.nd rfl (Or.inl rfl) (EJ hu (pv 2) (jJ LwD.zP (jT (jA jB jC)) (pv 0)) (jT (jA jB (jA jB jC))) ⟨rfl,rfl,rfl,rfl⟩)) (jD (qM PassesOwn.never rfl (AG (by rfl) T.enum (jA (pv 1) jC)) (qI rfl (jQ (jI (i:=4) scCo.nd rfl (Or.inr rfl)) (jQ (qI rfl (jQ (jI (i:=5) scCo.nd rfl (Or.inl rfl)) (jQ (jI (i:=6) scCo.nd rfl (Or.inl rfl)) kN))) kN))) (jD (jP (i:=7) scCo.nd rfl (Or.inl rfl) (kL vZ (by rfl) T.tup boot_tuple (jA (vL (own:=1) (idx:=[4]) (N:=["k","letter"]) rfl rfl rfl (by decide +kernel) (by decide +kernel) (vW (by intro y hy;simp only[nT,mS,or_false]at hy;rcases hy with rfl;rfl)) (vC rfl) rfl (vR rfl ⟨rfl,rfl,rfl,rfl⟩) (xD (by rfl) T.rng (jA (pv 0) jC)) (λC fp s2 H2=>(jI (i:=0) (show List.Nodup (["k","letter"]:List Str) by decide +kernel) rfl (Or.inl rfl) (Or.inr rfl))) (λC fp s2 H2=>kL wX (by rfl) T.int boot_int (jA (xK yH (pv 0) (pv 1) (jW _)) jC))) jC))) (jD (jP (i:=8) scCo.nd rfl (Or.inl rfl) (EJ hu (pv 2) (pv 7) (jT (jA jB (jA jB jC))) ⟨rfl,rfl,rfl,rfl⟩)) (jF (jP (i:=3) scCo.nd rfl (Or.inl rfl) (jG GP hr rfl DP.m DP.F.kp DP.b .nil jR (jA (pv 3) (jA (jG GM hr rfl DM.m DM.F.kp DM.b .nil jR (jA (pv 8) (jA (jN kH (qO (jA (pv 5) (jA (pv 6) jC))) (kL wX (by rfl) T.int boot_int (jA (xK zG (jN jS (pv 8) jB (λ_ _=>rfl)) jB (jW _)) jC)) (λ_ _=>rfl)) jC))) jC)))))))) (jF (jU (jG GL hr rfl DL.m DL.F.kp DL.b .nil jR (jA (jN jS (pv 3) jB (λ_ _=>rfl)) (jA (jN jS (pv 3) jB (λ_ _=>rfl)) jC)))))), ?_⟩
  try dsimp only[cxK]
  have lx:xs.length=bs.length:=Paired.length pb;refine⟨_,rfl,d,rfl,.inr ⟨_,fq.rd⟩,uW,λz1 H1 n1 s1 e1=>⟨_,rfl,z1,aa,_,rfl,rfl,e1,m1,by omega,λzb H2 s2 e2=>⟨uX,λz3 H3 n3 s3 e3=>?_⟩⟩⟩;have hz:List.replicate aa (V.int 0)=(jH aa aa).map V.int:=by rw[zB];simp
  rw[hz]at e2;have s03:=s1.trans (s2.trans s3);obtain⟨o3,g3,⟨ta,tt,tb,et,at3,pt3,sb3,st3,v3⟩⟩:=YF (fq.kp (Kp.of s03)) (s3 _ _ e2) e3;refine⟨o3,g3, ?_⟩;rw[et];dsimp only[kT];refine⟨_,rfl,bl,rfl,⟨_,SqL.of (s03 _ _ hb)⟩, ?_⟩;refine HI (K:=K) (a:=bl) (xs:=xs) (CoI H bl d aa bs EE) (.mk s03 at3 pt3 sb3 (tD st3 (gU _ (qH (by decide)))) (by rw[v3];show _=_+0;rw[tH])) (λi σ H4 _ h=>?_) (λi x p σ H4 hx hp h=>?_) (fun σ H4 h=>?_)
  ·obtain⟨s4,_⟩:=h;exact SqL.of (s4 _ _ hb)
  ·obtain⟨s4,a4,pb4,sb4,st4,v4⟩:=h;rename_i tr t0 b0 u4 u5 u6 u7 u8;obtain⟨b,hb',bx⟩:=Paired.at pb hx;obtain⟨q,y1,y2,rfl,q1,q2,q3⟩:=bx.ex;have hi:i<aa:=by have:=(gC.mp hx).1;omega
   have gb:bs.getD i (0,0)=b:=by rw[uY,hb'];rfl
   have s5:Same H4 (upd H4 p (.tup [.int i,.ref q])):=jY _ hp;have e5:(upd H4 p (.tup [.int i,.ref q])) p=some (.tup [.int i,.ref q]):=jE;generalize upd H4 p (.tup [.int i,.ref q])=H5 at s5 e5;have s05:=s4.trans s5;refine⟨p,_,rfl,SqT.of e5,rfl,_,_,rfl,_,_,rfl,q,_,rfl,SqT.of (s05 _ _ q1),rfl,_,_,rfl,_,_,rfl,rfl,rfl, ?_⟩;refine⟨_,rfl,aa,rfl,by omega,by omega,λc6 H6 n6 s6 e6=>?_⟩;refine yY (n:=aa) (CmI (λk=>((jH aa i).take k).map V.int) c6 H5) (by rw[sizeLine_eq];omega) ⟨s6,e6,rfl⟩ (λ_ _ _ h=>h.e) ?_ ?_
   ·rintro k m' zs x H7 hx7 hm hy ⟨s7,e7,ey⟩;obtain⟨_,hk⟩:=uN hx7;refine⟨zJ,_,rfl,_,rfl,rfl,.inr ⟨_,rfl, ?_⟩⟩;refine qB hx7 hm hy e7 ⟨jZ s7 n6,jE, ?_⟩;rw[AR hk,nA,ey,qG];by_cases c:k=i
    ·rw[dC c,dC (by rw[c];simp)];rfl
    ·rw[dA c,dA (by simp;omega)];rfl
   ·rintro zs H7 hy ⟨s7,e7,ey⟩;rw[gJ (by rw[qE];exact tP _)]at ey;refine⟨c6,_,rfl,.inl ⟨SqL.of e7,λpa na=>?_⟩⟩;rw[ey];have s8:Same H7 (upd H7 pa (.tup ((jH aa i).map V.int))):=jY _ na;have e8:(upd H7 pa (.tup ((jH aa i).map V.int))) pa=some (.tup ((jH aa i).map V.int)):=jE;generalize upd H7 pa (.tup ((jH aa i).map V.int))=H8 at s8 e8;have s08:=s05.trans (s7.trans s8);refine⟨_,rfl,d,rfl,.inr ⟨_,(fq.kp (Kp.of s08)).rd⟩,_,rfl,uX,λz9 H9 n9 s9 e9=>?_⟩;have s09:=s08.trans s9;obtain⟨o9,g9,⟨fa,ft,fb,ef,atf,pf,sbf,stf,vf⟩⟩:=YF (fq.kp (Kp.of s09)) (s9 _ _ e8) e9;refine⟨o9,g9, ?_⟩;rw[ef];dsimp only[kT];have qf:=SqT.of (K:=K) atf;refine⟨_,rfl,_,rfl,_,rfl,_,rfl,uX,λl10 H10 n10 s10 e10=>?_⟩;refine rvT rfl (kI s10 qf) rfl ⟨_,_,rfl,rfl,.inr ⟨_,rfl, ?_⟩⟩;have s010:=s09.trans s10;obtain⟨ye,ev,hye,hev,hat,hd28,hn42⟩:∃(ye:Addr) (ev:Rat),atI [V.ref y1,.ref y2] (if decide (ft<0)=true then 1 else 0)=some (.ref ye)/\ev=(if cf (pl EE) (jH aa i)<0 then(bs.getD i (0,0)).2 else(bs.getD i (0,0)).1)/\At2 H10 ye ev.num ev.den/\ev.den<=2^28/\ev.num.natAbs<=2^42*ev.den:=by
     rw[gb,<-vf];by_cases c:ft<0
     ·exact⟨y2,b.2,by rw[nH c];rfl,by rw[dC ((fv_lt pf).mpr c)],s010 _ _ q3,bx.hd,bx.hn⟩
     ·exact⟨y1,b.1,by rw[nB c];rfl,by rw[dA λz=>c ((fv_lt pf).mp z)],s010 _ _ q2,tD bx.ld (qH (by decide)),tD bx.ln (tD (qH (show 40<=42 by decide)) (gG _ b.1.den_pos))⟩
    have dp:=ev.den_pos;have sbf':fb.natAbs<=2^56:=sbf;have stf':ft.natAbs<=2^40*fb.natAbs:=stf;have b1:ev.den<2^50000:=hJ hd28 (qN (by decide));have b2:ev.num.natAbs<2^50000:=hJ (tD hn42 (gZ _ hd28)) (by rw[<-tU];exact qN (by decide));refine⟨l10,_,_,_,rfl,rfl,SqL.of e10,hye,fa,ye,ft,fb,ev.num,ev.den,rfl,kI s10 qf,SqT.of hat,vQ stf' sbf' (by decide),vD sbf' (by decide),b2,by rw[mD];exact b1,λr11 H11 n11 s11 e11=>?_⟩;have pm:0<fb*(ev.den:Int):=tR pf (by omega);have bm:(fb*(ev.den:Int)).natAbs<=2^84:=by
     rw[nI,mD];have:=nK sbf' hd28;rw[<-tU]at this;exact this
    have tm:(ft*ev.num).natAbs<=2^82*(fb*(ev.den:Int)).natAbs:=by
     rw[nI,nI,mD];exact EQ stf' hn42
    have i3:i<=2:=by omega
    refine⟨tr,r11,t0,b0,ft*ev.num,fb*(ev.den:Int),rfl,(s5.trans (s7.trans (s8.trans (s9.trans (s10.trans s11))))) _ _ a4,e11,pb4,pm,vQ st4 sb4 (by omega),vD sb4 (by omega),vQ tm bm (by decide),vD bm (by decide),λr12 t12 b12 H12 n12 s12 e12 pb12 lb12 eq12=>?_⟩;refine .mk (s010.trans (s11.trans s12)) e12 pb12 ?_ ?_ ?_
    ·refine tD lb12 (tD (nK sb4 bm) ?_);rw[<-tU];exact qH (by omega)
    ·exact zE (v:=84+i) pb4 pm eq12 st4 (tD tm (gU _ (qH (show 82<=84+i by omega))))
    ·rw[QX pb4 pm pb12 eq12,v4,YX,OA pf (by omega),vf,qQ,<-hev,Rat.add_assoc]
  ·obtain⟨s4,a4,pb4,sb4,st4,v4⟩:=h;rename_i tr t0 b0 u4 u5 u6 u7 u8;rw[lx,lb]at sb4 st4 v4;have q4:=SqT.of (K:=K) a4;refine rvT rfl q4 rfl (rvT rfl q4 rfl ⟨t0,b0,rfl,by omega,.inl (vD (n:=8000) sb4 (by omega)),λr5 H5 n5 s5 e5=>?_⟩);have lo7:xA t0 b0=(fv t0 b0).num/\vU t0 b0=((fv t0 b0).den:Int):=by
    have g:=CS (n:=t0) pb4;have gp:0<vU t0 b0:=by rw[(wT pb4).2];exact Int.ediv_pos_of_pos_of_dvd pb4 (by have:=LwM.qJ t0 b0 pb4;omega) (mO ..)
    obtain⟨n1,n2⟩:=EM gp g;have v:fv (xA t0 b0) (vU t0 b0)=fv t0 b0:=JF pb4;rw[v]at n1 n2;exact⟨n1.symm,n2.symm⟩
   rw[lo7.1,lo7.2]at e5;refine go r5 (fv t0 b0) H5 (s4.trans s5) e5 v4 ?_ ?_
   ·have:=QI (n:=t0) pb4;rw[lo7.2,mD]at this;exact tD this (tD sb4 (qH (by omega)))
   ·by_cases z:t0=0
    ·have:fv t0 b0=0:=by unfold fv;rw[z,show((0:Int):Rat)=0 from rfl,tT,tJ]
     rw[this];exact tQ _
    ·have:=(JG pb4 z sb4 st4).2.2.2.2;rw[lo7.1,lo7.2,mD]at this;exact tD this (gU _ (qH (by omega)))
def OT(K:dD):Sp:=λvs H Q _=>∃(d na:Addr) (aa j:Nat) (z:Sz) (E:List Ent) (t b:Int),vs=[.int aa,.ref d,.ref na]/\1<=aa/\aa<=3/\FQ H d aa z E/\z.D=1/\z.n=4/\z.v<=4000/\z.S<=40000/\j<=7900/\SqT K H na [.int t,.int b]/\0<b/\b.natAbs<=2^j/\t.natAbs<=2^z.v*b.natAbs/\
 ∀(p:Addr) (E':List Ent) (H':Hp),H p=none->Same H H'->H' p=some (.dT (E'.map Ent.kv))->DB H' aa ⟨1,z.v+1,z.S+j,4⟩ E'->(∀m,cf (pl E') m=cf (pl E) m+if jH aa aa=m then -(fv t b)else 0)->Q (.ref p) H'
theorem scMo:FnScope ["many","one","number","found"] ["many","one","number"] (jM IP):=⟨rfl,rfl,rfl,by decide +kernel,rfl,by decide +kernel,by decide +kernel⟩
theorem WQ{fP:Addr}{fdP:FuncData}(F:Fun K "_law_moved" "_law_moved" IP f fd)(T:Txt mg)(DP:Df K mg "_law_put" NE ["found","powers","number"] fP fdP)(GP:FnOk P w K mg base CX0 2 fP fdP ["found","powers","number"] spPut):FnOk P w K mg base CX0 3 f fd ["many","one","number"] (OT K):=by
 refine F.ok scMo (λvs H Q E h=>?_) (λcdv A outer s H vs Q E hr h=>?_)
 ·obtain⟨d,na,aa,j,z,E',t,b,rfl,_⟩:=h
  rfl
 ·obtain⟨d,na,aa,j,z,EE,t,b,rfl,m1,m3,fq,zD,zn,zv,zS,hj,hna,pb,sb,st,go⟩:=h;refine⟨_,jD (jP (i:=3) scMo.nd rfl (Or.inl rfl) (kL LwD.FH (by rfl) T.dct boot_dict (jA (pv 1) jC))) (jD (xJ (jG GP hr rfl DP.m DP.F.kp DP.b .nil jR (jA (pv 3) (jA (jJ LwD.zP (jT (jA jB jC)) (pv 0)) (jA (jT (jA (jJ zO jB (jN jS (pv 2) jB (λ_ _=>rfl))) (jA (jN jS (pv 2) jB (λ_ _=>rfl)) jC))) jC))))) (jF (jU (pv 3)))), ?_⟩;try dsimp only[cxK]
  refine⟨_,rfl,d,aa,_,rfl,fq.rd,m1,by omega,fq.db.keyS (by omega),λp H1 n1 s1 e1=>?_⟩;refine⟨_,rfl,uW,λz2 H2 n2 s2 e2=>⟨_,rfl,z2,aa,_,rfl,rfl,e2,m1,by omega,λzb H3 s3 e3=>?_⟩⟩;have hz:List.replicate aa (V.int 0)=(jH aa aa).map V.int:=by rw[zB];simp
  rw[hz]at e3;have s03:=s1.trans (s2.trans s3);have qn:=kI s03 hna;refine rvT rfl qn rfl ⟨_,_,rfl,rfl,rvT rfl qn rfl ⟨uX,λz4 H4 n4 s4 e4=>?_⟩⟩;have s14:=s2.trans (s3.trans s4);have us0:=xV aa aa;have db1:=fq.db.kp (Kp.of (s1.trans s14));refine⟨p,zb,z4,jH aa aa,0-t,b,aa,j,z,EE,λ_=>z.S,rfl,s14 _ _ e1,db1,db1.kb,zS,hj,zv,by omega,s4 _ _ e3,qE ..,us0.2,by have:=us0.1;omega,e4,pb,sb,by rw[Int.zero_sub,nM];exact st,λE' H5 b5 e5 db5 _ c5=>?_⟩;have s05:Same H H5:=λc o h=>b5 _ _ ((s1.trans s14) _ _ h) (kM h n1);refine⟨_,rfl,go p E' H5 n1 s05 e5 ?_ λm=>?_⟩
  ·have:=db5.few4 (by show z.D<=1;omega) m3;rw[zD]at this;exact this
  ·rw[c5]
   congr 1
   have:(((0-t:Int)):Rat)/((b:Int):Rat) = -(fv t b):=by
    unfold fv;rw[Int.zero_sub,nG,tT,tT,Rat.neg_mul]
   rw[this]
end Lw
namespace LwD
open PySem PySem.Spec PyProof.Rows L2 Lw
theorem SA(l:Addr)(x:Value)(n:Nat)(od:Option Addr)(sl:Array (Option Value))(u:Tok) :
  Meets (Builtin.«tuple.__mul__» ⟨[.ref l,.int 0 u],[]⟩) (λ_ R s=>s.heap.get? l=some { cls:=.type "tuple",dict:=od,data:=.seq #[x] n,slots:=sl }/\R (.ok (.ret (Value.ref s.heap.objs.size))) { s with heap:=s.heap.push { cls:=Value.type "tuple",data:=Data.seq #[] } }):=
 .of_wp λprog w A R s h=>by
  obtain⟨hp,g,d,tk,os⟩:=s;obtain⟨hl,h⟩:=h
  wp_walk
  exact⟨_,rfl,h⟩
section
variable{X:Cx}
def rRepZ:R2:=λx y H Q=>∃(l:Addr) (k:Nat) (v:V),x=.ref l/\y=.int k/\H l=some (.tup [v])/\k<=4/\∀p H',Same H H'->H' p=some (.tup (List.replicate k v))->Q (.ref p) H'
theorem op_repZ:OpR X (binaryOp .Mult) rRepZ:=by
 intro ac s σ H x y v u Q I rx ry h;obtain⟨l,k,z,rfl,rfl,hH,h2,q⟩:=h;by_cases k0:k=0
 ·subst k0;cases rx;obtain⟨t,rfl⟩:=ry;obtain⟨zl,its,rv,⟨⟨cl,od,dt,sl⟩,ho,hc,n,hd⟩,nD⟩:=(show ObjOk X.prog X.w H s.heap l (.tup [z])from I.hok l _ hH)
  replace hc:cl=.type "tuple":=hc
  replace hd:dt=.seq its.toArray n:=hd
  obtain⟨iv,rfl,riv⟩:=xC rv;subst hc hd;refine wpAny_binaryOp_repeat_ref (T:="tuple") (U:="int") (by decide) ⟨_,ho,rfl⟩ (λs'=>typeIs_int s' 0 t) BR F.fills_int_mul F.slot_int_rmul PL F.slot_int_index.lookup
   (call_meets F.slot_int_rmul (typeIs_int s 0 t) F.entry_int_rmul (F.args_int_rmul_2 _ _) (UW 0 t l iv n od sl) ⟨ho,rfl,⟨_,ho,rfl⟩, ?_⟩)
  refine call_meets F.slot_tuple_mul ⟨_,ho,rfl⟩ F.entry_tuple_mul (F.args_tuple_mul_2 _ _) (SA l iv n od sl t) ⟨ho, ?_⟩;have nz:H s.heap.objs.size=none:=I.hok.fresh uU ;exact⟨.ref s.heap.objs.size,_,I.laid (o:=.tup (List.replicate 0 z)) (t':=s.toks) (λb u e=>gI _ e) uU ⟨tQ _,_,.nil,⟨_,gX _ rfl,rfl,_,rfl⟩,.of (gX _ rfl) rfl⟩,rfl,q _ _ (jY _ nz) jE⟩
 ·exact zP ac s σ H _ _ v u Q I rx ry ⟨l,k,z,rfl,rfl,hH,by omega,h2,q⟩
def tFrzA(te:TE):TE:=fun σ H Q=>te σ H λv H1=>∃d ag,H1 d=some (.dT ag)/\∀o,Q v (upd H1 d (.frz o (.dT ag)))
theorem pe_frzA{e:Expr}{te:TE}(h:PE X e te):PE X e (tFrzA te):=by
 intro ac s σ H Q I hq;refine thn (h ac s σ H _ I hq) λu s1 ⟨x,H1,I1,r1,q1⟩=>?_;obtain⟨d,ag,hd,k⟩:=q1;obtain⟨o,I2⟩:=Inv.freeze I1 hd;exact⟨x,_,I2,r1,k o⟩
end
end LwD
namespace Lw
open PySem PySem.Spec PyProof.Rows L2 LwQ LwF LwV
theorem box_t{aa:Nat}{ad:List (List Trm)}{Es:List (List Ent)}{lo hi:Nat->Rat}(pt:PT aa ad Es)(lE:Es.length=2*aa)(ok:∀i E,Es[i]? = some E->SdE aa E (i/2) (if i%2=0 then 1 else -1) (if i%2=0 then -(lo (i/2))else hi (i/2))):BoxT aa ad lo hi:=by
 have le:ad.length=Es.length:=Paired.length pt;have key:∀i,i<2*aa->∀ks:List Rat,ks.length=aa->lnV (jL aa (ad.getD i [])) ks=(if i%2=0 then 1 else -1)*ks.getD (i/2) 0+(if i%2=0 then -(lo (i/2))else hi (i/2))/\lnH (jL aa (ad.getD i [])) ks=(if i%2=0 then 1 else -1)*ks.getD (i/2) 0:=λi hi' ks lk=>by
  have hE:Es[i]? = some Es[i]:=gE (by omega);obtain⟨ts,hts,s⟩:=PQ pt hE;have g:ad.getD i []=ts:=by rw[uY,hts];rfl
  rw[g];exact side_v s (ok i _ hE) (by omega) lk
 refine⟨by omega,λj hj ks lk=>?_,λj hj ks lk=>?_⟩
 ·have:=key (2*j) (by omega) ks lk;rw[show 2*j/2=j by omega,dC (by omega),dC (by omega),Rat.one_mul]at this;exact⟨by rw[this.1];grind,this.2⟩
 ·have:=key (2*j+1) (by omega) ks lk;rw[show(2*j+1)/2=j by omega,dA (by omega),dA (by omega)]at this;exact⟨by rw[this.1];grind,by rw[this.2];grind⟩
theorem crn_val{aa:Nat}{ts:List Trm}{E:List Ent}{bs:List (Rat×Rat)}(s:Same2 aa ts E):lnV (jL aa ts) (crn aa (jL aa ts) (λj=>(bs.getD j (0,0)).1) λj=>(bs.getD j (0,0)).2)=cf (pl E) (jH aa aa)+crS (λj=>cf (pl E) (jH aa j)) bs aa:=by
 unfold lnV crS;rw[zW,s.nm aa uU,Rat.add_comm]
 congr 1
 refine jX λj hj=>?_;have hj:=nJ.mp hj;rw[JS hj,s.nm j (by omega)]
theorem BJ{aa:Nat}{E1 E2:List Ent}{bs:List (Rat×Rat)}{c:Rat}(h:∀m,cf (pl E2) m=cf (pl E1) m+if jH aa aa=m then c else 0):cf (pl E2) (jH aa aa)+crS (λj=>cf (pl E2) (jH aa j)) bs aa=cf (pl E1) (jH aa aa)+crS (λj=>cf (pl E1) (jH aa j)) bs aa+c:=by
 have e:crS (λj=>cf (pl E2) (jH aa j)) bs aa=crS (λj=>cf (pl E1) (jH aa j)) bs aa:=by
  unfold crS;refine jX λj hj=>?_;have hj:=nJ.mp hj;have:cf (pl E2) (jH aa j)=cf (pl E1) (jH aa j):=by
   rw[h,dA λz=>by have:=xG (aa:=aa) uU (by omega) z;omega,tH]
  simp only[this]
 rw[e,h,dC rfl]
 grind
theorem ZI{aa:Nat}{ad:List (List Trm)}{Es:List (List Ent)}{ws:List Rat}(pt:PT aa ad Es)(lw:ws.length=ad.length)(c0:∀j,j<aa->vI aa ad ws j=0)(c1:vI aa ad ws aa = -1):∀m,wcf Es ws m=if m=jH aa aa then -1 else 0:=λm=>by
 obtain⟨t1,t2⟩:=tol_w pt lw m;by_cases hm:∃j,j<=aa/\m=jH aa j
 ·obtain⟨j,hj,em⟩:=hm;rw[t1 j hj em];by_cases c:j=aa
  ·rw[c,c1,dC (by rw[em,c])]
  ·rw[c0 j (by omega),dA λz=>c (xG hj uU (by rw[<-em];exact z))]
 ·rw[t2 λj hj z=>hm ⟨j,hj,z⟩,dA λz=>hm ⟨aa,tP _,z⟩]
theorem wc_so{aa:Nat}{ad:List (List Trm)}{ts1:List Trm}{Es:List (List Ent)}{E1:List Ent}{ws:List Rat}{T:Rat}(pt:PT aa ad Es)(s1:Same2 aa ts1 E1)(lw:ws.length=ad.length)(c0:∀j,j<aa->vI aa ad ws j=(jL aa ts1).getD j 0)(c1:T+vI aa ad ws aa=(jL aa ts1).getD aa 0):∀m,(if m=jH aa aa then T else 0)+wcf Es ws m=cf (pl E1) m:=λm=>by
 obtain⟨t1,t2⟩:=tol_w pt lw m;by_cases hm:∃j,j<=aa/\m=jH aa j
 ·obtain⟨j,hj,em⟩:=hm;rw[t1 j hj em,em,<-s1.nm j hj];by_cases c:j=aa
  ·rw[c,dC rfl];exact c1
  ·rw[dA λz=>c (xG hj uU z),tG];exact c0 j (by omega)
 ·rw[t2 λj hj z=>hm ⟨j,hj,z⟩,dA λz=>hm ⟨aa,tP _,z⟩,s1.out λj hj z=>hm ⟨j,hj,z⟩,tH]
structure S36(aa:Nat)(cl tp bl l d hd:Addr)(bx xs ys:List V)(bs:List (Rat×Rat))(Es:List (List Ent))(E1:List Ent)(ad:List (List Trm))(B:Int)(H:Hp):Prop where
 T:Tape cl H tp B
 hb:H bl=some (.lst bx)
 pb:Paired (BxP H) bx bs
 hl:H l=some (.lst xs)
 pr:Paired (RmP H aa (zR 5)) xs Es
 hh:H hd=some (.lst ys)
 ps:Paired (λv ts=>∃p,v=V.ref p/\Poly H p aa (zR 5) ts) ys ad
 f1:FQ H d aa ⟨1,40,56,4⟩ E1
theorem S36.same{aa:Nat}{cl tp bl l d hd:Addr}{bx xs ys:List V}{bs:List (Rat×Rat)}{Es:List (List Ent)}{E1:List Ent}{ad:List (List Trm)}{B:Int}{H H':Hp}(h:S36 aa cl tp bl l d hd bx xs ys bs Es E1 ad B H)(s:Same H H'):S36 aa cl tp bl l d hd bx xs ys bs Es E1 ad B H':=
 ⟨h.T.mono s (tV _),s _ _ h.hb,Paired.to (λ_ _ q=>q.kp (Kp.of s)) h.pb,s _ _ h.hl,Paired.to (λ_ _ q=>q.kp (Kp.of s)) h.pr,s _ _ h.hh,Paired.to (λ_ _ ⟨p,e,q⟩=>⟨p,e,q.kp (Kp.of s)⟩) h.ps,h.f1.kp (Kp.of s)⟩
theorem S36.drawn{aa:Nat}{cl tp bl l d hd:Addr}{bx xs ys:List V}{bs:List (Rat×Rat)}{Es:List (List Ent)}{E1:List Ent}{ad:List (List Trm)}{B B':Int}{H H':Hp}(h:S36 aa cl tp bl l d hd bx xs ys bs Es E1 ad B H)(n1:bl≠tp)(n2:l≠tp)(n3:hd≠tp)(b:But tp H H')(T:Tape cl H' tp B'):S36 aa cl tp bl l d hd bx xs ys bs Es E1 ad B' H':=
 have k:=Kp.butT b h.T
 ⟨T,b _ _ h.hb n1,Paired.to (λ_ _ q=>q.kp k) h.pb,b _ _ h.hl n2,Paired.to (λ_ _ q=>q.kp k) h.pr,b _ _ h.hh n3,Paired.to (λ_ _ ⟨p,e,q⟩=>⟨p,e,q.kp k⟩) h.ps,h.f1.kp k⟩
structure HnI(H1:Hp)(q:Addr)(aa:Nat)(Es:List (List Ent))(i:Nat)(ys:List V)(H':Hp):Prop where
 s:Same H1 H'
 e:H' q=some (.lst ys)
 ex:∃ad,Paired (λv ts=>∃p,v=V.ref p/\Poly H' p aa (zR 5) ts) ys ad/\PT aa ad (Es.take i)/\∀ts∈ad,NumsB aa ts 200
theorem QU{H1 H8 H9:Hp}{hd p:Addr}{aa j m:Nat}{xs ys:List V}{x:V}{Es:List (List Ent)}{Ei:List Ent}{ts:List Trm}{d:Addr}(h:HnI H1 hd aa Es j ys H8)(n7:H1 hd=none)(hx:xs[j]? = some x)(hm:m=xs.length-j)(hy:ys.length=j)(hEi:Es[j]? = some Ei)(fq:FQ H8 d aa (zR 5) Ei)(dn:∃D:Int,0<D/\D.natAbs<=2^28/\Dn D (cf (pl Ei)))(s9:Same H8 H9)(hP:Poly H9 p aa (zR 5) ts)(pm:(tl ts).Perm (pl Ei)) :
  H9 hd=some (.lst ys)/\∃m',m'<m/\CompW xs (HnI H1 hd aa Es) (j+1) m' (ys++[.ref p]) (upd H9 hd (.lst (ys++[.ref p]))):=by
 obtain⟨s8,e8,ad,ps,pt,nb⟩:=h;have e9:=s9 _ _ e8;have k10:Kp H9 (upd H9 hd (.lst (ys++[.ref p]))):=Kp.upd e9 trivial;obtain⟨D,D0,D1,D2⟩:=dn;refine qB hx hm hy e9 ⟨jZ (s8.trans s9) n7,jE,ad++[ts], ?_, ?_,λt ht=>?_⟩
 ·exact Paired.app (Paired.to (λ_ _ ⟨p,e,q⟩=>⟨p,e,q.kp ((Kp.of s9).trans k10)⟩) ps) (.cons ⟨p,rfl,hP.kp k10⟩ .nil)
 ·rw[mJ,hEi];exact Paired.app pt (.cons (KH hP uU fq uU pm) .nil)
 ·rcases nC.mp ht with ht | ht
  ·exact nb t ht
  ·rw[mC.mp ht];exact AI (d:=28) hP uU pm D0 D1 D2 (by decide)
theorem cut63(ns:List Int):∃ms:List Int,zV (ns.map V.int) none (some 63)=ms.map V.int/\ms.length<=63:=by
 refine⟨(ns.drop (HT.sIx (ns.map V.int).length 0 none)).take (HT.sIx (ns.map V.int).length (ns.map V.int).length (some 63)-HT.sIx (ns.map V.int).length 0 none), ?_, ?_⟩
 ·unfold zV;rw[<-List.map_drop,<-nY]
 ·rw[mR];have:HT.sIx (ns.map V.int).length (ns.map V.int).length (some 63)<=63:=by
   have:=HT.sIx_nat (ns.map V.int).length (ns.map V.int).length 63;rw[show((63:Nat):Int)=63 from rfl]at this;rw[this];exact Nat.min_le_left _ _
  omega
theorem fv_like{T0 B0:Int}{T:Rat}(pB:0<B0)(h:fv T0 B0=T):T0*(T.den:Int)=T.num*B0:=by
 have h1:=qQ T;rw[<-h]at h1;unfold fv at h1 h;have b0:=cne pB;have d0:((T.den:Int):Rat)≠0:=cne (by have:=T.den_pos;omega);have e:((T0:Int):Rat)*((T.den:Int):Rat)=((T.num:Int):Rat)*((B0:Int):Rat):=by
  rw[h]at h1;generalize ((T.den:Int):Rat)=D at *;generalize ((B0:Int):Rat)=B at *;generalize ((T.num:Int):Rat)=N at *;generalize ((T0:Int):Rat)=M at *
  grind
 exact_mod_cast e
theorem LD{xs:List Int} :LwT.lexNe xs xs=false:=(LwT.lexNe_eq _ _).trans (by simp)
theorem WI{aa:Nat}{ad:List (List Trm)}{N:List Rat}{D:Rat}(hW:uJ aa ad N=2)(hN:zQ aa ad N=D):ovW aa ad N=if D.num<0 then 1 else 2:=by
 unfold ovW;rw[hW,hN,dA (by decide)];by_cases c:D.num<0
 ·rw[dC (.inr c),dC c]
 ·rw[dA (λz=>by rcases z with z | z;exact absurd z (by decide);exact c z),dA c]
def oW:Nat->Str
 | 0=>Str.ofString "none"
 | 1=>Str.ofString "below"
 | _=>Str.ofString "so"
theorem OvrK.word{K:dD}{H0 H:Hp}{aa:Nat}{ad:List (List Trm)}{N:List Rat}{p:Addr}{wd:Nat}(h:OvrK K H0 H aa ad N p wd):∃r,H p=some (.tup (.str (oW wd)::r)):=by
 cases h with
 | none e=>exact⟨_,e⟩
 | below e=>exact⟨_,e⟩
 | so e=>exact⟨_,e⟩
theorem so_iff{n:Int} :decide (V.str (oW (if n<0 then 1 else 2))=V.str (Str.ofString "so"))=decide (n ≥ 0):=by
 by_cases c:n<0
 ·rw[dC c,nB (show ¬n ≥ 0 by omega)]
  decide
 ·rw[dA c,nH (show n ≥ 0 by omega)]
  decide
theorem RT{aa:Nat}(m1:1<=aa):List.replicate (aa-1) (V.int 0)++[V.int 1]=(jH aa (aa-1)).map V.int:=by
 refine mQ λk=>?_;rw[mH];by_cases h:k<aa
 ·rw[yJ h];by_cases c:k=aa-1
  ·rw[dC c,uZ (by rw[gM];omega),gM,c,tM]
   rfl
  ·rw[dA c,gD (by rw[gM];omega),List.getElem?_replicate,dC (by omega)]
   rfl
 ·rw[gN (by rw[hU,gM];show aa-1+1<=k;omega),gN (by rw[qE];omega)]
  rfl
theorem S36.frz{aa:Nat}{cl tp bl l d hd dm:Addr}{bx xs ys:List V}{bs:List (Rat×Rat)}{Es:List (List Ent)}{E1:List Ent}{ad:List (List Trm)}{B:Int}{H:Hp}{ag:List (List Key×V)}(h:S36 aa cl tp bl l d hd bx xs ys bs Es E1 ad B H)(e:H dm=some (.dT ag))(o:Obj):S36 aa cl tp bl l d hd bx xs ys bs Es E1 ad B (upd H dm (.frz o (.dT ag))):=by
 have k:Kp H (upd H dm (.frz o (.dT ag))):=Kp.upd e trivial;have dl:∀{c:Addr} {zs:List V},H c=some (.lst zs)->(upd H dm (.frz o (.dT ag))) c=some (.lst zs):=fun {c zs} h=>by
  rw[jO λz=>by rw[z,e]at h;cases h];exact h
 have t:=h.T.ne e (λ_ z=>by cases z);exact⟨h.T.upd _ t.1 t.2 (tV _),dl h.hb,Paired.to (λ_ _ q=>q.kp k) h.pb,dl h.hl,Paired.to (λ_ _ q=>q.kp k) h.pr,dl h.hh,Paired.to (λ_ _ ⟨p,e,q⟩=>⟨p,e,q.kp k⟩) h.ps,h.f1.kp k⟩
theorem VL{A1 R:TS}{D:Ends}{σ:L2.St}{H:Hp}(J:L2.St->Hp->Prop)(h:∀TT:TS,(∀σ H,J σ H->TT D σ H)->qU A1 TT D σ H)(tl:∀σ H,J σ H->R D σ H):qU A1 R D σ H:=h R tl
theorem VJ{A1 A2 R:TS}{D:Ends}{σ:L2.St}{H:Hp}(J:L2.St->Hp->Prop)(h:∀TT:TS,(∀σ H,J σ H->TT D σ H)->qU A1 (qU A2 TT) D σ H)(tl:∀σ H,J σ H->R D σ H):qU A1 (qU A2 R) D σ H:=h R tl
theorem uR{A1 A2 A3 R:TS}{D:Ends}{σ:L2.St}{H:Hp}(J:L2.St->Hp->Prop)(h:∀TT:TS,(∀σ H,J σ H->TT D σ H)->qU A1 (qU A2 (qU A3 TT)) D σ H)(tl:∀σ H,J σ H->R D σ H):qU A1 (qU A2 (qU A3 R)) D σ H:=h R tl
theorem VI{A1 A2 A3 A4 A5 A6 A7 R:TS}{D:Ends}{σ:L2.St}{H:Hp}(J:L2.St->Hp->Prop)(h:∀TT:TS,(∀σ H,J σ H->TT D σ H)->qU A1 (qU A2 (qU A3 (qU A4 (qU A5 (qU A6 (qU A7 TT)))))) D σ H)(tl:∀σ H,J σ H->R D σ H):qU A1 (qU A2 (qU A3 (qU A4 (qU A5 (qU A6 (qU A7 R)))))) D σ H:=h R tl
inductive J36(a:Addr):L2.St->Hp->Prop where
 | mk {aa:Nat} {cl tp bl l d hd rd:Addr} {bx xs ys:List V} {bs:List (Rat×Rat)} {Es:List (List Ent)} {E1:List Ent} {ad:List (List Trm)} {Du:Rat} {H:Hp} (m1:1<=aa) (m3:aa<=3) (lb:bs.length=aa) (lE:Es.length=2*aa) (ok:∀i E,Es[i]? = some E->SideOk aa bs i E) (pt:PT aa ad Es) (nb:∀ts∈ad,NumsB aa ts 200) (blt:bl≠tp) (lt:l≠tp) (hdt:hd≠tp) (S:S36 aa cl tp bl l d hd bx xs ys bs Es E1 ad 200 H) (e12:At2 H rd Du.num Du.den)
   (eqD:Du=cf (pl E1) (jH aa aa)+crS (λj=>cf (pl E1) (jH aa j)) bs aa) (dd:Du.den<=2^308) (dn:Du.num.natAbs<=2^88*Du.den):J36 a [some (.ref a),some (.ref tp),some (.int (aa:Int)),some (.ref bl),some (.ref l),some (.ref hd),some (.ref d),some (.ref rd),none,none,none] H
theorem HL{d:Addr}{aa:Nat}{z:Sz}{E:List Ent}{vs:List V}{H:Hp}{Q:VK}{X:XK}(hv:vs=[.int aa,.ref d])(h1:Rd H d (.dT (E.map Ent.kv)))(h2:Lw.DB H aa z E)(m1:1<=aa)(hn:z.n<=63)(hS:z.S<=7900)(k:∀(p:Addr) (ts:List Trm) (H':Hp),H p=none->Same H H'->Poly H' p aa z ts->(tl ts).Perm (pl E)->Q (.ref p) H'):spLSum vs H Q X:=⟨d,aa,z,E,hv,h1,h2,m1,hn,hS,k⟩
theorem YT{K:dD}{p a:Addr}{xs:List V}{aa:Nat}{z1 z:Sz}{ts1:List Trm}{ad:List (List Trm)}{vs:List V}{H:Hp}{Q:VK}{X:XK}(hv:vs=[.ref p,.ref a])(h1:Poly H p aa z1 ts1)(h2:RimsP H a xs aa z ad)(d1:z1.D<=1)(d2:z.D<=1)(m1:1<=aa)(m3:aa<=3)(v1:z1.v+z1.S<=2200)(v2:z.v+z.S<=2200)(n1:z1.n<=1000)(n2:z.n<=1000)(t6:ad.length<=6)(b1:NumsB aa ts1 650)(b2:∀ts∈ad,NumsB aa ts 200)
  (k:∀(r:Addr) (H':Hp),H r=none->Same H H'->OvrK K H H' aa ad (jL aa ts1) r (ovW aa ad (jL aa ts1))->Q (.ref r) H'):MZ K vs H Q X:=⟨p,a,xs,aa,z1,z,ts1,ad,hv,h1,h2,d1,d2,m1,m3,v1,v2,n1,n2,t6,b1,b2,k⟩
theorem YU{K:dD}{na l ls dd:Addr}{aa:Nat}{xs:List V}{Es:List (List Ent)}{ws:List Rat}{Ed:List Ent}{T:Rat}{zd:Sz}{vs:List V}{H:Hp}{Q:VK}{X:XK}(hv:vs=[.int aa,.ref na,.ref l,.ref ls,.ref dd])(m1:1<=aa)(m3:aa<=3)(h1:At2 H na T.num T.den)(h2:SzR 3410 T)(h3:H l=some (.lst xs))(h4:Paired (RmP H aa (zR 5)) xs Es)(h5:WtsP K H ls Es.length ws)(h6:Es.length<=6)(h7:FQ H dd aa zd Ed)(h8:zd.v<=4000)(h9:KB (λ_=>40000) Ed)
  (h0:∀m,(if m=jH aa aa then T else 0)+wcf Es ws m=cf (pl Ed) m) (k:∀H',Same H H'->Q (.bl true) H'):AY K vs H Q X:=⟨na,l,ls,dd,aa,xs,Es,ws,Ed,T,zd,hv,m1,m3,h1,h2,h3,h4,h5,h6,h7,h8,h9,h0,k⟩
theorem OD{K:dD}{l sp:Addr}{aa:Nat}{xs:List V}{Es:List (List Ent)}{ks:List Rat}{vs:List V}{H:Hp}{Q:VK}{X:XK}(hv:vs=[.int aa,.ref l,.ref sp])(m3:aa<=3)(h1:H l=some (.lst xs))(h2:Paired (RmP H aa (zR 5)) xs Es)(h3:Es.length<=6)(h4:SptP K H sp aa ks)(h5:∀E∈Es,0<=BC (pw ks) (pl E))(k:∀H',Same H H'->Q (.bl true) H'):IH K vs H Q X:=⟨l,sp,aa,xs,Es,ks,hv,m3,h1,h2,h3,h4,h5,k⟩
variable{P:Program}{w:World}{K:dD}{mg:Str->Option Value}{base:Heap}{f fd:_}
theorem scLaw:FnScope ["script","tape","many","box","rims","handed","one","due","told","moved","low"] ["script"] (jM NF):=⟨rfl,rfl,rfl,by decide +kernel,rfl,by decide +kernel,by decide +kernel⟩
set_option maxHeartbeats 40000000 in
theorem ok_law{fD fX fY fS fL fC fK fW fE fI fA fB fO fM fP fT:Addr}{fdD fdX fdY fdS fdL fdC fdK fdW fdE fdI fdA fdB fdO fdM fdP fdT:FuncData}(F:Fun K "law" "law" NF f fd)(T:Txt mg)(DD:Df K mg "_law_draw" FX ["tape","many"] fD fdD)(GD:FnOk P w K mg base CX0 1 fD fdD ["tape","many"] spDraw)(DX:Df K mg "_law_box" ZV ["tape","many"] fX fdX)(GX:FnOk P w K mg base CX0 3 fX fdX ["tape","many"] spBox)(DY:Df K mg "_law_sides" IN ["many","box"] fY fdY)(GY:FnOk P w K mg base CX0 3 fY fdY ["many","box"] (OR K))
  (DS:Df K mg "_law_sum" PB ["many","one"] fS fdS) (GS:FnOk P w K mg base CX0 2 fS fdS ["many","one"] spLSum) (DL:Df K mg "_law_line" OZ ["tape","many"] fL fdL) (GL:FnOk P w K mg base CX0 3 fL fdL ["tape","many"] spLine) (DC:Df K mg "_law_corner_least" CJ ["many","box","one"] fC fdC) (GC:FnOk P w K mg base CX0 2 fC fdC ["many","box","one"] (KG K)) (DK:Df K mg "kept" PD ["rims"] fK fdK) (GK:FnOk P w K mg base CX0 7 fK fdK ["rims"] (VE K))
  (DW:Df K mg "_law_keeps" IR ["many","rims","spot"] fW fdW) (GW:FnOk P w K mg base CX0 4 fW fdW ["many","rims","spot"] (IH K)) (DE:Df K mg "reach" IO ["one","rims"] fE fdE) (GE:FnOk P w K mg base CX0 8 fE fdE ["one","rims"] (wH K)) (DI:Df K mg "_law_like" KK ["one","other"] fI fdI) (GI:FnOk P w K mg base CX0 1 fI fdI ["one","other"] spLike) (DA:Df K mg "_law_at" sAt ["one","spot"] fA fdA) (GA:FnOk P w K mg base CX0 2 fA fdA ["one","spot"] (spAt K))
  (DB:Df K mg "_law_borne_by" AC ["many","number","rims","weights","due"] fB fdB) (GB:FnOk P w K mg base CX0 4 fB fdB ["many","number","rims","weights","due"] (AY K)) (DO:Df K mg "over" OX ["one","rims"] fO fdO) (GO:FnOk P w K mg base CX0 8 fO fdO ["one","rims"] (MZ K)) (DM:Df K mg "_law_moved" IP ["many","one","number"] fM fdM) (GM:FnOk P w K mg base CX0 3 fM fdM ["many","one","number"] (OT K)) (DP:Df K mg "_law_plus" BM ["one","other"] fP fdP) (GP:FnOk P w K mg base CX0 1 fP fdP ["one","other"] spPlus) (DT:Df K mg "_law_put" NE ["found","powers","number"] fT fdT) (GT:FnOk P w K mg base CX0 2 fT fdT ["found","powers","number"] spPut):FnOk P w K mg base CX0 9 f fd ["script"] (OU K):=by
 refine F.ok scLaw (λvs H Q E h=>?_) (λcdv A outer s H vs Q E hr h=>?_)
 ·obtain⟨a,ns,rfl,_⟩:=h
  rfl
 ·obtain⟨a,ns,rfl,hS,hlen,go⟩:=h;have hr1:Room 1 _:=hr.mono (by decide);have hr2:Room 2 _:=hr.mono (by decide);have hr3:Room 3 _:=hr.mono (by decide);have hr4:Room 4 _:=hr.mono (by decide);have hr7:Room 7 _:=hr.mono (by decide);have hu:=hr.units0;refine⟨_,jD (jP (i:=1) scLaw.nd rfl (Or.inl rfl) (qO (jA (kL xR (by rfl) T.lst boot_list (jA (vK vJ (pv 0) yT (vH jB)) jC)) (jA jB (jA jB (jA jB jC)))))) (jD (qW (jJ kQ jB (jG GD hr1 rfl DD.m DD.F.kp DD.b .nil jR (jA (pv 1) (jA jB jC)))) (jI (i:=2) scLaw.nd rfl (Or.inr rfl))) (jD (jP (i:=3) scLaw.nd rfl (Or.inl rfl) (jG GX hr3 rfl DX.m DX.F.kp DX.b .nil jR (jA (pv 1) (jA (pv 2) jC)))) (jD (jP (i:=4) scLaw.nd rfl (Or.inl rfl) (jG GY hr3 rfl DY.m DY.F.kp DY.b .nil jR (jA (pv 2) (jA (pv 3) jC)))) (jD (uG (i:=5) scLaw.nd rfl (Or.inl rfl) (own:=1) (idx:=[2]) (N:=["rim","many"]) rfl rfl rfl (by decide +kernel) (by decide +kernel) (vW (by intro y hy;simp only[nT,mS,or_false]at hy;rcases hy with rfl;rfl)) (vC rfl) rfl (vR rfl ⟨rfl,rfl,rfl,rfl⟩) (qF (pv 4)) (λC fp s2 H2=>(jI (i:=0) (show List.Nodup (["rim","many"]:List Str) by decide +kernel) rfl (Or.inl rfl) (Or.inr rfl))) (λC fp s2 H2=>jG GS hr2 rfl DS.m DS.F.kp DS.b .nil jR (jA (pv 1) (jA (pv 0) jC)))) (jD (jP (i:=6) scLaw.nd rfl (Or.inl rfl) (jG GL hr3 rfl DL.m DL.F.kp DL.b .nil jR (jA (pv 1) (jA (pv 2) jC)))) (jD (jP (i:=7) scLaw.nd rfl (Or.inl rfl) (jG GC hr2 rfl DC.m DC.F.kp DC.b .nil jR (jA (pv 2) (jA (pv 3) (jA (LwD.wL (pv 6)) jC))))) (jD (jP (i:=8) scLaw.nd rfl (Or.inl rfl) (jG GK hr7 rfl DK.m DK.F.kp DK.b .nil jR (jA (kL xR (by rfl) T.lst boot_list (jA (pv 5) jC)) jC))) (jD (kS (PW.pt (yM (jV yG (jN jS (pv 8) jB (λ_ _=>rfl)) vX (jW _)) (yD (yN (yE (jG GW hr4 rfl DW.m DW.F.kp DW.b .nil jR (jA (pv 2) (jA (pv 4) (jA (jN jS (pv 8) jB (λ_ _=>rfl)) jC))))))))) (jF (jU wB)) kD) (jD (jP (i:=8) scLaw.nd rfl (Or.inl rfl) (jG GE hr rfl DE.m DE.F.kp DE.b .nil jR (jA (jG GS hr2 rfl DS.m DS.F.kp DS.b .nil jR (jA (pv 2) (jA (pv 6) jC))) (jA (kL xR (by rfl) T.lst boot_list (jA (pv 5) jC)) jC)))) (jD (kS (PW.pt (yM (jV yG (jN jS (pv 8) jB (λ_ _=>rfl)) vX (jW _)) (yM (jV (LwT.op_neT hu) (jN jS (pv 8) jB (λ_ _=>rfl)) (pv 7) (jW _)) (yD (yN (yE (jG GW hr4 rfl DW.m DW.F.kp DW.b .nil jR (jA (pv 2) (jA (pv 4) (jA (jN jS (pv 8) jB (λ_ _=>rfl)) jC)))))))))) (jF (jU wB)) kD) (jD (kS (PW.pt (yM (yN (yE (jG GI hr1 rfl DI.m DI.F.kp DI.b .nil jR (jA (jG GA hr2 rfl DA.m DA.F.kp DA.b .nil jR (jA (pv 6) (jA (jN jS (pv 8) jB (λ_ _=>rfl)) jC))) (jA (pv 7) jC))))) (yD (yN (yE (jG GB hr4 rfl DB.m DB.F.kp DB.b .nil jR (jA (pv 2) (jA (pv 7) (jA (pv 4) (jA (jN jS (pv 8) jB (λ_ _=>rfl)) (jA (pv 6) jC))))))))))) (jF (jU wB)) kD) (jD (kS (jV yG (xK yH (jN jS (jG GO hr rfl DO.m DO.F.kp DO.b .nil jR (jA (jG GS hr2 rfl DS.m DS.F.kp DS.b .nil jR (jA (pv 2) (jA (pv 6) jC))) (jA (kL xR (by rfl) T.lst boot_list (jA (pv 5) jC)) jC))) jB (λ_ _=>rfl)) vX (jW _)) (xK WK (jN jS (pv 7) jB (λ_ _=>rfl)) jB (jW _)) (jW _)) (jF (jU wB)) kD) (jD (jP (i:=9) scLaw.nd rfl (Or.inl rfl) (jG GM hr3 rfl DM.m DM.F.kp DM.b .nil jR (jA (pv 2) (jA (pv 6) (jA (pv 7) jC))))) (jD (jP (i:=8) scLaw.nd rfl (Or.inl rfl) (jG GO hr rfl DO.m DO.F.kp DO.b .nil jR (jA (jG GS hr2 rfl DS.m DS.F.kp DS.b .nil jR (jA (pv 2) (jA (LwD.wL (pv 9)) jC))) (jA (kL xR (by rfl) T.lst boot_list (jA (pv 5) jC)) jC)))) (jD (kS (PW.pt (yM (jV yG (jN jS (pv 8) jB (λ_ _=>rfl)) vX (jW _)) (yM (jV (LwT.op_neT hu) (jN jS (pv 8) jB (λ_ _=>rfl)) (jT (jA jB (jA jB jC))) (jW _)) (yD (yN (yE (jG GB hr4 rfl DB.m DB.F.kp DB.b .nil jR (jA (pv 2) (jA (jT (jA jB (jA jB jC))) (jA (pv 4) (jA (jN jS (pv 8) jB (λ_ _=>rfl)) (jA (pv 9) jC)))))))))))) (jF (jU wB)) kD) (jD (jP (i:=9) scLaw.nd rfl (Or.inl rfl) (jG GM hr3 rfl DM.m DM.F.kp DM.b .nil jR (jA (pv 2) (jA (pv 9) (jA (jT (jA (jJ kQ jB (jG GD hr1 rfl DD.m DD.F.kp DD.b .nil jR (jA (pv 1) (jA jB jC)))) (jA (jJ kQ jB (jG GD hr1 rfl DD.m DD.F.kp DD.b .nil jR (jA (pv 1) (jA (jJ EK jB jB) jC)))) jC))) jC))))) (jD (jP (i:=8) scLaw.nd rfl (Or.inl rfl) (jG GO hr rfl DO.m DO.F.kp DO.b .nil jR (jA (jG GS hr2 rfl DS.m DS.F.kp DS.b .nil jR (jA (pv 2) (jA (LwD.wL (pv 9)) jC))) (jA (kL xR (by rfl) T.lst boot_list (jA (pv 5) jC)) jC)))) (jD (kS (PW.pt (yM (jV yG (jN jS (pv 8) jB (λ_ _=>rfl)) vX (jW _)) (yM (yN (yE (jG GW hr4 rfl DW.m DW.F.kp DW.b .nil jR (jA (pv 2) (jA (pv 4) (jA (jN jS (pv 8) jB (λ_ _=>rfl)) jC)))))) (yD (jV WK (jN jS (jG GA hr2 rfl DA.m DA.F.kp DA.b .nil jR (jA (pv 9) (jA (jN jS (pv 8) jB (λ_ _=>rfl)) jC))) jB (λ_ _=>rfl)) jB (jW _)))))) (jF (jU wB)) kD) (jD (jP (i:=10) scLaw.nd rfl (Or.inl rfl) (jG GP hr1 rfl DP.m DP.F.kp DP.b .nil jR (jA (jN jS (jN kH (pv 3) (qX kZ jB) (λ_ _=>rfl)) jB (λ_ _=>rfl)) (jA (jT (jA (qX kZ jB) (jA (jJ kQ jB (jG GD hr1 rfl DD.m DD.F.kp DD.b .nil jR (jA (pv 1) (jA jB jC)))) jC))) jC)))) (jD (qW (LwD.EI hu (jJ op_catH (jJ LwD.op_repZ (jT (jA jB jC)) (jJ zO (pv 2) jB)) (jT (jA jB jC))) (jT (jA (qX kZ jB) (jA jB jC)))) (wK (pv 4) (qX kZ jB) xW)) (jD (xJ (jG GT hr2 rfl DT.m DT.F.kp DT.b .nil jR (jA (jN kH (pv 4) (qX kZ jB) (λ_ _=>rfl)) (jA (jJ LwD.zP (jT (jA jB jC)) (pv 2)) (jA (pv 10) jC))))) (jD (jP (i:=8) scLaw.nd rfl (Or.inl rfl) (jG GK hr7 rfl DK.m DK.F.kp DK.b .nil jR (jA (vL (own:=1) (idx:=[2]) (N:=["rim","many"]) rfl rfl rfl (by decide +kernel) (by decide +kernel) (vW (by intro y hy;simp only[nT,mS,or_false]at hy;rcases hy with rfl;rfl)) (vC rfl) rfl (vR rfl ⟨rfl,rfl,rfl,rfl⟩) (qF (LwD.pe_frzA (pv 4))) (λC fp s2 H2=>(jI (i:=0) (show List.Nodup (["rim","many"]:List Str) by decide +kernel) rfl (Or.inl rfl) (Or.inr rfl))) (λC fp s2 H2=>jG GS hr2 rfl DS.m DS.F.kp DS.b .nil jR (jA (pv 1) (jA (pv 0) jC)))) jC))) (jF (jU (JB (xK yH (jN jS (pv 8) jB (λ_ _=>rfl)) vX (jW _)) (JA (jG GB hr4 rfl DB.m DB.F.kp DB.b .nil jR (jA (pv 2) (jA (jT (jA jB (jA jB jC))) (jA (pv 4) (jA (jN jS (pv 8) jB (λ_ _=>rfl)) (jA (LwD.wL (LwD.EI hu (jJ LwD.zP (jT (jA jB jC)) (pv 2)) (jT (jA (qX kZ jB) (jA jB jC))))) jC)))))))))))))))))))))))))))))))), ?_⟩
  try dsimp only[cxK]
  refine VI (J36 a) (λTT hTT=>?_) ?_
  ·obtain⟨cs,em,hm⟩:=cut63 ns;refine⟨_,rfl,_,rfl,a,_,rfl,hS,λp1 H1 n1 s1 e1=>?_⟩;refine⟨p1,_,rfl,.inl (SqL.of e1),λcl H2 n2 s2 e2=>⟨(by show 4<=sizeLine;decide),λtp H3 n3 s3 e3=>?_⟩⟩;have T3:Tape cl H3 tp 0:=⟨cs,0,0,0,e3,by rw[s3 _ _ e2,em],hm,by decide,by decide⟩;have p30:(10000:Int)<2^30:=by decide
   have p40:(10000:Int)<2^40:=by decide
   refine RI rfl T3 (by omega) (by decide) (by decide) λr H5 r0 r1 T5 b5=>⟨_,_,rfl,rfl, ?_⟩;obtain⟨rn,rfl⟩:=Int.eq_ofNat_of_zero_le r0;have em:(1:Int)+(rn:Int)=((rn+1:Nat):Int):=by omega
   dsimp only;rw[em];have m1:1<=rn+1:=by omega
   have m3:rn+1<=3:=by omega
   generalize rn+1=aa at m1 m3;refine⟨_,rfl,_,rfl,tp,aa,_,rfl,m3,cl,T5,by omega,λbl bx bs H6 nbl b6 T6 hbl pb lb=>?_⟩;have blt:=(T5.off nbl).1;refine⟨_,rfl,_,rfl,bl,aa,bx,bs,rfl,m1,m3,hbl,pb,lb,λl xs Es H7 nl s7 hl pr lE ok=>?_⟩;have lt:=(T6.off nl).1;have lx:xs.length=Es.length:=Paired.length pr;refine⟨_,rfl,l,rfl,⟨xs,SqL.of hl⟩,λhd H8 n8 s8 e8=>?_⟩;refine xQ (K:=K) (a:=l) (xs:=xs) (HnI H7 hd aa Es) (by rw[lx,lE,sizeLine_eq];omega) ⟨s8,e8,[],.nil,.nil,λ_ h=>nomatch h⟩ (λj ys H9 h=>⟨SqL.of (h.s _ _ hl),h.e⟩) ?_ ?_
   ·intro j m ys x H9 hx hm' hy h;obtain⟨Ei,hEi,di,rfl,fq⟩:=Paired.at pr hx;have fq9:=fq.kp (Kp.of h.s);refine⟨zJ,_,rfl,_,rfl, ?_⟩;dsimp only[tNil,List.append_nil];refine HL rfl fq9.rd fq9.db m1 (by decide) (by decide) λp ts H10 n10 s10 hP pm=>?_;exact QU h n8 hx hm' hy hEi fq9 (ok j Ei hEi).dn s10 hP pm
   ·rintro ys H9 hy ⟨s9,e9,ad,ps,pt,nb⟩;rw[lx,mT]at pt;have lt':ad.length=Es.length:=Paired.length pt;have T9:=T6.mono (s7.trans s9) (tV _);have hdt:=(T6.mono s7 (tV _)).off n8;try dsimp only[kT]
    refine⟨_,rfl,_,rfl,tp,aa,_,rfl,m1,m3,cl,T9,by omega,λd E1 H10 nd b10 T10 e10 db10=>?_⟩;have k10:=Kp.butT b10 T9;refine⟨_,rfl,_,rfl,_,rfl,d,_,rfl,e10,λo=>?_⟩;have k11:Kp H10 (upd H10 d (.frz o (.dT (E1.map Ent.kv)))):=Kp.upd e10 trivial;have e11:(upd H10 d (.frz o (.dT (E1.map Ent.kv)))) d=some (.frz o (.dT (E1.map Ent.kv))):=jE;have dt:=T10.ne e10 (λ_ z=>by cases z);have dl:∀{c:Addr} {zs:List V},H10 c=some (.lst zs)->(upd H10 d (.frz o (.dT (E1.map Ent.kv)))) c=some (.lst zs):=fun {c zs} h=>by
     rw[jO λz=>by rw[z,e10]at h;cases h];exact h
    have S11:S36 aa cl tp bl l d hd bx xs ys bs Es E1 ad 200 (upd H10 d (.frz o (.dT (E1.map Ent.kv)))):=⟨T10.upd _ dt.1 dt.2 (by omega),dl (b10 _ _ ((s7.trans s9) _ _ hbl) blt),Paired.to (λ_ _ q=>q.kp (((Kp.of (s7.trans s9)).trans k10).trans k11)) pb,dl (b10 _ _ (s9 _ _ hl) lt),Paired.to (λ_ _ q=>q.kp (((Kp.of s9).trans k10).trans k11)) pr,dl (b10 _ _ e9 hdt.1),Paired.to (λ_ _ ⟨p,e,q⟩=>⟨p,e,q.kp (k10.trans k11)⟩) ps,⟨o,e11⟩,(db10.kp k11)⟩;generalize upd H10 d (.frz o (.dT (E1.map Ent.kv)))=H11 at S11;clear pr ps dl k11 e11;refine⟨bl,d,aa,bx,bs,E1,rfl,m1,m3,S11.hb,S11.pb,lb,S11.f1,λrd Du H12 s12 e12 eqD dd dn=>?_⟩;have S12:=S11.same s12;exact hTT _ _ (.mk m1 m3 lb lE ok pt nb blt lt hdt.1 S12 e12 eqD dd dn)
  ·intro σ12 H12 j12;cases j12 with
   | @mk aa cl tp bl l d hd rd bx xs ys bs Es E1 ad Du _ m1 m3 lb lE ok pt nb blt lt hdt S12 e12 eqD dd dn=>
   have pb:=S12.pb;have lt':ad.length=Es.length:=Paired.length pt;have lx:xs.length=Es.length:=Paired.length S12.pr;have bt:=box_t (lo:=λj=>(bs.getD j (0,0)).1) (hi:=λj=>(bs.getD j (0,0)).2) pt lE λi E hE=>(ok i E hE).sd;have le:∀j,j<aa->(λj=>(bs.getD j ((0:Rat),(0:Rat))).1) j<=(λj=>(bs.getD j ((0:Rat),(0:Rat))).2) j:=λj hj=>by
    have hx:j<bx.length:=by rw[Paired.length pb];omega
    obtain⟨b,hb',bxp⟩:=Paired.at pb (gE hx);have:bs.getD j (0,0)=b:=by rw[uY,hb'];rfl
    show(bs.getD j (0,0)).1<=(bs.getD j (0,0)).2;rw[this];exact bxp.lt
   have kb:=ZE bt le;have szD:SzR 3410 Du:=⟨hJ (tD dn (gZ _ dd)) (by rw[<-tU];exact qN (by decide)),hJ dd (qN (by decide))⟩;have dp:=Du.den_pos;have t6:ad.length<=6:=by omega
   have e6:Es.length<=6:=by omega
   have low:∀{ts:List Trm} {E:List Ent},Same2 aa ts E->uJ aa ad (jL aa ts)=2/\zQ aa ad (jL aa ts)=cf (pl E) (jH aa aa)+crS (λj=>cf (pl E) (jH aa j)) bs aa:=fun {ts E} s=>by
    have:=UJ (qA aa ts) bt le;exact⟨this.1,this.2.trans (crn_val s)⟩
   try dsimp only[kT]
   refine VJ (fun σ H=>∃v8,σ=[some (.ref a),some (.ref tp),some (.int (aa:Int)),some (.ref bl),some (.ref l),some (.ref hd),some (.ref d),some (.ref rd),v8,none,none]/\S36 aa cl tp bl l d hd bx xs ys bs Es E1 ad 200 H/\At2 H rd Du.num Du.den) (λTT hTT=>?_) ?_
   ·refine⟨_,rfl,hd,_,rfl,.inl (SqL.of S12.hh),λl13 H13 n13 s13 e13=>?_⟩;have S13:=S12.same s13;dsimp only[tNil,List.append_nil];refine⟨l13,ys,aa,zR 5,ad,rfl,⟨e13,S13.ps⟩,tP _,m1,m3,by decide,by decide,by omega,t6,nb,λp H14 np s14 kk=>?_⟩;rw[kb]at kk;have S14:=S13.same s14;have rd14:=(s13.trans s14) _ _ e12;cases kk with
    | @kept q ks e sp k1=>
    have q1:=SqT.of (K:=K) e;refine rvT rfl q1 rfl ⟨rfl,_,rfl,vA (by decide) ?_⟩;refine⟨_,rfl,_,rfl,rvT rfl q1 rfl ?_⟩;dsimp only[tNil,List.append_nil];refine OD rfl m3 S14.hl S14.pr e6 sp (MU pt sp.len k1) λH15 s15=>⟨_,rfl,yR ?_⟩;have S15:=S14.same s15;have rd15:=s15 _ _ rd14;exact hTT _ _ ⟨_,rfl,S15,rd15⟩
   rintro _ H15 ⟨v15,rfl,S15,rd15⟩;clear S12;obtain⟨D1,D10,D11,D12⟩:=YS S15.f1.db;try dsimp only[kT]
   refine uR (fun σ H=>∃v8,σ=[some (.ref a),some (.ref tp),some (.int (aa:Int)),some (.ref bl),some (.ref l),some (.ref hd),some (.ref d),some (.ref rd),v8,none,none]/\S36 aa cl tp bl l d hd bx xs ys bs Es E1 ad 200 H/\At2 H rd Du.num Du.den) (λTT hTT=>?_) ?_
   ·refine⟨_,rfl,_,rfl, ?_⟩;dsimp only[tNil,List.append_nil];refine HL rfl S15.f1.rd S15.f1.db m1 (by decide) (by decide) λq2 ts1 H16 n16 s16 hP1 pm1=>?_;have S16:=S15.same s16;have sm1:=KH hP1 uU S16.f1 uU pm1;have nb1:NumsB aa ts1 650:=AI (d:=56) hP1 uU pm1 D10 D11 D12 (by decide);obtain⟨lw1,ln1⟩:=low sm1;rw[<-eqD]at ln1;refine⟨_,rfl,hd,_,rfl,.inl (SqL.of S16.hh),λl17 H17 n17 s17 e17=>?_⟩;have S17:=S16.same s17;dsimp only[tNil,List.append_nil];refine⟨q2,l17,ys,aa,⟨1,40,56,4⟩,zR 5,ts1,ad,rfl,hP1.kp (Kp.of s17),⟨e17,S17.ps⟩,tP _,tP _,m1,m3,by decide,by decide,by decide,by decide,t6,nb1,nb,λp2 H18 np2 s18 lk=>?_⟩;rw[lw1]at lk;have S18:=S17.same s18;have rd18:=(s16.trans (s17.trans s18)) _ _ rd15;cases lk with
    | @least n q r ks ws e nr nn ns sp w k1 k2 c0 c1=>
    rw[ln1]at nn ns k2 c1;have q1:=SqT.of (K:=K) e;refine rvT rfl q1 rfl ⟨rfl,_,rfl,vA (by decide) ?_⟩;refine rvT rfl q1 rfl ⟨_,rfl,n,rd,[Du.num,Du.den],[Du.num,Du.den],rfl,rfl,SqT.of nn,SqT.of rd18,_,rfl,vA LD ?_⟩;refine⟨_,rfl,_,rfl,rvT rfl q1 rfl ?_⟩;dsimp only[tNil,List.append_nil];refine OD rfl m3 S18.hl S18.pr e6 sp (MU pt sp.len k1) λH19 s19=>⟨_,rfl,yR ?_⟩;have S19:=S18.same s19;have sp19:=sp.kp (Kp.of s19);obtain⟨us,hus,pus⟩:=sp19.ex;have vs:=sm1.ln sp.len;refine⟨_,rfl,rvT rfl (kI s19 q1) rfl ⟨d,q,aa,6630,6630,56,⟨1,40,56,4⟩,E1,us,ks,rfl,S19.f1,tP _,hus,pus,sp19.len,sp19.b,by decide,S19.f1.db.kb,by decide,by decide,λr3 T0 B0 H20 n20 s20 e20 pB bB bT vT=>?_⟩⟩;have bT':T0.natAbs<2^50000:=vQ bT bB (by decide);have bB':B0.natAbs<2^50000:=vD bB (by decide);have s1920:=s19.trans s20;have rd20:=s1920 _ _ rd18;refine⟨_,rfl,r3,rd,T0,B0,Du.num,Du.den,rfl,e20,rd20,bT',bB',Nat.lt_trans szD.1 (qN (by decide)),by rw[mD];exact Nat.lt_trans szD.2 (qN (by decide)), ?_⟩;rw[nH (fv_like pB (vT.trans (vs.trans k2)))];refine⟨_,rfl,yR ?_⟩;have S20:=S19.same s20;refine⟨_,rfl,_,rfl,_,rfl,rvT rfl (kI s1920 q1) rfl ⟨_,rfl, ?_⟩⟩;dsimp only[tNil,List.append_nil];refine YU (ws:=ws) rfl m1 m3 rd20 szD S20.hl S20.pr (lt'▸w.same s1920) e6 S20.f1 (by decide) (S20.f1.db.kb.up λ_=>by decide) (wc_so pt sm1 w.len c0 c1) λH21 s21=>⟨_,rfl,yR ?_⟩;have S21:=S20.same s21;have rd21:=s21 _ _ rd20;exact hTT _ _ ⟨_,rfl,S21,rd21⟩
   rintro _ H21 ⟨v21,rfl,S21,rd21⟩;clear S15;try dsimp only[kT]
   refine VL (fun σ H=>∃v8,σ=[some (.ref a),some (.ref tp),some (.int (aa:Int)),some (.ref bl),some (.ref l),some (.ref hd),some (.ref d),some (.ref rd),v8,none,none]/\S36 aa cl tp bl l d hd bx xs ys bs Es E1 ad 200 H/\At2 H rd Du.num Du.den) (λTT hTT=>?_) ?_
   ·refine⟨_,rfl,_,rfl, ?_⟩;dsimp only[tNil,List.append_nil];refine HL rfl S21.f1.rd S21.f1.db m1 (by decide) (by decide) λq3 ts2 H22 n22 s22 hP2 pm2=>?_;have S22:=S21.same s22;have sm2:=KH hP2 uU S22.f1 uU pm2;have nb2:NumsB aa ts2 650:=AI (d:=56) hP2 uU pm2 D10 D11 D12 (by decide);obtain⟨lw2,ln2⟩:=low sm2;rw[<-eqD]at ln2;refine⟨_,rfl,hd,_,rfl,.inl (SqL.of S22.hh),λl23 H23 n23 s23 e23=>?_⟩;have S23:=S22.same s23;dsimp only[tNil,List.append_nil];refine YT rfl (hP2.kp (Kp.of s23)) ⟨e23,S23.ps⟩ uU uU m1 m3 (by decide) (by decide) (by decide) (by decide) t6 nb2 nb λp3 H24 np3 s24 ok3=>?_;rw[WI lw2 ln2]at ok3;obtain⟨r24,w24⟩:=ok3.word;have S24:=S23.same s24;have rd24:=(s22.trans (s23.trans s24)) _ _ rd21;refine⟨p3,_,_,_,rfl,rfl,SqT.of w24,AQ (j:=0) rfl,rfl,rvT rfl (SqT.of rd24) rfl ⟨_,_,rfl,rfl,rfl,_,rfl,vA ?_ ?_⟩⟩
    ·rw[so_iff];simp
    exact hTT _ _ ⟨_,rfl,S24,rd24⟩
   rintro _ H24 ⟨v24,rfl,S24,rd24⟩;clear S21;try dsimp only[kT]
   refine uR (fun σ H=>∃v8 dm E2,σ=[some (.ref a),some (.ref tp),some (.int (aa:Int)),some (.ref bl),some (.ref l),some (.ref hd),some (.ref d),some (.ref rd),v8,some (.ref dm),none]/\S36 aa cl tp bl l d hd bx xs ys bs Es E1 ad 200 H/\FQ H dm aa ⟨1,89,364,4⟩ E2/\∀m,cf (pl E2) m=cf (pl E1) m+if jH aa aa=m then -Du else 0) (λTT hTT=>?_) ?_
   ·have f24:FQ H24 d aa ⟨1,88,56,4⟩ E1:=⟨S24.f1.fr,S24.f1.db.up uU (by decide) uU uU⟩;refine⟨_,rfl,_,rfl,_,rfl,d,rd,aa,308,⟨1,88,56,4⟩,E1,Du.num,Du.den,rfl,m1,m3,f24,rfl,rfl,by decide,by decide,by decide,SqT.of rd24,by omega,by rw[mD];exact dd,by rw[mD];exact dn,λdm E2 H25 n25 s25 e25 db25 c25=>?_⟩;have db25:Lw.DB H25 aa ⟨1,89,364,4⟩ E2:=db25;rw[qQ]at c25;have S25:=S24.same s25;refine⟨_,rfl,_,rfl,dm,_,rfl,e25,λo26=>?_⟩;have S26:=S25.frz e25 o26;have k26:Kp H25 (upd H25 dm (.frz o26 (.dT (E2.map Ent.kv)))):=Kp.upd e25 trivial;have e26:(upd H25 dm (.frz o26 (.dT (E2.map Ent.kv)))) dm=some (.frz o26 (.dT (E2.map Ent.kv))):=jE;have f26:FQ (upd H25 dm (.frz o26 (.dT (E2.map Ent.kv)))) dm aa ⟨1,89,364,4⟩ E2:=⟨⟨o26,e26⟩,db25.kp k26⟩;generalize upd H25 dm (.frz o26 (.dT (E2.map Ent.kv)))=H26 at S26 f26;clear S24 S25 f24 k26 e26 e25;obtain⟨D2,D20,D21,D22⟩:=YS f26.db;try dsimp only[tNil,List.append_nil]
    refine HL rfl f26.rd f26.db m1 (by decide) (by decide) λq4 ts3 H27 n27 s27 hP3 pm3=>?_;have S27:=S26.same s27;have f27:=f26.kp (Kp.of s27);have sm3:=KH hP3 uU f27 uU pm3;have nb3:NumsB aa ts3 650:=AI (d:=364) hP3 uU pm3 D20 D21 D22 (by decide);obtain⟨lw3,ln3⟩:=low sm3;rw[BJ c25,<-eqD,show Du + -Du=0 by grind]at ln3;refine⟨_,rfl,hd,_,rfl,.inl (SqL.of S27.hh),λl28 H28 n28 s28 e28=>?_⟩;have S28:=S27.same s28;dsimp only[tNil,List.append_nil];refine YT rfl (hP3.kp (Kp.of s28)) ⟨e28,S28.ps⟩ uU uU m1 m3 (by decide) (by decide) (by decide) (by decide) t6 nb3 nb λp4 H29 np4 s29 ok4=>?_;rw[WI lw3 ln3,dA (by decide)]at ok4;have S29:=S28.same s29;have f29:=f27.kp (Kp.of (s28.trans s29));cases ok4 with
    | @so n r ws e nr nn ns n0 w c0 c1=>
    rw[ln3]at nn c1;have q1:=SqT.of (K:=K) e;refine rvT rfl q1 rfl ⟨rfl,_,rfl,vA (by decide) ?_⟩;refine rvT rfl q1 rfl ⟨uX,λz30 H30 n30 s30 e30=>⟨n,z30,[0,1],[0,1],rfl,rfl,SqT.of (s30 _ _ nn),SqT.of e30,_,rfl,vA LD ?_⟩⟩;refine⟨_,rfl,uX,λz31 H31 n31 s31 e31=>?_⟩;have s2931:=s30.trans s31;have S31:=S29.same s2931;have f31:=f29.kp (Kp.of s2931);refine⟨_,rfl,rvT rfl (kI s2931 q1) rfl ⟨_,rfl, ?_⟩⟩;dsimp only[tNil,List.append_nil];refine YU (T:=0) (ws:=ws) rfl m1 m3 e31 ⟨by decide,by decide⟩ S31.hl S31.pr (lt'▸w.same s2931) e6 f31 (by decide) (f31.db.kb.up λ_=>by decide) (wc_so pt sm3 w.len c0 c1) λH32 s32=>⟨_,rfl,yR ?_⟩;have S32:=S31.same s32;have f32:=f31.kp (Kp.of s32);exact hTT _ _ ⟨_,_,_,rfl,S32,f32,c25⟩
   rintro _ H32 ⟨v32,dm,E2,rfl,S32,f32,c25⟩;clear S24;try dsimp only[kT]
   refine uR (fun σ H=>∃v8 v9,σ=[some (.ref a),some (.ref tp),some (.int (aa:Int)),some (.ref bl),some (.ref l),some (.ref hd),some (.ref d),some (.ref rd),v8,v9,none]/\S36 aa cl tp bl l d hd bx xs ys bs Es E1 ad 202 H) (λTT hTT=>?_) ?_
   ·have p10:CPow 10 9:=⟨by decide,by decide,by decide⟩;have e9':(10:Int)^(9:Int).toNat=1000000000:=by decide +kernel
    refine⟨_,rfl,_,rfl,RI rfl S32.T (by omega) (by decide) (by decide) λa1 H33 a10 a11 T33 b33=>⟨_,_,rfl,rfl, ?_⟩⟩;refine⟨_,rfl,_,_,rfl,rfl,p10,tp,_,_,rfl,cl,T33,by omega,by decide,by decide,λa2 H34 a20 a21 T34 b34=>⟨_,_,rfl,rfl,uX,λz35 H35 n35 s35 e35=>?_⟩⟩;rw[e9']at a21;have b3235:=(b33.trans b34).trans (But.of s35);have S35:S36 aa cl tp bl l d hd bx xs ys bs Es E1 ad 202 H35:=S32.drawn blt lt hdt b3235 ((T34.mono s35 (tV _)).mono (Same.refl _) (by omega));have f35:=f32.kp (Kp.butT b3235 S32.T);refine⟨dm,z35,aa,30,⟨1,89,364,4⟩,E2,1+a1,1+a2,rfl,m1,m3,f35,rfl,rfl,by decide,by decide,by decide,SqT.of e35,by omega,by show(1+a2).natAbs<=1073741824;omega, ?_,λd3 E3 H36 n36 s36 e36 db36 c36=>?_⟩
    ·exact tD (show(1+a1).natAbs<=2^4 by omega) (tD (qH (by decide)) (gG _ (by omega)))
    have db36:Lw.DB H36 aa ⟨1,90,394,4⟩ E3:=db36;have S36':=S35.same s36;refine⟨_,rfl,_,rfl,d3,_,rfl,e36,λo37=>?_⟩;have S37:=S36'.frz e36 o37;have k37:Kp H36 (upd H36 d3 (.frz o37 (.dT (E3.map Ent.kv)))):=Kp.upd e36 trivial;have e37:(upd H36 d3 (.frz o37 (.dT (E3.map Ent.kv)))) d3=some (.frz o37 (.dT (E3.map Ent.kv))):=jE;have f37:FQ (upd H36 d3 (.frz o37 (.dT (E3.map Ent.kv)))) d3 aa ⟨1,90,394,4⟩ E3:=⟨⟨o37,e37⟩,db36.kp k37⟩;generalize upd H36 d3 (.frz o37 (.dT (E3.map Ent.kv)))=H37 at S37 f37;clear S32 S35 S36' f32 f35 k37 e37 e36;obtain⟨D3,D30,D31,D32⟩:=YS f37.db;try dsimp only[tNil,List.append_nil]
    refine HL rfl f37.rd f37.db m1 (by decide) (by decide) λq5 ts4 H38 n38 s38 hP4 pm4=>?_;have S38:=S37.same s38;have f38:=f37.kp (Kp.of s38);have sm4:=KH hP4 uU f38 uU pm4;have nb4:NumsB aa ts4 650:=AI (d:=394) hP4 uU pm4 D30 D31 D32 (by decide);obtain⟨lw4,ln4⟩:=low sm4;rw[BJ c36,BJ c25,<-eqD,show Du + -Du + -(fv (1+a1) (1+a2)) = -(fv (1+a1) (1+a2)) by grind]at ln4;have ng:(-(fv (1+a1) (1+a2))).num<0:=by
     have h0:(0:Rat)<fv (1+a1) (1+a2):=CY (by exact_mod_cast (show(0:Int)<1+a1 by omega)) (by exact_mod_cast (show(0:Int)<1+a2 by omega));exact mL (by rw[CP];exact nH (by grind))
    refine⟨_,rfl,hd,_,rfl,.inl (SqL.of S38.hh),λl39 H39 n39 s39 e39=>?_⟩;have S39:=S38.same s39;dsimp only[tNil,List.append_nil];refine YT rfl (hP4.kp (Kp.of s39)) ⟨e39,S39.ps⟩ uU uU m1 m3 (by decide) (by decide) (by decide) (by decide) t6 nb4 nb λp5 H40 np5 s40 ok5=>?_;rw[WI lw4 ln4,dC ng]at ok5;have S40:=S39.same s40;have f40:=f38.kp (Kp.of (s39.trans s40));cases ok5 with
    | @below q ks e sp k1 k2=>
    have q1:=SqT.of (K:=K) e;refine rvT rfl q1 rfl ⟨rfl,_,rfl,vA (by decide) ?_⟩;refine⟨_,rfl,_,rfl,rvT rfl q1 rfl ?_⟩;dsimp only[tNil,List.append_nil];refine OD rfl m3 S40.hl S40.pr e6 sp (MU pt sp.len k1) λH41 s41=>⟨_,rfl,yR ?_⟩;have sp41:=sp.kp (Kp.of s41);obtain⟨us5,hus5,pus5⟩:=sp41.ex;refine⟨_,rfl,rvT rfl (kI s41 q1) rfl ⟨d3,q,aa,6630,6630,394,⟨1,90,394,4⟩,E3,us5,ks,rfl,f40.kp (Kp.of s41),tP _,hus5,pus5,sp41.len,sp41.b,by decide,f40.db.kb,by decide,by decide,λr5 T5' B5 H42 n42 s42 e42 pB5 _ _ vT5=>?_⟩⟩;have tn5:T5'<0:=OM pB5 (by rw[vT5,sm4.ln sp.len];exact k2);refine⟨r5,_,_,_,rfl,rfl,SqT.of e42,rfl,_,_,rfl,rfl,_,rfl,vA (nB (by omega)) ?_⟩;have S42:=S40.same (s41.trans s42);exact hTT _ _ ⟨_,_,rfl,S42⟩
   rintro _ H42 ⟨v42,w42,rfl,S42⟩;clear S32 f32;have us0:=xV aa aa;have hz:List.replicate aa (V.int 0)=(jH aa aa).map V.int:=by rw[zB];simp
   have lxs:xs.length=2*aa:=by rw[lx,lE]
   try dsimp only[kT]
   refine uR (fun σ H=>∃v8 v9 v10 dd' E4 hv,σ=[some (.ref a),some (.ref tp),some (.int (aa:Int)),some (.ref bl),some (.ref l),some (.ref hd),some (.ref d),some (.ref rd),v8,v9,v10]/\dd'≠l/\H l=some (.lst (xs.set (2*aa-1) (.ref dd')))/\H dd'=some (.dT (E4.map Ent.kv))/\Lw.DB H aa (zR 5) E4/\Paired (RmP H aa (zR 5)) xs Es/\SdE aa E4 (aa-1) (-1) hv/\(∃D:Int,0<D/\D.natAbs<=2^28/\Dn D (cf (pl E4)))/\hv<(bs.getD (aa-1) (0,0)).1) (λTT hTT=>?_) ?_
   ·have lbx:bx.length=(aa-1)+1:=by rw[Paired.length pb];omega
    obtain⟨bb,hbb,bxp⟩:=Paired.at S42.pb (gE (show aa-1<bx.length by omega));obtain⟨pq,y1,y2,epq,g1,g2,g3⟩:=bxp.ex;have lastb:atI bx (-1)=some (.ref pq):=AJ lbx (by rw[gE (show aa-1<bx.length by omega),epq]);have gbb:bs.getD (aa-1) (0,0)=bb:=by rw[uY,hbb];rfl
    refine⟨_,rfl,_,rfl,bl,_,_,_,rfl,rfl,SqL.of S42.hb,lastb,pq,_,_,_,rfl,rfl,SqT.of g1,rfl,_,rfl,RI rfl S42.T (by omega) (by decide) (by decide) λa3 H43 a30 a31 T43 b43=>⟨_,_,rfl,rfl,uX,λz44 H44 n44 s44 e44=>?_⟩⟩;have b4244:=b43.trans (But.of s44);have S44:S36 aa cl tp bl l d hd bx xs ys bs Es E1 ad 203 H44:=S42.drawn blt lt hdt b4244 ((T43.mono s44 (tV _)).mono (Same.refl _) (by omega));have k44:=Kp.butT b4244 S42.T;have dp1:=bb.1.den_pos;refine⟨y1,z44,bb.1.num,bb.1.den,-1,1+a3,rfl,k44.tup _ _ g2,e44,by omega,by omega,hJ bxp.ln (qN (by decide)),by rw[mD];exact hJ bxp.ld (qN (by decide)),Nat.one_lt_two_pow (by decide),hJ (show(1+a3).natAbs<=2^7 by omega) (qN (by decide)),λr45 t45 b45 H45 n45 s45 e45 pb45 lb45 eq45=>?_⟩;have v45:fv t45 b45=bb.1+(-1:Rat)/((1+a3:Int):Rat):=by
     have:=BI (show(0:Int)<bb.1.den by omega) (show(0:Int)<1+a3 by omega) pb45 eq45;have h1:=qQ bb.1;unfold fv at h1 ⊢;rw[this,h1]
     rfl
    have b45':b45.natAbs<=2^21:=tD lb45 (by
     rw[mD];have:=nK bxp.ld (show(1+a3).natAbs<=2^7 by omega);rw[<-tU]at this;exact this)
    have t45':t45.natAbs<=2^42*b45.natAbs:=by
     have:=zE (v:=41) (show(0:Int)<bb.1.den by omega) (show(0:Int)<1+a3 by omega) eq45 (tD bxp.ln (tD (qH (by decide)) (gG _ (by omega)))) (by
      show 1<=2^41*(1+a3).natAbs;exact tD mE (gG _ (by omega)))
     exact this
    have S45:=S44.same s45;clear S42 S44 k44 T43 g1 g2 g3;intro dd' ndd;have sd:Same H45 (upd H45 dd' (.dT [])):=jY _ ndd;have ed:(upd H45 dd' (.dT [])) dd'=some (.dT []):=jE;generalize upd H45 dd' (.dT [])=H46 at sd ed;refine⟨uW,λz47 H47 n47 s47 e47=>⟨_,rfl,_,_,rfl,rfl,z47,aa-1,_,rfl,by show V.int ((aa:Int)-1)=V.int ((aa-1:Nat):Int);congr 1;omega,e47,by omega,λzr H48 s48 e48=>⟨uW,λz49 H49 n49 s49 e49=>⟨zr,z49,_,_,rfl,rfl,s49 _ _ e48,e49,by rw[gM,sizeLine_eq];show aa-1+1<=_;omega,λkb' H50 s50 e50=>⟨_,rfl,uX,λz51 H51 n51 s51 e51=>?_⟩⟩⟩⟩⟩;have hkey:List.replicate (aa-1) (V.int 0)++[V.int 1]=(jH aa (aa-1)).map V.int:=RT m1;rw[hkey]at e50;have sd51:=s47.trans (s48.trans (s49.trans (s50.trans s51)));have ed51:=sd51 _ _ ed;refine⟨ed51,kb',LwD.ik (jH aa (aa-1)),rfl,by rw[LwD.xB];exact s51 _ _ e50, ?_⟩;have s4552:Same H45 (upd H51 dd' (.dT [(LwD.ik (jH aa (aa-1)),.ref z51)])):=jZ (sd.trans sd51) ndd;have k52:Kp H51 (upd H51 dd' (.dT [(LwD.ik (jH aa (aa-1)),.ref z51)])):=Kp.upd ed51 trivial;have e52:(upd H51 dd' (.dT [(LwD.ik (jH aa (aa-1)),.ref z51)])) dd'=some (.dT (([⟨jH aa (aa-1),z51,-1,1,1⟩]:List Ent).map Ent.kv)):=jE;have z52:=k52.tup _ _ e51;generalize upd H51 dd' (.dT [(LwD.ik (jH aa (aa-1)),.ref z51)])=H52 at s4552 k52 e52 z52;have S52:=S45.same s4552;have us1:=xV aa (aa-1)
    have db52:Lw.DB H52 aa ⟨1,42,1,1⟩ [⟨jH aa (aa-1),z51,-1,1,1⟩]:=⟨by simp,λx hx=>by
     rw[mC]at hx;subst hx;exact⟨qE ..,us1.2,us1.1,z52,by show(0:Int)<1;decide,by show(-1:Int)≠0;decide,by show(1:Nat)<=2^1;decide,by show(1:Nat)<=2^42*1;decide⟩,tP _,tP _⟩
    refine⟨_,rfl,_,rfl,l,xs,_,2*aa-1,rfl,rfl,S52.hl, ?_, ?_⟩
    ·unfold ixN;rw[dA (by decide),dC (by omega)]
     congr 1
     omega
    have k53:Kp H52 (upd H52 l (.lst (xs.set (2*aa-1) (.ref dd')))):=Kp.upd S52.hl trivial;have l53:(upd H52 l (.lst (xs.set (2*aa-1) (.ref dd')))) l=some (.lst (xs.set (2*aa-1) (.ref dd'))):=jE;have dl:dd'≠l:=λz=>by rw[z,S45.hl]at ndd;cases ndd
    have e53:(upd H52 l (.lst (xs.set (2*aa-1) (.ref dd')))) dd'=some (.dT (([⟨jH aa (aa-1),z51,-1,1,1⟩]:List Ent).map Ent.kv)):=by rw[jO dl];exact e52
    have r53:=k53.tup _ _ (s4552 _ _ e45);have pr53:=Paired.to (λ_ _ q=>RmP.kp q k53) S52.pr;have db53:=db52.kp k53;generalize upd H52 l (.lst (xs.set (2*aa-1) (.ref dd')))=H53 at k53 l53 e53 r53 pr53 db53;clear S45 S52 s4552 k52 e52 z52 db52;have lset:(xs.set (2*aa-1) (V.ref dd')).length=(2*aa-1)+1:=by rw[List.length_set];omega
    have last53:atI (xs.set (2*aa-1) (V.ref dd')) (-1)=some (.ref dd'):=AJ lset (by rw[List.getElem?_set_self (by omega)]);refine⟨_,rfl,_,rfl,l,_,_,_,rfl,rfl,SqL.of l53,last53,uW,λz54 H54 n54 s54 e54=>⟨_,rfl,z54,aa,_,rfl,rfl,e54,m1,by omega,λzb55 H55 s55 e55=>⟨_,rfl, ?_⟩⟩⟩;rw[hz]at e55;have s5355:=s54.trans s55;refine⟨dd',zb55,r45,jH aa aa,t45,b45,aa,21,⟨1,42,1,1⟩,_,λ_=>1,rfl,s5355 _ _ e53,db53.kp (Kp.of s5355),db53.kb,by show 1<=40000;decide,by decide,by decide,by decide,e55,qE ..,us0.2,us0.1,s5355 _ _ r53,pb45,b45',t45',λE4 H56 b56 e56 db56 _ c56=>?_⟩;have k56:Kp H53 H56:=(Kp.of s5355).trans (Kp.but b56 (s5355 _ _ e53) trivial);have l56:=b56 _ _ (s5355 _ _ l53) (Ne.symm dl);have sd4:SdE aa E4 (aa-1) (-1) (fv t45 b45):=λm=>by
     rw[c56];show(if jH aa (aa-1)=m then((-1:Int):Rat)/((1:Int):Rat)else 0)+0+_=_;have:((-1:Int):Rat)/((1:Int):Rat) = -1:=by
      rw[show((-1:Int):Rat) = -1 from rfl,show((1:Int):Rat)=1 from rfl];grind
     rw[this,tH]
     rfl
    have dn4:∃D:Int,0<D/\D.natAbs<=2^28/\Dn D (cf (pl E4)):=⟨b45,pb45,tD b45' (qH (by decide)),λm=>by
     rw[sd4];have h0:=cne pb45;by_cases c1:jH aa (aa-1)=m
     ·by_cases c2:jH aa aa=m
      ·exact⟨-b45+t45,by rw[dC c1,dC c2,Rat.intCast_add,nG];unfold fv;generalize ((b45:Int):Rat)=U at *;grind⟩
      ·exact⟨-b45,by rw[dC c1,dA c2,nG];grind⟩
     ·by_cases c2:jH aa aa=m
      ·exact⟨t45,by rw[dA c1,dC c2];unfold fv;generalize ((b45:Int):Rat)=U at *;grind⟩
      ·exact⟨0,by rw[dA c1,dA c2,tH,tI];rfl⟩⟩
    have pr56:Paired (RmP H56 aa (zR 5)) xs Es:=Paired.to (λ_ _ q=>RmP.kp q k56) pr53;have hlt:fv t45 b45<(bs.getD (aa-1) (0,0)).1:=by
     rw[gbb,v45];have h0:(0:Rat)<((1+a3:Int):Rat):=by exact_mod_cast (show(0:Int)<1+a3 by omega)
     have:=CY (a:=1) (b:=((1+a3:Int):Rat)) (by decide) h0;have e:(-1:Rat)/((1+a3:Int):Rat) = -(1/((1+a3:Int):Rat)):=by rw[tT,tT,Rat.neg_mul]
     rw[e]
     grind
    exact hTT _ _ ⟨_,_,_,dd',E4,fv t45 b45,rfl,dl,l56,e56,db56.up uU (by decide) (by decide) (by decide),pr56,sd4,dn4,hlt⟩
   rintro _ H56 ⟨v8,v9,v10,dd',E4,hv,rfl,dl,l56,e56,db56,pr56,sd4,dn4,hlt⟩;clear S42;refine⟨_,rfl,dd',_,e56,λo57=>?_⟩;have k57:Kp H56 (upd H56 dd' (.frz o57 (.dT (E4.map Ent.kv)))):=Kp.upd e56 trivial;have e57:(upd H56 dd' (.frz o57 (.dT (E4.map Ent.kv)))) dd'=some (.frz o57 (.dT (E4.map Ent.kv))):=jE;have l57:(upd H56 dd' (.frz o57 (.dT (E4.map Ent.kv)))) l=some (.lst (xs.set (2*aa-1) (.ref dd'))):=by rw[jO (Ne.symm dl)];exact l56
   have f57:FQ (upd H56 dd' (.frz o57 (.dT (E4.map Ent.kv)))) dd' aa (zR 5) E4:=⟨⟨o57,e57⟩,db56.kp k57⟩;have pr57:Paired (RmP (upd H56 dd' (.frz o57 (.dT (E4.map Ent.kv)))) aa (zR 5)) (xs.set (2*aa-1) (.ref dd')) (Es.set (2*aa-1) E4):=uH ⟨dd',rfl,f57⟩ _ (Paired.to (λ_ _ q=>RmP.kp q k57) pr56);generalize upd H56 dd' (.frz o57 (.dT (E4.map Ent.kv)))=H57 at l57 pr57;clear pr56 k57 e57 f57;have ok':∀i E,(Es.set (2*aa-1) E4)[i]? = some E->SdE aa E (i/2) (if i%2=0 then 1 else -1) (if i%2=0 then -((bs.getD (i/2) (0,0)).1)else(if i/2=aa-1 then hv else(bs.getD (i/2) (0,0)).2))/\∃D:Int,0<D/\D.natAbs<=2^28/\Dn D (cf (pl E)):=λi E hE=>by
    by_cases c:i=2*aa-1
    ·rw[c,List.getElem?_set_self (by omega)]at hE;cases hE;rw[c,dA (by omega),dA (by omega),dC (by omega),show(2*aa-1)/2=aa-1 by omega];exact⟨sd4,dn4⟩
    ·rw[List.getElem?_set_ne (Ne.symm c)]at hE;have il:=(gC.mp hE).1;have o:=ok i E hE;refine⟨?_,o.dn⟩;have:=o.sd;by_cases c2:i%2=0
     ·rw[dC c2,dC c2]at this ⊢;exact this
     ·rw[dA c2,dA c2]at this ⊢;rw[dA (by omega)];exact this
   have lE':(Es.set (2*aa-1) E4).length=2*aa:=by rw[List.length_set,lE]
   generalize hxs:xs.set (2*aa-1) (V.ref dd')=xs' at l57 pr57;generalize hEs:Es.set (2*aa-1) E4=Es' at pr57 ok' lE';have lx':xs'.length=Es'.length:=Paired.length pr57;refine⟨l,rfl,⟨xs',SqL.of l57⟩,λhd2 H58 n58 s58 e58=>?_⟩;refine xQ (K:=K) (a:=l) (xs:=xs') (HnI H57 hd2 aa Es') (by rw[lx',lE',sizeLine_eq];omega) ⟨s58,e58,[],.nil,.nil,λ_ h=>nomatch h⟩ (λj ys2 H59 h=>⟨SqL.of (h.s _ _ l57),h.e⟩) ?_ ?_
   ·intro j m ys2 x H59 hx hm' hy2 h;obtain⟨Ei,hEi,di,rfl,fq⟩:=Paired.at pr57 hx;have fq9:=fq.kp (Kp.of h.s);refine⟨zJ,_,rfl,_,rfl, ?_⟩;dsimp only[tNil,List.append_nil];refine HL rfl fq9.rd fq9.db m1 (by decide) (by decide) λp ts H60 n60 s60 hP pm=>?_;exact QU h n58 hx hm' hy2 hEi fq9 (ok' j Ei hEi).2 s60 hP pm
   ·rintro ys2 H59 hy2 ⟨s59,e59,tss2,ps2,pt2,nb5⟩;rw[lx',mT]at pt2;have lt2:tss2.length=Es'.length:=Paired.length pt2;have bt2:=box_t (lo:=λj=>(bs.getD j (0,0)).1) (hi:=λj=>if j=aa-1 then hv else(bs.getD j (0,0)).2) pt2 lE' λi E hE=>(ok' i E hE).1;have kf:=ZD bt2 (j:=aa-1) (by omega) (by
     show(if aa-1=aa-1 then hv else _)<(bs.getD (aa-1) (0,0)).1;rw[dC rfl];exact hlt)
    refine⟨hd2,ys2,aa,zR 5,tss2,rfl,⟨e59,ps2⟩,tP _,m1,m3,by decide,by decide,by omega,by omega,nb5,λp H60 np s60 kk=>?_⟩;rw[kf]at kk;cases kk with
    | @none q ws e nq w c0 c1=>
    have q1:=SqT.of (K:=K) e;have hl60:=(s59.trans s60) _ _ l57;have pr60:=Paired.to (λ_ _ q=>RmP.kp q (Kp.of (s59.trans s60))) pr57;dsimp only[kT];refine rvT rfl q1 rfl ⟨rfl,_,rfl,xP (by decide) ?_⟩;refine⟨_,rfl,uX,λna H61 n61 s61 e61=>⟨_,rfl,rvT rfl (kI s61 q1) rfl ?_⟩⟩;intro du ndu;have sd:Same H61 (upd H61 du (.dT [])):=jY _ ndu;have ed:(upd H61 du (.dT [])) du=some (.dT []):=jE;generalize upd H61 du (.dT [])=H62 at sd ed;refine⟨uW,λz2 H63 n63 s63 e63=>⟨_,rfl,z2,aa,_,rfl,rfl,e63,m1,by omega,λb H64 s64 e64=>⟨_,rfl,uX,λz4 H65 n65 s65 e65=>?_⟩⟩⟩;rw[hz]at e64;have sd4':=s63.trans (s64.trans s65);have ed4:=sd4' _ _ ed;have b4:=s65 _ _ e64;refine⟨ed4,b,LwD.ik (jH aa aa),rfl,by rw[LwD.xB];exact b4,du,_,rfl,jE,λo=>?_⟩;have k5:Kp H65 (upd (upd H65 du (.dT [(LwD.ik (jH aa aa),.ref z4)])) du (.frz o (.dT [(LwD.ik (jH aa aa),.ref z4)]))):=(Kp.upd ed4 trivial).trans (Kp.upd jE trivial);have e5:(upd (upd H65 du (.dT [(LwD.ik (jH aa aa),.ref z4)])) du (.frz o (.dT [(LwD.ik (jH aa aa),.ref z4)]))) du=some (.frz o (.dT [(LwD.ik (jH aa aa),.ref z4)])):=jE;have s15:Same H61 (upd (upd H65 du (.dT [(LwD.ik (jH aa aa),.ref z4)])) du (.frz o (.dT [(LwD.ik (jH aa aa),.ref z4)]))):=jZ (jZ (sd.trans sd4') ndu) ndu;generalize upd (upd H65 du (.dT [(LwD.ik (jH aa aa),.ref z4)])) du (.frz o (.dT [(LwD.ik (jH aa aa),.ref z4)]))=H66 at k5 e5 s15
    have s5:=s61.trans s15;refine⟨na,l,q,du,aa,xs',Es',ws,[⟨jH aa aa,z4,-1,1,1⟩],0,⟨1,1,1,1⟩,rfl,m1,m3,s15 _ _ e61,⟨by decide,by decide⟩,s5 _ _ hl60,Paired.to (λ_ _ h=>RmP.kp h (Kp.of s5)) pr60,lt2▸w.same s5,by omega,⟨⟨o,e5⟩,⟨by simp,λx hx=>?_,tP _,tP _⟩⟩,by decide,(λx hx=>?_),λm=>?_,λH' _=>go H'⟩
    ·rw[mC]at hx;subst hx;exact⟨qE ..,us0.2,us0.1,k5.tup _ _ e65,by show(0:Int)<1;decide,by show(-1:Int)≠0;decide,by show(1:Nat)<=2^1;decide,by show(1:Nat)<=2^1*1;decide⟩
    ·rw[mC]at hx;subst hx;show 1<=40000
     decide
    ·rw[ZI pt2 w.len c0 c1];show _=(if jH aa aa=m then((-1:Int):Rat)/((1:Int):Rat)else 0)+0;have e1:((-1:Int):Rat)/((1:Int):Rat) = -1:=by
      rw[show((-1:Int):Rat) = -1 from rfl,show((1:Int):Rat)=1 from rfl];grind
     rw[e1,tH];by_cases h:m=jH aa aa
     ·rw[dC h,dC h,dC h.symm,tG]
     ·rw[dA h,dA h,dA λz=>h z.symm,tG]
end Lw
namespace Lw
open PySem PySem.Spec PyProof.Rows L2
theorem len1{us:List Value}(h:us.length=1):∃a,us=[a]:=by cases us with | nil=>cases h | cons a r=>have e:r=[]:=List.length_eq_zero_iff.mp (by simpa using h);subst e;exact⟨a,rfl⟩
theorem len2{us:List Value}(h:us.length=2):∃a b,us=[a,b]:=by cases us with | nil=>cases h | cons a r=>obtain⟨b,rfl⟩:=len1 (us:=r) (by simpa using h);exact⟨a,b,rfl⟩
theorem len3{us:List Value}(h:us.length=3):∃a b c,us=[a,b,c]:=by cases us with | nil=>cases h | cons a r=>obtain⟨b,c,rfl⟩:=len2 (us:=r) (by simpa using h);exact⟨a,b,c,rfl⟩
theorem len4{us:List Value}(h:us.length=4):∃a b c d,us=[a,b,c,d]:=by cases us with | nil=>cases h | cons a r=>obtain⟨b,c,d,rfl⟩:=len3 (us:=r) (by simpa using h);exact⟨a,b,c,d,rfl⟩
theorem len5{us:List Value}(h:us.length=5):∃a b c d e,us=[a,b,c,d,e]:=by cases us with | nil=>cases h | cons a r=>obtain⟨b,c,d,e,rfl⟩:=len4 (us:=r) (by simpa using h);exact⟨a,b,c,d,e,rfl⟩
abbrev fo(x:Str)(st:Stmt)(kV dc pm:Value)(an:Option Addr)(cd ct:Value):FuncData:=PySem.W.fnOf x x (zU st) (yX st) (jM st) .none kV dc pm an cd ct
abbrev BdA(x:Str)(st:Stmt)(ps:List Str)(us:List Value):Prop:=∀(kV dc pm:Value) (an:Option Addr) (cd ct:Value),bindArgs (fo x st kV dc pm an cd ct) ⟨us,[]⟩=pure (ps.zip us)
theorem bd1{x:Str}{st:Stmt}{ps:List Str}(hp:ps.length=1)(h:∀a,BdA x st ps [a]):∀us:List Value,us.length=ps.length->BdA x st ps us:=λus e=>by obtain⟨_,rfl⟩:=len1 (e.trans hp);exact λ_ _ _ _ _ _=>h ..
theorem bd2{x:Str}{st:Stmt}{ps:List Str}(hp:ps.length=2)(h:∀a b,BdA x st ps [a,b]):∀us:List Value,us.length=ps.length->BdA x st ps us:=λus e=>by obtain⟨_,_,rfl⟩:=len2 (e.trans hp);exact λ_ _ _ _ _ _=>h ..
theorem bd3{x:Str}{st:Stmt}{ps:List Str}(hp:ps.length=3)(h:∀a b c,BdA x st ps [a,b,c]):∀us:List Value,us.length=ps.length->BdA x st ps us:=λus e=>by obtain⟨_,_,_,rfl⟩:=len3 (e.trans hp);exact λ_ _ _ _ _ _=>h ..
theorem bd5{x:Str}{st:Stmt}{ps:List Str}(hp:ps.length=5)(h:∀a b c d e,BdA x st ps [a,b,c,d,e]):∀us:List Value,us.length=ps.length->BdA x st ps us:=λus e=>by obtain⟨_,_,_,_,_,rfl⟩:=len5 (e.trans hp);exact λ_ _ _ _ _ _=>h ..
theorem df{K:dD}{h:Heap}{mg:Str->Option Value}{x:Str}{st:Stmt}(X:K.In h)(G:h.Ns mainGlobals mg)(A:FnAt K x st)(ps:List Str)(b:∀us:List Value,us.length=ps.length->BdA x st ps us):∃f fd,Df K mg x st ps f fd:=by
 obtain⟨a,l,c,k⟩:=A;exact⟨_,_,OB l c k,(OB l c k).binds λkV dc pm an cd ct us h=>b us h kV dc pm an cd ct,PySem.W.mg_of X G a⟩
theorem all_mk{l:PySem.W.OpenLaw}{w:World}{K:dD}{h:Heap}{mg:Str->Option Value}{fa:Addr}(X:K.In h)(G:h.Ns mainGlobals mg)(hfa:mg "law" = some (.ref fa))(A:Facts K) :
  ∃fd:FuncData,(∀(s:Shared) (v:Value),BindsTo s fd ⟨[v],[]⟩ [("script",v)])/\∀base:Heap,K.In base->base.Ns mainGlobals mg->FnOk l.prog w K mg base CX0 9 fa fd ["script"] (OU K):=by
 obtain @⟨f46,oc46,kV46,dc46,pm46,cd46,ct46,od46,an46,sl46,a46,l46,c46,k46⟩:=A.f46;obtain⟨v1⟩:=A.v1;obtain⟨n1a,n1b⟩:=A.n1;obtain⟨n2a,n2b⟩:=A.n2;have e:=hfa.symm.trans (PySem.W.mg_of X G a46);cases e;have T:Txt mg:={ isi:=mG X G A.z1,len:=mG X G A.z2,int:=mG X G A.z3,bool:=mG X G A.z4,tup:=mG X G A.z5,lst:=mG X G A.z6,abs:=mG X G A.z8,rng:=mG X G A.z9,lbits:=⟨_,PySem.W.mg_of X G v1⟩,sum:=mG X G A.z10,zip:=mG X G A.z11,sorted:=mG X G A.z12,enum:=mG X G A.z14,any:=mG X G A.z18,all:=mG X G A.z16,dct:=mG X G A.z17,max:=mG X G A.z13,rev:=mG X G A.z15,str:=mG X G A.z7,min:=mG X G A.z19 };have N:Ngt K mg:=⟨_,PySem.W.mg_of X G n1a,λH=>.inr ⟨_,_,_,n1b,rfl,rfl,by show 2<=sizeLine;decide,.cons ⟨_,rfl⟩ (.cons ⟨_,rfl⟩ .nil)⟩⟩;have O:One1 K mg:=⟨_,PySem.W.mg_of X G n2a,λH=>.inr ⟨_,_,_,n2b,rfl,rfl,by show 2<=sizeLine;decide,.cons ⟨_,rfl⟩ (.cons ⟨_,rfl⟩ .nil)⟩⟩;have F46:=OB (st:=NF) l46 c46 k46;obtain⟨f1,d1,D1⟩:=df X G A.f1 ["one","other"] (bd2 rfl λ_ _ _ _ _ _ _ _=>rfl);obtain⟨f2,d2,D2⟩:=df X G A.f2 ["one","other"] (bd2 rfl λ_ _ _ _ _ _ _ _=>rfl);obtain⟨f3,d3,D3⟩:=df X G A.f3 ["one","other"] (bd2 rfl λ_ _ _ _ _ _ _ _=>rfl);obtain⟨f4,d4,D4⟩:=df X G A.f4 ["one","other"] (bd2 rfl λ_ _ _ _ _ _ _ _=>rfl)
 obtain⟨f5,d5,D5⟩:=df X G A.f5 ["one"] (bd1 rfl λ_ _ _ _ _ _ _=>rfl);obtain⟨f6,d6,D6⟩:=df X G A.f6 ["some"] (bd1 rfl λ_ _ _ _ _ _ _=>rfl);obtain⟨f7,d7,D7⟩:=df X G A.f7 ["one"] (bd1 rfl λ_ _ _ _ _ _ _=>rfl);obtain⟨f8,d8,D8⟩:=df X G A.f8 ["rim","at","count"] (bd3 rfl λ_ _ _ _ _ _ _ _ _=>rfl);obtain⟨f9,d9,D9⟩:=df X G A.f9 ["one","count"] (bd2 rfl λ_ _ _ _ _ _ _ _=>rfl);obtain⟨f10,d10,D10⟩:=df X G A.f10 ["rims"] (bd1 rfl λ_ _ _ _ _ _ _=>rfl);obtain⟨f11,d11,D11⟩:=df X G A.f11 ["up","down","letter"] (bd3 rfl λ_ _ _ _ _ _ _ _ _=>rfl);obtain⟨f12,d12,D12⟩:=df X G A.f12 ["rows","letter","many"] (bd3 rfl λ_ _ _ _ _ _ _ _ _=>rfl);obtain⟨f13,d13,D13⟩:=df X G A.f13 ["rows","many"] (bd2 rfl λ_ _ _ _ _ _ _ _=>rfl);obtain⟨f14,d14,D14⟩:=df X G A.f14 ["numbers","known"] (bd2 rfl λ_ _ _ _ _ _ _ _=>rfl);obtain⟨f15,d15,D15⟩:=df X G A.f15 ["rows","letter","known"] (bd3 rfl λ_ _ _ _ _ _ _ _ _=>rfl);obtain⟨f16,d16,D16⟩:=df X G A.f16 ["found","many","level"] (bd3 rfl λ_ _ _ _ _ _ _ _ _=>rfl);obtain⟨f17,d17,D17⟩:=df X G A.f17 ["row","many","bottom"] (bd3 rfl λ_ _ _ _ _ _ _ _ _=>rfl);obtain⟨f18,d18,D18⟩:=df X G A.f18 ["rows","many"] (bd2 rfl λ_ _ _ _ _ _ _ _=>rfl);obtain⟨f19,d19,D19⟩:=df X G A.f19 ["rows","many"] (bd2 rfl λ_ _ _ _ _ _ _ _=>rfl);obtain⟨f20,d20,D20⟩:=df X G A.f20 ["rows","many"] (bd2 rfl λ_ _ _ _ _ _ _ _=>rfl);obtain⟨f21,d21,D21⟩:=df X G A.f21 ["one","rims"] (bd2 rfl λ_ _ _ _ _ _ _ _=>rfl);obtain⟨f22,d22,D22⟩:=df X G A.f22 ["rims"] (bd1 rfl λ_ _ _ _ _ _ _=>rfl)
 obtain⟨f23,d23,D23⟩:=df X G A.f23 ["one","rims"] (bd2 rfl λ_ _ _ _ _ _ _ _=>rfl);obtain⟨f24,d24,D24⟩:=df X G A.f24 ["one","rims"] (bd2 rfl λ_ _ _ _ _ _ _ _=>rfl);obtain⟨f25,d25,D25⟩:=df X G A.f25 ["tape","many"] (bd2 rfl λ_ _ _ _ _ _ _ _=>rfl);obtain⟨f26,d26,D26⟩:=df X G A.f26 ["top","bottom"] (bd2 rfl λ_ _ _ _ _ _ _ _=>rfl);obtain⟨f27,d27,D27⟩:=df X G A.f27 ["one","other"] (bd2 rfl λ_ _ _ _ _ _ _ _=>rfl);obtain⟨f28,d28,D28⟩:=df X G A.f28 ["one","other"] (bd2 rfl λ_ _ _ _ _ _ _ _=>rfl);obtain⟨f29,d29,D29⟩:=df X G A.f29 ["one","other"] (bd2 rfl λ_ _ _ _ _ _ _ _=>rfl);obtain⟨f30,d30,D30⟩:=df X G A.f30 ["found","powers","number"] (bd3 rfl λ_ _ _ _ _ _ _ _ _=>rfl);obtain⟨f31,d31,D31⟩:=df X G A.f31 ["one","other"] (bd2 rfl λ_ _ _ _ _ _ _ _=>rfl);obtain⟨f32,d32,D32⟩:=df X G A.f32 ["one","number"] (bd2 rfl λ_ _ _ _ _ _ _ _=>rfl);obtain⟨f33,d33,D33⟩:=df X G A.f33 ["one","other"] (bd2 rfl λ_ _ _ _ _ _ _ _=>rfl);obtain⟨f34,d34,D34⟩:=df X G A.f34 ["one","spot"] (bd2 rfl λ_ _ _ _ _ _ _ _=>rfl);obtain⟨f35,d35,D35⟩:=df X G A.f35 ["many","one"] (bd2 rfl λ_ _ _ _ _ _ _ _=>rfl);obtain⟨f36,d36,D36⟩:=df X G A.f36 ["thing"] (bd1 rfl λ_ _ _ _ _ _ _=>rfl);obtain⟨f37,d37,D37⟩:=df X G A.f37 ["tape"] (bd1 rfl λ_ _ _ _ _ _ _=>rfl);obtain⟨f38,d38,D38⟩:=df X G A.f38 ["tape","many"] (bd2 rfl λ_ _ _ _ _ _ _ _=>rfl);obtain⟨f39,d39,D39⟩:=df X G A.f39 ["thing","many"] (bd2 rfl λ_ _ _ _ _ _ _ _=>rfl);obtain⟨f40,d40,D40⟩:=df X G A.f40 ["many","number","rims","weights","due"] (bd5 rfl λ_ _ _ _ _ _ _ _ _ _ _=>rfl)
 obtain⟨f41,d41,D41⟩:=df X G A.f41 ["many","rims","spot"] (bd3 rfl λ_ _ _ _ _ _ _ _ _=>rfl);obtain⟨f42,d42,D42⟩:=df X G A.f42 ["tape","many"] (bd2 rfl λ_ _ _ _ _ _ _ _=>rfl);obtain⟨f43,d43,D43⟩:=df X G A.f43 ["many","box"] (bd2 rfl λ_ _ _ _ _ _ _ _=>rfl);obtain⟨f44,d44,D44⟩:=df X G A.f44 ["many","box","one"] (bd3 rfl λ_ _ _ _ _ _ _ _ _=>rfl);obtain⟨f45,d45,D45⟩:=df X G A.f45 ["many","one","number"] (bd3 rfl λ_ _ _ _ _ _ _ _ _=>rfl);refine⟨PySem.W.fnOf "law" "law" (zU NF) (yX NF) (jM NF) .none kV46 dc46 pm46 an46 cd46 ct46,λs v=>.of_eq rfl,λbase _ _=>?_⟩;have G_gcd:=NQ (P:=l.prog) (w:=w) (base:=base) (mg:=mg) D1.F T;have G_low:=WR (P:=l.prog) (w:=w) (base:=base) (mg:=mg) D26.F T;have G_draw:=PZ (P:=l.prog) (w:=w) (base:=base) (mg:=mg) D25.F T;have G_mul:=WP (P:=l.prog) (w:=w) (base:=base) (mg:=mg) D3.F T D1;have G_divN:=ok_divN (P:=l.prog) (w:=w) (base:=base) (mg:=mg) D4.F T D3 D1;have G_addF:=ok_addF (P:=l.prog) (w:=w) (base:=base) (mg:=mg) D2.F T D1;have G_number:=SZ (P:=l.prog) (w:=w) (base:=base) (mg:=mg) D37.F T D25 D26;have G_plus:=PY (P:=l.prog) (w:=w) (base:=base) (mg:=mg) D27.F;have G_put:=ok_put (P:=l.prog) (w:=w) (base:=base) (mg:=mg) D30.F D27;have G_lmul:=ok_lmul (P:=l.prog) (w:=w) (base:=base) (mg:=mg) D28.F;have G_like:=ok_like (P:=l.prog) (w:=w) (base:=base) (mg:=mg) D29.F;have G_ladd:=ok_ladd (P:=l.prog) (w:=w) (base:=base) (mg:=mg) D31.F T D30 G_put;have G_scaled:=SX (P:=l.prog) (w:=w) (base:=base) (mg:=mg) D32.F D28 G_lmul
 have G_same:=ok_same (P:=l.prog) (w:=w) (base:=base) (mg:=mg) D33.F T D29 G_like;have G_lsum:=ok_lsum (P:=l.prog) (w:=w) (base:=base) (mg:=mg) D35.F T D26 G_low;have G_rw:=ok_rw (P:=l.prog) (w:=w) (base:=base) (mg:=mg) D14.F T N D2 G_addF D3 G_mul;have G_nr:=ok_nr (P:=l.prog) (w:=w) (base:=base) (mg:=mg) D15.F T N D2 G_addF D3 G_mul D4 G_divN D14 G_rw;have G_spot:=ok_spot (P:=l.prog) (w:=w) (base:=base) (mg:=mg) D16.F T O D15 G_nr;have G_comb:=ok_comb (P:=l.prog) (w:=w) (base:=base) (mg:=mg) D11.F T;have G_tk:=ok_tk (P:=l.prog) (w:=w) (base:=base) (mg:=mg) D12.F T D11 G_comb;have G_stg:=ok_stg (P:=l.prog) (w:=w) (base:=base) (mg:=mg) D13.F T D12 G_tk;have G_whole:=WL (P:=l.prog) (w:=w) (base:=base) (mg:=mg) D7.F T N D4 G_divN;have G_rimrow:=SY (P:=l.prog) (w:=w) (base:=base) (mg:=mg) D8.F T D7 G_whole;have G_rimrows:=NP (P:=l.prog) (w:=w) (base:=base) (mg:=mg) D10.F T D8 G_rimrow;have G_degree:=TD (P:=l.prog) (w:=w) (base:=base) (mg:=mg) D5.F T;have G_refb:=ok_refb (P:=l.prog) (w:=w) (base:=base) (mg:=mg) D6.F D5 G_degree;have G_sho:=ok_sho (P:=l.prog) (w:=w) (base:=base) (mg:=mg) D17.F D4 G_divN;have G_brk:=ok_brk (P:=l.prog) (w:=w) (base:=base) (mg:=mg) D18.F D17 G_sho;have G_level:=WS (P:=l.prog) (w:=w) (base:=base) (mg:=mg) D9.F D7 G_whole;have G_tight:=WM (P:=l.prog) (w:=w) (base:=base) (mg:=mg) D19.F;have G_wayd:=ok_wayd (P:=l.prog) (w:=w) (base:=base) (mg:=mg) D20.F N D13 G_stg D16 G_spot;have G_lowend:=TB (P:=l.prog) (w:=w) (base:=base) (mg:=mg) D21.F T D6 G_refb D10 G_rimrows D9 G_level D13 G_stg D18 G_brk D19 G_tight D16 G_spot D20 G_wayd D4 G_divN D17 G_sho
 have G_numK:=ok_numK (P:=l.prog) (w:=w) (base:=base) (mg:=mg) D36.F T D26 G_low;have G_at:=ok_at (P:=l.prog) (w:=w) (base:=base) (mg:=mg) D34.F T D27 G_plus D28 G_lmul;have G_line:=ok_line (P:=l.prog) (w:=w) (base:=base) (mg:=mg) D38.F T D25 G_draw D37 G_number;have G_isspot:=TC (P:=l.prog) (w:=w) (base:=base) (mg:=mg) D39.F T D36 G_numK;have G_borneby:=NR (P:=l.prog) (w:=w) (base:=base) (mg:=mg) D40.F T D36 G_numK D31 G_ladd D32 G_scaled D33 G_same;have G_keeps:=WT (P:=l.prog) (w:=w) (base:=base) (mg:=mg) D41.F T D39 G_isspot D34 G_at;have G_kept:=ok_kept (P:=l.prog) (w:=w) (base:=base) (mg:=mg) D22.F N D6 G_refb D10 G_rimrows D13 G_stg D18 G_brk D16 G_spot;have G_over:=ok_over (P:=l.prog) (w:=w) (base:=base) (mg:=mg) D23.F D21 G_lowend;have G_reach:=WO (P:=l.prog) (w:=w) (base:=base) (mg:=mg) D24.F D21 G_lowend;have G_box:=ok_box (P:=l.prog) (w:=w) (base:=base) (mg:=mg) D42.F T D37 G_number D27 G_plus D26 G_low;have G_sides:=WN (P:=l.prog) (w:=w) (base:=base) (mg:=mg) D43.F T D30 G_put;have G_corner:=TF (P:=l.prog) (w:=w) (base:=base) (mg:=mg) D44.F T D27 G_plus D28 G_lmul D26 G_low;have G_moved:=WQ (P:=l.prog) (w:=w) (base:=base) (mg:=mg) D45.F T D30 G_put;exact ok_law F46 T D25 G_draw D42 G_box D43 G_sides D35 G_lsum D38 G_line D44 G_corner D22 G_kept D41 G_keeps D24 G_reach D29 G_like D34 G_at D40 G_borneby D23 G_over D45 G_moved D27 G_plus D30 G_put
theorem walk{l:PySem.W.OpenLaw}{q:Program}{loose:List Str}{XP:(Str->Option Value)->Heap->Prop}{YP:World->Heap->Prop}{d:DefRec}{K:Params->dD}(hn:l.most=some 63)(hdf:d.params.defaults=[])
  (hY:∀(w:World) (h:Heap),YP w h->(K w.params).In h)
  (F:∀(w:World) (mg:Str->Option Value) (fa:Addr) (h:Heap),(K w.params).In h->h.Ns mainGlobals mg->mg d.name=some (.ref fa)->
   ∃fd:FuncData,(∀(s:Shared) (u:Value),BindsTo s fd ⟨[u],[]⟩ [("script",u)])/\∀base:Heap,(K w.params).In base->base.Ns mainGlobals mg->FnOk l.prog w (K w.params) mg base CX0 9 fa fd ["script"] (OU (K w.params))) :
  PySem.W.WalkO q loose XP YP l.row.toRowW d [] (λf vs=>PySem.call f vs):=
 L2.ZK (n:=63) (k:=9) (x:="script") (CX:=λ_=>CX0) (sp:=λw=>OU (K w.params)) hn (by decide) hdf ⟨rfl,by decide,by decide⟩ hY F (λ_ _ a ns hl _ hS=>⟨a,ns,rfl,hS,hl,λ_=>rfl⟩) λ_ _ _ _ _ z=>z
end Lw
open PySem PySem.W PyProof.Rows
set_option maxRecDepth 100000 in
theorem PySem.Challenge.cw_lowwater_k36_whole_sides_of_a_box_holds : PySem.Challenge.rw_lowwater_k36_whole_sides_of_a_box.Holds := by
 refine Lw.head λK YP d A hY hd hn=>Lw.walk (l:=PySem.Challenge.rw_lowwater_k36_whole_sides_of_a_box) rfl hd hY λw mg fa h KX G hmg=>?_;rw[hn]at hmg;exact Lw.all_mk KX G hmg (A w.params)
end
