import PyProof.Rows.All
import Wide.All
import OpenK.AllK
import Wide.FinOn
import Lean
import PyProof.EqAt
import PyProof.EqKinds
import PyProof.TupleCall
import PySem.Challenge.RW_lowwater_k10_handed_by_names
set_option Elab.async false
set_option linter.all false
set_option maxRecDepth 100000
set_option maxHeartbeats 4000000
noncomputable section
section
open PySem PySem.Spec PyProof PyProof.Rows
theorem gA{n:Nat}:n<=n:=Nat.le_refl n
theorem gB:0<=sizeLine:=by decide
theorem gC:1<=sizeLine:=by decide
theorem gD:2<=sizeLine:=by decide
theorem gE:type_of%@List.getD_eq_getElem?_getD:=@List.getD_eq_getElem?_getD
theorem gF:type_of%@List.getElem?_append_right:=@List.getElem?_append_right
theorem gG:type_of%@List.getElem?_eq_some_iff:=@List.getElem?_eq_some_iff
theorem gH:type_of%@List.getElem?_append_left:=@List.getElem?_append_left
theorem gI:type_of%@List.getElem?_eq_getElem:=@List.getElem?_eq_getElem
theorem gJ:type_of%@List.getElem?_take_of_lt:=@List.getElem?_take_of_lt
theorem gL:type_of%@Heap.get?_push_of_some:=@Heap.get?_push_of_some
theorem gM:type_of%@List.take_of_length_le:=@List.take_of_length_le
theorem gN:type_of%@List.mem_append_right:=@List.mem_append_right
theorem gO:type_of%@List.length_replicate:=@List.length_replicate
theorem gP:type_of%@List.mem_iff_getElem?:=@List.mem_iff_getElem?
theorem gQ:type_of%@List.mem_of_getElem?:=@List.mem_of_getElem?
theorem gR:type_of%@List.mem_cons_of_mem:=@List.mem_cons_of_mem
theorem gS:type_of%@Nat.pow_le_pow_right:=@Nat.pow_le_pow_right
theorem gT:type_of%@Nat.pow_lt_pow_right:=@Nat.pow_lt_pow_right
theorem gU:type_of%@List.mem_of_mem_take:=@List.mem_of_mem_take
theorem gW:type_of%@Heap.get?_push_size:=@Heap.get?_push_size
theorem gX:type_of%@Nat.lt_of_le_of_lt:=@Nat.lt_of_le_of_lt
theorem gY:type_of%@List.length_append:=@List.length_append
theorem gZ:type_of%@Bool.false_ne_true:=@Bool.false_ne_true
theorem hJ:type_of%@Nat.lt_of_lt_of_le:=@Nat.lt_of_lt_of_le
theorem hU:type_of%@List.mem_singleton:=@List.mem_singleton
theorem hV:type_of%@Int.natAbs_natCast:=@Int.natAbs_natCast
theorem hW:type_of%@List.mem_cons_self:=@List.mem_cons_self
theorem mB:type_of%@PySem.W.mg_none_of:=@PySem.W.mg_none_of
theorem mC:type_of%@List.getElem?_map:=@List.getElem?_map
theorem mD:type_of%@List.size_toArray:=@List.size_toArray
theorem mE:type_of%@List.take_add_one:=@List.take_add_one
theorem mF:type_of%@List.append_assoc:=@List.append_assoc
theorem mG:type_of%@of_decide_eq_true:=@of_decide_eq_true
theorem mH:type_of%@List.foldl_append:=@List.foldl_append
theorem mI:type_of%@Int.gcd_dvd_right:=@Int.gcd_dvd_right
theorem mJ:type_of%@Int.toNat_natCast:=@Int.toNat_natCast
theorem mK:type_of%@List.length_take:=@List.length_take
theorem mM:type_of%@List.not_mem_nil:=@List.not_mem_nil
theorem mN:type_of%@List.take_length:=@List.take_length
theorem mO:type_of%@List.length_cons:=@List.length_cons
theorem mP:type_of%@Bool.and_eq_true:=@Bool.and_eq_true
theorem mQ:type_of%@Int.gcd_dvd_left:=@Int.gcd_dvd_left
theorem mR:type_of%@Nat.lt_succ_self:=@Nat.lt_succ_self
theorem mS:type_of%@List.length_map:=@List.length_map
theorem mT:type_of%@List.map_append:=@List.map_append
theorem mU:type_of%@decide_eq_false:=@decide_eq_false
theorem mV:type_of%@List.mem_append:=@List.mem_append
theorem mW:type_of%@Rat.intCast_mul:=@Rat.intCast_mul
theorem mX:type_of%@decide_eq_true:=@decide_eq_true
theorem mY:type_of%@Int.natAbs_mul:=@Int.natAbs_mul
theorem mZ:type_of%@Nat.mul_le_mul:=@Nat.mul_le_mul
theorem nB:type_of%@List.nodup_nil:=@List.nodup_nil
theorem nC:type_of%@Heap.size_push:=@Heap.size_push
theorem nE:type_of%@List.map_cons:=@List.map_cons
theorem nF:type_of%@List.mem_cons:=@List.mem_cons
theorem nG:type_of%@Nat.lt_irrefl:=@Nat.lt_irrefl
theorem nH:type_of%@Int.mul_assoc:=@Int.mul_assoc
theorem nI:type_of%@List.sum_cons:=@List.sum_cons
theorem nJ:type_of%@PySem.W.mg_of:=@PySem.W.mg_of
theorem nK:type_of%@Heap.lt_size:=@Heap.lt_size
theorem nL:type_of%@Nat.le_trans:=@Nat.le_trans
theorem nM:type_of%@Nat.ne_of_lt:=@Nat.ne_of_lt
theorem nN:type_of%@List.mem_map:=@List.mem_map
theorem nO:type_of%@List.map_map:=@List.map_map
theorem nP:type_of%@Int.mul_comm:=@Int.mul_comm
theorem nQ:type_of%@Nat.le_refl:=@Nat.le_refl
theorem nR:type_of%@Nat.zero_le:=@Nat.zero_le
theorem nS:type_of%@Int.mul_pos:=@Int.mul_pos
theorem nT:type_of%@Rat.div_def:=@Rat.div_def
theorem nU:type_of%@Nat.pow_add:=@Nat.pow_add
theorem nV:type_of%@Int.le_refl:=@Int.le_refl
theorem nW:type_of%@wpAny_bind:=@wpAny_bind
theorem nX:type_of%@wpAny_pure:=@wpAny_pure
theorem nY:type_of%@wpAny_mono:=@wpAny_mono
theorem nZ:type_of%@if_neg:=@if_neg
theorem tD:type_of%@if_pos:=@if_pos
abbrev tF:=PySem.W.Frag
end
namespace L2
open PySem PySem.Spec PyProof.Rows
def xT(s:Stmt):Arguments:=match s with
 | .FunctionDef _ a _ _ _ _ _ _ _ _=>a
 | _=>{ posonlyargs:=[],args:=[],vararg:=none,kwonlyargs:=[],kw_defaults:=[],kwarg:=none,defaults:=[] }
def xB(s:Stmt):List Stmt:=match s with
 | .FunctionDef _ _ b _ _ _ _ _ _ _=>b
 | _=>[]
def jL(s:Stmt):Scope:=match s with
 | .FunctionDef _ _ _ _ _ _ sc _ _ _=>sc
 | _=>{ kind:=.function,names:=[],isGenerator:=false,isCoroutine:=false }
end L2
namespace Lw
open PySem PySem.Spec PyProof.Rows L2
def top(i:Nat):Stmt:=PySem.Challenge.pw_lowwater_k10_handed_by_names.main.body.getD i (.Pass ⟨0,0,0,0⟩)
abbrev uO:Stmt:=top 8
abbrev GQ:Stmt:=top 11
abbrev PM:Stmt:=top 12
abbrev uZ:Stmt:=top 13
abbrev NG:Stmt:=top 14
abbrev IQ:Stmt:=top 15
abbrev PN:Stmt:=top 16
abbrev AZ:Stmt:=top 17
abbrev sWF:Stmt:=top 25
abbrev sPw:Stmt:=top 26
abbrev NB:Stmt:=top 27
abbrev SV:Stmt:=top 28
abbrev yI:Stmt:=top 29
abbrev wS:Stmt:=top 30
abbrev NA:Stmt:=top 31
abbrev wF:Stmt:=top 32
abbrev yX:Stmt:=top 33
abbrev wR:Stmt:=top 34
abbrev NF:Stmt:=top 35
abbrev GK:Stmt:=top 36
abbrev wQ:Stmt:=top 37
abbrev GE:Stmt:=top 38
abbrev FW:Stmt:=top 39
abbrev AW:Stmt:=top 40
abbrev FX:Stmt:=top 41
abbrev GV:Stmt:=top 42
abbrev NH:Stmt:=top 43
abbrev FV:Stmt:=top 44
abbrev AY:Stmt:=top 45
abbrev AU:Stmt:=top 46
abbrev FZ:Stmt:=top 47
abbrev CB:Stmt:=top 52
abbrev AV:Stmt:=top 53
abbrev CA:Stmt:=top 54
abbrev xY:Stmt:=top 55
abbrev FY:Stmt:=top 56
abbrev NE:Stmt:=top 57
abbrev AX:Stmt:=top 58
abbrev ND:Stmt:=top 59
abbrev NC:Stmt:=top 61
abbrev IP:Stmt:=top 62
abbrev GJ:Stmt:=top 63
abbrev IR:Stmt:=top 64
abbrev zO:Stmt:=top 65
abbrev XI:Stmt:=top 66
abbrev XH:Stmt:=top 67
abbrev LM:Stmt:=top 68
inductive FnAt(K:tF)(x:Str)(st:Stmt):Prop
 | mk {f:Addr} {oc kV dc pm cd ct:Value} {od an:Option Addr} {sl:Array (Option Value)} (a:PySem.W.nsIn K mainGlobals x=some (some (.ref f))) (l:K.lookup f=some ⟨oc,od,.func (PySem.W.fnOf x x (xT st) (xB st) (jL st) .none kV dc pm an cd ct),sl⟩) (c:PySem.W.codeIn K cd x=true) (k:PySem.W.keepIn K (.ref f)=true)
inductive PrAt(K:tF)(x:Str)(i j:Int):Prop
 | mk {f:Addr} {od:Option Addr} {sl:Array (Option Value)} {t u:Tok} {n:Nat} (a:PySem.W.nsIn K mainGlobals x=some (some (.ref f))) (l:K.lookup f=some ⟨.type "tuple",od,.seq #[.int i t,.int j u] n,sl⟩)
inductive IntAt(K:tF)(x:Str)(i:Int):Prop
 | mk {t:Tok} (a:PySem.W.nsIn K mainGlobals x=some (some (.int i t)))
inductive LtAt(K:tF):Prop
 | mk {f:Addr} {sl:Array (Option Value)} {n:Nat} {x0 x1 x2 x3:Tok} (a:PySem.W.nsIn K mainGlobals "LETTERS" = some (some (.ref f))) (l:K.lookup f=some ⟨.type "tuple",none,.seq #[.str (Str.ofString "a") x0,.str (Str.ofString "b") x1,.str (Str.ofString "c") x2,.str (Str.ofString "d") x3] n,sl⟩)
inductive FgAt(K:tF):Prop
 | mk {f:Addr} {sl:Array (Option Value)} {n:Nat} {x0 x1 x2 x3 x4 x5 x6 x7 x8 x9:Tok} (a:PySem.W.nsIn K mainGlobals "FIGURES" = some (some (.ref f))) (l:K.lookup f=some ⟨.type "tuple",none,.seq #[.str (Str.ofString "0") x0,.str (Str.ofString "1") x1,.str (Str.ofString "2") x2,.str (Str.ofString "3") x3,.str (Str.ofString "4") x4,.str (Str.ofString "5") x5,.str (Str.ofString "6") x6,.str (Str.ofString "7") x7,.str (Str.ofString "8") x8,.str (Str.ofString "9") x9] n,sl⟩)
structure Facts(K:tF):Prop where
 f1:FnAt K "is_whole" uO
 f2:FnAt K "greatest_divisor" GQ
 f3:FnAt K "is_fraction" PM
 f4:FnAt K "added" uZ
 f5:FnAt K "less" NG
 f6:FnAt K "multiplied" IQ
 f7:FnAt K "divided" PN
 f8:FnAt K "beside" AZ
 f9:FnAt K "is_whole_from" sWF
 f10:FnAt K "are_powers" sPw
 f11:FnAt K "is_term" NB
 f12:FnAt K "is_sum" SV
 f13:FnAt K "degree" yI
 f14:FnAt K "packed" wS
 f15:FnAt K "unpacked" NA
 f16:FnAt K "table_of" wF
 f17:FnAt K "sum_of" yX
 f18:FnAt K "tables_added" wR
 f19:FnAt K "levelled" NF
 f20:FnAt K "heap_total" GK
 f21:FnAt K "tables_multiplied" wQ
 f22:FnAt K "plus" GE
 f23:FnAt K "times" FW
 f24:FnAt K "scaled" AW
 f25:FnAt K "slope" FX
 f26:FnAt K "chain" GV
 f27:FnAt K "greatest_powers" NH
 f28:FnAt K "worth" FV
 f29:FnAt K "parted" AY
 f30:FnAt K "table_put_in" AU
 f31:FnAt K "put_in" FZ
 f32:FnAt K "shown_number" CB
 f33:FnAt K "shown_term" AV
 f34:FnAt K "shown" CA
 f35:FnAt K "read_whole" xY
 f36:FnAt K "read_number" FY
 f37:FnAt K "read_powers" NE
 f38:FnAt K "read_term" AX
 f39:FnAt K "read" ND
 f40:FnAt K "_law_tape" NC
 f41:FnAt K "_law_pick" IP
 f42:FnAt K "_law_least" GJ
 f43:FnAt K "_law_fraction" IR
 f44:FnAt K "_law_straight" zO
 f45:FnAt K "_law_fractions_right" XI
 f46:FnAt K "_law_sums_right" XH
 f47:FnAt K "law" LM
 z1:PySem.W.nsIn K mainGlobals "isinstance" = some none
 z2:PySem.W.nsIn K mainGlobals "len" = some none
 z3:PySem.W.nsIn K mainGlobals "int" = some none
 z4:PySem.W.nsIn K mainGlobals "bool" = some none
 z5:PySem.W.nsIn K mainGlobals "tuple" = some none
 z6:PySem.W.nsIn K mainGlobals "list" = some none
 z7:PySem.W.nsIn K mainGlobals "abs" = some none
 z8:PySem.W.nsIn K mainGlobals "range" = some none
 z9:PySem.W.nsIn K mainGlobals "sum" = some none
 z10:PySem.W.nsIn K mainGlobals "zip" = some none
 z11:PySem.W.nsIn K mainGlobals "sorted" = some none
 z12:PySem.W.nsIn K mainGlobals "max" = some none
 z13:PySem.W.nsIn K mainGlobals "enumerate" = some none
 z14:PySem.W.nsIn K mainGlobals "reversed" = some none
 z15:PySem.W.nsIn K mainGlobals "dict" = some none
 z16:PySem.W.nsIn K mainGlobals "all" = some none
 z17:PySem.W.nsIn K mainGlobals "str" = some none
 v1:IntAt K "LONG_BITS" 8000
 v2:IntAt K "MOST_LETTERS" 4
 v3:IntAt K "MOST_DEGREE" 16
 v4:IntAt K "MOST_TERMS" 500
 v5:IntAt K "MOST_SIGNS" 4000
 v6:IntAt K "PACK" 256
 v7:IntAt K "SHORT_BITS" 1500
 n1:PrAt K "NOUGHT" 0 1
 s1:LtAt K
 s2:FgAt K
end Lw
section
open PySem PySem.W PyProof.Rows
namespace Lw
def view10:Program:={ PySem.Challenge.pw_lowwater_k10_handed_by_names with main:={ PySem.Challenge.pw_lowwater_k10_handed_by_names.main with body:=([1,2,3,4,6,7,8,9,10,11,12,13,14,15,16,17,19,20,21,22,23,24,25,26,27,28,29,30,31,32,33,34,35,36,37,38,39,40,41,42,43,44,45,46,47,49,50,51,52,53,54,55,56,57,58,59,61,62,63,64,65,66,67,68]:List Nat).filterMap λi=>PySem.Challenge.pw_lowwater_k10_handed_by_names.main.body[i]? } }
end Lw
local macro_rules | `(tactic| o_head $H)=>`(tactic| refine holds_open (q:=Lw.view10) (loose:=[Str.ofString "LowwaterError"]) (Xt:=λs=>xlAt Lw.view10 [] s&&recOk (RowW.records (PySem.Challenge.rw_lowwater_k10_handed_by_names).row.toRowW) s) (XP:=XL Lw.view10 []) (Yf:=Hook.obs $H) (Ya:=Hook.val $H) (YP:=Hook.says $H) (N:=5102) (λw=>by unfold openEnds fencedOpening topFrom;rw[PySem.W.Fast.te10274390034422433532,PySem.W.Fast.te14082659384304107361,PySem.W.Fast.te1435165496053646825,PySem.W.Fast.te14289696077712309145,PySem.W.Fast.te8920871248978507458,PySem.W.Fast.te14364793385576792824,PySem.W.Fast.te4187177175401517315];kernel_rfl) (Hook.of $H) (Hook.keeps $H) (λs e=>xl_of s (Bool.and_eq_true_iff.mp e).1) XL.keeps (by rfl) (by rfl) (by rfl) (λs e=>recFacts_of (Bool.and_eq_true_iff.mp e).2) (by rfl) (by first | assumption | decide +kernel) (by decide +kernel) ⟨rfl,rfl,rfl,rfl,rfl,by decide +kernel⟩ ?hw ?hc)
set_option maxRecDepth 100000 in
set_option maxHeartbeats 0 in
theorem Lw.head(hn:∀(K:Params->Frag) (YP:World->Heap->Prop) (d:DefRec),(∀p,Lw.Facts (K p))->(∀w h,YP w h->(K w.params).In h)->d.params.defaults=[]->d.name="law"->WalkO Lw.view10 [Str.ofString "LowwaterError"] (XL Lw.view10 []) YP PySem.Challenge.rw_lowwater_k10_handed_by_names.row.toRowW d [] λf vs=>PySem.call f vs):PySem.Challenge.rw_lowwater_k10_handed_by_names.Holds:=by
 w_on;o_law;k_head;(case hw=>w_witness2)
 k_fill
 refine hn _ _ _ ?f (λw h Y=>kIn_of Y) rfl rfl;case f=>
  intro p;constructor;all_goals first | (refine' .mk ?a ?l ?c ?k;(case a=>k_is);(case l=>k_is);(case c=>k_is);(case k=>k_is)) | (refine' .mk ?a ?l;(case a=>k_is);(case l=>k_is)) | (refine' .mk ?v;(case v=>k_is)) | k_is
end
namespace L2
open PySem PySem.Spec PyProof.Rows
abbrev Key:=Sum Int Str
def CP:Key->Value->Bool
 | .inl k,v=>Value.isInt k v
 | .inr x,v=>Value.isStrOf x v
def keyH(w:World):Key->Int
 | .inl k=>hashInt k
 | .inr x=>hashStr w x
theorem kY:∀{k:Key} {v:Value},CP k v=true->(∃i t,k=Sum.inl i/\v=Value.int i t)∨(∃x t,k=Sum.inr x/\v=Value.str x t)
 | .inl i,v,h=>by
  obtain⟨t,e⟩:=Value.isInt_shape (k:=i) (v:=v) h;exact .inl ⟨i,t,rfl,e⟩
 | .inr x,v,h=>by
  obtain⟨t,e⟩:=Value.isStrOf_shape (x:=x) (v:=v) h;exact .inr ⟨x,t,rfl,e⟩
theorem QO(i:Int)(t:Tok):CP (.inl i) (.int i t)=true:=by simp [CP,Value.isInt]
theorem QN(x:Str)(t:Tok):CP (.inr x) (.str x t)=true:=by simp [CP,Value.isStrOf]
theorem key_ll(a b:Int):decide ((Sum.inl a:Key)=Sum.inl b)=(a==b):=by
 by_cases e:a=b
 ·subst e;simp
 ·have h:¬(Sum.inl a:Key)=Sum.inl b:=λq=>e (Sum.inl.inj q);rw[mU h];exact(beq_eq_false_iff_ne.mpr e).symm
theorem key_rr(a b:Str):decide ((Sum.inr a:Key)=Sum.inr b)=decide (a=b):=by
 by_cases e:a=b
 ·subst e;simp
 ·have h:¬(Sum.inr a:Key)=Sum.inr b:=λq=>e (Sum.inr.inj q);rw[mU h,mU e]
theorem key_lr(a:Int)(b:Str):decide ((Sum.inl a:Key)=Sum.inr b)=false:=mU (λq=>nomatch q)
theorem key_rl(a:Str)(b:Int):decide ((Sum.inr a:Key)=Sum.inl b)=false:=mU (λq=>nomatch q)
def kE(prog:Program)(w:World):PySem.KeyKind prog w Key where
 is:=CP
 hash:=keyH w
 inj:=λv a b ha hb=>by
  rcases kY ha with⟨i,t,rfl,rfl⟩ | ⟨x,t,rfl,rfl⟩
  ·rcases kY hb with⟨j,u,rfl,e⟩ | ⟨y,u,rfl,e⟩
   ·injection e with e1 _;rw[e1]
   ·exact nomatch e
  ·rcases kY hb with⟨j,u,rfl,e⟩ | ⟨y,u,rfl,e⟩
   ·exact nomatch e
   ·injection e with e1 _;rw[e1]
 byValue:=λk v h=>by
  rcases kY h with⟨i,t,rfl,rfl⟩ | ⟨x,t,rfl,rfl⟩<;>rfl
 pyHash:=λhv h=>by
  rcases kY hv with⟨i,t,rfl,rfl⟩ | ⟨x,t,rfl,rfl⟩
  ·exact wpAny_pyHash_int h
  ·exact wpAny_pyHash_str h
 eqBool:=λhu hv h=>by
  rcases kY hu with⟨i,t,rfl,rfl⟩ | ⟨x,t,rfl,rfl⟩
  ·rcases kY hv with⟨j,u,rfl,rfl⟩ | ⟨y,u,rfl,rfl⟩
   ·rw[key_ll]at h;exact wpAny_eqBool_int h
   ·rw[key_lr]at h;exact SeqAt.EqAt.int_str i t y u _ _ _ _ h
  ·rcases kY hv with⟨j,u,rfl,rfl⟩ | ⟨y,u,rfl,rfl⟩
   ·rw[key_rl]at h;exact SeqAt.EqAt.str_int x t j u _ _ _ _ h
   ·rw[key_rr]at h;exact wpAny_eqBool_str h
 «strs» :=λk x t v h=>by
  rcases kY h with⟨i,u,rfl,e⟩ | ⟨y,u,rfl,e⟩
  ·exact nomatch e
  ·injection e with e1 _
   subst e1;cases v<;>rfl
theorem JS(prog:Program)(w:World)(i:Int)(t:Tok):(kE prog w).is (.inl i) (.int i t)=true:=QO i t
theorem JR(prog:Program)(w:World)(x:Str)(t:Tok):(kE prog w).is (.inr x) (.str x t)=true:=QN x t
inductive V where
 | non | bl (b:Bool) | int (i:Int) | str (x:Str) | byt (b:Array UInt8) | flt (b:UInt64) | ref (a:Addr) | ty (n:String)
 deriving DecidableEq
def RelV:V->Value->Prop
 | .non,u=>u=Value.none
 | .bl b,u=>u=Value.bool b
 | .int i,u=>∃t,u=Value.int i t
 | .str x,u=>∃t,u=Value.str x t
 | .byt b,u=>∃t,u=Value.bytes b t
 | .flt b,u=>∃t,u=Value.float b t
 | .ref a,u=>u=Value.ref a
 | .ty n,u=>u=Value.type n
abbrev Vals:List V->List Value->Prop:=Paired RelV
theorem Vals.length{xs:List V}{us:List Value}(r:Vals xs us):xs.length=us.length:=Paired.length r
theorem Vals.get:∀{xs:List V} {us:List Value} {i:Nat} {x:V},Vals xs us->xs[i]? = some x->∃u,us[i]? = some u/\RelV x u
 | _,_,_,_,.nil,e=>by simp at e
 | _,_,0,_,.cons r _,e=>by simp at e;subst e;exact⟨_,rfl,r⟩
 | _,_,i+1,x,.cons _ t,e=>by
  obtain⟨u,h1,h2⟩:=Vals.get (i:=i) (x:=x) t (by simpa using e);exact⟨u,by simpa using h1,h2⟩
theorem Vals.set{x:V}{u:Value}(r:RelV x u):∀{xs:List V} {us:List Value} (i:Nat),Vals xs us->Vals (xs.set i x) (us.set i u)
 | _,_,_,.nil=>.nil
 | _,_,0,.cons _ t=>.cons r t
 | _,_,i+1,.cons q t=>.cons q (Vals.set r i t)
theorem Vals.append:∀{xs ys:List V} {us ws:List Value},Vals xs us->Vals ys ws->Vals (xs++ys) (us++ws)
 | _,_,_,_,.nil,s=>s
 | _,_,_,_,.cons r t,s=>.cons r (Vals.append t s)
theorem Vals.take:∀{xs:List V} {us:List Value} (n:Nat),Vals xs us->Vals (xs.take n) (us.take n)
 | _,_,0,_=>.nil
 | _,_,_+1,.nil=>.nil
 | _,_,n+1,.cons r t=>.cons r (Vals.take n t)
theorem Vals.drop:∀{xs:List V} {us:List Value} (n:Nat),Vals xs us->Vals (xs.drop n) (us.drop n)
 | _,_,0,r=>r
 | _,_,_+1,.nil=>.nil
 | _,_,n+1,.cons _ t=>Vals.drop n t
def RelO:Option V->Option Value->Prop
 | some v,some u=>RelV v u
 | none,none=>True
 | _,_=>False
def KV{κ:Type} :List (κ×V)->List (κ×Value)->Prop:=Paired λ(p:κ×V) (q:κ×Value)=>p.1=q.1/\RelV p.2 q.2
def kV:Key->V
 | .inl i=>.int i
 | .inr x=>.str x
inductive HO where
 | lst (xs:List V)
 | tup (xs:List V)
 | dK (ag:List (Key×V)) | dT (ag:List (List Key×V))
 | set (S:Int->Bool) (n:Nat)
 | ins (C dx:Addr) (fs:List (Str×V))
 | own (x:Addr)
 | xd (fs:List (Str×V))
 | met (f x:Addr)
 | rng (lo hi:Int)
 | frz (o:Obj) (u:HO)
 | tbl (ps:Array Value)
 | ext (φ:Heap->Prop)
abbrev Hp:=Addr->Option HO
def upd(H:Hp)(a:Addr)(o:HO):Hp:=λb=>if b=a then some o else H b
theorem jD{H:Hp}{a:Addr}{o:HO} :upd H a o a=some o:=by unfold upd;rw[tD rfl]
theorem jH{H:Hp}{a b:Addr}{o:HO}(h:b≠a):upd H a o b=H b:=by unfold upd;rw[nZ h]
theorem ne_of{H:Hp}{a b:Addr}{o u:HO}(h:H a=some o)(h':H b=some u)(d:o≠u):a≠b:=by
 intro e;subst e;rw[h]at h';exact d (Option.some.inj h')
theorem kG{H:Hp}{a b:Addr}{o:HO}(h:H a=some o)(h':H b=none):a≠b:=by
 intro e;subst e;rw[h]at h';cases h'
def NoD(h:Heap)(a:Addr):Prop:=∀o,h.get? a=some o->o.dict=none
theorem NoD.of{h:Heap}{a:Addr}{o:Obj}(e:h.get? a=some o)(d:o.dict=none):NoD h a:=λo' e'=>by rw[e]at e';cases e';exact d
section
variable(P:Program)(w:World)
def ObjOk(H:Hp)(h:Heap)(a:Addr):HO->Prop
 | .lst xs=>xs.length<=sizeLine/\∃(its:List Value) (n:Nat),Vals xs its/\h.get? a=some { cls:=.type "list",data:=.seq its.toArray n }
 | .tup xs=>xs.length<=sizeLine/\∃its:List Value,Vals xs its/\IsTup h a its.toArray/\NoD h a
 | .dK ag=>ag.length<=sizeLine/\(a==sysModules)=false/\∃vs,KV ag vs/\h.DictOf (kE P w) a vs
 | .dT ag=>ag.length<=sizeLine/\(a==sysModules)=false/\∃xs:List (List Key×Addr×Value),
   Paired (λ(p:List Key×V) (q:List Key×Addr×Value)=>p.1=q.1/\H q.2.1=some (.tup (p.1.map kV))/\RelV p.2 q.2.2) ag xs/\
   ∃o es ep,h.get? a=some o/\o.ExactDict/\o.data=.dict es ep/\es.toList=xs.map (entryOfKey (tupleKind (kE P w)))/\(xs.map (·.1)).Nodup
 | .set S n=>h.SetOf (intKind P w) a S n
 | .ins C dx fs=>H dx=some (.own a)/\fs.length<=1000/\dx≠a/\h.get? a=some (PySem.W.instObj C dx)/\
   ∃mA,h.Ns1 dx mA/\(∀f,RelO (fs.lookup f) (mA f))/\PySem.Within mA (fs.map (·.1))
 | .own _=>∃o,h.get? a=some o
 | .xd fs=>∃mA,h.Ns1 a mA/\∀f,RelO (fs.lookup f) (mA f)
 | .rng lo hi=>∃t u v,h.get? a=some { cls:=.type "range",data:=.fields #[.int lo t,.int hi u,.int 1 v] }
 | .frz o u=>h.get? a=some o/\ObjOk H h a u
 | .tbl ps=>h.get? a=some { cls:=.none,data:=.fields ps }
 | .met f x=>h.get? a=some (PySem.W.methodObj (.ref f) (.ref x))
 | .ext φ=>φ h/\(∃o,h.get? a=some o)/\∀h1 h2:Heap,φ h1->(∀o,h1.get? a=some o->h2.get? a=some o)->φ h2
def HOk(H:Hp)(h:Heap):Prop:=∀a o,H a=some o->ObjOk P w H h a o
end
section
variable{P:Program}{w:World}{H H':Hp}{h h':Heap}{a:Addr}{o:HO}
theorem ObjOk.lt(x:ObjOk P w H h a o):a<h.objs.size:=by
 cases o with
 | lst xs=>obtain⟨_,_,_,_,e⟩:=x;exact nK e
 | tup xs=>obtain⟨_,_,_,p⟩:=x;exact p.1.lt
 | dK ag=>obtain⟨_,_,_,_,o,_,_,e,_⟩:=x;exact nK e
 | dT ag=>obtain⟨_,_,_,_,o,_,_,e,_⟩:=x;exact nK e
 | set S n=>obtain⟨o,_,_,_,e,_⟩:=x;exact nK e
 | ins C dx fs=>obtain⟨_,_,_,e,_⟩:=x;exact nK e
 | own y=>obtain⟨_,e⟩:=x;exact nK e
 | xd fs=>obtain⟨_,⟨_,_,_,e,_⟩,_⟩:=x;exact nK e
 | rng lo hi=>obtain⟨_,_,_,e⟩:=x;exact nK e
 | frz ob u=>obtain⟨e,_⟩:=x;exact nK e
 | tbl ps=>exact nK (show h.get? a=some _ from x)
 | met f y=>exact nK (show h.get? a=some _ from x)
 | ext φ=>obtain⟨_,⟨_,e⟩,_⟩:=x;exact nK e
theorem Paired.mapP{α β:Type}{F G:α->β->Prop} :∀{l₁:List α} {l₂:List β},Paired F l₁ l₂->(∀a b,F a b->G a b)->Paired G l₁ l₂
 | _,_,.nil,_=>.nil
 | _,_,.cons r t,f=>.cons (f _ _ r) (Paired.mapP t f)
theorem ObjOk.stay(x:ObjOk P w H h a o)(k:∀b u,(b=a∨H b=some (.own a))->h.get? b=some u->h'.get? b=some u)
  (ho:∀b,H b=some (.own a)->H' b=some (.own a)) (ht:∀b xs,H b=some (.tup xs)->H' b=some (.tup xs)):ObjOk P w H' h' a o:=by
 induction o with
 | lst xs=>obtain⟨z,its,n,r,e⟩:=x;exact⟨z,its,n,r,k _ _ (.inl rfl) e⟩
 | tup xs=>obtain⟨z,its,r,⟨ob,e,c⟩,nd⟩:=x;exact⟨z,its,r,⟨ob,k _ _ (.inl rfl) e,c⟩,.of (k _ _ (.inl rfl) e) (nd _ e)⟩
 | dK ag=>obtain⟨z,y,vs,r,ob,es,ep,e,c⟩:=x;exact⟨z,y,vs,r,ob,es,ep,k _ _ (.inl rfl) e,c⟩
 | dT ag=>
  obtain⟨z,y,xs,r,ob,es,ep,e,c⟩:=x;exact⟨z,y,xs,Paired.mapP r λp q z=>⟨z.1,ht _ _ z.2.1,z.2.2⟩,ob,es,ep,k _ _ (.inl rfl) e,c⟩
 | set S n=>obtain⟨ob,es,ep,t,e,c⟩:=x;exact⟨ob,es,ep,t,k _ _ (.inl rfl) e,c⟩
 | ins C dx fs=>
  obtain⟨d,z,ne,e,mA,⟨od,es,ep,e2,c⟩,r⟩:=x;exact⟨ho _ d,z,ne,k _ _ (.inl rfl) e,mA,⟨od,es,ep,k _ _ (.inr d) e2,c⟩,r⟩
 | own y=>obtain⟨ob,e⟩:=x;exact⟨ob,k _ _ (.inl rfl) e⟩
 | xd fs=>obtain⟨mA,⟨od,es,ep,e,c⟩,r⟩:=x;exact⟨mA,⟨od,es,ep,k _ _ (.inl rfl) e,c⟩,r⟩
 | rng lo hi=>obtain⟨t,u,v,e⟩:=x;exact⟨t,u,v,k _ _ (.inl rfl) e⟩
 | frz ob u ih=>obtain⟨e,q⟩:=x;exact⟨k _ _ (.inl rfl) e,ih q⟩
 | tbl ps=>
  have e:h.get? a=some { cls:=.none,data:=.fields ps } :=x;show h'.get? a=some { cls:=.none,data:=.fields ps };exact k a _ (.inl rfl) e
 | met f y=>
  have e:h.get? a=some (PySem.W.methodObj (.ref f) (.ref y)):=x;show h'.get? a=some (PySem.W.methodObj (.ref f) (.ref y));exact k a _ (.inl rfl) e
 | ext φ=>obtain⟨p,⟨o,e⟩,st⟩:=x;exact⟨st _ _ p λo q=>k _ _ (.inl rfl) q,⟨o,k _ _ (.inl rfl) e⟩,st⟩
theorem HOk.lt(x:HOk P w H h)(e:H a=some o):a<h.objs.size:=(x a o e).lt
theorem HOk.fresh(x:HOk P w H h)(e:h.objs.size<=a):H a=none:=by
 cases q:H a with
 | none=>rfl
 | some u=>exact absurd (hJ (x.lt q) e) (nG _)
theorem HOk.kept(x:HOk P w H h)(k:∀b u,h.get? b=some u->h'.get? b=some u):HOk P w H h':=λa o e=>
 (x a o e).stay (λb u _ q=>k b u q) (λ_ q=>q) λ_ _ q=>q
theorem HOk.laid(x:HOk P w H h)(k:∀b u,h.get? b=some u->h'.get? b=some u)(hp:h.objs.size<=a)(new:ObjOk P w (upd H a o) h' a o):HOk P w (upd H a o) h':=λb u e=>by
 have hn:=x.fresh hp;by_cases hb:b=a
 ·subst hb;rw[jD]at e;cases e;exact new
 ·rw[jH hb]at e;exact(x b u e).stay (λc v _ q=>k c v q) (λc q=>by rw[jH (kG q hn)];exact q) λc xs q=>by rw[jH (kG q hn)];exact q
end
def Rd(H:Hp)(a:Addr)(u:HO):Prop:=H a=some u∨∃o,H a=some (.frz o u)
theorem Rd.ok{P:Program}{w:World}{H:Hp}{h:Heap}{a:Addr}{u:HO}(r:Rd H a u)(x:HOk P w H h):ObjOk P w H h a u:=by
 rcases r with r | ⟨o,r⟩
 ·exact x a u r
 ·obtain⟨_,q⟩:=x a _ r;exact q
def Mut:Option HO->Prop
 | some (.lst _)=>True
 | some (.dK _)=>True
 | some (.dT _)=>True
 | some (.set _ _)=>True
 | some (.ins _ _ _)=>True
 | some (.ext _)=>True
 | _=>False
section
variable{P:Program}{w:World}{H:Hp}{h h':Heap}{x e:Addr}{o':HO}
theorem HOk.write(ok:HOk P w H h)(mu:Mut (H x))(he:e=x∨H e=some (.own x))(k:∀b u,b≠e->h.get? b=some u->h'.get? b=some u)(heo:∃u,h'.get? e=some u)
  (new:ObjOk P w (upd H x o') h' x o'):HOk P w (upd H x o') h':=λb u q=>by
 have nown:∀c y,H c=some (.own y)->c≠x:=λc y r z=>by subst z;rw[r]at mu;exact mu
 have ntup:∀c xs,H c=some (.tup xs)->c≠x:=λc xs r z=>by subst z;rw[r]at mu;exact mu
 by_cases hb:b=x
 ·subst hb;rw[jD]at q;cases q;exact new
 ·rw[jH hb]at q;by_cases hbe:b=e
  ·have q':H b=some (.own x):=by
    rcases he with z | z
    ·exact absurd (hbe.trans z) hb
    ·rw[hbe];exact z
   rw[q]at q';cases q';obtain⟨v,hv⟩:=heo;exact⟨v,by rw[hbe];exact hv⟩
  ·refine(ok b u q).stay (λc v hc r=>k c v ?_ r) (λc r=>by rw[jH (nown c b r)];exact r) λc xs r=>by rw[jH (ntup c xs r)];exact r
   rcases hc with rfl | hc
   ·exact hbe
   ·rintro rfl;rcases he with z | z
    ·exact nown c b hc z
    ·rw[hc]at z;cases z;exact hb rfl
end
structure Un(fs ex:List Addr)(H H':Hp)(h h':Heap):Prop where
 keep:∀b o,h.get? b=some o->H b=none->b∉fs->b∉ex->h'.get? b=some o
 slot:∀b o,h.get? b=some o->H b=none->b∈fs->b∉ex->∃sl,h'.get? b=some { o with slots:=sl }
 free:∀b o,h.get? b=some o->H b=none->b∉ex->H' b=none
 there:∀b o,h.get? b=some o->b∉ex->∃o',h'.get? b=some o'
 tups:∀b xs,H b=some (.tup xs)->H' b=some (.tup xs)
 frzs:∀b o u,H b=some (.frz o u)->H' b=some (.frz o u)
 tbls:∀b ps,H b=some (.tbl ps)->∃more,H' b=some (.tbl (ps++more))
section
variable{fs fs' ex ex':List Addr}{H H1 H2:Hp}{h h1 h2 h':Heap}{a x e:Addr}{o:HO}
theorem Un.any(u:Un fs ex H H1 h h1){b:Addr}{ob:Obj}(q:h.get? b=some ob)(n:H b=none)(hx:b∉ex):∃sl,h1.get? b=some { ob with slots:=sl } :=by
 by_cases hb:b∈fs
 ·exact u.slot b ob q n hb hx
 ·exact⟨ob.slots,u.keep b ob q n hb hx⟩
theorem Un.kept(k:∀b u,h.get? b=some u->h'.get? b=some u):Un fs ex H H h h':=
 ⟨λb ob q _ _ _=>k b ob q,λb ob q _ _ _=>⟨ob.slots,k b ob q⟩,λ_ _ _ n _=>n,λb ob q _=>⟨ob,k b ob q⟩,λ_ _ q=>q,λ_ _ _ q=>q,λ_ ps q=>⟨#[],by rw[q];simp⟩⟩
theorem Un.refl:Un fs ex H H h h:=Un.kept λ_ _ q=>q
theorem Un.laid(k:∀b u,h.get? b=some u->h'.get? b=some u)(hp:h.objs.size<=a)(hn:H a=none):Un fs ex H (upd H a o) h h' where
 keep:=λb u q _ _ _=>k b u q
 slot:=λb u q _ _ _=>⟨u.slots,k b u q⟩
 free:=λb u q n _=>by rw[jH (nM (hJ (nK q) hp))];exact n
 there:=λb u q _=>⟨u,k b u q⟩
 tups:=λb xs q=>by rw[jH (kG q hn)];exact q
 frzs:=λb u xs q=>by rw[jH (kG q hn)];exact q
 tbls:=λb ps q=>⟨#[],by rw[jH (kG q hn),q];simp⟩
theorem Un.write(mu:Mut (H x))(he:e=x∨H e=some (.own x))(k:∀b u,b≠e->h.get? b=some u->h'.get? b=some u)(heo:∃u,h'.get? e=some u):Un fs ex H (upd H x o) h h':=by
 have hx:∀b,H b=none->b≠x:=λb n z=>by subst z;rw[n]at mu;exact mu
 have hb:∀b,H b=none->b≠e:=λb n z=>by
  subst z;rcases he with r | r
  ·exact hx b n r
  ·rw[n]at r;cases r
 have hm:∀b u,H b=some u->¬Mut (some u)->b≠x:=λb u q nm z=>by subst z;rw[q]at mu;exact nm mu
 refine⟨λb u q n _ _=>k b u (hb b n) q,λb u q n _ _=>⟨u.slots,k b u (hb b n) q⟩,λb u q n _=>by rw[jH (hx b n)];exact n,λb u q _=>?_,
  λb xs q=>by rw[jH (hm b _ q λz=>z)];exact q,λb u xs q=>by rw[jH (hm b _ q λz=>z)];exact q,λb ps q=>⟨#[],by rw[jH (hm b _ q λz=>z),q];simp⟩⟩
 by_cases hbe:b=e
 ·subst hbe;exact heo
 ·exact⟨u,k b u hbe q⟩
end
def trk(h:Heap)(H:Hp):List Addr:=(List.range h.objs.size).filter λa=>(H a).isSome
def HV(h:Heap)(H:Hp):Heap:=PySem.W.hideAll h (trk h H)
theorem QR(h:Heap)(H:Hp):(HV h H).objs.size=h.objs.size:=PySem.W.hideAll_size _ _
theorem VM{h:Heap}{H:Hp}{b:Addr}{o:Obj}(e:h.get? b=some o)(n:H b=none):(HV h H).get? b=some o:=
 PySem.W.hideAll_get _ e λhm=>by
  have q:(H b).isSome=true:=(List.mem_filter.mp hm).2;rw[n]at q;simp at q
theorem YN{h:Heap}{H:Hp}{b:Addr}{o:Obj}(e:(HV h H).get? b=some o):h.get? b=some o/\H b=none:=by
 have e':h.get? b=some o:=PySem.W.of_hideAll (trk h H) e;refine⟨e', ?_⟩;cases q:H b with
 | none=>rfl
 | some x=>
  have hm:b∈trk h H:=List.mem_filter.mpr ⟨List.mem_range.mpr (nK e'),by simp [q]⟩;have z:(HV h H).get? b=none:=PySem.W.hideAll_none (trk h H) hm;rw[z]at e;cases e
def zX(g h:Heap)(L:Addr):List (Addr×Obj):=(List.range h.objs.size).filterMap λa=>if a=L∨(g.get? a).isSome=true then none else(h.get? a).map λo=>(a,o)
theorem AD{g h:Heap}{L a:Addr}{o:Obj}(h1:a≠L)(h2:g.get? a=none)(h3:h.get? a=some o):(a,o)∈zX g h L:=
 List.mem_filterMap.mpr ⟨a,List.mem_range.mpr (nK h3),by simp [h1,h2,h3]⟩
theorem CJ{g h:Heap}{L:Addr}{p:Addr×Obj}(hp:p∈zX g h L):p.1≠L/\g.get? p.1=none/\h.get? p.1=some p.2:=by
 obtain⟨b,_,e⟩:=List.mem_filterMap.mp hp;split at e
 ·cases e
 ·rename_i hn;cases q:h.get? b with
  | none=>rw[q]at e;simp at e
  | some u=>
   rw[q]at e;simp only[Option.map_some,Option.some.injEq]at e;subst e;refine⟨λz=>hn (.inl z), ?_,q⟩;show g.get? b=none;cases r:g.get? b with
   | none=>rfl
   | some v=>exact(hn (.inr (by simp [r]))).elim
theorem UU{g h:Heap}{L:Addr} :News g L h (zX g h L):=λp hp=>let ⟨a,b,c⟩:=CJ hp;⟨c,a,b⟩
structure Mod(K:tF)(mg:Str->Option Value)(base:Heap):Prop where
 kin:K.In base
 glob:base.Ns mainGlobals mg
 blt:∃mb,base.Ns builtinsNs mb/\∀x:Str,x≠"__name__"->mb x=bootBuiltins x
 nolimit:base.NoLimit
structure Cx where
 prog:Program
 w:World
 K:tF
 mg:Str->Option Value
 base:Heap
 A:Around
 N:List Str
 s₀:Shared
 H₀:Hp
 env:Env
 outer:List Env
 stack:List Env
 ex:List Addr
 fn:Str->Bool
 calm:Bool
 pn:List (Addr×Obj)
 xe:Value->Shared->Prop
def frs(l:List Env):List Addr:=l.filterMap (·.frame)
abbrev Cx.fs(X:Cx):List Addr:=frs X.outer
def Vis(sc:Scope)(x:Str):Prop:=sc.names.lookup x=some .local∨sc.names.lookup x=some .cell∨sc.names.lookup x=some .free
def Loc(sc:Scope)(x:Str):Prop:=sc.names.lookup x=some .local∨sc.names.lookup x=some .cell
def Look(env:Env)(h:Heap)(m:Str->Option Value)(x:Str)(u:Value):Prop:=
 (env.kindOf x=some .local/\m x=some u)∨((env.kindOf x=some .cell∨env.kindOf x=some .free)/\∃c,env.cells.lookup x=some c/\h.IsCell c (some u))
structure Cx.Ok(X:Cx):Prop where
 mod:Mod X.K X.mg X.base
 kind:X.env.scope.kind=.function
 glob:X.env.globals=mainGlobals
 blt:X.env.builtins=builtinsNs
 above:X.s₀.heap.objs.size<=X.env.locals
 inj:∀x y c,X.env.cells.lookup x=some c->X.env.cells.lookup y=some c->x=y
 has:∀x,(X.env.kindOf x=some .cell∨X.env.kindOf x=some .free)->∃c,X.env.cells.lookup x=some c
 cab:∀x c,X.fn x=true->X.env.cells.lookup x=some c->X.s₀.heap.objs.size<=c
 hd:X.calm=true->X.A.handled=none
 frames:X.A.frames=some X.stack
 stk:X.stack=X.outer∨(X.stack=X.env::X.outer/\X.env.frame=some X.env.locals)
 exf:∀b∈X.ex,b≠X.env.locals/\∀x c,X.env.cells.lookup x=some c->c≠b
 bs:∀b o,X.base.get? b=some o->X.s₀.heap.get? b=some o/\X.H₀ b=none
 bsz:X.base.objs.size<=X.s₀.heap.objs.size
 noex:∀b o,X.base.get? b=some o->b∉X.ex
 exfs:∀b∈X.ex,b∉X.fs
 funs:X.s₀.heap.FunFrames X.base X.outer
 frf:∀b∈X.fs,X.H₀ b=none
structure Inv(X:Cx)(ac:List (Addr×Obj))(σ:List (Option V))(H:Hp)(s:Shared):Prop where
 ok:X.Ok
 os:s.os=X.s₀.os
 bare:AllBare s.gens
 base:Un X.fs X.ex X.H₀ H X.s₀.heap s.heap
 loc:∃m,s.heap.Ns X.env.locals m/\∀(i:Nat) (x:Str) (v:V),X.N[i]? = some x->σ[i]? = some (some v)->Vis X.env.scope x->∃u,RelV v u/\Look X.env s.heap m x u
 cell:∀x c,X.env.cells.lookup x=some c->∃v,s.heap.IsCell c v
 free:H X.env.locals=none
 freeC:∀x c,X.env.cells.lookup x=some c->H c=none
 pin:∀p∈X.pn++ac,s.heap.get? p.1=some p.2/\H p.1=none/\p.1≠X.env.locals/\p.1∉X.fs/\∀v,p.2.data≠.cell v
 hok:HOk X.prog X.w H s.heap
 len:σ.length=X.N.length
section
variable{X:Cx}{ac:List (Addr×Obj)}{σ:List (Option V)}{H H':Hp}{s:Shared}{h':Heap}
theorem Cx.Ok.nofr(ok:X.Ok){b:Addr}{o:Obj}(e:X.base.get? b=some o):b∉X.fs:=λhb=>by
 have:=(ok.funs.mem hb).1;rw[e]at this;cases this
theorem Inv.bs(I:Inv X ac σ H s):∀b o,X.base.get? b=some o->s.heap.get? b=some o/\H b=none:=λb o e=>
 ⟨I.base.keep b o (I.ok.bs b o e).1 (I.ok.bs b o e).2 (I.ok.nofr e) (I.ok.noex b o e),I.base.free b o (I.ok.bs b o e).1 (I.ok.bs b o e).2 (I.ok.noex b o e)⟩
theorem Inv.bk(I:Inv X ac σ H s):∀b o,X.base.get? b=some o->s.heap.get? b=some o:=λb o e=>(I.bs b o e).1
theorem Inv.mod(I:Inv X ac σ H s):Mod X.K X.mg X.base:=I.ok.mod
theorem Inv.kIn(I:Inv X ac σ H s):X.K.In s.heap:=I.ok.mod.kin.keeps I.bk
theorem Inv.fr(I:Inv X ac σ H s):∃m,Fr X.base X.env.locals s.heap m:=
 let ⟨m,hn,_⟩:=I.loc
 ⟨m,hn,I.bk,nL I.ok.bsz I.ok.above⟩
theorem Inv.lt(I:Inv X ac σ H s):X.env.locals<s.heap.objs.size:=let ⟨_,hn,_⟩:=I.loc;hn.lt
theorem Inv.sz(I:Inv X ac σ H s):X.s₀.heap.objs.size<=s.heap.objs.size:=nL I.ok.above (Nat.le_of_lt I.lt)
theorem Inv.nofs(I:Inv X ac σ H s){a:Addr}(h:s.heap.objs.size<=a):a∉X.fs:=λhb=>by
 obtain⟨_,o,ho,_⟩:=I.ok.funs.mem hb;exact absurd (hJ (nK ho) (nL I.sz h)) (nG _)
theorem Inv.cne(I:Inv X ac σ H s):∀x c,X.env.cells.lookup x=some c->c≠X.env.locals:=λx c e z=>by
 obtain⟨v,o,ho,hd⟩:=I.cell x c e;obtain⟨m,⟨o',es,ep,ho',hd',_⟩,_⟩:=I.loc;rw[z,ho']at ho;cases ho;rw[hd']at hd;cases hd
theorem Inv.funs(I:Inv X ac σ H s):s.heap.FunFrames X.base X.outer:=by
 have all:∀(l:List Env),(∀b∈frs l,b∈X.fs)->X.s₀.heap.FunFrames X.base l->s.heap.FunFrames X.base l:=by
  intro l;induction l with
  | nil=>intro _ _;trivial
  | cons env r ih=>
   intro hs hl;obtain⟨hk,⟨L,o,hf,hn,ho,hd⟩,hr⟩:=hl;have hL:L∈X.fs:=hs L (by unfold frs;rw[List.filterMap_cons,hf];exact hW);obtain⟨sl,e⟩:=I.base.slot L o ho (I.ok.frf L hL) hL λz=>I.ok.exfs L z hL;exact⟨hk,⟨L,_,hf,hn,e,hd⟩,ih (λb hb=>hs b (by unfold frs;rw[List.filterMap_cons,hf];exact gR _ hb)) hr⟩
 exact all X.outer (λ_ hb=>hb) I.ok.funs
theorem Inv.stack(I:Inv X ac σ H s):s.heap.FunFrames X.base X.stack:=by
 rcases I.ok.stk with e | ⟨e,hf⟩
 ·rw[e];exact I.funs
 ·rw[e];obtain⟨m,hn,_⟩:=I.loc;refine .cons (by rw[I.ok.kind];decide) hf hn ?_ I.funs;exact Heap.get?_none_of_le (nL I.ok.bsz I.ok.above)
theorem Inv.stkSub(I:Inv X ac σ H s):∀b∈frs X.stack,b∈X.env.locals::X.fs:=λb hb=>by
 rcases I.ok.stk with e | ⟨e,hf⟩
 ·rw[e]at hb;exact gR _ hb
 ·rw[e]at hb;unfold frs at hb;rw[List.filterMap_cons,hf]at hb;exact hb
theorem Inv.stkFree(I:Inv X ac σ H s):∀b∈frs X.stack,H b=none:=λb hb=>by
 rcases nF.mp (I.stkSub b hb)with e | hb
 ·rw[e];exact I.free
 ·obtain⟨_,o,ho,_⟩:=I.ok.funs.mem hb;exact I.base.free b o ho (I.ok.frf b hb) λz=>I.ok.exfs b z hb
theorem Inv.step{g':Array GenState}{t':Nat}{d':Drawn}{ch:List Addr}(I:Inv X ac σ H s)
  (hch:∀b∈ch,(b∈X.ex∨X.s₀.heap.objs.size<=b)/\b≠X.env.locals/\(∀x c,X.env.cells.lookup x=some c->c≠b)/\∀p∈X.pn++ac,p.1≠b)
  (keep:∀b o,b≠X.env.locals->b∉X.fs->b∉ch->s.heap.get? b=some o->H b=none->h'.get? b=some o)
  (slot:∀b o,b≠X.env.locals->b∈X.fs->b∉ch->s.heap.get? b=some o->H b=none->∃sl,h'.get? b=some { o with slots:=sl }) (free:∀b o,b∉ch->s.heap.get? b=some o->H b=none->H' b=none)
  (there:∀b o,b∉ch->s.heap.get? b=some o->∃o',h'.get? b=some o')
  (tups:∀b xs,H b=some (.tup xs)->H' b=some (.tup xs)) (frzs:∀b o u,H b=some (.frz o u)->H' b=some (.frz o u)) (tbls:∀b ps,H b=some (.tbl ps)->∃more,H' b=some (.tbl (ps++more)))
  (ns:∀m,s.heap.Ns X.env.locals m->h'.Ns X.env.locals m) (hok:HOk X.prog X.w H' h') (hg:AllBare g') :
  Inv X ac σ H' { s with heap:=h',gens:=g',drawn:=d',toks:=t' } :=by
 have neL:∀b o,X.s₀.heap.get? b=some o->b≠X.env.locals:=λb o e=>nM (hJ (nK e) I.ok.above);have neC:∀b o,X.s₀.heap.get? b=some o->b∉X.ex->b∉ch:=λb o e hx hb=>by
  rcases(hch b hb).1 with z | z
  ·exact hx z
  ·exact absurd (hJ (nK e) z) (nG _)
 have cellK:∀x c,X.env.cells.lookup x=some c->∀v,s.heap.IsCell c v->h'.IsCell c v:=λx c e v ⟨o,ho,hd⟩=>by
  have nch:c∉ch:=λz=>(hch c z).2.2.1 x c e rfl;by_cases hc:c∈X.fs
  ·obtain⟨sl,q⟩:=slot c o (I.cne x c e) hc nch ho (I.freeC x c e);exact⟨_,q,hd⟩
  ·exact⟨o,keep c o (I.cne x c e) hc nch ho (I.freeC x c e),hd⟩
 refine⟨I.ok,I.os,hg,⟨λb o e n hb hx=>?_,λb o e n hb hx=>?_,λb o e n hx=>?_,λb o e hx=>?_,λb xs e=>tups b xs (I.base.tups b xs e),λb o xs e=>frzs b o xs (I.base.frzs b o xs e),λb ps e=>?_⟩, ?_,λx c e=>?_, ?_,λx c e=>?_,λp hp=>?_,hok,I.len⟩
 ·exact keep b o (neL b o e) hb (neC b o e hx) (I.base.keep b o e n hb hx) (I.base.free b o e n hx)
 ·obtain⟨sl,e1⟩:=I.base.slot b o e n hb hx;obtain⟨sl',e2⟩:=slot b _ (neL b o e) hb (neC b o e hx) e1 (I.base.free b o e n hx);exact⟨sl',e2⟩
 ·obtain⟨o',e1⟩:=I.base.there b o e hx;exact free b o' (neC b o e hx) e1 (I.base.free b o e n hx)
 ·obtain⟨o',e1⟩:=I.base.there b o e hx;exact there b o' (neC b o e hx) e1
 ·obtain⟨m1,e1⟩:=I.base.tbls b ps e;obtain⟨m2,e2⟩:=tbls b _ e1;exact⟨m1++m2,by rw[e2,Array.append_assoc]⟩
 ·obtain⟨m,hn,hl⟩:=I.loc;refine⟨m,ns m hn,λi x v e1 e2 e3=>?_⟩;obtain⟨u,r,l⟩:=hl i x v e1 e2 e3;refine⟨u,r, ?_⟩;rcases l with l | ⟨k,c,e,z⟩
  ·exact .inl l
  ·exact .inr ⟨k,c,e,cellK x c e _ z⟩
 ·obtain⟨v,z⟩:=I.cell x c e;exact⟨v,cellK x c e v z⟩
 ·obtain⟨m,⟨o,_,_,ho,_⟩,_⟩:=I.loc;exact free _ o (λz=>(hch _ z).2.1 rfl) ho I.free
 ·obtain⟨v,o,ho,hd⟩:=I.cell x c e;exact free c o (λz=>(hch c z).2.2.1 x c e rfl) ho (I.freeC x c e)
 ·obtain⟨e,n,ne,nf,d⟩:=I.pin p hp;have nch:p.1∉ch:=λz=>(hch p.1 z).2.2.2 p hp rfl;exact⟨keep p.1 p.2 ne nf nch e n,free p.1 p.2 nch e n,ne,nf,d⟩
theorem Inv.un{t':Nat}(I:Inv X ac σ H s)(u:Un X.fs [] H H' s.heap h')(hok:HOk X.prog X.w H' h'):Inv X ac σ H' { s with heap:=h',toks:=t' } :=by
 obtain⟨m,⟨o,es,ep,ho,r⟩,_⟩:=id I.loc;obtain⟨sl,hL⟩:=u.any ho I.free (by simp);exact I.step (g':=s.gens) (d':=s.drawn) (ch:=[]) (λ_ z=>nomatch z) (λb o _ hb _ e n=>u.keep b o e n hb (by simp)) (λb o _ hb _ e n=>u.slot b o e n hb (by simp)) (λb o _ e n=>u.free b o e n (by simp)) (λb o _ e=>u.there b o e (by simp)) u.tups u.frzs u.tbls (λm' hm=>by
  obtain⟨o',es',ep',ho',r'⟩:=hm;rw[ho]at ho';cases ho';exact⟨_,es',ep',hL,r'⟩) hok I.bare
theorem Inv.call{g':Array GenState}{t':Nat}{d':Drawn}{ch:List Addr}(I:Inv X ac σ H s)(u:Un (frs X.stack) ch H H' s.heap h')(hok:HOk X.prog X.w H' h')(hg:AllBare g')
  (hch:∀b∈ch,(b∈X.ex∨X.s₀.heap.objs.size<=b)/\b≠X.env.locals/\(∀x c,X.env.cells.lookup x=some c->c≠b)/\∀p∈X.pn++ac,p.1≠b) :
  Inv X ac σ H' { s with heap:=h',gens:=g',drawn:=d',toks:=t' } :=by
 obtain⟨m,⟨o,es,ep,ho,r⟩,_⟩:=id I.loc;obtain⟨sl,hL⟩:=u.any ho I.free λz=>(hch _ z).2.1 rfl;exact I.step (ch:=ch) hch (λb o hL hb hc e n=>u.keep b o e n (λz=>(nF.mp (I.stkSub b z)).elim hL hb) hc) (λb o _ _ hc e n=>u.any e n hc) (λb o hc e n=>u.free b o e n hc) (λb o hc e=>u.there b o e hc) u.tups u.frzs u.tbls (λm' hm=>by
  obtain⟨o',es',ep',ho',r'⟩:=hm;rw[ho]at ho';cases ho';exact⟨_,es',ep',hL,r'⟩) hok hg
theorem Inv.turned{t':Nat}{it:Addr}(I:Inv X ac σ H s)(k:∀b o,b≠it->s.heap.get? b=some o->h'.get? b=some o)(hn:H it=none)(hL:it≠X.env.locals)
  (h1:it∈X.ex∨X.s₀.heap.objs.size<=it) (h2:∀x c,X.env.cells.lookup x=some c->c≠it) (h3:∀p∈X.pn++ac,p.1≠it):Inv X ac σ H { s with heap:=h',toks:=t' } :=by
 have nit:∀b u,H b=some u->b≠it:=λb u e z=>by rw[z,hn]at e;cases e
 refine I.step (g':=s.gens) (d':=s.drawn) (ch:=[it]) (λb hb=>?_) (λb o _ _ hc e _=>k b o (λz=>hc (by simp [z])) e) (λb o _ _ hc e _=>⟨o.slots,k b o (λz=>hc (by simp [z])) e⟩) (λ_ _ _ _ n=>n)
  (λb o hc e=>⟨o,k b o (λz=>hc (by simp [z])) e⟩) (λ_ _ e=>e) (λ_ _ _ e=>e) (λb ps e=>⟨#[],by rw[e];simp⟩) (λm hm=>?_) (λb u e=>?_) I.bare
 ·have e:b=it:=by simpa using hb
  subst e;exact⟨h1,hL,h2,h3⟩
 ·obtain⟨o,es,ep,ho,r⟩:=hm;exact⟨o,es,ep,k _ o (Ne.symm hL) ho,r⟩
 ·refine(I.hok b u e).stay (λc v hc q=>k c v ?_ q) (λ_ q=>q) λ_ _ q=>q;rcases hc with z | z
  ·rw[z];exact nit b u e
  ·exact nit c _ z
theorem Inv.tok(I:Inv X ac σ H s)(t:Nat):Inv X ac σ H { s with toks:=t } :=I.un (h':=s.heap) (t':=t) Un.refl I.hok
theorem Inv.kept{t':Nat}(I:Inv X ac σ H s)(k:∀b u,s.heap.get? b=some u->h'.get? b=some u):Inv X ac σ H { s with heap:=h',toks:=t' } :=I.un (Un.kept k) (I.hok.kept k)
theorem Inv.laid{a:Addr}{o:HO}{t':Nat}(I:Inv X ac σ H s)(k:∀b u,s.heap.get? b=some u->h'.get? b=some u)(hp:s.heap.objs.size<=a)(new:ObjOk X.prog X.w (upd H a o) h' a o) :
  Inv X ac σ (upd H a o) { s with heap:=h',toks:=t' } :=I.un (Un.laid k hp (I.hok.fresh hp)) (I.hok.laid k hp new)
theorem Inv.write{x e:Addr}{o:HO}{t':Nat}(I:Inv X ac σ H s)(mu:Mut (H x))(he:e=x∨H e=some (.own x))(k:∀b u,b≠e->s.heap.get? b=some u->h'.get? b=some u)(heo:∃u,h'.get? e=some u)
  (new:ObjOk X.prog X.w (upd H x o) h' x o):Inv X ac σ (upd H x o) { s with heap:=h',toks:=t' } :=I.un (Un.write mu he k heo) (I.hok.write mu he k heo new)
theorem Inv.weak{σ':List (Option V)}(I:Inv X ac σ H s)(hl:σ'.length=σ.length)(w:∀(i:Nat) v,σ'[i]? = some (some v)->σ[i]? = some (some v)):Inv X ac σ' H s:=
 ⟨I.ok,I.os,I.bare,I.base,let ⟨m,hn,hl'⟩:=I.loc;⟨m,hn,λi x v e1 e2 e3=>hl' i x v e1 (w i v e2) e3⟩,I.cell,I.free,I.freeC,I.pin,I.hok,hl.trans I.len⟩
theorem Inv.pins_of{pins':List (Addr×Obj)}(I:Inv X ac σ H s)(h:∀p∈pins',s.heap.get? p.1=some p.2/\H p.1=none/\p.1≠X.env.locals/\p.1∉X.fs/\∀v,p.2.data≠.cell v):Inv X pins' σ H s:=
 ⟨I.ok,I.os,I.bare,I.base,I.loc,I.cell,I.free,I.freeC,λp hp=>(mV.mp hp).elim (λz=>I.pin p (List.mem_append_left _ z)) (h p),I.hok,I.len⟩
theorem JM{N:List Str}(hN:N.Nodup){i j:Nat}{x:Str}(a:N[i]? = some x)(b:N[j]? = some x):i=j:=by
 obtain⟨h1,e1⟩:=gG.mp a;obtain⟨h2,e2⟩:=gG.mp b;exact(List.getElem_inj hN).mp (e1.trans e2.symm)
theorem zM{M:Model}{A:Around}{E:Value->Shared->Prop}{i:Nat}{x:Str}{v:V}{u:Value}{Q:Unit->Shared->Prop}(I:Inv X ac σ H s)(hN:X.N.Nodup)(hi:X.N[i]? = some x)(hx:Loc X.env.scope x)(r:RelV v u)
  (h:∀s',Inv X ac (σ.set i (some v)) H s'->(∃a,Heap.SameBut a s.heap s'.heap/\(a=X.env.locals∨X.env.cells.lookup x=some a))->Q () s') (hf:X.fn x=true∨X.env.scope.names.lookup x=some .local:=by first | exact .inl rfl | exact .inr rfl | assumption):wpAny M A (storeName X.env x u) Q E s:=by
 obtain⟨m,hn,hl⟩:=id I.loc;have hcls:(X.env.scope.kind==.class||(X.env.scope.kind==.module&&X.env.locals != X.env.globals))=false:=by rw[I.ok.kind];rfl
 have hiσ:i<σ.length:=by rw[I.len];exact(gG.mp hi).1
 have cne:=I.cne;have tracked:∀{a:Addr} {h':Heap},(∃o,s.heap.get? a=some o/\H a=none)->Heap.SameBut a s.heap h'->HOk X.prog X.w H h':=fun {a h'} ha hs b ob e=>by
  obtain⟨_,_,hfree⟩:=ha;refine(I.hok b ob e).stay (λc w' hc q=>(hs.2 c ?_).trans q) (λ_ q=>q) λ_ _ q=>q;rintro rfl;rcases hc with rfl | hc
  ·rw[hfree]at e;cases e
  ·rw[hfree]at hc;cases hc
 rcases hx with hk | hk
 ·refine wpAny_storeName_local hk hn (λh' hn' hs=>?_) hcls;obtain⟨oL,_,_,hoL,_⟩:=id hn;refine h _ ⟨I.ok,I.os,I.bare,⟨λb o e n hb hx=>?_,λb o e n hb hx=>?_,I.base.free,λb o e hx=>?_,I.base.tups,I.base.frzs,I.base.tbls⟩,⟨_,hn',λj y v' e1 e2 e3=>?_⟩,λy c e=>?_,I.free,I.freeC,λp hp=>?_,tracked ⟨oL,hoL,I.free⟩ hs,by simpa using I.len⟩ ⟨_,hs,.inl rfl⟩
  ·exact(hs.2 b (nM (hJ (nK e) I.ok.above))).trans (I.base.keep b o e n hb hx)
  ·obtain⟨sl,e1⟩:=I.base.slot b o e n hb hx;exact⟨sl,(hs.2 b (nM (hJ (nK e) I.ok.above))).trans e1⟩
  ·obtain⟨o',e1⟩:=I.base.there b o e hx;exact⟨o',(hs.2 b (nM (hJ (nK e) I.ok.above))).trans e1⟩
  ·by_cases hj:j=i
   ·subst hj;rw[hi]at e1;cases e1;rw[List.getElem?_set_self hiσ]at e2;cases e2;exact⟨u,r,.inl ⟨hk,by simp⟩⟩
   ·rw[List.getElem?_set_ne (Ne.symm hj)]at e2;obtain⟨u',r',q⟩:=hl j y v' e1 e2 e3;refine⟨u',r', ?_⟩;rcases q with⟨k,e⟩ | ⟨k,c,e,z⟩
    ·refine .inl ⟨k, ?_⟩;have:y≠x:=λe=>hj (JM hN e1 (e▸hi));simp [this,e]
    ·exact .inr ⟨k,c,e,z.sameBut hs (cne y c e)⟩
  ·obtain⟨w',z⟩:=I.cell y c e;exact⟨w',z.sameBut hs (cne y c e)⟩
  ·obtain⟨e,n,ne,nf,d⟩:=I.pin p hp;exact⟨(hs.2 p.1 ne).trans e,n,ne,nf,d⟩
 ·have hfn:X.fn x=true:=by
   rcases hf with z | z
   ·exact z
   ·rw[z]at hk;cases hk
  obtain⟨c,hc⟩:=I.ok.has x (.inl hk);obtain⟨w',z⟩:=I.cell x c hc;refine wpAny_storeName_cell I.ok.kind hk hc z (λh' hc' hs=>?_);obtain⟨oc,hoc,hocd⟩:=id z;refine h { s with heap:=h' } ⟨I.ok,I.os,I.bare,⟨λb o e n hb hx=>?_,λb o e n hb hx=>?_,I.base.free,λb o e hx=>?_,I.base.tups,I.base.frzs,I.base.tbls⟩,⟨m,hn.sameBut hs (Ne.symm (cne x c hc)),λj y v' e1 e2 e3=>?_⟩,λy c' e=>?_,I.free,I.freeC,λp hp=>?_,tracked ⟨oc,hoc,I.freeC x c hc⟩ hs,by simpa using I.len⟩ ⟨c,hs,.inr hc⟩
  ·exact(hs.2 b (nM (hJ (nK e) (I.ok.cab x c hfn hc)))).trans (I.base.keep b o e n hb hx)
  ·obtain⟨sl,e1⟩:=I.base.slot b o e n hb hx;exact⟨sl,(hs.2 b (nM (hJ (nK e) (I.ok.cab x c hfn hc)))).trans e1⟩
  ·obtain⟨o',e1⟩:=I.base.there b o e hx;exact⟨o',(hs.2 b (nM (hJ (nK e) (I.ok.cab x c hfn hc)))).trans e1⟩
  ·by_cases hj:j=i
   ·subst hj;rw[hi]at e1;cases e1;rw[List.getElem?_set_self hiσ]at e2;cases e2;exact⟨u,r,.inr ⟨.inl hk,c,hc,hc'⟩⟩
   ·rw[List.getElem?_set_ne (Ne.symm hj)]at e2;obtain⟨u',r',q⟩:=hl j y v' e1 e2 e3;refine⟨u',r', ?_⟩;rcases q with q | ⟨k,c',e,z'⟩
    ·exact .inl q
    ·refine .inr ⟨k,c',e,z'.sameBut hs ?_⟩;rintro rfl;exact hj (JM hN e1 (I.ok.inj _ _ _ e hc▸hi))
  ·by_cases hcc:c'=c
   ·subst hcc;exact⟨_,hc'⟩
   ·obtain⟨w2,z2⟩:=I.cell y c' e;exact⟨w2,z2.sameBut hs hcc⟩
  ·obtain⟨e,n,ne,nf,d⟩:=I.pin p hp;refine⟨(hs.2 p.1 ?_).trans e,n,ne,nf,d⟩;intro q;rw[q,hoc]at e;have q':oc=p.2:=Option.some.inj e;exact d w' (by rw[<-q'];exact hocd)
theorem wO{M:Model}{A:Around}{E:Value->Shared->Prop}{i:Nat}{x:Str}{v:V}{u:Value}{Q:Unit->Shared->Prop}(I:Inv X ac σ H s)(hN:X.N.Nodup)(hi:X.N[i]? = some x)(hx:Loc X.env.scope x)(r:RelV v u)
  (h:∀s',Inv X ac (σ.set i (some v)) H s'->Q () s') (hf:X.fn x=true∨X.env.scope.names.lookup x=some .local:=by first | exact .inl rfl | exact .inr rfl | assumption):wpAny M A (storeName X.env x u) Q E s:=
 zM I hN hi hx r (λs' I' _=>h s' I') hf
theorem Inv.call'{s':Shared}{ch:List Addr}(I:Inv X ac σ H s)(ho:s'.os=s.os)(u:Un (frs X.stack) ch H H' s.heap s'.heap)(hok:HOk X.prog X.w H' s'.heap)(hg:AllBare s'.gens)
  (hch:∀b∈ch,(b∈X.ex∨X.s₀.heap.objs.size<=b)/\b≠X.env.locals/\(∀x c,X.env.cells.lookup x=some c->c≠b)/\∀p∈X.pn++ac,p.1≠b):Inv X ac σ H' s':=by
 obtain⟨h',g',d',t',o'⟩:=s';have e:o'=s.os:=ho;subst e;exact I.call (g':=g') (t':=t') (d':=d') u hok hg hch
end
abbrev XK:=Value->Option Addr->Hp->Prop
abbrev St:=List (Option V)
abbrev VK:=V->Hp->Prop
abbrev TE:=St->Hp->VK->Prop
abbrev TT:=St->Hp->(Bool->Hp->Prop)->Prop
abbrev TA:=St->Hp->(List V->Hp->Prop)->Prop
structure Ends where
 nx:St->Hp->Prop
 rt:VK
 bk:St->Hp->Prop:=λ_ _=>False
 ct:St->Hp->Prop:=λ_ _=>False
abbrev TS:=Ends->St->Hp->Prop
def EP(X:Cx)(ac:List (Addr×Obj))(σ:St)(Q:VK)(u:Value)(s':Shared):Prop:=∃v H',Inv X ac σ H' s'/\RelV v u/\Q v H'
def TP(X:Cx)(ac:List (Addr×Obj))(σ:St)(Q:Bool->Hp->Prop)(b:Bool)(s':Shared):Prop:=∃H',Inv X ac σ H' s'/\Q b H'
def AP(X:Cx)(ac:List (Addr×Obj))(σ:St)(Q:List V->Hp->Prop)(us:List Value)(s':Shared):Prop:=∃vs H',Inv X ac σ H' s'/\Vals vs us/\Q vs H'
def SP(X:Cx)(ac:List (Addr×Obj))(D:Ends)(f:Flow)(s':Shared):Prop:=
 match f with
 | .next=>∃σ' H',Inv X ac σ' H' s'/\D.nx σ' H'
 | .brk=>∃σ' H',Inv X ac σ' H' s'/\D.bk σ' H'
 | .cont=>∃σ' H',Inv X ac σ' H' s'/\D.ct σ' H'
 | .ret u=>∃v σ' H',Inv X ac σ' H' s'/\RelV v u/\D.rt v H'
def PE(X:Cx)(e:Expr)(t:TE):Prop:=
 ∀(ac:List (Addr×Obj)) (s:Shared) (σ:St) (H:Hp) (Q:VK),Inv X ac σ H s->t σ H Q->wpAny (model X.prog X.w) X.A (eval e X.env) (EP X ac σ Q) X.xe s
def PT(X:Cx)(e:Expr)(t:TT):Prop:=
 ∀(ac:List (Addr×Obj)) (s:Shared) (σ:St) (H:Hp) (Q:Bool->Hp->Prop),Inv X ac σ H s->t σ H Q->wpAny (model X.prog X.w) X.A (isTrue e X.env (eval e X.env)) (TP X ac σ Q) X.xe s
def PW(X:Cx)(e:Expr)(t:TT):Prop:=
 ∀(whole:Sem Value) (ac:List (Addr×Obj)) (s:Shared) (σ:St) (H:Hp) (Q:Bool->Hp->Prop),Inv X ac σ H s->t σ H Q->wpAny (model X.prog X.w) X.A (isTrue e X.env whole) (TP X ac σ Q) X.xe s
theorem PW.pt{X:Cx}{e:Expr}{t:TT}(h:PW X e t):PT X e t:=h _
def PA(X:Cx)(es:List Expr)(t:TA):Prop:=
 ∀(pos:Pos) (ac:List (Addr×Obj)) (s:Shared) (σ:St) (H:Hp) (Q:List V->Hp->Prop),Inv X ac σ H s->t σ H Q->wpAny (model X.prog X.w) X.A (spliced (backTo pos (starEach es X.env))) (AP X ac σ Q) X.xe s
def PS(X:Cx)(st:Stmt)(t:TS):Prop:=
 ∀(ac:List (Addr×Obj)) (s:Shared) (σ:St) (H:Hp) (D:Ends),Inv X ac σ H s->t D σ H->wpAny (model X.prog X.w) X.A (exec st X.env) (SP X ac D) X.xe s
def PSs(X:Cx)(st:List Stmt)(t:TS):Prop:=
 ∀(ac:List (Addr×Obj)) (s:Shared) (σ:St) (H:Hp) (D:Ends),Inv X ac σ H s->t D σ H->wpAny (model X.prog X.w) X.A (execs st X.env) (SP X ac D) X.xe s
theorem thn{α:Type}{t:Sem α}{Q Q':α->Shared->Prop}{M:Model}{A:Around}{E:Value->Shared->Prop}{s:Shared}(h:wpAny M A t Q E s)(hQ:∀a s,Q a s->Q' a s):wpAny M A t Q' E s:=nY h hQ λ_ _ x=>x
section
variable{X:Cx}
theorem bin{a b:Expr}{ta tb:TE}(ha:PE X a ta)(hb:PE X b tb){ac:List (Addr×Obj)}{s:Shared}{σ:St}{H:Hp}{R:V->V->Hp->Prop}(I:Inv X ac σ H s)(h:ta σ H λx H1=>tb σ H1 λy H2=>R x y H2)
  {α:Type} {Q:α->Shared->Prop} {f:Value->Value->Sem α}
  (hf:∀v u s2 x y H2,Inv X ac σ H2 s2->RelV x v->RelV y u->R x y H2->wpAny (model X.prog X.w) X.A (f v u) Q X.xe s2) :
  wpAny (model X.prog X.w) X.A (eval a X.env) (λv s₁=>wpAny (model X.prog X.w) X.A (eval b X.env) (λu s₂=>wpAny (model X.prog X.w) X.A (f v u) Q X.xe s₂) X.xe s₁) X.xe s:=by
 refine thn (ha ac s σ H _ I h) λv s1 ⟨x,H1,I1,r1,q1⟩=>?_;refine thn (hb ac s1 σ H1 _ I1 q1) λu s2 ⟨y,H2,I2,r2,q2⟩=>?_;exact hf v u s2 x y H2 I2 r1 r2 q2
def qJ(i:Nat):TE:=fun σ H Q=>∃v,σ[i]? = some (some v)/\Q v H
def tC(v:V):TE:=λ_ H Q=>Q v H
theorem pe_var{i:Nat}{x:Str}{pos:Pos}(hN:X.N[i]? = some x)(hv:Vis X.env.scope x)(hd:(x==("__debug__" :Str))=false:=by decide)(hcd:(x==("__classdict__" :Str))=false:=by decide):PE X (.Name x pos) (qJ i):=by
 intro ac s σ H Q I h;obtain⟨v,e,h⟩:=h;obtain⟨m,hn,hl⟩:=I.loc;obtain⟨u,r,l⟩:=hl i x v hN e hv;have fin:EP X ac σ Q u s:=⟨v,H,I,r,h⟩;rcases l with⟨hk,hm⟩ | ⟨hk,c,hc,hcell⟩
 ·exact wpAny_Name (wpAny_loadName_local I.ok.kind hk hn hm fin) hd
 ·rcases hk with hk | hk
  ·exact wpAny_Name (wpAny_loadName_cell I.ok.kind hk hc hcell fin) hd
  ·exact wpAny_Name (wpAny_loadName_free I.ok.kind hk hc hcell fin hcd) hd
theorem jJ{i j pos} :PE X (.Constant (.int i) j pos) (tC (.int i)):=λ_ _ _ H _ I h=>wpAny_Constant_int ⟨.int i,H,I.tok _,⟨_,rfl⟩,h⟩
theorem yB{b j pos} :PE X (.Constant (.bool b) j pos) (tC (.bl b)):=λ_ _ _ H _ I h=>Constant_bool ⟨.bl b,H,I,rfl,h⟩
theorem vV{x j pos} :PE X (.Constant (.str x) j pos) (tC (.str x)):=λ_ _ _ H _ I h=>Calls.Constant_str ⟨.str x,H,I.tok _,⟨_,rfl⟩,h⟩
def Gl(X:Cx)(x:Str):Prop:=X.env.kindOf x=some .globalImplicit
theorem HQ{E:Value->Shared->Prop}{ac:List (Addr×Obj)}{s:Shared}{σ:St}{H:Hp}{x:Str}{u:Value}{pos:Pos}{Q:Value->Shared->Prop}(I:Inv X ac σ H s)(hg:Gl X x)(hm:X.mg x=some u)(h:Q u s)
  (hd:(x==("__debug__" :Str))=false:=by decide):wpAny (model X.prog X.w) X.A (eval (.Name x pos) X.env) Q E s:=
 Calls.Name_function_global I.ok.kind hg (Calls.loadGlobal_global (by rw[I.ok.glob];exact I.mod.glob.keeps I.bk) hm h) hd
theorem xV{E:Value->Shared->Prop}{ac:List (Addr×Obj)}{s:Shared}{σ:St}{H:Hp}{x:Str}{u:Value}{pos:Pos}{Q:Value->Shared->Prop}(I:Inv X ac σ H s)(hg:Gl X x)(hm:X.mg x=none)(hv:bootBuiltins x=some u)(h:Q u s)
  (hn:x≠"__name__":=by decide) (hd:(x==("__debug__" :Str))=false:=by decide):wpAny (model X.prog X.w) X.A (eval (.Name x pos) X.env) Q E s:=by
 obtain⟨mb,h1,h2⟩:=I.mod.blt;exact Calls.Name_function_global I.ok.kind hg (Calls.loadGlobal_builtin (by rw[I.ok.glob];exact I.mod.glob.keeps I.bk) hm (by rw[I.ok.blt];exact h1.keeps I.bk) ((h2 x hn).trans hv) h) hd
theorem kQ{x:Str}{v:V}{u:Value}{pos:Pos}(hg:Gl X x)(hm:X.mg x=some u)(r:RelV v u)(hd:(x==("__debug__" :Str))=false:=by decide):PE X (.Name x pos) (tC v):=
 λ_ _ _ H _ I h=>HQ I hg hm ⟨v,H,I,r,h⟩ hd
theorem YB{x:Str}{v:V}{u:Value}{pos:Pos}(hg:Gl X x)(hm:X.mg x=none)(hv:bootBuiltins x=some u)(r:RelV v u)(hn:x≠"__name__":=by decide)(hd:(x==("__debug__" :Str))=false:=by decide):PE X (.Name x pos) (tC v):=
 λ_ _ _ H _ I h=>xV I hg hm hv ⟨v,H,I,r,h⟩ hn hd
variable{a b:Expr}{ta tb:TE}{pos:Pos}
def PC(X:Cx)(op:CmpOp)(a b:Expr)(t:TE):Prop:=
 ∀(ac:List (Addr×Obj)) (s:Shared) (σ:St) (H:Hp) (Q:VK),Inv X ac σ H s->t σ H Q->
  wpAny (model X.prog X.w) X.A (eval a X.env) (λv s₁=>wpAny (model X.prog X.w) X.A (eval b X.env) (λu s₂=>wpAny (model X.prog X.w) X.A (compareOp op v u) (EP X ac σ Q) X.xe s₂) X.xe s₁) X.xe s
def tB(t:TE):TT:=fun σ H Q=>t σ H λx H1=>∃c,x=.bl c/\Q c H1
theorem pt_cmp{op:CmpOp}{t:TE}(h:PC X op a b t)(h1:behindInMarks op b=false:=by first | exact nobehind _ (by decide) (by decide) | rfl):PT X (.Compare a [op] [b] pos) (tB t):=by
 intro ac s σ H Q I hw;refine wpAny_isTrue_Compare1 (thn (h ac s σ H _ I hw) λv s1 h1=>thn h1 λu s2 h2=>thn h2 λc s3 ⟨x,H1,I1,r1,q1⟩=>?_) h1;obtain⟨d,rfl,q⟩:=q1;cases r1;exact wpAny_truthy_bool ⟨H1,I1,q⟩
theorem qY{e:Expr}{t:TE}(h:PE X e t)(he:∀whole,isTrue e X.env whole=(do let v<-whole;standAt e.pos;holding [v] (truthy v)):=by intro _;rfl):PT X e (tB t):=by
 intro ac s σ H Q I hw;refine isTrue_plain (thn (h ac s σ H _ I hw) λv s1 ⟨x,H1,I1,r1,q1⟩=>?_) (he _);obtain⟨d,rfl,q⟩:=q1;cases r1;exact wpAny_truthy_bool ⟨H1,I1,q⟩
variable{tA tB':TT}{rest:List Expr}
def tOr(t u:TT):TT:=fun σ H Q=>t σ H λc H1=>if c=true then Q true H1 else u σ H1 Q
def tNot(t:TT):TT:=fun σ H Q=>t σ H λc H1=>Q (!c) H1
theorem xU(ha:PT X a tA):PW X (.BoolOp .Or [a] pos) tA:=by
 intro wh ac s σ H Q I h;refine isTrue_or (thn (ha ac s σ H Q I h) λc s1 e=>?_);cases c with
 | false=>exact isTrue_or_nil e
 | true=>exact e
theorem yZ(ha:PT X a tA)(hb:PW X (.BoolOp .Or (b::rest) pos) tB'):PW X (.BoolOp .Or (a::b::rest) pos) (tOr tA tB'):=by
 intro wh ac s σ H Q I h;refine isTrue_or (thn (ha ac s σ H _ I h) λc s1 ⟨H1,I1,q1⟩=>?_);cases c with
 | true=>exact⟨H1,I1,q1⟩
 | false=>exact hb wh ac s1 σ H1 Q I1 q1
theorem vD(ha:PT X a tA):PT X (.UnaryOp .Not a pos) (tNot tA):=by
 intro ac s σ H Q I h;exact isTrue_not (ha ac s σ H (λc H1=>Q (!c) H1) I h)
def ZY(ta tb:TE):TE:=fun σ H Q=>ta σ H λx H1=>∃c,x=.bl c/\if c=true then tb σ H1 Q else Q (.bl false) H1
def tNotV(ta:TE):TE:=fun σ H Q=>ta σ H λx H1=>∃c,x=.bl c/\Q (.bl (!c)) H1
theorem uP{op}{t:TE}(h:PE X a t):PE X (.BoolOp op [a] pos) t:=λac s σ H Q I hw=>BoolOp_one (h ac s σ H Q I hw)
theorem zB(ha:PE X a ta)(hb:PE X (.BoolOp .And (b::rest) pos) tb):PE X (.BoolOp .And (a::b::rest) pos) (ZY ta tb):=by
 intro ac s σ H Q I h;refine BoolOp_and (thn (ha ac s σ H _ I h) λv s1 ⟨x,H1,I1,r1,q1⟩=>?_);obtain⟨c,rfl,q1⟩:=q1;cases r1;refine wpAny_truthy_bool ?_;cases c with
 | true=>exact hb ac s1 σ H1 Q I1 q1
 | false=>exact⟨.bl false,H1,I1,rfl,q1⟩
theorem TV(ha:PE X a ta):PE X (.UnaryOp .Not a pos) (tNotV ta):=by
 intro ac s σ H Q I h;refine UnaryOp_ (thn (ha ac s σ H _ I h) λv s1 ⟨x,H1,I1,r1,q1⟩=>?_);obtain⟨c,rfl,q1⟩:=q1;cases r1;exact not_of (wpAny_truthy_bool ⟨.bl (!c),H1,I1,rfl,q1⟩)
def tIf(t:TT)(ta tb:TE):TE:=fun σ H Q=>t σ H λc H1=>if c=true then ta σ H1 Q else tb σ H1 Q
theorem JA{c:Expr}(hc:PT X c tA)(ha:PE X a ta)(hb:PE X b tb):PE X (.IfExp c a b pos) (tIf tA ta tb):=by
 intro ac s σ H Q I h;refine wpAny_IfExp (thn (hc ac s σ H _ I h) λd s1 ⟨H1,I1,q1⟩=>?_);cases d with
 | true=>exact ha ac s1 σ H1 Q I1 q1
 | false=>exact hb ac s1 σ H1 Q I1 q1
end
def SqL(K:tF)(H:Hp)(a:Addr)(xs:List V):Prop:=
 Rd H a (.lst xs)∨
  ∃(o:Obj) (its:Array Value) (n:Nat),K.lookup a=some o/\o.cls=.type "list"/\o.dict=none/\o.data=.seq its n/\its.size<=sizeLine/\Vals xs its.toList
def SqT(K:tF)(H:Hp)(a:Addr)(xs:List V):Prop:=
 Rd H a (.tup xs)∨
  ∃(o:Obj) (its:Array Value) (n:Nat),K.lookup a=some o/\o.cls=.type "tuple"/\o.data=.seq its n/\its.size<=sizeLine/\Vals xs its.toList
def absV:Value->Option V
 | .none=>some .non
 | .bool b=>some (.bl b)
 | .int i _=>some (.int i)
 | .str x _=>some (.str x)
 | .bytes b _=>some (.byt b)
 | .float b _=>some (.flt b)
 | .ref a=>some (.ref a)
 | .type n=>some (.ty n)
 | _=>none
theorem RelV.abs{x:V}{u:Value}(r:RelV x u):absV u=some x:=by
 cases x with
 | non=>cases r;rfl
 | bl _=>cases r;rfl
 | int _=>obtain⟨t,rfl⟩:=r;rfl
 | str _=>obtain⟨t,rfl⟩:=r;rfl
 | byt _=>obtain⟨t,rfl⟩:=r;rfl
 | flt _=>obtain⟨t,rfl⟩:=r;rfl
 | ref _=>cases r;rfl
 | ty _=>cases r;rfl
theorem RelV.inj{x y:V}{u:Value}(r:RelV x u)(q:RelV y u):x=y:=Option.some.inj (r.abs.symm.trans q.abs)
theorem Vals.inj:∀{xs ys:List V} {us:List Value},Vals xs us->Vals ys us->xs=ys
 | _,_,_,.nil,.nil=>rfl
 | _,_,_,.cons r t,.cons r' t'=>by rw[r.inj r',Vals.inj t t']
section
variable{X:Cx}{ac:List (Addr×Obj)}{σ:St}{H:Hp}{s:Shared}{a:Addr}{xs ys:List V}
theorem SqL.of{K:tF}(h:H a=some (.lst xs)):SqL K H a xs:=.inl (.inl h)
theorem SqT.of{K:tF}(h:H a=some (.tup xs)):SqT K H a xs:=.inl (.inl h)
theorem Inv.list(I:Inv X ac σ H s)(h:SqL X.K H a xs):∃its:List Value,Vals xs its/\PlainL s.heap a its.toArray/\xs.length<=sizeLine:=by
 rcases h with h | ⟨o,its,n,hk,hc,hd,hs,hz,r⟩
 ·obtain⟨z,its,n,r,e⟩:=h.ok I.hok;exact⟨its,r,⟨_,n,e,rfl,rfl,rfl⟩,z⟩
 ·refine⟨its.toList,r,⟨o,n,I.kIn a o hk,hc,hd,by simpa using hs⟩, ?_⟩;have e:=r.length;simp only[Array.length_toList]at e;omega
theorem Inv.tuple(I:Inv X ac σ H s)(h:SqT X.K H a xs):∃its:List Value,Vals xs its/\IsTup s.heap a its.toArray/\xs.length<=sizeLine:=by
 rcases h with h | ⟨o,its,n,hk,hc,hs,hz,r⟩
 ·obtain⟨z,its,r,p⟩:=h.ok I.hok;exact⟨its,r,p.1,z⟩
 ·refine⟨its.toList,r,⟨o,I.kIn a o hk,hc,n,by simpa using hs⟩, ?_⟩;have e:=r.length;simp only[Array.length_toList]at e;omega
theorem Inv.list_inj(I:Inv X ac σ H s)(h:SqL X.K H a xs)(h':SqL X.K H a ys):xs=ys:=by
 obtain⟨its,r,⟨o,n,e,_,_,d⟩,_⟩:=I.list h;obtain⟨its',r',⟨o',n',e',_,_,d'⟩,_⟩:=I.list h';rw[e]at e';cases e';rw[d]at d';injection d' with d1 _
 have:its=its':=by simpa using congrArg Array.toList d1
 subst this;exact r.inj r'
theorem Inv.tuple_inj(I:Inv X ac σ H s)(h:SqT X.K H a xs)(h':SqT X.K H a ys):xs=ys:=by
 obtain⟨its,r,⟨o,e,_,n,d⟩,_⟩:=I.tuple h;obtain⟨its',r',⟨o',e',_,n',d'⟩,_⟩:=I.tuple h';rw[e]at e';cases e';rw[d]at d';injection d' with d1 _
 have:its=its':=by simpa using congrArg Array.toList d1
 subst this;exact r.inj r'
end
abbrev Cx.wish(X:Cx)(E:Value->Shared->Prop):Cx:={ X with xe:=E }
abbrev Cx.nox(X:Cx):Cx:=X.wish λ_ _=>False
theorem Cx.Ok.wish{X:Cx}(ok:X.Ok)(E:Value->Shared->Prop):(X.wish E).Ok:=
 ⟨ok.mod,ok.kind,ok.glob,ok.blt,ok.above,ok.inj,ok.has,ok.cab,ok.hd,ok.frames,ok.stk,ok.exf,ok.bs,ok.bsz,ok.noex,ok.exfs,ok.funs,ok.frf⟩
theorem Cx.Ok.unwish{X:Cx}{E:Value->Shared->Prop}(ok:(X.wish E).Ok):X.Ok:=
 ⟨ok.mod,ok.kind,ok.glob,ok.blt,ok.above,ok.inj,ok.has,ok.cab,ok.hd,ok.frames,ok.stk,ok.exf,ok.bs,ok.bsz,ok.noex,ok.exfs,ok.funs,ok.frf⟩
section
variable{X:Cx}{ac:List (Addr×Obj)}{σ:St}{H:Hp}{s:Shared}{E:Value->Shared->Prop}
theorem Inv.wish(I:Inv X ac σ H s)(E:Value->Shared->Prop):Inv (X.wish E) ac σ H s:=⟨I.ok.wish E,I.os,I.bare,I.base,I.loc,I.cell,I.free,I.freeC,I.pin,I.hok,I.len⟩
theorem Inv.unwish(I:Inv (X.wish E) ac σ H s):Inv X ac σ H s:=⟨I.ok.unwish,I.os,I.bare,I.base,I.loc,I.cell,I.free,I.freeC,I.pin,I.hok,I.len⟩
theorem SP.unwish{D:Ends}{f:Flow}{s':Shared}(h:SP (X.wish E) ac D f s'):SP X ac D f s':=by
 cases f with
 | next=>obtain⟨σ',H',I,q⟩:=h;exact⟨σ',H',I.unwish,q⟩
 | brk=>obtain⟨σ',H',I,q⟩:=h;exact⟨σ',H',I.unwish,q⟩
 | cont=>obtain⟨σ',H',I,q⟩:=h;exact⟨σ',H',I.unwish,q⟩
 | ret u=>obtain⟨v,σ',H',I,r,q⟩:=h;exact⟨v,σ',H',I.unwish,r,q⟩
theorem PSs.nox{st:List Stmt}{t:TS}(h:PSs X.nox st t):PSs X st t:=λac s σ H D I hw=>
 nY (h ac s σ H D (I.wish _) hw) (λ_ _ q=>q.unwish) λ_ _ z=>False.elim z
end
section
variable{X:Cx}{st:Stmt}{rest:List Stmt}{t u:TS}{e:Expr}{te:TE}{pos:Pos}
def tNext:TS:=λD σ H=>D.nx σ H
def tSeq(t u:TS):TS:=λD σ H=>t { D with nx:=u D } σ H
theorem kA:PSs X [] tNext:=λ_ _ σ H _ I h=>wpAny_execs_nil ⟨σ,H,I,h⟩
theorem jC(h1:PS X st t)(h2:PSs X rest u):PSs X (st::rest) (tSeq t u):=by
 intro ac s σ H D I h;refine wpAny_execs_cons (thn (h1 ac s σ H { D with nx:=u D } I h) λf s1 q=>?_);cases f with
 | next=>
  obtain⟨σ',H',I',q⟩:=q;exact h2 ac s1 σ' H' D I' q
 | ret v=>exact q
 | brk=>exact q
 | cont=>exact q
theorem jE(h1:PS X st t):PSs X [st] t:=by
 intro ac s σ H D I h;refine wpAny_execs_cons (thn (h1 ac s σ H D I h) λf s1 q=>?_);cases f with
 | next=>exact wpAny_execs_nil q
 | ret v=>exact q
 | brk=>exact q
 | cont=>exact q
theorem Inv.quiet{ac:List (Addr×Obj)}{σ:St}{H:Hp}{s:Shared}(I:Inv X ac σ H s):interactive X.env=false:=by simp [interactive,I.ok.kind]
def ZW(te:TE):TS:=λD σ H=>te σ H λ_ H1=>D.nx σ H1
theorem xQ(he:PE X e te)(hs:swapsWith e none pos.line X.env=pure false:=by rfl):PS X (.Expr e pos) (ZW te):=by
 intro ac s σ H D I h;exact wpAny_Expr_any (thn (he ac s σ H _ I h) λv s1 ⟨x,H1,I1,r1,q1⟩=>⟨σ,H1,I1,q1⟩) I.quiet hs
def tRet(te:TE):TS:=λD σ H=>te σ H D.rt
theorem jO(he:PE X e te):PS X (.Return (some e) pos) (tRet te):=by
 intro ac s σ H D I h;exact wpAny_Return_some (thn (he ac s σ H _ I h) λv s1 ⟨x,H1,I1,r1,q1⟩=>⟨x,σ,H1,I1,r1,q1⟩)
def tIfS(c:TT)(t u:TS):TS:=λD σ H=>c σ H λb H1=>if b=true then t D σ H1 else u D σ H1
theorem kR{c:Expr}{a b:List Stmt}{tc:TT}(hc:PT X c tc)(ha:PSs X a t)(hb:PSs X b u):PS X (.If c a b pos) (tIfS tc t u):=by
 intro ac s σ H D I h;refine wpAny_If (thn (hc ac s σ H _ I h) λd s1 ⟨H1,I1,q1⟩=>?_);cases d with
 | true=>exact ha ac s1 σ H1 D I1 q1
 | false=>exact hb ac s1 σ H1 D I1 q1
def tNever:TS:=λ_ _ _=>False
theorem qO:PS X st tNever:=λ_ _ _ _ _ _ h=>h.elim
theorem EJ{sts:List Stmt} :PSs X sts tNever:=λ_ _ _ _ _ _ h=>h.elim
end
abbrev TG:=V->St->Hp->(St->Hp->Prop)->Prop
abbrev TGs:=List V->St->Hp->(St->Hp->Prop)->Prop
def PG(X:Cx)(target:Expr)(t:TG):Prop:=
 ∀(ac:List (Addr×Obj)) (s:Shared) (σ:St) (H:Hp) (v:V) (u:Value) (Q:St->Hp->Prop),Inv X ac σ H s->RelV v u->t v σ H Q->
  wpAny (model X.prog X.w) X.A (assign target X.env u) (λ_ s'=>∃σ' H',Inv X ac σ' H' s'/\Q σ' H') X.xe s
def PGs(X:Cx)(ts:List Expr)(t:TGs):Prop:=
 ∀(ac:List (Addr×Obj)) (s:Shared) (σ:St) (H:Hp) (vs:List V) (us:List Value) (Q:St->Hp->Prop),Inv X ac σ H s->Vals vs us->t vs σ H Q->
  wpAny (model X.prog X.w) X.A (assignInOrder ((assignEach ts X.env).map (·.2)) us) (λ_ s'=>∃σ' H',Inv X ac σ' H' s'/\Q σ' H') X.xe s
abbrev TSet:=V->V->V->Hp->(Hp->Prop)->Prop
def PSet(X:Cx)(t:TSet):Prop:=
 ∀(ac:List (Addr×Obj)) (s:Shared) (σ:St) (H:Hp) (o i v:V) (ov iv u:Value) (Q:Hp->Prop),Inv X ac σ H s->RelV o ov->RelV i iv->RelV v u->t o i v H Q->
  wpAny (model X.prog X.w) X.A (setItem ov iv u) (λ_ s'=>∃H',Inv X ac σ H' s'/\Q H') X.xe s
abbrev TIp:=V->V->Hp->VK->Prop
def PIp(X:Cx)(op:Operator)(t:TIp):Prop:=
 ∀(ac:List (Addr×Obj)) (s:Shared) (σ:St) (H:Hp) (x y:V) (v u:Value) (Q:VK),Inv X ac σ H s->RelV x v->RelV y u->t x y H Q->
  wpAny (model X.prog X.w) X.A (inplaceOp op v u) (EP X ac σ Q) X.xe s
section
variable{X:Cx}{pos:Pos}
def jX(i:Nat):TG:=λv σ H Q=>Q (σ.set i (some v)) H
theorem jF{i:Nat}{x:Str}(hN:X.N.Nodup)(hi:X.N[i]? = some x)(hx:Loc X.env.scope x)(hf:X.fn x=true∨X.env.scope.names.lookup x=some .local:=by first | exact .inl rfl | exact .inr rfl | assumption):PG X (.Name x pos) (jX i):=by
 intro ac s σ H v u Q I r h;exact wpAny_assign_Name (wO I hN hi hx r (λs' I'=>⟨_,H,I',h⟩) hf)
def gNil:TGs:=λvs σ H Q=>vs=[]/\Q σ H
def qI(t:TG)(u:TGs):TGs:=λvs σ H Q=>∃v r,vs=v::r/\t v σ H fun σ' H'=>u r σ' H' Q
theorem jR:PGs X [] gNil:=by
 intro ac s σ H vs us Q I r h;obtain⟨e,h⟩:=h;subst e;cases r;exact assignInOrder_nil ⟨σ,H,I,h⟩
theorem jG{e:Expr}{es:List Expr}{t:TG}{u:TGs}(h1:PG X e t)(h2:PGs X es u)
  (hs:(assignEach (e::es) X.env).map (·.2)=assign e X.env::(assignEach es X.env).map (·.2):=by rfl):PGs X (e::es) (qI t u):=by
 intro ac s σ H vs us Q I r h;obtain⟨v,vr,e1,h⟩:=h;subst e1;cases r with
 | cons r rr=>
  rw[hs];refine assignInOrder_cons (thn (h1 ac s σ H _ _ _ I r h) λ_ s1 ⟨σ1,H1,I1,q1⟩=>?_);exact h2 ac s1 σ1 H1 _ _ Q I1 rr q1
def wZ(K:tF)(n:Nat)(t:TGs):TG:=λv σ H Q=>∃a xs,v=.ref a/\SqT K H a xs/\xs.length=n/\t xs σ H Q
theorem kD{es:List Expr}{k:Nat}{t:TGs}{n:Nat}(hc:X.calm=true)(h:PGs X es t)
  (hn:(assignEach es X.env).length=n:=by rfl) (hst:(assignEach es X.env).findIdx? (·.1)=none:=by rfl):PG X (.Tuple es k pos) (wZ X.K n t):=by
 intro ac s σ H v u Q I r hw;obtain⟨a,xs,e1,hq,hl,hw⟩:=hw;subst e1;cases r;obtain⟨its,rv,ht,hz⟩:=I.tuple hq;refine assign_Tuple_tuple (I.ok.hd hc) ht (by simp [hn,<-hl,rv.length]) hst λh' hx=>?_;have I1:Inv X ac σ H { s with heap:=h' } :=I.kept (t':=s.toks) λb o e=>hx b o (nM (nK e)) e;exact h ac _ σ H xs _ Q I1 (by simpa using rv) hw
def gSub(to ti:TE)(t:TSet):TG:=λv σ H Q=>to σ H λo H1=>ti σ H1 λi H2=>t o i v H2 λH3=>Q σ H3
theorem pg_sub{o i:Expr}{to ti:TE}{t:TSet}(ho:PE X o to)(hi:PE X i ti)(hs:PSet X t)
  (ha:∀v,assign (.Subscript o i pos) X.env v=(do
   let ov<-holding [v] (eval o X.env);let iv<-holding [v,ov] (eval i X.env)
   standAt pos
   holding [v,ov,iv] (setItem ov iv v)
   release [v,ov,iv] []):=by intro _;rfl):PG X (.Subscript o i pos) (gSub to ti t):=by
 intro ac s σ H v u Q I r h;rw[ha];refine nW (wpAny_holding (thn (ho ac s σ H _ I h) λov s1 ⟨x,H1,I1,r1,q1⟩=>?_));refine nW (wpAny_holding (thn (hi ac s1 σ H1 _ I1 q1) λiv s2 ⟨y,H2,I2,r2,q2⟩=>?_));refine nW (wpAny_standAt (nW (wpAny_holding (thn (hs ac s2 σ H2 x y v ov iv u _ I2 r1 r2 r q2) λ_ s3 ⟨H3,I3,q3⟩=>?_))));exact wpAny_release ⟨σ,H3,I3,q3⟩
def SF(te:TE)(g:TG):TS:=λD σ H=>te σ H λx H1=>g x σ H1 D.nx
theorem qZ{tg e:Expr}{te:TE}{g:TG}(he:PE X e te)(hg:PG X tg g)(hs:swapsWithSole [tg] e pos.line X.env=pure false:=by rfl)(hw:swappedStores [tg] e X.env=pure none:=by rfl)
  (h1:(assignEach [tg] X.env).map (·.2)=[assign tg X.env]:=by rfl):PS X (.Assign [tg] e pos) (SF te g):=by
 intro ac s σ H D I h;refine wpAny_Assign_stores (thn (he ac s σ H _ I h) λv s1 ⟨x,H1,I1,r1,q1⟩=>?_) hs hw;rw[h1];exact thn (hg ac s1 σ H1 x v _ I1 r1 q1) λ_ s2 q=>q
theorem jP{i:Nat}{x:Str}{e:Expr}{te:TE}{pos':Pos}(hN:X.N.Nodup)(hi:X.N[i]? = some x)(hx:Loc X.env.scope x)(he:PE X e te)(hs:swapsWith e (some (.Name x pos')) pos.line X.env=pure false:=by rfl)(hf:X.fn x=true∨X.env.scope.names.lookup x=some .local:=by first | exact .inl rfl | exact .inr rfl | assumption) :
  PS X (.Assign [.Name x pos'] e pos) (SF te (jX i)):=by
 intro ac s σ H D I h;refine wpAny_Assign_Name (thn (he ac s σ H _ I h) λv s1 ⟨y,H1,I1,r1,q1⟩=>?_) hs;exact wO I1 hN hi hx r1 (λs2 I2=>⟨_,H1,I2,q1⟩) hf
def tPar(i j:Nat)(ta:TA):TS:=λD σ H=>ta σ H λvs H1=>∃v w,vs=[v,w]/\D.nx ((σ.set i (some v)).set j (some w)) H1
theorem TK{i j:Nat}{x y:Str}{a b:Expr}{ta:TA}{px py pt:Pos}{kt k2 pt2}(hc:X.calm=true)(hN:X.N.Nodup)(hi:X.N[i]? = some x)(hj:X.N[j]? = some y)(hij:i≠j)
  (hx:X.env.scope.names.lookup x=some .local) (hy:X.env.scope.names.lookup y=some .local) (ha:PA X [a,b] ta)
  (hw:swappedStores [.Tuple [.Name x px,.Name y py] kt pt] (.Tuple [a,b] k2 pt2) X.env=pure (some [x,y]))
  (hs:swapsWithSole [.Tuple [.Name x px,.Name y py] kt pt] (.Tuple [a,b] k2 pt2) pos.line X.env=pure false:=by rfl) :
  PS X (.Assign [.Tuple [.Name x px,.Name y py] kt pt] (.Tuple [a,b] k2 pt2) pos) (tPar i j ta):=by
 intro ac s σ H D I h;rw[exec_Assign_arm];refine nW (wpAny_standAt ?_);rw[hs];refine nW (nX ?_);rw[nZ (by decide)];refine nW (Tuple_ (thn (ha _ ac s σ H _ I h) λus s1 ⟨vs,H1,I1,r1,q1⟩=>?_));obtain⟨v,w,e1,q1⟩:=q1;subst e1;obtain⟨u1,u2,rfl,rv,rw'⟩:∃u1 u2,us=[u1,u2]/\RelV v u1/\RelV w u2:=by
  cases r1 with
  | cons p q=>
   cases q with
   | cons p' q'=>
    cases q';exact⟨_,_,rfl,p,p'⟩
 refine wpAny_newObj_type ?_ gD ;have I2:Inv X ac σ H1 { s1 with heap:=s1.heap.push { cls:=.type "tuple",data:=.seq [u1,u2].toArray } } :=I1.kept (t':=s1.toks) λb o e=>gL _ e;rw[hw];refine nW (nX ?_);show wpAny (model X.prog X.w) X.A (do rule "assign.swapped-stores";let items<-unpackItems (.ref s1.heap.objs.size) 2 none;assignInOrder [λv=>bindName X.env y v,λv=>bindName X.env x v] items.reverse;pure Flow.next) _ _ _;refine nW (wpAny_rule (nW (unpackItems_tuple (items:=#[u1,u2]) (I.ok.hd hc) (IsTup.new s1.heap _) λh' hx'=>?_)));have I3:=I2.kept (h':=h') (t':=s1.toks) λb o e=>hx' b o (nM (nK e)) e;show wpAny _ _ (assignInOrder [λv=>bindName X.env y v,λv=>bindName X.env x v] [u2,u1] >>= λ_=>pure Flow.next) _ _ _;refine nW (assignInOrder_cons (wpAny_bindName (wO I3 hN hj (.inl hy) rw' (λs2 I4=>?_) (.inr hy))));refine assignInOrder_cons (wpAny_bindName (wO I4 hN hi (.inl hx) rv (λs3 I5=>assignInOrder_nil (nX ?_)) (.inr hx)));rw[List.set_comm _ _ (Ne.symm hij)]at I5;exact⟨_,H1,I5,q1⟩
def tAugS(to ti te:TE)(tget:V->V->Hp->VK->Prop)(tip:TIp)(tset:TSet):TS:=λD σ H=>to σ H λo H1=>ti σ H1 λi H2=>tget o i H2 λx H3=>te σ H3 λy H4=>tip x y H4 λz H5=>tset o i z H5 λH6=>D.nx σ H6
def PGet(X:Cx)(t:V->V->Hp->VK->Prop):Prop:=
 ∀(ac:List (Addr×Obj)) (s:Shared) (σ:St) (H:Hp) (o i:V) (ov iv:Value) (Q:VK),Inv X ac σ H s->RelV o ov->RelV i iv->t o i H Q->
  wpAny (model X.prog X.w) X.A (getItem ov iv) (EP X ac σ Q) X.xe s
theorem XT{o i e:Expr}{to ti te:TE}{tget:V->V->Hp->VK->Prop}{tip:TIp}{tset:TSet}{op:Operator}{tpos:Pos}(ho:PE X o to)(hi:PE X i ti)(hg:PGet X tget)(he:PE X e te)(hp:PIp X op tip)(hs:PSet X tset)
  (ha:∀ov iv new,augStore i ov iv new=(do holding [new,ov,iv] (setItem ov iv new);release [new,ov,iv] [];pure .next):=by intros;rfl):PS X (.AugAssign (.Subscript o i tpos) op e pos) (tAugS to ti te tget tip tset):=by
 intro ac s σ H D I h;refine wpAny_AugAssign_SubscriptAny (thn (ho ac s σ H _ I h) λov s1 ⟨x1,H1,I1,r1,q1⟩=>?_) ha;refine thn (hi ac s1 σ H1 _ I1 q1) λiv s2 ⟨x2,H2,I2,r2,q2⟩=>?_;refine thn (hg ac s2 σ H2 x1 x2 ov iv _ I2 r1 r2 q2) λold s3 ⟨x3,H3,I3,r3,q3⟩=>?_;refine thn (he ac s3 σ H3 _ I3 q3) λv s4 ⟨x4,H4,I4,r4,q4⟩=>?_;refine thn (hp ac s4 σ H4 x3 x4 old v _ I4 r3 r4 q4) λnew s5 ⟨x5,H5,I5,r5,q5⟩=>?_;exact thn (hs ac s5 σ H5 x1 x2 x5 ov iv new _ I5 r1 r2 r5 q5) λ_ s6 ⟨H6,I6,q6⟩=>⟨σ,H6,I6,q6⟩
def ipI(f:Int->Int->Int):TIp:=λx y H Q=>∃i j,x=.int i/\y=.int j/\Q (.int (f i j)) H
theorem ip_add:PIp X .Add (ipI λi j=>i+j):=by
 intro ac s σ H x y v u Q I r1 r2 h;obtain⟨i,j,e1,e2,q⟩:=h;subst e1;subst e2;obtain⟨t,rfl⟩:=r1;obtain⟨t',rfl⟩:=r2;exact iadd_int ⟨.int _,H,I.tok _,⟨_,rfl⟩,q⟩
end
section
variable{X:Cx}{pos:Pos}
def SD(c:TT)(tb:TS):TS:=λD σ H=>∃W:Nat->St->Hp->Prop,(∃m,W m σ H)/\∀m σ H,W m σ H->
 c σ H λb H1=>if b=true then ∃N:St->Hp->Prop,(∀σ' H',N σ' H'->∃m',m'<m/\W m' σ' H')/\tb { D with nx:=N,ct:=N,bk:=D.nx } σ H1 else D.nx σ H1
theorem IY{c:Expr}{body:List Stmt}{tc:TT}{tb:TS}(hp:PassesOwn (model X.prog X.w) X.A X.env X.xe)(hc:PT X c tc)(hb:PSs X body tb):PS X (.While c body [] pos) (SD tc tb):=by
 intro ac s σ H D I h;obtain⟨W,⟨m0,w0⟩,turn⟩:=h;refine wpAny_While (codeAny_whileLoop (λn s'=>∃σ' H',Inv X ac σ' H' s'/\W n σ' H') ?_ m0 ⟨σ,H,I,w0⟩);rintro n s1 ⟨σ1,H1,I1,w1⟩;refine wpAny_passesOwn hp (thn (hc ac s1 σ1 H1 _ I1 (turn n σ1 H1 w1)) λb s2 ⟨H2,I2,q2⟩=>?_);cases b with
 | true=>
  obtain⟨N,hN,q2⟩:=q2;rw[tD rfl];refine wpAny_passesOwn hp (thn (hb ac s2 σ1 H2 _ I2 q2) λf s3 q3=>?_);cases f with
  | next=>
   obtain⟨σ3,H3,I3,n3⟩:=q3;obtain⟨m',hm,w3⟩:=hN σ3 H3 n3;exact⟨m',hm,σ3,H3,I3,w3⟩
  | cont=>
   obtain⟨σ3,H3,I3,n3⟩:=q3;obtain⟨m',hm,w3⟩:=hN σ3 H3 n3;exact⟨m',hm,σ3,H3,I3,w3⟩
  | brk=>exact q3
  | ret v=>exact q3
 | false=>
  rw[nZ gZ];exact wpAny_execs_nil ⟨σ1,H2,I2,q2⟩
end
structure It where
 go:Nat->Hp->Prop
 yld:Nat->Hp->V->Hp->Prop
 stop:Nat->Hp->Prop
def FpOk(X:Cx)(ac:List (Addr×Obj))(H:Hp)(b:Addr):Prop:=
 H b=none/\b≠X.env.locals/\b∉X.fs/\(b∈X.ex∨X.s₀.heap.objs.size<=b)/\(∀x c,X.env.cells.lookup x=some c->c≠b)/\∀p∈X.pn++ac,p.1≠b
theorem Inv.fpOk{X:Cx}{ac:List (Addr×Obj)}{σ:St}{H H':Hp}{s:Shared}{b:Addr}(I:Inv X ac σ H s)(hb:s.heap.objs.size<=b)(hn:H' b=none):FpOk X ac H' b:=by
 refine⟨hn,Nat.ne_of_gt (hJ I.lt hb),I.nofs hb,.inr (nL I.sz hb),λx c e z=>?_,λp hp z=>?_⟩
 ·obtain⟨v,q⟩:=I.cell x c e;exact absurd (hJ q.lt (by rw[z];exact hb)) (nG _)
 ·exact absurd (hJ (nK (I.pin p hp).1) (by rw[z];exact hb)) (nG _)
structure Turn(P:Program)(w:World)(K:tF)(tg:Expr)(J:It)(fp:List Addr)(it:Addr)(tn:Nat->Heap->Prop):Prop where
 mem:it∈fp
 obj:∀i h,tn i h->∀b∈fp,∃o,h.get? b=some o/\∀v,o.data≠.cell v
 keep:∀i h h',tn i h->(∀b∈fp,∀o,h.get? b=some o->h'.get? b=some o)->tn i h'
 item:∀(X:Cx),X.prog=P->X.w=w->X.K=K->X.calm=true->∀(i:Nat) (ac:List (Addr×Obj)) (s:Shared) (σ:St) (H:Hp) (E:Value->Shared->Prop),Inv X ac σ H s->(∀b∈fp,FpOk X ac H b)->tn i s.heap->J.go i H->
  wpAny (model P w) X.A (pyNext (.ref it)) (λr s1=>∃u,r=some u/\
   wpAny (model P w) X.A (letOwnedTupleGo tg (.ref it) u) (λ_ s2=>∃x H',Inv X ac σ H' s2/\RelV x u/\J.yld i H x H'/\tn (i+1) s2.heap/\∀b∈fp,H' b=none) E s1) E s
 done:∀(X:Cx),X.prog=P->X.w=w->X.K=K->X.calm=true->∀(i:Nat) (ac:List (Addr×Obj)) (s:Shared) (σ:St) (H:Hp) (E:Value->Shared->Prop),Inv X ac σ H s->(∀b∈fp,FpOk X ac H b)->tn i s.heap->J.stop i H->
  wpAny (model P w) X.A (pyNext (.ref it)) (λr s1=>r=none/\Inv X ac σ H s1) E s
 self:∀(A:Around) (i:Nat) (s:Shared) (Q:Value->Shared->Prop) (E:Value->Shared->Prop),tn i s.heap->Q (.ref it) s->wpAny (model P w) A (pyIter (.ref it)) Q E s
abbrev TI:=St->Hp->(It->Hp->Prop)->Prop
def PIE(X:Cx)(ac:List (Addr×Obj))(σ:St)(tg:Expr)(R:It->Hp->Prop)(itv:Value)(s2:Shared):Prop:=
 ∃(it:Addr) (fp:List Addr) (tn:Nat->Heap->Prop) (J:It) (H':Hp),itv=.ref it/\Inv X ac σ H' s2/\Turn X.prog X.w X.K tg J fp it tn/\tn 0 s2.heap/\(∀b∈fp,FpOk X ac H' b)/\R J H'
def PI(X:Cx)(tg iter:Expr)(wi:TI):Prop:=
 ∀(ac:List (Addr×Obj)) (s:Shared) (σ:St) (H:Hp) (R:It->Hp->Prop),Inv X ac σ H s->wi σ H R->
  wpAny (model X.prog X.w) X.A (eval iter X.env) (λv s1=>wpAny (model X.prog X.w) X.A (pyIter v) (PIE X ac σ tg R) X.xe s1) X.xe s
theorem EU{M:Model}{A:Around}{E:Value->Shared->Prop}{s:Shared}{tg:Expr}{it:Addr}{u:Value}{o:Obj}{n:String}{vs:Array Value}{Q:Unit->Shared->Prop}(ho:s.heap.get? it=some o)(hc:o.cls=.type n)(hd:o.data=.fields vs)
  (hn:["enumerate","zip","dict_itemiterator","dict_reverseitemiterator","odict_iterator","itertools.zip_longest","itertools.pairwise"].contains n=false) (hQ:Q () s):wpAny M A (letOwnedTupleGo tg (.ref it) u) Q E s:=by
 unfold letOwnedTupleGo;cases tg<;>first
  | exact nX hQ
  | (cases u<;>first
    | exact nX hQ
    | (refine nW (wpAny_load ho ?_);rw[hc,hd];show wpAny M A (if (["enumerate","zip","dict_itemiterator","dict_reverseitemiterator","odict_iterator","itertools.zip_longest","itertools.pairwise"].contains n&&vs[0]? ==some (rawInt _))=true then _ else _) Q E s;rw[nZ (by intro h;rw[hn,Bool.false_and]at h;cases h)];exact nX hQ))
def Itl(K:tF)(a:Addr):It:=
 ⟨λi H=>∃xs x,SqL K H a xs/\xs[i]? = some x,λi H x H'=>H'=H/\∀xs,SqL K H a xs->xs[i]? = some x,λi H=>∃xs,SqL K H a xs/\xs.length<=i⟩
def Itt(K:tF)(a:Addr):It:=
 ⟨λi H=>∃xs x,SqT K H a xs/\xs[i]? = some x,λi H x H'=>H'=H/\∀xs,SqT K H a xs->xs[i]? = some x,λi H=>∃xs,SqT K H a xs/\xs.length<=i⟩
def Itr(lo:Int)(n:Nat):It:=⟨λi _=>i<n,λi H x H'=>H'=H/\x=.int (lo+i),λi _=>n<=i⟩
theorem PF{P:Program}{w:World}{K:tF}{tg:Expr}(a it:Addr):Turn P w K tg (Itl K a) [it] it (λi h=>h.IsListIter it a i) where
 mem:=by simp
 obj:=λi h st b hb=>by
  have e:b=it:=by simpa using hb
  subst e;obtain⟨o,e,c,d⟩:=st;exact⟨o,e,λv z=>by rw[d]at z;cases z⟩
 keep:=λi h h' st k=>st.at λo e=>k it (by simp) o e
 item:=by
  intro X hP hw hK hc i ac s σ H E I hf st hg;subst hP hw hK;obtain⟨xs,x,hq,hx⟩:=hg;obtain⟨its,rv,p,hz⟩:=I.list hq;obtain⟨u,hu,ru⟩:=rv.get hx;obtain⟨f0,f1,f2,f3,f4,f5⟩:=hf it (by simp);refine wpAny_pyNext_list_item st p.isList (x:=u) (by simpa using hu) λh' st' sb=>?_;have I1:Inv X ac σ H { s with heap:=h' } :=I.turned (t':=s.toks) (λb o hb e=>(sb.2 b hb).trans e) f0 f1 f3 f4 f5;obtain⟨o,e,c,d⟩:=id st';exact⟨u,rfl,EU (s:={ s with heap:=h' }) e c d (by decide) ⟨x,H,I1,ru,⟨rfl,λys hy=>by rw[I.list_inj hy hq];exact hx⟩,st',λb hb=>(hf b hb).1⟩⟩
 done:=by
  intro X hP hw hK hc i ac s σ H E I hf st hg;subst hP hw hK;obtain⟨xs,hq,hx⟩:=hg;obtain⟨its,rv,p,hz⟩:=I.list hq;obtain⟨f0,f1,f2,f3,f4,f5⟩:=hf it (by simp);have hl:=rv.length;exact wpAny_pyNext_list_end (I.ok.hd hc) st p.isList (by simp;omega) λh' eb=>⟨rfl,I.turned (t':=s.toks) (λb o hb e=>eb b o hb e) f0 f1 f3 f4 f5⟩
 self:=λ_ _ _ _ _ st h=>wpAny_pyIter_listiter st h
theorem LF{P:Program}{w:World}{K:tF}{tg:Expr}(a it:Addr):Turn P w K tg (Itt K a) [it] it (λi h=>h.IsTupleIter it a i) where
 mem:=by simp
 obj:=λi h st b hb=>by
  have e:b=it:=by simpa using hb
  subst e;obtain⟨o,e,c,d⟩:=st;exact⟨o,e,λv z=>by rw[d]at z;cases z⟩
 keep:=λi h h' st k=>st.at λo e=>k it (by simp) o e
 item:=by
  intro X hP hw hK hc i ac s σ H E I hf st hg;subst hP hw hK;obtain⟨xs,x,hq,hx⟩:=hg;obtain⟨its,rv,p,hz⟩:=I.tuple hq;obtain⟨u,hu,ru⟩:=rv.get hx;obtain⟨f0,f1,f2,f3,f4,f5⟩:=hf it (by simp);refine wpAny_pyNext_tuple_item st (show s.heap.IsTuple a its.toArray from p) (x:=u) (by simpa using hu) λh' st' sb=>?_;have I1:Inv X ac σ H { s with heap:=h' } :=I.turned (t':=s.toks) (λb o hb e=>(sb.2 b hb).trans e) f0 f1 f3 f4 f5;obtain⟨o,e,c,d⟩:=id st';exact⟨u,rfl,EU (s:={ s with heap:=h' }) e c d (by decide) ⟨x,H,I1,ru,⟨rfl,λys hy=>by rw[I.tuple_inj hy hq];exact hx⟩,st',λb hb=>(hf b hb).1⟩⟩
 done:=by
  intro X hP hw hK hc i ac s σ H E I hf st hg;subst hP hw hK;obtain⟨xs,hq,hx⟩:=hg;obtain⟨its,rv,p,hz⟩:=I.tuple hq;obtain⟨f0,f1,f2,f3,f4,f5⟩:=hf it (by simp);have hl:=rv.length;exact wpAny_pyNext_tuple_end (I.ok.hd hc) st (show s.heap.IsTuple a its.toArray from p) (by simp;omega) λh' eb=>⟨rfl,I.turned (t':=s.toks) (λb o hb e=>eb b o hb e) f0 f1 f3 f4 f5⟩
 self:=λ_ _ _ _ _ st h=>wpAny_pyIter_tupleiter st h
theorem LG{P:Program}{w:World}{K:tF}{tg:Expr}(it:Addr)(lo:Int)(n:Nat):Turn P w K tg (Itr lo n) [it] it (λi h=>IsRangeIter h it (lo+(i:Nat)*1) ((n:Int)-(i:Nat)) 1) where
 mem:=by simp
 obj:=λi h st b hb=>by
  have e:b=it:=by simpa using hb
  subst e;exact⟨_,st,λv z=>by
   have z':Data.fields _=Data.cell v:=z;cases z'⟩
 keep:=λi h h' st k=>k it (by simp) _ st
 item:=by
  intro X hP hw hK hc i ac s σ H E I hf st hg;subst hP hw hK;obtain⟨f0,f1,f2,f3,f4,f5⟩:=hf it (by simp);have W:=Walks.range (prog:=X.prog) (w:=X.w) (I.ok.hd hc) it lo 1 n;refine W.item i s _ _ hg st λv h' tk hv st' kk=>?_;obtain⟨t,rfl⟩:=hv;have I1:Inv X ac σ H { s with heap:=h',toks:=tk } :=I.turned (λb o hb e=>kk b o (by simpa using hb) e) f0 f1 f3 f4 f5;refine⟨_,rfl,EU (s:={ s with heap:=h',toks:=tk }) (n:="range_iterator") st' rfl rfl (by decide) ⟨.int (lo+i),H,I1,⟨t, ?_⟩,⟨rfl,rfl⟩,st',λb hb=>(hf b hb).1⟩⟩;rw[Int.mul_one]
 done:=by
  intro X hP hw hK hc i ac s σ H E I hf st hg;subst hP hw hK;obtain⟨f0,f1,f2,f3,f4,f5⟩:=hf it (by simp);exact wpAny_pyNext_range_end (I.ok.hd hc) st (by have:n<=i:=hg;omega) λh' eb=>⟨rfl,I.turned (t':=s.toks) (λb o hb e=>eb b o hb e) f0 f1 f3 f4 f5⟩
 self:=λ_ _ _ _ _ st h=>wpAny_pyIter_rangeiter st h
section
variable{X:Cx}{tg:Expr}
def VL(K:tF)(tl:TE):TI:=fun σ H R=>tl σ H λx H1=>∃a,x=.ref a/\(∃xs,SqL K H1 a xs)/\R (Itl K a) H1
def iTup(K:tF)(tl:TE):TI:=fun σ H R=>tl σ H λx H1=>∃a,x=.ref a/\(∃xs,SqT K H1 a xs)/\R (Itt K a) H1
theorem vP{l:Expr}{tl:TE}(hl:PE X l tl):PI X tg l (VL X.K tl):=by
 intro ac s σ H R I h;refine thn (hl ac s σ H _ I h) λv s1 ⟨x,H1,I1,r1,q1⟩=>?_;obtain⟨a,e,⟨xs,hq⟩,q⟩:=q1;subst e;cases r1;obtain⟨its,rv,p,hz⟩:=I1.list hq;refine wpAny_pyIter_list p.isList ?_;refine⟨s1.heap.objs.size,[s1.heap.objs.size],_,_,H1,rfl,I1.kept (t':=s1.toks) λb o e=>gL _ e,PF a _,⟨_,gW _ rfl,rfl,rfl⟩,λb hb=>?_,q⟩;have e:b=s1.heap.objs.size:=by simpa using hb
 subst e;exact I1.fpOk gA (I1.hok.fresh gA)
theorem xF{l:Expr}{tl:TE}(hl:PE X l tl):PI X tg l (iTup X.K tl):=by
 intro ac s σ H R I h;refine thn (hl ac s σ H _ I h) λv s1 ⟨x,H1,I1,r1,q1⟩=>?_;obtain⟨a,e,⟨xs,hq⟩,q⟩:=q1;subst e;cases r1;obtain⟨its,rv,p,hz⟩:=I1.tuple hq;refine wpAny_pyIter_tuple (show s1.heap.IsTuple a its.toArray from p) ?_;refine⟨s1.heap.objs.size,[s1.heap.objs.size],_,_,H1,rfl,I1.kept (t':=s1.toks) λb o e=>gL _ e,LF a _,⟨_,gW _ rfl,rfl,rfl⟩,λb hb=>?_,q⟩;have e:b=s1.heap.objs.size:=by simpa using hb
 subst e;exact I1.fpOk gA (I1.hok.fresh gA)
theorem TB{ac:List (Addr×Obj)}{σ:St}{H:Hp}{s:Shared}{R:It->Hp->Prop}{E:Value->Shared->Prop}{lo hi:Int}{t u v:Tok}{tk:Nat}(I:Inv X ac σ H s)(h1: -(2^62)<=lo)(h2:lo<2^62)(h3: -(2^62)<=hi)(h4:hi<2^62)
  (q:R (Itr lo (hi-lo).toNat) H):wpAny (model X.prog X.w) X.A (pyIter (.ref s.heap.objs.size)) (PIE X ac σ tg R) E { s with heap:=s.heap.push { cls:=.type "range",data:=.fields #[.int lo t,.int hi u,.int 1 v] },toks:=tk } :=by
 refine wpAny_pyIter_range (IsRange.new ..) (small_one h1 h2 h3 h4) ?_;have I1:Inv X ac σ H { s with heap:=s.heap.push { cls:=.type "range",data:=.fields #[.int lo t,.int hi u,.int 1 v] },toks:=tk } :=I.kept λb o e=>gL _ e;refine⟨(s.heap.push { cls:=.type "range",data:=.fields #[.int lo t,.int hi u,.int 1 v] }).objs.size,[(s.heap.push { cls:=.type "range",data:=.fields #[.int lo t,.int hi u,.int 1 v] }).objs.size],_,_,H,rfl,
  I1.kept (t':=tk) λb o e=>gL _ e,LG _ lo (hi-lo).toNat, ?_,λb hb=>?_,q⟩
 ·have e1:lo+((0:Nat):Int)*1=lo:=by simp
  have e2:(((hi-lo).toNat:Nat):Int)-((0:Nat):Int)=Builtin.Range.rangeSize lo hi 1:=by rw[rangeSize_one];split<;>omega
  show IsRangeIter _ _ (lo+((0:Nat):Int)*1) ((((hi-lo).toNat:Nat):Int)-((0:Nat):Int)) 1;rw[e1,e2];exact gW _ rfl
 ·have e:b=(s.heap.push { cls:=.type "range",data:=.fields #[.int lo t,.int hi u,.int 1 v] }).objs.size:=by simpa using hb
  subst e;exact I1.fpOk gA (I1.hok.fresh gA)
def iRng1(ta:TA):TI:=fun σ H R=>ta σ H λvs H1=>∃j:Int,vs=[.int j]/\-(2^62)<=j/\j<2^62/\R (Itr 0 j.toNat) H1
theorem vB{a:Expr}{ta:TA}{p pos:Pos}(hg:Gl X "range")(hm:X.mg "range" = none)(ha:PA X [a] ta)(hs:starEach [a] X.env=[(false,eval a X.env)]:=by rfl):PI X tg (.Call (.Name "range" p) [a] [] pos) (iRng1 ta):=by
 intro ac s σ H R I h;refine Call_ (xV I hg hm boot_range (PyProof.Rows.callWith_type1 (thn (ha pos ac s σ H _ I h) λus s1 ⟨vs,H1,I1,r1,q1⟩=>?_) hs rfl));obtain⟨j,e,q1,q2,q⟩:=q1;subst e;cases r1 with
 | cons r rr=>
  cases rr;obtain⟨t,rfl⟩:=r;exact call_range_1 (TB I1 (by omega) (by omega) q1 q2 (by simpa using q))
def tFor(wi:TI)(g:TG)(tb:TS):TS:=λD σ H=>wi σ H λJ H1=>∃W:Nat->Nat->St->Hp->Prop,(∃m,W 0 m σ H1)/\∀i m σ H,W i m σ H->
 (J.stop i H/\D.nx σ H)∨(J.go i H/\∃N:St->Hp->Prop,(∀σ' H',N σ' H'->∃m',m'<m/\W (i+1) m' σ' H')/\∀x H',J.yld i H x H'->g x σ H' fun σ2 H2=>tb { D with nx:=N,ct:=N,bk:=D.nx } σ2 H2)
def HC(fp:List Addr)(h:Heap):List (Addr×Obj):=fp.filterMap λb=>(h.get? b).map λo=>(b,o)
theorem jZ{fp:List Addr}{h:Heap}{b:Addr}{o:Obj}(hb:b∈fp)(e:h.get? b=some o):(b,o)∈HC fp h:=List.mem_filterMap.mpr ⟨b,hb,by rw[e];rfl⟩
theorem QH{fp:List Addr}{h:Heap}{p:Addr×Obj}(hp:p∈HC fp h):p.1∈fp/\h.get? p.1=some p.2:=by
 obtain⟨b,hb,e⟩:=List.mem_filterMap.mp hp;cases q:h.get? b with
 | none=>rw[q]at e;cases e
 | some o=>
  rw[q]at e;have e':(b,o)=p:=Option.some.inj e;subst e';exact⟨hb,q⟩
theorem Inv.pinned{ac:List (Addr×Obj)}{σ:St}{H:Hp}{s:Shared}{fp:List Addr}(I:Inv X ac σ H s)(hf:∀b∈fp,FpOk X ac H b)(ho:∀b∈fp,∃o,s.heap.get? b=some o/\∀v,o.data≠.cell v):Inv X (ac++HC fp s.heap) σ H s:=
 I.pins_of λp hp=>(mV.mp hp).elim (λz=>I.pin p (gN _ z)) λz=>by
  obtain⟨hb,e⟩:=QH z;obtain⟨f0,f1,f2,_⟩:=hf p.1 hb;obtain⟨o,e',d⟩:=ho p.1 hb;rw[e]at e';cases e';exact⟨e,f0,f1,f2,d⟩
theorem Inv.unpinned{ac pl:List (Addr×Obj)}{σ:St}{H:Hp}{s:Shared}(I:Inv X (ac++pl) σ H s):Inv X ac σ H s:=I.pins_of λp hp=>I.pin p (gN _ (List.mem_append_left _ hp))
theorem qF{iter:Expr}{body:List Stmt}{wi:TI}{g:TG}{tb:TS}{pos:Pos}(hp:PassesOwn (model X.prog X.w) X.A X.env X.xe)(hc:X.calm=true)(hi:PI X tg iter wi)(hg:PG X tg g)(hb:PSs X body tb)
  (hs:∀x,foldedSetIterable iter X.env x=pure x:=by intro _;rfl):PS X (.For tg iter body [] pos) (tFor wi g tb):=by
 intro ac s σ H D I h;refine wpAny_For (thn (hi ac s σ H _ I h) λv s1 h1=>thn h1 λitv s2 h2=>?_) hs;obtain⟨it,fp,tn,J,H2,e,I2,T,st2,f2,W,⟨m0,w0⟩,turn⟩:=h2;subst e;have stat:∀{H':Hp},(∀b∈fp,H' b=none)->∀b∈fp,FpOk X ac H' b:=λhn b hb=>⟨hn b hb,(f2 b hb).2⟩;refine codeAny_forLoop_any (λn s'=>∃i σ' H',Inv X ac σ' H' s'/\tn i s'.heap/\(∀b∈fp,H' b=none)/\W i n σ' H') ?_ m0 ⟨0,σ,H2,I2,st2,λb hb=>(f2 b hb).1,w0⟩;rintro n s3 ⟨i,σ3,H3,I3,st3,fr3,w3⟩;rcases turn i n σ3 H3 w3 with⟨stop,qn⟩ | ⟨go,N,hN,step⟩
 ·refine wpAny_passesOwn hp (thn (T.done X rfl rfl rfl hc i ac s3 σ3 H3 X.xe I3 (stat fr3) st3 stop) λr s4 ⟨hr,I4⟩=>?_);subst hr;exact wpAny_execs_nil ⟨σ3,H3,I4,qn⟩
 ·refine wpAny_passesOwn hp (thn (T.item X rfl rfl rfl hc i ac s3 σ3 H3 X.xe I3 (stat fr3) st3 go) λr s4 ⟨u,hr,h4⟩=>?_);subst hr;refine wpAny_passesOwn hp (thn h4 λ_ s5 ⟨x,H5,I5,r5,y5,st5,fr5⟩=>?_);have I5':=I5.pinned (stat fr5) (T.obj _ _ st5);refine wpAny_passesOwn hp (thn (hg _ s5 σ3 H5 x u _ I5' r5 (step x H5 y5)) λ_ s6 ⟨σ6,H6,I6,q6⟩=>?_);refine wpAny_passesOwn hp (thn (hb _ s6 σ6 H6 _ I6 q6) λf s7 q7=>?_);have again:∀{σ7:St} {H7:Hp},Inv X (ac++HC fp s5.heap) σ7 H7 s7->N σ7 H7->∃m,m<n/\∃i σ' H',Inv X ac σ' H' s7/\tn i s7.heap/\(∀b∈fp,H' b=none)/\W i m σ' H':=fun {σ7 H7} I7 n7=>by
   obtain⟨m',hm,w7⟩:=hN σ7 H7 n7;refine⟨m',hm,i+1,σ7,H7,I7.unpinned,T.keep _ _ _ st5 λb hb o e=>(I7.pin (b,o) (gN _ (gN _ (jZ hb e)))).1,λb hb=>?_,w7⟩;obtain⟨o,e,d⟩:=T.obj _ _ st5 b hb;exact(I7.pin (b,o) (gN _ (gN _ (jZ hb e)))).2.1
  cases f with
  | next=>obtain⟨σ7,H7,I7,n7⟩:=q7;exact again I7 n7
  | cont=>obtain⟨σ7,H7,I7,n7⟩:=q7;exact again I7 n7
  | brk=>obtain⟨σ7,H7,I7,q7⟩:=q7;exact⟨σ7,H7,I7.unpinned,q7⟩
  | ret v=>obtain⟨x7,σ7,H7,I7,r7,q7⟩:=q7;exact⟨x7,σ7,H7,I7.unpinned,r7,q7⟩
end
theorem CT{K:tF}{a:Addr}{xs:List V}{g:TG}{tb:TS}{D:Ends}{σ:St}{H:Hp}(Pv:Nat->St->Hp->Prop)(h0:Pv 0 σ H)(hl:∀i σ H,i<=xs.length->Pv i σ H->SqL K H a xs)
  (hs:∀i x σ H,xs[i]? = some x->Pv i σ H->g x σ H fun σ2 H2=>tb { D with nx:=Pv (i+1),ct:=Pv (i+1),bk:=D.nx } σ2 H2) (hd:∀σ H,Pv xs.length σ H->D.nx σ H) :
  ∃W:Nat->Nat->St->Hp->Prop,(∃m,W 0 m σ H)/\∀i m σ H,W i m σ H->
   ((Itl K a).stop i H/\D.nx σ H)∨((Itl K a).go i H/\∃N:St->Hp->Prop,(∀σ' H',N σ' H'->∃m',m'<m/\W (i+1) m' σ' H')/\∀x H',(Itl K a).yld i H x H'->g x σ H' fun σ2 H2=>tb { D with nx:=N,ct:=N,bk:=D.nx } σ2 H2):=by
 refine⟨λi m σ H=>m=xs.length-i/\i<=xs.length/\Pv i σ H,⟨xs.length,by simp,nR _,h0⟩, ?_⟩;rintro i m σ H ⟨rfl,hi,p⟩;have q:=hl i σ H hi p;by_cases hlt:i<xs.length
 ·refine .inr ⟨⟨xs,xs[i],q,by simp [hlt]⟩,Pv (i+1),fun σ' H' p'=>⟨xs.length-(i+1),by omega,rfl,hlt,p'⟩,λx H' y=>?_⟩;obtain⟨e,y⟩:=y;subst e;exact hs i x σ _ (y xs q) p
 ·have e:i=xs.length:=by omega
  subst e;exact .inl ⟨⟨xs,q,nQ _⟩,hd σ H p⟩
theorem uA{K:tF}{a:Addr}{xs:List V}{g:TG}{tb:TS}{D:Ends}{σ:St}{H:Hp}(Pv:Nat->St->Hp->Prop)(h0:Pv 0 σ H)(hl:∀i σ H,i<=xs.length->Pv i σ H->SqT K H a xs)
  (hs:∀i x σ H,xs[i]? = some x->Pv i σ H->g x σ H fun σ2 H2=>tb { D with nx:=Pv (i+1),ct:=Pv (i+1),bk:=D.nx } σ2 H2) (hd:∀σ H,Pv xs.length σ H->D.nx σ H) :
  ∃W:Nat->Nat->St->Hp->Prop,(∃m,W 0 m σ H)/\∀i m σ H,W i m σ H->
   ((Itt K a).stop i H/\D.nx σ H)∨((Itt K a).go i H/\∃N:St->Hp->Prop,(∀σ' H',N σ' H'->∃m',m'<m/\W (i+1) m' σ' H')/\∀x H',(Itt K a).yld i H x H'->g x σ H' fun σ2 H2=>tb { D with nx:=N,ct:=N,bk:=D.nx } σ2 H2):=by
 refine⟨λi m σ H=>m=xs.length-i/\i<=xs.length/\Pv i σ H,⟨xs.length,by simp,nR _,h0⟩, ?_⟩;rintro i m σ H ⟨rfl,hi,p⟩;have q:=hl i σ H hi p;by_cases hlt:i<xs.length
 ·refine .inr ⟨⟨xs,xs[i],q,by simp [hlt]⟩,Pv (i+1),fun σ' H' p'=>⟨xs.length-(i+1),by omega,rfl,hlt,p'⟩,λx H' y=>?_⟩;obtain⟨e,y⟩:=y;subst e;exact hs i x σ _ (y xs q) p
 ·have e:i=xs.length:=by omega
  subst e;exact .inl ⟨⟨xs,q,nQ _⟩,hd σ H p⟩
theorem yF{lo:Int}{n:Nat}{g:TG}{tb:TS}{D:Ends}{σ:St}{H:Hp}(Pv:Nat->St->Hp->Prop)(h0:Pv 0 σ H)
  (hs:∀i σ H,i<n->Pv i σ H->g (.int (lo+i)) σ H fun σ2 H2=>tb { D with nx:=Pv (i+1),ct:=Pv (i+1),bk:=D.nx } σ2 H2) (hd:∀σ H,Pv n σ H->D.nx σ H) :
  ∃W:Nat->Nat->St->Hp->Prop,(∃m,W 0 m σ H)/\∀i m σ H,W i m σ H->
   ((Itr lo n).stop i H/\D.nx σ H)∨((Itr lo n).go i H/\∃N:St->Hp->Prop,(∀σ' H',N σ' H'->∃m',m'<m/\W (i+1) m' σ' H')/\∀x H',(Itr lo n).yld i H x H'->g x σ H' fun σ2 H2=>tb { D with nx:=N,ct:=N,bk:=D.nx } σ2 H2):=by
 refine⟨λi m σ H=>m=n-i/\i<=n/\Pv i σ H,⟨n,by simp,nR _,h0⟩, ?_⟩;rintro i m σ H ⟨rfl,hi,p⟩;by_cases hlt:i<n
 ·refine .inr ⟨hlt,Pv (i+1),fun σ' H' p'=>⟨n-(i+1),by omega,rfl,hlt,p'⟩,λx H' y=>?_⟩;obtain⟨e,y⟩:=y;subst e y;exact hs i σ _ hlt p
 ·have e:i=n:=by omega
  subst e;exact .inl ⟨nQ _,hd σ H p⟩
theorem IE{c:TT}{tb:TS}{D:Ends}{σ:St}{H:Hp}(Pv:St->Hp->Prop)(μ:St->Hp->Nat)(h0:Pv σ H)
  (hs:∀σ H,Pv σ H->c σ H λb H1=>if b=true then tb { D with nx:=fun σ' H'=>Pv σ' H'/\μ σ' H'<μ σ H,ct:=fun σ' H'=>Pv σ' H'/\μ σ' H'<μ σ H,bk:=D.nx } σ H1 else D.nx σ H1)
  (mono:∀σ H Q Q',(∀b H1,Q b H1->Q' b H1)->c σ H Q->c σ H Q'):SD c tb D σ H:=by
 refine⟨λm σ H=>m=μ σ H/\Pv σ H,⟨_,rfl,h0⟩, ?_⟩;rintro m σ H ⟨rfl,p⟩;refine mono σ H _ _ (λb H1 q=>?_) (hs σ H p);cases b with
 | true=>exact⟨_,fun σ' H' ⟨p',l⟩=>⟨_,l,rfl,p'⟩,q⟩
 | false=>exact q
abbrev R2:=V->V->Hp->VK->Prop
def OpR(X:Cx)(f:Value->Value->Sem Value)(r:R2):Prop:=
 ∀(ac:List (Addr×Obj)) (s:Shared) (σ:St) (H:Hp) (x y:V) (v u:Value) (Q:VK),Inv X ac σ H s->RelV x v->RelV y u->r x y H Q->
  wpAny (model X.prog X.w) X.A (f v u) (EP X ac σ Q) X.xe s
def UnR(X:Cx)(f:Value->Sem Value)(r:V->Hp->VK->Prop):Prop:=
 ∀(ac:List (Addr×Obj)) (s:Shared) (σ:St) (H:Hp) (x:V) (v:Value) (Q:VK),Inv X ac σ H s->RelV x v->r x H Q->
  wpAny (model X.prog X.w) X.A (f v) (EP X ac σ Q) X.xe s
def CallR(X:Cx)(f:Value)(r:List V->Hp->VK->Prop):Prop:=
 ∀(ac:List (Addr×Obj)) (s:Shared) (σ:St) (H:Hp) (xs:List V) (us:List Value) (Q:VK),Inv X ac σ H s->Vals xs us->r xs H Q->
  wpAny (model X.prog X.w) X.A (call f us) (EP X ac σ Q) X.xe s
def tOp(r:R2)(ta tb:TE):TE:=fun σ H Q=>ta σ H λx H1=>tb σ H1 λy H2=>r x y H2 Q
def tUn(r:V->Hp->VK->Prop)(ta:TE):TE:=fun σ H Q=>ta σ H λx H1=>r x H1 Q
def rI(C:Int->Int->Prop)(g:Int->Int->V):R2:=λx y H Q=>∃i j,x=.int i/\y=.int j/\C i j/\Q (g i j) H
def rI0(g:Int->Int->V):R2:=λx y H Q=>∃i j,x=.int i/\y=.int j/\Q (g i j) H
def rU(g:Int->V):V->Hp->VK->Prop:=λx H Q=>∃i,x=.int i/\Q (g i) H
section
variable{X:Cx}{a b c:Expr}{ta tb tc:TE}{pos:Pos}
theorem binT(ha:PE X a ta)(hb:PE X b tb){ac:List (Addr×Obj)}{s:Shared}{σ:St}{H:Hp}{R:V->V->Hp->Prop}(I:Inv X ac σ H s)
  (h:ta σ H λx H1=>tb σ H1 λy H2=>R x y H2) {Q:Value->Shared->Prop} {f:Value->Value->Sem Value}
  (hf:∀v u s2 x y H2,Inv X ac σ H2 s2->RelV x v->RelV y u->R x y H2->wpAny (model X.prog X.w) X.A (f v u) Q X.xe s2) :
  wpAny (model X.prog X.w) X.A (eval a X.env) (λv s₁=>wpAny (model X.prog X.w) X.A (eval b X.env) (λu s₂=>wpAny (model X.prog X.w) X.A (f v u) Q X.xe s₂) X.xe s₁) X.xe s:=by
 refine thn (ha ac s σ H _ I h) λv s1 ⟨x,H1,I1,r1,q1⟩=>?_;refine thn (hb ac s1 σ H1 _ I1 q1) λu s2 ⟨y,H2,I2,r2,q2⟩=>?_;exact hf v u s2 x y H2 I2 r1 r2 q2
theorem jW{op:Operator}{r:R2}(ho:OpR X (binaryOp op) r)(ha:PE X a ta)(hb:PE X b tb):PE X (.BinOp a op b pos) (tOp r ta tb):=by
 intro ac s σ H Q I h;exact wpAny_BinOp (binT ha hb I h λv u s2 x y H2 I2 rx ry q=>ho ac s2 σ H2 x y v u Q I2 rx ry q)
theorem AB{op:UnaryOp}{r:V->Hp->VK->Prop}(ho:UnR X (unaryOp op) r)(ha:PE X a ta):PE X (.UnaryOp op a pos) (tUn r ta):=by
 intro ac s σ H Q I h;exact UnaryOp_ (thn (ha ac s σ H _ I h) λv s1 ⟨x,H1,I1,r1,q1⟩=>ho ac s1 σ H1 x v Q I1 r1 q1)
theorem opI{f:Value->Value->Sem Value}{C:Int->Int->Prop}{g:Int->Int->Int}
  (rule:∀(i j:Int) (t u:Tok) (s:Shared) (Q:Value->Shared->Prop) (E:Value->Shared->Prop),C i j->Q (.int (g i j) s.toks) { s with toks:=s.toks+1 }->wpAny (model X.prog X.w) X.A (f (.int i t) (.int j u)) Q E s) :
  OpR X f (rI C λi j=>.int (g i j)):=by
 intro ac s σ H x y v u Q I rx ry h;obtain⟨i,j,rfl,rfl,hc,q⟩:=h;obtain⟨t,rfl⟩:=rx;obtain⟨t',rfl⟩:=ry;exact rule i j t t' s _ _ hc ⟨.int (g i j),H,I.tok _,⟨_,rfl⟩,q⟩
theorem opI0{f:Value->Value->Sem Value}{g:Int->Int->Int}
  (rule:∀(i j:Int) (t u:Tok) (s:Shared) (Q:Value->Shared->Prop) (E:Value->Shared->Prop),Q (.int (g i j) s.toks) { s with toks:=s.toks+1 }->wpAny (model X.prog X.w) X.A (f (.int i t) (.int j u)) Q E s) :
  OpR X f (rI0 λi j=>.int (g i j)):=by
 intro ac s σ H x y v u Q I rx ry h;obtain⟨i,j,rfl,rfl,q⟩:=h;obtain⟨t,rfl⟩:=rx;obtain⟨t',rfl⟩:=ry;exact rule i j t t' s _ _ ⟨.int (g i j),H,I.tok _,⟨_,rfl⟩,q⟩
theorem YD{f:Value->Value->Sem Value}{g:Int->Int->Bool}
  (rule:∀(i j:Int) (t u:Tok) (s:Shared) (Q:Value->Shared->Prop) (E:Value->Shared->Prop),Q (.bool (g i j)) s->wpAny (model X.prog X.w) X.A (f (.int i t) (.int j u)) Q E s) :
  OpR X f (rI0 λi j=>.bl (g i j)):=by
 intro ac s σ H x y v u Q I rx ry h;obtain⟨i,j,rfl,rfl,q⟩:=h;obtain⟨t,rfl⟩:=rx;obtain⟨t',rfl⟩:=ry;exact rule i j t t' s _ _ ⟨.bl (g i j),H,I,rfl,q⟩
theorem vJ:OpR X (binaryOp .Add) (rI0 λi j=>.int (i+j)):=opI0 λ_ _ _ _ _ _ _ q=>add_int q
theorem HF:OpR X (binaryOp .Sub) (rI0 λi j=>.int (i-j)):=opI0 λ_ _ _ _ _ _ _ q=>sub_int q
theorem uR:OpR X (binaryOp .Mod) (rI (λ_ j=>0<j) λi j=>.int (i%j)):=opI λi j _ _ _ _ _ hc q=>by
 have h1:(0:Int)<j:=hc;exact mod_int' (by omega) (by rw[Int.fmod_eq_emod_of_nonneg i (by omega)];exact q)
theorem unI{f:Value->Sem Value}{g:Int->Int}
  (rule:∀(i:Int) (t:Tok) (s:Shared) (Q:Value->Shared->Prop) (E:Value->Shared->Prop),Q (.int (g i) s.toks) { s with toks:=s.toks+1 }->wpAny (model X.prog X.w) X.A (f (.int i t)) Q E s) :
  UnR X f (rU λi=>.int (g i)):=by
 intro ac s σ H x v Q I rx h;obtain⟨i,rfl,q⟩:=h;obtain⟨t,rfl⟩:=rx;exact rule i t s _ _ ⟨.int (g i),H,I.tok _,⟨_,rfl⟩,q⟩
theorem yV:UnR X (unaryOp .USub) (rU λi=>.int (-i)):=unI λ_ _ _ _ _ q=>neg_int q
end
def scal:V->V->Bool
 | .non,.non=>true | .non,.int _=>true | .int _,.non=>true | .non,.bl _=>true | .bl _,.non=>true | .non,.str _=>true | .str _,.non=>true
 | .int _,.int _=>true | .bl _,.bl _=>true | .str _,.str _=>true | .byt _,.byt _=>true
 | .int _,.str _=>true | .str _,.int _=>true | .bl _,.str _=>true | .str _,.bl _=>true
 | _,_=>false
def rEq:R2:=λx y H Q=>scal x y=true/\Q (.bl (decide (x=y))) H
def rNe:R2:=λx y H Q=>scal x y=true/\Q (.bl (!decide (x=y))) H
theorem BK{i j:Int} :decide (V.int i=V.int j)=(i==j):=by
 rw[Bool.eq_iff_iff];simp
theorem WG{i j:Bool} :decide (V.bl i=V.bl j)=(i==j):=by
 rw[Bool.eq_iff_iff];simp
theorem OO{i j:Str} :decide (V.str i=V.str j)=(i==j):=by
 rw[Bool.eq_iff_iff];simp
theorem OQ{i j:Array UInt8} :decide (V.byt i=V.byt j)=(i.toList==j.toList):=by
 rw[Bool.eq_iff_iff];cases i;cases j;simp
section
variable{X:Cx}{a b c:Expr}{ta tb tc:TE}{pos:Pos}
theorem kK{ac:List (Addr×Obj)}{σ:St}{H:Hp}{s:Shared}{Q:VK}{k k':Bool}(I:Inv X ac σ H s)(q:Q (.bl k) H)(e:k=k'):EP X ac σ Q (.bool k') s:=by
 subst e;exact⟨.bl k,H,I,rfl,q⟩
theorem zF:OpR X (compareOp .Eq) rEq:=by
 intro ac s σ H x y v u Q I rx ry h;obtain⟨hs,q⟩:=h;cases x with
 | non=>
  cases rx;cases y with
  | non=>cases ry;exact PySem.EqNone.eq_none_none (kK I q (by simp))
  | bl j=>cases ry;exact PySem.EqNone.eq_none_bool (kK I q (by simp))
  | int j=>obtain⟨t',rfl⟩:=ry;exact PySem.EqNone.eq_none_int (kK I q (by simp))
  | str j=>obtain⟨t',rfl⟩:=ry;exact PySem.EqNone.eq_none_str (kK I q (by simp))
  | _=>exact absurd (show false=true from hs) gZ
 | bl i=>
  cases rx;cases y with
  | non=>cases ry;exact PySem.EqNone.eq_bool_none (kK I q (by simp))
  | bl j=>cases ry;exact eq_bool (kK I q WG)
  | str j=>obtain⟨t',rfl⟩:=ry;exact PySem.EqMixed.eq_bool_str (kK I q (by simp))
  | _=>exact absurd (show false=true from hs) gZ
 | int i=>
  obtain⟨t,rfl⟩:=rx;cases y with
  | non=>cases ry;exact PySem.EqNone.eq_int_none (kK I q (by simp))
  | int j=>obtain⟨t',rfl⟩:=ry;exact eq_int (kK I q BK)
  | str j=>obtain⟨t',rfl⟩:=ry;exact PySem.EqMixed.eq_int_str (kK I q (by simp))
  | _=>exact absurd (show false=true from hs) gZ
 | str i=>
  obtain⟨t,rfl⟩:=rx;cases y with
  | non=>cases ry;exact PySem.EqNone.eq_str_none (kK I q (by simp))
  | bl j=>cases ry;exact PySem.EqMixed.eq_str_bool (kK I q (by simp))
  | int j=>obtain⟨t',rfl⟩:=ry;exact PySem.EqMixed.eq_str_int (kK I q (by simp))
  | str j=>obtain⟨t',rfl⟩:=ry;exact eq_str (kK I q OO)
  | _=>exact absurd (show false=true from hs) gZ
 | byt i=>
  obtain⟨t,rfl⟩:=rx;cases y with
  | byt j=>obtain⟨t',rfl⟩:=ry;exact PySem.W.eq_bytes (kK I q OQ)
  | _=>exact absurd (show false=true from hs) gZ
 | _=>cases y<;>exact absurd (show false=true from hs) gZ
theorem AC:OpR X (compareOp .NotEq) rNe:=by
 intro ac s σ H x y v u Q I rx ry h;obtain⟨hs,q⟩:=h;cases x with
 | non=>
  cases rx;cases y with
  | non=>cases ry;exact PySem.EqNone.ne_none_none (kK I q (by simp))
  | bl j=>cases ry;exact PySem.EqNone.ne_none_bool (kK I q (by simp))
  | int j=>obtain⟨t',rfl⟩:=ry;exact PySem.EqNone.ne_none_int (kK I q (by simp))
  | str j=>obtain⟨t',rfl⟩:=ry;exact PySem.EqNone.ne_none_str (kK I q (by simp))
  | _=>exact absurd (show false=true from hs) gZ
 | bl i=>
  cases rx;cases y with
  | non=>cases ry;exact PySem.EqNone.ne_bool_none (kK I q (by simp))
  | bl j=>cases ry;exact ne_bool (kK I q (congrArg not WG))
  | str j=>obtain⟨t',rfl⟩:=ry;exact PySem.EqMixed.ne_bool_str (kK I q (by simp))
  | _=>exact absurd (show false=true from hs) gZ
 | int i=>
  obtain⟨t,rfl⟩:=rx;cases y with
  | non=>cases ry;exact PySem.EqNone.ne_int_none (kK I q (by simp))
  | int j=>obtain⟨t',rfl⟩:=ry;exact ne_int (kK I q (congrArg not BK))
  | str j=>obtain⟨t',rfl⟩:=ry;exact PySem.EqMixed.ne_int_str (kK I q (by simp))
  | _=>exact absurd (show false=true from hs) gZ
 | str i=>
  obtain⟨t,rfl⟩:=rx;cases y with
  | non=>cases ry;exact PySem.EqNone.ne_str_none (kK I q (by simp))
  | bl j=>cases ry;exact PySem.EqMixed.ne_str_bool (kK I q (by simp))
  | int j=>obtain⟨t',rfl⟩:=ry;exact PySem.EqMixed.ne_str_int (kK I q (by simp))
  | str j=>obtain⟨t',rfl⟩:=ry;exact ne_str (kK I q (congrArg not OO))
  | _=>exact absurd (show false=true from hs) gZ
 | byt i=>
  obtain⟨t,rfl⟩:=rx;cases y with
  | byt j=>obtain⟨t',rfl⟩:=ry;exact PySem.W.ne_bytes (kK I q (congrArg not OQ))
  | _=>exact absurd (show false=true from hs) gZ
 | _=>cases y<;>exact absurd (show false=true from hs) gZ
theorem UC:OpR X (compareOp .Lt) (rI0 λi j=>.bl (decide (i<j))):=YD λ_ _ _ _ _ _ _ q=>lt_int q
theorem op_le:OpR X (compareOp .LtE) (rI0 λi j=>.bl (decide (i<=j))):=YD λ_ _ _ _ _ _ _ q=>le_int q
theorem xS:OpR X (compareOp .Gt) (rI0 λi j=>.bl (decide (j<i))):=YD λ_ _ _ _ _ _ _ q=>gt_int q
theorem op_ge:OpR X (compareOp .GtE) (rI0 λi j=>.bl (decide (j<=i))):=YD λ_ _ _ _ _ _ _ q=>ge_int q
theorem jU(b:Expr){op:CmpOp}(h:op≠.In:=by decide)(h2:op≠.NotIn:=by decide):behindInMarks op b=false:=by
 have e1:(op==CmpOp.In)=false:=by cases op<;>first | rfl | exact absurd rfl h
 have e2:(op==CmpOp.NotIn)=false:=by cases op<;>first | rfl | exact absurd rfl h2
 cases b<;>simp [behindInMarks,e1,e2]
theorem qV{op:CmpOp}{r:R2}(ho:OpR X (compareOp op) r)(ha:PE X a ta)(hb:PE X b tb)(hm:behindInMarks op b=false):PE X (.Compare a [op] [b] pos) (tOp r ta tb):=by
 intro ac s σ H Q I h;exact wpAny_Compare1 (binT ha hb I h λv u s2 x y H2 I2 rx ry q=>ho ac s2 σ H2 x y v u Q I2 rx ry q) hm
def MP(t:TE):TT:=fun σ H Q=>t σ H λx H'=>∃k,x=.bl k/\Q k H'
theorem jV{op:CmpOp}{r:R2}(ho:OpR X (compareOp op) r)(ha:PE X a ta)(hb:PE X b tb)(hm:behindInMarks op b=false):PT X (.Compare a [op] [b] pos) (MP (tOp r ta tb)):=by
 intro ac s σ H Q I h;refine wpAny_isTrue_Compare1 (thn (ha ac s σ H _ I h) λv s1 ⟨x,H1,I1,r1,q1⟩=>thn (hb ac s1 σ H1 _ I1 q1) λu s2 ⟨y,H2,I2,r2,q2⟩=>
  thn (ho ac s2 σ H2 x y v u _ I2 r1 r2 q2) λc s3 ⟨z,H3,I3,r3,k,e,q3⟩=>?_) hm
 subst e;cases r3;exact wpAny_truthy_bool ⟨H3,I3,q3⟩
theorem uU:(sizeLine:Nat)<2^63:=by rw[sizeLine_eq];decide
theorem qM{x:V}{us:List Value}(r:Vals [x] us):∃u,us=[u]/\RelV x u:=by
 cases r with
 | cons r1 r2=>cases r2;exact⟨_,rfl,r1⟩
theorem vals2{x y:V}{us:List Value}(r:Vals [x,y] us):∃u w',us=[u,w']/\RelV x u/\RelV y w':=by
 cases r with
 | cons r1 r2=>
  cases r2 with
  | cons r3 r4=>cases r4;exact⟨_,_,rfl,r1,r3⟩
theorem WP:CallR X (.builtin "abs") (λxs H Q=>∃i,xs=[.int i]/\Q (.int (if i<0 then -i else i)) H):=by
 intro ac s σ H xs us Q I r h;obtain⟨i,rfl,q⟩:=h;obtain⟨u,rfl,t,rfl⟩:=qM r;exact call_abs_int λu tk=>⟨.int (if i<0 then -i else i),H,I.tok _,⟨_,rfl⟩,q⟩
theorem IA:CallR X (.type "str") (λxs H Q=>∃i,xs=[.int i]/\i.natAbs.log2<1920/\Q (.str (toString i)) H):=by
 intro ac s σ H xs us Q I r h;obtain⟨i,rfl,hz,q⟩:=h;obtain⟨u,rfl,t,rfl⟩:=qM r;exact PySem.P.str_of_int hz ⟨.str _,H,I.tok _,⟨_,rfl⟩,q⟩
end
structure ObjM(h:Heap)(x dx C:Addr)(mA:Str->Option Value):Prop where
 obj:h.get? x=some (PySem.W.instObj C dx)
 ns:h.Ns1 dx mA
 ne:dx≠x
theorem QL{h:Heap}{dx:Addr}{mA:Str->Option Value}(n:h.Ns1 dx mA):∃od,h.get? dx=some od/\∀name,PySem.W.lookIn name od=some (mA name):=by
 obtain⟨o,es,ep,ho,hd,hk,_,hm⟩:=n;refine⟨o,ho,λname=>?_⟩;have e:=hm name;unfold nsFind findBy at e;rw[<-Array.find?_toList]at e;unfold PySem.W.lookIn;rw[hd];dsimp only;split
 ·rename_i y q;rw[q]at e;exact congrArg some e
 ·rename_i q;rw[q]at e;have a:es.toList.any (·.refKey)=false:=by
   rw[List.any_eq_false];intro y hy;obtain⟨z,t,hkey⟩:=hk y (Array.mem_toList_iff.mp hy);simp [DictEntry.refKey,hkey]
  have a':¬es.toList.any (·.refKey)=true:=by rw[a];exact gZ
  rw[nZ a'];exact congrArg some e
theorem ObjM.look{h:Heap}{x dx C:Addr}{mA:Str->Option Value}(I:ObjM h x dx C mA):∃od,PySem.W.InstAt h x (PySem.W.instObj C dx) C (some od)/\∀name,PySem.W.lookIn name od=some (mA name):=
 let ⟨od,ho,hl⟩:=QL I.ns
 ⟨od,⟨I.obj,rfl,rfl,ho⟩,hl⟩
section
variable{prog:Program}{w:World}{A:Around}{E:Value->Shared->Prop}{s:Shared}{K:tF}{x dx C f:Addr}{mA:Str->Option Value}{name:Str}{v:Value}
end
theorem RelO.some_of{v:V}{o:Option Value}(r:RelO (some v) o):∃u,o=some u/\RelV v u:=by
 cases o with
 | none=>exact(show False from r).elim
 | some u=>exact⟨u,rfl,r⟩
section
variable{P:Program}{w:World}{H H':Hp}{h h':Heap}{a C dx:Addr}{fs fs':List (Str×V)}
theorem ZC(hok:HOk P w H h)(e:H a=some (.ins C dx fs)):∃mA,ObjM h a dx C mA/\(∀f,RelO (fs.lookup f) (mA f))/\PySem.Within mA (fs.map (·.1))/\fs.length<=1000/\H dx=some (.own a):=by
 obtain⟨d,z,ne,ob,mA,n,r,q⟩:=(show ObjOk P w H h a (.ins C dx fs)from hok a _ e);exact⟨mA,⟨ob,n,ne⟩,r,q,z,d⟩
end
structure Cls(K:tF)(C:Addr):Prop where
 pg:PySem.W.plainGet K C Str.empty=true
 hd:PySem.W.hasDictIn K C=true
 po:PySem.W.plainOver K C=true
 sa:PySem.W.findIn K (.ref C) "__setattr__" = some (some (.builtin "object.__setattr__"))
theorem Cls.get{K:tF}{C:Addr}(c:Cls K C)(f:Str):PySem.W.plainGet K C f=true:=c.pg
structure Con(K:tF)(C:Addr)(f:Str)(v:V)(u:Value):Prop where
 at_:PySem.W.findIn K (.ref C) f=some (some u)
 rel:RelV v u
 get:PySem.W.specialIn K u "__get__" = some none
 cp:PySem.W.copiedNames.contains f=false
structure Meth(K:tF)(C:Addr)(m:Str)(f:Addr):Prop where
 at_:PySem.W.findIn K (.ref C) m=some (some (.ref f))
 fn:PySem.W.isFn K (.ref f)=true
 kp:PySem.W.keepIn K (.ref f)=true
section
variable{X:Cx}{ac:List (Addr×Obj)}{σ:St}{H:Hp}{s:Shared}{a C dx:Addr}{fs:List (Str×V)}{f:Str}{v:V}{A:Around}{E:Value->Shared->Prop}
end
section
variable{X:Cx}{o e value:Expr}{f:Str}{pos pos' tpos:Pos}{ta tv:TE}
end
section
variable{X:Cx}{ac:List (Addr×Obj)}{σ:St}{H:Hp}{s:Shared}{A:Around}{E:Value->Shared->Prop}{Q:Value->Shared->Prop}{c:Value}{b:Bool}
inductive TyOf(K:tF)(H:Hp):V->Value->Prop where
 | non:TyOf K H .non (.type "NoneType")
 | bl (x:Bool):TyOf K H (.bl x) (.type "bool")
 | int (i:Int):TyOf K H (.int i) (.type "int")
 | str (x:Str):TyOf K H (.str x) (.type "str")
 | flt (x:UInt64):TyOf K H (.flt x) (.type "float")
 | lst {a:Addr} {xs:List V} (e:H a=some (.lst xs)):TyOf K H (.ref a) (.type "list")
 | frz {a:Addr} {o:Obj} {xs:List V} (e:H a=some (.frz o (.lst xs))):TyOf K H (.ref a) (.type "list")
 | tup {a:Addr} {xs:List V} (e:H a=some (.tup xs)):TyOf K H (.ref a) (.type "tuple")
 | dK {a:Addr} {ag:List (Key×V)} (e:H a=some (.dK ag)):TyOf K H (.ref a) (.type "dict")
 | dT {a:Addr} {ag:List (List Key×V)} (e:H a=some (.dT ag)):TyOf K H (.ref a) (.type "dict")
 | ins {a C dx:Addr} {fs:List (Str×V)} (e:H a=some (.ins C dx fs)) (cl:Cls K C) (ha:PySem.W.findIn K (.ref C) "__class__" = some (some (.builtin "object.__class__")))
   (hn:PySem.W.specialIn K (.builtin "object.__class__") "__get__" = some (some (.builtin "getset_descriptor.__get__"))) (htk:PySem.W.takesIn K (.builtin "object.__class__")=some true)
   (hm:PySem.W.mroIn K C (.type "object")=some true):TyOf K H (.ref a) (.ref C)
theorem QP{x:V}{u t:Value}(I:Inv X ac σ H s)(rx:RelV x u)(ty:TyOf X.K H x t)(e:PySem.W.kitOne X.K t c=some b)(h:∀tk,Q (.bool b) { s with toks:=tk }) :
  wpAny (model X.prog X.w) A (call (.builtin "isinstance") [u,c]) Q E s:=by
 cases ty with
 | non=>cases (show u=Value.none from rx);exact PySem.W.kia_one PySem.W.kitx_none I.kIn True.intro e (λz=>nomatch z) h
 | bl y=>cases (show u=Value.bool y from rx);exact PySem.W.kia_one PySem.W.kitx_bool I.kIn True.intro e (λz=>nomatch z) h
 | int i=>obtain⟨t,q⟩:=(show ∃t,u=Value.int i t from rx);cases q;exact PySem.W.kia_one PySem.W.kitx_int I.kIn True.intro e (λz=>nomatch z) h
 | str y=>obtain⟨t,q⟩:=(show ∃t,u=Value.str y t from rx);cases q;exact PySem.W.kia_one PySem.W.kitx_str I.kIn True.intro e (λz=>nomatch z) h
 | flt y=>obtain⟨t,q⟩:=(show ∃t,u=Value.float y t from rx);cases q;exact PySem.W.kia_one PySem.W.kitx_float I.kIn True.intro e (λz=>nomatch z) h
 | @lst a xs ea=>
  cases (show u=Value.ref a from rx);obtain⟨_,_,n,_,h1⟩:=(show ObjOk X.prog X.w H s.heap a (.lst xs)from I.hok a _ ea);exact PySem.W.kia_one PySem.W.kitx_list I.kIn ⟨_,h1,rfl⟩ e (λz=>nomatch z) h
 | @frz a ob xs ea=>
  cases (show u=Value.ref a from rx);obtain⟨_,_,_,n,_,h1⟩:=(show ObjOk X.prog X.w H s.heap a (.frz ob (.lst xs))from I.hok a _ ea);exact PySem.W.kia_one PySem.W.kitx_list I.kIn ⟨_,h1,rfl⟩ e (λz=>nomatch z) h
 | @tup a xs ea=>
  cases (show u=Value.ref a from rx);obtain⟨_,_,_,p⟩:=(show ObjOk X.prog X.w H s.heap a (.tup xs)from I.hok a _ ea);obtain⟨o,h1,h2,_⟩:=p.1;exact PySem.W.kia_one PySem.W.kitx_tuple I.kIn ⟨o,h1,h2⟩ e (λz=>nomatch z) h
 | @dK a ag ea=>
  cases (show u=Value.ref a from rx);obtain⟨_,_,vs,_,p⟩:=(show ObjOk X.prog X.w H s.heap a (.dK ag)from I.hok a _ ea);obtain⟨o,es,ep,h1,h2,_⟩:=p;exact PySem.W.kia_one PySem.W.kitx_dict I.kIn ⟨o,h1,h2.1⟩ e (λz=>nomatch z) h
 | @dT a ag ea=>
  cases (show u=Value.ref a from rx);obtain⟨_,_,xs,_,o,es,ep,h1,h2,_⟩:=(show ObjOk X.prog X.w H s.heap a (.dT ag)from I.hok a _ ea);exact PySem.W.kia_one PySem.W.kitx_dict I.kIn ⟨o,h1,h2.1⟩ e (λz=>nomatch z) h
 | @ins a C dx fs ea cl ha hn htk hm=>
  cases (show u=Value.ref a from rx);obtain⟨mA,O,_⟩:=ZC I.hok ea;obtain⟨od,J,_⟩:=O.look;exact PySem.W.kia_one (PySem.W.kitx_own (cl.get _) cl.hd ha hn htk hm) I.kIn J e (λz=>nomatch z) h
end
structure Room(k:Nat)(A:Around):Prop where
 hd:A.handled=none
 dp:A.depth+3*k+5<recursionLimit
 un:A.units+16*k+200<cLine
theorem Room.mono{j k:Nat}{A:Around}(r:Room k A)(h:j<=k):Room j A:=⟨r.hd,by have:=r.dp;omega,by have:=r.un;omega⟩
theorem Room.deeper{k:Nat}{A:Around}(r:Room (k+1) A)(env:Env):Room k (A.deeper env):=
 ⟨r.hd,by have:=r.dp;show A.depth+1+3*k+5<_;omega,by have:=r.un;show A.units+3+16*k+200<_;omega⟩
theorem Room.depth{k:Nat}{A:Around}(r:Room k A):A.depth<recursionLimit:=by have:=r.dp;omega
theorem Room.units{k:Nat}{A:Around}(r:Room k A):A.units+64<cLine:=by have:=r.un;omega
theorem Room.units0{k:Nat}{A:Around}(r:Room k A):A.units<cLine:=by have:=r.un;omega
def tNil:TA:=λ_ H Q=>Q [] H
def kP(ta:TE)(tr:TA):TA:=fun σ H Q=>ta σ H λx H1=>tr σ H1 λxs H2=>Q (x::xs) H2
section
variable{X:Cx}{e:Expr}{es:List Expr}{te:TE}{t:TA}{pos:Pos}
theorem jB:PA X [] tNil:=λ_ _ _ _ H Q I h=>Calls.spliced_nil ⟨[],H,I,.nil,h⟩
theorem jA(ha:PE X e te)(hr:PA X es t)(hs:starEach (e::es) X.env=(false,eval e X.env)::starEach es X.env:=by rfl):PA X (e::es) (kP te t):=by
 intro pos ac s σ H Q I h;rw[hs];show wpAny _ _ (spliced ((false,eval e X.env)::backTo pos (starEach es X.env))) _ _ s;refine Calls.spliced_cons (thn (ha ac s σ H _ I h) λu s1 ⟨x,H1,I1,r1,q1⟩=>?_);exact thn (hr pos ac s1 σ H1 _ I1 q1) λus s2 ⟨xs,H2,I2,r2,q2⟩=>⟨x::xs,H2,I2,.cons r1 r2,q2⟩
end
abbrev Sp:=List V->Hp->VK->XK->Prop
abbrev CXT:=List Env->Hp->Shared->XK->Value->Shared->Prop
structure Env0(P:Program)(w:World)(K:tF)(mg:Str->Option Value)(base:Heap)(A:Around)(outer:List Env)(s:Shared)(H:Hp):Prop where
 frames:A.frames=some outer
 mod:Mod K mg base
 bs:∀b o,base.get? b=some o->s.heap.get? b=some o/\H b=none
 bsz:base.objs.size<=s.heap.objs.size
 funs:s.heap.FunFrames base outer
 frf:∀b∈frs outer,H b=none
 hok:HOk P w H s.heap
 bare:AllBare s.gens
def CE(outer:List Env)(P:Program)(w:World)(H:Hp)(s:Shared)(Q:VK)(u:Value)(s':Shared):Prop:=
 ∃v H',s'.os=s.os/\AllBare s'.gens/\Un (frs outer) [] H H' s.heap s'.heap/\HOk P w H' s'.heap/\RelV v u/\Q v H'
def CR(CX:CXT)(outer:List Env)(P:Program)(w:World)(H:Hp)(s:Shared)(Q:VK)(E:XK)(r:Result)(s':Shared):Prop:=
 match r with
 | .ok (.ret u)=>CE outer P w H s Q u s'
 | .ok _=>False
 | .error e=>CX outer H s E e s'
structure FnOk(P:Program)(w:World)(K:tF)(mg:Str->Option Value)(base:Heap)(CX:CXT)(k:Nat)(f:Addr)(fd:FuncData)(ps:List Str)(sp:Sp):Prop where
 len:∀vs H Q E,sp vs H Q E->vs.length=ps.length
 run:∀(A:Around) (outer:List Env) (s:Shared) (H:Hp) (args:Args) (us:List Value) (vs:List V) (Q:VK) (E:XK),Room k A->Env0 P w K mg base A outer s H->BindsTo s fd args (ps.zip us)->Vals vs us->sp vs H Q E->
  codeAny (model P w) A (.call (.ref f) args) (CR CX outer P w H s Q E) s
section
variable{X:Cx}{ac:List (Addr×Obj)}{σ:St}{H:Hp}{s s':Shared}
theorem Inv.env0(I:Inv X ac σ H s):Env0 X.prog X.w X.K X.mg X.base X.A X.stack s H:=
 ⟨I.ok.frames,I.ok.mod,I.bs,nL I.ok.bsz I.sz,I.stack,I.stkFree,I.hok,I.bare⟩
theorem Inv.after{Q:VK}{u:Value}(I:Inv X ac σ H s)(h:CE X.stack X.prog X.w H s Q u s'):EP X ac σ Q u s':=by
 obtain⟨v,H',os,bare,un,hok,r,q⟩:=h;obtain⟨hh,g,d,t,os'⟩:=s';obtain rfl:os'=s.os:=os;exact⟨v,H',I.call (h':=hh) (g':=g) (d':=d) (t':=t) (ch:=[]) un hok bare (λb z=>absurd z (by simp)),r,q⟩
end
def IJ(sp:Sp)(dvs:List V)(E:XK)(t:TA):TE:=fun σ H Q=>t σ H λvs H1=>sp (vs++dvs) H1 Q E
def Binds(K:tF)(fd:FuncData)(ps:List Str)(ds:List Value):Prop:=
 ∀(s:Shared) (us:List Value),K.In s.heap->(us++ds).length=ps.length->BindsTo s fd ⟨us,[]⟩ (ps.zip (us++ds))
theorem Binds.all{K:tF}{fd:FuncData}{ps:List Str}(h:∀us:List Value,us.length=ps.length->bindArgs fd ⟨us,[]⟩=pure (ps.zip us)):Binds K fd ps []:=λs us _ hl=>by
 rw[List.append_nil]at hl ⊢;exact .of_eq (h us hl)
def Passes(CX:CXT)(X:Cx)(E:XK):Prop:=∀(ac:List (Addr×Obj)) (σ:St) (H:Hp) (s:Shared) (e:Value) (s':Shared),Inv X ac σ H s->CX X.stack H s E e s'->X.xe e s'
section
variable{X:Cx}{CX:CXT}{k:Nat}{f C:Addr}{fd:FuncData}{ps:List Str}{sp:Sp}{dvs:List V}{ds:List Value}{E:XK}{x m:Str}{p pos apos:Pos}{e o:Expr}{es:List Expr}{ta:TE}{t:TA}
theorem run_fn{ac:List (Addr×Obj)}{σ:St}{H:Hp}{s:Shared}{Q:VK}{us:List Value}{vs:List V}(F:FnOk X.prog X.w X.K X.mg X.base CX k f fd ps sp)(hr:Room k X.A)(hb:Binds X.K fd ps ds)(hd:Vals dvs ds)(hx:Passes CX X E)
  (I:Inv X ac σ H s) (r:Vals vs us) (h:sp (vs++dvs) H Q E):wpAny (model X.prog X.w) X.A (call (.ref f) us) (EP X ac σ Q) X.xe s:=by
 have r2:Vals (vs++dvs) (us++ds):=r.append hd;have hl:(us++ds).length=ps.length:=by rw[<-r2.length];exact F.len _ _ _ _ h
 refine wpAny_call (codeAny_mono (F.run X.A X.stack s H ⟨us,[]⟩ (us++ds) (vs++dvs) Q E hr I.env0 (hb s us I.kIn hl) r2 h) λr s' hq=>?_);cases r with
 | error e=>exact hx ac σ H s e s' I hq
 | ok fl=>
  cases fl with
  | ret u=>exact I.after hq
  | next=>exact False.elim hq
  | brk=>exact False.elim hq
  | cont=>exact False.elim hq
theorem jI(F:FnOk X.prog X.w X.K X.mg X.base CX k f fd ps sp)(hr:Room k X.A)(hg:Gl X x)(hm:X.mg x=some (.ref f))(hk:PySem.W.keepIn X.K (.ref f)=true)(hb:Binds X.K fd ps ds)(hd:Vals dvs ds)(hx:Passes CX X E)
  (ha:PA X (e::es) t) (hdb:(x==("__debug__" :Str))=false:=by decide) (he:starEach (e::es) X.env=(false,eval e X.env)::starEach es X.env:=by rfl) (hpl:(backTo pos (starEach es X.env)).any (·.1)=false:=by rfl) :
  PE X (.Call (.Name x p) (e::es) [] pos) (IJ sp dvs E t):=by
 intro ac s σ H Q I h;refine wpAny_Call_Name_kw (HQ I hg hm ?_ hdb);refine PySem.W.callWith_K (h₀:=X.base) I.ok.mod.kin hk (thn (ha pos ac s σ H _ I h) λus s1 ⟨vs,H1,I1,r,q⟩=>⟨I1.kIn, ?_⟩) he hpl;exact run_fn F hr hb hd hx I1 r q
structure Mk(K:tF)(C f:Addr):Prop where
 makes:PySem.W.makesIn K C=true
 init:PySem.W.findIn K (.ref C) "__init__" = some (some (.ref f))
 fn:PySem.W.isFn K (.ref f)=true
 kp:PySem.W.keepIn K (.ref C)=true
end
def PK(X:Cx)(kws:List Keyword)(t:TA):Prop:=
 ∀(pos:Pos) (ac:List (Addr×Obj)) (s:Shared) (σ:St) (H:Hp) (Q:List V->Hp->Prop),Inv X ac σ H s->t σ H Q->wpAny (model X.prog X.w) X.A (evalAll ((backToKw pos (keywordEach kws X.env)).map (·.2))) (AP X ac σ Q) X.xe s
section
variable{X:Cx}{CX:CXT}{k:Nat}{f C:Addr}{fd:FuncData}{ps ks:List Str}{sp:Sp}{E:XK}{x m:Str}{p pos apos kpos:Pos}{e o:Expr}{es:List Expr}{kws:List Keyword}{te ta:TE}{t tk:TA}{nm:Option Str}
theorem qK:PK X [] tNil:=λ_ _ _ _ H Q I h=>wpAny_evalAll_nil ⟨[],H,I,.nil,h⟩
theorem kC(ha:PE X e te)(hr:PK X kws t):PK X (⟨nm,e,kpos⟩::kws) (kP te t):=by
 intro pos ac s σ H Q I h;show wpAny _ _ (evalAll ((do let v<-eval e X.env;standAt pos;pure v)::(backToKw pos (keywordEach kws X.env)).map (·.2))) _ _ s;refine wpAny_evalAll_cons (nW (thn (ha ac s σ H _ I h) λu s1 ⟨x,H1,I1,r1,q1⟩=>nW (wpAny_standAt (nX ?_))));exact thn (hr pos ac s1 σ H1 _ I1 q1) λus s2 ⟨xs,H2,I2,r2,q2⟩=>⟨x::xs,H2,I2,.cons r1 r2,q2⟩
structure KBinds(K:tF)(fd:FuncData)(ps ks:List Str)(g:List Value->List Value->List Value)(gV:List V->List V->List V):Prop where
 to:∀(s:Shared) (us ws:List Value),K.In s.heap->(g us ws).length=ps.length->BindsTo s fd ⟨us,ks.zip ws⟩ (ps.zip (g us ws))
 rel:∀{vs:List V} {us:List Value} {zs:List V} {ws:List Value},Vals vs us->Vals zs ws->Vals (gV vs zs) (g us ws)
def uL(sp:Sp)(gV:List V->List V->List V)(E:XK)(t tk:TA):TE:=fun σ H Q=>t σ H λvs H1=>tk σ H1 λzs H2=>sp (gV vs zs) H2 Q E
variable{g:List Value->List Value->List Value}{gV:List V->List V->List V}
theorem XJ{ac:List (Addr×Obj)}{σ:St}{H:Hp}{s:Shared}{Q:VK}{us ws:List Value}{vs zs:List V}(F:FnOk X.prog X.w X.K X.mg X.base CX k f fd ps sp)(hr:Room k X.A)(hb:KBinds X.K fd ps ks g gV)(hx:Passes CX X E)
  (I:Inv X ac σ H s) (r:Vals vs us) (rz:Vals zs ws) (h:sp (gV vs zs) H Q E):wpAny (model X.prog X.w) X.A (call (.ref f) us (ks.zip ws)) (EP X ac σ Q) X.xe s:=by
 have r2:=hb.rel r rz;have hl:(g us ws).length=ps.length:=by rw[<-r2.length];exact F.len _ _ _ _ h
 refine wpAny_call (codeAny_mono (F.run X.A X.stack s H ⟨us,ks.zip ws⟩ (g us ws) (gV vs zs) Q E hr I.env0 (hb.to s us ws I.kIn hl) r2 h) λr s' hq=>?_);cases r with
 | error e=>exact hx ac σ H s e s' I hq
 | ok fl=>
  cases fl with
  | ret u=>exact I.after hq
  | next=>exact False.elim hq
  | brk=>exact False.elim hq
  | cont=>exact False.elim hq
end
structure FnScope(N P:List Str)(sc:Scope):Prop where
 kind:sc.kind=.function
 co:sc.isCoroutine=false
 gen:sc.isGenerator=false
 nd:N.Nodup
 pre:N.take P.length=P
 par:∀x∈P,sc.names.lookup x=some .local∨sc.names.lookup x=some .cell
 nofree:∀y∈sc.names,y.2≠.free
theorem FD{kindOf:Str->Option NameKind}{x:Str} :∀{binds:List (Str×Value)} {m:Str->Option Value},(∀v,(x,v)∉binds)->bindL kindOf binds m x=m x
 | [],_,_=>rfl
 | (n,v)::r,m,h=>by
  unfold bindL;rw[FD λw hw=>h w (gR _ hw)];split
  ·have:x≠n:=by rintro rfl;exact h v hW
   simp [this]
  ·rfl
theorem FF{kindOf:Str->Option NameKind}{x:Str} :∀{binds:List (Str×Value)} {m:Str->Option Value},(∀v,(x,v)∉binds)->bindC kindOf binds m x=m x
 | [],_,_=>rfl
 | (n,v)::r,m,h=>by
  unfold bindC;rw[FF λw hw=>h w (gR _ hw)];split
  ·rfl
  ·have:x≠n:=by rintro rfl;exact h v hW
   simp [this]
theorem FE{kindOf:Str->Option NameKind}{x:Str}{v:Value} :∀{P:List Str} {vs:List Value} {i:Nat} {m:Str->Option Value},P.Nodup->P[i]? = some x->vs[i]? = some v->kindOf x=some .local->
  bindL kindOf (P.zip vs) m x=some v
 | [],_,_,_,_,h,_,_=>by simp at h
 | _::_,[],_,_,_,_,h,_=>by simp at h
 | p::P,w::vs,0,m,nd,h1,h2,hk=>by
  simp at h1 h2;subst h1;subst h2;show bindL kindOf ((p,w)::P.zip vs) m p=_;unfold bindL;rw[FD λv hv=>(List.nodup_cons.mp nd).1 (List.of_mem_zip hv).1,tD hk];simp
 | p::P,w::vs,i+1,m,nd,h1,h2,hk=>by
  show bindL kindOf ((p,w)::P.zip vs) m x=_;unfold bindL;exact FE (i:=i) (List.nodup_cons.mp nd).2 (by simpa using h1) (by simpa using h2) hk
theorem FH{kindOf:Str->Option NameKind}{x:Str}{v:Value} :∀{P:List Str} {vs:List Value} {i:Nat} {m:Str->Option Value},P.Nodup->P[i]? = some x->vs[i]? = some v->kindOf x≠some .local->
  bindC kindOf (P.zip vs) m x=some v
 | [],_,_,_,_,h,_,_=>by simp at h
 | _::_,[],_,_,_,_,h,_=>by simp at h
 | p::P,w::vs,0,m,nd,h1,h2,hk=>by
  simp at h1 h2;subst h1;subst h2;show bindC kindOf ((p,w)::P.zip vs) m p=_;unfold bindC;rw[FF λv hv=>(List.nodup_cons.mp nd).1 (List.of_mem_zip hv).1,nZ hk];simp
 | p::P,w::vs,i+1,m,nd,h1,h2,hk=>by
  show bindC kindOf ((p,w)::P.zip vs) m x=_;unfold bindC;exact FH (i:=i) (List.nodup_cons.mp nd).2 (by simpa using h1) (by simpa using h2) hk
def start(N:List Str)(vs:List V):St:=vs.map some++List.replicate (N.length-vs.length) none
def QZ(CX:CXT)(P:Program)(w:World)(K:tF)(mg:Str->Option Value)(base:Heap)(N:List Str)(qual:Str)(scope:Scope)(f:Addr)(cd:Value)(A:Around)(outer:List Env)(s:Shared)(H:Hp)(E:XK):Cx where
 prog:=P
 w:=w
 K:=K
 mg:=mg
 base:=base
 A:=A.deeper (envOfC qual scope s.heap.objs.size f cd)
 N:=N
 s₀:=s
 H₀:=H
 env:=envOfC qual scope s.heap.objs.size f cd
 outer:=outer
 stack:=envOfC qual scope s.heap.objs.size f cd::outer
 ex:=[]
 calm:=true
 fn:=λ_=>true
 pn:=[]
 xe:=λe s'=>wpAny (model P w) (A.deeper (envOfC qual scope s.heap.objs.size f cd)) (leaving (envOfC qual scope s.heap.objs.size f cd) e) (λ_ s''=>CX outer H s E e s'') (λe' s''=>CX outer H s E e' s'') s'
theorem KY{sc:Scope}{n:Nat}{x:Str}(h:sc.names.lookup x=some .cell):∃c,(cellsFrom n sc.names []).lookup x=some c:=by
 have q:=PySem.W.cellsFrom_some sc.names n [] (.inl h);exact Option.isSome_iff_exists.mp q
theorem QQ{CX:CXT}{P:Program}{w:World}{K:tF}{mg:Str->Option Value}{base:Heap}{N ps:List Str}{qual:Str}{scope:Scope}{f:Addr}{cd:Value}{A:Around}{outer:List Env}{s s1:Shared}{H:Hp}{E:XK}{us:List Value}{vs:List V}
  (S:FnScope N ps scope) (hd:A.handled=none) (e0:Env0 P w K mg base A outer s H) (hl:vs.length=ps.length) (r:Vals vs us)
  (x:InCallC s s.heap.objs.size (bindL (envOfC qual scope s.heap.objs.size f cd).kindOf (ps.zip us) λ_=>none) (cellsFrom (s.heap.objs.size+1) scope.names []) (bindC (envOfC qual scope s.heap.objs.size f cd).kindOf (ps.zip us) λ_=>none) s1) :
  Inv (QZ CX P w K mg base N qual scope f cd A outer s H E) [] (start N vs) H s1:=by
 have hpl:ps.length<=N.length:=by have:=congrArg List.length S.pre;rw[mK]at this;omega
 obtain⟨h1,tk,rfl,hk⟩:=x.done;have noA:∀b:Addr,b∉(QZ CX P w K mg base N qual scope f cd A outer s H E).ex:=λb z=>absurd (show b∈([]:List Addr)from z) (by simp);refine⟨⟨e0.mod,S.kind,rfl,rfl,nQ _,λy z c h1 h2=>?_,λy hy=>?_,λy c _ h=>?_,λ_=>hd,Around.frames_deeper e0.frames,.inr ⟨rfl,rfl⟩,λb z=>absurd z (noA b),e0.bs,e0.bsz,λb _ _=>noA b,λb z=>absurd z (noA b),e0.funs,e0.frf⟩,
  rfl,e0.bare,Un.kept hk,⟨_,x.toInCall.ns,λi y v h1 h2 h3=>?_⟩,λy c h=>⟨_,x.cell y c h⟩,e0.hok.fresh gA,λy c h=>?_,λp hp=>absurd (show p∈([]:List (Addr×Obj))from hp) (by simp),e0.hok.kept hk, ?_⟩
 ·exact name_of_addr x.apart (PySem.mem_of_lookup h1) (PySem.mem_of_lookup h2)
 ·have hy:scope.names.lookup y=some .cell∨scope.names.lookup y=some .free:=hy;rcases hy with hy | hy
  ·exact KY hy
  ·exact absurd rfl (S.nofree _ (PySem.mem_of_lookup hy))
 ·exact Nat.le_of_lt (x.above y c (PySem.mem_of_lookup h))
 ·have hi:i<vs.length:=by
   unfold start at h2;by_cases hi:i<vs.length
   ·exact hi
   ·rw[gF (by simpa using hi)]at h2;rw[List.getElem?_replicate]at h2;split at h2<;>cases h2
  have ha:vs[i]? = some v:=by
   unfold start at h2;rw[gH (by simpa using hi),mC]at h2;cases e:vs[i]? with
   | none=>rw[e]at h2;cases h2
   | some a=>rw[e]at h2;cases h2;rfl
  obtain⟨u,hu,rv⟩:=r.get ha;have hp:ps[i]? = some y:=by
   rw[<-S.pre,gJ (by omega)];exact h1
  have ndP:ps.Nodup:=by rw[<-S.pre];exact S.nd.sublist (List.take_sublist _ _)
  refine⟨u,rv, ?_⟩;rcases S.par y (gQ hp)with k | k
  ·exact .inl ⟨k,FE ndP hp hu k⟩
  ·obtain⟨c,e⟩:=KY (n:=s.heap.objs.size+1) k;refine .inr ⟨.inl k,c,e, ?_⟩;have q:=x.cell y c e;rw[FH ndP hp hu (by show scope.names.lookup y≠_;rw[k];decide)]at q;exact q
 ·exact e0.hok.fresh (Nat.le_of_lt (x.above y c (PySem.mem_of_lookup h)))
 ·unfold start;show _=N.length;rw[gY,mS,gO];omega
theorem fn_of{CX:CXT}{P:Program}{w:World}{K:tF}{mg:Str->Option Value}{base:Heap}{k:Nat}{f:Addr}{name qual:Str}{params:Arguments}{body:List Stmt}{scope:Scope}{dV kV doc pm cdv ct oc:Value}{an od:Option Addr}
  {osl:Array (Option Value)} {N ps:List Str} {sp:Sp} (lk:K.lookup f=some ⟨oc,od,.func (PySem.W.fnOf name qual params body scope dV kV doc pm an cdv ct),osl⟩) (hcd:PySem.W.codeIn K cdv qual=true) (S:FnScope N ps scope)
  (len:∀vs H Q E,sp vs H Q E->vs.length=ps.length)
  (hbody:∀(A:Around) (outer:List Env) (s:Shared) (H:Hp) (vs:List V) (Q:VK) (E:XK),Room k (A.deeper (envOfC qual scope s.heap.objs.size f cdv))->sp vs H Q E->
   ∃t,PSs (QZ CX P w K mg base N qual scope f cdv A outer s H E) body t/\t { nx:=λ_ H'=>Q .non H',rt:=Q } (start N vs) H) :
  FnOk P w K mg base CX (k+1) f (PySem.W.fnOf name qual params body scope dV kV doc pm an cdv ct) ps sp:=by
 refine⟨len,λA outer s H args us vs Q E hr e0 hb r hsp=>?_⟩;have hl:=len _ _ _ _ hsp;have KX:K.In s.heap:=e0.mod.kin.keeps λb o e=>(e0.bs b o e).1;have lim:s.heap.NoLimit:=e0.mod.nolimit.keeps λb o e=>(e0.bs b o e).1;have hkind:∀y∈ps.zip us,scope.names.lookup y.1=some .local∨(scope.names.lookup y.1=some .cell/\((cellsFrom (s.heap.objs.size+1) scope.names []).lookup y.1).isSome=true):=λ⟨n,v⟩ hy=>by
  rcases S.par n (List.of_mem_zip hy).1 with q | q
  ·exact .inl q
  ·exact .inr ⟨q,PySem.W.cellsFrom_some _ _ _ (.inl q)⟩
 refine codeAny_call_function hr.depth (KX _ _ lk) rfl S.co S.gen rfl (PySem.W.codeRec_of KX hcd) (hb _ _ _ _ ?_);refine wpAny_newFunctionEnv_cells S.kind hkind λenv he s1 x=>?_;subst he;refine⟨lim.keeps x.toInCall.keep,codeAny_func ?_⟩;obtain⟨t,ht,hq⟩:=hbody A outer s H vs Q E (hr.deeper _) hsp;have I:Inv (QZ CX P w K mg base N qual scope f cdv A outer s H E) [] (start N vs) H s1:=QQ S hr.hd e0 hl r x;refine nY (ht [] s1 (start N vs) H _ I hq) (λfl s' hs=>?_) λe s' hs=>hs;have fin:∀{σ':St} {H':Hp} {v:V} {u:Value},Inv (QZ CX P w K mg base N qual scope f cdv A outer s H E) [] σ' H' s'->RelV v u->Q v H'->CE outer P w H s Q u s':=
  fun {σ' H' v u} J rv q=>⟨v,H',J.os,J.bare,J.base,J.hok,rv,q⟩
 cases fl with
 | ret u=>
  obtain⟨v,σ',H',J,rv,q⟩:=hs;exact fin J rv q
 | next=>
  obtain⟨σ',H',J,q⟩:=hs;exact fin (v:=V.non) (u:=Value.none) J rfl q
 | brk=>
  obtain⟨_,_,_,q⟩:=hs;exact False.elim q
 | cont=>
  obtain⟨_,_,_,q⟩:=hs;exact False.elim q
section
variable{X:Cx}{x:Str}{p pos:Pos}{e:Expr}{es:List Expr}{t:TA}{id T:String}{r:List V->Hp->VK->Prop}
def tCB(r:List V->Hp->VK->Prop)(t:TA):TE:=fun σ H Q=>t σ H λvs H1=>r vs H1 Q
theorem kN(hc:CallR X (.builtin id) r)(hg:Gl X x)(hm:X.mg x=none)(hv:bootBuiltins x=some (.builtin id))(ha:PA X (e::es) t)(hn:x≠"__name__":=by decide)(hdb:(x==("__debug__" :Str))=false:=by decide)
  (he:starEach (e::es) X.env=(false,eval e X.env)::starEach es X.env:=by rfl) (hpl:(backTo pos (starEach es X.env)).any (·.1)=false:=by rfl):PE X (.Call (.Name x p) (e::es) [] pos) (tCB r t):=by
 intro ac s σ H Q I h;refine wpAny_Call_Name_kw (xV I hg hm hv ?_ hn hdb);exact PyProof.Rows.callWith_builtin1 (thn (ha pos ac s σ H _ I h) λus s1 ⟨vs,H1,I1,r1,q1⟩=>hc ac s1 σ H1 vs us Q I1 r1 q1) he hpl
theorem qA(hc:CallR X (.type T) r)(hg:Gl X x)(hm:X.mg x=none)(hv:bootBuiltins x=some (.type T))(ha:PA X (e::es) t)(hn:x≠"__name__":=by decide)(hdb:(x==("__debug__" :Str))=false:=by decide)
  (he:starEach (e::es) X.env=(false,eval e X.env)::starEach es X.env:=by rfl) (hpl:(backTo pos (starEach es X.env)).any (·.1)=false:=by rfl):PE X (.Call (.Name x p) (e::es) [] pos) (tCB r t):=by
 intro ac s σ H Q I h;refine wpAny_Call_Name_kw (xV I hg hm hv ?_ hn hdb);exact PyProof.Rows.callWith_type1 (thn (ha pos ac s σ H _ I h) λus s1 ⟨vs,H1,I1,r1,q1⟩=>hc ac s1 σ H1 vs us Q I1 r1 q1) he hpl
end
end L2
namespace HT
open PySem PyProof.Rows
section
open PySem.SeqAt
open PySem.AutoSeq1 (wpAny_loadPart')
open PySem.MeetsSeq PySem.MeetsSeq2 PySem.MeetsSeq3
end
section
variable{prog:Program}{w:World}{A:Around}{E:Value->Shared->Prop}{s:Shared}
theorem ZO{t b:Addr}{vs ws:List Value}{Q:Value->Shared->Prop}(ht:IsTup s.heap t vs.toArray)(hb:IsTup s.heap b ws.toArray)(hv:vs≠[])
  (h1:ws=[]->Q (.ref t) s) (h2:ws≠[]->Q (.ref s.heap.objs.size) { s with heap:=s.heap.push { cls:=.type "tuple",data:=.seq (vs++ws).toArray } })
  (hsz:vs.length+ws.length<=sizeLine):wpAny (model prog w) A (binaryOp .Add (.ref t) (.ref b)) Q E s:=by
 obtain⟨⟨cls,dd,data,sl⟩,ho,hc,n,hd⟩:=id ht;obtain⟨⟨cls2,dd2,data2,sl2⟩,ho2,hc2,n2,hd2⟩:=id hb;simp only at hc hd hc2 hd2;subst hc hd hc2 hd2;have e:vs.toArray++ws.toArray=(vs++ws).toArray:=by simp
 by_cases hw:ws=[]
 ·exact concat_meets ⟨_,ho,rfl⟩ ⟨_,ho2,rfl⟩ noFill_tuple_add seq_tuple_add PySem.F.slot_tuple_add PySem.F.entry_tuple_add (PySem.F.args_tuple_add_2 _ _)
   (tuple_addW1 t b vs.toArray ws.toArray n n2 dd dd2 sl sl2 (by simpa using hv) (by simp [hw])) ⟨ho,ho2,h1 hw⟩
 ·refine concat_meets ⟨_,ho,rfl⟩ ⟨_,ho2,rfl⟩ noFill_tuple_add seq_tuple_add PySem.F.slot_tuple_add PySem.F.entry_tuple_add (PySem.F.args_tuple_add_2 _ _)
   (tuple_addW2 t b vs.toArray ws.toArray n n2 dd dd2 sl sl2 (by simpa using hv) (by simpa using hw) (by rw[mD,mD];exact hsz)) ⟨ho,ho2, ?_⟩
  rw[e];exact h2 hw
def sIx(n d:Nat):Option Int->Nat
 | none=>d
 | some v=>if v<0 then(v+(n:Int)).toNat else min v.toNat n
theorem sIx_none(n d:Nat):sIx n d none=d:=rfl
theorem sIx_nat(n d k:Nat):sIx n d (some (k:Int))=min k n:=by
 show(if (k:Int)<0 then((k:Int)+(n:Int)).toNat else min (k:Int).toNat n)=min k n;rw[nZ (by omega),mJ]
theorem sIx_le(n d:Nat)(hd:d<=n)(o:Option Int):sIx n d o<=n:=by
 cases o with
 | none=>exact hd
 | some v=>
  show(if v<0 then(v+(n:Int)).toNat else min v.toNat n)<=n;by_cases hv:v<0
  ·rw[tD hv];omega
  ·rw[nZ hv];exact Nat.min_le_right _ _
theorem OR(v:Int)(n d:Nat):(if v<0 then max (v+(n:Int)) 0 else min v (n:Int))=((sIx n d (some v):Nat):Int):=by
 show(if v<0 then max (v+(n:Int)) 0 else min v (n:Int))=(((if v<0 then(v+(n:Int)).toNat else min v.toNat n):Nat):Int);by_cases hv:v<0
 ·simp only[tD hv];omega
 ·simp only[nZ hv];omega
theorem MK(lo hi:Option Int)(n:Nat):Builtin.Slice.sliceAdjust lo hi 1 (n:Int)=(((sIx n 0 lo:Nat):Int),((sIx n n hi:Nat):Int)):=by
 have h1:¬((1:Int)<0):=by omega
 unfold Builtin.Slice.sliceAdjust;simp only[h1,if_false];refine Prod.ext ?_ ?_
 ·cases lo with
  | none=>rfl
  | some v=>exact OR v n 0
 ·cases hi with
  | none=>rfl
  | some v=>exact OR v n n
theorem LO(i j:Nat):Builtin.Slice.slicePlaces (i:Int) (j:Int) 1=j-i:=by
 unfold Builtin.Slice.slicePlaces;have h1:(1:Int)>0:=by omega
 simp only[h1,if_true,Int.ediv_one];split<;>omega
theorem BZ{v:Value}{o:Option Int}{Q:Option Int->Shared->Prop}(p:IsPart v o)(h:Q o s):wpAny (model prog w) A (Builtin.Slice.slicePartIndex v) Q E s:=by
 cases p with
 | none=>exact slicePart_none h
 | int i t=>exact slicePart_int h
theorem xX{sl:Addr}{vl vu:Value}{lo hi:Option Int}{n:Nat}{Q:Int×Int×Nat->Shared->Prop}(hs:s.heap.IsSliceOf sl vl vu .none)(pl:IsPart vl lo)(pu:IsPart vu hi)
  (h:Q (((sIx n 0 lo:Nat):Int),1,sIx n n hi-sIx n 0 lo) s):wpAny (model prog w) A (Builtin.Slice.sliceApplied (.ref sl) (pure (n:Int))) Q E s:=by
 obtain⟨os,hos,hcs,hds⟩:=id hs;unfold Builtin.Slice.sliceApplied Builtin.Slice.sliceFields;refine nW (nW (wpAny_field hos hds (x:=vl) rfl (nW (wpAny_field hos hds (x:=vu) rfl (nW (wpAny_field hos hds (x:=.none) rfl (nX ?_)))))));refine nW (slicePart_none ?_);show wpAny _ _ (if ((1:Int)==0)=true then _ else _) _ _ s;rw[nZ (by decide)];refine nW (BZ pl (nW (BZ pu (nW (nX ?_)))));show wpAny _ _ (match Builtin.Slice.sliceAdjust lo hi 1 (n:Int)with | (lo,hi)=>pure (lo,(1:Int),Builtin.Slice.slicePlaces lo hi 1)) _ _ s;rw[MK lo hi n];show wpAny _ _ (pure (((sIx n 0 lo:Nat):Int),(1:Int),Builtin.Slice.slicePlaces ((sIx n 0 lo:Nat):Int) ((sIx n n hi:Nat):Int) 1)) _ _ s;rw[LO];exact nX h
theorem TR(xs:Array Value)(i k:Nat):((List.range k).filterMap λ(m:Nat)=>xs[((i:Int)+(m:Int)*1).toNat]?).toArray=((xs.toList.drop i).take k).toArray:=by
 have e:(λ(m:Nat)=>xs[((i:Int)+(m:Int)*1).toNat]?)=λm=>xs[i+m]? :=by
  funext m
  have:((i:Int)+(m:Int)*1).toNat=i+m:=by omega
  rw[this]
 rw[e];have:=pick_run xs i k;rw[List.filterMap_map]at this;have e2:((λx=>xs[x]?) ∘ λx=>i+x)=λm=>xs[i+m]? :=rfl;rw[e2]at this;rw[this]
theorem getItem_tuple_cut{t sl:Addr}{items:Array Value}{vl vu:Value}{lo hi:Option Int}{Q:Value->Shared->Prop}(ht:IsTup s.heap t items)(hs:s.heap.IsSliceOf sl vl vu .none)(pl:IsPart vl lo)(pu:IsPart vu hi)
  (hw:¬(sIx items.size 0 lo=0/\sIx items.size items.size hi=items.size))
  (h:Q (.ref s.heap.objs.size) { s with heap:=s.heap.push { cls:=.type "tuple",data:=.seq ((items.toList.drop (sIx items.size 0 lo)).take (sIx items.size items.size hi-sIx items.size 0 lo)).toArray } })
  (hsz:items.size<=sizeLine):wpAny (model prog w) A (getItem (.ref t) (.ref sl)) Q E s:=by
 have htake:sizeOk (.seq ((items.toList.drop (sIx items.size 0 lo)).take (sIx items.size items.size hi-sIx items.size 0 lo)).toArray):=by
  show((items.toList.drop (sIx items.size 0 lo)).take (sIx items.size items.size hi-sIx items.size 0 lo)).toArray.size<=sizeLine;rw[mD,mK,List.length_drop,Array.length_toList];omega
 have hj:sIx items.size items.size hi<=items.size:=sIx_le _ _ gA hi;obtain⟨os,hos,hcs,hds⟩:=id hs;have hTs:s.TypeIs (.ref sl) "slice":=⟨os,hos,hcs⟩;unfold getItem;try with_reducible refine wpAny_holding ?_
 first | refine nW (nX ?_) | skip
 refine nW (wpAny_sequenceKey ht.typeIs (by decide) ?_);refine nW (wpAny_callSpecial?_slot (name:=Str.ofString "__getitem__") ht.typeIs PyProof.Rows.slot_tuple_getitem
  (wpAny_call_entry PyProof.Rows.slot_tuple_getitem ht.typeIs entry_tuple_getitem ?_ (args_tuple_getitem _ _)))
 show wpAny _ _ (Builtin.Tuple.tupleItemsOf (.ref t) >>= _) _ _ s;refine nW (tupleItemsOf_ ht ?_);refine nW (wpAny_typeOf hTs ?_);rw[tD (by decide)];refine nW (xX hs pl pu ?_);have hno:¬((((sIx items.size 0 lo:Nat):Int)==0&&(1:Int)==1&&(sIx items.size items.size hi-sIx items.size 0 lo)==items.size)=true):=by
  intro q;rw[mP,mP]at q;have q1:((sIx items.size 0 lo:Nat):Int)=0:=eq_of_beq q.1.1;have q2:sIx items.size items.size hi-sIx items.size 0 lo=items.size:=eq_of_beq q.2;exact hw ⟨by omega,by omega⟩
 show wpAny _ _ (if (((sIx items.size 0 lo:Nat):Int)==0&&(1:Int)==1&&(sIx items.size items.size hi-sIx items.size 0 lo)==items.size)=true then _ else _) _ _ s;rw[nZ hno,TR];first
  | exact nW (m:=Builtin.Tuple.tupleExact _) (wpAny_newObj_type (nX ⟨_,rfl,nX h⟩) htake)
  | exact nW (m:=Builtin.Tuple.tupleExact _) (wpAny_newObj_type (nW (nX (nX ⟨_,rfl,nX h⟩))) htake)
  | exact nW (nW (m:=Builtin.Tuple.tupleExact _) (wpAny_newObj_type (nX (nX ⟨_,rfl,nX h⟩)) htake))
  | exact nW (nW (m:=Builtin.Tuple.tupleExact _) (wpAny_newObj_type (nX ⟨_,rfl,nX h⟩) htake))
end
end HT
namespace L2
open PySem PySem.Spec PyProof.Rows
abbrev TO:=St->Hp->(Option Int->Hp->Prop)->Prop
def PO(X:Cx)(e:Option Expr)(t:TO):Prop:=
 ∀(ac:List (Addr×Obj)) (s:Shared) (σ:St) (H:Hp) (Q:Option Int->Hp->Prop),Inv X ac σ H s->t σ H Q->
  wpAny (model X.prog X.w) X.A (evalPart e X.env) (λu s'=>∃o H',Inv X ac σ H' s'/\IsPart u o/\Q o H') X.xe s
def tNoPart:TO:=λ_ H Q=>Q none H
def tPart(t:TE):TO:=fun σ H Q=>t σ H λx H1=>∃i,x=.int i/\Q (some i) H1
theorem qP{ns:List Int} :∀{us:List Value},Vals (ns.map V.int) us->IntsAre us ns:=by
 induction ns with
 | nil=>intro us r;rw[List.map_nil]at r;cases r;exact .nil
 | cons n ns ih=>
  intro us r;rw[nE]at r;cases r with
  | cons r1 r2=>
   obtain⟨t,e⟩:=r1;subst e;exact .cons n t (ih r2)
section
variable{X:Cx}{e:Expr}{te:TE}{lo hi:Option Expr}{tl th:TO}{pos p2:Pos}
theorem yK:PO X none tNoPart:=by
 intro ac s σ H Q I h;rw[evalPart_none];exact nX ⟨none,H,I,.none,h⟩
theorem vO(h:PE X e te):PO X (some e) (tPart te):=by
 intro ac s σ H Q I hw;rw[evalPart_some];refine thn (h ac s σ H _ I hw) λu s1 ⟨x,H1,I1,r1,q1⟩=>?_;obtain⟨i,rfl,q⟩:=q1;obtain⟨t,rfl⟩:=r1;exact⟨some i,H1,I1,.int i t,q⟩
def SlR(X:Cx)(r:V->Option Int->Option Int->Hp->VK->Prop):Prop:=
 ∀(ac:List (Addr×Obj)) (s:Shared) (σ:St) (H:Hp) (x:V) (v vl vu:Value) (lo hi:Option Int) (sl:Addr) (Q:VK),Inv X ac σ H s->RelV x v->s.heap.IsSliceOf sl vl vu .none->IsPart vl lo->IsPart vu hi->r x lo hi H Q->
  ∃T id,typeLookup (.type T) "__getitem__" = pure (some (.builtin id))/\s.TypeIs v T/\wpAny (model X.prog X.w) X.A (getItem v (.ref sl)) (EP X ac σ Q) X.xe s
def tSl(r:V->Option Int->Option Int->Hp->VK->Prop)(te:TE)(tl th:TO):TE:=fun σ H Q=>te σ H λx H1=>tl σ H1 λl H2=>th σ H2 λu H3=>r x l u H3 Q
theorem xH{r:V->Option Int->Option Int->Hp->VK->Prop}(hr:SlR X r)(he:PE X e te)(hl:PO X lo tl)(hu:PO X hi th):PE X (.Subscript e (.Slice lo hi none p2) pos) (tSl r te tl th):=by
 intro ac s σ H Q I h;refine Subscript_ (thn (he ac s σ H _ I h) λv s1 ⟨x,H1,I1,r1,q1⟩=>?_);refine wpAny_Slice (thn (hl ac s1 σ H1 _ I1 q1) λvl s2 ⟨l,H2,I2,pl,q2⟩=>thn (hu ac s2 σ H2 _ I2 q2) λvu s3 ⟨u,H3,I3,pu,q3⟩=>?_);rw[evalPart_none];refine nX ?_;have I4:Inv X ac σ H3 { s3 with heap:=s3.heap.push { cls:=.type "slice",data:=.fields #[vl,vu,.none] } } :=I3.kept (t':=s3.toks) λb ob q=>gL _ q;obtain⟨T,id,hT,ht,hg⟩:=hr ac { s3 with heap:=s3.heap.push { cls:=.type "slice",data:=.fields #[vl,vu,.none] } } σ H3 x v vl vu l u s3.heap.objs.size Q I4 r1 (Heap.IsSliceOf.new ..) pl pu q3;show wpAny (model X.prog X.w) X.A (subscriptTail e (.Slice lo hi none p2) v (.ref s3.heap.objs.size)) (EP X ac σ Q) X.xe { s3 with heap:=s3.heap.push { cls:=.type "slice",data:=.fields #[vl,vu,.none] } };exact tail_any (ops:=[.ref s3.heap.objs.size,v]) ht hT hg (by with_unfolding_all rfl)
def vN(xs:List V)(lo hi:Option Int):List V:=(xs.drop (HT.sIx xs.length 0 lo)).take (HT.sIx xs.length xs.length hi-HT.sIx xs.length 0 lo)
theorem AH(xs:List V)(lo hi:Option Int):(vN xs lo hi).length<=xs.length:=by
 unfold vN;rw[mK,List.length_drop];omega
def rSlT(K:tF):V->Option Int->Option Int->Hp->VK->Prop:=λx lo hi H Q=>∃a xs,x=.ref a/\SqT K H a xs/\
 ¬(HT.sIx xs.length 0 lo=0/\HT.sIx xs.length xs.length hi=xs.length)/\∀p,H p=none->Q (.ref p) (upd H p (.tup (vN xs lo hi)))
theorem SM:SlR X (rSlT X.K):=by
 intro ac s σ H x v vl vu lo hi sl Q I rx hs pl pu h;obtain⟨a,xs,rfl,hx,hw,q⟩:=h;cases rx;obtain⟨its,r,ht,hz⟩:=I.tuple hx;have hlen:its.toArray.size=xs.length:=by rw[mD];exact r.length.symm
 refine⟨"tuple",_,PyProof.Rows.slot_tuple_getitem.lookup,ht.typeIs, ?_⟩;refine HT.getItem_tuple_cut ht hs pl pu (by rw[hlen];exact hw) ?_ (by rw[hlen];exact hz);rw[hlen];refine⟨.ref s.heap.objs.size,_,I.laid (t':=s.toks) (o:=.tup (vN xs lo hi)) (λb ob q=>gL _ q) gA ?_,rfl,q _ (I.hok.fresh gA)⟩;exact⟨nL (AH xs lo hi) hz,_,(r.drop (HT.sIx xs.length 0 lo)).take (HT.sIx xs.length xs.length hi-HT.sIx xs.length 0 lo),IsTup.new _ _,.of (gW _ rfl) rfl⟩
theorem Vals.nil_iff{xs:List V}{us:List Value}(r:Vals xs us):us=[]↔xs=[]:=by
 cases r with
 | nil=>simp
 | cons _ _=>simp
end
def ixN(n:Nat)(i:Int):Option Nat:=if 0<=i then(if i<n then some i.toNat else none)else if -(n:Int)<=i then some (i+n).toNat else none
def atI{α:Type}(xs:List α)(i:Int):Option α:=(ixN xs.length i).bind λj=>xs[j]?
theorem OH{n:Nat}{i:Int}{j:Nat}(h:ixN n i=some j):seqIndex? i n=some j/\j<n/\-(n:Int)<=i/\i<n:=by
 unfold ixN at h;by_cases h0:0<=i
 ·rw[tD h0]at h;by_cases h1:i<n
  ·rw[tD h1]at h;have e:i.toNat=j:=Option.some.inj h;exact⟨by rw[seqIndex_of h0 h1,e],by omega,by omega,h1⟩
  ·rw[nZ h1]at h;cases h
 ·rw[nZ h0]at h;by_cases h1: -(n:Int)<=i
  ·rw[tD h1]at h;have e:(i+n).toNat=j:=Option.some.inj h;exact⟨by rw[seqIndex_neg (by omega) h1,e],by omega,h1,by omega⟩
  ·rw[nZ h1]at h;cases h
theorem ID{α:Type}{xs:List α}{i:Int}{v:α}(h:atI xs i=some v):∃j,seqIndex? i xs.length=some j/\xs[j]? = some v/\j<xs.length/\-(xs.length:Int)<=i/\i<xs.length:=by
 unfold atI at h;cases e:ixN xs.length i with
 | none=>rw[e]at h;cases h
 | some j=>
  rw[e]at h;obtain⟨h1,h2,h3,h4⟩:=OH e;exact⟨j,h1,h,h2,h3,h4⟩
theorem qX{α:Type}{xs:List α}{j:Nat}{v:α}(h:xs[j]? = some v):atI xs (j:Int)=some v:=by
 have hj:j<xs.length:=(gG.mp h).1;have e:ixN xs.length (j:Int)=some j:=by
  unfold ixN;rw[tD (by omega),tD (by omega)];simp
 unfold atI;rw[e];exact h
theorem WQ{α:Type}(xs:List α)(v:α):atI (xs++[v]) (-1)=some v:=by
 have hl:(xs++[v]).length=xs.length+1:=by simp
 have e:ixN (xs++[v]).length (-1)=some xs.length:=by
  unfold ixN;rw[hl,nZ (by decide),tD (by omega)]
  congr 1
  omega
 unfold atI;rw[e];show(xs++[v])[xs.length]? = some v;simp
def PlainIx(b:Expr):Prop:=∀o i,subscripted b false o i=operate [o,i] (getItem o i)
def IxR(X:Cx)(r:R2):Prop:=
 ∀(value slice:Expr) (ac:List (Addr×Obj)) (s:Shared) (σ:St) (H:Hp) (x y:V) (v u:Value) (Q:VK),Inv X ac σ H s->RelV x v->RelV y u->r x y H Q->
  subscripted slice false v u=operate [v,u] (getItem v u)->wpAny (model X.prog X.w) X.A (subscriptTail value slice v u) (EP X ac σ Q) X.xe s
def MtR(X:Cx)(id:String)(r:V->List V->Hp->VK->Prop):Prop:=
 ∀(ac:List (Addr×Obj)) (s:Shared) (σ:St) (H:Hp) (x:V) (xs:List V) (v:Value) (us:List Value) (Q:VK),Inv X ac σ H s->RelV x v->Vals xs us->r x xs H Q->
  wpAny (model X.prog X.w) X.A (call (.builtin id) (v::us)) (EP X ac σ Q) X.xe s
section
variable{X:Cx}{a b:Expr}{ta tb:TE}{pos:Pos}
theorem kF{r:R2}(hr:IxR X r)(ha:PE X a ta)(hb:PE X b tb)(hs:PlainIx b):PE X (.Subscript a b pos) (tOp r ta tb):=by
 intro ac s σ H Q I h;exact Subscript_ (binT ha hb I h λv u s2 x y H2 I2 rx ry q=>hr a b ac s2 σ H2 x y v u Q I2 rx ry q (hs _ _))
def rIxL(K:tF):R2:=λx y H Q=>∃p xs i v,x=.ref p/\y=.int i/\SqL K H p xs/\atI xs i=some v/\Q v H
def yY(K:tF):R2:=λx y H Q=>∃p xs i v,x=.ref p/\y=.int i/\SqT K H p xs/\atI xs i=some v/\Q v H
theorem qS:IxR X (rIxL X.K):=by
 intro value slice ac s σ H x y v u Q I rx ry h hs;obtain⟨p,xs,i,z,rfl,rfl,hq,he,q⟩:=h;cases rx;obtain⟨t,rfl⟩:=ry;obtain⟨its,r,pl,hz⟩:=I.list hq;obtain⟨j,h1,h2,h3,h4,h5⟩:=ID he;obtain⟨w,ew,rw'⟩:=r.get h2;have hl:=r.length;have hn:=uU;have fin:EP X ac σ Q w s:=⟨z,H,I,rw',q⟩;by_cases h0:0<=i
 ·have hj:i.toNat=j:=by
   rw[seqIndex_of h0 h5]at h1;exact Option.some.inj h1
  exact item_listR pl.isList h0 (by omega) (by rw[hj];simpa using ew) fin hs
 ·have hj:(i+(its.toArray.size:Int)).toNat=j:=by
   rw[seqIndex_neg (by omega) h4]at h1;rw[mD,<-hl];exact Option.some.inj h1
  exact subscriptTail_builtinR (x:=w) pl.isList.typeIs slot_list_getitem.lookup
   (wpAny_getItem_list_neg (Q:=λr s'=>r=w/\EP X ac σ Q r s') pl.isList (by omega) (by rw[mD]<;>omega) (by omega) (by rw[hj];simpa using ew) ⟨rfl,fin⟩) hs
theorem kH:IxR X (yY X.K):=by
 intro value slice ac s σ H x y v u Q I rx ry h hs;obtain⟨p,xs,i,z,rfl,rfl,hq,he,q⟩:=h;cases rx;obtain⟨t,rfl⟩:=ry;obtain⟨its,r,pl,hz⟩:=I.tuple hq;obtain⟨j,h1,h2,h3,h4,h5⟩:=ID he;obtain⟨w,ew,rw'⟩:=r.get h2;have hl:=r.length;have hn:=uU;have fin:EP X ac σ Q w s:=⟨z,H,I,rw',q⟩;exact subscriptTail_builtinR (x:=w) pl.typeIs slot_tuple_getitem.lookup
  (getItem_tuple (j:=j) (Q:=λr s'=>r=w/\EP X ac σ Q r s') pl (by omega) (by omega) (by rw[mD,<-hl];exact h1) (by simpa using ew) ⟨rfl,fin⟩) hs
theorem LW(its:List Value)(n j:Nat)(u:Value):Obj.mapSeq (·.setIfInBounds j u) { cls:=.type "list",data:=.seq its.toArray n } = { cls:=.type "list",data:=.seq (its.set j u).toArray n } :=by
 simp [Obj.mapSeq]
theorem Inv.lst{ac:List (Addr×Obj)}{σ:St}{H:Hp}{s:Shared}{p:Addr}{xs:List V}(I:Inv X ac σ H s)(h:H p=some (.lst xs)) :
  ∃(its:List Value) (n:Nat),Vals xs its/\s.heap.get? p=some { cls:=.type "list",data:=.seq its.toArray n }/\xs.length<=sizeLine:=by
 obtain⟨z,its,n,r,e⟩:=I.hok p _ h;exact⟨its,n,r,e,z⟩
theorem Inv.lstUpd{ac:List (Addr×Obj)}{σ:St}{H:Hp}{s:Shared}{p:Addr}{xs ys:List V}{its its':List Value}{n n':Nat}{f:Obj->Obj}(I:Inv X ac σ H s)(h:H p=some (.lst xs))
  (ho:s.heap.get? p=some { cls:=.type "list",data:=.seq its.toArray n }) (hf:f { cls:=.type "list",data:=.seq its.toArray n } = { cls:=.type "list",data:=.seq its'.toArray n' }) (r:Vals ys its') (hz:ys.length<=sizeLine) (t:Nat) :
  Inv X ac σ (upd H p (.lst ys)) { s with heap:=s.heap.update p f,toks:=t } :=by
 have e:(s.heap.update p f).get? p=some { cls:=.type "list",data:=.seq its'.toArray n' } :=by
  rw[Heap.get?_update_self f ho (by rw[hf]<;>rfl),hf]
 refine I.write (x:=p) (e:=p) (by rw[h];trivial) (.inl rfl) (λb u hb q=>(Heap.get?_update_other _ _ (Ne.symm hb)).trans q) ⟨_,e⟩ ?_;exact⟨hz,its',n',r,e⟩
def rSetL:V->V->V->Hp->(Hp->Prop)->Prop:=λo i v H Q=>∃p xs k j,o=.ref p/\i=.int k/\H p=some (.lst xs)/\ixN xs.length k=some j/\Q (upd H p (.lst (xs.set j v)))
theorem IO:PSet X rSetL:=by
 intro ac s σ H o i v ov iv u Q I ro ri rv h;obtain⟨p,xs,k,j,rfl,rfl,hp,hj,q⟩:=h;cases ro;obtain⟨t,rfl⟩:=ri;obtain⟨its,n,r,ho,hz⟩:=I.lst hp;obtain⟨h1,h2,h3,h4⟩:=OH hj;have hl:=r.length;have hn:=uU;have I':Inv X ac σ (upd H p (.lst (xs.set j v))) { s with heap:=s.heap.update p (Obj.mapSeq (·.setIfInBounds j u)) } :=
  I.lstUpd hp ho (LW its n j u) (r.set rv j) (by rw[List.length_set];exact hz) s.toks
 by_cases h0:0<=k
 ·have hk:k.toNat=j:=by
   rw[seqIndex_of h0 h4]at h1;exact Option.some.inj h1
  exact PySem.W.ki_setAt ho h0 (by omega) (by rw[mD,<-hl];exact h4) (by rw[hk];exact⟨_,I',q⟩)
 ·have hk:(k+(its.toArray.size:Int)).toNat=j:=by
   rw[seqIndex_neg (by omega) h3]at h1;rw[mD,<-hl];exact Option.some.inj h1
  exact PySem.W.ki_setBack ho (by omega) (by rw[mD,<-hl];exact h3) (by omega) (by rw[hk];exact⟨_,I',q⟩)
theorem FT(lo hi:Option Int)(n:Nat):(sliceBounds lo hi none n).1=((HT.sIx n 0 lo:Nat):Int)/\(sliceBounds lo hi none n).2.1=((HT.sIx n n hi:Nat):Int)/\(sliceBounds lo hi none n).2.2=1:=by
 refine⟨?_, ?_,rfl⟩
 ·cases lo with
  | none=>simp [sliceBounds,HT.sIx]
  | some i=>
   simp only[sliceBounds,HT.sIx,Option.getD_none,show(1:Int)>0 by decide,if_true];by_cases h:i<0
   ·simp only[h,if_true]<;>omega
   ·simp only[h,if_false]<;>omega
 ·cases hi with
  | none=>simp [sliceBounds,HT.sIx]
  | some i=>
   simp only[sliceBounds,HT.sIx,Option.getD_none,show(1:Int)>0 by decide,if_true];by_cases h:i<0
   ·simp only[h,if_true]<;>omega
   ·simp only[h,if_false]<;>omega
theorem DK(its:List Value)(lo hi:Option Int):slicePick its.toArray lo hi none=((its.drop (HT.sIx its.length 0 lo)).take (HT.sIx its.length its.length hi-HT.sIx its.length 0 lo)).toArray:=by
 obtain⟨h1,h2,h3⟩:=FT lo hi its.toArray.size;unfold slicePick;rw[h1,h2,h3];simp only[sliceRange_one,pick_run,mD]<;>rfl
def rSlL(K:tF):V->Option Int->Option Int->Hp->VK->Prop:=λx lo hi H Q=>∃a xs,x=.ref a/\SqL K H a xs/\∀p,H p=none->Q (.ref p) (upd H p (.lst (vN xs lo hi)))
theorem MZ:SlR X (rSlL X.K):=by
 intro ac s σ H x v vl vu lo hi sl Q I rx hs pl pu h;obtain⟨a,xs,rfl,hx,q⟩:=h;cases rx;obtain⟨its,r,ht,hz⟩:=I.list hx;have hlen:=r.length;refine⟨"list",_,slot_list_getitem.lookup,ht.isList.typeIs, ?_⟩;refine wpAny_getItem_list_slice ht.isList hs pl pu .none (by simp) ?_ (by rw[mD]<;>omega);rw[DK,<-hlen];refine⟨.ref s.heap.objs.size,_,I.laid (t':=s.toks) (o:=.lst (vN xs lo hi)) (λb ob q=>gL _ q) gA ?_,rfl,q _ (I.hok.fresh gA)⟩;exact⟨nL (AH xs lo hi) hz,_,0,(r.drop (HT.sIx xs.length 0 lo)).take (HT.sIx xs.length xs.length hi-HT.sIx xs.length 0 lo),gW _ rfl⟩
def yT:V->Bool
 | .non=>true
 | .bl _=>true
 | .int _=>true
 | .str _=>true
 | _=>false
def eqV:V->V->Bool
 | .non,.non=>true
 | .bl a,.bl b=>a==b
 | .bl a,.int b=>(if a then 1 else 0)==b
 | .int a,.bl b=>a==(if b then 1 else 0)
 | .int a,.int b=>a==b
 | .str a,.str b=>a==b
 | _,_=>false
theorem MA{A:Around}{s:Shared}{y x:V}{u v:Value}(ry:RelV y u)(rx:RelV x v)(fy:yT y=true)(fx:yT x=true):SeqAt.EqAt A s u v (eqV y x):=by
 cases y with
 | non=>
  cases ry;cases x with
  | non=>cases rx;exact SeqAt.EqAt.same _
  | bl b=>cases rx;exact SeqAt.EqAt.none_bool b
  | int b=>obtain⟨t,rfl⟩:=rx;exact SeqAt.EqAt.none_int b t
  | str b=>obtain⟨t,rfl⟩:=rx;exact SeqAt.EqAt.none_str b t
  | _=>exact absurd (show false=true from fx) gZ
 | bl a=>
  cases ry;cases x with
  | non=>cases rx;exact SeqAt.EqAt.bool_none a
  | bl b=>cases rx;exact SeqAt.EqAt.bool_bool a b
  | int b=>obtain⟨t,rfl⟩:=rx;exact SeqAt.EqAt.bool_int a b t
  | str b=>obtain⟨t,rfl⟩:=rx;exact SeqAt.EqAt.bool_str a b t
  | _=>exact absurd (show false=true from fx) gZ
 | int a=>
  obtain⟨t',rfl⟩:=ry;cases x with
  | non=>cases rx;exact SeqAt.EqAt.int_none a t'
  | bl b=>cases rx;exact SeqAt.EqAt.int_bool a t' b
  | int b=>obtain⟨t,rfl⟩:=rx;exact SeqAt.EqAt.int_int a t' b t
  | str b=>obtain⟨t,rfl⟩:=rx;exact SeqAt.EqAt.int_str a t' b t
  | _=>exact absurd (show false=true from fx) gZ
 | str a=>
  obtain⟨t',rfl⟩:=ry;cases x with
  | non=>cases rx;exact SeqAt.EqAt.str_none a t'
  | bl b=>cases rx;exact SeqAt.EqAt.str_bool a t' b
  | int b=>obtain⟨t,rfl⟩:=rx;exact SeqAt.EqAt.str_int a t' b t
  | str b=>obtain⟨t,rfl⟩:=rx;exact SeqAt.EqAt.str_str a t' b t
  | _=>exact absurd (show false=true from fx) gZ
 | _=>exact absurd (show false=true from fy) gZ
def eqU(x:V)(u:Value):Bool:=match u with
 | .none=>eqV .non x
 | .bool b=>eqV (.bl b) x
 | .int i _=>eqV (.int i) x
 | .str z _=>eqV (.str z) x
 | _=>false
theorem WB{x y:V}{u:Value}(r:RelV y u)(f:yT y=true):eqU x u=eqV y x:=by
 cases y with
 | non=>cases r;rfl
 | bl b=>cases r;rfl
 | int i=>obtain⟨t,rfl⟩:=r;rfl
 | str z=>obtain⟨t,rfl⟩:=r;rfl
 | _=>exact absurd (show false=true from f) gZ
theorem uJ{x:V} :∀{xs:List V} {us:List Value},Vals xs us->xs.all yT=true->us.any (eqU x)=xs.any λy=>eqV y x
 | _,_,.nil,_=>rfl
 | y::xs,u::us,.cons r t,f=>by
  rw[List.all_cons,mP]at f;rw[List.any_cons,List.any_cons,WB r f.1,uJ t f.2]
theorem zG{A:Around}{s:Shared}{x:V}{v:Value}(rx:RelV x v)(fx:yT x=true):∀{xs:List V} {us:List Value},Vals xs us->xs.all yT=true->∀u∈us,SeqAt.EqAt A s u v (eqU x u)
 | _,_,.nil,_=>λu hu=>by cases hu
 | y::xs,u::us,.cons r t,f=>λu' hu=>by
  rw[List.all_cons,mP]at f;rcases nF.mp hu with rfl | hu
  ·rw[WB r f.1];exact MA r rx f.1 fx
  ·exact zG rx fx t f.2 u' hu
def inV(x:V)(xs:List V):Bool:=xs.any λy=>eqV y x
def rIn(K:tF)(neg:Bool):R2:=λx y H Q=>∃p xs,y=.ref p/\(SqL K H p xs∨SqT K H p xs)/\yT x=true/\xs.all yT=true/\Q (.bl (if neg then !inV x xs else inV x xs)) H
theorem PY:OpR X (compareOp .In) (rIn X.K false):=by
 intro ac s σ H x y v u Q I rx ry h;obtain⟨p,xs,rfl,hq,fx,fs,q⟩:=h;cases ry;rcases hq with hq | hq
 ·obtain⟨its,r,pl,hz⟩:=I.list hq;refine SeqAt.in_listAt (eqU x) pl.isList (λw hw=>zG rx fx r fs w (by simpa using hw)) ⟨.bl _,H,I,rfl, ?_⟩;rw[show its.toArray.any (eqU x)=its.any (eqU x) by simp,uJ r fs];exact q
 ·obtain⟨its,r,pl,hz⟩:=I.tuple hq;refine SeqAt.in_tupleAt (eqU x) pl (λw hw=>zG rx fx r fs w (by simpa using hw)) ⟨.bl _,H,I,rfl, ?_⟩;rw[show its.toArray.any (eqU x)=its.any (eqU x) by simp,uJ r fs];exact q
theorem HG:OpR X (compareOp .NotIn) (rIn X.K true):=by
 intro ac s σ H x y v u Q I rx ry h;obtain⟨p,xs,rfl,hq,fx,fs,q⟩:=h;cases ry;rcases hq with hq | hq
 ·obtain⟨its,r,pl,hz⟩:=I.list hq;refine SeqAt.notIn_listAt (eqU x) pl.isList (λw hw=>zG rx fx r fs w (by simpa using hw)) ⟨.bl _,H,I,rfl, ?_⟩;rw[show its.toArray.any (eqU x)=its.any (eqU x) by simp,uJ r fs];exact q
 ·obtain⟨its,r,pl,hz⟩:=I.tuple hq;refine SeqAt.notIn_tupleAt (eqU x) pl (λw hw=>zG rx fx r fs w (by simpa using hw)) ⟨.bl _,H,I,rfl, ?_⟩;rw[show its.toArray.any (eqU x)=its.any (eqU x) by simp,uJ r fs];exact q
theorem qD:CallR X (.builtin "len") (λxs H Q=>∃p ys,xs=[.ref p]/\(SqL X.K H p ys∨SqT X.K H p ys)/\Q (.int ys.length) H):=by
 intro ac s σ H xs us Q I r h;obtain⟨p,ys,rfl,hq,q⟩:=h;obtain⟨u,rfl,rx⟩:=qM r;cases rx;have hn:=uU;rcases hq with hq | hq
 ·obtain⟨its,r',pl,hz⟩:=I.list hq;have hlen:=r'.length;exact Calls.call_len_list pl.isList (by simp only[mD]<;>omega) ⟨.int ys.length,H,I.tok _,⟨s.toks+1,by rw[mD,hlen]⟩,q⟩
 ·obtain⟨its,r',pl,hz⟩:=I.tuple hq;have hlen:=r'.length;exact len_tuple pl (by simp only[mD]<;>omega) ⟨.int ys.length,H,I.tok _,⟨s.toks+1,by rw[mD,hlen]⟩,q⟩
theorem IB:CallR X (.builtin "len") (λxs H Q=>∃z,xs=[.str z]/\z.length<=sizeLine/\Q (.int z.length) H):=by
 intro ac s σ H xs us Q I r h;obtain⟨z,rfl,hz,q⟩:=h;obtain⟨u,rfl,t,rfl⟩:=qM r;have hn:=uU;exact len_str (by omega) ⟨.int z.length,H,I.tok _,⟨_,rfl⟩,q⟩
theorem qG:CallR X (.type "tuple") (λxs H Q=>∃p ys,xs=[.ref p]/\((SqL X.K H p ys/\∀l,H l=none->Q (.ref l) (upd H l (.tup ys)))∨(SqT X.K H p ys/\Q (.ref p) H))):=by
 intro ac s σ H xs us Q I r h;obtain⟨p,ys,rfl,h⟩:=h;obtain⟨u,rfl,rx⟩:=qM r;cases rx;rcases h with⟨hq,q⟩ | ⟨hq,q⟩
 ·obtain⟨its,r',pl,hz⟩:=I.list hq;have hlen:=r'.length;refine call_tuple_list pl.isList (λh' kp=>?_) (by simp only[mD]<;>omega);have I1:Inv X ac σ H { s with heap:=h' } :=I.kept (t':=s.toks) kp;have I2:Inv X ac σ (upd H h'.objs.size (.tup ys)) { s with heap:=h'.push { cls:=.type "tuple",data:=.seq its.toArray } } :=
   I1.laid (t':=s.toks) (λb o e=>gL _ e) gA (show ObjOk X.prog X.w _ _ _ (.tup ys)from⟨hz,its,r',IsTup.new _ _,.of (gW _ rfl) rfl⟩)
  exact⟨.ref h'.objs.size,_,I2,rfl,q _ (I1.hok.fresh gA)⟩
 ·obtain⟨its,r',pl,hz⟩:=I.tuple hq;exact call_tuple_same pl ⟨.ref p,H,I,rfl,q⟩
def tyV(K:tF)(T:String)(x:V)(H:Hp):Prop:=match x with
 | .str _=>T="str"
 | .int _=>T="int"
 | .ref p=>(T="list"/\∃xs,SqL K H p xs)∨(T="tuple"/\∃o,K.lookup p=some o/\o.cls=.type "tuple"/\o.dict=none)∨
   (T="dict"/\((∃ag,H p=some (.dK ag))∨∃ag,H p=some (.dT ag)))∨(T="set"/\∃S n,H p=some (.set S n))∨(T="tuple"/\∃xs,H p=some (.tup xs))
 | _=>False
theorem RS{ac:List (Addr×Obj)}{σ:St}{H:Hp}{s:Shared}{T:String}{x:V}{v:Value}(I:Inv X ac σ H s)(r:RelV x v)(ty:tyV X.K T x H) :
  s.TypeIs v T/\∀a,v=.ref a->∃ob,s.heap.get? a=some ob/\ob.dict=none:=by
 cases x with
 | str z=>
  obtain⟨t,rfl⟩:=r;cases (show T="str" from ty);exact⟨typeIs_str s z t,λ_ e=>nomatch e⟩
 | int i=>
  obtain⟨t,rfl⟩:=r;cases (show T="int" from ty);exact⟨typeIs_int s i t,λ_ e=>nomatch e⟩
 | ref p=>
  cases r;rcases ty with⟨rfl,xs,hq⟩ | ⟨rfl,o,hk,hc,hd⟩ | ⟨rfl,hk⟩ | ⟨rfl,S,n,hk⟩ | ⟨rfl,xs,hk⟩
  rotate_left 4
  ·obtain⟨_,its,_,⟨o,h1,h2,_⟩,nd⟩:=(show ObjOk X.prog X.w H s.heap p (.tup xs)from I.hok p _ hk);exact⟨⟨o,h1,h2⟩,λa e=>by cases e;exact⟨o,h1,nd _ h1⟩⟩
  ·obtain⟨its,_,pl,_⟩:=I.list hq;refine⟨pl.isList.typeIs,λa e=>?_⟩;cases e;obtain⟨o,n,e,c,hd,_⟩:=pl;exact⟨o,e,hd⟩
  ·refine⟨⟨o,I.kIn p o hk,hc⟩,λa e=>?_⟩;cases e;exact⟨o,I.kIn _ o hk,hd⟩
  ·have z:∃o,s.heap.get? p=some o/\o.ExactDict:=by
    rcases hk with⟨ag,hk⟩ | ⟨ag,hk⟩
    ·obtain⟨_,_,_,_,o,_,_,e,ex,_⟩:=I.hok p _ hk;exact⟨o,e,ex⟩
    ·obtain⟨_,_,_,_,o,_,_,e,ex,_⟩:=I.hok p _ hk;exact⟨o,e,ex⟩
   obtain⟨o,e,ex⟩:=z;refine⟨⟨o,e,ex.1⟩,λa e2=>?_⟩;cases e2;exact⟨o,e,ex.2.1⟩
  ·obtain⟨o,_,_,_,e,ex,_⟩:=I.hok p _ hk;refine⟨⟨o,e,ex.1⟩,λa e2=>?_⟩;cases e2;exact⟨o,e,ex.2.1⟩
 | _=>exact False.elim ty
def tBM0(K:tF)(T:String)(r:V->List V->Hp->VK->Prop)(to:TE):TE:=fun σ H Q=>to σ H λx H1=>tyV K T x H1/\r x [] H1 Q
def tBM(K:tF)(T:String)(r:V->List V->Hp->VK->Prop)(to:TE)(t:TA):TE:=fun σ H Q=>to σ H λx H1=>tyV K T x H1/\t σ H1 λxs H2=>r x xs H2 Q
variable{o e:Expr}{es:List Expr}{to:TE}{t:TA}{name:Str}{apos cpos:Pos}{T id:String}{r:V->List V->Hp->VK->Prop}
theorem TX(pa:PlainAttrs T)(slot:Slot T name id)(hty:typeOf (.builtin id)=pure (.type "method_descriptor"))(hm:MtR X id r)(ho:PE X o to)
  (hbase:attributeBase o name X.env (eval o X.env)=eval o X.env:=by rfl) (hline:(apos.endLine==cpos.line)=true:=by rfl):PE X (.Call (.Attribute o name apos) [] [] cpos) (tBM0 X.K T r to):=by
 intro ac s σ H Q I h;refine wpAny_Call_method0_late hbase hline (thn (ho ac s σ H _ I h) λv s1 ⟨x,H1,I1,r1,ty,q1⟩=>?_);obtain⟨h1,h2⟩:=RS I1 r1 ty;exact⟨T,id,pa,slot,hty,h1,h2,Calls.callWith_builtin rfl (PySem.evalArgs_none (hm ac s1 σ H1 x [] v [] Q I1 r1 .nil q1))⟩
theorem vY(pa:PlainAttrs T)(slot:Slot T name id)(hty:typeOf (.builtin id)=pure (.type "method_descriptor"))(hm:MtR X id r)(ho:PE X o to)(ha:PA X (e::es) t)
  (hbase:attributeBase o name X.env (eval o X.env)=eval o X.env:=by rfl)
  (hfew:((backTo cpos (starEach (e::es) X.env)).all (λx=>!x.1)&&(backToKw cpos (keywordEach [] X.env)).all (λx=>x.1.isSome)
   &&decide ((e::es).length+([]:List Keyword).length+(if ([]:List Keyword).isEmpty then 0 else 1)<30))=true:=by rfl)
  (hline:(apos.endLine==cpos.line)=true:=by rfl) (hs:starEach (e::es) X.env=(false,eval e X.env)::starEach es X.env:=by rfl) (hplain:(backTo cpos (starEach es X.env)).any (·.1)=false:=by rfl) :
  PE X (.Call (.Attribute o name apos) (e::es) [] cpos) (tBM X.K T r to t):=by
 intro ac s σ H Q I h;refine wpAny_Call_method_late hbase hfew hline rfl (thn (ho ac s σ H _ I h) λv s1 ⟨x,H1,I1,r1,ty,q1⟩=>?_);obtain⟨h1,h2⟩:=RS I1 r1 ty;refine⟨T,id,pa,slot,hty,h1,h2, ?_⟩;have hA:=ha cpos ac s1 σ H1 _ I1 q1;rw[hs]at hA ⊢;refine Calls.callWith_builtin (by show(false||(backTo cpos (starEach es X.env)).any (·.1))=false;rw[hplain]<;>rfl) (Calls.evalArgs_plain ?_);exact thn hA λus s2 ⟨vs,H2,I2,r2,q2⟩=>hm ac s2 σ H2 x vs v us Q I2 r1 r2 q2
end
def MtM(X:Cx)(id:String)(r:V->List V->Hp->VK->Prop):Prop:=
 ∀(ac:List (Addr×Obj)) (s:Shared) (σ:St) (H:Hp) (x:V) (xs:List V) (v:Value) (us:List Value) (Q:VK),Inv X ac σ H s->RelV x v->Vals xs us->r x xs H Q->
  wpAny (model X.prog X.w) X.A (call (.builtin id) (v::us)) (EP X ac σ Q) X.xe s
theorem Vals.one:∀{x:V} {us:List Value},Vals [x] us->∃u,us=[u]/\RelV x u
 | _,_,.cons r .nil=>⟨_,rfl,r⟩
theorem Vals.rep{xs:List V}{us:List Value}(h:Vals xs us):∀k:Nat,Vals (List.replicate k xs).flatten (List.replicate k us).flatten
 | 0=>.nil
 | k+1=>by
  rw[List.replicate_succ,List.replicate_succ,List.flatten_cons,List.flatten_cons];exact Vals.append h (Vals.rep h k)
theorem EW(its:List Value):∀(k:Nat) (acc:List Value),
  List.foldl (λx1 x2=>x1++x2) acc.toArray (List.replicate k its.toArray)=(acc++(List.replicate k its).flatten).toArray
 | 0,acc=>by simp
 | k+1,acc=>by
  have e:acc.toArray++its.toArray=(acc++its).toArray:=by simp
  have e2:(acc++its)++(List.replicate k its).flatten=acc++(List.replicate (k+1) its).flatten:=by
   rw[List.replicate_succ,List.flatten_cons,mF]
  rw[<-e2,<-EW its k (acc++its),<-e,List.replicate_succ,List.foldl_cons]
section
variable{X:Cx}{ac:List (Addr×Obj)}{σ:St}{H:Hp}{s:Shared}{l b:Addr}{xs ys zs:List V}
theorem Inv.lset{its its':List Value}{n:Nat}{f:Array Value->Array Value}{t':Nat}(I:Inv X ac σ H s)(hH:H l=some (.lst xs))
  (e:s.heap.get? l=some { cls:=.type "list",data:=.seq its.toArray n }) (hf:f its.toArray=its'.toArray) (hv:Vals ys its') (hz:ys.length<=sizeLine) :
  Inv X ac σ (upd H l (.lst ys)) { s with heap:=s.heap.update l (Obj.mapSeq f),toks:=t' } :=by
 have q:=PySem.IsL.update e f;rw[hf]at q;refine I.write (x:=l) (e:=l) (by rw[hH];exact trivial) (.inl rfl) (λb' u hb hu=>(Heap.get?_update_other s.heap (Obj.mapSeq f) (Ne.symm hb)).trans hu) ⟨_,q⟩ ?_;exact⟨hz,its',_,hv,q⟩
theorem Inv.lnew{its:List Value}{t':Nat}(I:Inv X ac σ H s)(hv:Vals ys its)(hz:ys.length<=sizeLine) :
  Inv X ac σ (upd H s.heap.objs.size (.lst ys)) { s with heap:=s.heap.push { cls:=.type "list",data:=.seq its.toArray },toks:=t' } :=
 I.laid (λ_ _ q=>gL _ q) gA ⟨hz,its,0,hv,gW _ rfl⟩
theorem Inv.fresh(I:Inv X ac σ H s):H s.heap.objs.size=none:=I.hok.fresh gA 
theorem Inv.lstM(I:Inv X ac σ H s)(hH:H l=some (.lst xs)):xs.length<=sizeLine/\∃(its:List Value) (n:Nat),Vals xs its/\xs.length=its.length/\s.heap.get? l=some { cls:=.type "list",data:=.seq its.toArray n } :=by
 obtain⟨z,its,n,r,e⟩:=I.hok l _ hH;exact⟨z,its,n,r,r.length,e⟩
theorem JK{n:Nat}(h:n<=sizeLine):Builtin.List.listTooLong n=false:=by
 unfold Builtin.List.listTooLong;exact mU (by omega)
end
section
variable{X:Cx}
def rAppend:V->List V->Hp->VK->Prop:=λx vs H Q=>∃l xs y,x=.ref l/\vs=[y]/\H l=some (.lst xs)/\xs.length<sizeLine/\Q .non (upd H l (.lst (xs++[y])))
theorem kW:MtM X "list.append" rAppend:=by
 intro ac s σ H x vs v us Q I rx rv h;obtain⟨l,xs,y,rfl,rfl,hH,hz,q⟩:=h;cases rx;obtain⟨u,rfl,ru⟩:=rv.one;obtain⟨z,its,n,r,hl,e⟩:=I.lstM hH;refine call_meets F.slot_list_append ⟨_,e,rfl⟩ F.entry_list_append (F.args_list_append_2 _ _) (PySem.list_append l its.toArray n u (by rw[mD];omega)) ⟨e, ?_⟩;refine⟨.non,_,I.lset (its':=its++[u]) hH e (by simp) (r.append (.cons ru .nil)) ?_,rfl,q⟩;rw[gY,List.length_singleton];omega
def rExtend:V->List V->Hp->VK->Prop:=λx vs H Q=>∃l b xs zs,x=.ref l/\vs=[.ref b]/\H l=some (.lst xs)/\H b=some (.lst zs)/\xs.length+zs.length<=sizeLine/\Q .non (upd H l (.lst (xs++zs)))
theorem mt_extend:MtM X "list.extend" rExtend:=by
 intro ac s σ H x vs v us Q I rx rv h;obtain⟨l,b,xs,zs,rfl,rfl,hH,hB,hz,q⟩:=h;cases rx;obtain⟨u,rfl,ru⟩:=rv.one;cases ru;obtain⟨z,its,n,r,hl,e⟩:=I.lstM hH;obtain⟨z2,its2,n2,r2,hl2,e2⟩:=I.lstM hB;have hsz:its.toArray.size+its2.toArray.size<=sizeLine:=by rw[mD,mD];omega
 have hlong:¬(!its.toArray.isEmpty&&Builtin.List.listTooLong (its.toArray.size+its2.toArray.size))=true:=by
  rw[JK hsz,Bool.and_false];exact gZ
 refine call_meets F.slot_list_extend ⟨_,e,rfl⟩ F.entry_list_extend (F.args_list_extend_2 _ _)
  (AutoSeq1.list_extend_list_list_0 l its.toArray n b its2.toArray n2 hlong (by rw[mD];omega) (by omega)) ⟨e,e2, ?_⟩
 refine⟨.non,_,I.lset (its':=its++its2) hH e (by simp) (r.append r2) ?_,rfl,q⟩;rw[gY];omega
def rCat:R2:=λx y H Q=>∃l b xs zs,x=.ref l/\y=.ref b/\H l=some (.lst xs)/\H b=some (.lst zs)/\xs.length+zs.length<=sizeLine/\∀p,H p=none->Q (.ref p) (upd H p (.lst (xs++zs)))
theorem op_cat:OpR X (binaryOp .Add) rCat:=by
 intro ac s σ H x y v u Q I rx ry h;obtain⟨l,b,xs,zs,rfl,rfl,hH,hB,hz,q⟩:=h;cases rx;cases ry;obtain⟨z,its,n,r,hl,e⟩:=I.lstM hH;obtain⟨z2,its2,n2,r2,hl2,e2⟩:=I.lstM hB;refine PySem.P.add_list e e2 ?_ (by rw[mD,mD];omega);have ea:its.toArray++its2.toArray=(its++its2).toArray:=by simp
 rw[ea];exact⟨.ref _,_,I.lnew (t':=s.toks) (r.append r2) (by rw[gY];omega),rfl,q _ I.fresh⟩
def rRep:R2:=λx y H Q=>∃l k xs,x=.ref l/\y=.int k/\H l=some (.lst xs)/\-(2^63)<=k/\k<2^63/\xs.length*k.toNat<=sizeLine/\
 ∀p,H p=none->Q (.ref p) (upd H p (.lst (List.replicate k.toNat xs).flatten))
theorem YX{α:Type}(xs:List α)(k:Nat):(List.replicate k xs).flatten.length=k*xs.length:=by
 induction k with
 | zero=>simp
 | succ k ih=>rw[List.replicate_succ,List.flatten_cons,gY,ih,Nat.succ_mul,Nat.add_comm]
theorem LP:OpR X (binaryOp .Mult) rRep:=by
 intro ac s σ H x y v u Q I rx ry h;obtain⟨l,k,xs,rfl,rfl,hH,h1,h2,hz,q⟩:=h;cases rx;obtain⟨t,rfl⟩:=ry;obtain⟨z,its,n,r,hl,e⟩:=I.lstM hH;have hlen:its.toArray.size*k.toNat<=sizeLine:=by rw[mD,<-hl];exact hz
 have hcap:¬its.toArray.size*k.toNat>(2^63-1)/8:=by
  have:(sizeLine:Nat)<=(2^63-1)/8:=by decide
  omega
 have hfit:¬(!Builtin.List.listFitsIndex k)=true:=by
  rw[fitsIndex_both h1 h2];exact gZ
 have hlong:¬Builtin.List.listTooLong (its.toArray.size*k.toNat)=true:=by
  rw[JK hlen];exact gZ
 have hnew:List.foldl (λx1 x2=>x1++x2) #[] (List.replicate (if its.toArray.isEmpty=true then 0 else k.toNat) its.toArray)=(List.replicate k.toNat its).flatten.toArray:=by
  have f0:∀m:Nat,List.foldl (λx1 x2=>x1++x2) #[] (List.replicate m its.toArray)=(List.replicate m its).flatten.toArray:=λm=>by
   have:=EW its m [];rw[List.nil_append]at this;exact this
  rw[f0];cases its with
  | nil=>simp
  | cons a r'=>rw[nZ (by simp)]
 refine wpAny_binaryOp_repeat_ref (T:="list") (U:="int") (by decide) ⟨_,e,rfl⟩ (λs'=>typeIs_int s' k t) noFill_list_mul F.fills_int_mul F.slot_int_rmul repeat_list F.slot_int_index.lookup
  (call_meets F.slot_int_rmul (typeIs_int s k t) F.entry_int_rmul (F.args_int_rmul_2 _ _) (int___rmul___int_list k t l its.toArray n)
   ⟨e,rfl,⟨_,e,rfl⟩,call_meets F.slot_list_mul ⟨_,e,rfl⟩ F.entry_list_mul (F.args_list_mul_2 _ _) (AutoListH.list___mul___list_int_3 l its.toArray n k t hfit hcap hlong) ⟨e, ?_⟩⟩)
 rw[hnew];exact⟨.ref _,_,I.lnew (t':=s.toks) (r.rep k.toNat) (by rw[YX,Nat.mul_comm];exact hz),rfl,q _ I.fresh⟩
end
section
variable{prog:Program}{w:World}{A:Around}{E:Value->Shared->Prop}{s:Shared}
set_option maxRecDepth 100000 in
end
section
variable{X:Cx}
end
end L2
namespace Att
open PySem PySem.W PySem.Calls PyProof.Rows
theorem AO{P:Params}{h:Heap} :∀(ns:List Int) (vs:List Value),WellAll P h vs (ns.map WData.int)->IntsAre vs ns:=by
 intro ns;induction ns with
 | nil=>
  intro vs w;rw[List.map_nil]at w;cases w;exact .nil
 | cons n ns ih=>
  intro vs w;rw[nE]at w;cases w with
  | cons a b=>
   cases a;exact .cons _ _ (ih _ b)
theorem PL{l:OpenLaw}{n:Nat}(hn:l.most=some n){P:Params}{h:Heap}{args:List WData}{vals:List Value}
  (hpre:l.row.toRowW.claim.pre args=true) (hwl:WellAll P h vals args) :
  ∃a vs ns,vals=[Value.ref a]/\args=[WData.list (ns.map WData.int)]/\h.get? a=some { cls:=.type "list",data:=.seq vs.toArray }/\IntsAre vs ns/\ns.length<=n:=by
 have hsh:WShape.hasAll [] args [.list .int]=true:=(pre_splitW hpre).1;have hc:l.pre.holds [] { args:=args } = true:=(pre_splitW hpre).2;obtain⟨d,r,rfl,h1,h2⟩:=hasAllW_cons hsh;obtain rfl:=hasAllW_nil h2;obtain⟨xs,rfl,h3⟩:=hasW_list h1;obtain⟨ns,rfl⟩:=items_int h3;have hlen:ns.length<=n:=by
  unfold OpenLaw.pre at hc;have h4:(WTm.not (.lt (.lit (.int (n:Int))) (.len (.arg 0)))).holds [] { args:=[.list (ns.map .int)] } = true:=by
   have h4:=(holds_andW hc).1;rw[hn]at h4;exact h4
  have h5:=condW_of h4 (w_not (w_lt w_lit (w_len_list (w_arg rfl))));rw[mS]at h5;refine Nat.le_of_not_lt λq=>?_;have q':(n:Int)<((ns.length:Nat):Int):=by omega
  first
   | (rw[mX q']at h5;exact absurd h5 (by decide))
   | (simp at h5;omega)
 cases hwl with
 | cons w1 w2=>
  cases w2;cases w1 with
  | list ho hall=>exact⟨_,_,ns,rfl,rfl,ho,AO ns _ hall,hlen⟩
theorem PV(l:OpenLaw)(args:List WData):l.row.toRowW.claim.post args (.bool true) args=true:=
 postW_of (r:=l.row.toRowW) (X:=(true==true))
  (show WShape.has [] (.bool true) .bool=true by first | rfl | decide | simp [WShape.has,WShape.arms,WShape.armsAll])
  (show(WTm.eq .res (.lit (.bool true))).value [] { args:=args,res:=some (.bool true),after:=args } = some (.bool (true==true))from w_eq_bool (w_res rfl) w_lit) rfl
theorem attach_call{l:OpenLaw}{n:Nat}{q:Program}{loose:List Str}{XP:(Str->Option Value)->Heap->Prop}{YP:World->Heap->Prop}{d:DefRec}
  (hn:l.most=some n) (hdf:d.params.defaults=[])
  (call:∀(w:World) (s₀ s₁:Shared) (mg mb:Str->Option Value) (fa:Addr) (o:Obj) (pm cd doc:Value) (a:Addr) (vs:List Value) (ns:List Int),
   Ground q loose [] XP w s₀ mg mb s₁.heap->YP w s₁.heap->
   s₁.heap.get? fa=some o->o.data=.func (docDef d.name d.params d.body d.scope pm cd doc)->s₁.heap.CodeRec cd d.name->mg d.name=some (.ref fa)->
   s₁.heap.get? a=some { cls:=.type "list",data:=.seq vs.toArray }->IntsAre vs ns->ns.length<=n->s₁.gens = #[]->
   codeAny (model l.prog w) callerA (.call (.ref fa) ⟨[.ref a],[]⟩) (λr s'=>r=.ok (.ret (.bool true))/\OldK s₁.heap s'.heap/\s'.os=s₁.os/\AllBare s'.gens) s₁) :
  WalkO q loose XP YP l.row.toRowW d [] (λf vs=>PySem.call f vs):=by
 intro w s₀ s₁ mg mb G Y fa o pm cd doc dV kV ho hd hcd hD hmg hg args vals as hpre hlay hrd hwl hlo;obtain rfl:dV=.none:=Dflts.none hD hdf;obtain rfl:kV=.none:=Dflts.noKw hD;obtain⟨a,vs,ns,rfl,rfl,hobj,hints,hlen⟩:=PL hn hpre hwl;refine enter_call (codeAny_mono (call w s₀ s₁ mg mb fa o pm cd doc a vs ns G Y ho (fd_plain hd) hcd hmg hobj hints hlen hg) λr s' hq=>?_);obtain⟨rfl,h2,h3,h4⟩:=hq;exact⟨.inl ⟨.bool true,.bool true,[],rfl,λ_=>rfl,.bool true,PV l _,λ_=>⟨List.Pairwise.nil,λ_ hm=>(nomatch hm)⟩⟩,h2,h3,h4⟩
section
variable{prog:Program}{w:World}{A:Around}{E:Value->Shared->Prop}{s:Shared}{K:Frag}
end
end Att
namespace L2
open PySem PySem.Spec PyProof.Rows
theorem EA:∀{vs:List Value} {ns:List Int},IntsAre vs ns->Vals (ns.map V.int) vs
 | _,_,.nil=>.nil
 | _,_,.cons n t h=>.cons ⟨t,rfl⟩ (EA h)
def Only(H:Hp):Prop:=∀b,H b=none∨∃o xs,H b=some (.frz o (.lst xs))
theorem VG{P:Program}{w:World}{K:tF}{mg mb:Str->Option Value}{CX:CXT}{k:Nat}{fa a:Addr}{fd:FuncData}{x:Str}{sp:Sp}{s₁:Shared}{vs:List Value}{ns:List Int}
  (KX:K.In s₁.heap) (hns:s₁.heap.Ns mainGlobals mg) (hb:s₁.heap.Ns builtinsNs mb) (hbb:∀x:Str,x≠"__name__"->mb x=bootBuiltins x) (hlim:s₁.heap.NoLimit) (hg:s₁.gens = #[])
  (ha:s₁.heap.get? a=some { cls:=.type "list",data:=.seq vs.toArray }) (hi:IntsAre vs ns) (hl:ns.length<=sizeLine) (hr:Room k callerA)
  (F:∀base:Heap,K.In base->base.Ns mainGlobals mg->FnOk P w K mg base CX k fa fd [x] sp) (hbind:∀(s:Shared) (u:Value),BindsTo s fd ⟨[u],[]⟩ [(x,u)])
  (hsp:∀H:Hp,Only H->SqL K H a (ns.map V.int)->sp [.ref a] H (λv _=>v=.bl true) λ_ _ _=>False)
  (hCX:∀H e s',CX [] H s₁ (λ_ _ _=>False) e s'->False) :
  codeAny (model P w) callerA (.call (.ref fa) ⟨[.ref a],[]⟩) (λr s'=>r=.ok (.ret (.bool true))/\OldK s₁.heap s'.heap/\s'.os=s₁.os/\AllBare s'.gens) s₁:=by
 have rv:=EA hi;have lenV:=hi.length;have core:∀H:Hp,Only H->SqL K H a (ns.map V.int)->HOk P w H s₁.heap->(∀b,H b≠none->b=a)->(H a≠none->K.lookup a=none)->
   codeAny (model P w) callerA (.call (.ref fa) ⟨[.ref a],[]⟩) (λr s'=>r=.ok (.ret (.bool true))/\OldK s₁.heap s'.heap/\s'.os=s₁.os/\AllBare s'.gens) s₁:=by
  intro H hO hS hok hA hK;have base_of:∀{b:Addr} {o:Obj},s₁.heap.get? b=some o->H b=none->(HV s₁.heap H).get? b=some o:=λe n=>VM e n;have noA:∀{b:Addr} {o:Obj} {es:Array DictEntry} {ep:Nat},s₁.heap.get? b=some o->o.data=.dict es ep->H b=none:=fun {b o es ep} e d=>by
   cases q:H b with
   | none=>rfl
   | some u=>
    have e':b=a:=hA b (by rw[q];simp);subst e';rw[ha]at e;cases e;have d':Data.seq vs.toArray _=Data.dict es ep:=d;cases d'
  have nsK:∀{b:Addr} {m:Str->Option Value},s₁.heap.Ns b m->(HV s₁.heap H).Ns b m:=fun {b m} ⟨o,es,ep,e,d,r⟩=>⟨o,es,ep,base_of e (noA e d),d,r⟩;have hKb:K.In (HV s₁.heap H):=λb o e=>base_of (KX b o e) (by
   cases q:H b with
   | none=>rfl
   | some u=>
    have e':b=a:=hA b (by rw[q];simp);subst e';rw[hK (by rw[q];simp)]at e;cases e)
  have hM:Mod K mg (HV s₁.heap H):=⟨hKb,nsK hns,⟨mb,nsK hb,hbb⟩,let ⟨mc,h1,h2⟩:=hlim;⟨mc,nsK h1,h2⟩⟩;have e0:Env0 P w K mg (HV s₁.heap H) callerA [] s₁ H:=⟨rfl,hM,λb o e=>YN e,Nat.le_of_eq (QR _ _),trivial,λb hb=>absurd (show b∈([]:List Addr)from hb) (by simp),hok,.of_eq hg⟩;refine codeAny_mono ((F _ hKb (nsK hns)).run callerA [] s₁ H ⟨[.ref a],[]⟩ [.ref a] [.ref a] _ _ hr e0 (hbind s₁ (.ref a)) (.cons rfl .nil) (hsp H hO hS)) λr s' h=>?_;cases r with
  | error e=>exact(hCX H e s' h).elim
  | ok fl=>
   cases fl with
   | next=>exact False.elim h
   | brk=>exact False.elim h
   | cont=>exact False.elim h
   | ret u=>
    obtain⟨v,H',os,bare,un,hok',r',q⟩:=h;have q':v=.bl true:=q;subst q';obtain rfl:u=Value.bool true:=r';refine⟨rfl,OldK.of_keep λb o e=>?_,os,bare⟩;cases q:H b with
    | none=>exact un.keep b o e q (by intro z;exact absurd (show b∈([]:List Addr)from z) (by simp)) (by simp)
    | some u=>
     rcases hO b with z | ⟨ob,xs,z⟩
     ·rw[q]at z;cases z
     ·have z2:=un.frzs b ob _ z;obtain⟨e1,_⟩:=hok b _ z;obtain⟨e2,_⟩:=hok' b _ z2;rw[e]at e1;cases e1;exact e2
 cases hk:K.lookup a with
 | some o=>
  have e:=KX a o hk;rw[ha]at e;cases e;refine core (λ_=>none) (λ_=>.inl rfl) (.inr ⟨_,vs.toArray,_,hk,rfl,rfl,rfl,by rw[mD,lenV];exact hl,by simpa using rv⟩) (λb u z=>by have z':(none:Option HO)=some u:=z;cases z') (λb z=>absurd rfl z) λz=>absurd rfl z
 | none=>
  refine core (λb=>if b=a then some (.frz { cls:=.type "list",data:=.seq vs.toArray } (.lst (ns.map V.int)))else none) (λb=>?_) (.inl (.inr ⟨{ cls:=.type "list",data:=.seq vs.toArray },tD rfl⟩)) (λb u z=>?_) (λb z=>?_) λ_=>hk
  ·by_cases hb:b=a
   ·exact .inr ⟨_,_,tD hb⟩
   ·exact .inl (nZ hb)
  ·by_cases hb:b=a
   ·have z':=(tD hb).symm.trans z;cases z';subst hb;exact⟨ha,by rw[mS];exact hl,vs,_,rv,ha⟩
   ·have z':=(nZ hb).symm.trans z;cases z'
  ·by_cases hb:b=a
   ·exact hb
   ·exact absurd (nZ hb) z
theorem WU{l:PySem.W.OpenLaw}{n k:Nat}{q:Program}{loose:List Str}{XP:(Str->Option Value)->Heap->Prop}{YP:World->Heap->Prop}{d:DefRec}{K:Params->tF}{CX:World->CXT}{sp:World->Sp}{x:Str}
  (hn:l.most=some n) (hn2:n<=sizeLine) (hdf:d.params.defaults=[]) (hr:Room k callerA)
  (hY:∀(w:World) (h:Heap),YP w h->(K w.params).In h)
  (F:∀(w:World) (mg:Str->Option Value) (fa:Addr) (h:Heap),(K w.params).In h->h.Ns mainGlobals mg->mg d.name=some (.ref fa)->
   ∃fd:FuncData,(∀(s:Shared) (u:Value),BindsTo s fd ⟨[u],[]⟩ [(x,u)])/\
    ∀base:Heap,(K w.params).In base->base.Ns mainGlobals mg->FnOk l.prog w (K w.params) mg base (CX w) k fa fd [x] (sp w))
  (hsp:∀(w:World) (H:Hp) (a:Addr) (ns:List Int),ns.length<=n->Only H->SqL (K w.params) H a (ns.map V.int)->sp w [.ref a] H (λv _=>v=.bl true) λ_ _ _=>False)
  (hCX:∀(w:World) (H:Hp) (s:Shared) (e:Value) (s':Shared),CX w [] H s (λ_ _ _=>False) e s'->False) :
  PySem.W.WalkO q loose XP YP l.row.toRowW d [] (λf vs=>PySem.call f vs):=by
 refine Att.attach_call hn hdf λw s₀ s₁ mg mb fa o pm cd doc a vs ns G Y ho hd hcd hmg hobj hints hlen hg=>?_;have KX:=hY w _ Y;obtain⟨fd,hb,hF⟩:=F w mg fa _ KX G.T.g hmg;exact VG KX G.T.g G.T.b G.T.builtins G.T.nolimit hg hobj hints (nL hlen hn2) hr hF hb (λH hO hS=>hsp w H a ns hlen hO hS) λH e s'=>hCX w H s₁ e s'
abbrev CX0:CXT:=λ_ _ _ _ _ _=>False
abbrev E0:XK:=λ_ _ _=>False
theorem jM{X:Cx} :Passes CX0 X E0:=λ_ _ _ _ _ _ _ h=>h.elim
structure Fun(K:tF)(x qual:Str)(st:Stmt)(f:Addr)(fd:FuncData):Prop where
 ex:∃(oc:Value) (od:Option Addr) (kV doc pm:Value) (an:Option Addr) (cdv ct:Value) (osl:Array (Option Value)),
  fd=PySem.W.fnOf x qual (xT st) (xB st) (jL st) .none kV doc pm an cdv ct/\K.lookup f=some ⟨oc,od,.func fd,osl⟩/\PySem.W.codeIn K cdv qual=true
 kp:PySem.W.keepIn K (.ref f)=true
section
variable{P:Program}{w:World}{K:tF}{mg:Str->Option Value}{base:Heap}
theorem Fun.ok{x qual:Str}{st:Stmt}{f:Addr}{fd:FuncData}{N ps:List Str}{k:Nat}{sp:Sp}(F:Fun K x qual st f fd)(S:FnScope N ps (jL st))(len:∀vs H Q E,sp vs H Q E->vs.length=ps.length)
  (hbody:∀(cdv:Value) (A:Around) (outer:List Env) (s:Shared) (H:Hp) (vs:List V) (Q:VK) (E:XK),Room k (A.deeper (envOfC qual (jL st) s.heap.objs.size f cdv))->sp vs H Q E->
   ∃t,PSs (QZ CX0 P w K mg base N qual (jL st) f cdv A outer s H E).nox (xB st) t/\t { nx:=λ_ H'=>Q .non H',rt:=Q } (start N vs) H):FnOk P w K mg base CX0 (k+1) f fd ps sp:=by
 obtain⟨oc,od,kV,doc,pm,an,cdv,ct,osl,rfl,lk,hcd⟩:=F.ex;refine fn_of lk hcd S len λA outer s H vs Q E hr hsp=>?_;obtain⟨t,h,q⟩:=hbody cdv A outer s H vs Q E hr hsp;exact⟨t,h.nox,q⟩
theorem Fun.binds{x qual:Str}{st:Stmt}{f:Addr}{fd:FuncData}{ps:List Str}(F:Fun K x qual st f fd)
  (h:∀(kV doc pm:Value) (an:Option Addr) (cdv ct:Value) (us:List Value),us.length=ps.length->bindArgs (PySem.W.fnOf x qual (xT st) (xB st) (jL st) .none kV doc pm an cdv ct) ⟨us,[]⟩=pure (ps.zip us)):Binds K fd ps []:=by
 obtain⟨oc,od,kV,doc,pm,an,cdv,ct,osl,rfl,lk,hcd⟩:=F.ex;exact .all (h kV doc pm an cdv ct)
theorem LZ{x qual:Str}{st:Stmt}{f:Addr}{oc:Value}{od an:Option Addr}{osl:Array (Option Value)}{kV doc pm cdv ct:Value}(l:K.lookup f=some ⟨oc,od,.func (PySem.W.fnOf x qual (xT st) (xB st) (jL st) .none kV doc pm an cdv ct),osl⟩)
  (c:PySem.W.codeIn K cdv qual=true) (k:PySem.W.keepIn K (.ref f)=true):Fun K x qual st f (PySem.W.fnOf x qual (xT st) (xB st) (jL st) .none kV doc pm an cdv ct):=⟨⟨oc,od,kV,doc,pm,an,cdv,ct,osl,rfl,l,c⟩,k⟩
end
section
variable{X:Cx}
theorem pv(i:Nat){x:Str}{pos:Pos}(hN:X.N[i]? = some x:=by rfl)(hv:Vis X.env.scope x:=by first | exact Or.inl rfl | exact Or.inr (Or.inl rfl) | exact Or.inr (Or.inr rfl))(hd:(x==("__debug__" :Str))=false:=by decide)
  (hcd:(x==("__classdict__" :Str))=false:=by decide):PE X (.Name x pos) (qJ i):=pe_var hN hv hd hcd
end
theorem vW{A B:Prop}(h:B):if false=true then A else B:=by
 rw[nZ gZ];exact h
theorem kI{A B:Prop}(h:A):if true=true then A else B:=by
 rw[tD rfl];exact h
theorem AN{c A B:Prop} [Decidable c](h1:c->A)(h2:¬c->B):if c then A else B:=by
 by_cases h:c
 ·rw[tD h];exact h1 h
 ·rw[nZ h];exact h2 h
def Same(H H':Hp):Prop:=∀b o,H b=some o->H' b=some o
theorem Same.refl(H:Hp):Same H H:=λ_ _ h=>h
theorem Same.trans{H H1 H2:Hp}(a:Same H H1)(b:Same H1 H2):Same H H2:=λc o h=>b c o (a c o h)
theorem Same.free{H H':Hp}(e:Same H H'){l:Addr}(h:H' l=Option.none):H l=Option.none:=by
 cases q:H l with
 | none=>rfl
 | some o=>
  rw[e l o q]at h;cases h
end L2
namespace LwM
theorem qQ{a b c:Int}(h:Int.gcd a b=1)(d:c∣b):Int.gcd a c=1:=by
 have:=Int.gcd_dvd_gcd_of_dvd_right a d;rw[h]at this;exact Nat.eq_one_of_dvd_one this
theorem yS{a b c:Int}(h:Int.gcd a b=1)(d:c∣a):Int.gcd c b=1:=by
 rw[Int.gcd_comm]at h ⊢;exact qQ h d
theorem ZQ{t b o u:Int}(hb:0<b)(hu:0<u)(g1:Int.gcd t b=1)(g2:Int.gcd o u=1) :
  (t*(u/(Int.gcd b u:Int))+o*(b/(Int.gcd b u:Int)))/(Int.gcd (t*(u/(Int.gcd b u:Int))+o*(b/(Int.gcd b u:Int))) (Int.gcd b u):Int)=(t*u+o*b)/(Int.gcd (t*u+o*b) (b*u):Int)/\
  (b/(Int.gcd b u:Int))*(u/(Int.gcd (t*(u/(Int.gcd b u:Int))+o*(b/(Int.gcd b u:Int))) (Int.gcd b u):Int))=(b*u)/(Int.gcd (t*u+o*b) (b*u):Int):=by
 have sp:0<Int.gcd b u:=Int.gcd_pos_of_ne_zero_left _ (by omega);have c1:Int.gcd (b/(Int.gcd b u:Int)) (u/(Int.gcd b u:Int))=1:=Int.gcd_ediv_gcd_ediv_gcd sp;have d1:(Int.gcd b u:Int)∣b:=mQ ..;have d2:(Int.gcd b u:Int)∣u:=mI ..;have e1:(Int.gcd b u:Int)*(b/(Int.gcd b u:Int))=b:=Int.mul_ediv_cancel' d1;have e2:(Int.gcd b u:Int)*(u/(Int.gcd b u:Int))=u:=Int.mul_ediv_cancel' d2;have sp':(0:Int)<(Int.gcd b u:Int):=by omega
 generalize hs:(Int.gcd b u:Int)=s at *;generalize hb':b/s=b' at *;generalize hu':u/s=u' at *;generalize hT:t*u'+o*b'=T at *;have v1:b'∣b:=⟨s,by rw[nP];exact e1.symm⟩;have v2:u'∣u:=⟨s,by rw[nP];exact e2.symm⟩;have x1:t*u+o*b=s*T:=by
  rw[<-hT,Int.mul_add,<-nH,<-nH,nP s t,nP s o,nH,nH,e1,e2]
 have x2:b*u=s*(b'*u):=by rw[<-nH,e1]
 have x3:b'*u=s*b'*u':=by rw[nP s b',nH,e2]
 have y1:Int.gcd T b'=1:=by
  rw[<-hT,Int.gcd_add_mul_right_left,Int.gcd_mul_right_left_of_gcd_eq_one (qQ g1 v1),Int.gcd_comm];exact c1
 have y2:Int.gcd T u'=1:=by
  rw[<-hT,Int.add_comm,Int.gcd_add_mul_right_left,Int.gcd_mul_right_left_of_gcd_eq_one (qQ g2 v2)];exact c1
 have z:Int.gcd T (b'*u)=Int.gcd T s:=by
  rw[x3,Int.gcd_mul_left_right_of_gcd_eq_one y2,Int.gcd_mul_left_right_of_gcd_eq_one y1]
 have g:(Int.gcd (t*u+o*b) (b*u):Int)=s*(Int.gcd T s:Int):=by
  rw[x1,x2,Int.gcd_mul_left,z,Int.natCast_mul,Int.natAbs_of_nonneg (by omega)]
 rw[g];refine⟨?_, ?_⟩
 ·rw[x1,Int.mul_ediv_mul_of_pos _ _ sp']
 ·rw[x2,Int.mul_ediv_mul_of_pos _ _ sp'];exact(Int.mul_ediv_assoc _ (Int.dvd_trans (mI ..) d2)).symm
theorem YS{t b o u:Int}(hb:0<b)(hu:0<u)(g1:Int.gcd t b=1)(g2:Int.gcd o u=1) :
  (t/(Int.gcd t u:Int))*(o/(Int.gcd o b:Int))=(t*o)/(Int.gcd (t*o) (b*u):Int)/\
  (b/(Int.gcd o b:Int))*(u/(Int.gcd t u:Int))=(b*u)/(Int.gcd (t*o) (b*u):Int):=by
 have fp:0<Int.gcd t u:=Int.gcd_pos_of_ne_zero_right _ (by omega);have sp:0<Int.gcd o b:=Int.gcd_pos_of_ne_zero_right _ (by omega);have c1:=Int.gcd_ediv_gcd_ediv_gcd fp;have c2:=Int.gcd_ediv_gcd_ediv_gcd sp;have e1:(Int.gcd t u:Int)*(t/(Int.gcd t u:Int))=t:=Int.mul_ediv_cancel' (mQ ..);have e2:(Int.gcd t u:Int)*(u/(Int.gcd t u:Int))=u:=Int.mul_ediv_cancel' (mI ..);have e3:(Int.gcd o b:Int)*(o/(Int.gcd o b:Int))=o:=Int.mul_ediv_cancel' (mQ ..);have e4:(Int.gcd o b:Int)*(b/(Int.gcd o b:Int))=b:=Int.mul_ediv_cancel' (mI ..);have fp':(0:Int)<(Int.gcd t u:Int):=by omega
 have sp':(0:Int)<(Int.gcd o b:Int):=by omega
 generalize (Int.gcd t u:Int)=f at *;generalize (Int.gcd o b:Int)=s at *;generalize t/f=t' at *;generalize u/f=u' at *;generalize o/s=o' at *;generalize b/s=b' at *;have v1:t'∣t:=⟨f,by rw[nP];exact e1.symm⟩;have v2:u'∣u:=⟨f,by rw[nP];exact e2.symm⟩;have v3:o'∣o:=⟨s,by rw[nP];exact e3.symm⟩;have v4:b'∣b:=⟨s,by rw[nP];exact e4.symm⟩;have x1:t*o=(f*s)*(t'*o'):=by
  rw[<-e1,<-e3];simp only[nH,Int.mul_left_comm,nP]
 have x2:b*u=(f*s)*(b'*u'):=by
  rw[<-e2,<-e4];simp only[nH,Int.mul_left_comm,nP]
 have n1:Int.gcd (t'*o') b'=1:=by
  rw[Int.gcd_mul_right_left_of_gcd_eq_one (yS (qQ g1 v4) v1)];exact c2
 have n2:Int.gcd (t'*o') u'=1:=by
  rw[Int.gcd_mul_right_left_of_gcd_eq_one c1];exact yS (qQ g2 v2) v3
 have n3:Int.gcd (t'*o') (b'*u')=1:=by
  rw[Int.gcd_mul_right_right_of_gcd_eq_one n1];exact n2
 have fs:(0:Int)<f*s:=nS fp' sp';have g:(Int.gcd (t*o) (b*u):Int)=f*s:=by
  rw[x1,x2,Int.gcd_mul_left,n3,Nat.mul_one,Int.natAbs_of_nonneg (by omega)]
 rw[g,x1,x2,Int.mul_ediv_cancel_left _ (by omega),Int.mul_ediv_cancel_left _ (by omega)];exact⟨rfl,rfl⟩
theorem JY(a b:Int):Int.gcd b (a%b)=Int.gcd a b:=by
 rw[Int.emod_def,nP b,Int.gcd_sub_mul_right_right,Int.gcd_comm]
theorem qW(a b:Int)(h:0<b):(1:Int)<=(Int.gcd a b:Int):=by
 have:0<Int.gcd a b:=Int.gcd_pos_of_ne_zero_right _ (by omega);omega
theorem gcd_le(a b:Int)(h:0<b):(Int.gcd a b:Int)<=b:=Int.le_of_dvd h (mI a b)
theorem uC(t g:Int)(h:1<=g):(t/g).natAbs<=t.natAbs:=by
 rcases Int.lt_or_le t 0 with n | n
 ·have h1:t/g<0:=Int.ediv_neg_of_neg_of_pos n (by omega);have h2:t<=t/g:=by
   rw[Int.le_ediv_iff_mul_le (by omega)];have:=Int.mul_le_mul_of_nonpos_left (a:=t) (b:=g) (c:=1) (by omega) h;omega
  omega
 ·have h1:0<=t/g:=Int.ediv_nonneg n (by omega);have h2:t/g<=t:=Int.ediv_le_self g n;omega
theorem log2_lt{n:Nat}{k:Nat}(hk:0<k)(h:n<2^k):n.log2<k:=by
 by_cases e:n=0
 ·subst e;simpa using hk
 ·exact(Nat.log2_lt e).mpr h
end LwM
namespace Lw
open PySem PySem.Spec PyProof.Rows L2
inductive Kd where
 | non | bl | int | str | lst | tup
 deriving DecidableEq
def Kd.ty:Kd->String
 | .non=>"NoneType" | .bl=>"bool" | .int=>"int" | .str=>"str" | .lst=>"list" | .tup=>"tuple"
inductive KdOf(H:Hp):V->Kd->Prop where
 | non:KdOf H .non .non
 | bl (b:Bool):KdOf H (.bl b) .bl
 | int (i:Int):KdOf H (.int i) .int
 | str (x:Str):KdOf H (.str x) .str
 | lst {a:Addr} {xs:List V} (e:H a=some (.lst xs)):KdOf H (.ref a) .lst
 | tup {a:Addr} {xs:List V} (e:H a=some (.tup xs)):KdOf H (.ref a) .tup
theorem KdOf.ty{K:tF}{H:Hp}{v:V}{k:Kd}(h:KdOf H v k):TyOf K H v (.type k.ty):=by
 cases h with
 | non=>exact .non
 | bl b=>exact .bl b
 | int i=>exact .int i
 | str x=>exact .str x
 | lst e=>exact .lst e
 | tup e=>exact .tup e
def Kd.isInt:Kd->Bool
 | .int=>true | .bl=>true | _=>false
def Kd.isBool:Kd->Bool
 | .bl=>true | _=>false
def Kd.isTup:Kd->Bool
 | .tup=>true | _=>false
def Isi(T:String)(f:Kd->Bool):Prop:=∀(K:tF) (k:Kd),PySem.W.kitOne K (.type k.ty) (.type T)=some (f k)
theorem OJ:Isi "int" Kd.isInt:=λK k=>by cases k<;>rfl
theorem JX:Isi "bool" Kd.isBool:=λK k=>by cases k<;>rfl
theorem wY:Isi "tuple" Kd.isTup:=λK k=>by cases k<;>rfl
section
variable{X:Cx}
def rIsi(T:String)(f:Kd->Bool):List V->Hp->VK->Prop:=λxs H Q=>match xs with
 | [x,y]=>y=.ty T/\∃k,KdOf H x k/\Q (.bl (f k)) H
 | _=>False
theorem WO{T:String}{f:Kd->Bool}(hf:Isi T f):CallR X (.builtin "isinstance") (rIsi T f):=by
 intro ac s σ H xs us Q I r h
 match xs,h with
 | [x,y],h=>
  obtain⟨rfl,k,ty,q⟩:=h;obtain⟨u,w',rfl,ru,rw'⟩:=vals2 r;cases (show w'=Value.type T from rw');exact QP I ru (ty.ty) (hf X.K k) λtk=>⟨.bl (f k),H,I.tok tk,rfl,q⟩
theorem yM{T:String}{f:Kd->Bool}{x:Str}{e:Expr}{te:TE}{p p2 pos:Pos}(hf:Isi T f)(hm:X.mg "isinstance" = none)(hm2:X.mg x=none)(hb:bootBuiltins x=some (.type T))(he:PE X e te)
  (hg:Gl X "isinstance":=by rfl) (hg2:Gl X x:=by rfl) (hn:x≠"__name__":=by decide) (hd:(x==("__debug__" :Str))=false:=by decide)
  (hs:starEach [e,.Name x p2] X.env=(false,eval e X.env)::starEach [.Name x p2] X.env:=by rfl) (hs2:starEach [.Name x p2] X.env=(false,eval (.Name x p2) X.env)::starEach [] X.env:=by rfl)
  (hpl:(backTo pos (starEach [.Name x p2] X.env)).any (·.1)=false:=by rfl):PE X (.Call (.Name "isinstance" p) [e,.Name x p2] [] pos) (tCB (rIsi T f) (kP te (kP (tC (.ty T)) tNil))):=
 kN (X:=X) (p:=p) (pos:=pos) (WO hf) hg hm boot_isinstance (jA he (jA (YB (v:=.ty T) hg2 hm2 hb rfl hn hd) jB hs2) hs) (by decide) (by decide) hs hpl
theorem xK:∀{vs:List Value} {ns:List Int} {j:Nat} (_:IntsAre vs ns) (h:j<vs.length),∃n t,ns[j]? = some n/\vs[j]=.int n t
 | _,_,_,.nil,h=>absurd h (Nat.not_lt_zero _)
 | _,_,0,.cons n t _,_=>⟨n,t,rfl,rfl⟩
 | _,_,j+1,.cons _ _ r,h=>by
  obtain⟨n,t,e1,e2⟩:=xK (j:=j) r (by simpa using h);exact⟨n,t,by simpa using e1,by simpa using e2⟩
theorem vH:∀{vs:List Value} {ns:List Int},IntsAre vs ns->vs.length=ns.length
 | _,_,.nil=>rfl
 | _,_,.cons _ _ r=>by simp [vH r]
def CDivL(_ j:Int):Prop:=0<j/\j.natAbs<2^8000
theorem vF:OpR X (binaryOp .FloorDiv) (rI CDivL λi j=>.int (i/j)):=opI λi j _ _ _ _ _ hc q=>by
 refine floordiv_int (by have:=hc.1;omega) ?_ (.inl (PyProof.noPylong_of_log2 (hJ (LwM.log2_lt (by decide) hc.2) (by decide))));rw[Int.fdiv_eq_ediv_of_nonneg _ (Int.le_of_lt hc.1)];exact q
def CMulL(i j:Int):Prop:=i.natAbs<2^100000/\j.natAbs<2^100000
theorem kZ:OpR X (binaryOp .Mult) (rI CMulL λi j=>.int (i*j)):=opI λ_ _ _ _ _ _ _ hc q=>mul_int q (IntMulOk.of_bits (nL (PySem.intBits_le_iff.mpr hc.1) (by decide)) (nL (PySem.intBits_le_iff.mpr hc.2) (by decide)))
end
theorem xO{c:Bool}{A B:Prop}(h:c=true)(a:A):if c=true then A else B:=by
 rw[tD h];exact a
theorem vI{c:Bool}{A B:Prop}(h:c=false)(b:B):if c=true then A else B:=by
 subst h;exact vW b
def But(p:Addr)(H H':Hp):Prop:=∀c o,H c=some o->c≠p->H' c=some o
theorem jN{H:Hp}{p:Addr}(o:HO)(n:H p=none):Same H (upd H p o):=λb q e=>by
 rw[jH (kG e n)];exact e
def New(H:Hp)(o:HO)(Q:VK):Prop:=∀p H',H p=none->Same H H'->H' p=some o->Q (.ref p) H'
theorem New.at{H:Hp}{o:HO}{Q:VK}(h:New H o Q){p:Addr}(n:H p=none):Q (.ref p) (upd H p o):=h p _ n (jN o n) jD
section
variable{X:Cx}{es:List Expr}{t:TA}{pos:Pos}
def BR(t:TA):TE:=fun σ H Q=>t σ H λxs H1=>xs.length<=sizeLine/\New H1 (.tup xs) Q
def BS(t:TA):TE:=fun σ H Q=>t σ H λxs H1=>xs.length<=sizeLine/\New H1 (.lst xs) Q
theorem jS{x1}(h:PA X es t):PE X (.Tuple es x1 pos) (BR t):=by
 intro ac s σ H Q I hq;refine wpAny_Tuple_spliced (thn (h pos ac s σ H _ I hq) λus s1 ⟨xs,H1,I1,r,z,q⟩=>⟨by rw[<-r.length];exact z, ?_⟩);have hf:H1 s1.heap.objs.size=none:=I1.hok.fresh gA ;refine⟨.ref s1.heap.objs.size,upd H1 s1.heap.objs.size (.tup xs),I1.laid (t':=s1.toks) (λb u e=>gL _ e) gA ?_,rfl,q.at hf⟩;exact⟨z,us,r,⟨_,gW _ rfl,rfl,_,rfl⟩,.of (gW _ rfl) rfl⟩
theorem qC(h:PA X es t):PE X (.List es pos) (BS t):=by
 intro ac s σ H Q I hq;refine wpAny_List_spliced (thn (h pos ac s σ H _ I hq) λus s1 ⟨xs,H1,I1,r,z,q⟩=>⟨by rw[<-r.length];exact z, ?_⟩);have hf:H1 s1.heap.objs.size=none:=I1.hok.fresh gA ;refine⟨.ref s1.heap.objs.size,upd H1 s1.heap.objs.size (.lst xs),I1.laid (t':=s1.toks) (λb u e=>gL _ e) gA ?_,rfl,q.at hf⟩;exact⟨z,us,0,r,gW _ rfl⟩
theorem opr_of{f:Value->Value->Sem Value}{r r':R2}(h:OpR X f r)(i:∀x y H Q,r' x y H Q->r x y H Q):OpR X f r':=
 λac s σ H x y v u Q I rx ry q=>h ac s σ H x y v u Q I rx ry (i x y H Q q)
theorem slr_of{r r':V->Option Int->Option Int->Hp->VK->Prop}(h:SlR X r)(i:∀x a b H Q,r' x a b H Q->r x a b H Q):SlR X r':=
 λac s σ H x v vl vu lo hi sl Q I rx hs pl pu q=>h ac s σ H x v vl vu lo hi sl Q I rx hs pl pu (i x lo hi H Q q)
def rCatF:R2:=λx y H Q=>∃l b xs zs,x=.ref l/\y=.ref b/\H l=some (.lst xs)/\H b=some (.lst zs)/\xs.length+zs.length<=sizeLine/\New H (.lst (xs++zs)) Q
theorem BE:OpR X (binaryOp .Add) rCatF:=opr_of op_cat λx y H Q ⟨l,b,xs,zs,e1,e2,h1,h2,h3,q⟩=>⟨l,b,xs,zs,e1,e2,h1,h2,h3,λp n=>q.at n⟩
def rSlLF(K:tF):V->Option Int->Option Int->Hp->VK->Prop:=λx lo hi H Q=>∃a xs,x=.ref a/\SqL K H a xs/\New H (.lst (vN xs lo hi)) Q
theorem SR:SlR X (rSlLF X.K):=slr_of MZ λx a b H Q ⟨p,xs,e,h1,q⟩=>⟨p,xs,e,h1,λp n=>q.at n⟩
end
section
variable{prog:Program}{w:World}{A:Around}{R:Result->Shared->Prop}{s:Shared}
theorem xC{elt target iter:Expr}{scope:Scope}{pos:Pos}{it acc:Value}{env:Env}(I:Nat->Shared->Prop)
  (turn:∀n s,I n s->wpAny (model prog w) A (pyNext it) (λr s₁=>match r with
   | none=>R (.ok .next) s₁
   | some v=>wpAny (model prog w) A (letOwnedTupleGo target it v) (λ_ s₁'=>wpAny (model prog w) A (assign target env v) (λ_ s₂=>wpAny (model prog w) A (eval elt env) (λx s₃=>
     wpAny (model prog w) A (call (.builtin "list.append") [acc,x]) (λ_ s₄=>∃m,m<n/\I m s₄) (notedBy (model prog w) A env λe s'=>R (.error e) s') s₃)
     (notedBy (model prog w) A env λe s'=>R (.error e) s') s₂) (notedBy (model prog w) A env λe s'=>R (.error e) s') s₁') (notedBy (model prog w) A env λe s'=>R (.error e) s') s₁) (notedBy (model prog w) A env λe s'=>R (.error e) s') s)
  (n:Nat) (h:I n s) :
  codeAny (model prog w) A (.compLoop (.ListComp elt [⟨target,iter,[],0⟩] scope pos) 0 it acc env) R s:=by
 refine codeAny_loop rfl I (λn s hI=>?_) n h;show wpAny _ _ ((compTurn (.ListComp elt [⟨target,iter,[],0⟩] scope pos) 0 it acc env).onRaise (λx=>do noteFrame x env;theTreesLotGoes x)) _ _ s;refine wpAny_noted ?_;rw[compTurn_list1];refine nW (wpAny_standAt (nW (nY (turn n s hI) (λr s₁ h₁=>?_) λ_ _ h'=>h')));cases r with
 | none=>exact nX h₁
 | some v=>
  refine nW (nY h₁ (λ_ s₁' h₁'=>?_) λ_ _ h'=>h');exact nW (nY h₁' (λ_ s₂ h₂=>nW (nW (nY h₂ (λx s₃ h₃=>nW (nY h₃
   (λ_ s₄ h₄=>nX (nX ⟨rfl,h₄⟩)) λ_ _ h'=>h')) λ_ _ h'=>h'))) λ_ _ h'=>h')
end
def qL(X:Cx)(N:List Str)(scope:Scope)(C:Addr)(fp:List Addr)(s2:Shared)(H2:Hp):Cx:=
 { X with N:=N,s₀:=s2,H₀:=H2,env:=compEnv scope C X.env,outer:=X.stack,stack:=X.stack,ex:=fp,fn:=λ_=>true,pn:=[],xe:=λ_ _=>False }
def CompGo(n:Nat)(J:It)(g:TG)(te:TE)(Q:VK)(p:Addr)(H':Hp):Prop:=
 ∃W:Nat->Nat->List V->Hp->Prop,(∃m,W 0 m [] H')/\∀i m ys H2,W i m ys H2->H2 p=some (.lst ys)/\ys.length<sizeLine/\
  ((J.stop i H2/\Q (.ref p) H2)∨(J.go i H2/\∀x H3,J.yld i H2 x H3->g x (List.replicate n none) H3 fun σ4 H4=>te σ4 H4 λy H5=>H5 p=some (.lst ys)/\∃m',m'<m/\W (i+1) m' (ys++[y]) (upd H5 p (.lst (ys++[y])))))
def ZX(n:Nat)(wi:TI)(g:TG)(te:TE):TE:=fun σ H Q=>wi σ H λJ H1=>∀p H',H1 p=none->Same H1 H'->H' p=some (.lst [])->CompGo n J g te Q p H'
section
variable{X:Cx}
theorem RA{ac:List (Addr×Obj)}{σ:L2.St}{H1:Hp}{s2:Shared}{N:List Str}{scope:Scope}{C:Addr}{fp:List Addr}(I:Inv X ac σ H1 s2)(hk:scope.kind=.function)
  (hn:∀x,scope.names.lookup x≠some .cell/\scope.names.lookup x≠some .free) (hC:s2.heap.objs.size<=C) (hf:∀b∈fp,FpOk X ac H1 b) (hlt:∀b∈fp,b<s2.heap.objs.size):(qL X N scope C fp s2 H1).Ok where
 mod:=I.ok.mod
 kind:=hk
 glob:=I.ok.glob
 blt:=I.ok.blt
 above:=hC
 inj:=λx y c h=>nomatch h
 has:=λx h=>h.elim (λz=>absurd z (hn x).1) (λz=>absurd z (hn x).2)
 cab:=λx c _ h=>nomatch h
 hd:=I.ok.hd
 frames:=I.ok.frames
 stk:=.inl rfl
 exf:=λb hb=>⟨nM (hJ (hlt b hb) hC),λx c h=>nomatch h⟩
 bs:=I.bs
 bsz:=nL I.ok.bsz I.sz
 noex:=λb o e hb=>by
  rcases(hf b hb).2.2.2.1 with z | z
  ·exact I.ok.noex b o e z
  ·exact absurd (hJ (nK e) (nL I.ok.bsz z)) (nG _)
 exfs:=λb hb z=>(nF.mp (I.stkSub b z)).elim (hf b hb).2.1 (hf b hb).2.2.1
 funs:=I.stack
 frf:=I.stkFree
theorem YA{N:List Str}{elt target iter:Expr}{scope:Scope}{pos:Pos}{wi:TI}{g:TG}{te:TE}(hc:X.calm=true)
  (hk:scope.kind=.function) (hn:∀x,scope.names.lookup x≠some .cell/\scope.names.lookup x≠some .free) (hfree:∀x∈scope.names,x.2≠.free) (hcell:∀x∈scope.names,x.2≠.cell) (hnames:∀x∈scope.names,x.2=.local->scope.names.lookup x.1=some .local)
  (hi:PI X target iter wi) (hg:∀C fp s2 H2,PG (qL X N scope C fp s2 H2) target g) (he:∀C fp s2 H2,PE (qL X N scope C fp s2 H2) elt te)
  (hs:∀x,foldedSetIterable iter X.env x=pure x:=by intro _;rfl):PE X (.ListComp elt [⟨target,iter,[],0⟩] scope pos) (ZX N.length wi g te):=by
 intro ac s σ H Q I h;refine wpAny_ListComp hfree hk hnames (thn (hi ac s σ H _ I h) λv s1 h1=>thn h1 λitv s2 h2=>?_) hs;obtain⟨it,fp,tn,J,H1,e,I2,T,st2,f2,hR⟩:=h2;subst e;have hlt:∀b∈fp,b<s2.heap.objs.size:=λb hb=>by
  obtain⟨o,ho,_⟩:=T.obj 0 _ st2 b hb;exact nK ho
 refine wpAny_newObj_type (wpAny_newFunctionEnv hcell (by intro y hy;simp at hy) (λh₁ hns₁ hsb₁=>?_) hk);dsimp only at hns₁ hsb₁ ⊢;generalize hHH:s2.heap.push { cls:=.type "list",dict:=none,data:=.seq ([]:List Value).toArray } = HH at hns₁ hsb₁ ⊢;have hCe:HH.objs.size=s2.heap.objs.size+1:=by rw[<-hHH,nC]
 have hDC:s2.heap.objs.size≠HH.objs.size:=by rw[hCe];exact nM (mR _)
 have hCle:s2.heap.objs.size<=HH.objs.size:=by rw[hCe];exact Nat.le_succ _
 have old:∀b o,s2.heap.get? b=some o->h₁.get? b=some o:=λb o e=>hsb₁.extBut b o (by rw[hCe];exact nM (Nat.lt_succ_of_lt (nK e))) (gL _ (hHH▸gL _ e));have hD:h₁.get? s2.heap.objs.size=some { cls:=.type "list",dict:=none,data:=.seq ([]:List Value).toArray } :=hsb₁.extBut _ _ hDC (gL _ (hHH▸gW _ rfl));have nD:H1 s2.heap.objs.size=none:=I2.hok.fresh gA ;obtain⟨W,⟨m0,w0⟩,turn⟩:=hR s2.heap.objs.size _ nD (jN (.lst []) nD) jD;have ok:=RA (N:=N) (C:=HH.objs.size) I2 hk hn hCle f2 hlt;have I4:Inv (qL X N scope HH.objs.size fp s2 H1) [] (List.replicate N.length none) (upd H1 s2.heap.objs.size (.lst [])) { s2 with heap:=h₁,toks:=s2.toks+([]:List (Str×Value)).length } :=by
  refine⟨ok,rfl,I2.bare,Un.laid old gA nD,⟨_,hns₁,λi x v _ e2 _=>?_⟩,(λx c z=>nomatch z), ?_,(λx c z=>nomatch z),(λp hp=>nomatch hp),I2.hok.laid old gA ?_,by rw[gO];rfl⟩
  ·rw[List.getElem?_replicate]at e2;split at e2<;>cases e2
  ·show(upd H1 s2.heap.objs.size (.lst [])) HH.objs.size=none;rw[jH (Ne.symm hDC)];exact I2.hok.fresh hCle
  ·exact⟨by show 0<=sizeLine;decide,[],0,.nil,hD⟩
 have stat:∀{H':Hp},(∀b∈fp,H' b=none)->∀b∈fp,FpOk (qL X N scope HH.objs.size fp s2 H1) [] H' b:=λhn b hb=>
  ⟨hn b hb,(ok.exf b hb).1,ok.exfs b hb,.inl hb,(ok.exf b hb).2,λp hp=>nomatch hp⟩
 have st4:tn 0 h₁:=T.keep _ _ _ st2 λb _ o e=>old b o e;have fr4:∀b∈fp,(upd H1 s2.heap.objs.size (.lst [])) b=none:=λb hb=>by
  rw[jH (nM (hlt b hb))];exact(f2 b hb).1
 have loop:codeAny (model X.prog X.w) X.A (.compLoop (.ListComp elt [⟨target,iter,[],0⟩] scope pos) 0 (.ref it) (.ref s2.heap.objs.size) (compEnv scope HH.objs.size X.env))
   (λr s'=>∃m,s'.heap.Ns HH.objs.size m/\∀h',Heap.SameBut HH.objs.size s'.heap h'->
      match r with | .ok _=>EP X ac σ Q (.ref s2.heap.objs.size) { s' with heap:=h' } | .error x=>wpAny (model X.prog X.w) X.A (passOn "comprehension.variables-let-go" x (compEnv scope HH.objs.size X.env)) (EP X ac σ Q) X.xe { s' with heap:=h' })
   { s2 with heap:=h₁,toks:=s2.toks+([]:List (Str×Value)).length } :=by
  refine xC (λn s'=>∃i ys H',Inv (qL X N scope HH.objs.size fp s2 H1) [] (List.replicate N.length none) H' s'/\tn i s'.heap/\(∀b∈fp,H' b=none)/\W i n ys H') ?_ m0 ⟨0,[],_,I4,st4,fr4,w0⟩;rintro n s3 ⟨i,ys,H3,I3,st3,fr3,w3⟩;obtain⟨hp3,hz3,hw⟩:=turn i n ys H3 w3;rcases hw with⟨stop,qn⟩ | ⟨go,step⟩
  ·refine thn (T.done (qL X N scope HH.objs.size fp s2 H1) rfl rfl rfl hc i [] s3 _ H3 _ I3 (stat fr3) st3 stop) λr s4 ⟨hr,I5⟩=>?_;subst hr;obtain⟨m,hm,_⟩:=id I5.loc;refine⟨m,hm,λh' sb=>⟨.ref s2.heap.objs.size,H3, ?_,rfl,qn⟩⟩;have k:∀b o,b≠HH.objs.size->s4.heap.get? b=some o->h'.get? b=some o:=λb o hb e=>sb.extBut b o hb e;have nb:∀b o,s2.heap.get? b=some o->b≠HH.objs.size:=λb o e=>by rw[hCe];exact nM (Nat.lt_succ_of_lt (nK e))
   have U:=I5.base;have fC:H3 HH.objs.size=none:=I5.free;refine I2.call' (ch:=fp) (s':={ s4 with heap:=h' }) I5.os ⟨λb o e n hb hx=>k b o (nb b o e) (U.keep b o e n hb hx),λb o e n hb hx=>?_,U.free,λb o e hx=>?_,U.tups,U.frzs,U.tbls⟩ (λb u e=>?_) I5.bare (λb hb=>⟨(f2 b hb).2.2.2.1,(f2 b hb).2.1,(f2 b hb).2.2.2.2.1,(f2 b hb).2.2.2.2.2⟩)
   ·obtain⟨sl,q⟩:=U.slot b o e n hb hx;exact⟨sl,k b _ (nb b o e) q⟩
   ·obtain⟨o',q⟩:=U.there b o e hx;exact⟨o',k b _ (nb b o e) q⟩
   ·refine(I5.hok b u e).stay (λc v hcc q=>k c v ?_ q) (λ_ q=>q) λ_ _ q=>q;rcases hcc with z | z
    ·rw[z];intro y;rw[y,fC]at e;cases e
    ·intro y;rw[y,fC]at z;cases z
  ·refine nY (T.item (qL X N scope HH.objs.size fp s2 H1) rfl rfl rfl hc i [] s3 _ H3 (λ_ _=>False) I3 (stat fr3) st3 go) (λr s4 ⟨u,hr,h4⟩=>?_) λ_ _ z=>z.elim;subst hr;refine nY h4 (λ_ s5 ⟨x,H5,I5,r5,y5,st5,fr5⟩=>?_) λ_ _ z=>z.elim;have I5':=I5.pinned (stat fr5) (T.obj _ _ st5);refine nY (hg _ _ _ _ _ s5 _ H5 x u _ I5' r5 (step x H5 y5)) (λ_ s6 ⟨σ6,H6,I6,q6⟩=>?_) λ_ _ z=>z.elim;refine nY (he _ _ _ _ _ s6 σ6 H6 _ I6 q6) (λy s7 ⟨yv,H7,I7,r7,q7⟩=>?_) λ_ _ z=>z.elim;obtain⟨e7,m',hm',w7⟩:=q7;refine nY (kW (X:=qL X N scope HH.objs.size fp s2 H1) _ s7 σ6 H7 (.ref s2.heap.objs.size) [yv] (.ref s2.heap.objs.size) [y] (λ_ H8=>H8=upd H7 s2.heap.objs.size (.lst (ys++[yv]))) I7 rfl (.cons r7 .nil) ⟨_,ys,yv,rfl,rfl,e7,hz3,rfl⟩) (λ_ s8 ⟨_,H8,I8,_,q8⟩=>?_) λ_ _ z=>z.elim;subst q8;refine⟨m',hm',i+1,_,_,(I8.unpinned).weak (by rw[gO,I8.len];rfl) (λj v ev=>?_),T.keep _ _ _ st5 λb hb o e=>(I8.pin (b,o) (gN _ (gN _ (jZ hb e)))).1,λb hb=>?_,w7⟩
   ·rw[List.getElem?_replicate]at ev;split at ev<;>cases ev
   ·obtain⟨o,e,d⟩:=T.obj _ _ st5 b hb;exact(I8.pin (b,o) (gN _ (gN _ (jZ hb e)))).2.1
 exact codeAny_compStart_list loop (T.self _ 0 _ _ _ st4 loop)
end
mutual
inductive DecV(H:Hp):V->PyData->Prop where
 | non:DecV H .non .none
 | bl (b:Bool):DecV H (.bl b) (.bool b)
 | int (i:Int):DecV H (.int i) (.int i)
 | str (x:Str):DecV H (.str x) (.str x)
 | lst {a:Addr} {xs:List V} {ds:List PyData} (e:H a=some (.lst xs)) (h:DecVs H xs ds):DecV H (.ref a) (.list ds)
 | tup {a:Addr} {xs:List V} {ds:List PyData} (e:H a=some (.tup xs)) (h:DecVs H xs ds):DecV H (.ref a) (.tuple ds)
inductive DecVs(H:Hp):List V->List PyData->Prop where
 | nil:DecVs H [] []
 | cons {x:V} {d:PyData} {xs:List V} {ds:List PyData} (h:DecV H x d) (t:DecVs H xs ds):DecVs H (x::xs) (d::ds)
end
section
variable{X:Cx}
mutual
theorem DecV.reads{ac:List (Addr×Obj)}{σ:L2.St}{H:Hp}{s:Shared}(I:Inv X ac σ H s):∀{x:V} {d:PyData} {u:Value},DecV H x d->RelV x u->∃as,Reads s.heap u d as
 | _,_,_,.non,r=>by cases r;exact⟨_,.none⟩
 | _,_,_,.bl b,r=>by cases r;exact⟨_,.bool b⟩
 | _,_,_,.int i,r=>by obtain⟨t,rfl⟩:=r;exact⟨_,.int i t⟩
 | _,_,_,.str x,r=>by obtain⟨t,rfl⟩:=r;exact⟨_,.str x t⟩
 | _,_,_,.lst e h,r=>by
  cases r;obtain⟨its,rv,⟨o,n,ho,hc,_,hd⟩,_⟩:=I.list (SqL.of e);obtain⟨as,ra⟩:=DecVs.reads I h rv;exact⟨_,.list ho hc hd (by simpa using ra)⟩
 | _,_,_,.tup e h,r=>by
  cases r;obtain⟨its,rv,⟨o,ho,hc,n,hd⟩,_⟩:=I.tuple (SqT.of e);obtain⟨as,ra⟩:=DecVs.reads I h rv;exact⟨_,.tuple ho hc hd (by simpa using ra)⟩
theorem DecVs.reads{ac:List (Addr×Obj)}{σ:L2.St}{H:Hp}{s:Shared}(I:Inv X ac σ H s):∀{xs:List V} {ds:List PyData} {us:List Value},DecVs H xs ds->Vals xs us->∃as,ReadsAll s.heap us ds as
 | _,_,_,.nil,r=>by cases r;exact⟨_,.nil⟩
 | _,_,_,.cons h t,r=>by
  cases r with
  | cons q r=>
   obtain⟨as,ra⟩:=DecV.reads I h q;obtain⟨bs,rb⟩:=DecVs.reads I t r;exact⟨_,.cons ra rb⟩
end
def DataOk(d:PyData):Prop:=d.canLay0=true/\d.depth<=60
def rEqD:R2:=λx y H Q=>∃da db,DecV H x da/\DecV H y db/\DataOk da/\DataOk db/\Q (.bl (PyData.eqv da db)) H
theorem LQ(hu:X.A.units+64<cLine):OpR X (compareOp .Eq) rEqD:=by
 intro ac s σ H x y v u Q I rx ry h;obtain⟨da,db,d1,d2,o1,o2,q⟩:=h;obtain⟨as,ra⟩:=d1.reads I rx;obtain⟨bs,rb⟩:=d2.reads I ry;exact SeqAt.rcAt_reads ra rb o1.1 o2.1 (by have:=o1.2;omega) _ _ _ _ ⟨.bl _,H,I,rfl,q⟩
def rAll(K:tF):List V->Hp->VK->Prop:=λxs H Q=>∃(a:Addr) (bs:List Bool),xs=[.ref a]/\SqL K H a (bs.map V.bl)/\Q (.bl (bs.all id)) H
theorem OT:∀{bs:List Bool} {us:List Value} {i:Nat} {v:Value},Vals (bs.map V.bl) us->us[i]? = some v->v=.bool (bs.getD i true)
 | [],_,_,_,.nil,e=>by simp at e
 | b::_,_,0,_,.cons r _,e=>by
  cases r;simp at e;simp [<-e]
 | b::bs,_,i+1,_,.cons _ t,e=>by
  have:=OT (i:=i) t (by simpa using e);simpa using this
theorem RI(bs:List Bool):(List.range bs.length).all (λi=>bs.getD i true)=bs.all id:=by
 induction bs with
 | nil=>rfl
 | cons b r ih=>
  rw[mO,List.range_succ_eq_map,List.all_cons,List.all_map,List.all_cons,<-ih]
  rfl
theorem uH(hc:X.calm=true):CallR X (.builtin "all") (rAll X.K):=by
 intro ac s σ H xs us Q I r h;obtain⟨a,bs,rfl,hq,q⟩:=h;obtain⟨u,rfl,ru⟩:=qM r;cases ru;obtain⟨its,rv,p,hz⟩:=I.list hq;have hl:=rv.length;rw[mS]at hl;refine PySem.call_all_walk (wpAny_pyIter_list p.isList ?_);have ha:a<s.heap.objs.size:=by
  obtain⟨o,n,e,_⟩:=p;exact nK e
 refine⟨s.heap.objs.size,_,_,_,_,_,λi=>bs.getD i true,rfl,Walks.list (show X.A.in1.handled=none from I.ok.hd hc) s.heap.objs.size a (nM ha) its.toArray,⟨⟨_,gW _ rfl,rfl,rfl⟩,p.isList.at λo e=>gL _ e⟩, ?_, ?_⟩
 ·intro i v s' Q' E' hv hq';obtain rfl:=OT rv (by simpa using hv);exact wpAny_truthy_bool hq'
 ·intro h' tk k;rw[mD,<-hl,RI];refine⟨.bl _,H,I.kept (t':=tk) (λb o e=>?_),rfl,q⟩;exact k b o (by simp;exact nM (nK e)) (gL _ e)
theorem CD{N:List Str}{elt target iter:Expr}{scope:Scope}{pos:Pos}{wi:TI}{g:TG}{te:TE}(hc:X.calm=true)
  (hk:scope.kind=.function) (hfree:∀x∈scope.names,x.2≠.free) (hcell:∀x∈scope.names,x.2≠.cell) (hnames:∀x∈scope.names,x.2=.local->scope.names.lookup x.1=some .local)
  (hi:PI X target iter wi) (hg:∀C fp s2 H2,PG (qL X N scope C fp s2 H2) target g) (he:∀C fp s2 H2,PE (qL X N scope C fp s2 H2) elt te)
  (hs:∀x,foldedSetIterable iter X.env x=pure x:=by intro _;rfl):PE X (.ListComp elt [⟨target,iter,[],0⟩] scope pos) (ZX N.length wi g te):=
 YA hc hk (λx=>⟨λz=>hcell _ (PySem.mem_of_lookup z) rfl,λz=>hfree _ (PySem.mem_of_lookup z) rfl⟩) hfree hcell hnames hi hg he hs
end
def CompW(xs:List V)(Pv:Nat->List V->Hp->Prop)(i m:Nat)(ys:List V)(H:Hp):Prop:=m=xs.length-i/\i<=xs.length/\ys.length=i/\Pv i ys H
theorem kL{xs:List V}{Pv:Nat->List V->Hp->Prop}{i m:Nat}{ys:List V}{x y:V}{H5:Hp}{p:Addr}(hx:xs[i]? = some x)(hm:m=xs.length-i)(hl:ys.length=i)(e:H5 p=some (.lst ys))(h:Pv (i+1) (ys++[y]) (upd H5 p (.lst (ys++[y])))) :
  H5 p=some (.lst ys)/\∃m',m'<m/\CompW xs Pv (i+1) m' (ys++[y]) (upd H5 p (.lst (ys++[y]))):=by
 have hi:i<xs.length:=(gG.mp hx).1;exact⟨e,xs.length-(i+1),by omega,rfl,by omega,by simp [hl],h⟩
section
end
def jK(X:Cx)(N:List Str)(scope:Scope)(cl:List (Str×Addr))(C:Addr)(fp:List Addr)(s2:Shared)(H2:Hp):Cx:=
 { X with N:=N,s₀:=s2,H₀:=H2,env:=compEnvC scope cl C X.env,outer:=X.stack,stack:=X.stack,ex:=fp,fn:=λ_=>false,pn:=[],xe:=λ_ _=>False }
def Keep(σ τ:L2.St):Prop:=∀(i:Nat) (v:V),σ[i]? = some (some v)->τ[i]? = some (some v)
theorem zJ{x:Option V}{r:L2.St} :Keep (none::r) (x::r):=λi v h=>by
 cases i with
 | zero=>cases h
 | succ j=>exact h
theorem AE{x y:Option V}{r:L2.St} :Keep (none::none::r) (x::y::r):=λi v h=>by
 cases i with
 | zero=>cases h
 | succ j=>cases j with
  | zero=>cases h
  | succ k=>exact h
def CompGoF(σ0:L2.St)(J:It)(g:TG)(te:TE)(Q:VK)(p:Addr)(H':Hp):Prop:=
 ∃W:Nat->Nat->List V->Hp->Prop,(∃m,W 0 m [] H')/\∀i m ys H2,W i m ys H2->H2 p=some (.lst ys)/\ys.length<sizeLine/\
  ((J.stop i H2/\Q (.ref p) H2)∨(J.go i H2/\∀x H3,J.yld i H2 x H3->g x σ0 H3 fun σ4 H4=>Keep σ0 σ4/\te σ4 H4 λy H5=>H5 p=some (.lst ys)/\∃m',m'<m/\W (i+1) m' (ys++[y]) (upd H5 p (.lst (ys++[y])))))
def FM(own:Nat)(idx:List Nat)(wi:TI)(g:TG)(te:TE):TE:=fun σ H Q=>wi σ H λJ H1=>∀p H',H1 p=none->Same H1 H'->H' p=some (.lst [])->
 CompGoF (List.replicate own none++idx.map λj=>(σ[j]?).getD none) J g te Q p H'
section
variable{X:Cx}
theorem vM{ac:List (Addr×Obj)}{σ:L2.St}{H1:Hp}{s2:Shared}{N:List Str}{scope:Scope}{cl:List (Str×Addr)}{C:Addr}{fp:List Addr}(I:Inv X ac σ H1 s2)(hk:scope.kind=.function)
  (hsub:∀x c,cl.lookup x=some c->X.env.cells.lookup x=some c) (hhas:∀x,((relabel scope X.env).names.lookup x=some .cell∨(relabel scope X.env).names.lookup x=some .free)->∃c,cl.lookup x=some c)
  (hC:s2.heap.objs.size<=C) (hf:∀b∈fp,FpOk X ac H1 b) (hlt:∀b∈fp,b<s2.heap.objs.size):(jK X N scope cl C fp s2 H1).Ok where
 mod:=I.ok.mod
 kind:=hk
 glob:=I.ok.glob
 blt:=I.ok.blt
 above:=hC
 inj:=λx y c h1 h2=>I.ok.inj x y c (hsub x c h1) (hsub y c h2)
 has:=hhas
 cab:=λx c h _=>by cases h
 hd:=I.ok.hd
 frames:=I.ok.frames
 stk:=.inl rfl
 exf:=λb hb=>⟨nM (hJ (hlt b hb) hC),λx c h=>(hf b hb).2.2.2.2.1 x c (hsub x c h)⟩
 bs:=I.bs
 bsz:=nL I.ok.bsz I.sz
 noex:=λb o e hb=>by
  rcases(hf b hb).2.2.2.1 with z | z
  ·exact I.ok.noex b o e z
  ·exact absurd (hJ (nK e) (nL I.ok.bsz z)) (nG _)
 exfs:=λb hb z=>(nF.mp (I.stkSub b z)).elim (hf b hb).2.1 (hf b hb).2.2.1
 funs:=I.stack
 frf:=I.stkFree
theorem vE{own:Nat}{idx:List Nat}{N:List Str}{elt target iter:Expr}{scope:Scope}{cl:List (Str×Addr)}{pos:Pos}{wi:TI}{g:TG}{te:TE}(hc:X.calm=true)
  (hk:scope.kind=.function) (hclos:closureFor scope X.env=pure cl) (hcell:∀x∈scope.names,x.2≠.cell) (hnames:∀x∈scope.names,x.2=.local->scope.names.lookup x.1=some .local)
  (hsub:∀x c,cl.lookup x=some c->X.env.cells.lookup x=some c) (hhas:∀x,((relabel scope X.env).names.lookup x=some .cell∨(relabel scope X.env).names.lookup x=some .free)->∃c,cl.lookup x=some c)
  (hlen:N.length=own+idx.length)
  (hidx:∀(k j:Nat) (x:Str),idx[k]? = some j->N[own+k]? = some x->X.N[j]? = some x/\X.env.kindOf x=some .cell/\(relabel scope X.env).names.lookup x=some .cell/\X.env.scope.names.lookup x=some .cell)
  (hi:PI X target iter wi) (hg:∀C fp s2 H2,PG (jK X N scope cl C fp s2 H2) target g) (he:∀C fp s2 H2,PE (jK X N scope cl C fp s2 H2) elt te)
  (hs:∀x,foldedSetIterable iter X.env x=pure x:=by intro _;rfl):PE X (.ListComp elt [⟨target,iter,[],0⟩] scope pos) (FM own idx wi g te):=by
 intro ac s σ H Q I h;rw[eval_ListComp];refine wpAny_comprehension_free (use:=none) rfl hs hclos hk hnames (thn (hi ac s σ H _ I h) λv s1 h1=>thn h1 λitv s2 h2=>?_);obtain⟨it,fp,tn,J,H1,e,I2,T,st2,f2,hR⟩:=h2;subst e;have hlt:∀b∈fp,b<s2.heap.objs.size:=λb hb=>by
  obtain⟨o,ho,_⟩:=T.obj 0 _ st2 b hb;exact nK ho
 refine wpAny_newObj_type (wpAny_newFunctionEnv hcell (by intro y hy;simp at hy) (λh₁ hns₁ hsb₁=>?_) hk);dsimp only at hns₁ hsb₁ ⊢;generalize hHH:s2.heap.push { cls:=.type "list",dict:=none,data:=.seq ([]:List Value).toArray } = HH at hns₁ hsb₁ ⊢;have hCe:HH.objs.size=s2.heap.objs.size+1:=by rw[<-hHH,nC]
 have hDC:s2.heap.objs.size≠HH.objs.size:=by rw[hCe];exact nM (mR _)
 have hCle:s2.heap.objs.size<=HH.objs.size:=by rw[hCe];exact Nat.le_succ _
 have old:∀b o,s2.heap.get? b=some o->h₁.get? b=some o:=λb o e=>hsb₁.extBut b o (by rw[hCe];exact nM (Nat.lt_succ_of_lt (nK e))) (gL _ (hHH▸gL _ e));have hD:h₁.get? s2.heap.objs.size=some { cls:=.type "list",dict:=none,data:=.seq ([]:List Value).toArray } :=hsb₁.extBut _ _ hDC (gL _ (hHH▸gW _ rfl));have nD:H1 s2.heap.objs.size=none:=I2.hok.fresh gA ;obtain⟨W,⟨m0,w0⟩,turn⟩:=hR s2.heap.objs.size _ nD (jN (.lst []) nD) jD;generalize hσ:(List.replicate own none++idx.map λj=>(σ[j]?).getD none:L2.St)=σ0 at turn;have lσ:σ0.length=N.length:=by rw[<-hσ,gY,gO,mS,hlen]
 have ok:=vM (N:=N) (cl:=cl) (C:=HH.objs.size) I2 hk hsub hhas hCle f2 hlt;have oldC:∀c v,s2.heap.IsCell c v->h₁.IsCell c v:=λc v ⟨o,ho,hd⟩=>⟨o,old c o ho,hd⟩;have I4:Inv (jK X N scope cl HH.objs.size fp s2 H1) [] σ0 (upd H1 s2.heap.objs.size (.lst [])) { s2 with heap:=h₁,toks:=s2.toks+([]:List (Str×Value)).length } :=by
  refine⟨ok,rfl,I2.bare,Un.laid old gA nD,⟨_,hns₁,λi x v e1 e2 _=>?_⟩,(λx c z=>?_), ?_,(λx c z=>?_),(λp hp=>nomatch hp),I2.hok.laid old gA ?_,lσ⟩
  ·
   rw[<-hσ]at e2;by_cases hi':i<own
   ·rw[gH (by rw[gO];exact hi'),List.getElem?_replicate]at e2;split at e2<;>cases e2
   ·obtain⟨k,rfl⟩:∃k,i=own+k:=⟨i-own,by omega⟩;rw[gF (by rw[gO];omega),gO,Nat.add_sub_cancel_left,mC]at e2;cases ej:idx[k]? with
    | none=>rw[ej]at e2;cases e2
    | some j=>
     rw[ej,Option.map_some]at e2;have e2:=Option.some.inj e2;obtain⟨n1,n2,n3,n4⟩:=hidx k j x ej e1;have e3:σ[j]? = some (some v):=by
      cases q:σ[j]? with
      | none=>rw[q]at e2;cases e2
      | some y=>rw[q,Option.getD_some]at e2;rw[e2]
     obtain⟨m,hm,hl⟩:=I2.loc;obtain⟨u,ru,lk⟩:=hl j x v n1 e3 (.inr (.inl n4));refine⟨u,ru, ?_⟩;rcases lk with⟨kl,_⟩ | ⟨_,c,hcl,hic⟩
     ·rw[n2]at kl;cases kl
     ·obtain⟨c',hc'⟩:=hhas x (.inl n3);have:c'=c:=Option.some.inj ((hsub x c' hc').symm.trans hcl);subst this;exact .inr ⟨.inl n3,c',hc',oldC _ _ hic⟩
  ·obtain⟨v,hv⟩:=I2.cell x c (hsub x c z);exact⟨v,oldC _ _ hv⟩
  ·show(upd H1 s2.heap.objs.size (.lst [])) HH.objs.size=none;rw[jH (Ne.symm hDC)];exact I2.hok.fresh hCle
  ·obtain⟨v,hv⟩:=I2.cell x c (hsub x c z);show(upd H1 s2.heap.objs.size (.lst [])) c=none;rw[jH (nM hv.lt)];exact I2.freeC x c (hsub x c z)
  ·exact⟨by show 0<=sizeLine;decide,[],0,.nil,hD⟩
 have stat:∀{H':Hp},(∀b∈fp,H' b=none)->∀b∈fp,FpOk (jK X N scope cl HH.objs.size fp s2 H1) [] H' b:=λhn b hb=>
  ⟨hn b hb,(ok.exf b hb).1,ok.exfs b hb,.inl hb,(ok.exf b hb).2,λp hp=>nomatch hp⟩
 have st4:tn 0 h₁:=T.keep _ _ _ st2 λb _ o e=>old b o e;have fr4:∀b∈fp,(upd H1 s2.heap.objs.size (.lst [])) b=none:=λb hb=>by
  rw[jH (nM (hlt b hb))];exact(f2 b hb).1
 have loop:codeAny (model X.prog X.w) X.A (.compLoop (.ListComp elt [⟨target,iter,[],0⟩] scope pos) 0 (.ref it) (.ref s2.heap.objs.size) (compEnvC scope cl HH.objs.size X.env))
   (compPost (model X.prog X.w) X.A X.xe none (EP X ac σ Q) (.ref s2.heap.objs.size) HH.objs.size) { s2 with heap:=h₁,toks:=s2.toks+([]:List (Str×Value)).length } :=by
  refine xC (λn s'=>∃i ys H',Inv (jK X N scope cl HH.objs.size fp s2 H1) [] σ0 H' s'/\tn i s'.heap/\(∀b∈fp,H' b=none)/\W i n ys H') ?_ m0 ⟨0,[],_,I4,st4,fr4,w0⟩;rintro n s3 ⟨i,ys,H3,I3,st3,fr3,w3⟩;obtain⟨hp3,hz3,hw⟩:=turn i n ys H3 w3;rcases hw with⟨stop,qn⟩ | ⟨go,step⟩
  ·refine thn (T.done (jK X N scope cl HH.objs.size fp s2 H1) rfl rfl rfl hc i [] s3 _ H3 _ I3 (stat fr3) st3 stop) λr s4 ⟨hr,I5⟩=>?_;subst hr;obtain⟨m,hm,_⟩:=id I5.loc;refine⟨m,hm,λh' sb=>⟨.ref s2.heap.objs.size,H3, ?_,rfl,qn⟩⟩;have k:∀b o,b≠HH.objs.size->s4.heap.get? b=some o->h'.get? b=some o:=λb o hb e=>sb.extBut b o hb e;have nb:∀b o,s2.heap.get? b=some o->b≠HH.objs.size:=λb o e=>by rw[hCe];exact nM (Nat.lt_succ_of_lt (nK e))
   have U:=I5.base;have fC:H3 HH.objs.size=none:=I5.free;refine I2.call' (ch:=fp) (s':={ s4 with heap:=h' }) I5.os ⟨λb o e n hb hx=>k b o (nb b o e) (U.keep b o e n hb hx),λb o e n hb hx=>?_,U.free,λb o e hx=>?_,U.tups,U.frzs,U.tbls⟩ (λb u e=>?_) I5.bare (λb hb=>⟨(f2 b hb).2.2.2.1,(f2 b hb).2.1,(f2 b hb).2.2.2.2.1,(f2 b hb).2.2.2.2.2⟩)
   ·obtain⟨sl,q⟩:=U.slot b o e n hb hx;exact⟨sl,k b _ (nb b o e) q⟩
   ·obtain⟨o',q⟩:=U.there b o e hx;exact⟨o',k b _ (nb b o e) q⟩
   ·refine(I5.hok b u e).stay (λc v hcc q=>k c v ?_ q) (λ_ q=>q) λ_ _ q=>q;rcases hcc with z | z
    ·rw[z];intro y;rw[y,fC]at e;cases e
    ·intro y;rw[y,fC]at z;cases z
  ·refine nY (T.item (jK X N scope cl HH.objs.size fp s2 H1) rfl rfl rfl hc i [] s3 _ H3 (λ_ _=>False) I3 (stat fr3) st3 go) (λr s4 ⟨u,hr,h4⟩=>?_) λ_ _ z=>z.elim;subst hr;refine nY h4 (λ_ s5 ⟨x,H5,I5,r5,y5,st5,fr5⟩=>?_) λ_ _ z=>z.elim;have I5':=I5.pinned (stat fr5) (T.obj _ _ st5);refine nY (hg _ _ _ _ _ s5 _ H5 x u _ I5' r5 (step x H5 y5)) (λ_ s6 ⟨σ6,H6,I6,kp6,q6⟩=>?_) λ_ _ z=>z.elim;refine nY (he _ _ _ _ _ s6 σ6 H6 _ I6 q6) (λy s7 ⟨yv,H7,I7,r7,q7⟩=>?_) λ_ _ z=>z.elim;obtain⟨e7,m',hm',w7⟩:=q7;refine nY (kW (X:=jK X N scope cl HH.objs.size fp s2 H1) _ s7 σ6 H7 (.ref s2.heap.objs.size) [yv] (.ref s2.heap.objs.size) [y] (λ_ H8=>H8=upd H7 s2.heap.objs.size (.lst (ys++[yv]))) I7 rfl (.cons r7 .nil) ⟨_,ys,yv,rfl,rfl,e7,hz3,rfl⟩) (λ_ s8 ⟨_,H8,I8,_,q8⟩=>?_) λ_ _ z=>z.elim;subst q8;refine⟨m',hm',i+1,_,_,(I8.unpinned).weak (by rw[lσ,I8.len];rfl) kp6,T.keep _ _ _ st5 λb hb o e=>(I8.pin (b,o) (gN _ (gN _ (jZ hb e)))).1,λb hb=>?_,w7⟩;obtain⟨o,e,d⟩:=T.obj _ _ st5 b hb;exact(I8.pin (b,o) (gN _ (gN _ (jZ hb e)))).2.1
 exact codeAny_compStart_list loop (T.self _ 0 _ _ _ st4 loop)
def hasB(names:List (Str×NameKind))(cl:List (Str×Addr)):Bool:=names.all λy=>match y.2 with
 | .cell=>(cl.lookup y.1).isSome
 | .free=>(cl.lookup y.1).isSome
 | _=>true
theorem qH{names:List (Str×NameKind)}{cl:List (Str×Addr)}(h:hasB names cl=true):∀x,(names.lookup x=some .cell∨names.lookup x=some .free)->∃c,cl.lookup x=some c:=by
 intro x hx;have all:=List.all_eq_true.mp h;rcases hx with hx | hx
 ·have:=all _ (PySem.mem_of_lookup hx);exact Option.isSome_iff_exists.mp this
 ·have:=all _ (PySem.mem_of_lookup hx);exact Option.isSome_iff_exists.mp this
theorem yN{X:Cx}{scope:Scope}{own j0:Nat}{N:List Str}{x0:Str}(h0:N[own]? = some x0)(h:X.N[j0]? = some x0/\X.env.kindOf x0=some .cell/\(relabel scope X.env).names.lookup x0=some .cell/\X.env.scope.names.lookup x0=some .cell) :
  ∀(k j:Nat) (x:Str),[j0][k]? = some j->N[own+k]? = some x->X.N[j]? = some x/\X.env.kindOf x=some .cell/\(relabel scope X.env).names.lookup x=some .cell/\X.env.scope.names.lookup x=some .cell:=by
 intro k j x e1 e2
 match k,e1 with
 | 0,e1=>
  cases e1;rw[Nat.add_zero,h0]at e2;cases e2;exact h
 | k+1,e1=>cases e1
end
theorem BL{J:It}{xs:List V}{σ0:L2.St}{g:TG}{te:TE}{Q:VK}{p:Addr}{H':Hp}(Pv:Nat->List V->Hp->Prop)(hz:xs.length<sizeLine)(h0:Pv 0 [] H')
  (hgo:∀i ys H2,Pv i ys H2->i<xs.length->J.go i H2/\∀x H3,J.yld i H2 x H3->H3=H2/\xs[i]? = some x) (hst:∀ys H2,Pv xs.length ys H2->J.stop xs.length H2) (hl:∀i ys H2,Pv i ys H2->H2 p=some (.lst ys))
  (hs:∀i m ys x H2,xs[i]? = some x->m=xs.length-i->ys.length=i->Pv i ys H2->g x σ0 H2 fun σ4 H4=>Keep σ0 σ4/\te σ4 H4 λy H5=>H5 p=some (.lst ys)/\∃m',m'<m/\CompW xs Pv (i+1) m' (ys++[y]) (upd H5 p (.lst (ys++[y]))))
  (hd:∀ys H2,ys.length=xs.length->Pv xs.length ys H2->Q (.ref p) H2):CompGoF σ0 J g te Q p H':=by
 unfold CompGoF;refine⟨CompW xs Pv,⟨_,rfl,nR _,rfl,h0⟩, ?_⟩;rintro i m ys H2 ⟨hm,hi,hy,hp⟩;refine⟨hl i ys H2 hp,by omega, ?_⟩;by_cases hlt:i<xs.length
 ·obtain⟨g1,g2⟩:=hgo i ys H2 hp hlt;refine .inr ⟨g1,λx H3 y=>?_⟩;obtain⟨e3,z⟩:=g2 x H3 y;subst e3;exact hs i m ys x _ z hm hy hp
 ·have ei:i=xs.length:=by omega
  subst ei;exact .inl ⟨hst ys H2 hp,hd ys H2 hy hp⟩
theorem yQ{K:tF}{a:Addr}{xs:List V}{σ0:L2.St}{g:TG}{te:TE}{Q:VK}{p:Addr}{H':Hp}(Pv:Nat->List V->Hp->Prop)(hz:xs.length<sizeLine)(h0:Pv 0 [] H')
  (hl:∀i ys H2,Pv i ys H2->SqL K H2 a xs/\H2 p=some (.lst ys))
  (hs:∀i m ys x H2,xs[i]? = some x->m=xs.length-i->ys.length=i->Pv i ys H2->g x σ0 H2 fun σ4 H4=>Keep σ0 σ4/\te σ4 H4 λy H5=>H5 p=some (.lst ys)/\∃m',m'<m/\CompW xs Pv (i+1) m' (ys++[y]) (upd H5 p (.lst (ys++[y]))))
  (hd:∀ys H2,ys.length=xs.length->Pv xs.length ys H2->Q (.ref p) H2):CompGoF σ0 (Itl K a) g te Q p H':=
 BL Pv hz h0 (λi ys H2 h hi=>⟨⟨xs,xs[i],(hl i ys H2 h).1,by simp [hi]⟩,λx H3 y=>⟨y.1,y.2 xs (hl i ys H2 h).1⟩⟩) (λys H2 h=>⟨xs,(hl _ ys H2 h).1,nQ _⟩) (λi ys H2 h=>(hl i ys H2 h).2) hs hd
theorem uW{K:tF}{a:Addr}{xs:List V}{σ0:L2.St}{g:TG}{te:TE}{Q:VK}{p:Addr}{H':Hp}(Pv:Nat->List V->Hp->Prop)(hz:xs.length<sizeLine)(h0:Pv 0 [] H')
  (hl:∀i ys H2,Pv i ys H2->SqT K H2 a xs/\H2 p=some (.lst ys))
  (hs:∀i m ys x H2,xs[i]? = some x->m=xs.length-i->ys.length=i->Pv i ys H2->g x σ0 H2 fun σ4 H4=>Keep σ0 σ4/\te σ4 H4 λy H5=>H5 p=some (.lst ys)/\∃m',m'<m/\CompW xs Pv (i+1) m' (ys++[y]) (upd H5 p (.lst (ys++[y]))))
  (hd:∀ys H2,ys.length=xs.length->Pv xs.length ys H2->Q (.ref p) H2):CompGoF σ0 (Itt K a) g te Q p H':=
 BL Pv hz h0 (λi ys H2 h hi=>⟨⟨xs,xs[i],(hl i ys H2 h).1,by simp [hi]⟩,λx H3 y=>⟨y.1,y.2 xs (hl i ys H2 h).1⟩⟩) (λys H2 h=>⟨xs,(hl _ ys H2 h).1,nQ _⟩) (λi ys H2 h=>(hl i ys H2 h).2) hs hd
section
theorem xR(ns:List Int):∀j,j<=ns.length->preSum (λi=>ns.getD i 0) j=(ns.take j).sum
 | 0,_=>by simp [preSum]
 | j+1,h=>by
  have hj:j<ns.length:=h;show preSum (λi=>ns.getD i 0) j+ns.getD j 0=_;rw[xR ns j (by omega),List.take_succ_eq_append_getElem hj,List.sum_append,gE,gI hj];simp
theorem EC{M:Int} :∀(ns:List Int),(∀n∈ns,0<=n/\n<=M)->0<=ns.sum/\ns.sum<=ns.length*M
 | [],_=>by simp
 | n::r,h=>by
  have h1:=h n (by simp);have h2:=EC r λm hm=>h m (by simp [hm]);rw[nI,mO,Int.natCast_succ,Int.add_mul];omega
def rSumT(K:tF):List V->Hp->VK->Prop:=λxs H Q=>∃(a:Addr) (ns:List Int),xs=[.ref a]/\SqT K H a (ns.map V.int)/\(∀n∈ns,0<=n/\n<=2^40)/\ns.length<=1000/\Q (.int ns.sum) H
theorem FC(hc:X.calm=true):CallR X (.builtin "sum") (rSumT X.K):=by
 intro ac s σ H xs us Q I r h;obtain⟨a,ns,rfl,hq,hb,hn,q⟩:=h;obtain⟨u,rfl,ru⟩:=qM r;cases ru;obtain⟨its,rv,p,hz⟩:=I.tuple hq;have i1:IntsAre its ns:=qP rv;have hl:=vH i1;have ha:a<s.heap.objs.size:=by
  obtain⟨o,e,_⟩:=p;exact nK e
 refine PySem.call_sum_walk (wpAny_pyIter_tuple (t:=a) (items:=its.toArray) p ?_);refine⟨s.heap.objs.size,_,_,_,_,_,λi=>ns.getD i 0,rfl,Walks.tuple (show X.A.in1.handled=none from I.ok.hd hc) s.heap.objs.size a (nM ha) its.toArray,⟨⟨_,gW _ rfl,rfl,rfl⟩,p.keeps λb o e=>gL _ e⟩, ?_, ?_, ?_, ?_⟩
 ·intro b hb;show b<(s.heap.push _).objs.size;rw[nC];simp only[nF,mM,or_false]at hb;rcases hb with rfl | rfl
  ·exact mR _
  ·exact Nat.lt_succ_of_lt ha
 ·intro i v hv;have hv':its[i]? = some v:=by simpa using hv
  obtain⟨hi,e⟩:=gG.mp hv';obtain⟨n,t,e1,e2⟩:=xK i1 hi;exact⟨t,by dsimp only;rw[<-e,e2,gE,e1];rfl⟩
 ·intro j hj;have hj':j<ns.length:=by rw[<-hl];simpa using hj
  have b1:=hb ns[j] (List.getElem_mem hj');have b2:=EC (ns.take (j+1)) λn hn'=>hb n (gU hn');have e1:ns.getD j 0=ns[j]:=by rw[gE,gI hj'];rfl
  have l1:(ns.take (j+1)).length<=1000:=by rw[mK];omega
  dsimp only;rw[xR ns (j+1) hj',e1];unfold InLong;refine⟨⟨by omega,by omega⟩,⟨by omega, ?_⟩⟩;have:((ns.take (j+1)).length:Int)*2^40<=1000*2^40:=Int.mul_le_mul_of_nonneg_right (by omega) (by decide);omega
 ·intro h' tk t' k;have e:preSum (λi=>ns.getD i 0) its.toArray.size=ns.sum:=by
   rw[mD,hl,xR ns _ gA,mN]
  rw[e];refine⟨.int ns.sum,H,I.kept (t':=tk) (λb o q=>?_),⟨t',rfl⟩,q⟩;exact k b o (by simp;exact nM (nK q)) (gL _ q)
end
end Lw
namespace LwT
open PySem PySem.Spec PyProof.Rows L2 Lw
def xN(f:Int->Int->Bool)(g:Nat->Nat->Bool):List Int->List Int->Bool
 | x::xs,y::ys=>if x=y then xN f g xs ys else f x y
 | xs,ys=>g xs.length ys.length
abbrev lexLt:List Int->List Int->Bool:=xN (λi j=>decide (i<j)) (λm n=>decide (m<n))
abbrev lexNe:List Int->List Int->Bool:=xN (λ_ _=>true) (λm n=>m != n)
abbrev lexGe:List Int->List Int->Bool:=xN (λi j=>decide (j<=i)) (λm n=>decide (n<=m))
theorem vQ{f g}{ys:List Int} :xN f g [] ys=g 0 ys.length:=by cases ys<;>rfl
theorem vG{f g}{xs:List Int} :xN f g xs []=g xs.length 0:=by cases xs<;>rfl
theorem VF:∀(xs ys:List Int),lexGe xs ys = !lexLt xs ys
 | [],ys=>by
  show xN _ _ _ _ = !xN _ _ _ _;rw[vQ,vQ];cases ys<;>simp
 | x::xs,[]=>by
  show xN _ _ _ _ = !xN _ _ _ _;rw[vG,vG];simp
 | x::xs,y::ys=>by
  show(if x=y then lexGe xs ys else _) = !(if x=y then lexLt xs ys else _);by_cases h:x=y
  ·rw[tD h,tD h];exact VF xs ys
  ·rw[nZ h,nZ h];by_cases h2:x<y
   ·simp [h2,show ¬y<=x by omega]
   ·simp [h2,show y<=x by omega]
theorem lexNe_eq:∀(xs ys:List Int),xN (λ_ _=>true) (λm n=>m != n) xs ys = !decide (xs=ys)
 | [],ys=>by
  rw[vQ];cases ys<;>simp
 | x::xs,[]=>by
  rw[vG];simp
 | x::xs,y::ys=>by
  show(if x=y then xN _ _ xs ys else true)=_;by_cases h:x=y
  ·rw[tD h,lexNe_eq xs ys];simp [h]
  ·rw[nZ h];simp [h]
theorem OE{f:Int->Int->Bool}{g:Nat->Nat->Bool}{xs ys:List Int}{i:Nat}(h:min xs.length ys.length<=i):xN f g (xs.drop i) (ys.drop i)=g (xs.length-i) (ys.length-i):=by
 by_cases hx:xs.length<=i
 ·rw[List.drop_of_length_le hx,vQ,List.length_drop];rw[show xs.length-i=0 by omega]
 ·have hy:ys.length<=i:=by omega
  rw[List.drop_of_length_le hy,vG,List.length_drop];rw[show ys.length-i=0 by omega]
theorem zW{vs:List Value}{ns:List Int}(r:IntsAre vs ns){i:Nat}(h:i<vs.length):∃n t,vs[i]=.int n t/\ns.drop i=n::ns.drop (i+1):=by
 obtain⟨n,t,e1,e2⟩:=xK r h;refine⟨n,t,e2, ?_⟩;obtain⟨hi,e⟩:=gG.mp e1;rw[List.drop_eq_getElem_cons hi,e]
section
variable{l b:Addr}{as bs:List Value}{xs ys:List Int}{n n2:Nat}{dd dd2:Option Addr}{sl sl2:Array (Option Value)}
theorem RZ(ra:IntsAre as xs)(rb:IntsAre bs ys) :
  Meets (Builtin.«tuple.__lt__» ⟨[.ref l,.ref b],[]⟩)
   (λ_ R s=>s.heap.get? l=some { cls:=.type "tuple",dict:=dd,data:=.seq as.toArray n,slots:=sl }/\s.heap.get? b=some { cls:=.type "tuple",dict:=dd2,data:=.seq bs.toArray n2,slots:=sl2 }/\
    R (.ok (.ret (.bool (lexLt xs ys)))) s):=
 .of_wp λprog w A R s h=>by
  obtain⟨hp,g,d,tk,os⟩:=s;obtain⟨hl,hb,h⟩:=h;have f2:=AutoSeq1.sub_tuple_tuple;have la:=vH ra;have lb:=vH rb;have hZ:(as.zip bs).length=min as.length bs.length:=by simp
  wp_walk using wpAny_loadPart' hl,wpAny_loadPart' hb,wpAny_forIn_list _ (λrest b s'=>b.1=none/\s'=⟨hp,g,d,tk,os⟩/\∃i,i<=(as.zip bs).length/\rest=(as.zip bs).drop i/\
   R (.ok (.ret (.bool (lexLt (xs.drop i) (ys.drop i))))) ⟨hp,g,d,tk,os⟩) _
  case turn=>
   rintro⟨y,x⟩ rest b s' ⟨hb',rfl,i,hi,hz,hR⟩;have hlt:i<(as.zip bs).length:=by
    rcases Nat.lt_or_ge i (as.zip bs).length with h' | h'
    ·exact h'
    ·rw[List.drop_of_length_le h']at hz;cases hz
   have h1:i<as.length:=by omega
   have h2:i<bs.length:=by omega
   rw[List.drop_eq_getElem_cons hlt]at hz;injection hz with hyx hrest
   obtain⟨p,t1,e1,d1⟩:=zW ra h1;obtain⟨q,t2,e2,d2⟩:=zW rb h2;have hy:y=.int p t1:=by have:=congrArg Prod.fst hyx;rw[<-e1];simpa using this
   have hx:x=.int q t2:=by have:=congrArg Prod.snd hyx;rw[<-e2];simpa using this
   subst hy hx;rw[d1,d2]at hR;have hR:R (.ok (.ret (.bool (if p=q then lexLt (xs.drop (i+1)) (ys.drop (i+1))else decide (p<q))))) ⟨hp,g,d,tk,os⟩:=hR;refine nW (SeqAt.EqAt.int_int _ _ _ _ prog w _ _ ?_);by_cases hpq:p=q
   ·rw[tD hpq]at hR;have e:(p==q)=true:=by simp [hpq]
    rw[e]
    wp_walk
    exact⟨rfl,rfl,i+1,hlt,hrest,hR⟩
   ·rw[nZ hpq]at hR;have e:(p==q)=false:=by simp [hpq]
    rw[e];simp only[Bool.not_false,if_true];refine nW (wpAny_rule ?_);refine nW (lt_int (a:=p) (b:=q) ?_)
    wp_walk
    exact⟨_,rfl,hR⟩
  case fin=>
   rintro⟨b1,b2⟩ s' ⟨hb',rfl,i,hi,hz,hR⟩;simp only at hb';subst hb';have hge:min as.length bs.length<=i:=by
    rcases Nat.lt_or_ge i (as.zip bs).length with h' | h'
    ·rw[List.drop_eq_getElem_cons h']at hz;cases hz
    ·exact hZ▸h'
   have e:lexLt (xs.drop i) (ys.drop i)=decide (xs.length-i<ys.length-i):=OE (by rw[la,lb]at hge;exact hge);have e2:decide (xs.length-i<ys.length-i)=decide (as.length<bs.length):=by
    rw[hZ]at hi;by_cases q:as.length<bs.length
    ·rw[mX q,mX (by omega)]
    ·rw[mU q,mU (by omega)]
   rw[e,e2]at hR
   wp_walk
   exact⟨_,rfl,by simpa [Builtin.Tuple.tupleCompareSizes]using hR⟩
  case h=>
   exact⟨rfl,rfl,0,nR _,rfl,by simpa using h⟩
theorem RY(ra:IntsAre as xs)(rb:IntsAre bs ys) :
  Meets (Builtin.«tuple.__ne__» ⟨[.ref l,.ref b],[]⟩)
   (λ_ R s=>s.heap.get? l=some { cls:=.type "tuple",dict:=dd,data:=.seq as.toArray n,slots:=sl }/\s.heap.get? b=some { cls:=.type "tuple",dict:=dd2,data:=.seq bs.toArray n2,slots:=sl2 }/\
    R (.ok (.ret (.bool (lexNe xs ys)))) s):=
 .of_wp λprog w A R s h=>by
  obtain⟨hp,g,d,tk,os⟩:=s;obtain⟨hl,hb,h⟩:=h;have f2:=AutoSeq1.sub_tuple_tuple;have la:=vH ra;have lb:=vH rb;have hZ:(as.zip bs).length=min as.length bs.length:=by simp
  wp_walk using wpAny_loadPart' hl,wpAny_loadPart' hb,wpAny_forIn_list _ (λrest b s'=>b.1=none/\s'=⟨hp,g,d,tk,os⟩/\∃i,i<=(as.zip bs).length/\rest=(as.zip bs).drop i/\
   R (.ok (.ret (.bool (lexNe (xs.drop i) (ys.drop i))))) ⟨hp,g,d,tk,os⟩) _
  case turn=>
   rintro⟨y,x⟩ rest b s' ⟨hb',rfl,i,hi,hz,hR⟩;have hlt:i<(as.zip bs).length:=by
    rcases Nat.lt_or_ge i (as.zip bs).length with h' | h'
    ·exact h'
    ·rw[List.drop_of_length_le h']at hz;cases hz
   have h1:i<as.length:=by omega
   have h2:i<bs.length:=by omega
   rw[List.drop_eq_getElem_cons hlt]at hz;injection hz with hyx hrest
   obtain⟨p,t1,e1,d1⟩:=zW ra h1;obtain⟨q,t2,e2,d2⟩:=zW rb h2;have hy:y=.int p t1:=by have:=congrArg Prod.fst hyx;rw[<-e1];simpa using this
   have hx:x=.int q t2:=by have:=congrArg Prod.snd hyx;rw[<-e2];simpa using this
   subst hy hx;rw[d1,d2]at hR;have hR:R (.ok (.ret (.bool (if p=q then lexNe (xs.drop (i+1)) (ys.drop (i+1))else true)))) ⟨hp,g,d,tk,os⟩:=hR;refine nW (SeqAt.EqAt.int_int _ _ _ _ prog w _ _ ?_);by_cases hpq:p=q
   ·rw[tD hpq]at hR;have e:(p==q)=true:=by simp [hpq]
    rw[e]
    wp_walk
    exact⟨rfl,rfl,i+1,hlt,hrest,hR⟩
   ·rw[nZ hpq]at hR;have e:(p==q)=false:=by simp [hpq]
    rw[e]
    wp_walk
    exact⟨_,rfl,hR⟩
  case fin=>
   rintro⟨b1,b2⟩ s' ⟨hb',rfl,i,hi,hz,hR⟩;simp only at hb';subst hb';have hge:min as.length bs.length<=i:=by
    rcases Nat.lt_or_ge i (as.zip bs).length with h' | h'
    ·rw[List.drop_eq_getElem_cons h']at hz;cases hz
    ·exact hZ▸h'
   have e:lexNe (xs.drop i) (ys.drop i)=(xs.length-i != ys.length-i):=OE (by rw[la,lb]at hge;exact hge);have e2:(xs.length-i != ys.length-i)=(as.length != bs.length):=by
    rw[hZ]at hi;by_cases q:as.length=bs.length
    ·have q2:xs.length-i=ys.length-i:=by omega
     rw[bne,bne,q2,q,beq_self_eq_true,beq_self_eq_true]
    ·have q2:¬xs.length-i=ys.length-i:=by omega
     rw[bne,bne,beq_eq_false_iff_ne.mpr q2,beq_eq_false_iff_ne.mpr q]
   rw[e,e2]at hR
   wp_walk
   exact⟨_,rfl,by simpa [Builtin.Tuple.tupleCompareSizes]using hR⟩
  case h=>
   exact⟨rfl,rfl,0,nR _,rfl,by simpa using h⟩
end
section
variable{X:Cx}
def rOrdT(K:tF)(f:List Int->List Int->Bool):R2:=λx y H Q=>∃(a b:Addr) (ns ms:List Int),x=.ref a/\y=.ref b/\SqT K H a (ns.map V.int)/\SqT K H b (ms.map V.int)/\Q (.bl (f ns ms)) H
theorem op_ltT(hu:X.A.units<cLine):OpR X (compareOp .Lt) (rOrdT X.K lexLt):=by
 intro ac s σ H x y v u Q I rx ry h;obtain⟨a,b,ns,ms,rfl,rfl,ha,hb,q⟩:=h;cases rx;cases ry;obtain⟨its,r1,p1,_⟩:=I.tuple ha;obtain⟨its2,r2,p2,_⟩:=I.tuple hb;obtain⟨⟨cls,dd,data,sl⟩,ho,hc,n,hd⟩:=id p1;obtain⟨⟨cls2,dd2,data2,sl2⟩,ho2,hc2,n2,hd2⟩:=id p2;simp only at hc hd hc2 hd2;subst hc hd hc2 hd2;exact richCompare_meets_room (op:=.Lt) ⟨_,ho,rfl⟩ ⟨_,ho2,rfl⟩ PySem.F.slot_tuple_lt PySem.F.entry_tuple_lt (PySem.F.args_tuple_lt_2 _ _) (RZ (qP r1) (qP r2)) ⟨ho,ho2,show Value.bool _≠Value.notImplemented/\_ from⟨(λz=>nomatch z),⟨.bl _,H,I,rfl,q⟩⟩⟩ hu
theorem op_neT(hu:X.A.units<cLine):OpR X (compareOp .NotEq) (rOrdT X.K lexNe):=by
 intro ac s σ H x y v u Q I rx ry h;obtain⟨a,b,ns,ms,rfl,rfl,ha,hb,q⟩:=h;cases rx;cases ry;obtain⟨its,r1,p1,_⟩:=I.tuple ha;obtain⟨its2,r2,p2,_⟩:=I.tuple hb;obtain⟨⟨cls,dd,data,sl⟩,ho,hc,n,hd⟩:=id p1;obtain⟨⟨cls2,dd2,data2,sl2⟩,ho2,hc2,n2,hd2⟩:=id p2;simp only at hc hd hc2 hd2;subst hc hd hc2 hd2;exact richCompare_meets_room (op:=.NotEq) ⟨_,ho,rfl⟩ ⟨_,ho2,rfl⟩ PySem.F.slot_tuple_ne PySem.F.entry_tuple_ne (PySem.F.args_tuple_ne_2 _ _) (RY (qP r1) (qP r2)) ⟨ho,ho2,show Value.bool _≠Value.notImplemented/\_ from⟨(λz=>nomatch z),⟨.bl _,H,I,rfl,q⟩⟩⟩ hu
end
end LwT
namespace L2
open PySem PySem.Spec PyProof.Rows
section
variable{κ:Type} [DecidableEq κ]
def kS(ag:List (κ×V))(k:κ):Option V:=(ag.find? λkv=>decide (kv.1=k)).map (·.2)
def qE(ag:List (κ×V))(k:κ)(v:V):List (κ×V):=
 if (ag.any λkv=>decide (kv.1=k))=true then ag.map (λkv=>if kv.1=k then(kv.1,v)else kv)else ag++[(k,v)]
theorem qB{p:κ×V}{r:List (κ×V)}{k:κ}(e:p.1=k):kS (p::r) k=some p.2:=by simp [kS,List.find?_cons,e]
theorem qN{p:κ×V}{r:List (κ×V)}{k:κ}(e:¬p.1=k):kS (p::r) k=kS r k:=by simp [kS,List.find?_cons,e]
theorem xD(k:κ):∀ag:List (κ×V),(ag.any λkv=>decide (kv.1=k))=(kS ag k).isSome
 | []=>rfl
 | p::r=>by
  rw[List.any_cons];by_cases e:p.1=k
  ·simp only[qB e,mX e,Bool.true_or,Option.isSome_some]
  ·rw[qN e,mU e,Bool.false_or];exact xD k r
theorem IF(k j:κ)(y:V):∀ag:List (κ×V),kS (ag.map λkv=>if kv.1=k then(kv.1,y)else kv) j=(kS ag j).map λx=>if j=k then y else x
 | []=>rfl
 | p::r=>by
  have ih:=IF k j y r;rw[nE];by_cases h:p.1=k
  ·rw[tD h];by_cases e:p.1=j
   ·rw[qB (p:=(p.1,y)) e,qB e,Option.map_some,tD (e.symm.trans h)]
   ·rw[qN (p:=(p.1,y)) e,qN e,ih]
  ·rw[nZ h];by_cases e:p.1=j
   ·rw[qB (p:=p) e,qB e,Option.map_some,nZ (λz=>h (e.trans z))]
   ·rw[qN (p:=p) e,qN e,ih]
theorem EB(k j:κ)(y:V):∀ag:List (κ×V),kS ag k=none->kS (ag++[(k,y)]) j=if j=k then some y else kS ag j
 | [],_=>by
  by_cases e:k=j
  ·rw[tD e.symm];exact qB (p:=(k,y)) e
  ·rw[nZ (λz=>e z.symm)];exact qN (p:=(k,y)) e
 | p::r,hn=>by
  rw[List.cons_append];have hk:¬p.1=k:=λz=>by rw[qB z]at hn;cases hn
  rw[qN hk]at hn;have ih:=EB k j y r hn;by_cases e:p.1=j
  ·rw[qB e,qB e,nZ (λz=>hk (e.trans z))]
  ·rw[qN e,qN e,ih]
theorem RP(ag:List (κ×V))(k j:κ)(y:V):kS (qE ag k y) j=if j=k then some y else kS ag j:=by
 unfold qE;by_cases a:(ag.any λkv=>decide (kv.1=k))=true
 ·rw[tD a,IF];rw[xD]at a;by_cases e:j=k
  ·obtain⟨x,hx⟩:=Option.isSome_iff_exists.mp a;rw[tD e,e,hx,Option.map_some,tD rfl]
  ·rw[nZ e];cases kS ag j with
   | none=>rfl
   | some x=>rw[Option.map_some,nZ e]
 ·rw[nZ a];refine EB k j y ag ?_;rw[xD]at a;cases q:kS ag k with
  | none=>rfl
  | some x=>rw[q]at a;exact(a rfl).elim
theorem vC(ag:List (κ×V))(k:κ)(v:V):(qE ag k v).length<=ag.length+1:=by
 unfold qE;split
 ·rw[mS];omega
 ·rw[gY,mO,List.length_nil];omega
theorem TJ{ag:List (κ×V)}{k:κ}(v:V)(h:kS ag k=none):qE ag k v=ag++[(k,v)]:=by
 unfold qE;rw[xD,h];exact nZ (by decide)
theorem RelO.isSome_eq{o:Option V}{u:Option Value}(r:RelO o u):o.isSome=u.isSome:=by
 cases o with
 | none=>cases u with
  | none=>rfl
  | some _=>exact(show False from r).elim
 | some _=>cases u with
  | none=>exact(show False from r).elim
  | some _=>rfl
theorem RelO.getD{o:Option V}{u:Option Value}{d:V}{d':Value}(r:RelO o u)(rd:RelV d d'):RelV (o.getD d) (u.getD d'):=by
 cases o with
 | none=>cases u with
  | none=>exact rd
  | some _=>exact(show False from r).elim
 | some _=>cases u with
  | none=>exact(show False from r).elim
  | some _=>exact r
theorem KV.val{ag:List (κ×V)}{vs:List (κ×Value)}(r:KV ag vs)(k:κ):RelO (kS ag k) (valueAt vs k):=by
 unfold KV at r;induction r with
 | nil=>exact True.intro
 | @cons p q ps qs h t ih=>
  obtain⟨h1,h2⟩:=h;by_cases e:p.1=k
  ·have e':q.1=k:=h1.symm.trans e;have b:valueAt (q::qs) k=some q.2:=by simp [valueAt,List.find?_cons,e']
   rw[qB e,b];exact h2
  ·have e':¬q.1=k:=λz=>e (h1.trans z);have b:valueAt (q::qs) k=valueAt qs k:=by simp [valueAt,List.find?_cons,e']
   rw[qN e,b];exact ih
theorem KV.any{ag:List (κ×V)}{vs:List (κ×Value)}(r:KV ag vs)(k:κ):(ag.any λkv=>decide (kv.1=k))=vs.any λkv=>decide (kv.1=k):=by
 unfold KV at r;induction r with
 | nil=>rfl
 | cons h t ih=>rw[List.any_cons,List.any_cons,ih,h.1]
theorem KV.repl{ag:List (κ×V)}{vs:List (κ×Value)}(r:KV ag vs)(k:κ){y:V}{u:Value}(ry:RelV y u) :
  KV (ag.map λkv=>if kv.1=k then(kv.1,y)else kv) (vs.map λkv=>if kv.1=k then(kv.1,u)else kv):=by
 unfold KV at r ⊢;induction r with
 | nil=>exact .nil
 | @cons p q ps qs h t ih=>
  rw[nE,nE];refine .cons ?_ ih;obtain⟨h1,h2⟩:=h;by_cases e:p.1=k
  ·rw[tD e,tD (h1.symm.trans e)];exact⟨h1,ry⟩
  ·rw[nZ e,nZ (λz=>e (h1.trans z))];exact⟨h1,h2⟩
theorem KV.put{ag:List (κ×V)}{vs:List (κ×Value)}(r:KV ag vs)(k:κ){y:V}{u:Value}(ry:RelV y u):KV (qE ag k y) (stored vs k u):=by
 unfold qE stored;rw[r.any k];by_cases e:(vs.any λkv=>decide (kv.1=k))=true
 ·rw[tD e,tD e];exact r.repl k ry
 ·rw[nZ e,nZ e];exact Paired.snoc r ⟨rfl,ry⟩
theorem KV.length{ag:List (κ×V)}{vs:List (κ×Value)}(r:KV ag vs):ag.length=vs.length:=Paired.length r
end
theorem AF{P:Program}{w:World}{k:Key}{u:Value}(r:RelV (kV k) u):(kE P w).is k u=true:=by
 cases k with
 | inl i=>obtain⟨t,e⟩:=(show ∃t,u=Value.int i t from r);subst e;exact JS P w i t
 | inr x=>obtain⟨t,e⟩:=(show ∃t,u=Value.str x t from r);subst e;exact JR P w x t
theorem ET{P:Program}{w:World} :∀{ks:List Key} {us:List Value},Vals (ks.map kV) us->ItemsAre (kE P w) ks us
 | [],_,r=>by rw[List.map_nil]at r;cases r;exact .nil
 | k::ks,_,r=>by
  rw[nE]at r;cases r with
  | cons h t=>exact .cons (AF h) (ET t)
abbrev KT(H:Hp):List (List Key×V)->List (List Key×Addr×Value)->Prop:=Paired λp q=>p.1=q.1/\H q.2.1=some (.tup (p.1.map kV))/\RelV p.2 q.2.2
theorem KT.val{H:Hp}{ag:List (List Key×V)}{xs:List (List Key×Addr×Value)}(r:KT H ag xs)(k:List Key):RelO (kS ag k) ((atKey xs k).map (·.2)):=by
 induction r with
 | nil=>exact True.intro
 | @cons p q ps qs h t ih=>
  obtain⟨h1,_,h2⟩:=h;by_cases e:p.1=k
  ·have e':q.1=k:=h1.symm.trans e;have b:atKey (q::qs) k=some q.2:=by simp [atKey,List.find?_cons,e']
   rw[qB e,b];exact h2
  ·have e':¬q.1=k:=λz=>e (h1.trans z);have b:atKey (q::qs) k=atKey qs k:=by simp [atKey,List.find?_cons,e']
   rw[qN e,b];exact ih
theorem KT.repl{H:Hp}{ag:List (List Key×V)}{xs:List (List Key×Addr×Value)}(r:KT H ag xs)(k:List Key){y:V}{u:Value}(ry:RelV y u) :
  KT H (ag.map λkv=>if kv.1=k then(kv.1,y)else kv) (xs.map (putAt k u)):=by
 induction r with
 | nil=>exact .nil
 | @cons p q ps qs h t ih=>
  rw[nE,nE];refine .cons ?_ ih;obtain⟨h1,h2,h3⟩:=h;unfold putAt;by_cases e:p.1=k
  ·rw[tD e,tD (h1.symm.trans e)];exact⟨h1,h2,ry⟩
  ·rw[nZ e,nZ (λz=>e (h1.trans z))];exact⟨h1,h2,h3⟩
theorem KT.put{H:Hp}{ag:List (List Key×V)}{xs:List (List Key×Addr×Value)}(r:KT H ag xs)(k:List Key){b:Addr}{y:V}{u:Value}(hb:H b=some (.tup (k.map kV)))(ry:RelV y u) :
  KT H (qE ag k y) (storedH xs k b u):=by
 have e:(ag.any λkv=>decide (kv.1=k))=(atKey xs k).isSome:=by
  rw[xD,(r.val k).isSome_eq,Option.isSome_map]
 unfold qE storedH;rw[e];by_cases q:(atKey xs k).isSome=true
 ·rw[tD q,tD q];exact r.repl k ry
 ·rw[nZ q,nZ q];exact Paired.snoc r ⟨rfl,hb,ry⟩
theorem KT.keeps{H H':Hp}{ag:List (List Key×V)}{xs:List (List Key×Addr×Value)}(r:KT H ag xs)(ht:∀b ys,H b=some (.tup ys)->H' b=some (.tup ys)):KT H' ag xs:=
 Paired.mapP r λ_ _ z=>⟨z.1,ht _ _ z.2.1,z.2.2⟩
section
variable{P:Program}{w:World}{H:Hp}{h:Heap}{a:Addr}
theorem rd_of{u:HO}(ok:HOk P w H h)(e:Rd H a u):ObjOk P w H h a u:=e.ok ok
theorem uE{ag:List (Key×V)}(ok:HOk P w H h)(e:Rd H a (.dK ag)):ag.length<=sizeLine/\(a==sysModules)=false/\∃vs,KV ag vs/\h.DictOf (kE P w) a vs:=
 show ObjOk P w H h a (.dK ag)from rd_of ok e
theorem OM{ag:List (Key×V)}(ok:HOk P w H h)(e:H a=some (.dK ag)):ag.length<=sizeLine/\(a==sysModules)=false/\∃vs,KV ag vs/\h.DictOf (kE P w) a vs:=uE ok (.inl e)
theorem CO{ks:List Key}(ok:HOk P w H h)(e:H a=some (.tup (ks.map kV))):(tupleKind (kE P w)).is h ks a:=by
 obtain⟨_,its,r,⟨o,h1,h2,n,h3⟩,_⟩:=(show ObjOk P w H h a (.tup (ks.map kV))from ok a _ e);exact⟨o,its.toArray,n,h1,h2,h3,by simpa using ET r⟩
theorem EZ{ag:List (List Key×V)}(ok:HOk P w H h)(e:Rd H a (.dT ag)):ag.length<=sizeLine/\(a==sysModules)=false/\
  ∃xs,KT H ag xs/\h.DictOfH (tupleKind (kE P w)) a xs:=by
 obtain⟨z,y,xs,r,o,es,ep,h1,h2,h3,h4,h5⟩:=(show ObjOk P w H h a (.dT ag)from rd_of ok e);refine⟨z,y,xs,r,o,es,ep,h1,h2,h3,h4,λx hx=>?_,h5⟩;have all:∀{l:List (List Key×V)} {m:List (List Key×Addr×Value)},KT H l m->∀x∈m,(tupleKind (kE P w)).is h x.1 x.2.1:=by
  intro l m q;induction q with
  | nil=>intro x hx;exact nomatch hx
  | @cons p q ps qs hq t ih=>
   intro x hx;rcases nF.mp hx with e | hx
   ·subst e;exact CO ok (by rw[<-hq.1];exact hq.2.1)
   ·exact ih x hx
 exact all r x hx
theorem dt_of{ag:List (List Key×V)}(ok:HOk P w H h)(e:H a=some (.dT ag)):ag.length<=sizeLine/\(a==sysModules)=false/\
  ∃xs,KT H ag xs/\h.DictOfH (tupleKind (kE P w)) a xs:=EZ ok (.inl e)
end
def DGet(H:Hp)(a:Addr)(y:V)(r:Option V):Prop:=
 (∃ag k,Rd H a (.dK ag)/\y=kV k/\r=kS ag k)∨∃ag k b,Rd H a (.dT ag)/\y=.ref b/\H b=some (.tup (k.map kV))/\r=kS ag k
def DPut(H:Hp)(a:Addr)(y v:V)(H':Hp):Prop:=
 (∃ag k,H a=some (.dK ag)/\y=kV k/\ag.length<sizeLine/\H'=upd H a (.dK (qE ag k v)))∨
 ∃ag k b,H a=some (.dT ag)/\y=.ref b/\H b=some (.tup (k.map kV))/\ag.length<sizeLine/\H'=upd H a (.dT (qE ag k v))
theorem DGet.k{H:Hp}{a:Addr}{ag:List (Key×V)}{k:Key}(e:H a=some (.dK ag)):DGet H a (kV k) (kS ag k):=.inl ⟨ag,k,.inl e,rfl,rfl⟩
theorem DPut.k{H:Hp}{a:Addr}{ag:List (Key×V)}{k:Key}{v:V}(e:H a=some (.dK ag))(hl:ag.length<sizeLine):DPut H a (kV k) v (upd H a (.dK (qE ag k v))):=.inl ⟨ag,k,e,rfl,hl,rfl⟩
section
variable{X:Cx}{ac:List (Addr×Obj)}{σ:St}{H:Hp}{s:Shared}{a:Addr}{y v:V}{u r:Value}{o:Option V}{A:Around}{E:Value->Shared->Prop}
theorem Inv.big(I:Inv X ac σ H s):sysModules<s.heap.objs.size:=by
 have h:mainGlobals<s.heap.objs.size:=(I.mod.glob.keeps I.bk).lt;exact Nat.lt_trans (by decide) h
theorem QY{Q:Value->Shared->Prop}(hu:A.units+1<cLine)(I:Inv X ac σ H s)(g:DGet H a y (some v))(ry:RelV y u)(h:∀w' s',Inv X ac σ H s'->RelV v w'->Q w' s') :
  wpAny (model X.prog X.w) A (getItem (.ref a) u) Q E s:=by
 rcases g with⟨ag,k,e,ey,l⟩ | ⟨ag,k,b,e,ey,eb,l⟩
 ·subst ey;obtain⟨z,hd,vs,rel,dd⟩:=uE I.hok e;obtain⟨w',hw,rw'⟩:=RelO.some_of (v:=v) (o:=valueAt vs k) (by rw[l];exact rel.val k);exact wpAny_getItem_of (AF ry) dd.mapOf hw (h w' _ (I.tok _) rw')
 ·subst ey;cases (show u=Value.ref b from ry);obtain⟨z,hd,xs,rel,dd⟩:=EZ I.hok e;obtain⟨w',hw,rw'⟩:=RelO.some_of (v:=v) (o:=(atKey xs k).map (·.2)) (by rw[l];exact rel.val k);obtain⟨p,hp,hp2⟩:=Option.map_eq_some_iff.mp hw;refine wpAny_getItem_heap (tupleKind_room_in1 hu) (CO I.hok eb) dd hp ?_;rw[hp2];exact h w' _ (I.tok _) rw'
theorem d_in{Q:Value->Shared->Prop}(hu:A.units+1<cLine)(I:Inv X ac σ H s)(g:DGet H a y o)(ry:RelV y u)(h:∀s',Inv X ac σ H s'->Q (.bool o.isSome) s') :
  wpAny (model X.prog X.w) A (compareOp .In u (.ref a)) Q E s:=by
 rcases g with⟨ag,k,e,ey,l⟩ | ⟨ag,k,b,e,ey,eb,l⟩
 ·subst ey;obtain⟨z,hd,vs,rel,dd⟩:=uE I.hok e;refine wpAny_in_of (AF ry) hd dd.mapOf ?_;rw[<-(rel.val k).isSome_eq,<-l];exact h _ (I.tok _)
 ·subst ey;cases (show u=Value.ref b from ry);obtain⟨z,hd,xs,rel,dd⟩:=EZ I.hok e;refine wpAny_in_heap (tupleKind_room_in1 hu) (CO I.hok eb) hd dd ?_;have q:=(rel.val k).isSome_eq;rw[Option.isSome_map]at q;rw[<-q,<-l];exact h _ (I.tok _)
theorem uG{h':Heap}{t':Nat}{ob:HO}(I:Inv X ac σ H s)(mu:Mut (H a))(hs:Heap.SameBut a s.heap h')(he:∃q,h'.get? a=some q)(new:ObjOk X.prog X.w (upd H a ob) h' a ob) :
  Inv X ac σ (upd H a ob) { s with heap:=h',toks:=t' } :=
 I.write (x:=a) (e:=a) mu (.inl rfl) (λb q hb z=>(hs.2 b hb).trans z) he new
theorem CV{P:Program}{w:World}{H':Hp}{h':Heap}{ag:List (Key×V)}{vs:List (Key×Value)}(z:ag.length<=sizeLine)(hd:(a==sysModules)=false)(rel:KV ag vs)(dd:h'.DictOf (kE P w) a vs) :
  ObjOk P w H' h' a (.dK ag):=⟨z,hd,vs,rel,dd⟩
theorem QX{H':Hp}{Q:Unit->Shared->Prop}(hu:A.units+1<cLine)(I:Inv X ac σ H s)(g:DPut H a y v H')(ry:RelV y u)(rv:RelV v r)(h:∀s',Inv X ac σ H' s'->Q () s') :
  wpAny (model X.prog X.w) A (setItem (.ref a) u r) Q E s:=by
 rcases g with⟨ag,k,e,ey,l,eH⟩ | ⟨ag,k,b,e,ey,eb,l,eH⟩
 ·subst ey eH;obtain⟨z,hd,vs,rel,dd⟩:=OM I.hok e;have hz:vs.length<=sizeLine:=by rw[<-rel.length];exact z
  have hl:(qE ag k v).length<=sizeLine:=by have:=vC ag k v;omega
  refine wpAny_setItem_pairs (hsz:=hz) (AF ry) dd λh' dd' hs=>h _ ?_;have he:∃q,h'.get? a=some q:=let ⟨q,_,_,hq,_⟩:=dd';⟨q,hq⟩;exact uG I (by rw[e];exact True.intro) hs he (CV hl hd (rel.put k rv) dd')
 ·subst ey eH;cases (show u=Value.ref b from ry);obtain⟨z,hd,xs,rel,dd⟩:=dt_of I.hok e;have hz:xs.length<=sizeLine:=by rw[<-Paired.length rel];exact z
  have hl:(qE ag k v).length<=sizeLine:=by have:=vC ag k v;omega
  refine wpAny_setItem_heap (hsz:=hz) (tupleKind_room_in1 hu) (CO I.hok eb) dd λh' dd' hs=>h _ ?_;obtain⟨q,es,ep,hq,h2,h3,h4,_,h5⟩:=dd';refine uG I (by rw[e];exact True.intro) hs ⟨q,hq⟩ ⟨hl,hd,_,(rel.put k eb rv).keeps λc ys ec=>?_,q,es,ep,hq,h2,h3,h4,h5⟩;rw[jH (ne_of ec e (λz=>nomatch z))];exact ec
end
section
variable{X:Cx}{ac:List (Addr×Obj)}{σ:St}{H:Hp}{s:Shared}{a:Addr}{ag:List (Key×V)}{k:Key}{u:Value}{A:Around}{E:Value->Shared->Prop}
end
def NoSl(i:Expr):Prop:=∀ov iv,subscripted i false ov iv=operate [ov,iv] (getItem ov iv)
theorem WZ{prog:Program}{w:World}{A:Around}{E:Value->Shared->Prop}{s:Shared}{env:Env}{value slice:Expr}{pos:Pos}{T id:String}{Q:Value->Shared->Prop}
  (hl:typeLookup (.type T) "__getitem__" = pure (some (.builtin id))) (hs:NoSl slice)
  (h:wpAny (model prog w) A (eval value env) (λo s₁=>wpAny (model prog w) A (eval slice env) (λi s₂=>s₂.TypeIs o T/\wpAny (model prog w) A (getItem o i) Q E s₂) E s₁) E s) :
  wpAny (model prog w) A (eval (.Subscript value slice pos) env) Q E s:=by
 refine Subscript_ (nY h (λo s₁ h₁=>nY h₁ (λi s₂ h₂=>?_) λ_ _ x=>x) λ_ _ x=>x);obtain⟨hT,h₂⟩:=h₂;unfold subscriptTail;refine nW ?_;rw[getitemInPython_of_ne hT.not_modules];refine nW (wpAny_specialOf hT hl ?_);have fin:wpAny (model prog w) A (subscripted slice false o i) (λr s₃=>wpAny (model prog w) A (letTemporaryGo value o r >>= λ_=>pure r) Q E s₃) E s₂:=by
  rw[hs o i];exact wpAny_operating (nY h₂ (λr s₃ h₃=>nW (wpAny_letTemporaryGo (nX h₃))) λ_ _ x=>x)
 first
  | exact nX (nW fin)
  | exact nW (nX (nW fin))
  | exact nW fin
theorem KG{X:Cx}{ac:List (Addr×Obj)}{σ:St}{H:Hp}{s:Shared}{a:Addr}{y:V}{o:Option V}(I:Inv X ac σ H s)(g:DGet H a y o):s.TypeIs (.ref a) "dict":=by
 rcases g with⟨ag,k,e,_,_⟩ | ⟨ag,k,b,e,_,_,_⟩
 ·obtain⟨_,_,vs,_,dd⟩:=uE I.hok e;exact dd.typeIs
 ·obtain⟨_,_,xs,_,dd⟩:=EZ I.hok e;exact dd.typeIs
def tDGet(td ty:TE):TE:=fun σ H Q=>td σ H λx H1=>ty σ H1 λy H2=>∃a v,x=.ref a/\DGet H2 a y (some v)/\Q v H2
def tDIn(ty td:TE):TE:=fun σ H Q=>ty σ H λy H1=>td σ H1 λx H2=>∃a o,x=.ref a/\DGet H2 a y o/\Q (.bl o.isSome) H2
def sDPut(td ty tv:TE):TS:=λD σ H=>tv σ H λv H1=>td σ H1 λx H2=>ty σ H2 λy H3=>∃a H4,x=.ref a/\DPut H3 a y v H4/\D.nx σ H4
section
variable{X:Cx}{o i e value:Expr}{pos pos' tpos:Pos}{td ty tv:TE}
theorem HE(hu:X.A.units+1<cLine)(ho:PE X o td)(hi:PE X i ty)(hs:NoSl i):PE X (.Subscript o i pos) (tDGet td ty):=by
 intro ac s σ H Q I h;refine WZ PySem.F.slot_dict_getitem.lookup hs (thn (ho ac s σ H _ I h) λu s1 ⟨x,H1,I1,rx,q1⟩=>thn (hi ac s1 σ H1 _ I1 q1) λiv s2 ⟨y,H2,I2,ry,a,v,ex,g,q2⟩=>?_);subst ex;obtain rfl:u=Value.ref a:=rx;exact⟨KG I2 g,QY hu I2 g ry λw' s3 I3 rw'=>⟨v,H2,I3,rw',q2⟩⟩
theorem pc_din(hu:X.A.units+1<cLine)(hi:PE X i ty)(ho:PE X o td):PC X .In i o (tDIn ty td):=by
 intro ac s σ H Q I h;refine thn (hi ac s σ H _ I h) λiv s1 ⟨y,H1,I1,ry,q1⟩=>thn (ho ac s1 σ H1 _ I1 q1) λu s2 ⟨x,H2,I2,rx,a,ov,ex,g,q2⟩=>?_;subst ex;obtain rfl:u=Value.ref a:=rx;exact d_in hu I2 g ry λs3 I3=>⟨.bl ov.isSome,H2,I3,rfl,q2⟩
theorem HA(hu:X.A.units+1<cLine)(ho:PE X o td)(hi:PE X i ty)(hv:PE X value tv)(hs:swapsWith value (some (.Subscript o i pos')) pos.line X.env=pure false) :
  PS X (.Assign [.Subscript o i pos'] value pos) (sDPut td ty tv):=by
 intro ac s σ H D I h;refine wpAny_Assign_Subscript (thn (hv ac s σ H _ I h) λr s1 ⟨v,H1,I1,rv,q1⟩=>thn (ho ac s1 σ H1 _ I1 q1) λu s2 ⟨x,H2,I2,rx,q2⟩=>thn (hi ac s2 σ H2 _ I2 q2) λiv s3 ⟨y,H3,I3,ry,a,H4,ex,g,q3⟩=>?_) hs;subst ex;obtain rfl:u=Value.ref a:=rx;exact QX hu I3 g ry rv λs4 I4=>⟨σ,H4,I4,q3⟩
end
theorem KF{P:Program}{w:World}{H:Hp}(h:Heap)(hb:sysModules<h.objs.size):ObjOk P w H (h.push { cls:=.type "dict",data:=.dict #[] }) h.objs.size (.dK []):=
 ⟨nR _,beq_eq_false_iff_ne.mpr (Ne.symm (nM hb)),[],.nil,Heap.DictOf.new h⟩
def tDNewK:TE:=λ_ H Q=>∀p,H p=none->Q (.ref p) (upd H p (.dK []))
section
variable{X:Cx}{pos:Pos}
theorem zA:PE X (.Dict [] [] pos) tDNewK:=λac s σ H Q I h=>
 wpAny_Dict_empty ⟨.ref s.heap.objs.size,_,I.laid (a:=s.heap.objs.size) (o:=.dK []) (t':=s.toks) (λ_ _ q=>gL _ q) gA (KF s.heap I.big),rfl,h _ (I.hok.fresh gA)⟩
end
def LJ:List (TE×TE)->St->Hp->(List (V×V)->Hp->Prop)->Prop
 | [],_,H,Q=>Q [] H
 | (tk,tv)::r,σ,H,Q=>tk σ H λx H1=>tv σ H1 λy H2=>LJ r σ H2 λps H3=>Q ((x,y)::ps) H3
abbrev VV:List (V×V)->List (Value×Value)->Prop:=Paired λp q=>RelV p.1 q.1/\RelV p.2 q.2
def PPs(X:Cx)(pos:Pos)(keys:List (Option Expr))(values:List Expr)(trs:List (TE×TE)):Prop:=
 ∀(ac:List (Addr×Obj)) (s:Shared) (σ:St) (H:Hp) (Q:List (V×V)->Hp->Prop),Inv X ac σ H s->LJ trs σ H Q->
  wpAny (model X.prog X.w) X.A (evalPairs (pairTrees keys values X.env pos)) (λvs s'=>∃ps H',Inv X ac σ H' s'/\VV ps vs/\Q ps H') X.xe s
theorem XU{X:Cx}{pos:Pos} :PPs X pos [] [] []:=λac s σ H Q I h=>pairTrees_nil_walk ⟨[],H,I,.nil,h⟩
theorem TN{X:Cx}{pos:Pos}{k v:Expr}{ks:List (Option Expr)}{vs:List Expr}{tk tv:TE}{trs:List (TE×TE)}(hk:PE X k tk)(hv:PE X v tv)(hr:PPs X pos ks vs trs) :
  PPs X pos (some k::ks) (v::vs) ((tk,tv)::trs):=λac s σ H Q I h=>
 pairTrees_cons_walk (thn (hk ac s σ H _ I h) λu s1 ⟨x,H1,I1,rx,q1⟩=>thn (hv ac s1 σ H1 _ I1 q1) λw2 s2 ⟨y,H2,I2,ry,q2⟩=>
  thn (hr ac s2 σ H2 _ I2 q2) λws s3 ⟨ps,H3,I3,rel,q3⟩=>⟨(x,y)::ps,H3,I3,.cons ⟨rx,ry⟩ rel,q3⟩)
def CM(ag more:List (Key×V)):List (Key×V):=more.foldl (λacc kv=>qE acc kv.1 kv.2) ag
theorem KV.merge:∀{more:List (Key×V)} {rs:List (Key×Value)} {ag:List (Key×V)} {vs:List (Key×Value)},KV more rs->KV ag vs->KV (CM ag more) (merged vs rs):=by
 intro more rs ag vs r;unfold KV at r;induction r generalizing ag vs with
 | nil=>intro q;exact q
 | @cons p q ps qs h t ih=>
  intro r0;have e:KV (qE ag p.1 p.2) (stored vs q.1 q.2):=by
   have:=r0.put p.1 h.2;rw[<-h.1];exact this
  exact ih e
theorem zZ:∀(more ag:List (Key×V)),(CM ag more).length<=ag.length+more.length
 | [],ag=>by show ag.length<=ag.length+0;omega
 | p::r,ag=>by
  have h1:=zZ r (qE ag p.1 p.2);have h2:=vC ag p.1 p.2;show(CM (qE ag p.1 p.2) r).length<=_;rw[mO];omega
theorem CZ{P:Program}{w:World} :∀{ag:List (Key×V)} {ws:List (Value×Value)},VV (ag.map λkv=>(kV kv.1,kv.2)) ws->∃rs,Carries (kE P w) ws rs/\KV ag rs
 | [],_,r=>by rw[List.map_nil]at r;cases r;exact⟨[],True.intro,.nil⟩
 | p::ag,_,r=>by
  rw[nE]at r;cases r with
  | @cons a b as bs h t=>
   obtain⟨rs,c,q⟩:=CZ (P:=P) (w:=w) t;obtain⟨b1,b2⟩:=b;exact⟨(p.1,b2)::rs,⟨AF h.1,rfl,c⟩,.cons ⟨rfl,h.2⟩ q⟩
def tDisp(trs:List (TE×TE)):TE:=fun σ H Q=>∀p,H p=none->LJ trs σ (upd H p (.dK [])) λps H2=>H2 p=some (.dK [])/\∃ag:List (Key×V),ps=ag.map (λkv=>(kV kv.1,kv.2))/\ag.length<=15/\Q (.ref p) (upd H2 p (.dK (CM [] ag)))
theorem XZ{X:Cx}{pos:Pos}{keys:List (Option Expr)}{values:List Expr}{trs:List (TE×TE)}(h:PPs X pos keys values trs)(hall:keys.all (·.isSome)=true)(hl:keys.length=values.length)(h0:keys≠[])
  (h15:keys.length<=15):PE X (.Dict keys values pos) (tDisp trs):=by
 intro ac s σ H Q I q;have hn:=I.hok.fresh (nQ s.heap.objs.size);have I1:=I.laid (a:=s.heap.objs.size) (o:=.dK []) (h':=s.heap.push { cls:=.type "dict",data:=.dict #[] }) (t':=s.toks) (λ_ _ q=>gL _ q) gA (KF s.heap I.big);refine wpAny_Dict_walk (knd:=kE X.prog X.w) hall hl h0 h15 (thn (h ac _ σ _ _ I1 (q _ hn)) λws s2 ⟨ps,H2,I2,rel,e,ag,ep,lk,q2⟩=>?_);subst ep;obtain⟨rs,c,rk⟩:=CZ (P:=X.prog) (w:=X.w) rel;obtain⟨z,hd,vs0,r0,dd⟩:=OM I2.hok e;cases r0;refine⟨rs,c,dd,λh' dd' hs=>⟨.ref s.heap.objs.size,_, ?_,rfl,q2⟩⟩;have hz:(CM [] ag).length<=sizeLine:=by
  have h1:=zZ ag [];rw[List.length_nil]at h1;rw[sizeLine_eq];omega
 have he:∃q,h'.get? s.heap.objs.size=some q:=let ⟨q,_,_,hq,_⟩:=dd';⟨q,hq⟩;exact uG I2 (by rw[e];exact True.intro) hs he (CV hz hd (rk.merge .nil) dd')
structure M1(X:Cx)(o:Expr)(m:Str)(apos:Pos)(e:Expr)(cpos:Pos):Prop where
 base:attributeBase o m X.env (eval o X.env)=eval o X.env
 few:((backTo cpos (starEach [e] X.env)).all (λx=>!x.1)&&(backToKw cpos (keywordEach [] X.env)).all (λx=>x.1.isSome)
  &&decide (([e]:List Expr).length+([]:List Keyword).length+(if ([]:List Keyword).isEmpty then 0 else 1)<30))=true
 line:(apos.endLine==cpos.line)=true
 trees:backTo cpos (starEach [e] X.env)=[(false,eval e X.env)]
structure M2(X:Cx)(o:Expr)(m:Str)(apos:Pos)(e f:Expr)(cpos:Pos):Prop where
 base:attributeBase o m X.env (eval o X.env)=eval o X.env
 few:((backTo cpos (starEach [e,f] X.env)).all (λx=>!x.1)&&(backToKw cpos (keywordEach [] X.env)).all (λx=>x.1.isSome)
  &&decide (([e,f]:List Expr).length+([]:List Keyword).length+(if ([]:List Keyword).isEmpty then 0 else 1)<30))=true
 line:(apos.endLine==cpos.line)=true
 trees:backTo cpos (starEach [e,f] X.env)=[(false,eval e X.env),(false,eval f X.env)]
def IsD(H:Hp)(a:Addr):Prop:=(∃ag,Rd H a (.dK ag))∨∃ag,Rd H a (.dT ag)
theorem VI{X:Cx}{ac:List (Addr×Obj)}{σ:St}{H:Hp}{s:Shared}{a:Addr}(I:Inv X ac σ H s)(d:IsD H a) :
  s.TypeIs (.ref a) "dict"/\(∀b,Value.ref a=.ref b->∃ob,s.heap.get? b=some ob/\ob.dict=none)/\(a==sysModules)=false:=by
 rcases d with⟨ag,e⟩ | ⟨ag,e⟩
 ·obtain⟨_,hd,vs,_,dd⟩:=uE I.hok e;refine⟨dd.typeIs,λb q=>?_,hd⟩;cases q;obtain⟨ob,_,_,h1,h2,_⟩:=dd;exact⟨ob,h1,h2.2.1⟩
 ·obtain⟨_,hd,xs,_,dd⟩:=EZ I.hok e;refine⟨dd.typeIs,λb q=>?_,hd⟩;cases q;obtain⟨ob,_,_,h1,h2,_⟩:=dd;exact⟨ob,h1,h2.2.1⟩
section
variable{X:Cx}{ac:List (Addr×Obj)}{σ:St}{H:Hp}{s:Shared}{a:Addr}{y d:V}{u r:Value}{o:Option V}{A:Around}{E:Value->Shared->Prop}
theorem d_get2{Q:Value->Shared->Prop}(hu:A.units+1<cLine)(I:Inv X ac σ H s)(g:DGet H a y o)(ry:RelV y u)(rd:RelV d r)(h:∀w' s',Inv X ac σ H s'->RelV (o.getD d) w'->Q w' s') :
  wpAny (model X.prog X.w) A (call (.builtin "dict.get") [.ref a,u,r]) Q E s:=by
 rcases g with⟨ag,k,e,ey,l⟩ | ⟨ag,k,b,e,ey,eb,l⟩
 ·subst ey;obtain⟨z,hd,vs,rel,dd⟩:=uE I.hok e;refine call_meetsIn PySem.F.slot_dict_get dd.typeIs PySem.F.entry_dict_get (PySem.F.args_dict_get_3 _ _ _) (meets_dict_get_default (kE X.prog X.w) a (AF ry) hd r) ⟨_,dd.mapOf,h _ _ (I.tok _) ?_⟩;rw[l];exact(rel.val k).getD rd
 ·subst ey;cases (show u=Value.ref b from ry);obtain⟨z,hd,xs,rel,dd⟩:=EZ I.hok e;refine call_meetsIn PySem.F.slot_dict_get dd.typeIs PySem.F.entry_dict_get (PySem.F.args_dict_get_3 _ _ _) (meetsH_dict_get_default (tupleKind (kE X.prog X.w)) a b hd r) ⟨tupleKind_room_in1 hu,k,xs,CO I.hok eb,dd,h _ _ (I.tok _) ?_⟩;rw[l];exact(rel.val k).getD rd
end
def tDGet2(td ty tx:TE):TE:=fun σ H Q=>td σ H λx H1=>∃a,x=.ref a/\IsD H1 a/\ty σ H1 λy H2=>tx σ H2 λz H3=>∃o,DGet H3 a y o/\Q (o.getD z) H3
section
variable{X:Cx}{o e f:Expr}{apos cpos:Pos}{td ty tx:TE}
theorem JC(hu:X.A.units+1<cLine)(ho:PE X o td)(he:PE X e ty)(hf:PE X f tx)(m:M2 X o "get" apos e f cpos):PE X (.Call (.Attribute o "get" apos) [e,f] [] cpos) (tDGet2 td ty tx):=by
 intro ac s σ H Q I h;refine wpAny_Call_method m.base m.few m.line PySem.F.plainAttrs_dict PySem.F.slot_dict_get PySem.F.type_dict_get (thn (ho ac s σ H _ I h) λu s1 ⟨x,H1,I1,rx,a,ex,d,q1⟩=>?_);subst ex;obtain rfl:u=Value.ref a:=rx;obtain⟨t1,t2,_⟩:=VI I1 d;refine⟨t1,t2, ?_⟩;rw[m.trees];refine Calls.callWith_builtin rfl (Calls.evalArgs_plain (Calls.spliced_cons (thn (he ac s1 σ H1 _ I1 q1) λiv s2 ⟨y,H2,I2,ry,q2⟩=>
  Calls.spliced_cons (thn (hf ac s2 σ H2 _ I2 q2) λfv s3 ⟨z,H3,I3,rz,ov,g,q3⟩=>Calls.spliced_nil ?_))))
 exact d_get2 hu I3 g ry rz λw' s4 I4 rw'=>⟨_,H3,I4,rw',q3⟩
end
section
variable{X:Cx}{ac:List (Addr×Obj)}{σ:St}{H:Hp}{s:Shared}{a:Addr}{ag:List (Key×V)}{A:Around}{E:Value->Shared->Prop}
theorem WJ{Q:Value->Shared->Prop}(I:Inv X ac σ H s)(e:Rd H a (.dK ag))(h:∀p s',H p=none->Inv X ac σ (upd H p (.dK ag)) s'->Q (.ref p) s'):wpAny (model X.prog X.w) A (call (.type "dict") [.ref a]) Q E s:=by
 obtain⟨z,hd,vs,rel,dd⟩:=uE I.hok e;refine kt_call_dict hd dd (by rw[<-rel.length];exact z) λh' dd' hs=>?_;refine h _ _ (I.hok.fresh gA) (I.laid (a:=s.heap.objs.size) (o:=.dK ag) (t':=s.toks) (λb q hq=>?_) gA (CV z (beq_eq_false_iff_ne.mpr (Ne.symm (nM I.big))) rel dd'));exact(hs.2 b (nM (nK hq))).trans (gL _ hq)
end
section
variable{X:Cx}{ac:List (Addr×Obj)}{σ:St}{H:Hp}{s:Shared}{a:Addr}{y:V}{u:Value}{A:Around}{E:Value->Shared->Prop}
end
section
variable{X:Cx}
end
end L2
namespace L2
section
variable{κ:Type} [DecidableEq κ]
theorem RQ{ag:List (κ×V)}{k:κ}(h:kS ag k=none):¬k∈ag.map (·.1):=by
 intro m;obtain⟨p,hp,e⟩:=nN.mp m;have q:(ag.any λkv=>decide (kv.1=k))=true:=List.any_eq_true.mpr ⟨p,hp,mX e⟩;rw[xD,h]at q;exact absurd q (by simp)
theorem WW{ag:List (κ×V)}{k:κ}{v:V}(h:kS ag k=some v):k∈ag.map (·.1):=by
 have q:(ag.any λkv=>decide (kv.1=k))=true:=by
  rw[xD,h];all_goals rfl
 obtain⟨p,hp,e⟩:=List.any_eq_true.mp q;exact nN.mpr ⟨p,hp,mG e⟩
end
end L2
namespace LwD
open PySem PySem.Spec PyProof.Rows L2
section
variable{prog:Program}{w:World}{K:Type} [DecidableEq K]{knd:HeapKind prog w K}{A:Around}{E:Value->Shared->Prop}{s:Shared}
end
section
variable{X:Cx}{ac:List (Addr×Obj)}{σ:L2.St}{H:Hp}{s:Shared}{a b:Addr}{ag:List (List Key×V)}{k:List Key}{E:Value->Shared->Prop}
variable{o e:Expr}{td ty:TE}{apos cpos:Pos}
end
def Raw(h:Heap)(d:Addr)(es:Array DictEntry)(ep:Nat):Prop:=∃o,h.get? d=some o/\o.ExactDict/\o.data=.dict es ep
theorem Raw.lt{h:Heap}{d:Addr}{es:Array DictEntry}{ep:Nat}(r:Raw h d es ep):d<h.objs.size:=let ⟨_,e,_⟩:=r;nK e
theorem Raw.keep{h h':Heap}{d:Addr}{es:Array DictEntry}{ep:Nat}(r:Raw h d es ep)(k:∀o,h.get? d=some o->h'.get? d=some o):Raw h' d es ep:=let ⟨o,e,x⟩:=r;⟨o,k o e,x⟩
theorem Raw.ty{s:Shared}{d:Addr}{es:Array DictEntry}{ep:Nat}(r:Raw s.heap d es ep):s.TypeIs (.ref d) "dict":=let ⟨o,e,c,_⟩:=r;⟨o,e,c.1⟩
section
variable{prog:Program}{w:World}{A:Around}{E:Value->Shared->Prop}{s:Shared}{d it:Addr}{es:Array DictEntry}{ep i:Nat}
theorem IU{Q:Value->Shared->Prop}(lo:(d==sysModules)=false)(r:Raw s.heap d es ep)
  (q:Q (.ref s.heap.objs.size) { s with heap:=s.heap.push { cls:=.type "dict_keyiterator",data:=.fields #[.ref d,.int 0 0,.int es.size 0,.int ep 0] } }):wpAny (model prog w) A (pyIter (.ref d)) Q E s:=by
 have ty:=r.ty;obtain⟨o,ho,hc,hdat⟩:=r;refine wpAny_pyIter_slot ty PySem.F.slot_dict_iter (wpAny_call_entry PySem.F.slot_dict_iter ty PySem.F.entry_dict_iter ?_ (PySem.F.args_dict_iter_1 _));unfold Builtin.«dict.__iter__»;refine nW (show wpAny _ _ (Builtin.Dict.dictSlotNone _ _) _ _ s from ?_);unfold Builtin.Dict.dictSlotNone;refine nW (wpAny_notOrdered_dict ty (show wpAny _ _ (pure (Value.ref d)) _ _ s from nX ?_));show wpAny _ _ (Builtin.Dict.showsAll d >>= _) _ _ s;unfold Builtin.Dict.showsAll;rw[nZ (by rw[lo];exact gZ)];refine nW (nX (nW (wpAny_dictEntries ho hdat (nW (wpAny_dictEpoch ho hdat ?_)))));refine nW (wpAny_newObj_type (nX ⟨_,rfl,"dict_keyiterator",_,⟨_,gW _ rfl,rfl⟩,PySem.F.slot_dict_keyiterator_next.lookup, ?_⟩));simpa [rawInt]using q
theorem SZ{Q:Option Value->Shared->Prop}(k:s.heap.IsKeyIter it d i es.size ep)(r:Raw s.heap d es ep)(hi:i<es.size)
  (q:∀h',h'.IsKeyIter it d (i+1) es.size ep->Heap.SameBut it s.heap h'->Q (some es[i].key) { s with heap:=h' }):wpAny (model prog w) A (pyNext (.ref it)) Q E s:=by
 have ty:=k.typeIs;obtain⟨o,ho,hc,hd⟩:=id k;obtain⟨od,hod,hcd,hdd⟩:=id r;have own:Builtin.Dict_items.ownsTuple "dict_keyiterator" = false:=by decide
 unfold pyNext;refine nW (wpAny_attempt (wpAny_callSpecial?_slot (name:=Str.ofString "__next__") ty PySem.F.slot_dict_keyiterator_next (wpAny_call_entry PySem.F.slot_dict_keyiterator_next ty PySem.F.entry_dict_keyiterator_next ?_ (PySem.F.args_dict_keyiterator_next_1 _))));refine nW (nX (nW (nW ?_)));first | refine nW (wpAny_typeNameOfWhole_keyiter ty (nX (nW (wpAny_fieldsOf ho hd ?_)))) | refine nW (wpAny_typeNameOf_keyiter ty (nX (nW (wpAny_fieldsOf ho hd ?_))))
 simp only[own,Bool.false_eq_true,if_false];show wpAny _ _ (if (Value.ref d==Value.none)=true then _ else _) _ _ s;rw[nZ (show ¬((Value.ref d==Value.none)=true)from gZ)];refine nW (nX (nW (wpAny_dictEntries hod hdd ?_)));rw[nZ (by simp)];refine nW (nX (nW (wpAny_dictEpoch hod hdd ?_)));rw[nZ (by simp)];refine nX ?_;simp only[show ¬((i:Int)<0)from by omega,if_false,mJ,Array.getElem?_eq_getElem hi];refine nW ?_;first | refine nW (wpAny_typeNameOfWhole_keyiter ty (nX (nW (wpAny_isOneOf_keyiter ty ?_)))) | refine nW (wpAny_typeNameOf_keyiter ty (nX (nW (wpAny_isOneOf_keyiter ty ?_))))
 show wpAny _ _ (setField (.ref it) 1 (rawInt ((i:Int)+1)) >>= _) _ _ s;have k':(s.heap.update it (Obj.mapFields (·.setIfInBounds 1 (rawInt ((i:Int)+1))))).IsKeyIter it d (i+1) es.size ep:=
  ⟨_,Heap.get?_update_self _ ho (Obj.isFreed_of_fields (Obj.data_mapFields hd _)),(Obj.cls_mapFields ..).trans hc,by rw[Obj.data_mapFields hd];simp [rawInt]⟩
 refine nW (wpAny_setField ho hd (by simp) (nW (wpAny_holding ?_)));refine nW (wpAny_isOneOf_keyiter (s:={ s with heap:=s.heap.update it (Obj.mapFields (·.setIfInBounds 1 (rawInt ((i:Int)+1)))) }) k'.typeIs ?_);show wpAny _ _ (pure es[i].key) _ _ _;exact nX (nX ⟨_,rfl,nX (q _ k' (Heap.SameBut.update ..))⟩)
theorem XO{Q:Option Value->Shared->Prop}(hh:A.handled=none)(k:s.heap.IsKeyIter it d es.size es.size ep)(r:Raw s.heap d es ep)(q:∀h',Heap.ExtBut it s.heap h'->Q none { s with heap:=h' }):wpAny (model prog w) A (pyNext (.ref it)) Q E s:=by
 have ty:=k.typeIs;obtain⟨o,ho,hc,hd⟩:=id k;obtain⟨od,hod,hcd,hdd⟩:=id r;have own:Builtin.Dict_items.ownsTuple "dict_keyiterator" = false:=by decide
 unfold pyNext;refine nW (wpAny_attempt (wpAny_callSpecial?_slot (name:=Str.ofString "__next__") ty PySem.F.slot_dict_keyiterator_next (wpAny_call_entry PySem.F.slot_dict_keyiterator_next ty PySem.F.entry_dict_keyiterator_next ?_ (PySem.F.args_dict_keyiterator_next_1 _))));refine nW (nX (nW (nW ?_)));first | refine nW (wpAny_typeNameOfWhole_keyiter ty (nX (nW (wpAny_fieldsOf ho hd ?_)))) | refine nW (wpAny_typeNameOf_keyiter ty (nX (nW (wpAny_fieldsOf ho hd ?_))))
 simp only[own,Bool.false_eq_true,if_false];show wpAny _ _ (if (Value.ref d==Value.none)=true then _ else _) _ _ s;rw[nZ (show ¬((Value.ref d==Value.none)=true)from gZ)];refine nW (nX (nW (wpAny_dictEntries hod hdd ?_)));rw[nZ (by simp)];refine nW (nX (nW (wpAny_dictEpoch hod hdd ?_)));rw[nZ (by simp)];refine nX ?_;simp only[show ¬((es.size:Int)<0)from by omega,if_false,mJ,Array.getElem?_eq_none (nQ es.size)];refine nW ?_;first | refine nW (wpAny_typeNameOfWhole_keyiter ty (nX ?_)) | refine nW (wpAny_typeNameOf_keyiter ty (nX ?_))
 show wpAny _ _ (setField (.ref it) 0 .none >>= _) _ _ s;refine nW (wpAny_setField ho hd (by simp) (show wpAny _ _ (newExc (.type "StopIteration") [] >>= _) _ _ _ from nW ?_));simp only[newExc,newTuple];refine nW (wpAny_newObj_type (nW (m:=firstArgMember _ _) (wpAny_of_eq (a:=Value.none) (by first | rfl | (simp only[firstArgMember];rfl)) (wpAny_newObj_type ?_ (by size_fits)))) (by size_fits));simp only[raiseNew];refine nW (wpAny_handled ?_);rw[show A.in1.handled=none from hh];refine nW (nX (wpAny_throw ?_));refine nW (wpAny_isInstance (b:=true) (T:="StopIteration") ⟨_,gW _ rfl,rfl⟩ isSubtype_stop ?_);exact nX (q _ (((Heap.SameBut.update ..).extBut.push _).push _))
theorem EI(hh:A.handled=none)(hne:d≠it):Walks prog w A it [it,d] [it] es.size (λi v=>∃h:i<es.size,v=es[i].key) (λi h=>h.IsKeyIter it d i es.size ep/\Raw h d es ep) where
 sub:=λb hb=>by simp at hb;simp [hb]
 frame:=λ_ _ _ st hk=>⟨st.1.at λo e=>hk it (by simp) o e,st.2.keep λo e=>hk d (by simp) o e⟩
 item:=λi s Q E hi st hQ=>SZ st.1 st.2 hi λh' k' hs'=>hQ _ h' s.toks ⟨hi,rfl⟩ ⟨k',st.2.keep λo e=>hs'.extBut d o hne e⟩ λb o hb e=>hs'.extBut b o (λh=>hb (by simp [h])) e
 done:=λs Q E st hQ=>XO hh st.1 st.2 λh' he'=>hQ h' s.toks λb o hb e=>he' b o (λh=>hb (by simp [h])) e
 self:=λ_ _ _ _ st hQ=>wpAny_pyIter_keyiter st.1 hQ
theorem XN(lo:(d==sysModules)=false):PySem.W.KdlSrc prog w "dict" d d es.size (λi v=>∃h:i<es.size,v=es[i].key) (λh=>Raw h d es ep) where
 type:=λ_ hm=>hm.ty
 there:=λ_ hm=>⟨hm.lt,hm.lt⟩
 keep:=λ_ _ hm hk=>hm.keep λo e=>hk d (.inl rfl) o e
 notList:=by decide
 notTuple:=by decide
 hint:=λ_ _ _ _ hm hq=>PySem.W.kdl_hint_dict hm.ty hq
 iter:=λ_ _ hh hm=>⟨_,_,(λ_ _ hq=>IU lo hm hq),EI hh (nM hm.lt),⟨⟨_,gW _ rfl,rfl,rfl⟩,hm.keep λo e=>gL _ e⟩⟩
end
end LwD
namespace LwD
open PySem PySem.W PySem.Spec PyProof.Rows
section
variable{prog:Program}{w:World}{A:Around}{E:Value->Shared->Prop}{s:Shared}
end
end LwD
namespace LwD
open PySem PySem.Spec PyProof.Rows L2 Lw
theorem YO{h:Heap}{a:Addr}{m m':Str->Option Value}(x:h.Ns a m)(y:h.Ns a m'):m=m':=by
 obtain⟨o,es,ep,ho,hd,hk,hm⟩:=x;obtain⟨o',es',ep',ho',hd',hk',hm'⟩:=y;rw[ho]at ho';cases ho';rw[hd]at hd';cases hd'
 funext z
 rw[<-hm z,<-hm' z]
theorem UT{P:Program}{w:World}{H:Hp}{h:Heap}{a:Addr}{o:HO}(x:ObjOk P w H h a o):∃q,h.get? a=some q:=by
 cases o with
 | lst xs=>obtain⟨_,_,_,_,e⟩:=x;exact⟨_,e⟩
 | tup xs=>obtain⟨_,_,_,⟨q,e,_⟩,_⟩:=x;exact⟨_,e⟩
 | dK ag=>obtain⟨_,_,_,_,o,_,_,e,_⟩:=x;exact⟨_,e⟩
 | dT ag=>obtain⟨_,_,_,_,o,_,_,e,_⟩:=x;exact⟨_,e⟩
 | set S n=>obtain⟨o,_,_,_,e,_⟩:=x;exact⟨_,e⟩
 | ins C dx fs=>obtain⟨_,_,_,e,_⟩:=x;exact⟨_,e⟩
 | own y=>exact x
 | xd fs=>obtain⟨_,⟨_,_,_,e,_⟩,_⟩:=x;exact⟨_,e⟩
 | rng lo hi=>obtain⟨_,_,_,e⟩:=x;exact⟨_,e⟩
 | frz ob u=>exact⟨_,x.1⟩
 | tbl ps=>exact⟨_,x⟩
 | met f y=>exact⟨_,x⟩
 | ext φ=>exact x.2.1
section
variable{X:Cx}{ac:List (Addr×Obj)}{σ:L2.St}{H:Hp}{s:Shared}
theorem JN{D:Addr}{o:Obj}{ho:HO}{h3:Heap}{m:Str->Option Value}{tk:Nat}(I:Inv X ac σ H s)(F:Fr X.base X.env.locals s.heap m)(F3:Fr X.base X.env.locals h3 m)(N3:News X.base X.env.locals h3 ((D,o)::zX X.base s.heap X.env.locals))
  (lt:∀q∈zX X.base s.heap X.env.locals,q.1<D) (new:h3.get? D=some o->ObjOk X.prog X.w (upd H D ho) h3 D ho):H D=none/\Inv X ac σ (upd H D ho) { s with heap:=h3,toks:=tk } :=by
 have n1:=N3 (D,o) (hW ..);have dn:s.heap.get? D=none:=by
  cases q:s.heap.get? D with
  | none=>rfl
  | some u=>exact absurd (lt _ (AD n1.2.1 n1.2.2 q)) (nG _)
 have Hn:H D=none:=by
  cases q:H D with
  | none=>rfl
  | some u=>
   obtain⟨z,e⟩:=UT (I.hok D u q);rw[dn]at e;cases e
 have kp:∀b u,b≠X.env.locals->s.heap.get? b=some u->h3.get? b=some u:=λb u hb e=>by
  cases q:X.base.get? b with
  | some z=>
   have y:=I.bk b z q;rw[e]at y;cases y;exact F3.keep b _ q
  | none=>exact(N3 (b,u) (gR _ (AD hb q e))).1
 have ne:∀b u,s.heap.get? b=some u->b≠D:=λb u e z=>by rw[z,dn]at e;cases e
 have thr:∀b u,s.heap.get? b=some u->∃u',h3.get? b=some u':=λb u e=>by
  by_cases hb:b=X.env.locals
  ·obtain⟨u',_,_,e',_⟩:=F3.ns;exact⟨u',by rw[hb];exact e'⟩
  ·exact⟨u,kp b u hb e⟩
 refine⟨Hn,I.step (g':=s.gens) (d':=s.drawn) (ch:=[]) (λ_ z=>nomatch z) (λb u hb _ _ e _=>kp b u hb e) (λb u hb _ _ e _=>⟨u.slots,kp b u hb e⟩) (λb u _ e n=>?_) (λb u _ e=>thr b u e) (λb xs e=>?_) (λb u v e=>?_) (λb ps e=>?_) (λm' hm=>?_) (λb u e=>?_) I.bare⟩
 ·rw[jH (ne b u e)];exact n
 ·rw[jH (kG e Hn)];exact e
 ·rw[jH (kG e Hn)];exact e
 ·exact⟨#[],by rw[jH (kG e Hn),e];simp⟩
 ·rw[YO hm F.ns];exact F3.ns
 ·by_cases hb:b=D
  ·subst hb;rw[jD]at e;cases e;exact new n1.1
  ·rw[jH hb]at e;refine(I.hok b u e).stay (λc v hc q=>kp c v (λz=>?_) q) (λc q=>by rw[jH (kG q Hn)];exact q) λc xs q=>by rw[jH (kG q Hn)];exact q
   rcases hc with y | y
   ·rw[<-y,z,I.free]at e;cases e
   ·rw[z,I.free]at y;cases y
end
section
variable{prog:Program}{w:World}{A:Around}{E:Value->Shared->Prop}{s:Shared}
end
section
variable{X:Cx}
end
end LwD
namespace L2
open PySem PySem.Spec PyProof.Rows
section
variable{prog:Program}{w:World}{A:Around}{E:Value->Shared->Prop}{s:Shared}
theorem EQ{it t:Addr}{k:Nat}{its:Array Value}{v:Value}{Q:Value->Shared->Prop}(st:s.heap.IsTupleIter it t k)(tu:s.heap.IsTuple t its)(hv:its[k]? = some v)
  (q:∀g,g.IsTupleIter it t (k+1)->Heap.SameBut it s.heap g->Q v { s with heap:=g }):wpAny (model prog w) A (Builtin.SmallTypes.nextOf (.ref it)) Q E s:=by
 obtain⟨oi,gi,ci,di⟩:=id st;obtain⟨ot,gt,_,nt,dt⟩:=tu;unfold Builtin.SmallTypes.nextOf;refine nW (wpAny_callSpecial?_slot (name:=Str.ofString "__next__") st.typeIs F.slot_tuple_iterator_next (wpAny_call_entry F.slot_tuple_iterator_next st.typeIs F.entry_tuple_iterator_next ?_ (F.args_tuple_iterator_next_1 _)));show wpAny _ _ (field (.ref it) 0 >>= _) _ _ _;refine nW (wpAny_field gi di (x:=.ref t) rfl ?_);show wpAny _ _ (if (Value.ref t==Value.none)=true then _ else _) _ _ _;rw[nZ (show ¬(Value.ref t==Value.none)=true from gZ)];show wpAny _ _ (field (.ref it) 1 >>= _) _ _ _;refine nW (wpAny_field gi di (x:=.int k 0) rfl ?_);show wpAny _ _ (seqItems? (.ref t) >>= _) _ _ _;refine nW (wpAny_seqItems gt dt ?_);simp only[mJ,hv];refine nW (wpAny_setField gi di (by simp) (nX ⟨v,rfl,nX (q _ ⟨_,Heap.get?_update_self _ gi (Obj.isFreed_of_fields (Obj.data_mapFields di _)),(Obj.cls_mapFields ..).trans ci,by rw[Obj.data_mapFields di];simp [rawInt]⟩ (Heap.SameBut.update ..))⟩))
theorem zQ{it t:Addr}{k:Nat}{its:Array Value}{Q:Value->Shared->Prop}(hh:A.handled=none)(st:s.heap.IsTupleIter it t k)(tu:s.heap.IsTuple t its)(hv:its[k]? = none)
  (q:∀g e,Heap.ExtBut it s.heap g->(∃o,g.get? e=some o/\o.cls=.type "StopIteration")->E (.ref e) { s with heap:=g }):wpAny (model prog w) A (Builtin.SmallTypes.nextOf (.ref it)) Q E s:=by
 obtain⟨oi,gi,ci,di⟩:=id st;obtain⟨ot,gt,_,nt,dt⟩:=tu;unfold Builtin.SmallTypes.nextOf;refine nW (wpAny_callSpecial?_slot (name:=Str.ofString "__next__") st.typeIs F.slot_tuple_iterator_next (wpAny_call_entry F.slot_tuple_iterator_next st.typeIs F.entry_tuple_iterator_next ?_ (F.args_tuple_iterator_next_1 _)));show wpAny _ _ (field (.ref it) 0 >>= _) _ _ _;refine nW (wpAny_field gi di (x:=.ref t) rfl ?_);show wpAny _ _ (if (Value.ref t==Value.none)=true then _ else _) _ _ _;rw[nZ (show ¬(Value.ref t==Value.none)=true from gZ)];show wpAny _ _ (field (.ref it) 1 >>= _) _ _ _;refine nW (wpAny_field gi di (x:=.int k 0) rfl ?_);show wpAny _ _ (seqItems? (.ref t) >>= _) _ _ _;refine nW (wpAny_seqItems gt dt ?_);simp only[mJ,hv];refine nW (wpAny_rule (nW (wpAny_setField gi di (by simp) ?_)));show wpAny _ _ (newExc (.type "StopIteration") [] >>= _) _ _ _;refine nW ?_;simp only[newExc,newTuple];refine nW (wpAny_newObj_type ?_ (by size_fits));refine nW (m:=firstArgMember _ _) (wpAny_of_eq (a:=Value.none) (by first | rfl | (simp only[firstArgMember];rfl)) ?_);refine wpAny_newObj_type ?_ (by size_fits);simp only[raiseNew];refine nW (wpAny_handled ?_);first | rw[show A.in1.handled=none from hh] | rw[hh]
 exact nW (nX (wpAny_throw (q _ _ (((Heap.SameBut.update ..).extBut.push _).push _) ⟨_,gW _ rfl,rfl⟩)))
structure ZT(z TI TO i1 i2 l1 l2:Addr)(k:Nat)(h:Heap):Prop where
 zz:IsZip h z TI TO .none
 ti:IsPair h TI (.ref i1) (.ref i2)
 to:∃a b,IsPair h TO a b
 one:h.IsTupleIter i1 l1 k
 two:h.IsTupleIter i2 l2 k
theorem IsTupleIter.as{h h':Heap}{a t:Addr}{k:Nat}(x:h.IsTupleIter a t k)(f:∀o,h.get? a=some o->h'.get? a=some o):h'.IsTupleIter a t k:=let ⟨o,ho,r⟩:=x;⟨o,f o ho,r⟩
variable{z TI TO i1 i2 l1 l2:Addr}{k:Nat}{xs ys:Array Value}
theorem OW{x y:Value}{Q:Option Value->Shared->Prop}(D:ZipApart z TI TO i1 i2 l1 l2)(Z:ZT z TI TO i1 i2 l1 l2 k s.heap)(t1:s.heap.IsTuple l1 xs)(t2:s.heap.IsTuple l2 ys)(hx:xs[k]? = some x)(hy:ys[k]? = some y)
  (q:∀g,IsZip g z TI TO (rawInt s.heap.objs.size)->IsPair g TO x y->g.IsTupleIter i1 l1 (k+1)->g.IsTupleIter i2 l2 (k+1)->IsPair g s.heap.objs.size x y->
   (∀c o,c∉[z,TO,i1,i2]->s.heap.get? c=some o->g.get? c=some o)->Q (some (.ref s.heap.objs.size)) { s with heap:=g }):wpAny (model prog w) A (pyNext (.ref z)) Q E s:=by
 obtain⟨hz,hti,⟨a,b,hto⟩,s1,s2⟩:=Z;have T:s.TypeIs (.ref z) "zip":=⟨_,hz,rfl⟩;unfold pyNext;refine nW (wpAny_attempt (wpAny_callSpecial?_slot (name:=Str.ofString "__next__") T F.slot_zip_next (wpAny_call_entry F.slot_zip_next T F.entry_zip_next ?_ (F.args_zip_next_1 _))));show wpAny _ _ (field (.ref z) 2 >>= _) _ _ _;refine nW (wpAny_field hz rfl (x:=.bool false) rfl ?_);show wpAny _ _ (field (.ref z) 3 >>= _) _ _ _;refine nW (wpAny_field hz rfl (x:=.ref TI) rfl (nW (wpAny_seqItems hti rfl ?_)));show wpAny _ _ (Builtin.SmallTypes.ownedTupleIsFree (.ref z) >>= _) _ _ _;refine nW ?_;unfold Builtin.SmallTypes.ownedTupleIsFree;refine nW (wpAny_field hz rfl (x:=.none) rfl (nX ?_));simp only[if_true];refine nW (wpAny_rule (nW (wpAny_field hz rfl (x:=.ref TO) rfl (nW (wpAny_setField_rec hz (by simp) λg1 z1 b1=>?_)))))
 replace z1:IsZip g1 z TI TO .ellipsis:=z1
 refine nW ?_;simp only[List.zipIdx_cons,List.zipIdx_nil,List.forIn_cons,List.forIn_nil];refine nW (nW (wpAny_onRaise ?_));show wpAny _ _ (Builtin.SmallTypes.nextOf (.ref i1) >>= _) _ _ _;refine nW (EQ (s1.extBut b1.extBut D.i1z) (t1.extBut b1.extBut D.l1z) hx λg2 n2 b2=>nX ?_);have o2:IsPair g2 TO a b:=b2.extBut _ _ D.TOi1 (b1.extBut _ _ D.TOz hto);refine nW (wpAny_seqItems o2 rfl (nW (wpAny_updateSeq_pair o2 λg3 o3 b3=>?_)))
 replace o3:IsPair g3 TO x b:=o3
 refine nW (wpAny_letGo (nX (nW (nW (wpAny_onRaise ?_)))));show wpAny _ _ (Builtin.SmallTypes.nextOf (.ref i2) >>= _) _ _ _;refine nW (EQ (((s2.extBut b1.extBut D.i2z).extBut b2.extBut D.i12.symm).extBut b3.extBut D.TOi2.symm) (((t2.extBut b1.extBut D.l2z).extBut b2.extBut D.l2i1).extBut b3.extBut D.l2TO) hy λg4 n4 b4=>nX ?_);have o4:IsPair g4 TO x b:=b4.extBut _ _ D.TOi2 o3;refine nW (wpAny_seqItems o4 rfl (nW (wpAny_updateSeq_pair o4 λg5 o5 b5=>?_)))
 replace o5:IsPair g5 TO x y:=o5
 refine nW (wpAny_letGo (nX (nX (nW (wpAny_seqItems o5 rfl (nW (wpAny_newTuple ?_)))))));have sz:g5.objs.size=s.heap.objs.size:=by rw[b5.1,b4.1,b3.1,b2.1,b1.1]
 have z5:IsZip g5 z TI TO .ellipsis:=b5.extBut _ _ D.TOz.symm (b4.extBut _ _ D.i2z.symm (b3.extBut _ _ D.TOz.symm (b2.extBut _ _ D.i1z.symm z1)));have k5:∀c o,c∉[z,TO,i1,i2]->s.heap.get? c=some o->g5.get? c=some o:=λc o hc e=>by
  simp only[nF,not_or]at hc;exact b5.extBut _ _ hc.2.1 (b4.extBut _ _ hc.2.2.2.1 (b3.extBut _ _ hc.2.1 (b2.extBut _ _ hc.2.2.1 (b1.extBut _ _ hc.1 e))))
 have n5:g5.IsTupleIter i1 l1 (k+1):=((n2.extBut b3.extBut D.TOi1.symm).extBut b4.extBut D.i12).extBut b5.extBut D.TOi1.symm;have m5:g5.IsTupleIter i2 l2 (k+1):=n4.extBut b5.extBut D.TOi2.symm;have zl:z<g5.objs.size:=nK z5;show wpAny _ _ (Builtin.SmallTypes.ownedTupleHandOut (.ref z) (.ref g5.objs.size) >>= _) _ _ _;refine nW ?_;unfold Builtin.SmallTypes.ownedTupleHandOut;have z6:IsZip (g5.push { cls:=.type "tuple",data:=.seq #[x,y] }) z TI TO .ellipsis:=gL _ z5;refine nW (wpAny_setField_rec z6 (by simp) λg7 z7 b7=>?_)
 replace z7:IsZip g7 z TI TO (rawInt g5.objs.size):=z7
 refine wpAny_setField_rec z7 (by simp) λg8 z8 b8=>?_
 replace z8:IsZip g8 z TI TO (rawInt g5.objs.size):=z8
 have up:∀c o,c≠z->g5.get? c=some o->g8.get? c=some o:=λc o cz e=>b8.extBut _ _ cz (b7.extBut _ _ cz (gL _ e));have nu:IsPair g8 g5.objs.size x y:=b8.extBut _ _ (Nat.ne_of_gt zl) (b7.extBut _ _ (Nat.ne_of_gt zl) (gW _ rfl));rw[sz]at z8 nu;refine nX ⟨_,rfl,nX ?_⟩;show Q (some (.ref g5.objs.size)) _;rw[sz];exact q g8 z8 (up _ _ D.TOz o5) (IsTupleIter.as n5 λo e=>up _ o D.i1z e) (IsTupleIter.as m5 λo e=>up _ o D.i2z e) nu λc o hc e=>up c o (λh=>hc (by simp [h])) (k5 c o hc e)
theorem RM{Q:Option Value->Shared->Prop}(hh:A.handled=none)(D:ZipApart z TI TO i1 i2 l1 l2)(Z:ZT z TI TO i1 i2 l1 l2 k s.heap)(t1:s.heap.IsTuple l1 xs)(t2:s.heap.IsTuple l2 ys)(he:xs[k]? = none∨ys[k]? = none)
  (q:∀g,(∀c o,c∉[z,TO,i1,i2]->s.heap.get? c=some o->g.get? c=some o)->Q none { s with heap:=g }):wpAny (model prog w) A (pyNext (.ref z)) Q E s:=by
 obtain⟨hz,hti,⟨a,b,hto⟩,s1,s2⟩:=Z;have T:s.TypeIs (.ref z) "zip":=⟨_,hz,rfl⟩;unfold pyNext;refine nW (wpAny_attempt (wpAny_callSpecial?_slot (name:=Str.ofString "__next__") T F.slot_zip_next (wpAny_call_entry F.slot_zip_next T F.entry_zip_next ?_ (F.args_zip_next_1 _))));have fin:∀g (e:Addr),(∀c o,c∉[z,TO,i1,i2]->s.heap.get? c=some o->g.get? c=some o)->(∃o,g.get? e=some o/\o.cls=.type "StopIteration")->
   wpAny (model prog w) A (do if (<-isInstance (.ref e) (.type "StopIteration"))then pure none else throw (.ref e)) Q E { s with heap:=g } :=λg e hk ⟨o,ho,hc⟩=>
  nW (wpAny_isInstance (T:="StopIteration") (b:=true) ⟨o,ho,hc⟩ isSubtype_stop (nX (q _ hk)))
 show wpAny _ _ (field (.ref z) 2 >>= _) _ _ _;refine nW (wpAny_field hz rfl (x:=.bool false) rfl ?_);show wpAny _ _ (field (.ref z) 3 >>= _) _ _ _;refine nW (wpAny_field hz rfl (x:=.ref TI) rfl (nW (wpAny_seqItems hti rfl ?_)));show wpAny _ _ (Builtin.SmallTypes.ownedTupleIsFree (.ref z) >>= _) _ _ _;refine nW ?_;unfold Builtin.SmallTypes.ownedTupleIsFree;refine nW (wpAny_field hz rfl (x:=.none) rfl (nX ?_));simp only[if_true];refine nW (wpAny_rule (nW (wpAny_field hz rfl (x:=.ref TO) rfl (nW (wpAny_setField_rec hz (by simp) λg1 z1 b1=>?_)))))
 replace z1:IsZip g1 z TI TO .ellipsis:=z1
 refine nW ?_;simp only[List.zipIdx_cons,List.zipIdx_nil,List.forIn_cons,List.forIn_nil];refine nW (nW (wpAny_onRaise ?_));show wpAny _ _ (Builtin.SmallTypes.nextOf (.ref i1) >>= _) _ _ _;cases hx:xs[k]? with
 | none=>
  refine nW (zQ hh (s1.extBut b1.extBut D.i1z) (t1.extBut b1.extBut D.l1z) hx λg2 e b2 ⟨oe,he,ce⟩=>?_);have z2:IsZip g2 z TI TO .ellipsis:=b2 _ _ D.i1z.symm z1;have ez:e≠z:=λh=>by subst h;rw[z2]at he;cases he;simp at ce
  refine wpAny_setField_rec z2 (by simp) λg3 _ b3=>fin g3 e (λc o hc h=>?_) ⟨oe,b3.extBut _ _ ez he,ce⟩;simp only[nF,not_or]at hc;exact b3.extBut _ _ hc.1 (b2 _ _ hc.2.2.1 (b1.extBut _ _ hc.1 h))
 | some x=>
  have hy:ys[k]? = none:=he.resolve_left (by rw[hx];simp);refine nW (EQ (s1.extBut b1.extBut D.i1z) (t1.extBut b1.extBut D.l1z) hx λg2 n2 b2=>nX ?_);have o2:IsPair g2 TO a b:=b2.extBut _ _ D.TOi1 (b1.extBut _ _ D.TOz hto);refine nW (wpAny_seqItems o2 rfl (nW (wpAny_updateSeq_pair o2 λg3 o3 b3=>?_)));refine nW (wpAny_letGo (nX (nW (nW (wpAny_onRaise ?_)))));show wpAny _ _ (Builtin.SmallTypes.nextOf (.ref i2) >>= _) _ _ _;refine nW (zQ hh (((s2.extBut b1.extBut D.i2z).extBut b2.extBut D.i12.symm).extBut b3.extBut D.TOi2.symm) (((t2.extBut b1.extBut D.l2z).extBut b2.extBut D.l2i1).extBut b3.extBut D.l2TO) hy λg4 e b4 ⟨oe,he,ce⟩=>?_);have z4:IsZip g4 z TI TO .ellipsis:=b4 _ _ D.i2z.symm (b3.extBut _ _ D.TOz.symm (b2.extBut _ _ D.i1z.symm z1));have ez:e≠z:=λh=>by subst h;rw[z4]at he;cases he;simp at ce
  refine wpAny_setField_rec z4 (by simp) λg5 _ b5=>fin g5 e (λc o hc h=>?_) ⟨oe,b5.extBut _ _ ez he,ce⟩;simp only[nF,not_or]at hc;exact b5.extBut _ _ hc.1 (b4 _ _ hc.2.2.2.1 (b3.extBut _ _ hc.2.1 (b2.extBut _ _ hc.2.2.1 (b1.extBut _ _ hc.1 h))))
theorem LV(a b:Addr)(xs ys:Array Value) :
  Meets (Builtin.«zip.__new__» ⟨[.type "zip",.ref a,.ref b],[]⟩) (λ_ R s=>s.heap.IsTuple a xs/\s.heap.IsTuple b ys/\
   ∀g,(∀c o,s.heap.get? c=some o->g.get? c=some o)->ZT (s.heap.objs.size+4) (s.heap.objs.size+2) (s.heap.objs.size+3) s.heap.objs.size (s.heap.objs.size+1) a b 0 g->R (.ok (.ret (.ref (s.heap.objs.size+4)))) { s with heap:=g }):=
 .of_wp λprog w A R s h=>by
  obtain⟨hp,gs,d,tk,os⟩:=s;obtain⟨t1,t2,h⟩:=h;have hsub:=sub_zip;have T1:Heap.IsTuple (Shared.heap ⟨hp,gs,d,tk,os⟩) a xs:=t1;have T2:Heap.IsTuple (Shared.heap ⟨hp.push { cls:=.type "tuple_iterator",data:=.fields #[.ref a,.int 0 0] },gs,d,tk,os⟩) b ys:=Heap.IsTuple.push t2 _
  wp_walk using wpAny_pyIter_tuple T1,wpAny_pyIter_tuple T2
  have e1:=λo=>nC hp (o:=o);refine⟨_,rfl, ?_⟩;simp only[nC]at h ⊢;refine h _ (λc o e=>gL _ (gL _ (gL _ (gL _ (gL _ e))))) ⟨?_, ?_, ?_, ?_, ?_⟩
  ·have e:=gW (((((hp.push { cls:=.type "tuple_iterator",data:=.fields #[.ref a,.int 0 0] }).push { cls:=.type "tuple_iterator",data:=.fields #[.ref b,.int 0 0] }).push { cls:=.type "tuple",data:=.seq #[.ref hp.objs.size,.ref (hp.objs.size+1)] })).push { cls:=.type "tuple",data:=.seq #[.none,.none] }) (o:={ cls:=.type "zip",data:=.fields #[.none,.bool false,.bool false,.ref (hp.objs.size+2),.ref (hp.objs.size+3)] }) rfl;simp only[nC]at e;exact e
  ·have e:=gW ((hp.push { cls:=.type "tuple_iterator",data:=.fields #[.ref a,.int 0 0] }).push { cls:=.type "tuple_iterator",data:=.fields #[.ref b,.int 0 0] }) (o:={ cls:=.type "tuple",data:=.seq #[.ref hp.objs.size,.ref (hp.objs.size+1)] }) rfl;simp only[nC]at e;exact gL _ (gL _ e)
  ·have e:=gW ((((hp.push { cls:=.type "tuple_iterator",data:=.fields #[.ref a,.int 0 0] }).push { cls:=.type "tuple_iterator",data:=.fields #[.ref b,.int 0 0] }).push { cls:=.type "tuple",data:=.seq #[.ref hp.objs.size,.ref (hp.objs.size+1)] })) (o:={ cls:=.type "tuple",data:=.seq #[.none,.none] }) rfl;simp only[nC]at e;exact⟨_,_,gL _ e⟩
  ·have e:=gW hp (o:={ cls:=.type "tuple_iterator",data:=.fields #[.ref a,.int 0 0] }) rfl;exact⟨_,gL _ (gL _ (gL _ (gL _ e))),rfl,rfl⟩
  ·have e:=gW (hp.push { cls:=.type "tuple_iterator",data:=.fields #[.ref a,.int 0 0] }) (o:={ cls:=.type "tuple_iterator",data:=.fields #[.ref b,.int 0 0] }) rfl;simp only[nC]at e;exact⟨_,gL _ (gL _ (gL _ e)),rfl,rfl⟩
theorem RC{a b:Addr}{xs ys:Array Value}{Q:Value->Shared->Prop}(t1:s.heap.IsTuple a xs)(t2:s.heap.IsTuple b ys)
  (q:∀g,(∀c o,s.heap.get? c=some o->g.get? c=some o)->ZT (s.heap.objs.size+4) (s.heap.objs.size+2) (s.heap.objs.size+3) s.heap.objs.size (s.heap.objs.size+1) a b 0 g->Q (.ref (s.heap.objs.size+4)) { s with heap:=g }) :
  wpAny (model prog w) A (call (.type "zip") [.ref a,.ref b]) Q E s:=
 callType_new F.called_zip (by decide) (F.typeCall_zip_2 _ _) (F.newCall_zip_2 _ _) (λobj=>F.args_object_init_3 obj _ _) F.entry_zip_new (LV a b xs ys) ⟨t1,t2,λg k Z=>⟨⟨_,Z.zz,rfl⟩,q g k Z⟩⟩
end
section
variable{X:Cx}{ac:List (Addr×Obj)}{σ:St}{H:Hp}{s:Shared}{h':Heap}
theorem Inv.turnedL{t':Nat}{fp:List Addr}(I:Inv X ac σ H s)(hf:∀b∈fp,FpOk X ac H b)(k:∀b o,b∉fp->s.heap.get? b=some o->h'.get? b=some o):Inv X ac σ H { s with heap:=h',toks:=t' } :=by
 have nit:∀b u,H b=some u->b∉fp:=λb u e z=>by rw[(hf b z).1]at e;cases e
 refine I.step (g':=s.gens) (d':=s.drawn) (ch:=fp) (λb hb=>⟨(hf b hb).2.2.2.1,(hf b hb).2.1,(hf b hb).2.2.2.2.1,(hf b hb).2.2.2.2.2⟩) (λb o _ _ hc e _=>k b o hc e) (λb o _ _ hc e _=>⟨o.slots,k b o hc e⟩) (λ_ _ _ _ n=>n)
  (λb o hc e=>⟨o,k b o hc e⟩) (λ_ _ e=>e) (λ_ _ _ e=>e) (λb ps e=>⟨#[],by rw[e];simp⟩) (λm ⟨o,es,ep,ho,r⟩=>⟨o,es,ep,k _ o (λz=>(hf _ z).2.1 rfl) ho,r⟩) (λb u e=>?_) I.bare
 refine(I.hok b u e).stay (λc v hc q=>k c v ?_ q) (λ_ q=>q) λ_ _ q=>q;rcases hc with z | z
 ·rw[z];exact nit b u e
 ·exact nit c _ z
theorem FpOk.apart{a b:Addr}{xs:List V}(I:Inv X ac σ H s)(f:FpOk X ac H b)(h:SqT X.K H a xs):a≠b:=by
 rintro rfl;rcases h with(h | ⟨o,h⟩) | ⟨o,its,n,hk,hc,hs,hz,r⟩
 ·rw[f.1]at h;cases h
 ·rw[f.1]at h;cases h
 ·have hb:X.base.get? a=some o:=I.ok.mod.kin a o hk;rcases f.2.2.2.1 with z | z
  ·exact I.ok.noex a o hb z
  ·exact absurd (hJ (nK hb) (nL I.ok.bsz z)) (nG _)
end
def Itz(K:tF)(a b:Addr):It:=
 ⟨λi H=>∃xs ys x y,SqT K H a xs/\SqT K H b ys/\xs[i]? = some x/\ys[i]? = some y,
  λi H v H'=>∃p x y,H p=none/\v=.ref p/\H'=upd H p (.tup [x,y])/\(∀xs,SqT K H a xs->xs[i]? = some x)/\(∀ys,SqT K H b ys->ys[i]? = some y),
  λi H=>∃xs ys,SqT K H a xs/\SqT K H b ys/\(xs.length<=i∨ys.length<=i)⟩
structure Five(z TI TO i1 i2:Addr):Prop where
 nd:[z,TI,TO,i1,i2].Nodup
theorem Five.of{z TI TO i1 i2 l1 l2:Addr}(F:Five z TI TO i1 i2)(h1:∀b∈[z,TI,TO,i1,i2],l1≠b)(h2:∀b∈[z,TI,TO,i1,i2],l2≠b):ZipApart z TI TO i1 i2 l1 l2:=by
 have nd:=F.nd;simp only[List.nodup_cons,nF,not_or,mM]at nd;obtain⟨⟨a1,a2,a3,a4,_⟩,⟨b1,b2,b3,_⟩,⟨c1,c2,_⟩,⟨d1,_⟩,_⟩:=nd;exact⟨Ne.symm a1,Ne.symm a2,Ne.symm a3,Ne.symm a4,b1,b2,b3,c1,c2,d1,h1 _ (by simp),h1 _ (by simp),h1 _ (by simp),h1 _ (by simp),h2 _ (by simp),h2 _ (by simp),h2 _ (by simp),h2 _ (by simp)⟩
theorem PB{P:Program}{w:World}{K:tF}{es:List Expr}{x1}{pos:Pos}(l1 l2:Addr){z TI TO i1 i2:Addr}(F:Five z TI TO i1 i2):Turn P w K (.Tuple es x1 pos) (Itz K l1 l2) [z,TI,TO,i1,i2] z (λi h=>ZT z TI TO i1 i2 l1 l2 i h) where
 mem:=by simp
 obj:=λi h Z b hb=>by
  simp only[nF,mM,or_false]at hb;obtain⟨hz,hti,⟨a,c,hto⟩,⟨o1,g1,c1,d1⟩,⟨o2,g2,c2,d2⟩⟩:=Z;rcases hb with rfl | rfl | rfl | rfl | rfl
  ·exact⟨_,hz,λv q=>by cases (show Data.fields _=Data.cell v from q)⟩
  ·exact⟨_,hti,λv q=>by cases (show Data.seq _ _=Data.cell v from q)⟩
  ·exact⟨_,hto,λv q=>by cases (show Data.seq _ _=Data.cell v from q)⟩
  ·exact⟨_,g1,λv q=>by rw[d1]at q;cases q⟩
  ·exact⟨_,g2,λv q=>by rw[d2]at q;cases q⟩
 keep:=λi h h' Z k=>by
  obtain⟨hz,hti,⟨a,c,hto⟩,s1,s2⟩:=Z;exact⟨k z (by simp) _ hz,k TI (by simp) _ hti,⟨a,c,k TO (by simp) _ hto⟩,IsTupleIter.as s1 λo e=>k i1 (by simp) o e,IsTupleIter.as s2 λo e=>k i2 (by simp) o e⟩
 item:=by
  intro X hP hw hK hc i ac s σ H E I hf Z hg;subst hP hw hK;obtain⟨xs,ys,x,y,q1,q2,hx,hy⟩:=hg;obtain⟨its1,r1,p1,_⟩:=I.tuple q1;obtain⟨its2,r2,p2,_⟩:=I.tuple q2;obtain⟨u1,hu1,ru1⟩:=r1.get hx;obtain⟨u2,hu2,ru2⟩:=r2.get hy;have D:=F.of (λb hb=>FpOk.apart I (hf b hb) q1) (λb hb=>FpOk.apart I (hf b hb) q2);refine OW D Z (show s.heap.IsTuple l1 its1.toArray from p1) (show s.heap.IsTuple l2 its2.toArray from p2) (x:=u1) (y:=u2) (by simpa using hu1) (by simpa using hu2) λg z1 to1 n1 n2 nu kk=>⟨_,rfl, ?_⟩;refine wpAny_letOwnedTupleGo_zip z1 λg2 z2 sb=>?_;have fr:H s.heap.objs.size=none:=I.hok.fresh gA ;have fp:∀b∈[z,TI,TO,i1,i2],FpOk X ac (upd H s.heap.objs.size (.tup [x,y])) b:=λb hb=>by
   have lt:b≠s.heap.objs.size:=by
    simp only[nF,mM,or_false]at hb;obtain⟨hz,hti,⟨a,c,hto⟩,⟨o1,g1,_⟩,⟨o2,g2,_⟩⟩:=Z;rcases hb with rfl | rfl | rfl | rfl | rfl
    ·exact nM (nK hz)
    ·exact nM (nK hti)
    ·exact nM (nK hto)
    ·exact nM (nK g1)
    ·exact nM (nK g2)
   exact⟨by rw[jH lt];exact(hf b hb).1,(hf b hb).2⟩
  have I1:Inv X ac σ (upd H s.heap.objs.size (.tup [x,y])) { s with heap:=s.heap.push { cls:=.type "tuple",data:=.seq #[u1,u2] } } :=I.laid (t':=s.toks) (λb u e=>gL _ e) gA ⟨by simp [sizeLine],[u1,u2],.cons ru1 (.cons ru2 .nil),⟨_,gW _ rfl,rfl,_,rfl⟩,.of (gW _ rfl) rfl⟩;have up:∀c o,c≠z->g.get? c=some o->g2.get? c=some o:=λc o cz e=>sb.extBut _ _ cz e;have zs:z≠s.heap.objs.size:=nM (nK Z.zz);have I2:Inv X ac σ (upd H s.heap.objs.size (.tup [x,y])) { s with heap:=g2 } :=by
   refine Inv.turnedL (s:={ s with heap:=s.heap.push { cls:=.type "tuple",data:=.seq #[u1,u2] } }) (h':=g2) (t':=s.toks) I1 fp λb o hb e=>?_;have bz:b≠z:=λh=>hb (by simp [h]);rcases Heap.get?_push_cases e with⟨e1,e2⟩ | e1
   ·rw[e1,e2];exact up _ _ (Ne.symm zs) nu
   ·exact up _ _ bz (kk b o (λh=>hb (by simp only[nF,mM,or_false]at h ⊢;rcases h with h | h | h | h<;>simp [h])) e1)
  exact⟨.ref s.heap.objs.size,_,I2,rfl,⟨_,x,y,fr,rfl,rfl,λxs' h=>by rw[I.tuple_inj h q1];exact hx,λys' h=>by rw[I.tuple_inj h q2];exact hy⟩,⟨z2,up _ _ D.TIz (kk _ _ (by simp [D.TIz,D.TITO,D.TIi1,D.TIi2]) Z.ti),⟨_,_,up _ _ D.TOz to1⟩,IsTupleIter.as n1 λo e=>up _ o D.i1z e,IsTupleIter.as n2 λo e=>up _ o D.i2z e⟩,λb hb=>(fp b hb).1⟩
 done:=by
  intro X hP hw hK hc i ac s σ H E I hf Z hg;subst hP hw hK;obtain⟨xs,ys,q1,q2,he⟩:=hg;obtain⟨its1,r1,p1,_⟩:=I.tuple q1;obtain⟨its2,r2,p2,_⟩:=I.tuple q2;have D:=F.of (λb hb=>FpOk.apart I (hf b hb) q1) (λb hb=>FpOk.apart I (hf b hb) q2);have e1:=r1.length;have e2:=r2.length;refine RM (I.ok.hd hc) D Z (show s.heap.IsTuple l1 its1.toArray from p1) (show s.heap.IsTuple l2 its2.toArray from p2) ?_ λg kk=>⟨rfl,Inv.turnedL (t':=s.toks) I hf λb o hb e=>kk b o (λh=>hb (by simp only[nF,mM,or_false]at h ⊢;rcases h with h | h | h | h<;>simp [h])) e⟩;rcases he with h | h
  ·exact .inl (by simp;omega)
  ·exact .inr (by simp;omega)
 self:=λ_ _ _ _ _ Z h=>wpAny_pyIter_zip Z.zz h
section
variable{X:Cx}
def iZipT(K:tF)(ta:TA):TI:=fun σ H R=>ta σ H λvs H1=>∃a b,vs=[.ref a,.ref b]/\(∃xs,SqT K H1 a xs)/\(∃ys,SqT K H1 b ys)/\R (Itz K a b) H1
theorem NL{es:List Expr}{x1}{tp:Pos}{a b:Expr}{ta:TA}{p pos:Pos}(hg:Gl X "zip")(hm:X.mg "zip" = none)(ha:PA X [a,b] ta)(hs:starEach [a,b] X.env=[(false,eval a X.env),(false,eval b X.env)]:=by rfl)(hs2:starEach [b] X.env=[(false,eval b X.env)]:=by rfl) :
  PI X (.Tuple es x1 tp) (.Call (.Name "zip" p) [a,b] [] pos) (iZipT X.K ta):=by
 intro ac s σ H R I h;refine Call_ (xV I hg hm boot_zip (PyProof.Rows.callWith_type1 (thn (ha pos ac s σ H _ I h) λus s1 ⟨vs,H1,I1,r1,q1⟩=>?_) (by rw[hs,hs2]) (by rw[hs2];rfl)));obtain⟨l1,l2,e,⟨xs,q1⟩,⟨ys,q2⟩,q⟩:=q1;subst e;cases r1 with
 | cons r rr=>
  cases rr with
  | cons r' rr=>
   cases rr;cases r;cases r';obtain⟨its1,_,p1,_⟩:=I1.tuple q1;obtain⟨its2,_,p2,_⟩:=I1.tuple q2;refine RC (show s1.heap.IsTuple l1 its1.toArray from p1) (show s1.heap.IsTuple l2 its2.toArray from p2) λg k Z=>wpAny_pyIter_zip Z.zz ?_;refine⟨_,_,_,_,H1,rfl,I1.kept (t':=s1.toks) k,PB l1 l2 ⟨by simp⟩,Z,λb hb=>?_,q⟩;have hb':s1.heap.objs.size<=b:=by
    simp only[nF,mM,or_false]at hb;rcases hb with rfl | rfl | rfl | rfl | rfl<;>first | exact Nat.le_add_right _ _ | exact nQ _
   exact I1.fpOk hb' (I1.hok.fresh hb')
end
end L2
namespace HT
open PySem PySem.Spec PyProof.Rows
section
variable{prog:Program}{w:World}{A:Around}{E:Value->Shared->Prop}{s:Shared}
theorem cut_whole{t sl:Addr}{items:Array Value}{vl vu:Value}{lo hi:Option Int}{Q:Value->Shared->Prop}(ht:IsTup s.heap t items)(hs:s.heap.IsSliceOf sl vl vu .none)(pl:IsPart vl lo)(pu:IsPart vu hi)
  (hw:sIx items.size 0 lo=0/\sIx items.size items.size hi=items.size) (h:Q (.ref t) s):wpAny (model prog w) A (getItem (.ref t) (.ref sl)) Q E s:=by
 obtain⟨os,hos,hcs,hds⟩:=id hs;have hTs:s.TypeIs (.ref sl) "slice":=⟨os,hos,hcs⟩;unfold getItem;try with_reducible refine wpAny_holding ?_
 first | refine nW (nX ?_) | skip
 refine nW (wpAny_sequenceKey ht.typeIs (by decide) ?_);refine nW (wpAny_callSpecial?_slot (name:=Str.ofString "__getitem__") ht.typeIs PyProof.Rows.slot_tuple_getitem (wpAny_call_entry PyProof.Rows.slot_tuple_getitem ht.typeIs entry_tuple_getitem ?_ (args_tuple_getitem _ _)));show wpAny _ _ (Builtin.Tuple.tupleItemsOf (.ref t) >>= _) _ _ s;refine nW (tupleItemsOf_ ht (nW (wpAny_typeOf hTs ?_)));rw[tD (by decide)];refine nW (xX hs pl pu ?_);have hy:(((sIx items.size 0 lo:Nat):Int)==0&&(1:Int)==1&&(sIx items.size items.size hi-sIx items.size 0 lo)==items.size)=true:=by
  rw[hw.1,hw.2];simp
 show wpAny _ _ (if (((sIx items.size 0 lo:Nat):Int)==0&&(1:Int)==1&&(sIx items.size items.size hi-sIx items.size 0 lo)==items.size)=true then _ else _) _ _ s;rw[tD hy];refine nW (m:=Builtin.Tuple.tupleIsExact _) (nW (wpAny_typeOf ht.typeIs (nX ?_)));rw[tD (by decide)];refine nW (wpAny_rule ?_);first
  | exact nW (nX (nX ⟨_,rfl,nX h⟩))
  | exact nX ⟨_,rfl,nX h⟩
  | exact nW (nX ⟨_,rfl,nX h⟩)
theorem cat_any{t b:Addr}{vs ws:List Value}{Q:Value->Shared->Prop}(ht:IsTup s.heap t vs.toArray)(hb:IsTup s.heap b ws.toArray)(h0:vs=[]->Q (.ref b) s)
  (h1:ws=[]->Q (.ref t) s) (h2:Q (.ref s.heap.objs.size) { s with heap:=s.heap.push { cls:=.type "tuple",data:=.seq (vs++ws).toArray } })
  (hz:vs.length+ws.length<=sizeLine):wpAny (model prog w) A (binaryOp .Add (.ref t) (.ref b)) Q E s:=by
 by_cases hv:vs=[]
 ·obtain⟨⟨c1,x1,y1,z1⟩,g1,rfl,n1,rfl⟩:=id ht;obtain⟨⟨c2,x2,y2,z2⟩,g2,rfl,n2,rfl⟩:=id hb;exact concat_meets ⟨_,g1,rfl⟩ ⟨_,g2,rfl⟩ noFill_tuple_add seq_tuple_add PySem.F.slot_tuple_add PySem.F.entry_tuple_add (PySem.F.args_tuple_add_2 _ _) (tuple_addW0 t b vs.toArray ws.toArray n1 n2 x1 x2 z1 z2 (by simp [hv])) ⟨g1,g2,h0 hv⟩
 ·exact ZO ht hb hv h1 (λ_=>h2) hz
theorem IC{sl:Addr}{u:Tok}{n:Nat}{Q:Int×Int×Nat->Shared->Prop}(hs:s.heap.IsSliceOf sl .none .none (.int (-1) u))(h:Q ((n:Int)-1,-1,n) s):wpAny (model prog w) A (Builtin.Slice.sliceApplied (.ref sl) (pure (n:Int))) Q E s:=by
 obtain⟨os,hos,hcs,hds⟩:=id hs;unfold Builtin.Slice.sliceApplied Builtin.Slice.sliceFields;refine nW (nW (wpAny_field hos hds (x:=.none) rfl (nW (wpAny_field hos hds (x:=.none) rfl (nW (wpAny_field hos hds (x:=.int (-1) u) rfl (nX ?_)))))));refine nW (slicePart_int ?_);show wpAny _ _ (if ((-1:Int)==0)=true then _ else _) _ _ s;rw[nZ (by decide)];refine nW (slicePart_none (nW (slicePart_none (nW (nX ?_)))));show wpAny _ _ (pure ((n:Int)-1,(-1:Int),Builtin.Slice.slicePlaces ((n:Int)-1) (-1) (-1))) _ _ s;have e:Builtin.Slice.slicePlaces ((n:Int)-1) (-1) (-1)=n:=by
  unfold Builtin.Slice.slicePlaces;rw[nZ (by omega)];split
  ·rw[show(- (-1:Int))=1 by omega,Int.ediv_one];omega
  ·omega
 rw[e];exact nX h
theorem PX(xs:Array Value):(((List.range xs.size).filterMap λ(m:Nat)=>xs[(((xs.size:Int)-1)+(m:Int)*(-1)).toNat]?).toArray)=xs.toList.reverse.toArray:=by
 have go:∀k,k<=xs.size->((List.range k).filterMap λ(m:Nat)=>xs[(((xs.size:Int)-1)+(m:Int)*(-1)).toNat]?)=xs.toList.reverse.take k:=by
  intro k;induction k with
  | zero=>intro _;rfl
  | succ k ih=>
   intro h;have hr:k<xs.toList.reverse.length:=by rw[List.length_reverse,Array.length_toList];omega
   have e1:(((xs.size:Int)-1)+(k:Int)*(-1)).toNat=xs.size-1-k:=by omega
   have e2:xs[xs.size-1-k]? = some (xs[xs.size-1-k]'(by omega)):=Array.getElem?_eq_getElem (by omega);rw[List.range_succ,List.filterMap_append,ih (by omega),List.take_succ_eq_append_getElem hr]
   congr 1
   rw[List.filterMap_cons,List.filterMap_nil];simp only[e1,e2];rw[List.getElem_reverse];simp
 rw[go _ gA,gM (by simp)]
theorem cut_back{t sl:Addr}{items:Array Value}{u:Tok}{Q:Value->Shared->Prop}(ht:IsTup s.heap t items)(hs:s.heap.IsSliceOf sl .none .none (.int (-1) u))(hz:items.size<=sizeLine)
  (h:Q (.ref s.heap.objs.size) { s with heap:=s.heap.push { cls:=.type "tuple",data:=.seq items.toList.reverse.toArray } }):wpAny (model prog w) A (getItem (.ref t) (.ref sl)) Q E s:=by
 have fits:sizeOk (.seq items.toList.reverse.toArray):=by
  show items.toList.reverse.toArray.size<=sizeLine;rw[mD,List.length_reverse,Array.length_toList];exact hz
 obtain⟨os,hos,hcs,hds⟩:=id hs;have hTs:s.TypeIs (.ref sl) "slice":=⟨os,hos,hcs⟩;unfold getItem;try with_reducible refine wpAny_holding ?_
 first | refine nW (nX ?_) | skip
 refine nW (wpAny_sequenceKey ht.typeIs (by decide) ?_);refine nW (wpAny_callSpecial?_slot (name:=Str.ofString "__getitem__") ht.typeIs PyProof.Rows.slot_tuple_getitem (wpAny_call_entry PyProof.Rows.slot_tuple_getitem ht.typeIs entry_tuple_getitem ?_ (args_tuple_getitem _ _)));show wpAny _ _ (Builtin.Tuple.tupleItemsOf (.ref t) >>= _) _ _ s;refine nW (tupleItemsOf_ ht (nW (wpAny_typeOf hTs ?_)));rw[tD (by decide)];refine nW (IC hs ?_);show wpAny _ _ (if (((items.size:Int)-1)==0&&(-1:Int)==1&&items.size==items.size)=true then _ else _) _ _ s;rw[nZ (by rw[show((-1:Int)==1)=false from rfl];simp),PX];first
  | exact nW (m:=Builtin.Tuple.tupleExact _) (wpAny_newObj_type (nX ⟨_,rfl,nX h⟩) fits)
  | exact nW (m:=Builtin.Tuple.tupleExact _) (wpAny_newObj_type (nW (nX (nX ⟨_,rfl,nX h⟩))) fits)
  | exact nW (nW (m:=Builtin.Tuple.tupleExact _) (wpAny_newObj_type (nX (nX ⟨_,rfl,nX h⟩)) fits))
  | exact nW (nW (m:=Builtin.Tuple.tupleExact _) (wpAny_newObj_type (nX ⟨_,rfl,nX h⟩) fits))
end
end HT
namespace L2
open PySem PySem.Spec PyProof.Rows
section
variable{X:Cx}
def Gets(H:Hp)(xs:List V)(Q:VK):Prop:=∀p H',Same H H'->H' p=some (.tup xs)->Q (.ref p) H'
def rSlH:V->Option Int->Option Int->Hp->VK->Prop:=λx lo hi H Q=>∃a xs,x=.ref a/\H a=some (.tup xs)/\Gets H (vN xs lo hi) Q
theorem FU:SlR X rSlH:=by
 intro ac s σ H x v vl vu lo hi sl Q I rx hs pl pu h;obtain⟨a,xs,rfl,hx,q⟩:=h;by_cases hw:HT.sIx xs.length 0 lo=0/\HT.sIx xs.length xs.length hi=xs.length
 ·cases rx;obtain⟨its,r,ht,hz⟩:=I.tuple (SqT.of hx);have hl:its.toArray.size=xs.length:=by rw[mD];exact r.length.symm
  refine⟨"tuple",_,PyProof.Rows.slot_tuple_getitem.lookup,ht.typeIs,HT.cut_whole ht hs pl pu (by rw[hl];exact hw) ⟨.ref a,H,I,rfl,q a H (λ_ _ e=>e) ?_⟩⟩;rw[hx,vN,hw.1,hw.2];simp
 ·exact SM ac s σ H _ v vl vu lo hi sl Q I rx hs pl pu ⟨a,xs,rfl,SqT.of hx,hw,λp n=>q p _ (Lw.jN _ n) jD⟩
def rCatH:R2:=λx y H Q=>∃a b xs ys,x=.ref a/\y=.ref b/\H a=some (.tup xs)/\H b=some (.tup ys)/\xs.length+ys.length<=sizeLine/\Gets H (xs++ys) Q
theorem NP:OpR X (binaryOp .Add) rCatH:=by
 intro ac s σ H x y v u Q I rx ry h;obtain⟨a,b,xs,ys,rfl,rfl,ha,hb,hz,q⟩:=h;cases rx;cases ry;obtain⟨its,r1,p1,_⟩:=I.tuple (SqT.of ha);obtain⟨its2,r2,p2,_⟩:=I.tuple (SqT.of hb);refine HT.cat_any p1 p2 (λz=>⟨.ref b,H,I,rfl,q b H (λ_ _ e=>e) ?_⟩) (λz=>⟨.ref a,H,I,rfl,q a H (λ_ _ e=>e) ?_⟩) ?_ (by rw[<-r1.length,<-r2.length];exact hz)
 ·rw[r1.nil_iff.mp z];exact hb
 ·rw[r2.nil_iff.mp z,List.append_nil];exact ha
 ·have n:=I.hok.fresh (nQ s.heap.objs.size);refine⟨.ref s.heap.objs.size,_,I.laid (t':=s.toks) (o:=.tup (xs++ys)) (λb ob q=>gL _ q) gA ?_,rfl,q _ _ (Lw.jN _ n) jD⟩;exact⟨by rw[gY];exact hz,_,r1.append r2,IsTup.new _ _,.of (gW _ rfl) rfl⟩
theorem wT:∀{xs:List V} {us:List Value},Vals xs us->Vals xs.reverse us.reverse
 | _,_,.nil=>.nil
 | _,_,.cons h t=>by
  rw[List.reverse_cons,List.reverse_cons];exact(wT t).append (.cons h .nil)
def tBack(te:TE)(ts:TO):TE:=fun σ H Q=>te σ H λx H1=>ts σ H1 λo H2=>o=some (-1)/\∃a xs,x=.ref a/\H2 a=some (.tup xs)/\Gets H2 xs.reverse Q
theorem YC{e st:Expr}{te:TE}{ts:TO}{pos p2:Pos}(he:PE X e te)(hs:PO X (some st) ts):PE X (.Subscript e (.Slice none none (some st) p2) pos) (tBack te ts):=by
 intro ac s σ H Q I h;refine Subscript_ (thn (he ac s σ H _ I h) λv s1 ⟨x,H1,I1,r1,q1⟩=>?_);refine wpAny_Slice ?_;rw[evalPart_none];refine nX (nX (thn (hs ac s1 σ H1 _ I1 q1) λvs s2 ⟨o,H2,I2,po,eo,a,xs,ex,hx,q⟩=>?_));subst eo ex;cases r1;cases po with
 | int i u=>
 have I3:Inv X ac σ H2 { s2 with heap:=s2.heap.push { cls:=.type "slice",data:=.fields #[.none,.none,.int (-1) u] } } :=I2.kept (t':=s2.toks) λb ob q=>gL _ q;obtain⟨its,r,ht,hz⟩:=I3.tuple (SqT.of hx);have hl:its.toArray.size=xs.length:=by rw[mD];exact r.length.symm
 show wpAny (model X.prog X.w) X.A (subscriptTail e (.Slice none none (some st) p2) (.ref a) (.ref s2.heap.objs.size)) (EP X ac σ Q) X.xe { s2 with heap:=s2.heap.push { cls:=.type "slice",data:=.fields #[.none,.none,.int (-1) u] } };refine tail_any (ops:=[.ref a,.ref s2.heap.objs.size]) ht.typeIs PyProof.Rows.slot_tuple_getitem.lookup ?_ (by with_unfolding_all rfl);have n:=I3.hok.fresh (nQ (s2.heap.push { cls:=.type "slice",data:=.fields #[.none,.none,.int (-1) u] }).objs.size);refine HT.cut_back ht (Heap.IsSliceOf.new ..) (by rw[hl];exact hz) ⟨.ref _,_,I3.laid (t':=s2.toks) (o:=.tup xs.reverse) (λb ob q=>gL _ q) gA ?_,rfl,q _ _ (Lw.jN _ n) jD⟩;exact⟨by rw[List.length_reverse];exact hz,_,wT r,IsTup.new _ _,.of (gW _ rfl) rfl⟩
end
end L2
namespace LwMx
open PySem PySem.Spec PyProof.Rows L2 Lw
section
variable{prog:Program}{w:World}{A:Around}{R:Result->Shared->Prop}{J:Addr}{fp wr:List Addr}{n:Nat}{Pv:Nat->Value->Prop}{St:Nat->Heap->Prop}
theorem HK:(toString "max"++toString ".loop" :String)="max.loop":=by decide
theorem UV(Wk:Walks prog w A.in1 J fp wr n Pv St)(gt:Nat->Nat->Bool)(cmp:CmpOf prog w A.in1 .Gt Pv gt)(B:Addr)(out:B∉fp)(kws:List (Str×Value)) :
  ∀(k j:Nat) (s:Shared) (x:Value) (c:Nat),n-(j+1)=k->j+1<=n->St (j+1) s.heap->Pv (argBest gt j) x->
  s.heap.get? B=some { cls:=.type "list",dict:=none,data:=.seq #[x,x] c,slots:=#[] }->
  (∀y h' tk,Pv (argBest gt (n-1)) y->(∀b o,b∉wr->b≠B->s.heap.get? b=some o->h'.get? b=some o)->R (.ok (.ret y)) { s with heap:=h',toks:=tk })->
  codeAny (model prog w) A (.builtin "max.loop" ⟨[.ref J,.none,.ref B],kws⟩) R s:=by
 have outw:B∉wr:=λz=>out (Wk.sub _ z);intro k;induction k with
 | zero=>
  intro j s x c hk hj st px hB hR;have jn:j+1=n:=by omega
  refine codeAny_builtin PySem.F.entry_max_loop ?_;rw[Around.under_plainId PySem.F.plain_max_loop _];show wpAny _ A.in1 (seqItems? (.ref B) >>= _) _ _ s;refine nW (wpAny_seqItems hB rfl ?_);show wpAny _ A.in1 (tryCatch (pyNext (.ref J)) _ >>= _) _ _ s;refine nW (wpAny_tryCatch (Wk.done s _ _ (jn▸st) λh1 t1 k1=>?_));have hB1:=k1 B _ outw hB;show wpAny _ A.in1 (updateSeq B (λ_=>#[]) >>= _) _ _ _;refine nW (wpAny_updateSeq hB1 rfl (nW (wpAny_letGo (nX ?_))));exact hR x _ t1 (by rw[<-jn];exact px) λb o n1 n2 e=>(Heap.get?_update_other _ _ (Ne.symm n2)).trans (k1 b o n1 e)
 | succ k ih=>
  intro j s x c hk hj st px hB hR;have jn:j+1<n:=by omega
  refine codeAny_builtin PySem.F.entry_max_loop ?_;rw[Around.under_plainId PySem.F.plain_max_loop _];show wpAny _ A.in1 (seqItems? (.ref B) >>= _) _ _ s;refine nW (wpAny_seqItems hB rfl ?_);show wpAny _ A.in1 (tryCatch (pyNext (.ref J)) _ >>= _) _ _ s;refine nW (wpAny_tryCatch (Wk.item (j+1) s _ _ jn st λy h1 t1 py st1 k1=>?_));have hB1:=k1 B _ outw hB;show wpAny _ A.in1 (tryCatch (holding [y,y] (richCompare .Gt y x >>= _)) _ >>= _) _ _ _;refine nW (wpAny_tryCatch (wpAny_holding (nW (cmp (j+1) (argBest gt j) y x _ _ _ py px ?_))));refine nW (wpAny_holding (wpAny_truthy_bool (nW (wpAny_letGo (nX ?_)))));cases hb:gt (j+1) (argBest gt j)with
  | true=>
   simp only[if_true];refine nW (wpAny_updateSeq hB1 rfl (nW (wpAny_letGo ?_)));rw[HK];refine nX ⟨plainId_quiet PySem.F.plain_max_loop _,ih (j+1) _ y _ (by omega) jn (Wk.frame _ _ _ st1 λb hb' o e=>?_) (by simp only[argBest,hb,if_true];exact py) (Heap.get?_update_self _ hB1 rfl) λy' h2 t2 p2 k2=>?_⟩
   ·exact(Heap.get?_update_other _ _ (λz:B=b=>out (by rw[z];exact hb'))).trans e
   ·exact hR y' h2 t2 p2 λb o n1 n2 e=>k2 b o n1 n2 ((Heap.get?_update_other _ _ (Ne.symm n2)).trans (k1 b o n1 e))
  | false=>
   simp only[Bool.false_eq_true,if_false];refine nW (wpAny_letGo ?_);rw[HK];refine nX ⟨plainId_quiet PySem.F.plain_max_loop _,ih (j+1) _ x c (by omega) jn st1 (by simp only[argBest,hb,Bool.false_eq_true,if_false];exact px) hB1 λy' h2 t2 p2 k2=>?_⟩;exact hR y' h2 t2 p2 λb o n1 n2 e=>k2 b o n1 n2 (k1 b o n1 e)
theorem UW(Wk:Walks prog w A.in1 J fp wr n Pv St)(gt:Nat->Nat->Bool)(cmp:CmpOf prog w A.in1 .Gt Pv gt)(B:Addr)(out:B∉fp)(d:Value){s:Shared}{c:Nat}(st:St 0 s.heap)
  (hB:s.heap.get? B=some { cls:=.type "list",dict:=none,data:=.seq #[] c,slots:=#[] })
  (h0:n=0->∀h' tk,(∀b o,b∉wr->b≠B->s.heap.get? b=some o->h'.get? b=some o)->R (.ok (.ret d)) { s with heap:=h',toks:=tk })
  (hR:0<n->∀y h' tk,Pv (argBest gt (n-1)) y->(∀b o,b∉wr->b≠B->s.heap.get? b=some o->h'.get? b=some o)->R (.ok (.ret y)) { s with heap:=h',toks:=tk }) :
  codeAny (model prog w) A (.builtin "max.loop" ⟨[.ref J,.none,.ref B],[("default",d)]⟩) R s:=by
 have outw:B∉wr:=λz=>out (Wk.sub _ z);refine codeAny_builtin PySem.F.entry_max_loop ?_;rw[Around.under_plainId PySem.F.plain_max_loop _];show wpAny _ A.in1 (seqItems? (.ref B) >>= _) _ _ s;refine nW (wpAny_seqItems hB rfl ?_);show wpAny _ A.in1 (tryCatch (pyNext (.ref J)) _ >>= _) _ _ s;by_cases hn:0<n
 ·refine nW (wpAny_tryCatch (Wk.item 0 s _ _ hn st λy h1 t1 py st1 k1=>?_));have hB1:=k1 B _ outw hB;show wpAny _ A.in1 (updateSeq B (λ_=>#[y,y]) >>= _) _ _ _;refine nW (wpAny_updateSeq hB1 rfl ?_);rw[HK];refine nX ⟨plainId_quiet PySem.F.plain_max_loop _,UV Wk gt cmp B out _ _ 0 _ y _ rfl hn (Wk.frame _ _ _ st1 λb hb' o e=>?_) py (Heap.get?_update_self _ hB1 rfl) λy' h2 t2 p2 k2=>?_⟩
  ·exact(Heap.get?_update_other _ _ (λz:B=b=>out (by rw[z];exact hb'))).trans e
  ·exact hR hn y' h2 t2 p2 λb o n1 n2 e=>k2 b o n1 n2 ((Heap.get?_update_other _ _ (Ne.symm n2)).trans (k1 b o n1 e))
 ·have z:n=0:=by omega
  subst z;refine nW (wpAny_tryCatch (Wk.done s _ _ st λh1 t1 k1=>?_));refine nW (wpAny_rule (nX ?_));exact h0 rfl _ t1 λb o n1 n2 e=>k1 b o n1 e
end
theorem YR(a v:Value):argsOk "max" ⟨[a],[(Str.ofString "default",v)]⟩:=by unfold argsOk;kernel_rfl
section
variable{prog:Program}{w:World}{A:Around}{E:Value->Shared->Prop}{s:Shared}
theorem mx_call{x d:Value}{Q:Value->Shared->Prop}
  (h:wpAny (model prog w) A.in1 (pyIter x) (λit s₂=>∃J fp wr n Pv St gt,it=.ref J/\Walks prog w A.in1 J fp wr n Pv St/\St 0 s₂.heap/\(∀b∈fp,b<s₂.heap.objs.size)/\CmpOf prog w A.in1 .Gt Pv gt/\
   (n=0->∀h' tk,(∀b o,b∉wr->s₂.heap.get? b=some o->h'.get? b=some o)->Q d { s₂ with heap:=h',toks:=tk })/\
   (0<n->∀v h' tk,Pv (argBest gt (n-1)) v->(∀b o,b∉wr->s₂.heap.get? b=some o->h'.get? b=some o)->Q v { s₂ with heap:=h',toks:=tk })) E s) :
  wpAny (model prog w) A (call (.builtin "max") [x] [(Str.ofString "default",d)]) Q E s:=by
 refine kmb_tree PySem.F.kind_max PySem.F.plain_max PySem.F.entry_max (YR _ _) ?_;show wpAny _ A.in1 (Builtin.Builtins.bindParams "max" ["key","default"] 0 ⟨[],[(Str.ofString "default",d)]⟩ >>= _) _ _ s;refine nW (wpAny_of_eq (show Builtin.Builtins.bindParams "max" ["key","default"] 0 ⟨[],[(Str.ofString "default",d)]⟩=pure [none,some d]from rfl) ?_);refine nW (nX (nW (nY h (λit s₂ h₂=>?_) λ_ _ e=>e)));obtain⟨J,fp,wr,n,Pv,St,gt,rfl,Wk,st,lt,cmp,q0,q1⟩:=h₂;refine nW (wpAny_newObj_type ?_);have out:s₂.heap.objs.size∉fp:=λz=>nG _ (lt _ z);rw[HK];have up:∀(h':Heap),(∀b o,b∉wr->b≠s₂.heap.objs.size->(s₂.heap.push { cls:=.type "list",data:=.seq ([]:List Value).toArray }).get? b=some o->h'.get? b=some o)->∀b o,b∉wr->s₂.heap.get? b=some o->h'.get? b=some o:=λh' k b o n1 e=>
  k b o n1 (nM (nK e)) (gL _ e)
 refine nX ⟨plainId_quiet PySem.F.plain_max_loop _,UW Wk gt cmp s₂.heap.objs.size out d (Wk.frame _ _ _ st λb _ o e=>gL _ e) (gW _ rfl) (λz h' tk k=>q0 z h' tk (up h' k)) λz v h' tk p k=>q1 z v h' tk p (up h' k)⟩
end
theorem best_is(ns:List Int):∀k,k<ns.length->(argBest (λi j=>decide (ns.getD i 0>ns.getD j 0)) k)<=k/\∀j,j<=k->ns.getD j 0<=ns.getD (argBest (λi j=>decide (ns.getD i 0>ns.getD j 0)) k) 0
 | 0,_=>⟨nQ _,λj hj=>by have:j=0:=(by omega);subst this;exact nV _⟩
 | k+1,h=>by
  obtain⟨h1,h2⟩:=best_is ns k (by omega);simp only[argBest];split
  ·rename_i hb;have hb:=mG hb;refine⟨nQ _,λj hj=>?_⟩;rcases Nat.lt_or_ge j (k+1)with z | z
   ·have:=h2 j (by omega);omega
   ·have:j=k+1:=by omega
    subst this;exact nV _
  ·rename_i hb;refine⟨by omega,λj hj=>?_⟩;rcases Nat.lt_or_ge j (k+1)with z | z
   ·exact h2 j (by omega)
   ·have e:j=k+1:=by omega
    have:¬ns.getD (k+1) 0>ns.getD (argBest (λi j=>decide (ns.getD i 0>ns.getD j 0)) k) 0:=λy=>hb (mX y);rw[e];omega
section
variable{X:Cx}
def rMaxD(d:Int):List V->Hp->VK->Prop:=λxs H Q=>∃(l:Addr) (ns:List Int),xs=[.ref l]/\H l=some (.lst (ns.map V.int))/\(ns=[]->Q (.int d) H)/\∀m,m∈ns->(∀x∈ns,x<=m)->Q (.int m) H
theorem RF{ac:List (Addr×Obj)}{σ:L2.St}{H:Hp}{s:Shared}{l:Addr}{ns:List Int}{d:Int}{t:Tok}{Q:VK}(hc:X.calm=true)(I:Inv X ac σ H s)(hl:H l=some (.lst (ns.map V.int)))
  (q0:ns=[]->Q (.int d) H) (q1:∀m,m∈ns->(∀x∈ns,x<=m)->Q (.int m) H):wpAny (model X.prog X.w) X.A (call (.builtin "max") [.ref l] [(Str.ofString "default",.int d t)]) (EP X ac σ Q) X.xe s:=by
 obtain⟨its,rv,p,_⟩:=I.list (SqL.of hl);have i1:IntsAre its ns:=qP rv;have il:=vH i1;have ha:l<s.heap.objs.size:=by
  obtain⟨o,_,e,_⟩:=p;exact nK e
 have p':s.heap.IsList l its.toArray:=by
  obtain⟨o,n,e,e2,_,e3⟩:=p;exact⟨o,e,e2,⟨n,e3⟩⟩
 refine mx_call (wpAny_pyIter_list p' ?_);refine⟨s.heap.objs.size,_,_,_,_,_,λi j=>decide (ns.getD i 0>ns.getD j 0),rfl,Walks.list (show X.A.in1.handled=none from I.ok.hd hc) s.heap.objs.size l (nM ha) its.toArray,⟨⟨_,gW _ rfl,rfl,rfl⟩,p'.push _⟩, ?_, ?_, ?_, ?_⟩
 ·intro b hb;show b<(s.heap.push _).objs.size;rw[nC];simp only[nF,mM,or_false]at hb;rcases hb with rfl | rfl
  ·exact mR _
  ·exact Nat.lt_succ_of_lt ha
 ·refine CmpOf.ints_gt (λi=>ns.getD i 0) λi v hv=>?_;have hv':its[i]? = some v:=by simpa using hv
  obtain⟨hi,e⟩:=gG.mp hv';obtain⟨n,t,e1,e2⟩:=xK i1 hi;exact⟨t,by rw[<-e,e2,gE,e1];rfl⟩
 ·intro z h' tk k;have z':ns=[]:=by
   have:its.length=0:=by simpa using z
   exact List.length_eq_zero_iff.mp (by omega)
  refine⟨.int d,H,I.kept (t':=tk) (λb o e=>k b o ?_ (gL _ e)),⟨t,rfl⟩,q0 z'⟩;simp;exact nM (nK e)
 ·intro z v h' tk hv k;have z':0<ns.length:=by
   have:0<its.length:=by simpa using z
   omega
  have sz:its.toArray.size=ns.length:=by rw[mD,il]
  rw[sz]at hv;obtain⟨b1,b2⟩:=best_is ns (ns.length-1) (by omega);generalize argBest (λi j=>decide (ns.getD i 0>ns.getD j 0)) (ns.length-1)=i at hv b1 b2;have hv':its[i]? = some v:=by simpa using hv
  obtain⟨hi,e⟩:=gG.mp hv';obtain⟨n,t,e1,e2⟩:=xK i1 hi;have en:ns.getD i 0=n:=by rw[gE,e1];rfl
  refine⟨.int n,H,I.kept (t':=tk) (λb o e=>k b o ?_ (gL _ e)),⟨t,by rw[<-e,e2]⟩,q1 n (gQ e1) λx hx=>?_⟩
  ·simp;exact nM (nK e)
  ·obtain⟨j,hj⟩:=gP.mp hx;have hjl:=(gG.mp hj).1;have:=b2 j (by omega);rw[en,gE,hj]at this;exact this
variable{p pos kpos:Pos}{e e2:Expr}{es:List Expr}{t tk:TA}
def tMaxD(t tk:TA):TE:=fun σ H Q=>t σ H λvs H1=>tk σ H1 λzs H2=>∃d,zs=[.int d]/\rMaxD d vs H2 Q
theorem pe_maxD(hc:X.calm=true)(hg:Gl X "max")(hm:X.mg "max" = none)(ha:PA X [e] t)(hk:PK X [⟨some "default",e2,kpos⟩] tk)
  (hall:(backToKw pos (keywordEach [⟨some "default",e2,kpos⟩] X.env)).all (·.1.isSome)=true:=by rfl) (hks:(backToKw pos (keywordEach [⟨some "default",e2,kpos⟩] X.env)).filterMap (·.1)=[Str.ofString "default"]:=by rfl)
  (he:starEach [e] X.env=[(false,eval e X.env)]:=by rfl)
  (hpl:((backTo pos (starEach [e] X.env)).any (·.1)||(backToKw pos (keywordEach [⟨some "default",e2,kpos⟩] X.env)).any (·.1.isNone))=false:=by rfl) :
  PE X (.Call (.Name "max" p) [e] [⟨some "default",e2,kpos⟩] pos) (tMaxD t tk):=by
 intro ac s σ H Q I h;refine wpAny_Call_Name_kw (xV I hg hm (show bootBuiltins "max" = some (.builtin "max") by decide +kernel) ?_ (by decide) (by decide));refine PySem.W.callWith_of (P:=λ_=>True) hpl (λ_ _=>⟨_,.inr (.inl rfl),PySem.W.Looks.of_pure rfl⟩) (evalArgs_kw2 hall (thn (ha pos ac s σ H _ I h) λus s1 ⟨vs,H1,I1,r,q⟩=>?_) he);refine thn (hk pos ac s1 σ H1 _ I1 q) λws s2 ⟨zs,H2,I2,rz,q2⟩=>⟨trivial, ?_⟩;rw[hks];obtain⟨d,rfl,l,ns,rfl,hl,q0,q1⟩:=q2;obtain⟨u,rfl,ru⟩:=qM r;cases ru;obtain⟨u,rfl,⟨t,rfl⟩⟩:=qM rz;exact RF hc I2 hl q0 q1
end
end LwMx
namespace L2
open PySem PySem.Spec PyProof.Rows
section
variable{prog:Program}{w:World}{A:Around}{E:Value->Shared->Prop}{s:Shared}
structure ZU(z TI TO i1 i2 l1 l2:Addr)(k:Nat)(h:Heap):Prop where
 zz:IsZip h z TI TO .none
 ti:IsPair h TI (.ref i1) (.ref i2)
 to:∃a b,IsPair h TO a b
 one:h.IsTupleIter i1 l1 k
 two:h.IsListIter i2 l2 k
variable{z TI TO i1 i2 l1 l2:Addr}{k:Nat}{xs ys:Array Value}
theorem OV{x y:Value}{Q:Option Value->Shared->Prop}(D:ZipApart z TI TO i1 i2 l1 l2)(Z:ZU z TI TO i1 i2 l1 l2 k s.heap)(t1:s.heap.IsTuple l1 xs)(t2:s.heap.IsList l2 ys)(hx:xs[k]? = some x)(hy:ys[k]? = some y)
  (q:∀g,IsZip g z TI TO (rawInt s.heap.objs.size)->IsPair g TO x y->g.IsTupleIter i1 l1 (k+1)->g.IsListIter i2 l2 (k+1)->IsPair g s.heap.objs.size x y->
   (∀c o,c∉[z,TO,i1,i2]->s.heap.get? c=some o->g.get? c=some o)->Q (some (.ref s.heap.objs.size)) { s with heap:=g }):wpAny (model prog w) A (pyNext (.ref z)) Q E s:=by
 obtain⟨hz,hti,⟨a,b,hto⟩,s1,s2⟩:=Z;have T:s.TypeIs (.ref z) "zip":=⟨_,hz,rfl⟩;unfold pyNext;refine nW (wpAny_attempt (wpAny_callSpecial?_slot (name:=Str.ofString "__next__") T F.slot_zip_next (wpAny_call_entry F.slot_zip_next T F.entry_zip_next ?_ (F.args_zip_next_1 _))));show wpAny _ _ (field (.ref z) 2 >>= _) _ _ _;refine nW (wpAny_field hz rfl (x:=.bool false) rfl ?_);show wpAny _ _ (field (.ref z) 3 >>= _) _ _ _;refine nW (wpAny_field hz rfl (x:=.ref TI) rfl (nW (wpAny_seqItems hti rfl ?_)));show wpAny _ _ (Builtin.SmallTypes.ownedTupleIsFree (.ref z) >>= _) _ _ _;refine nW ?_;unfold Builtin.SmallTypes.ownedTupleIsFree;refine nW (wpAny_field hz rfl (x:=.none) rfl (nX ?_));simp only[if_true];refine nW (wpAny_rule (nW (wpAny_field hz rfl (x:=.ref TO) rfl (nW (wpAny_setField_rec hz (by simp) λg1 z1 b1=>?_)))))
 replace z1:IsZip g1 z TI TO .ellipsis:=z1
 refine nW ?_;simp only[List.zipIdx_cons,List.zipIdx_nil,List.forIn_cons,List.forIn_nil];refine nW (nW (wpAny_onRaise ?_));show wpAny _ _ (Builtin.SmallTypes.nextOf (.ref i1) >>= _) _ _ _;refine nW (EQ (s1.extBut b1.extBut D.i1z) (t1.extBut b1.extBut D.l1z) hx λg2 n2 b2=>nX ?_);have o2:IsPair g2 TO a b:=b2.extBut _ _ D.TOi1 (b1.extBut _ _ D.TOz hto);refine nW (wpAny_seqItems o2 rfl (nW (wpAny_updateSeq_pair o2 λg3 o3 b3=>?_)))
 replace o3:IsPair g3 TO x b:=o3
 refine nW (wpAny_letGo (nX (nW (nW (wpAny_onRaise ?_)))));show wpAny _ _ (Builtin.SmallTypes.nextOf (.ref i2) >>= _) _ _ _;refine nW (wpAny_nextOf_list_item (((s2.extBut b1.extBut D.i2z).extBut b2.extBut D.i12.symm).extBut b3.extBut D.TOi2.symm) (((t2.extBut b1.extBut D.l2z).extBut b2.extBut D.l2i1).extBut b3.extBut D.l2TO) hy λg4 n4 b4=>nX ?_);have o4:IsPair g4 TO x b:=b4.extBut _ _ D.TOi2 o3;refine nW (wpAny_seqItems o4 rfl (nW (wpAny_updateSeq_pair o4 λg5 o5 b5=>?_)))
 replace o5:IsPair g5 TO x y:=o5
 refine nW (wpAny_letGo (nX (nX (nW (wpAny_seqItems o5 rfl (nW (wpAny_newTuple ?_)))))));have sz:g5.objs.size=s.heap.objs.size:=by rw[b5.1,b4.1,b3.1,b2.1,b1.1]
 have z5:IsZip g5 z TI TO .ellipsis:=b5.extBut _ _ D.TOz.symm (b4.extBut _ _ D.i2z.symm (b3.extBut _ _ D.TOz.symm (b2.extBut _ _ D.i1z.symm z1)));have k5:∀c o,c∉[z,TO,i1,i2]->s.heap.get? c=some o->g5.get? c=some o:=λc o hc e=>by
  simp only[nF,not_or]at hc;exact b5.extBut _ _ hc.2.1 (b4.extBut _ _ hc.2.2.2.1 (b3.extBut _ _ hc.2.1 (b2.extBut _ _ hc.2.2.1 (b1.extBut _ _ hc.1 e))))
 have n5:g5.IsTupleIter i1 l1 (k+1):=((n2.extBut b3.extBut D.TOi1.symm).extBut b4.extBut D.i12).extBut b5.extBut D.TOi1.symm;have m5:g5.IsListIter i2 l2 (k+1):=n4.extBut b5.extBut D.TOi2.symm;have zl:z<g5.objs.size:=nK z5;show wpAny _ _ (Builtin.SmallTypes.ownedTupleHandOut (.ref z) (.ref g5.objs.size) >>= _) _ _ _;refine nW ?_;unfold Builtin.SmallTypes.ownedTupleHandOut;have z6:IsZip (g5.push { cls:=.type "tuple",data:=.seq #[x,y] }) z TI TO .ellipsis:=gL _ z5;refine nW (wpAny_setField_rec z6 (by simp) λg7 z7 b7=>?_)
 replace z7:IsZip g7 z TI TO (rawInt g5.objs.size):=z7
 refine wpAny_setField_rec z7 (by simp) λg8 z8 b8=>?_
 replace z8:IsZip g8 z TI TO (rawInt g5.objs.size):=z8
 have up:∀c o,c≠z->g5.get? c=some o->g8.get? c=some o:=λc o cz e=>b8.extBut _ _ cz (b7.extBut _ _ cz (gL _ e));have nu:IsPair g8 g5.objs.size x y:=b8.extBut _ _ (Nat.ne_of_gt zl) (b7.extBut _ _ (Nat.ne_of_gt zl) (gW _ rfl));rw[sz]at z8 nu;refine nX ⟨_,rfl,nX ?_⟩;show Q (some (.ref g5.objs.size)) _;rw[sz];exact q g8 z8 (up _ _ D.TOz o5) (IsTupleIter.as n5 λo e=>up _ o D.i1z e) (m5.at λo e=>up _ o D.i2z e) nu λc o hc e=>up c o (λh=>hc (by simp [h])) (k5 c o hc e)
theorem RL{Q:Option Value->Shared->Prop}(hh:A.handled=none)(D:ZipApart z TI TO i1 i2 l1 l2)(Z:ZU z TI TO i1 i2 l1 l2 k s.heap)(t1:s.heap.IsTuple l1 xs)(t2:s.heap.IsList l2 ys)(he:xs[k]? = none∨ys[k]? = none)
  (q:∀g,(∀c o,c∉[z,TO,i1,i2]->s.heap.get? c=some o->g.get? c=some o)->Q none { s with heap:=g }):wpAny (model prog w) A (pyNext (.ref z)) Q E s:=by
 obtain⟨hz,hti,⟨a,b,hto⟩,s1,s2⟩:=Z;have T:s.TypeIs (.ref z) "zip":=⟨_,hz,rfl⟩;unfold pyNext;refine nW (wpAny_attempt (wpAny_callSpecial?_slot (name:=Str.ofString "__next__") T F.slot_zip_next (wpAny_call_entry F.slot_zip_next T F.entry_zip_next ?_ (F.args_zip_next_1 _))));have fin:∀g (e:Addr),(∀c o,c∉[z,TO,i1,i2]->s.heap.get? c=some o->g.get? c=some o)->(∃o,g.get? e=some o/\o.cls=.type "StopIteration")->
   wpAny (model prog w) A (do if (<-isInstance (.ref e) (.type "StopIteration"))then pure none else throw (.ref e)) Q E { s with heap:=g } :=λg e hk ⟨o,ho,hc⟩=>
  nW (wpAny_isInstance (T:="StopIteration") (b:=true) ⟨o,ho,hc⟩ isSubtype_stop (nX (q _ hk)))
 show wpAny _ _ (field (.ref z) 2 >>= _) _ _ _;refine nW (wpAny_field hz rfl (x:=.bool false) rfl ?_);show wpAny _ _ (field (.ref z) 3 >>= _) _ _ _;refine nW (wpAny_field hz rfl (x:=.ref TI) rfl (nW (wpAny_seqItems hti rfl ?_)));show wpAny _ _ (Builtin.SmallTypes.ownedTupleIsFree (.ref z) >>= _) _ _ _;refine nW ?_;unfold Builtin.SmallTypes.ownedTupleIsFree;refine nW (wpAny_field hz rfl (x:=.none) rfl (nX ?_));simp only[if_true];refine nW (wpAny_rule (nW (wpAny_field hz rfl (x:=.ref TO) rfl (nW (wpAny_setField_rec hz (by simp) λg1 z1 b1=>?_)))))
 replace z1:IsZip g1 z TI TO .ellipsis:=z1
 refine nW ?_;simp only[List.zipIdx_cons,List.zipIdx_nil,List.forIn_cons,List.forIn_nil];refine nW (nW (wpAny_onRaise ?_));show wpAny _ _ (Builtin.SmallTypes.nextOf (.ref i1) >>= _) _ _ _;cases hx:xs[k]? with
 | none=>
  refine nW (zQ hh (s1.extBut b1.extBut D.i1z) (t1.extBut b1.extBut D.l1z) hx λg2 e b2 ⟨oe,he,ce⟩=>?_);have z2:IsZip g2 z TI TO .ellipsis:=b2 _ _ D.i1z.symm z1;have ez:e≠z:=λh=>by subst h;rw[z2]at he;cases he;simp at ce
  refine wpAny_setField_rec z2 (by simp) λg3 _ b3=>fin g3 e (λc o hc h=>?_) ⟨oe,b3.extBut _ _ ez he,ce⟩;simp only[nF,not_or]at hc;exact b3.extBut _ _ hc.1 (b2 _ _ hc.2.2.1 (b1.extBut _ _ hc.1 h))
 | some x=>
  have hy:ys[k]? = none:=he.resolve_left (by rw[hx];simp);refine nW (EQ (s1.extBut b1.extBut D.i1z) (t1.extBut b1.extBut D.l1z) hx λg2 n2 b2=>nX ?_);have o2:IsPair g2 TO a b:=b2.extBut _ _ D.TOi1 (b1.extBut _ _ D.TOz hto);refine nW (wpAny_seqItems o2 rfl (nW (wpAny_updateSeq_pair o2 λg3 o3 b3=>?_)));refine nW (wpAny_letGo (nX (nW (nW (wpAny_onRaise ?_)))));show wpAny _ _ (Builtin.SmallTypes.nextOf (.ref i2) >>= _) _ _ _;refine nW (wpAny_nextOf_list_end hh (((s2.extBut b1.extBut D.i2z).extBut b2.extBut D.i12.symm).extBut b3.extBut D.TOi2.symm) (((t2.extBut b1.extBut D.l2z).extBut b2.extBut D.l2i1).extBut b3.extBut D.l2TO) hy λg4 e b4 ⟨oe,he,ce⟩=>?_);have z4:IsZip g4 z TI TO .ellipsis:=b4 _ _ D.i2z.symm (b3.extBut _ _ D.TOz.symm (b2.extBut _ _ D.i1z.symm z1));have ez:e≠z:=λh=>by subst h;rw[z4]at he;cases he;simp at ce
  refine wpAny_setField_rec z4 (by simp) λg5 _ b5=>fin g5 e (λc o hc h=>?_) ⟨oe,b5.extBut _ _ ez he,ce⟩;simp only[nF,not_or]at hc;exact b5.extBut _ _ hc.1 (b4 _ _ hc.2.2.2.1 (b3.extBut _ _ hc.2.1 (b2.extBut _ _ hc.2.2.1 (b1.extBut _ _ hc.1 h))))
theorem LU(a b:Addr)(xs ys:Array Value) :
  Meets (Builtin.«zip.__new__» ⟨[.type "zip",.ref a,.ref b],[]⟩) (λ_ R s=>s.heap.IsTuple a xs/\s.heap.IsList b ys/\
   ∀g,(∀c o,s.heap.get? c=some o->g.get? c=some o)->ZU (s.heap.objs.size+4) (s.heap.objs.size+2) (s.heap.objs.size+3) s.heap.objs.size (s.heap.objs.size+1) a b 0 g->R (.ok (.ret (.ref (s.heap.objs.size+4)))) { s with heap:=g }):=
 .of_wp λprog w A R s h=>by
  obtain⟨hp,gs,d,tk,os⟩:=s;obtain⟨t1,t2,h⟩:=h;have hsub:=sub_zip;have T1:Heap.IsTuple (Shared.heap ⟨hp,gs,d,tk,os⟩) a xs:=t1;have T2:Heap.IsList (Shared.heap ⟨hp.push { cls:=.type "tuple_iterator",data:=.fields #[.ref a,.int 0 0] },gs,d,tk,os⟩) b ys:=Heap.IsList.push t2 _
  wp_walk using wpAny_pyIter_tuple T1,wpAny_pyIter_list T2
  have e1:=λo=>nC hp (o:=o);refine⟨_,rfl, ?_⟩;simp only[nC]at h ⊢;refine h _ (λc o e=>gL _ (gL _ (gL _ (gL _ (gL _ e))))) ⟨?_, ?_, ?_, ?_, ?_⟩
  ·have e:=gW (((((hp.push { cls:=.type "tuple_iterator",data:=.fields #[.ref a,.int 0 0] }).push { cls:=.type "list_iterator",data:=.fields #[.ref b,.int 0 0] }).push { cls:=.type "tuple",data:=.seq #[.ref hp.objs.size,.ref (hp.objs.size+1)] })).push { cls:=.type "tuple",data:=.seq #[.none,.none] }) (o:={ cls:=.type "zip",data:=.fields #[.none,.bool false,.bool false,.ref (hp.objs.size+2),.ref (hp.objs.size+3)] }) rfl;simp only[nC]at e;exact e
  ·have e:=gW ((hp.push { cls:=.type "tuple_iterator",data:=.fields #[.ref a,.int 0 0] }).push { cls:=.type "list_iterator",data:=.fields #[.ref b,.int 0 0] }) (o:={ cls:=.type "tuple",data:=.seq #[.ref hp.objs.size,.ref (hp.objs.size+1)] }) rfl;simp only[nC]at e;exact gL _ (gL _ e)
  ·have e:=gW ((((hp.push { cls:=.type "tuple_iterator",data:=.fields #[.ref a,.int 0 0] }).push { cls:=.type "list_iterator",data:=.fields #[.ref b,.int 0 0] }).push { cls:=.type "tuple",data:=.seq #[.ref hp.objs.size,.ref (hp.objs.size+1)] })) (o:={ cls:=.type "tuple",data:=.seq #[.none,.none] }) rfl;simp only[nC]at e;exact⟨_,_,gL _ e⟩
  ·have e:=gW hp (o:={ cls:=.type "tuple_iterator",data:=.fields #[.ref a,.int 0 0] }) rfl;exact⟨_,gL _ (gL _ (gL _ (gL _ e))),rfl,rfl⟩
  ·have e:=gW (hp.push { cls:=.type "tuple_iterator",data:=.fields #[.ref a,.int 0 0] }) (o:={ cls:=.type "list_iterator",data:=.fields #[.ref b,.int 0 0] }) rfl;simp only[nC]at e;exact⟨_,gL _ (gL _ (gL _ e)),rfl,rfl⟩
theorem RB{a b:Addr}{xs ys:Array Value}{Q:Value->Shared->Prop}(t1:s.heap.IsTuple a xs)(t2:s.heap.IsList b ys)
  (q:∀g,(∀c o,s.heap.get? c=some o->g.get? c=some o)->ZU (s.heap.objs.size+4) (s.heap.objs.size+2) (s.heap.objs.size+3) s.heap.objs.size (s.heap.objs.size+1) a b 0 g->Q (.ref (s.heap.objs.size+4)) { s with heap:=g }) :
  wpAny (model prog w) A (call (.type "zip") [.ref a,.ref b]) Q E s:=
 callType_new F.called_zip (by decide) (F.typeCall_zip_2 _ _) (F.newCall_zip_2 _ _) (λobj=>F.args_object_init_3 obj _ _) F.entry_zip_new (LU a b xs ys) ⟨t1,t2,λg k Z=>⟨⟨_,Z.zz,rfl⟩,q g k Z⟩⟩
end
section
variable{X:Cx}{ac:List (Addr×Obj)}{σ:St}{H:Hp}{s:Shared}{h':Heap}
theorem FpOk.apartL{a b:Addr}{xs:List V}(I:Inv X ac σ H s)(f:FpOk X ac H b)(h:SqL X.K H a xs):a≠b:=by
 rintro rfl;rcases h with(h | ⟨o,h⟩) | ⟨o,its,n,hk,hc,hs,hz,r⟩
 ·rw[f.1]at h;cases h
 ·rw[f.1]at h;cases h
 ·have hb:X.base.get? a=some o:=I.ok.mod.kin a o hk;rcases f.2.2.2.1 with z | z
  ·exact I.ok.noex a o hb z
  ·exact absurd (hJ (nK hb) (nL I.ok.bsz z)) (nG _)
end
def Itu(K:tF)(a b:Addr):It:=
 ⟨λi H=>∃xs ys x y,SqT K H a xs/\SqL K H b ys/\xs[i]? = some x/\ys[i]? = some y,
  λi H v H'=>∃p x y,H p=none/\v=.ref p/\H'=upd H p (.tup [x,y])/\(∀xs,SqT K H a xs->xs[i]? = some x)/\(∀ys,SqL K H b ys->ys[i]? = some y),
  λi H=>∃xs ys,SqT K H a xs/\SqL K H b ys/\(xs.length<=i∨ys.length<=i)⟩
theorem OZ{P:Program}{w:World}{K:tF}{es:List Expr}{x1}{pos:Pos}(l1 l2:Addr){z TI TO i1 i2:Addr}(F:Five z TI TO i1 i2):Turn P w K (.Tuple es x1 pos) (Itu K l1 l2) [z,TI,TO,i1,i2] z (λi h=>ZU z TI TO i1 i2 l1 l2 i h) where
 mem:=by simp
 obj:=λi h Z b hb=>by
  simp only[nF,mM,or_false]at hb;obtain⟨hz,hti,⟨a,c,hto⟩,⟨o1,g1,c1,d1⟩,⟨o2,g2,c2,d2⟩⟩:=Z;rcases hb with rfl | rfl | rfl | rfl | rfl
  ·exact⟨_,hz,λv q=>by cases (show Data.fields _=Data.cell v from q)⟩
  ·exact⟨_,hti,λv q=>by cases (show Data.seq _ _=Data.cell v from q)⟩
  ·exact⟨_,hto,λv q=>by cases (show Data.seq _ _=Data.cell v from q)⟩
  ·exact⟨_,g1,λv q=>by rw[d1]at q;cases q⟩
  ·exact⟨_,g2,λv q=>by rw[d2]at q;cases q⟩
 keep:=λi h h' Z k=>by
  obtain⟨hz,hti,⟨a,c,hto⟩,s1,s2⟩:=Z;exact⟨k z (by simp) _ hz,k TI (by simp) _ hti,⟨a,c,k TO (by simp) _ hto⟩,IsTupleIter.as s1 λo e=>k i1 (by simp) o e,s2.at λo e=>k i2 (by simp) o e⟩
 item:=by
  intro X hP hw hK hc i ac s σ H E I hf Z hg;subst hP hw hK;obtain⟨xs,ys,x,y,q1,q2,hx,hy⟩:=hg;obtain⟨its1,r1,p1,_⟩:=I.tuple q1;obtain⟨its2,r2,p2,_⟩:=I.list q2;obtain⟨u1,hu1,ru1⟩:=r1.get hx;obtain⟨u2,hu2,ru2⟩:=r2.get hy;have D:=F.of (λb hb=>FpOk.apart I (hf b hb) q1) (λb hb=>FpOk.apartL I (hf b hb) q2);refine OV D Z (show s.heap.IsTuple l1 its1.toArray from p1) p2.isList (x:=u1) (y:=u2) (by simpa using hu1) (by simpa using hu2) λg z1 to1 n1 n2 nu kk=>⟨_,rfl, ?_⟩;refine wpAny_letOwnedTupleGo_zip z1 λg2 z2 sb=>?_;have fr:H s.heap.objs.size=none:=I.hok.fresh gA ;have fp:∀b∈[z,TI,TO,i1,i2],FpOk X ac (upd H s.heap.objs.size (.tup [x,y])) b:=λb hb=>by
   have lt:b≠s.heap.objs.size:=by
    simp only[nF,mM,or_false]at hb;obtain⟨hz,hti,⟨a,c,hto⟩,⟨o1,g1,_⟩,⟨o2,g2,_⟩⟩:=Z;rcases hb with rfl | rfl | rfl | rfl | rfl
    ·exact nM (nK hz)
    ·exact nM (nK hti)
    ·exact nM (nK hto)
    ·exact nM (nK g1)
    ·exact nM (nK g2)
   exact⟨by rw[jH lt];exact(hf b hb).1,(hf b hb).2⟩
  have I1:Inv X ac σ (upd H s.heap.objs.size (.tup [x,y])) { s with heap:=s.heap.push { cls:=.type "tuple",data:=.seq #[u1,u2] } } :=I.laid (t':=s.toks) (λb u e=>gL _ e) gA ⟨by simp [sizeLine],[u1,u2],.cons ru1 (.cons ru2 .nil),⟨_,gW _ rfl,rfl,_,rfl⟩,.of (gW _ rfl) rfl⟩;have up:∀c o,c≠z->g.get? c=some o->g2.get? c=some o:=λc o cz e=>sb.extBut _ _ cz e;have zs:z≠s.heap.objs.size:=nM (nK Z.zz);have I2:Inv X ac σ (upd H s.heap.objs.size (.tup [x,y])) { s with heap:=g2 } :=by
   refine Inv.turnedL (s:={ s with heap:=s.heap.push { cls:=.type "tuple",data:=.seq #[u1,u2] } }) (h':=g2) (t':=s.toks) I1 fp λb o hb e=>?_;have bz:b≠z:=λh=>hb (by simp [h]);rcases Heap.get?_push_cases e with⟨e1,e2⟩ | e1
   ·rw[e1,e2];exact up _ _ (Ne.symm zs) nu
   ·exact up _ _ bz (kk b o (λh=>hb (by simp only[nF,mM,or_false]at h ⊢;rcases h with h | h | h | h<;>simp [h])) e1)
  exact⟨.ref s.heap.objs.size,_,I2,rfl,⟨_,x,y,fr,rfl,rfl,λxs' h=>by rw[I.tuple_inj h q1];exact hx,λys' h=>by rw[I.list_inj h q2];exact hy⟩,⟨z2,up _ _ D.TIz (kk _ _ (by simp [D.TIz,D.TITO,D.TIi1,D.TIi2]) Z.ti),⟨_,_,up _ _ D.TOz to1⟩,IsTupleIter.as n1 λo e=>up _ o D.i1z e,n2.at λo e=>up _ o D.i2z e⟩,λb hb=>(fp b hb).1⟩
 done:=by
  intro X hP hw hK hc i ac s σ H E I hf Z hg;subst hP hw hK;obtain⟨xs,ys,q1,q2,he⟩:=hg;obtain⟨its1,r1,p1,_⟩:=I.tuple q1;obtain⟨its2,r2,p2,_⟩:=I.list q2;have D:=F.of (λb hb=>FpOk.apart I (hf b hb) q1) (λb hb=>FpOk.apartL I (hf b hb) q2);have e1:=r1.length;have e2:=r2.length;refine RL (I.ok.hd hc) D Z (show s.heap.IsTuple l1 its1.toArray from p1) p2.isList ?_ λg kk=>⟨rfl,Inv.turnedL (t':=s.toks) I hf λb o hb e=>kk b o (λh=>hb (by simp only[nF,mM,or_false]at h ⊢;rcases h with h | h | h | h<;>simp [h])) e⟩;rcases he with h | h
  ·exact .inl (by simp;omega)
  ·exact .inr (by simp;omega)
 self:=λ_ _ _ _ _ Z h=>wpAny_pyIter_zip Z.zz h
section
variable{X:Cx}
def iZipU(K:tF)(ta:TA):TI:=fun σ H R=>ta σ H λvs H1=>∃a b,vs=[.ref a,.ref b]/\(∃xs,SqT K H1 a xs)/\(∃ys,SqL K H1 b ys)/\R (Itu K a b) H1
theorem BC{es:List Expr}{x1}{tp:Pos}{a b:Expr}{ta:TA}{p pos:Pos}(hg:Gl X "zip")(hm:X.mg "zip" = none)(ha:PA X [a,b] ta)(hs:starEach [a,b] X.env=[(false,eval a X.env),(false,eval b X.env)]:=by rfl)(hs2:starEach [b] X.env=[(false,eval b X.env)]:=by rfl) :
  PI X (.Tuple es x1 tp) (.Call (.Name "zip" p) [a,b] [] pos) (iZipU X.K ta):=by
 intro ac s σ H R I h;refine Call_ (xV I hg hm boot_zip (PyProof.Rows.callWith_type1 (thn (ha pos ac s σ H _ I h) λus s1 ⟨vs,H1,I1,r1,q1⟩=>?_) (by rw[hs,hs2]) (by rw[hs2];rfl)));obtain⟨l1,l2,e,⟨xs,q1⟩,⟨ys,q2⟩,q⟩:=q1;subst e;cases r1 with
 | cons r rr=>
  cases rr with
  | cons r' rr=>
   cases rr;cases r;cases r';obtain⟨its1,_,p1,_⟩:=I1.tuple q1;obtain⟨its2,_,p2,_⟩:=I1.list q2;refine RB (show s1.heap.IsTuple l1 its1.toArray from p1) p2.isList λg k Z=>wpAny_pyIter_zip Z.zz ?_;refine⟨_,_,_,_,H1,rfl,I1.kept (t':=s1.toks) k,OZ l1 l2 ⟨by simp⟩,Z,λb hb=>?_,q⟩;have hb':s1.heap.objs.size<=b:=by
    simp only[nF,mM,or_false]at hb;rcases hb with rfl | rfl | rfl | rfl | rfl<;>first | exact Nat.le_add_right _ _ | exact nQ _
   exact I1.fpOk hb' (I1.hok.fresh hb')
end
section
open AutoSeq1 (wpAny_loadPart')
theorem JT(l:Addr)(items:Array Value)(o:Obj)(hcl:o.cls=.type "tuple")(n:Nat)(hdt:o.data=.seq items n) :
  Meets (Builtin.«enumerate.__new__» ⟨[.type "enumerate",.ref l],[]⟩) (λ_ R s=>s.heap.get? l=some o/\
   R (.ok (.ret (.ref (s.heap.push { cls:=.type "tuple_iterator",data:=.fields #[.ref l,.int 0 0] }).objs.size)))
    { s with heap:=(s.heap.push { cls:=.type "tuple_iterator",data:=.fields #[.ref l,.int 0 0] }).push { cls:=.type "enumerate",data:=.fields #[.none,.bool false,.ref s.heap.objs.size,rawInt 0,.none,.none] } }):=
 .of_wp λprog w A R s h=>by
  obtain⟨hp,g,d,tk,os⟩:=s;obtain⟨hl,h⟩:=h;have hsub:=sub_enumerate;have TL:Heap.IsTuple (Shared.heap ⟨hp,g,d,tk,os⟩) l items:=⟨_,hl,hcl,n,hdt⟩;obtain⟨c,dct,dt,sl⟩:=o
  replace hcl:c=.type "tuple":=hcl
  replace hdt:dt=.seq items n:=hdt
  subst hcl hdt
  wp_walk using wpAny_loadPart' hl
  refine wpAny_stack_any λst=>nX ?_;split
  ·rename_i c _ _ _ _ _;cases (c==Value.type "enumerate")<;>
   ·wp_walk using wpAny_loadPart' hl,wpAny_pyIter_tuple TL
    exact⟨_,rfl,h⟩
  ·wp_walk using wpAny_loadPart' hl,wpAny_pyIter_tuple TL
   exact⟨_,rfl,h⟩
end
section
variable{prog:Program}{w:World}{A:Around}{E:Value->Shared->Prop}{s:Shared}
theorem MI{l:Addr}{items:Array Value}{Q:Value->Shared->Prop}(tl:s.heap.IsTuple l items)
  (q:∀g,IsEnum g (s.heap.objs.size+1) s.heap.objs.size 0 .none->g.IsTupleIter s.heap.objs.size l 0->(∀b o,s.heap.get? b=some o->g.get? b=some o)->Q (.ref (s.heap.objs.size+1)) { s with heap:=g }) :
  wpAny (model prog w) A (call (.type "enumerate") [.ref l]) Q E s:=by
 obtain⟨o,hl,hc,n,hd⟩:=tl;refine callType_new F.called_enumerate (by decide) (F.typeCall_enumerate_1 _) (F.newCall_enumerate_1 _) (λobj=>F.args_object_init_2 obj _) F.entry_enumerate_new (JT l items o hc n hd) ⟨hl, ?_⟩;have hz:(s.heap.push { cls:=.type "tuple_iterator",data:=.fields #[.ref l,.int 0 0] }).objs.size=s.heap.objs.size+1:=nC ..;show _/\_;rw[hz];have he:IsEnum ((s.heap.push { cls:=.type "tuple_iterator",data:=.fields #[.ref l,.int 0 0] }).push { cls:=.type "enumerate",data:=.fields #[.none,.bool false,.ref s.heap.objs.size,rawInt 0,.none,.none] }) (s.heap.objs.size+1) s.heap.objs.size 0 .none:=by
  have z:=gW (s.heap.push { cls:=.type "tuple_iterator",data:=.fields #[.ref l,.int 0 0] }) (o:={ cls:=.type "enumerate",data:=.fields #[.none,.bool false,.ref s.heap.objs.size,rawInt 0,.none,.none] }) rfl;rw[hz]at z;exact z
 exact⟨⟨_,he,rfl⟩,q _ he ⟨_,gL _ (gW _ rfl),rfl,rfl⟩ λb o y=>gL _ (gL _ y)⟩
theorem MB{e it l:Addr}{i:Nat}{items:Array Value}{x old:Value}{Q:Option Value->Shared->Prop}
  (he:IsEnum s.heap e it i old) (hit:s.heap.IsTupleIter it l i) (tl:s.heap.IsTuple l items) (hx:items[i]? = some x) (hne:e≠it)
  (q:∀g,IsEnumOut g e it ((i:Int)+1) x s.heap.objs.size->g.IsTupleIter it l (i+1)->g.get? s.heap.objs.size=some { cls:=.type "tuple",data:=.seq #[.int i s.toks,x] }->
   (∀b o,b≠e->b≠it->s.heap.get? b=some o->g.get? b=some o)->Q (some (.ref s.heap.objs.size)) { s with heap:=g,toks:=s.toks+1 }) :
  wpAny (model prog w) A (pyNext (.ref e)) Q E s:=by
 have T:s.TypeIs (.ref e) "enumerate":=⟨_,he,rfl⟩;unfold pyNext;refine nW (wpAny_attempt (wpAny_callSpecial?_slot (name:=Str.ofString "__next__") T F.slot_enumerate_next (wpAny_call_entry F.slot_enumerate_next T F.entry_enumerate_next ?_ (F.args_enumerate_next_1 _))));obtain⟨hp,gs,d,tk,os⟩:=s;show wpAny _ _ (field (.ref e) 2 >>= _) _ _ _;refine nW (wpAny_field he rfl (x:=.ref it) rfl (nW (EQ hit tl hx λg1 n1 b1=>?_)))
 replace b1:Heap.SameBut it hp g1:=b1
 have e1:IsEnum g1 e it i old:=(b1.2 e hne).trans he;show wpAny _ _ (field (.ref e) 3 >>= _) _ _ ⟨g1,gs,d,tk,os⟩;refine nW (wpAny_field e1 rfl (x:=rawInt i) rfl ?_);show wpAny _ _ (field (.ref e) 4 >>= _) _ _ ⟨g1,gs,d,tk,os⟩;refine nW (wpAny_field e1 rfl (x:=.none) rfl ?_);show wpAny _ _ (mkInt i >>= _) _ _ ⟨g1,gs,d,tk,os⟩;refine nW (wpAny_mkInt ?_);show wpAny _ _ (setField (.ref e) 3 (rawInt ((i:Int)+1)) >>= _) _ _ ⟨g1,gs,d,tk+1,os⟩;refine nW (wpAny_setField_rec e1 (by simp) λg2 e2 b2=>?_)
 replace b2:Heap.SameBut e g1 g2:=b2
 replace e2:IsEnum g2 e it ((i:Int)+1) old:=e2
 show wpAny _ _ (setField (.ref e) 4 .none >>= _) _ _ ⟨g2,gs,d,tk+1,os⟩;refine nW (wpAny_setField_rec e2 (by simp) λg3 e3 b3=>?_)
 replace b3:Heap.SameBut e g2 g3:=b3
 replace e3:IsEnum g3 e it ((i:Int)+1) old:=e3
 show wpAny _ _ (newTuple [.int i tk,x] >>= _) _ _ ⟨g3,gs,d,tk+1,os⟩;refine nW (wpAny_newTuple ?_);have e4:IsEnum (g3.push { cls:=.type "tuple",data:=.seq #[.int i tk,x] }) e it ((i:Int)+1) old:=gL _ e3;generalize q4:g3.push { cls:=.type "tuple",data:=.seq #[.int i tk,x] } = g4 at e4;have zs:g3.objs.size=hp.objs.size:=by rw[b3.1,b2.1,b1.1]
 have el:e<hp.objs.size:=nK he;have t4:g4.get? hp.objs.size=some { cls:=.type "tuple",data:=.seq #[.int i tk,x] } :=by rw[<-q4,<-zs];exact gW _ rfl
 have k4:∀b o,b≠e->b≠it->hp.get? b=some o->g4.get? b=some o:=λb o y1 y2 y=>by
  rw[<-q4];exact gL _ (b3.extBut b o y1 (b2.extBut b o y1 (b1.extBut b o y2 y)))
 have n4:g4.IsTupleIter it l (i+1):=by
  rw[<-q4];exact IsTupleIter.as ((n1.extBut b2.extBut (Ne.symm hne)).extBut b3.extBut (Ne.symm hne)) λo y=>gL _ y
 show wpAny _ _ (Builtin.SmallTypes.ownedTupleIsFree (.ref e) >>= _) _ _ ⟨g4,gs,d,tk+1,os⟩;rw[zs];clear q4 e3 b3 e2 b2 e1 b1 n1 zs g3 g2 g1;refine nW ?_;unfold Builtin.SmallTypes.ownedTupleIsFree;refine nW (wpAny_field e4 rfl (x:=.none) rfl (nX ?_));simp only[if_true];refine nW (wpAny_rule (nW (wpAny_field e4 rfl (x:=old) rfl (nW (wpAny_setField_rec e4 (by simp) λg5 e5 b5=>?_)))))
 replace b5:Heap.SameBut e g4 g5:=b5
 replace e5:IsEnum g5 e it ((i:Int)+1) x:=e5
 show wpAny _ _ (Builtin.SmallTypes.ownedTupleHandOut (.ref e) (.ref hp.objs.size) >>= _) _ _ ⟨g5,gs,d,tk+1,os⟩;refine nW ?_;unfold Builtin.SmallTypes.ownedTupleHandOut;refine nW (wpAny_setField_rec e5 (by simp) λg6 e6 b6=>?_)
 replace b6:Heap.SameBut e g5 g6:=b6
 replace e6:IsEnumOut g6 e it ((i:Int)+1) x hp.objs.size:=e6
 refine wpAny_setField_rec e6 (by simp) λg7 e7 b7=>?_
 replace b7:Heap.SameBut e g6 g7:=b7
 replace e7:IsEnumOut g7 e it ((i:Int)+1) x hp.objs.size:=e7
 refine nW (wpAny_letGo (nX ⟨_,rfl,nX (q g7 e7 ?_ ?_ ?_)⟩))
 ·exact((n4.extBut b5.extBut (Ne.symm hne)).extBut b6.extBut (Ne.symm hne)).extBut b7.extBut (Ne.symm hne)
 ·exact b7.extBut _ _ (Nat.ne_of_gt el) (b6.extBut _ _ (Nat.ne_of_gt el) (b5.extBut _ _ (Nat.ne_of_gt el) t4))
 ·exact λb o y1 y2 y=>b7.extBut b o y1 (b6.extBut b o y1 (b5.extBut b o y1 (k4 b o y1 y2 y)))
theorem QV{e it l:Addr}{i:Nat}{items:Array Value}{old:Value}{Q:Option Value->Shared->Prop}(hh:A.handled=none)
  (he:IsEnum s.heap e it i old) (hit:s.heap.IsTupleIter it l i) (tl:s.heap.IsTuple l items) (hx:items[i]? = none)
  (q:∀g,Heap.ExtBut it s.heap g->Q none { s with heap:=g }):wpAny (model prog w) A (pyNext (.ref e)) Q E s:=by
 have T:s.TypeIs (.ref e) "enumerate":=⟨_,he,rfl⟩;unfold pyNext;refine nW (wpAny_attempt (wpAny_callSpecial?_slot (name:=Str.ofString "__next__") T F.slot_enumerate_next (wpAny_call_entry F.slot_enumerate_next T F.entry_enumerate_next ?_ (F.args_enumerate_next_1 _))));show wpAny _ _ (field (.ref e) 2 >>= _) _ _ _;refine nW (wpAny_field he rfl (x:=.ref it) rfl (nW (zQ hh hit tl hx λg y b1 ⟨o,ho,hc⟩=>?_)));exact nW (wpAny_isInstance (T:="StopIteration") (b:=true) ⟨o,ho,hc⟩ isSubtype_stop (nX (q _ b1)))
end
def Ite(K:tF)(a:Addr):It:=
 ⟨λi H=>∃xs x,SqT K H a xs/\xs[i]? = some x,
  λi H v H'=>∃p x,H p=none/\v=.ref p/\H'=upd H p (.tup [.int i,x])/\(∀xs,SqT K H a xs->xs[i]? = some x),
  λi H=>∃xs,SqT K H a xs/\xs.length<=i⟩
theorem LI{P:Program}{w:World}{K:tF}{es:List Expr}{x1}{pos:Pos}(l:Addr){e it:Addr}(hne:e≠it):Turn P w K (.Tuple es x1 pos) (Ite K l) [e,it] e (λi h=>(∃old,IsEnum h e it i old)/\h.IsTupleIter it l i) where
 mem:=by simp
 obj:=λi h Z b hb=>by
  simp only[nF,mM,or_false]at hb;obtain⟨⟨old,he⟩,⟨o1,g1,c1,d1⟩⟩:=Z;rcases hb with rfl | rfl
  ·exact⟨_,he,λv q=>by cases (show Data.fields _=Data.cell v from q)⟩
  ·exact⟨_,g1,λv q=>by rw[d1]at q;cases q⟩
 keep:=λi h h' Z k=>by
  obtain⟨⟨old,he⟩,s1⟩:=Z;exact⟨⟨old,k e (by simp) _ he⟩,IsTupleIter.as s1 λo y=>k it (by simp) o y⟩
 item:=by
  intro X hP hw hK hc i ac s σ H E I hf Z hg;subst hP hw hK;obtain⟨xs,x,q1,hx⟩:=hg;obtain⟨its1,r1,p1,_⟩:=I.tuple q1;obtain⟨u1,hu1,ru1⟩:=r1.get hx;obtain⟨⟨old,he⟩,hit⟩:=id Z;have ae:l≠e:=FpOk.apart I (hf e (by simp)) q1;have ai:l≠it:=FpOk.apart I (hf it (by simp)) q1;refine MB he hit (show s.heap.IsTuple l its1.toArray from p1) (x:=u1) (by simpa using hu1) hne λg out n1 nu kk=>⟨_,rfl, ?_⟩;refine wpAny_letOwnedTupleGo_enum out λg2 z2 sb=>?_;have fr:H s.heap.objs.size=none:=I.hok.fresh gA ;have el:e<s.heap.objs.size:=nK he;have il:it<s.heap.objs.size:=by obtain⟨_,y,_⟩:=hit;exact nK y
  have fp:∀b∈[e,it],FpOk X ac (upd H s.heap.objs.size (.tup [.int i,x])) b:=λb hb=>by
   have lt:b≠s.heap.objs.size:=by
    simp only[nF,mM,or_false]at hb;rcases hb with rfl | rfl
    ·exact nM el
    ·exact nM il
   exact⟨by rw[jH lt];exact(hf b hb).1,(hf b hb).2⟩
  have I1:Inv X ac σ (upd H s.heap.objs.size (.tup [.int i,x])) { s with heap:=s.heap.push { cls:=.type "tuple",data:=.seq #[.int i s.toks,u1] } } :=I.laid (t':=s.toks) (λb u e=>gL _ e) gA ⟨by simp [sizeLine],[.int i s.toks,u1],.cons ⟨_,rfl⟩ (.cons ru1 .nil),⟨_,gW _ rfl,rfl,_,rfl⟩,.of (gW _ rfl) rfl⟩;have up:∀c o,c≠e->g.get? c=some o->g2.get? c=some o:=λc o cz y=>sb.extBut _ _ cz y;have I2:Inv X ac σ (upd H s.heap.objs.size (.tup [.int i,x])) { s with heap:=g2,toks:=s.toks+1 } :=by
   refine Inv.turnedL (s:={ s with heap:=s.heap.push { cls:=.type "tuple",data:=.seq #[.int i s.toks,u1] } }) (h':=g2) (t':=s.toks+1) I1 fp λb o hb y=>?_;simp only[nF,mM,or_false,not_or]at hb;rcases Heap.get?_push_cases y with⟨e1,e2⟩ | e1
   ·rw[e1,e2];exact up _ _ (Nat.ne_of_gt el) nu
   ·exact up _ _ hb.1 (kk b o hb.1 hb.2 e1)
  exact⟨.ref s.heap.objs.size,_,I2,rfl,⟨_,x,fr,rfl,rfl,λxs' h=>by rw[I.tuple_inj h q1];exact hx⟩,⟨⟨_,by simpa using z2⟩,IsTupleIter.as n1 λo y=>up _ o (Ne.symm hne) y⟩,λb hb=>(fp b hb).1⟩
 done:=by
  intro X hP hw hK hc i ac s σ H E I hf Z hg;subst hP hw hK;obtain⟨xs,q1,hl⟩:=hg;obtain⟨its1,r1,p1,_⟩:=I.tuple q1;obtain⟨⟨old,he⟩,hit⟩:=id Z;have e1:=r1.length;refine QV (I.ok.hd hc) he hit (show s.heap.IsTuple l its1.toArray from p1) (by simp;omega) λg eb=>⟨rfl,Inv.turnedL (t':=s.toks) I hf λb o hb y=>eb b o (λz=>hb (by simp [z])) y⟩
 self:=λ_ _ _ _ _ Z h=>by
  obtain⟨⟨old,he⟩,_⟩:=Z;exact wpAny_pyIter_enum he h
section
variable{X:Cx}
def iEnumT(K:tF)(ta:TA):TI:=fun σ H R=>ta σ H λvs H1=>∃a,vs=[.ref a]/\(∃xs,SqT K H1 a xs)/\R (Ite K a) H1
theorem TU{es:List Expr}{x1}{tp:Pos}{a:Expr}{ta:TA}{p pos:Pos}(hg:Gl X "enumerate")(hm:X.mg "enumerate" = none)(ha:PA X [a] ta)(hs:starEach [a] X.env=[(false,eval a X.env)]:=by rfl) :
  PI X (.Tuple es x1 tp) (.Call (.Name "enumerate" p) [a] [] pos) (iEnumT X.K ta):=by
 intro ac s σ H R I h;refine Call_ (xV I hg hm (show bootBuiltins "enumerate" = some (.type "enumerate") by decide +kernel) (PyProof.Rows.callWith_type1 (thn (ha pos ac s σ H _ I h) λus s1 ⟨vs,H1,I1,r1,q1⟩=>?_) hs rfl));obtain⟨l1,e,⟨xs,q1⟩,q⟩:=q1;subst e;obtain⟨u,rfl,ru⟩:=qM r1;cases ru;obtain⟨its1,_,p1,_⟩:=I1.tuple q1;refine MI (show s1.heap.IsTuple l1 its1.toArray from p1) λg he hit k=>wpAny_pyIter_enum he ?_;refine⟨_,[s1.heap.objs.size+1,s1.heap.objs.size],_,_,H1,rfl,I1.kept (t':=s1.toks) k,LI l1 (Nat.ne_of_gt (mR _)),⟨⟨_,he⟩,hit⟩,λb hb=>?_,q⟩;have hb':s1.heap.objs.size<=b:=by
  simp only[nF,mM,or_false]at hb;rcases hb with rfl | rfl<;>first | exact Nat.le_add_right _ _ | exact nQ _
 exact I1.fpOk hb' (I1.hok.fresh hb')
end
theorem VY{K:tF}{a:Addr}{xs:List V}{g:TG}{tb:TS}{D:Ends}{σ:St}{H:Hp}(Pv:Nat->St->Hp->Prop)(h0:Pv 0 σ H)(hl:∀i σ H,i<=xs.length->Pv i σ H->SqT K H a xs)
  (hs:∀i x p σ H,xs[i]? = some x->H p=none->Pv i σ H->g (.ref p) σ (upd H p (.tup [.int i,x])) fun σ2 H2=>tb { D with nx:=Pv (i+1),ct:=Pv (i+1),bk:=D.nx } σ2 H2) (hd:∀σ H,Pv xs.length σ H->D.nx σ H) :
  ∃W:Nat->Nat->St->Hp->Prop,(∃m,W 0 m σ H)/\∀i m σ H,W i m σ H->
   ((Ite K a).stop i H/\D.nx σ H)∨((Ite K a).go i H/\∃N:St->Hp->Prop,(∀σ' H',N σ' H'->∃m',m'<m/\W (i+1) m' σ' H')/\∀x H',(Ite K a).yld i H x H'->g x σ H' fun σ2 H2=>tb { D with nx:=N,ct:=N,bk:=D.nx } σ2 H2):=by
 refine⟨λi m σ H=>m=xs.length-i/\i<=xs.length/\Pv i σ H,⟨xs.length,by simp,nR _,h0⟩, ?_⟩;rintro i m σ H ⟨rfl,hi,p⟩;have q:=hl i σ H hi p;by_cases hlt:i<xs.length
 ·refine .inr ⟨⟨xs,xs[i],q,by simp [hlt]⟩,Pv (i+1),fun σ' H' p'=>⟨xs.length-(i+1),by omega,rfl,hlt,p'⟩,λv H' y=>?_⟩;obtain⟨r,x,hr,rfl,rfl,hx⟩:=y;exact hs i x r σ H (hx xs q) hr p
 ·have ei:i=xs.length:=by omega
  subst ei;exact .inl ⟨⟨xs,q,nQ _⟩,hd σ H p⟩
theorem for_zipT{K:tF}{a b:Addr}{xs ys:List V}{g:TG}{tb:TS}{D:Ends}{σ:St}{H:Hp}(Pv:Nat->St->Hp->Prop)(le:xs.length=ys.length)(h0:Pv 0 σ H)(hl:∀i σ H,i<=xs.length->Pv i σ H->SqT K H a xs/\SqT K H b ys)
  (hs:∀i x y p σ H,xs[i]? = some x->ys[i]? = some y->H p=none->Pv i σ H->g (.ref p) σ (upd H p (.tup [x,y])) fun σ2 H2=>tb { D with nx:=Pv (i+1),ct:=Pv (i+1),bk:=D.nx } σ2 H2) (hd:∀σ H,Pv xs.length σ H->D.nx σ H) :
  ∃W:Nat->Nat->St->Hp->Prop,(∃m,W 0 m σ H)/\∀i m σ H,W i m σ H->
   ((Itz K a b).stop i H/\D.nx σ H)∨((Itz K a b).go i H/\∃N:St->Hp->Prop,(∀σ' H',N σ' H'->∃m',m'<m/\W (i+1) m' σ' H')/\∀x H',(Itz K a b).yld i H x H'->g x σ H' fun σ2 H2=>tb { D with nx:=N,ct:=N,bk:=D.nx } σ2 H2):=by
 refine⟨λi m σ H=>m=xs.length-i/\i<=xs.length/\Pv i σ H,⟨xs.length,by simp,nR _,h0⟩, ?_⟩;rintro i m σ H ⟨rfl,hi,p⟩;obtain⟨q1,q2⟩:=hl i σ H hi p;by_cases hlt:i<xs.length
 ·refine .inr ⟨⟨xs,ys,xs[i],ys[i]'(by omega),q1,q2,by simp [hlt],by simp [le▸hlt]⟩,Pv (i+1),fun σ' H' p'=>⟨xs.length-(i+1),by omega,rfl,hlt,p'⟩,λv H' y=>?_⟩;obtain⟨r,x,y,hr,rfl,rfl,hx,hy⟩:=y;exact hs i x y r σ H (hx xs q1) (hy ys q2) hr p
 ·have ei:i=xs.length:=by omega
  subst ei;exact .inl ⟨⟨xs,ys,q1,q2,.inl gA⟩,hd σ H p⟩
theorem VU{K:tF}{a b:Addr}{xs ys:List V}{g:TG}{tb:TS}{D:Ends}{σ:St}{H:Hp}(Pv:Nat->St->Hp->Prop)(le:xs.length=ys.length)(h0:Pv 0 σ H)(hl:∀i σ H,i<=xs.length->Pv i σ H->SqT K H a xs/\SqL K H b ys)
  (hs:∀i x y p σ H,xs[i]? = some x->ys[i]? = some y->H p=none->Pv i σ H->g (.ref p) σ (upd H p (.tup [x,y])) fun σ2 H2=>tb { D with nx:=Pv (i+1),ct:=Pv (i+1),bk:=D.nx } σ2 H2) (hd:∀σ H,Pv xs.length σ H->D.nx σ H) :
  ∃W:Nat->Nat->St->Hp->Prop,(∃m,W 0 m σ H)/\∀i m σ H,W i m σ H->
   ((Itu K a b).stop i H/\D.nx σ H)∨((Itu K a b).go i H/\∃N:St->Hp->Prop,(∀σ' H',N σ' H'->∃m',m'<m/\W (i+1) m' σ' H')/\∀x H',(Itu K a b).yld i H x H'->g x σ H' fun σ2 H2=>tb { D with nx:=N,ct:=N,bk:=D.nx } σ2 H2):=by
 refine⟨λi m σ H=>m=xs.length-i/\i<=xs.length/\Pv i σ H,⟨xs.length,by simp,nR _,h0⟩, ?_⟩;rintro i m σ H ⟨rfl,hi,p⟩;obtain⟨q1,q2⟩:=hl i σ H hi p;by_cases hlt:i<xs.length
 ·refine .inr ⟨⟨xs,ys,xs[i],ys[i]'(by omega),q1,q2,by simp [hlt],by simp [le▸hlt]⟩,Pv (i+1),fun σ' H' p'=>⟨xs.length-(i+1),by omega,rfl,hlt,p'⟩,λv H' y=>?_⟩;obtain⟨r,x,y,hr,rfl,rfl,hx,hy⟩:=y;exact hs i x y r σ H (hx xs q1) (hy ys q2) hr p
 ·have ei:i=xs.length:=by omega
  subst ei;exact .inl ⟨⟨xs,ys,q1,q2,.inl gA⟩,hd σ H p⟩
end L2
namespace LwD
open PySem PySem.Spec PyProof.Rows L2 Lw
section
variable{X:Cx}
end
section
variable{X:Cx}{ac:List (Addr×Obj)}{σ:L2.St}{H:Hp}{s:Shared}
end
section
variable{X:Cx}
end
section
variable{X:Cx}
end
section
variable{X:Cx}
def CDivP(i j:Int):Prop:=0<j/\Builtin.divisionGoesByPylong i j=false
theorem zE:OpR X (binaryOp .FloorDiv) (rI CDivP λi j=>.int (i/j)):=opI λi j _ _ _ _ _ hc q=>by
 refine floordiv_int (by have:=hc.1;omega) ?_ (.inl hc.2);rw[Int.fdiv_eq_ediv_of_nonneg _ (Int.le_of_lt hc.1)];exact q
theorem xL{i j:Int}{m:Nat}(hj:0<j)(hm:m<=13400)(hi:i.natAbs<2^m):CDivP i j:=by
 refine⟨hj, ?_⟩;by_cases h9:j.natAbs.log2<9000
 ·exact PyProof.noPylong_of_log2 h9
 ·show(decide ((if j==0 then 0 else j.natAbs.log2/30+1)>300)&&decide ((if i==0 then 0 else i.natAbs.log2/30+1)>(if j==0 then 0 else j.natAbs.log2/30+1)+150))=false;rw[Bool.and_eq_false_iff]
  right
  refine mU ?_;have j0:(j==0)=false:=by
   rw[beq_eq_false_iff_ne];omega
  rw[j0];simp only[Bool.false_eq_true,if_false];have:i.natAbs.log2<13440:=by
   by_cases z:i.natAbs=0
   ·rw[z];decide +kernel
   ·exact(Nat.log2_lt z).mpr (hJ hi (gS (by decide) (by omega)))
  split<;>omega
end
end LwD
namespace LwD
open PySem PySem.W PySem.Spec PyProof.Rows
structure Strict(lt:Nat->Nat->Bool)(n:Nat):Prop where
 tr:∀a b c,lt a b=true->lt b c=true->lt a c=true
 as:∀a b,lt a b=true->lt b a=false
 tot:∀a b,a<n->b<n->a≠b->lt a b=false->lt b a=true
section
variable{lt:Nat->Nat->Bool}{n:Nat}
end
end LwD
namespace LwD
open PySem PySem.Spec PyProof.Rows L2 Lw
def xN:List Int->List Int->Bool
 | x::xs,y::ys=>if x=y then xN xs ys else decide (x<y)
 | [],_::_=>true
 | _,[]=>false
section
variable{prog:Program}{w:World}{A:Around}{E:Value->Shared->Prop}{s:Shared}
end
section
variable{X:Cx}
end
end LwD
namespace LwI
open PySem PySem.Spec PyProof.Rows
open Sem (wp)
theorem st_int:typeLookup (.type "str") "__int__" = pure none:=by rw[typeLookup_type,builtinLookup_eq_fast];kernel_rfl
theorem SJ:typeLookup (.type "str") "__index__" = pure none:=by rw[typeLookup_type,builtinLookup_eq_fast];kernel_rfl
theorem SI:typeLookup (.type "str") "__trunc__" = pure none:=by rw[typeLookup_type,builtinLookup_eq_fast];kernel_rfl
section
local macro_rules | `(panic! $s:str)=>return Lean.mkIdent ((Lean.Name.str (.str (.num (.str (.str (.str (.str (.str .anonymous "_private") "PySem") "Builtin") "Int") "W0All") 0) "PySem") "Builtin")++s.getString.toName)
local macro_rules | `(tactic| trivial)=>do
 let n (s:String):=Lean.mkIdent (.str (.str (.str (.num (.str (.str (.str (.str (.str .anonymous "_private") "PySem") "Builtin") "Int") "W0All") 0) "PySem") "Builtin") s)
 `(tactic| first | unfold $(n "intFromObject") | unfold $(n "numeralText?") | unfold $(n "intFromText") | unfold $(n "readNumeral") | unfold $(n "prefixBase?") | unfold $(n "numeralDigits?") | unfold $(n "digitValue?"))
def Dig(D:List Nat):Prop:=∀c∈D,48<=c/\c<=57
def valD(D:List Nat):Nat:=D.foldl (λacc c=>acc*10+(c-48)) 0
theorem DE{c:Nat}(h:45<=c):(panic! "isBlank") c=false:=by
 show((c==32)||(decide (9<=c)&&decide (c<=13)))=false;have h1:(c==32)=false:=by simp;omega
 have h2:decide (c<=13)=false:=by simp;omega
 rw[h1,h2];simp
theorem WD{c:Nat}(h:48<=c/\c<=57):(panic! "digitValue?") c=some (c-48):=by
 trivial
 have h1:(decide (48<=c)&&decide (c<=57))=true:=by simp;omega
 rw[tD h1]
theorem TM:∀(D:List Nat),Dig D->(panic! "prefixBase?") D=none
 | [],_=>by trivial;rfl
 | [c],_=>by
  trivial
  split
  ·rename_i h;cases h
  ·rfl
 | c::e::r,h=>by
  have he:=h e (by simp)
  trivial
  split
  ·rename_i q;injection q with q1 q2
   injection q2 with q2 q3
   subst q2;have n:∀k,57<k->(e==k)=false:=λk hk=>by simp;omega
   rw[n 120 (by decide),n 88 (by decide),n 111 (by decide),n 79 (by decide),n 98 (by decide),n 66 (by decide)]
   rfl
  ·rfl
theorem EX{F:Array Nat×Bool->Nat->Option (Array Nat×Bool)}(hF:∀ds b c,48<=c/\c<=57->F (ds,b) c=some (ds.push (c-48),true)):∀(D:List Nat) (ds:Array Nat) (b:Bool),Dig D->D≠[]->D.foldlM F (ds,b)=some (ds++(D.map (· - 48)).toArray,true)
 | [],_,_,_,h=>absurd rfl h
 | [c],ds,b,h,_=>by
  rw[List.foldlM_cons,hF ds b c (h c (by simp))];simp
 | c::e::r,ds,b,h,_=>by
  rw[List.foldlM_cons,hF ds b c (h c (by simp))];show(e::r).foldlM F _=_;rw[EX hF (e::r) _ _ (λx hx=>h x (gR _ hx)) (by simp)];simp
theorem WC{D:List Nat}(h:Dig D)(n:D≠[]):(panic! "numeralDigits?") 10 D=some (D.map (· - 48)).toArray:=by
 trivial
 rw[EX (λds b c hc=>?_) D #[] false h n]
 ·simp
 ·have h1:(c==95)=false:=by simp;omega
  have h2:c-48<10:=by omega
  dsimp only;rw[h1,WD hc];simp [h2]
theorem RO(D:List Nat):(D.map (· - 48)).toArray.foldl (λacc d=>acc*10+d) 0=valD D:=by
 rw[List.foldl_toArray,List.foldl_map]
 rfl
theorem HX{p:Nat->Bool}{a:Nat}{l:List Nat}(h:p a=false):List.dropWhile p (a::l)=a::l:=by simp [List.dropWhile,h]
theorem IS{D:List Nat}(h:Dig D)(n:D≠[])(l:D.length<=640):(panic! "readNumeral") 0 10 D=(panic! "Numeral.value") (valD D)/\(panic! "readNumeral") 0 10 (45::D)=(panic! "Numeral.value") (-(valD D:Int)):=by
 have sz:decide ((D.map (· - 48)).toArray.size>6000)=false:=by simp;omega
 have rv:(List.dropWhile (panic! "isBlank") D.reverse).reverse=D:=by
  cases e:D.reverse with
  | nil=>rw[List.reverse_eq_nil_iff]at e;exact absurd e n
  | cons a r=>
   have ha:a∈D:=List.mem_reverse.mp (by rw[e];simp);rw[HX (DE (by have:=h a ha;omega)),<-e,List.reverse_reverse]
 have core:∀neg:Bool,(match (panic! "numeralDigits?") 10 (List.dropWhile (panic! "isBlank") D.reverse).reverse with
   | none=>(panic! "Numeral.invalid")
   | some ds=>if (![2,4,8,16,32].contains 10&&0 != 0&&decide (ds.size>0))=true then(panic! "Numeral.tooLong") ds.size else
     if (10==10&&decide (ds.size>6000))=true then(panic! "Numeral.byTheLibrary")else
      if (false&&ds.foldl (λacc d=>acc*10+d) 0 != 0)=true then(panic! "Numeral.invalid")else(panic! "Numeral.value") (if neg=true then -((ds.foldl (λacc d=>acc*10+d) 0:Nat):Int)else((ds.foldl (λacc d=>acc*10+d) 0:Nat):Int)))=(panic! "Numeral.value") (if neg=true then -(valD D:Int)else(valD D:Int)):=λneg=>by
  rw[rv,WC h n];dsimp only;rw[nZ (by simp),sz,nZ (by simp),nZ (by simp),RO]
 obtain⟨d,r,e⟩:∃d r,D=d::r:=by
  cases D with
  | nil=>exact absurd rfl n
  | cons d r=>exact⟨d,r,rfl⟩
 have hd:=h d (by rw[e];simp);refine⟨?_, ?_⟩
 ·have c0:=core false;have p0:=TM D h;clear core rv sz;subst e
  trivial
  rw[HX (DE (by omega))]
  extract_lets t
  split
  rename_i neg tt hq;have hq':(neg,tt)=(false,d::r):=by
   rw[<-hq];show(match d::r with | 45::r=>(true,r) | 43::r=>(false,r) | _=>(false,d::r))=_;split
   ·rename_i q;injection q with q _;omega
   ·rename_i q;injection q with q _;omega
   ·rfl
  cases hq';dsimp only;rw[p0];exact c0
 ·trivial
  rw[HX (DE (nQ 45))]
  extract_lets t
  split
  rename_i neg tt hq;have hq':(neg,tt)=(true,D):=hq.symm;cases hq';dsimp only;rw[TM D h];exact core true
def Nml(L:List Nat)(i:Int):Prop:=∃D,Dig D/\D≠[]/\D.length<=600/\((L=D/\i=valD D)∨(L=45::D/\i = -(valD D:Int)))
theorem Nml.low{L:List Nat}{i:Int}(h:Nml L i):(∀c∈L,45<=c/\c<=57)/\L.length<=640:=by
 obtain⟨D,h1,h2,h3,h4⟩:=h;rcases h4 with⟨rfl,_⟩ | ⟨rfl,_⟩
 ·exact⟨λc hc=>by have:=h1 c hc;omega,by omega⟩
 ·refine⟨λc hc=>?_,by simp;omega⟩;rcases nF.mp hc with rfl | hc
  ·omega
  ·have:=h1 c hc;omega
theorem II{p:Nat->Bool} :∀{L:List Nat},(∀c∈L,p c=true)->L.takeWhile p=L
 | [],_=>rfl
 | c::r,h=>by rw[List.takeWhile_cons,tD (h c (by simp)),II λx hx=>h x (gR _ hx)]
theorem YQ{x:Str}{t:Tok}{i:Int}(hx:Nml x.cps.toList i):Meets (Builtin.«int.__new__» ⟨[.type "int",.str x t],[]⟩) (Made.int i).spec:=
 Meets.of_wp λprog w A R s hs=>by
  obtain⟨hp,g,d,tk,os⟩:=s;have f1:=F.conv_sub_int;have f2:=F.madeHere_int;have h128:x.cps.all (· < 128)=true:=by
   rw[<-Array.all_toList];exact List.all_eq_true.mpr λc hc=>mX (by have:=hx.low.1 c hc;omega)
  have hnz:x.cps.toList.takeWhile (· != 0)=x.cps.toList:=II λc hc=>by
   have:=hx.low.1 c hc;simp;omega
  have rd:(panic! "readNumeral") 0 10 x.cps.toList=(panic! "Numeral.value") i:=by
   obtain⟨D,h1,h2,h3,⟨e,rfl⟩ | ⟨e,rfl⟩⟩:=hx
   ·rw[e];exact(IS h1 h2 (by omega)).1
   ·rw[e];exact(IS h1 h2 (by omega)).2
  iterate 16 (any_goals (first | assumption | wp_step))
  refine nX ?_;refine nW ?_
  trivial
  refine nW (wpAny_callSpecial?_none (T:="str") (typeIs_str _ _ _) st_int ?_);refine nW (wpAny_specialOf (T:="str") (typeIs_str _ _ _) SJ ?_);refine nW (wpAny_specialOf (T:="str") (typeIs_str _ _ _) SI ?_);refine nW ?_
  trivial
  refine nW (nX ?_);refine nX ?_;dsimp only;rw[tD h128]
  trivial
  rw[hnz,tD hx.low.2];refine nW (nX ?_);dsimp only;rw[rd];dsimp only;rw[tD (beq_self_eq_true _)];refine wpAny_mkInt ?_
  iterate 4 (try any_goals (first | assumption | wp_step))
  exact⟨_,rfl,hs⟩
end
theorem call_int_str{prog:Program}{w:World}{A:Around}{E:Value->Shared->Prop}{s:Shared}{x:Str}{t:Tok}{i:Int}{Q:Value->Shared->Prop}(hx:Nml x.cps.toList i)(h:Q (.int i s.toks) { s with toks:=s.toks+1 }):wpAny (model prog w) A (call (.type "int") [.str x t]) Q E s:=
 call_int_1 (YQ hx) (show(Made.int i).post _ s from⟨rfl,h⟩)
end LwI
namespace L2
open PySem PySem.Spec PyProof.Rows Lw
section
variable{X:Cx}
theorem RG:CallR X (.type "int") (λxs H Q=>∃(x:Str) (i:Int),xs=[.str x]/\LwI.Nml x.cps.toList i/\Q (.int i) H):=by
 intro ac s σ H xs us Q I r h;obtain⟨x,i,rfl,hx,q⟩:=h;obtain⟨u,rfl,t,rfl⟩:=qM r;exact LwI.call_int_str hx ⟨.int i,H,I.tok _,⟨_,rfl⟩,q⟩
theorem QJ:MtR X "str.startswith" (λx xs H Q=>∃z y:Str,x=.str z/\xs=[.str y]/\Q (.bl (Txt.startswith z y)) H):=by
 intro ac s σ H x xs v us Q I rx rs q;obtain⟨z,y,rfl,rfl,q⟩:=q;obtain⟨t,rfl⟩:=rx;obtain⟨u,rfl,t',rfl⟩:=qM rs;exact PySem.SC.startswith ⟨.bl _,H,I,rfl,q⟩
theorem ED:∀{ss:List Str} {us:List Value},Vals (ss.map V.str) us->∃l:List (Str×Tok),us=strValues l/\l.map (·.1)=ss
 | [],_,h=>by cases h;exact⟨[],rfl,rfl⟩
 | x::r,_,.cons (b:=b) (l₂:=l₂) h1 h2=>by
  obtain⟨l,e1,e2⟩:=ED (ss:=r) h2;obtain⟨t,rfl⟩:=h1;exact⟨(x,t)::l,by rw[e1];rfl,by rw[nE,e2]⟩
theorem DZ:∀(l:List (Str×Tok)),Vals ((l.map (·.1)).map V.str) (strValues l)
 | []=>.nil
 | (x,t)::r=>.cons ⟨t,rfl⟩ (DZ r)
def rJoin(K:tF):V->List V->Hp->VK->Prop:=λx xs H Q=>∃(z:Str) (p:Addr) (ss:List Str),x=.str z/\xs=[.ref p]/\SqL K H p (ss.map V.str)/\JoinOk z ss=true/\Q (.str (Str.join z ss)) H
theorem NX:MtR X "str.join" (rJoin X.K):=by
 intro ac s σ H x xs v us Q I rx rs q;obtain⟨z,p,ss,rfl,rfl,hp,hk,q⟩:=q;obtain⟨t,rfl⟩:=rx;obtain⟨u,rfl,ru⟩:=qM rs;cases ru;obtain⟨its,rv,pl,_⟩:=I.list hp;obtain⟨l,rfl,e⟩:=ED rv;refine PySem.SC.join pl.isList e hk λt' k=>?_;rw[show Txt.join z ss=Str.join z ss from StrLaws.glued_eq_join z ss];exact⟨.str _,H,I.tok _,⟨_,rfl⟩,q⟩
theorem ES{ac:List (Addr×Obj)}{σ:St}{H:Hp}{s:Shared}{Q:VK}{l:List (Str×Tok)}{tk:Nat}(I:Inv X ac σ H s)(hz:l.length<=sizeLine)(q:New H (.lst ((l.map (·.1)).map V.str)) Q) :
  EP X ac σ Q (.ref s.heap.objs.size) { s with toks:=tk,heap:=s.heap.push { cls:=.type "list",data:=.seq (strValues l).toArray } } :=
 ⟨.ref s.heap.objs.size,_,I.laid (o:=.lst ((l.map (·.1)).map V.str)) (t':=tk) (λb o e=>gL _ e) gA ⟨by simpa using hz,strValues l,0,DZ l,gW _ rfl⟩,rfl,q.at (I.hok.fresh gA)⟩
theorem JQ:MtR X "str.split" (λx xs H Q=>∃z y:Str,x=.str z/\xs=[.str y]/\(y.length==0)=false/\z.length+2<=sizeLine/\New H (.lst ((Txt.split z y).map V.str)) Q):=by
 intro ac s σ H x xs v us Q I rx rs q;obtain⟨z,y,rfl,rfl,hy,hz,q⟩:=q;obtain⟨t,rfl⟩:=rx;obtain⟨_,rfl,u,rfl⟩:=qM rs;have hn:(Builtin.Str.partsBetween z (Builtin.Str.occurrences z y 0 z.length (z.length+1)) y.length).length<=sizeLine:=by
  have e1:=StrLaws.occ_length_le z y 0 z.length (z.length+1);rw[length_partsBetween];omega
 have one:Txt.split z y=[z]->EP X ac σ Q (.ref s.heap.objs.size) { s with heap:=s.heap.push { cls:=.type "list",data:=.seq (strValues [(z,t)]).toArray } } :=λe=>by
  rw[e]at q;exact ES (tk:=s.toks) (l:=[(z,t)]) I gC q
 cases h1:(decide (z.length<y.length)||decide (Builtin.Str.strKind z<Builtin.Str.strKind y))
 ·cases hf:(Builtin.Str.occurrences z y 0 z.length (z.length+1)).isEmpty
  ·refine call_meets F.slot_str_split (typeIs_str _ _ _) F.entry_str_split (F.args_str_split_2 _ _) (meets_str_split_sep z y t u h1 hy hf (by omega) hn) ?_;show EP X ac σ Q _ { s with toks:=_,heap:=s.heap.push { cls:=.type "list",data:=.seq (strsFrom s.toks (Builtin.Str.partsBetween z (Builtin.Str.occurrences z y 0 z.length (z.length+1)) y.length)).toArray } };rw[strsFrom_eq];have e:Txt.split z y=(numbered s.toks (Builtin.Str.partsBetween z (Builtin.Str.occurrences z y 0 z.length (z.length+1)) y.length)).map (·.1):=((numbered_texts _ _).trans ((nZ (ne_true_of_eq_false h1)).trans (nZ (ne_true_of_eq_false hf))).symm).symm;rw[e]at q;refine ES I ?_ q;have:=congrArg List.length (numbered_texts s.toks (Builtin.Str.partsBetween z (Builtin.Str.occurrences z y 0 z.length (z.length+1)) y.length));rw[mS]at this;omega
  ·exact call_meets F.slot_str_split (typeIs_str _ _ _) F.entry_str_split (F.args_str_split_2 _ _) (meets_str_split_not_found z y t u h1 hy hf) (one ((nZ (ne_true_of_eq_false h1)).trans (tD hf)))
 ·exact call_meets F.slot_str_split (typeIs_str _ _ _) F.entry_str_split (F.args_str_split_2 _ _) (meets_str_split_cannot_occur z y t u h1) (one (tD h1))
theorem NW:MtR X "str.partition" (λx xs H Q=>∃z y:Str,x=.str z/\xs=[.str y]/\(y.length==0)=false/\z.length<=sizeLine/\New H (.tup [.str (Txt.partition z y).1,.str (Txt.partition z y).2.1,.str (Txt.partition z y).2.2]) Q):=by
 intro ac s σ H x xs v us Q I rx rs q;obtain⟨z,y,rfl,rfl,hy,hz,q⟩:=q;obtain⟨t,rfl⟩:=rx;obtain⟨_,rfl,u,rfl⟩:=qM rs;have fin:∀(a b c:Str) (ta tb tc:Tok) (tk:Nat),New H (.tup [.str a,.str b,.str c]) Q->EP X ac σ Q (.ref s.heap.objs.size) { s with toks:=tk,heap:=s.heap.push { cls:=.type "tuple",data:=.seq [.str a ta,.str b tb,.str c tc].toArray } } :=λa b c ta tb tc tk q=>
  ⟨.ref s.heap.objs.size,_,I.laid (o:=.tup [.str a,.str b,.str c]) (t':=tk) (λb o e=>gL _ e) gA ⟨by show 3<=sizeLine;decide,[.str a ta,.str b tb,.str c tc],.cons ⟨_,rfl⟩ (.cons ⟨_,rfl⟩ (.cons ⟨_,rfl⟩ .nil)),⟨_,gW _ rfl,rfl,0,rfl⟩,.of (gW _ rfl) rfl⟩,rfl,q.at (I.hok.fresh gA)⟩
 refine call_meets F.slot_str_partition (typeIs_str _ _ _) F.entry_str_partition (F.args_str_partition_2 _ _) (meets_str_partition z y t u hy hz) ?_;unfold Txt.partition at q;revert q;cases Builtin.Str.occurrences z y 0 z.length 1 with
 | nil=>intro q;exact fin _ _ _ _ _ _ _ q
 | cons i r=>intro q;exact fin _ _ _ _ _ _ _ q
def rSlS:V->Option Int->Option Int->Hp->VK->Prop:=λx lo hi H Q=>∃z:Str,x=.str z/\z.length<=sizeLine/\Q (.str (Txt.slice z lo hi)) H
theorem sl_str:SlR X rSlS:=by
 intro ac s σ H x v vl vu lo hi sl Q I rx hs pl pu h;obtain⟨z,rfl,hz,q⟩:=h;obtain⟨t,rfl⟩:=rx;refine⟨"str",_,F.slot_str_getitem.lookup,typeIs_str _ _ _, ?_⟩;cases pl<;>cases pu
 ·exact wpAny_getItem_str_slice (l:=none) (u:=none) (st:=none) hs rfl (post_val_or_str ⟨nL (Txt.slice_le z _ _) hz,λt' k=>⟨.str _,H,I.tok _,⟨_,rfl⟩,q⟩⟩)
 ·rename_i j tj;exact wpAny_getItem_str_slice (l:=none) (u:=some (j,tj)) (st:=none) hs rfl (post_val_or_str ⟨nL (Txt.slice_le z _ _) hz,λt' k=>⟨.str _,H,I.tok _,⟨_,rfl⟩,q⟩⟩)
 ·rename_i j tj;exact wpAny_getItem_str_slice (l:=some (j,tj)) (u:=none) (st:=none) hs rfl (post_val_or_str ⟨nL (Txt.slice_le z _ _) hz,λt' k=>⟨.str _,H,I.tok _,⟨_,rfl⟩,q⟩⟩)
 ·rename_i i ti j tj;exact wpAny_getItem_str_slice (l:=some (i,ti)) (u:=some (j,tj)) (st:=none) hs rfl (post_val_or_str ⟨nL (Txt.slice_le z _ _) hz,λt' k=>⟨.str _,H,I.tok _,⟨_,rfl⟩,q⟩⟩)
def FmtV:V->Str->Prop
 | .int i,y=>i.natAbs.log2<1920/\y=toString i
 | .str x,y=>x.length<=sizeLine/\y=x
 | _,_=>False
theorem WA{ac:List (Addr×Obj)}{σ:St}{H:Hp}{s:Shared}{Q:Value->Shared->Prop}{E:Value->Shared->Prop}{x:V}{v:Value}{y:Str}(I:Inv X ac σ H s)(r:RelV x v)(f:FmtV x y)(q:∀t tk,Inv X ac σ H { s with toks:=tk }->Q (.str y t) { s with toks:=tk }) :
  wpAny (model X.prog X.w) X.A (formatField v Str.empty) Q E s:=by
 cases x with
 | int i=>
  obtain⟨t,rfl⟩:=r;obtain⟨f1,rfl⟩:=f;exact formatField_int_small f1 (q _ _ (I.tok _))
 | str z=>
  obtain⟨t,rfl⟩:=r;obtain⟨f1,rfl⟩:=f;exact formatField_str (λt' tk=>q _ _ (I.tok _)) f1
 | _=>exact f.elim
theorem fmt_le{x:V}{y:Str}(f:FmtV x y):y.length<=sizeLine:=by
 cases x with
 | int i=>rw[f.2];exact int_text_fits f.1
 | str z=>rw[f.2];exact f.1
 | _=>exact f.elim
def tF3(ta:TE)(m:Str)(tb:TE):TE:=fun σ H Q=>ta σ H λx H1=>∃x',FmtV x x'/\x'.length+m.length<=sizeLine/\tb σ H1 λy H2=>∃y',FmtV y y'/\x'.length+m.length+y'.length<=sizeLine/\Q (.str (x'++m++y')) H2
theorem pe_f3{a b:Expr}{ta tb:TE}{m:Str}{k:Nat}{p1 p2 p3 pos:Pos}(ha:PE X a ta)(hb:PE X b tb):PE X (.JoinedStr [.FormattedValue a (-1) none p1,.Constant (.str m) k p2,.FormattedValue b (-1) none p3] pos) (tF3 ta m tb):=by
 intro ac s σ H Q I h;refine JoinedStr_many (joinParts_cons (FormattedValue_plain (thn (ha ac s σ H _ I h) λv s1 ⟨x,H1,I1,r1,x',f1,hm,q1⟩=>?_)));refine WA I1 r1 f1 λt tk I2=>?_;have e1:Str.empty++x'=x':=Str.empty_append x';refine⟨by rw[e1];exact fmt_le f1, ?_⟩;rw[e1];refine joinParts_cons (Calls.Constant_str ?_);have I3:Inv X ac σ H1 { s1 with toks:=tk+1 } :=I2.tok _;show(x'++m).length<=sizeLine/\wpAny _ _ (joinParts (x'++m) _) _ _ { s1 with toks:=tk+1 };refine⟨?_,joinParts_consE (joinParts_cons (FormattedValue_plain (thn (hb ac _ σ H1 _ I3 q1) λv s2 ⟨y,H2,I4,r2,y',f2,hl,q2⟩=>?_)))⟩
 ·rw[Str.length_append];exact hm
 refine WA I4 r2 f2 λt tk I5=>⟨?_,joinParts_nilE (joinParts_nil ⟨.str _,H2,I5.tok _,⟨_,rfl⟩,q2⟩ ?_)⟩
 ·rw[Str.length_append,Str.length_append];exact hl
 ·rw[Str.length_append,Str.length_append];exact hl
def Its(z:Str):It:=⟨λi _=>i<z.length,λi H x H'=>H'=H/\∃c,z.cps.toList[i]? = some c/\x=.str ⟨#[c]⟩,λi _=>z.length<=i⟩
theorem RX{P:Program}{w:World}{K:tF}{tg:Expr}(z:Str)(t:Tok)(it:Addr):Turn P w K tg (Its z) [it] it (λi h=>h.IsStrIter it "str_ascii_iterator" z t i) where
 mem:=by simp
 obj:=λi h st b hb=>by
  have e:b=it:=by simpa using hb
  subst e;obtain⟨o,e,c,d⟩:=st;exact⟨o,e,λv z=>by rw[d]at z;cases z⟩
 keep:=λi h h' st k=>by
  obtain⟨o,e,r⟩:=st;exact⟨o,k it (by simp) o e,r⟩
 item:=by
  intro X hP hw hK hc i ac s σ H E I hf st hg;subst hP hw hK;obtain⟨f0,f1,f2,f3,f4,f5⟩:=hf it (by simp);have hg':i<z.cps.size:=hg;refine wpAny_pyNext_ascii_item st (c:=z.cps[i]) (by simp [hg']) λh' st' sb=>?_;have I1:Inv X ac σ H { s with heap:=h',toks:=s.toks+1 } :=I.turned (λb o hb e=>(sb.2 b hb).trans e) f0 f1 f3 f4 f5;obtain⟨o,e,c,d⟩:=id st';exact⟨_,rfl,EU (s:={ s with heap:=h',toks:=s.toks+1 }) e c d (by decide) ⟨.str ⟨#[z.cps[i]]⟩,H,I1,⟨_,rfl⟩,⟨rfl,_,by simp [hg'],rfl⟩,st',λb hb=>(hf b hb).1⟩⟩
 done:=by
  intro X hP hw hK hc i ac s σ H E I hf st hg;subst hP hw hK;obtain⟨f0,f1,f2,f3,f4,f5⟩:=hf it (by simp);have hg':z.cps.size<=i:=hg;exact wpAny_pyNext_ascii_end (I.ok.hd hc) st (by simp [hg']) λh' eb=>⟨rfl,I.turned (t':=s.toks) (λb o hb e=>eb b o hb e) f0 f1 f3 f4 f5⟩
 self:=λ_ _ _ _ _ st h=>wpAny_pyIter_striter_ascii st h
def iStr(tl:TE):TI:=fun σ H R=>tl σ H λx H1=>∃z:Str,x=.str z/\z.cps.all (· < 128)=true/\R (Its z) H1
theorem pi_str{tg l:Expr}{tl:TE}(hl:PE X l tl):PI X tg l (iStr tl):=by
 intro ac s σ H R I h;refine thn (hl ac s σ H _ I h) λv s1 ⟨x,H1,I1,r1,q1⟩=>?_;obtain⟨z,rfl,ha,q⟩:=q1;obtain⟨t,rfl⟩:=r1;refine wpAny_pyIter_ascii ha ?_;refine⟨s1.heap.objs.size,[s1.heap.objs.size],_,_,H1,rfl,I1.kept (t':=s1.toks) λb o e=>gL _ e,RX z t _,⟨_,gW _ rfl,rfl,rfl⟩,λb hb=>?_,q⟩;have e:b=s1.heap.objs.size:=by simpa using hb
 subst e;exact I1.fpOk gA (I1.hok.fresh gA)
theorem QU{α:Type}{M:Model}{A:Around}{E:Value->Shared->Prop}{s:Shared}{F:Nat->Option α×Unit->Sem (ForInStep (Option α×Unit))}{R:Option α×Unit->Shared->Prop}{j:Nat}
  (h1:∀i (Q:ForInStep (Option α×Unit)->Shared->Prop),i<j->Q (.yield (none,())) s->wpAny M A (F i (none,())) Q E s) (h2:wpAny M A (F j (none,())) (λr s'=>∃a,r=.done (some a,())/\R (some a,()) s') E s) :
  ∀m a:Nat,a<=j->j<a+m->wpAny M A (forIn (List.range' a m) (none,()) F) R E s:=by
 intro m;induction m with
 | zero=>intro a h3 h4;omega
 | succ m ih=>
  intro a h3 h4;rw[List.range'_succ,List.forIn_cons];by_cases e:a=j
  ·subst e;refine nW (nY h2 (λr s' h=>?_) λ_ _ e=>e);obtain⟨a,rfl,h⟩:=h;exact nX h
  ·exact nW (h1 a _ (by omega) (ih (a+1) (by omega) (by omega)))
def rIndex(K:tF):V->List V->Hp->VK->Prop:=λx xs H Q=>∃(p:Addr) (ys:List V) (y:V) (j:Nat),x=.ref p/\xs=[y]/\SqT K H p ys/\yT y=true/\ys.all yT=true/\j<ys.length/\(∀i z,i<j->ys[i]? = some z->eqV z y=false)/\(∀z,ys[j]? = some z->eqV z y=true)/\Q (.int j) H
theorem UZ:MtR X "tuple.index" (rIndex X.K):=by
 intro ac s σ H x xs v us Q I rx rs q;obtain⟨p,ys,y,j,rfl,rfl,hp,fy,fa,hj,hn,hy,q⟩:=q;cases rx;obtain⟨u,rfl,ru⟩:=qM rs;obtain⟨its,rv,pl,hz⟩:=I.tuple hp;have hT:s.TypeIs (.ref p) "tuple":=by
  obtain⟨o,ho,hc,_⟩:=pl;exact⟨o,ho,hc⟩
 refine wpAny_call_entry F.slot_tuple_index hT F.entry_tuple_index ?_ (F.args_tuple_index_2 _ _);unfold Builtin.«tuple.index»;refine nW (m:=selfAndSome "tuple.index" "index" 1 3 _) (nX ?_);refine nW (tupleItemsOf_ pl ?_);refine nW (nX ?_);refine nW (nX ?_);refine nW ?_;rw[Std.Legacy.Range.forIn_eq_forIn_range'];have hl:=rv.length;have esz:([0:min its.toArray.size its.toArray.size]:Std.Legacy.Range).size=its.length:=by
  simp [Std.Legacy.Range.size]
 rw[esz];have e0:List.range' ([0:min its.toArray.size its.toArray.size]:Std.Legacy.Range).start its.length ([0:min its.toArray.size its.toArray.size]:Std.Legacy.Range).step=List.range' 0 its.length:=rfl;rw[e0];have at':∀a,a<ys.length->∃z v,ys[a]? = some z/\its.toArray[a]? = some v/\RelV z v/\yT z=true:=λa ha=>by
  obtain⟨z,hzz⟩:∃z,ys[a]? = some z:=⟨ys[a],by simp [ha]⟩;obtain⟨v,hv,rz⟩:=rv.get hzz;exact⟨z,v,hzz,by simpa using hv,rz,List.all_eq_true.mp fa z (gQ hzz)⟩
 refine QU (j:=j) (λi R hi hR=>?_) ?_ _ 0 (nR _) (by omega)
 ·obtain⟨z,v,h1,h2,h3,h4⟩:=at' i (by omega);rw[h2];refine nW (MA h3 ru h4 fy _ _ _ _ ?_);rw[hn i z hi h1,nZ gZ];exact nX hR
 ·obtain⟨z,v,h1,h2,h3,h4⟩:=at' j hj;rw[h2];refine nW (MA h3 ru h4 fy _ _ _ _ ?_);rw[hy z h1,tD rfl];refine nW (m:=retInt (j:Int)) ?_;unfold retInt;refine nW (wpAny_mkInt ?_);exact nX (nX ⟨_,rfl,nX ⟨_,rfl,.int j,H,I.tok _,⟨_,rfl⟩,q⟩⟩)
end
end L2
namespace L2
open PySem PySem.Spec PyProof.Rows
section
variable{prog:Program}{w:World}{A:Around}{E:Value->Shared->Prop}{s:Shared}
structure ZS(z TI TO i1 i2:Addr)(w0:Str)(t0:Tok)(l2:Addr)(k:Nat)(h:Heap):Prop where
 zz:IsZip h z TI TO .none
 ti:IsPair h TI (.ref i1) (.ref i2)
 to:∃a b,IsPair h TO a b
 one:h.IsStrIter i1 "str_ascii_iterator" w0 t0 k
 two:h.IsTupleIter i2 l2 k
variable{z TI TO i1 i2 l2:Addr}{w0:Str}{t0:Tok}{k:Nat}{ys:Array Value}
end
section
variable{X:Cx}
end
theorem VW{K:tF}{a b:Addr}{xs ys:List V}{g:TG}{tb:TS}{D:Ends}{σ:St}{H:Hp}(Pv:Nat->St->Hp->Prop)(le:ys.length<=xs.length)(h0:Pv 0 σ H)(hl:∀i σ H,i<=ys.length->Pv i σ H->SqT K H a xs/\SqT K H b ys)
  (hs:∀i x y p σ H,xs[i]? = some x->ys[i]? = some y->H p=none->Pv i σ H->g (.ref p) σ (upd H p (.tup [x,y])) fun σ2 H2=>tb { D with nx:=Pv (i+1),ct:=Pv (i+1),bk:=D.nx } σ2 H2) (hd:∀σ H,Pv ys.length σ H->D.nx σ H) :
  ∃W:Nat->Nat->St->Hp->Prop,(∃m,W 0 m σ H)/\∀i m σ H,W i m σ H->
   ((Itz K a b).stop i H/\D.nx σ H)∨((Itz K a b).go i H/\∃N:St->Hp->Prop,(∀σ' H',N σ' H'->∃m',m'<m/\W (i+1) m' σ' H')/\∀x H',(Itz K a b).yld i H x H'->g x σ H' fun σ2 H2=>tb { D with nx:=N,ct:=N,bk:=D.nx } σ2 H2):=by
 refine⟨λi m σ H=>m=ys.length-i/\i<=ys.length/\Pv i σ H,⟨ys.length,by simp,nR _,h0⟩, ?_⟩;rintro i m σ H ⟨rfl,hi,p⟩;obtain⟨q1,q2⟩:=hl i σ H hi p;by_cases hlt:i<ys.length
 ·have hw:i<xs.length:=hJ hlt le;refine .inr ⟨⟨xs,ys,xs[i],ys[i],q1,q2,by simp [hw],by simp [hlt]⟩,Pv (i+1),fun σ' H' p'=>⟨ys.length-(i+1),by omega,rfl,hlt,p'⟩,λv H' y=>?_⟩;obtain⟨r,x,y,hr,rfl,rfl,hx,hy⟩:=y;exact hs i x y r σ H (hx xs q1) (hy ys q2) hr p
 ·have ei:i=ys.length:=by omega
  subst ei;exact .inl ⟨⟨xs,ys,q1,q2,.inr gA⟩,hd σ H p⟩
end L2
namespace LwD
open PySem PySem.Spec PyProof.Rows L2 Lw PySem.W
section
variable{prog:Program}{w:World}{A:Around}{E:Value->Shared->Prop}{s:Shared}{h₀:Heap}{L:Addr}{m:Str->Option Value}{news:List (Addr×Obj)}
end
section
variable{X:Cx}
end
section
variable{X:Cx}{e e2:Expr}{kpos p pos:Pos}{t:TA}
end
end LwD
namespace LwS
open PySem PySem.Builtin.Str
structure Mark(sep:Str)(k c:Nat):Prop where
 one:sep.cps.toList[k]? = some c
 only:∀j,j<k->sep.cps.toList[j]?≠some c
 kind:strKind sep=1
theorem jT(x:Str):x.cps.toList.length=x.length:=by simp [Str.length]
theorem OU{x y:Str}{i k c:Nat}(h:StrLaws.At x y x.length i)(hk:y.cps.toList[k]? = some c):x.cps.toList[i+k]? = some c:=by
 have h2:=h.2;rw[StrLaws.subAt_eq]at h2;have e:(x.cps.toList.drop i).take y.length=y.cps.toList:=eq_of_beq h2;rw[<-e]at hk;have hl:k<y.length:=by
  have:=(gG.mp hk).1;rw[mK]at this;omega
 rw[gJ hl,List.getElem?_drop]at hk;exact hk
theorem wI(y a b:Str)(r:List Str):Str.join y (a::b::r)=a++y++Str.join y (b::r):=rfl
theorem vS(a b:Str):(a++b).cps.toList=a.cps.toList++b.cps.toList:=by rw[Str.cps_append,Array.toList_append]
theorem JE{x y:Str}{k c:Nat}(M:Mark y k c):∀(ps:List Str) (p:Str) (cuts:List Nat) (a f:Nat),(∀q∈p::ps,c∉q.cps.toList)->x.cps.toList.drop a=(Str.join y (p::ps)).cps.toList->a<=x.length->
  StrLaws.ChainG x y x.length a cuts f->(∀i,f<=i->¬StrLaws.At x y x.length i)->StrLaws.partsFrom x y.length a cuts=p::ps
 | [],p,cuts,a,f,hf,hx,ha,hG,hn=>by
  have no:∀i,a<=i->¬StrLaws.At x y x.length i:=λi hi hA=>by
   have h1:=OU hA M.one;have h2:(x.cps.toList.drop a)[i-a+k]? = some c:=by rw[List.getElem?_drop,show a+(i-a+k)=i+k by omega];exact h1
   rw[hx]at h2;exact hf p (by simp) (gQ h2)
  cases cuts with
  | cons d r=>exact absurd hG.2.1 (no d hG.1)
  | nil=>
   show [strSub x a x.length]=[p]
   congr 1
   apply Str.ext';apply Array.toList_inj.mp;rw[StrLaws.strSub_toList,hx];exact gM (by rw[<-hx,List.length_drop,jT];exact nQ _)
 | q::ps,p,cuts,a,f,hf,hx,ha,hG,hn=>by
  rw[wI,vS,vS,mF]at hx;have lx:x.length-a=p.length+(y.length+(Str.join y (q::ps)).length):=by
   have:=congrArg List.length hx;simp only[List.length_drop,gY,jT]at this;exact this
  have ky:k<y.length:=by
   have:=(gG.mp M.one).1
   rwa [jT]at this
  have hA:StrLaws.At x y x.length (a+p.length):=by
   refine⟨by omega, ?_⟩;rw[StrLaws.subAt_eq,<-List.drop_drop,hx,<-jT p,List.drop_left,<-jT y,List.take_left];exact beq_self_eq_true _
  have no:∀i,a<=i->i<a+p.length->¬StrLaws.At x y x.length i:=λi h1 h2 hB=>by
   have h3:=OU hB M.one;have h4:(x.cps.toList.drop a)[i-a+k]? = some c:=by rw[List.getElem?_drop,show a+(i-a+k)=i+k by omega];exact h3
   rw[hx]at h4;by_cases hk:i-a+k<p.length
   ·rw[gH (by rw[jT];exact hk)]at h4;exact hf p (by simp) (gQ h4)
   ·rw[gF (by rw[jT];omega),jT,gH (by rw[jT];omega)]at h4;exact M.only _ (by omega) h4
  cases cuts with
  | nil=>
   have e:f=a:=hG;exact absurd hA (hn _ (by omega))
  | cons d r=>
   obtain⟨g1,g2,g3,g4⟩:=hG;have ed:d=a+p.length:=by
    have h1:¬d<a+p.length:=λh=>no d g1 h g2;have h2:¬a+p.length<d:=λh=>g3 _ (by omega) h hA;omega
   subst ed;show strSub x a (a+p.length)::StrLaws.partsFrom x y.length (a+p.length+y.length) r=_
   congr 1
   ·apply Str.ext';apply Array.toList_inj.mp;rw[StrLaws.strSub_toList,hx,show a+p.length-a=p.cps.toList.length by rw[jT];omega,List.take_left]
   ·refine JE M ps q r _ f (λz hz=>hf z (gR _ hz)) ?_ (by omega) g4 hn;rw[Nat.add_assoc,<-List.drop_drop,hx,<-List.drop_drop,<-jT p,List.drop_left,<-jT y,List.drop_left]
theorem VH(x:Str):1<=strKind x:=by
 unfold Builtin.Str.strKind;split
 ·exact nQ _
 ·split<;>decide
theorem wE{y:Str}{k c:Nat}(M:Mark y k c){p:Str}{ps:List Str}(hf:∀q∈p::ps,c∉q.cps.toList):Txt.split (Str.join y (p::ps)) y=p::ps:=by
 have ky:k<y.length:=by
  have:=(gG.mp M.one).1
  rwa [jT]at this
 obtain⟨f,hG,hn⟩:=StrLaws.occ_tight (Str.join y (p::ps)) y (by omega);have key:=JE (x:=Str.join y (p::ps)) M ps p _ 0 f hf (by rw[List.drop_zero]) (nR _) hG hn;unfold Txt.split;split
 ·rename_i h;have hk:decide (strKind (Str.join y (p::ps))<strKind y)=false:=by
   rw[M.kind];exact mU (by have:=VH (Str.join y (p::ps));omega)
  rw[hk,Bool.or_false,decide_eq_true_eq]at h;cases ps with
  | nil=>rfl
  | cons q r=>
   rw[wI,Str.length_append,Str.length_append]at h;omega
 ·split
  ·rename_i h;rw[List.isEmpty_iff.mp h]at key;have k2:[strSub (Str.join y (p::ps)) 0 (Str.join y (p::ps)).length]=p::ps:=key;rw[StrLaws.sub_whole]at k2;exact k2
  ·rw[StrLaws.partsBetween_eq];exact key
theorem NM{x:Str}{c:Nat}(h:c∉x.cps.toList):Txt.partition x ⟨#[c]⟩=(x,Str.empty,Str.empty):=by
 unfold Txt.partition;rcases StrLaws.occ_head x ⟨#[c]⟩ 1 gA with⟨h0,_⟩ | ⟨i,r,_,hA,_⟩
 ·rw[h0]
 ·exact absurd (gQ (OU (k:=0) (c:=c) hA rfl)) h
theorem NN{p q:Str}{c:Nat}(h:c∉p.cps.toList):Txt.partition (p++⟨#[c]⟩++q) ⟨#[c]⟩=(p,⟨#[c]⟩,q):=by
 have hx:(p++(⟨#[c]⟩:Str)++q).cps.toList=p.cps.toList++c::q.cps.toList:=by rw[vS,vS,mF];rfl
 have hl:(p++(⟨#[c]⟩:Str)++q).length=p.length+1+q.length:=by rw[Str.length_append,Str.length_append];rfl
 have hA:StrLaws.At (p++(⟨#[c]⟩:Str)++q) ⟨#[c]⟩ (p++(⟨#[c]⟩:Str)++q).length p.length:=by
  refine⟨by rw[hl];show p.length+1<=_;omega, ?_⟩;rw[StrLaws.subAt_eq,hx,<-jT p,List.drop_left];show([c]==[c])=true;exact beq_self_eq_true _
 have no:∀i,i<p.length->¬StrLaws.At (p++(⟨#[c]⟩:Str)++q) ⟨#[c]⟩ (p++(⟨#[c]⟩:Str)++q).length i:=λi hi hB=>by
  have h1:=OU (k:=0) (c:=c) hB rfl;rw[hx,Nat.add_zero,gH (by rw[jT];exact hi)]at h1;exact h (gQ h1)
 unfold Txt.partition;rcases StrLaws.occ_head (p++(⟨#[c]⟩:Str)++q) ⟨#[c]⟩ 1 gA with⟨_,h0⟩ | ⟨i,r,e,hB,hn⟩
 ·exact absurd hA (h0 _)
 ·have ei:i=p.length:=by
   have h1:¬i<p.length:=λz=>no i z hB;have h2:¬p.length<i:=λz=>hn _ z hA;omega
  rw[e,ei];have e1:strSub (p++(⟨#[c]⟩:Str)++q) 0 p.length=p:=by
   apply Str.ext';apply Array.toList_inj.mp;rw[StrLaws.strSub_toList,hx,List.drop_zero,Nat.sub_zero,<-jT p,List.take_left]
  have e2:strSub (p++(⟨#[c]⟩:Str)++q) (p.length+(⟨#[c]⟩:Str).length) (p++(⟨#[c]⟩:Str)++q).length=q:=by
   apply Str.ext';apply Array.toList_inj.mp;rw[StrLaws.strSub_toList,hx,hl];show List.take (p.length+1+q.length-(p.length+1)) (List.drop (p.length+1) _)=_;rw[<-List.drop_drop,<-jT p,List.drop_left,List.drop_one,List.tail_cons];exact gM (by rw[jT];omega)
  show(strSub _ 0 p.length,(⟨#[c]⟩:Str),strSub _ (p.length+_) _)=_;rw[e1,e2]
open LwI
def itx(i:Int):Str:=Str.ofString (toString i)
def dg(n:Nat):List Nat:=(Nat.toDigits 10 n).map Char.toNat
theorem ZB(n:Nat):(itx (n:Int)).cps.toList=dg n:=by
 unfold itx;rw[Str.ofString_eq_toList];show((toString (n:Int)).toList.map Char.toNat)=_;rw[show(toString (n:Int))=String.ofList (Nat.toDigits 10 n)from rfl,String.toList_ofList]
 rfl
theorem ZA(n:Nat)(h:0<n):(itx (-(n:Int))).cps.toList=45::dg n:=by
 obtain⟨m,rfl⟩:∃m,n=m+1:=⟨n-1,by omega⟩;unfold itx;rw[Str.ofString_eq_toList];show((toString (Int.negSucc m)).toList.map Char.toNat)=_;rw[show(toString (Int.negSucc m))="-"++String.ofList (Nat.toDigits 10 (m+1))from rfl,String.toList_append,mT];show [45]++_=_;rw[String.toList_ofList]
 rfl
theorem uV(n:Nat):Dig (dg n):=λc hc=>by
 obtain⟨ch,h1,rfl⟩:=nN.mp hc;have:=Nat.isDigit_of_mem_toDigits (by decide) (by decide) h1;simp only[Char.isDigit,mP,decide_eq_true_eq]at this;exact⟨UInt32.le_iff_toNat_le.mp this.1,UInt32.le_iff_toNat_le.mp this.2⟩
theorem ON(n:Nat):dg n≠[]:=λh=>Nat.toDigits_ne_nil (List.map_eq_nil_iff.mp h)
theorem WE(n:Nat):valD (dg n)=n:=by
 have h:=Nat.ofDigitChars_ten_toDigits (n:=n);unfold Nat.ofDigitChars at h;unfold valD dg;rw[List.foldl_map];rw[<-h]
 conv=>lhs;rw[h]
 refine congrFun (congrFun (congrArg _ ?_) _) _
 funext a c
 rw[Nat.mul_comm]
 rfl
theorem HY{n k:Nat}(hk:0<k)(h:n<10^k):(dg n).length<=k:=by
 unfold dg;rw[mS];exact(Nat.length_toDigits_le_iff (by decide) hk).mpr h
theorem vK(i:Int):(0<=i/\(itx i).cps.toList=dg i.natAbs)∨(i<0/\(itx i).cps.toList=45::dg i.natAbs):=by
 by_cases h:0<=i
 ·obtain⟨n,rfl⟩:=Int.eq_ofNat_of_zero_le h;exact .inl ⟨h,by rw[ZB];rfl⟩
 ·have e:i = -(i.natAbs:Int):=by omega
  refine .inr ⟨by omega, ?_⟩
  conv=>lhs;rw[e]
  exact ZA _ (by omega)
theorem OI{i:Int}(h:i.natAbs<10^600):Nml (itx i).cps.toList i:=by
 refine⟨dg i.natAbs,uV _,ON _,HY (by decide) h, ?_⟩;rw[WE];rcases vK i with⟨h1,h2⟩ | ⟨h1,h2⟩
 ·exact .inl ⟨h2,by omega⟩
 ·exact .inr ⟨h2,by omega⟩
theorem yE{i:Int}{c:Nat}(hc:c∈(itx i).cps.toList):c=45∨(48<=c/\c<=57):=by
 rcases vK i with⟨_,h⟩ | ⟨_,h⟩
 ·rw[h]at hc;exact .inr (uV _ c hc)
 ·rw[h]at hc;rcases nF.mp hc with rfl | hc
  ·exact .inl rfl
  ·exact .inr (uV _ c hc)
theorem yO{i:Int}{k:Nat}(hk:0<k)(h:i.natAbs<10^k):(itx i).length<=k+1:=by
 rw[<-jT];have:=HY hk h;rcases vK i with⟨_,h⟩ | ⟨_,h⟩<;>rw[h]
 ·omega
 ·rw[mO];omega
def ntx(t b:Int):Str:=if b=1 then itx t else itx t++⟨#[47]⟩++itx b
def wl:Nat->List Int->List (Nat×Int)
 | _,[]=>[]
 | j,p::r=>(if 1<=p then [(j,p)]else [])++wl (j+1) r
def ltr(j:Nat):Str:=⟨#[97+j]⟩
def wtx(q:Nat×Int):Str:=if q.2=1 then ltr q.1 else ltr q.1++⟨#[94]⟩++itx q.2
structure Trm where
 ns:List Int
 t:Int
 b:Int
def ttx(x:Trm):Str:=Str.join ⟨#[32]⟩ (ntx x.t x.b::(wl 0 x.ns).map wtx)
def stx(ts:List Trm):Str:=match ts with
 | []=>⟨#[48]⟩
 | x::r=>Str.join ⟨#[32,43,32]⟩ ((x::r).reverse.map ttx)
theorem FJ(p:Int):∀(a:List Int) (j:Nat),wl j (a++[p])=wl j a++(if 1<=p then [(j+a.length,p)]else [])
 | [],j=>by simp [wl]
 | q::r,j=>by
  show _++wl (j+1) (r++[p])=(_++wl (j+1) r)++_;rw[FJ p r (j+1),mF,mO,show j+1+r.length=j+(r.length+1) by omega]
theorem LC:∀{ns:List Int} {j:Nat} {q:Nat×Int},q∈wl j ns->j<=q.1/\q.1<j+ns.length/\1<=q.2/\q.2∈ns
 | [],_,_,h=>nomatch h
 | p::r,j,q,h=>by
  rcases mV.mp h with h | h
  ·by_cases hp:1<=p
   ·rw[tD hp,hU]at h;subst h;exact⟨nQ _,by simp,hp,hW ..⟩
   ·rw[nZ hp]at h;cases h
  ·obtain⟨h1,h2,h3,h4⟩:=LC h;exact⟨by omega,by rw[mO];omega,h3,gR _ h4⟩
def ML(l:List Int)(q:Nat×Int):List Int:=l.set q.1 (l.getD q.1 0+q.2)
theorem OK(aa:Nat):∀(n:Nat) (ns:List Int),ns.length=n->n<=aa->(∀p∈ns,0<=p)->(wl 0 ns).foldl ML (List.replicate aa 0)=ns++List.replicate (aa-n) 0
 | 0,ns,h,_,_=>by rw[List.length_eq_zero_iff.mp h];rfl
 | n+1,ns,h,hm,hp=>by
  have hne:ns≠[]:=λz=>by rw[z]at h;cases h
  obtain⟨a,p,rfl⟩:∃a p,ns=a++[p]:=⟨ns.dropLast,ns.getLast hne,(List.dropLast_concat_getLast hne).symm⟩;have ha:a.length=n:=by simpa using h
  rw[FJ,mH,OK aa n a ha (by omega) (λx hx=>hp x (List.mem_append_left _ hx)),Nat.zero_add,ha];have em:aa-n=(aa-(n+1))+1:=by omega
  have e1:List.replicate (aa-n) (0:Int)=0::List.replicate (aa-(n+1)) 0:=by rw[em,List.replicate_succ]
  have p0:0<=p:=hp p (by simp);by_cases h1:1<=p
  ·rw[tD h1,e1];show ML _ _=_;unfold ML;rw[<-ha];simp [gE]
  ·rw[nZ h1,e1,show p=0 by omega];simp
theorem EO{t b:Int}{c:Nat}(hc:c∈(ntx t b).cps.toList):45<=c/\c<=57:=by
 unfold ntx at hc;split at hc
 ·have:=yE hc;omega
 ·rw[vS,vS,mF]at hc;rcases mV.mp hc with h | h
  ·have:=yE h;omega
  ·rcases mV.mp h with h | h
   ·have:c=47:=by simpa using h
    omega
   ·have:=yE h;omega
theorem DQ{q:Nat×Int}{c:Nat}(hc:c∈(wtx q).cps.toList):45<=c:=by
 unfold wtx at hc;split at hc
 ·have:c=97+q.1:=by simpa [ltr]using hc
  omega
 ·rw[vS,vS,mF]at hc;rcases mV.mp hc with h | h
  ·have:c=97+q.1:=by simpa [ltr]using h
   omega
  ·rcases mV.mp h with h | h
   ·have:c=94:=by simpa using h
    omega
   ·have:=yE h;omega
theorem CQ{sep:Str}{c:Nat} :∀{l:List Str},c∈(Str.join sep l).cps.toList->c∈sep.cps.toList∨∃x∈l,c∈x.cps.toList
 | [],h=>by cases h
 | [x],h=>.inr ⟨x,by simp,h⟩
 | x::y::r,h=>by
  rw[wI,vS,vS,mF]at h;rcases mV.mp h with h | h
  ·exact .inr ⟨x,by simp,h⟩
  ·rcases mV.mp h with h | h
   ·exact .inl h
   ·rcases CQ h with h | ⟨z,hz,h⟩
    ·exact .inl h
    ·exact .inr ⟨z,gR _ hz,h⟩
theorem PJ{x:Trm}{c:Nat}(hc:c∈(ttx x).cps.toList):c=32∨45<=c:=by
 rcases CQ hc with h | ⟨y,hy,h⟩
 ·exact .inl (by simpa using h)
 ·rcases nF.mp hy with rfl | hy
  ·have:=EO h;omega
  ·obtain⟨q,_,rfl⟩:=nN.mp hy;exact .inr (DQ h)
theorem EE(x:Trm):Txt.split (ttx x) ⟨#[32]⟩=ntx x.t x.b::(wl 0 x.ns).map wtx:=by
 refine wE (k:=0) (c:=32) ⟨rfl,λj hj=>by omega,by decide +kernel⟩ λq hq hm=>?_;rcases nF.mp hq with rfl | hq
 ·have:=EO hm;omega
 ·obtain⟨q,_,rfl⟩:=nN.mp hq;have:=DQ hm;omega
theorem EF(x:Trm)(r:List Trm):Txt.split (stx (x::r)) ⟨#[32,43,32]⟩=(x::r).reverse.map ttx:=by
 show Txt.split (Str.join ⟨#[32,43,32]⟩ ((x::r).reverse.map ttx)) ⟨#[32,43,32]⟩=_;cases e:(x::r).reverse with
 | nil=>simp at e
 | cons y s=>
  rw[nE];refine wE (k:=1) (c:=43) ⟨rfl,λj hj=>?_,by decide +kernel⟩ λq hq hm=>?_
  ·have:j=0:=by omega
   subst this
   decide
  ·have:∃z,q=ttx z:=by
    rcases nF.mp hq with rfl | hq
    ·exact⟨y,rfl⟩
    ·obtain⟨z,_,rfl⟩:=nN.mp hq;exact⟨z,rfl⟩
   obtain⟨z,rfl⟩:=this;have:=PJ hm;omega
structure TmOk(aa:Nat)(x:Trm):Prop where
 len:x.ns.length=aa
 nn:∀n∈x.ns,0<=n
 deg:x.ns.sum<=16
 pos:0<x.b
 low:Int.gcd x.t x.b=1
 nz:x.t≠0
 st:x.t.natAbs<2^782
 sb:x.b.natAbs<2^680
theorem SH:∀{ns:List Int},(∀n∈ns,0<=n)->0<=ns.sum
 | [],_=>nV _
 | a::r,h=>by
  have h1:=h a (by simp);have h2:=SH λn hn=>h n (gR _ hn);rw[nI];omega
theorem NZ:∀{ns:List Int} {n:Int},(∀n∈ns,0<=n)->n∈ns->n<=ns.sum
 | a::r,n,h,hn=>by
  have h1:=h a (by simp);have h2:=SH λn hn=>h n (gR _ hn);rw[nI];rcases nF.mp hn with rfl | hn
  ·omega
  ·have:=NZ (λn hn=>h n (gR _ hn)) hn;omega
theorem TmOk.le{aa:Nat}{x:Trm}(h:TmOk aa x){n:Int}(hn:n∈x.ns):0<=n/\n<=16:=⟨h.nn n hn,Int.le_trans (NZ h.nn hn) h.deg⟩
theorem LY{i:Int}{k:Nat}(h:i.natAbs<2^k)(hk:k<=1920)(hk0:0<k):i.natAbs.log2<1920:=by
 by_cases e:i.natAbs=0
 ·rw[e];decide
 ·exact hJ ((Nat.log2_lt e).mpr h) hk
theorem TmOk.t10{aa:Nat}{x:Trm}(h:TmOk aa x):x.t.natAbs<10^236:=hJ h.st (by decide +kernel)
theorem TmOk.b10{aa:Nat}{x:Trm}(h:TmOk aa x):x.b.natAbs<10^205:=hJ h.sb (by decide +kernel)
theorem HJ{aa:Nat}{x:Trm}(h:TmOk aa x):(ntx x.t x.b).length<=444:=by
 have h1:=yO (by decide) h.t10;have h2:=yO (by decide) h.b10;unfold ntx;split
 ·omega
 ·rw[Str.length_append,Str.length_append];show(itx x.t).length+1+(itx x.b).length<=444;omega
theorem FS{p:Int}(h0:0<=p)(h:p<=16):p.natAbs<10^2:=by omega
theorem MM{q:Nat×Int}(h0:0<=q.2)(h:q.2<=16):(wtx q).length<=5:=by
 have h2:=yO (by decide) (FS h0 h);unfold wtx;split
 ·show 1<=5;decide
 ·rw[Str.length_append,Str.length_append];show 1+1+(itx q.2).length<=5;omega
theorem FK:∀(ns:List Int) (j:Nat),(wl j ns).length<=ns.length
 | [],_=>nQ _
 | p::r,j=>by
  show((if 1<=p then [(j,p)]else [])++wl (j+1) r).length<=_;have:=FK r (j+1);rw[gY,mO];split
  ·rw[List.length_singleton];omega
  ·rw[List.length_nil];omega
theorem SG{B:Nat}{l:List Str}(h:∀y∈l,y.length<=B):(l.map (·.length)).sum<=l.length*B:=StrLaws.sumLen_le l h
theorem DX{aa:Nat}{x:Trm}(h:TmOk aa x):∀y∈(wl 0 x.ns).map wtx,y.length<=5:=λy hy=>by
 obtain⟨q,hq,rfl⟩:=nN.mp hy;have:=h.le (LC hq).2.2.2;exact MM this.1 this.2
theorem FL{aa:Nat}{x:Trm}(h:TmOk aa x)(hm:aa<=4):(ttx x).length<=469:=by
 have h1:=StrLaws.join_length_le ⟨#[32]⟩ (ntx x.t x.b::(wl 0 x.ns).map wtx);have h2:=SG (DX h);have h3:=FK x.ns 0;have h4:=HJ h;have h5:=h.len;simp only[nE,nI,mO,mS]at h1 h2;have e:(⟨#[32]⟩:Str).length=1:=rfl;rw[e]at h1;exact nL h1 (by omega)
theorem OG{sep:Str}{l:List Str}{B:Nat}(hB:∀y∈l,y.length<=B)(h:l.length*B+l.length*sep.length<=16777216):JoinOk sep l=true:=by
 unfold JoinOk;rw[StrLaws.joinFits hB h]
 rfl
theorem XA{aa:Nat}{ts:List Trm}(h:∀x∈ts,TmOk aa x)(hm:aa<=4)(h7:ts.length<=7):(stx ts).length<=3304:=by
 unfold stx;split
 ·show 1<=3304;decide
 ·rename_i x r;have h1:=StrLaws.join_length_le ⟨#[32,43,32]⟩ ((x::r).reverse.map ttx);have h2:=SG (l:=(x::r).reverse.map ttx) (B:=469) λy hy=>by
   obtain⟨z,hz,rfl⟩:=nN.mp hy;exact FL (h z (List.mem_reverse.mp hz)) hm
  have e:(⟨#[32,43,32]⟩:Str).length=3:=rfl;rw[e]at h1;rw[mS,List.length_reverse]at h1 h2;exact nL h1 (by omega)
theorem LL(i:Int):Txt.startswith (itx i) ⟨#[45]⟩=decide (i<0):=by
 unfold Txt.startswith;rw[StrLaws.subAt_eq,List.drop_zero,<-jT (itx i)];have e:(⟨#[45]⟩:Str).length=1:=rfl;rw[e];rcases vK i with⟨h1,h2⟩ | ⟨h1,h2⟩
 ·rw[h2,mU (show ¬i<0 by omega)];have hd:=uV i.natAbs;cases e2:dg i.natAbs with
  | nil=>exact absurd e2 (ON _)
  | cons c r=>
   rw[e2]at hd;have hc:=hd c (by simp);have e3:(List.take 1 (c::r)==((⟨#[45]⟩:Str).cps.toList))=false:=by
    show([c]==[45])=false;simp;omega
   rw[e3,Bool.and_false]
 ·rw[h2,mX h1];show(decide (0+1<=(45::dg i.natAbs).length)&&([45]==[45]))=true;simp
theorem slice1{x:Str}(h:1<=x.length):(Txt.slice x (some 1) none).cps.toList=x.cps.toList.drop 1:=by
 have e:Txt.slice x (some 1) none=StrLaws.sliceText x (some ((1:Nat):Int)) (some (x.length:Int)):=by
  unfold Txt.slice StrLaws.sliceText;rw[StrLaws.sliceIdx_none_hi]
  rfl
 rw[e,StrLaws.sliceText_nat x h gA];exact gM (by rw[List.length_drop,jT];exact nQ _)
end LwS
namespace LwD
open PySem PySem.Spec PyProof.Rows L2 Lw
section
variable{prog:Program}{w:World}{A:Around}{E:Value->Shared->Prop}{h:Heap}{g:Array GenState}{d:Drawn}{t:Nat}{os:OsState}{a:Addr}{o:Obj}
end
section
variable{prog:Program}{w:World}{A:Around}{E:Value->Shared->Prop}
end
section
variable{prog:Program}{w:World}{A:Around}{E:Value->Shared->Prop}{s:Shared}
end
section
variable{X:Cx}
end
section
variable{prog:Program}{w:World}{A:Around}{E:Value->Shared->Prop}{s:Shared}
end
section
variable{X:Cx}
end
structure PwS(aa:Nat)(ns:List Int):Prop where
 len:ns.length=aa
 nn:∀n∈ns,0<=n
 deg:ns.sum<=8
section
variable{X:Cx}
end
section
variable{prog:Program}{w:World}{A:Around}{E:Value->Shared->Prop}{s:Shared}
end
section
variable{X:Cx}
end
section
variable{prog:Program}{w:World}{A:Around}{E:Value->Shared->Prop}{s:Shared}{d it:Addr}{es:Array DictEntry}{ep i:Nat}
end
section
variable{X:Cx}
end
end LwD
namespace Lw
open PySem PySem.Spec PyProof.Rows L2
def vR(X:Cx)(N:List Str)(scope:Scope)(x0:Str)(cl:List (Str×Addr))(C:Addr)(fp:List Addr)(s2:Shared)(H2:Hp):Cx:=
 { X with N:=N,s₀:=s2,H₀:=H2,env:=compEnvC scope ((x0,C+1)::cl) C X.env,outer:=X.stack,stack:=X.stack,ex:=fp,fn:=λx=>decide (x=x0),pn:=[],xe:=λ_ _=>False }
theorem HN{x0:Str}{c:Addr}{cl:List (Str×Addr)} :((x0,c)::cl).lookup x0=some c:=by rw[List.lookup_cons,beq_self_eq_true]
theorem zR{x0 x:Str}{c c':Addr}{cl:List (Str×Addr)}(h:((x0,c)::cl).lookup x=some c'):(x=x0/\c'=c)∨cl.lookup x=some c':=by
 rw[List.lookup_cons]at h;cases q:x==x0 with
 | true=>
  rw[q]at h;exact .inl ⟨beq_iff_eq.mp q,(Option.some.inj h).symm⟩
 | false=>
  rw[q]at h;exact .inr h
theorem VE{x0 x:Str}{c c':Addr}{cl:List (Str×Addr)}(n:x≠x0)(h:cl.lookup x=some c'):((x0,c)::cl).lookup x=some c':=by
 rw[List.lookup_cons,beq_false_of_ne n];exact h
theorem JO{M:Model}{A:Around}{E:Value->Shared->Prop}{s:Shared}{scope:Scope}{x0:Str}{globals:Addr}{cl:List (Str×Addr)}{qual:Str}{env:Env}{Q:Env->Shared->Prop}(hcf:∀a l,cellsFrom a scope.names l=(x0,a)::l)(hpc:∀h,pushCells h scope.names=h.push { cls:=.type "cell",data:=.cell none })
  (hQ:Q (newEnv scope s.heap.objs.size globals ((x0,s.heap.objs.size+1)::cl) qual none .none (some env) builtinsNs) { s with heap:=(s.heap.push { cls:=.type "dict",data:=.dict #[] }).push { cls:=.type "cell",data:=.cell none } }) :
  wpAny M A (newFunctionEnv scope globals cl [] qual none .none (some env)) Q E s:=by
 simp only[newFunctionEnv,Option.isSome_some,if_true];refine nW (wpAny_alloc (nW (wpAny_layCells _ (λname kind cells=>by cases hkc:kind==NameKind.cell<;>simp [hkc]) _ _ _ _ ?_)));rw[hcf,hpc,nC];exact nW (nX (nX hQ))
section
variable{X:Cx}
theorem ME{ac:List (Addr×Obj)}{σ:L2.St}{H1:Hp}{s2:Shared}{N:List Str}{scope:Scope}{x0:Str}{cl:List (Str×Addr)}{C:Addr}{fp:List Addr}(I:Inv X ac σ H1 s2)(hk:scope.kind=.function)
  (hsub:∀x c,cl.lookup x=some c->X.env.cells.lookup x=some c) (hhas:∀x,((relabel scope X.env).names.lookup x=some .cell∨(relabel scope X.env).names.lookup x=some .free)->x=x0∨∃c,cl.lookup x=some c)
  (hC:s2.heap.objs.size<=C) (hf:∀b∈fp,FpOk X ac H1 b) (hlt:∀b∈fp,b<s2.heap.objs.size):(vR X N scope x0 cl C fp s2 H1).Ok where
 mod:=I.ok.mod
 kind:=hk
 glob:=I.ok.glob
 blt:=I.ok.blt
 above:=hC
 inj:=λx y c h1 h2=>by
  have old:∀z,cl.lookup z=some c->c≠C+1:=λz hz e=>by
   obtain⟨v,hv⟩:=I.cell z c (hsub z c hz);exact absurd e (nM (hJ hv.lt (Nat.le_succ_of_le hC)))
  rcases zR h1 with⟨e1,e2⟩ | e1<;>rcases zR h2 with⟨e3,e4⟩ | e3
  ·rw[e1,e3]
  ·exact absurd e2 (old y e3)
  ·exact absurd e4 (old x e1)
  ·exact I.ok.inj x y c (hsub x c e1) (hsub y c e3)
 has:=λx h=>by
  rcases hhas x h with e | ⟨c,e⟩
  ·exact⟨C+1,by rw[e];exact HN⟩
  ·by_cases z:x=x0
   ·exact⟨C+1,by rw[z];exact HN⟩
   ·exact⟨c,VE z e⟩
 cab:=λx c h e=>by
  have z:x=x0:=mG h;rcases zR e with⟨_,e2⟩ | e2
  ·rw[e2];exact Nat.le_succ_of_le hC
  ·rw[z]at e;have e':((x0,C+1)::cl).lookup x0=some c:=e;rw[HN]at e';cases e';exact Nat.le_succ_of_le hC
 hd:=I.ok.hd
 frames:=I.ok.frames
 stk:=.inl rfl
 exf:=λb hb=>⟨nM (hJ (hlt b hb) hC),λx c h=>by
  rcases zR h with⟨_,e2⟩ | e2
  ·rw[e2];exact Nat.ne_of_gt (hJ (hlt b hb) (Nat.le_succ_of_le hC))
  ·exact(hf b hb).2.2.2.2.1 x c (hsub x c e2)⟩
 bs:=I.bs
 bsz:=nL I.ok.bsz I.sz
 noex:=λb o e hb=>by
  rcases(hf b hb).2.2.2.1 with z | z
  ·exact I.ok.noex b o e z
  ·exact absurd (hJ (nK e) (nL I.ok.bsz z)) (nG _)
 exfs:=λb hb z=>(nF.mp (I.stkSub b z)).elim (hf b hb).2.1 (hf b hb).2.2.1
 funs:=I.stack
 frf:=I.stkFree
theorem TW{idx:List Nat}{N:List Str}{elt target iter:Expr}{scope:Scope}{x0:Str}{cl:List (Str×Addr)}{pos:Pos}{wi:TI}{g:TG}{te:TE}(hc:X.calm=true)
  (hk:scope.kind=.function) (hclos:closureFor scope X.env=pure cl) (hcf:∀a l,cellsFrom a scope.names l=(x0,a)::l) (hpc:∀h,pushCells h scope.names=h.push { cls:=.type "cell",data:=.cell none }) (hnames:∀x∈scope.names,x.2=.local->scope.names.lookup x.1=some .local)
  (hsub:∀x c,cl.lookup x=some c->X.env.cells.lookup x=some c) (hhas:∀x,((relabel scope X.env).names.lookup x=some .cell∨(relabel scope X.env).names.lookup x=some .free)->x=x0∨∃c,cl.lookup x=some c)
  (hlen:N.length=1+idx.length)
  (hidx:∀(k j:Nat) (x:Str),idx[k]? = some j->N[1+k]? = some x->x≠x0/\X.N[j]? = some x/\X.env.kindOf x=some .cell/\(relabel scope X.env).names.lookup x=some .cell/\X.env.scope.names.lookup x=some .cell)
  (hi:PI X target iter wi) (hg:∀C fp s2 H2,PG (vR X N scope x0 cl C fp s2 H2) target g) (he:∀C fp s2 H2,PE (vR X N scope x0 cl C fp s2 H2) elt te)
  (hs:∀x,foldedSetIterable iter X.env x=pure x:=by intro _;rfl):PE X (.ListComp elt [⟨target,iter,[],0⟩] scope pos) (FM 1 idx wi g te):=by
 intro ac s σ H Q I h;rw[eval_ListComp];refine wpAny_comprehension_free (use:=none) rfl hs hclos hk hnames (thn (hi ac s σ H _ I h) λv s1 h1=>thn h1 λitv s2 h2=>?_);obtain⟨it,fp,tn,J,H1,e,I2,T,st2,f2,hR⟩:=h2;subst e;have hlt:∀b∈fp,b<s2.heap.objs.size:=λb hb=>by
  obtain⟨o,ho,_⟩:=T.obj 0 _ st2 b hb;exact nK ho
 refine wpAny_newObj_type (JO hcf hpc ?_);dsimp only;generalize hHH:s2.heap.push { cls:=.type "list",dict:=none,data:=.seq ([]:List Value).toArray } = HH;generalize h1e:((HH.push { cls:=.type "dict",data:=.dict #[] }).push { cls:=.type "cell",data:=.cell none })=h₁;have hCe:HH.objs.size=s2.heap.objs.size+1:=by rw[<-hHH,nC]
 have hDC:s2.heap.objs.size≠HH.objs.size:=by rw[hCe];exact nM (mR _)
 have hCle:s2.heap.objs.size<=HH.objs.size:=by rw[hCe];exact Nat.le_succ _
 have old:∀b o,s2.heap.get? b=some o->h₁.get? b=some o:=λb o e=>h1e▸gL _ (gL _ (hHH▸gL _ e));have hD:h₁.get? s2.heap.objs.size=some { cls:=.type "list",dict:=none,data:=.seq ([]:List Value).toArray } :=h1e▸gL _ (gL _ (hHH▸gW _ rfl));have hns₁:h₁.Ns HH.objs.size (λ_=>none):=h1e▸(Heap.Ns.new HH (.type "dict")).keeps λb o e=>gL _ e;have hcell0:h₁.IsCell (HH.objs.size+1) none:=by
  refine⟨{ cls:=.type "cell",data:=.cell none }, ?_,rfl⟩;rw[<-h1e,<-nC HH (o:={ cls:=.type "dict",data:=.dict #[] })];exact gW _ rfl
 have nD:H1 s2.heap.objs.size=none:=I2.hok.fresh gA ;obtain⟨W,⟨m0,w0⟩,turn⟩:=hR s2.heap.objs.size _ nD (jN (.lst []) nD) jD;generalize hσ:(List.replicate 1 none++idx.map λj=>(σ[j]?).getD none:L2.St)=σ0 at turn;have lσ:σ0.length=N.length:=by rw[<-hσ,gY,gO,mS,hlen]
 have ok:=ME (N:=N) (x0:=x0) (cl:=cl) (C:=HH.objs.size) I2 hk hsub hhas hCle f2 hlt;have oldC:∀c v,s2.heap.IsCell c v->h₁.IsCell c v:=λc v ⟨o,ho,hd⟩=>⟨o,old c o ho,hd⟩;have I4:Inv (vR X N scope x0 cl HH.objs.size fp s2 H1) [] σ0 (upd H1 s2.heap.objs.size (.lst [])) { s2 with heap:=h₁ } :=by
  refine⟨ok,rfl,I2.bare,Un.laid old gA nD,⟨_,hns₁,λi x v e1 e2 _=>?_⟩,(λx c z=>?_), ?_,(λx c z=>?_),(λp hp=>nomatch hp),I2.hok.laid old gA ?_,lσ⟩
  ·
   rw[<-hσ]at e2;by_cases hi':i<1
   ·rw[gH (by rw[gO];exact hi'),List.getElem?_replicate]at e2;split at e2<;>cases e2
   ·obtain⟨k,rfl⟩:∃k,i=1+k:=⟨i-1,by omega⟩;rw[gF (by rw[gO];omega),gO,Nat.add_sub_cancel_left,mC]at e2;cases ej:idx[k]? with
    | none=>rw[ej]at e2;cases e2
    | some j=>
     rw[ej,Option.map_some]at e2;have e2:=Option.some.inj e2;obtain⟨n0,n1,n2,n3,n4⟩:=hidx k j x ej e1;have e3:σ[j]? = some (some v):=by
      cases q:σ[j]? with
      | none=>rw[q]at e2;cases e2
      | some y=>rw[q,Option.getD_some]at e2;rw[e2]
     obtain⟨m,hm,hl⟩:=I2.loc;obtain⟨u,ru,lk⟩:=hl j x v n1 e3 (.inr (.inl n4));refine⟨u,ru, ?_⟩;rcases lk with⟨kl,_⟩ | ⟨_,c,hcl,hic⟩
     ·rw[n2]at kl;cases kl
     ·obtain⟨c',hc'⟩:=(hhas x (.inl n3)).resolve_left n0;have:c'=c:=Option.some.inj ((hsub x c' hc').symm.trans hcl);subst this;exact .inr ⟨.inl n3,c',VE n0 hc',oldC _ _ hic⟩
  ·rcases zR z with⟨_,e2⟩ | e2
   ·rw[e2];exact⟨_,hcell0⟩
   ·obtain⟨v,hv⟩:=I2.cell x c (hsub x c e2);exact⟨v,oldC _ _ hv⟩
  ·show(upd H1 s2.heap.objs.size (.lst [])) HH.objs.size=none;rw[jH (Ne.symm hDC)];exact I2.hok.fresh hCle
  ·show(upd H1 s2.heap.objs.size (.lst [])) c=none;rcases zR z with⟨_,e2⟩ | e2
   ·rw[e2,jH (Nat.ne_of_gt (Nat.lt_succ_of_le hCle))];exact I2.hok.fresh (Nat.le_succ_of_le hCle)
   ·obtain⟨v,hv⟩:=I2.cell x c (hsub x c e2);rw[jH (nM hv.lt)];exact I2.freeC x c (hsub x c e2)
  ·exact⟨by show 0<=sizeLine;decide,[],0,.nil,hD⟩
 have stat:∀{H':Hp},(∀b∈fp,H' b=none)->∀b∈fp,FpOk (vR X N scope x0 cl HH.objs.size fp s2 H1) [] H' b:=λhn b hb=>
  ⟨hn b hb,(ok.exf b hb).1,ok.exfs b hb,.inl hb,(ok.exf b hb).2,λp hp=>nomatch hp⟩
 have st4:tn 0 h₁:=T.keep _ _ _ st2 λb _ o e=>old b o e;have fr4:∀b∈fp,(upd H1 s2.heap.objs.size (.lst [])) b=none:=λb hb=>by
  rw[jH (nM (hlt b hb))];exact(f2 b hb).1
 have loop:codeAny (model X.prog X.w) X.A (.compLoop (.ListComp elt [⟨target,iter,[],0⟩] scope pos) 0 (.ref it) (.ref s2.heap.objs.size) (compEnvC scope ((x0,HH.objs.size+1)::cl) HH.objs.size X.env))
   (compPost (model X.prog X.w) X.A X.xe none (EP X ac σ Q) (.ref s2.heap.objs.size) HH.objs.size) { s2 with heap:=h₁ } :=by
  refine xC (λn s'=>∃i ys H',Inv (vR X N scope x0 cl HH.objs.size fp s2 H1) [] σ0 H' s'/\tn i s'.heap/\(∀b∈fp,H' b=none)/\W i n ys H') ?_ m0 ⟨0,[],_,I4,st4,fr4,w0⟩;rintro n s3 ⟨i,ys,H3,I3,st3,fr3,w3⟩;obtain⟨hp3,hz3,hw⟩:=turn i n ys H3 w3;rcases hw with⟨stop,qn⟩ | ⟨go,step⟩
  ·refine thn (T.done (vR X N scope x0 cl HH.objs.size fp s2 H1) rfl rfl rfl hc i [] s3 _ H3 _ I3 (stat fr3) st3 stop) λr s4 ⟨hr,I5⟩=>?_;subst hr;obtain⟨m,hm,_⟩:=id I5.loc;refine⟨m,hm,λh' sb=>⟨.ref s2.heap.objs.size,H3, ?_,rfl,qn⟩⟩;have k:∀b o,b≠HH.objs.size->s4.heap.get? b=some o->h'.get? b=some o:=λb o hb e=>sb.extBut b o hb e;have nb:∀b o,s2.heap.get? b=some o->b≠HH.objs.size:=λb o e=>by rw[hCe];exact nM (Nat.lt_succ_of_lt (nK e))
   have U:=I5.base;have fC:H3 HH.objs.size=none:=I5.free;refine I2.call' (ch:=fp) (s':={ s4 with heap:=h' }) I5.os ⟨λb o e n hb hx=>k b o (nb b o e) (U.keep b o e n hb hx),λb o e n hb hx=>?_,U.free,λb o e hx=>?_,U.tups,U.frzs,U.tbls⟩ (λb u e=>?_) I5.bare (λb hb=>⟨(f2 b hb).2.2.2.1,(f2 b hb).2.1,(f2 b hb).2.2.2.2.1,(f2 b hb).2.2.2.2.2⟩)
   ·obtain⟨sl,q⟩:=U.slot b o e n hb hx;exact⟨sl,k b _ (nb b o e) q⟩
   ·obtain⟨o',q⟩:=U.there b o e hx;exact⟨o',k b _ (nb b o e) q⟩
   ·refine(I5.hok b u e).stay (λc v hcc q=>k c v ?_ q) (λ_ q=>q) λ_ _ q=>q;rcases hcc with z | z
    ·rw[z];intro y;rw[y,fC]at e;cases e
    ·intro y;rw[y,fC]at z;cases z
  ·refine nY (T.item (vR X N scope x0 cl HH.objs.size fp s2 H1) rfl rfl rfl hc i [] s3 _ H3 (λ_ _=>False) I3 (stat fr3) st3 go) (λr s4 ⟨u,hr,h4⟩=>?_) λ_ _ z=>z.elim;subst hr;refine nY h4 (λ_ s5 ⟨x,H5,I5,r5,y5,st5,fr5⟩=>?_) λ_ _ z=>z.elim;have I5':=I5.pinned (stat fr5) (T.obj _ _ st5);refine nY (hg _ _ _ _ _ s5 _ H5 x u _ I5' r5 (step x H5 y5)) (λ_ s6 ⟨σ6,H6,I6,kp6,q6⟩=>?_) λ_ _ z=>z.elim;refine nY (he _ _ _ _ _ s6 σ6 H6 _ I6 q6) (λy s7 ⟨yv,H7,I7,r7,q7⟩=>?_) λ_ _ z=>z.elim;obtain⟨e7,m',hm',w7⟩:=q7;refine nY (kW (X:=vR X N scope x0 cl HH.objs.size fp s2 H1) _ s7 σ6 H7 (.ref s2.heap.objs.size) [yv] (.ref s2.heap.objs.size) [y] (λ_ H8=>H8=upd H7 s2.heap.objs.size (.lst (ys++[yv]))) I7 rfl (.cons r7 .nil) ⟨_,ys,yv,rfl,rfl,e7,hz3,rfl⟩) (λ_ s8 ⟨_,H8,I8,_,q8⟩=>?_) λ_ _ z=>z.elim;subst q8;refine⟨m',hm',i+1,_,_,(I8.unpinned).weak (by rw[lσ,I8.len];rfl) kp6,T.keep _ _ _ st5 λb hb o e=>(I8.pin (b,o) (gN _ (gN _ (jZ hb e)))).1,λb hb=>?_,w7⟩;obtain⟨o,e,d⟩:=T.obj _ _ st5 b hb;exact(I8.pin (b,o) (gN _ (gN _ (jZ hb e)))).2.1
 exact codeAny_compStart_list loop (T.self _ 0 _ _ _ st4 loop)
end
section
variable{X:Cx}
theorem yJ{i:Nat}{y:Str}{py spos:Pos}(hN:X.N.Nodup)(hi:X.N[i]? = some y)(hx:Loc X.env.scope y){own:Nat}{idx:List Nat}{N:List Str}{elt target iter:Expr}{scope:Scope}{cl:List (Str×Addr)}{pos:Pos}{wi:TI}{g:TG}{te:TE}(hc:X.calm=true)
  (hk:scope.kind=.function) (hclos:closureFor scope X.env=pure cl) (hcell:∀x∈scope.names,x.2≠.cell) (hnames:∀x∈scope.names,x.2=.local->scope.names.lookup x.1=some .local)
  (hsub:∀x c,cl.lookup x=some c->X.env.cells.lookup x=some c) (hhas:∀x,((relabel scope X.env).names.lookup x=some .cell∨(relabel scope X.env).names.lookup x=some .free)->∃c,cl.lookup x=some c)
  (hlen:N.length=own+idx.length)
  (hidx:∀(k j:Nat) (x:Str),idx[k]? = some j->N[own+k]? = some x->X.N[j]? = some x/\X.env.kindOf x=some .cell/\(relabel scope X.env).names.lookup x=some .cell/\X.env.scope.names.lookup x=some .cell)
  (hit:PI X target iter wi) (hg:∀C fp s2 H2,PG (jK X N scope cl C fp s2 H2) target g) (he:∀C fp s2 H2,PE (jK X N scope cl C fp s2 H2) elt te)
  (hsw:swapsWith (.ListComp elt [⟨target,iter,[],0⟩] scope pos) (some (.Name y py)) spos.line X.env=pure true:=by rfl)
  (hs:∀x,foldedSetIterable iter X.env x=pure x:=by intro _;rfl) (hfn:X.fn y=true∨X.env.scope.names.lookup y=some .local:=by first | exact .inl rfl | exact .inr rfl | assumption):PS X (.Assign [.Name y py] (.ListComp elt [⟨target,iter,[],0⟩] scope pos) spos) (SF (FM own idx wi g te) (jX i)):=by
 intro ac s σ H D I h;rw[exec_Assign_Name_used _ _ _ _ hsw];refine nW (wpAny_standAt (nW ?_));show wpAny _ X.A (do let _<-comprehension (.ListComp elt [⟨target,iter,[],0⟩] scope pos) scope X.env _ (newList []) false (eval iter X.env) (some (assign (.Name y py) X.env))) _ _ s;refine nW (nY (wpAny_comprehension_free (use:=some (assign (.Name y py) X.env)) (Q:=λ_ s'=>∃σ' H',Inv X ac σ' H' s'/\D.nx σ' H') rfl hs hclos hk hnames (thn (hit ac s σ H _ I h) λv s1 h1=>thn h1 λitv s2 h2=>?_)) (λ_ s' hq=>nX (nX hq)) λ_ _ e=>e);obtain⟨it,fp,tn,J,H1,e,I2,T,st2,f2,hR⟩:=h2;subst e;have hlt:∀b∈fp,b<s2.heap.objs.size:=λb hb=>by
  obtain⟨o,ho,_⟩:=T.obj 0 _ st2 b hb;exact nK ho
 refine wpAny_newObj_type (wpAny_newFunctionEnv hcell (by intro y hy;simp at hy) (λh₁ hns₁ hsb₁=>?_) hk);dsimp only at hns₁ hsb₁ ⊢;generalize hHH:s2.heap.push { cls:=.type "list",dict:=none,data:=.seq ([]:List Value).toArray } = HH at hns₁ hsb₁ ⊢;have hCe:HH.objs.size=s2.heap.objs.size+1:=by rw[<-hHH,nC]
 have hDC:s2.heap.objs.size≠HH.objs.size:=by rw[hCe];exact nM (mR _)
 have hCle:s2.heap.objs.size<=HH.objs.size:=by rw[hCe];exact Nat.le_succ _
 have old:∀b o,s2.heap.get? b=some o->h₁.get? b=some o:=λb o e=>hsb₁.extBut b o (by rw[hCe];exact nM (Nat.lt_succ_of_lt (nK e))) (gL _ (hHH▸gL _ e));have hD:h₁.get? s2.heap.objs.size=some { cls:=.type "list",dict:=none,data:=.seq ([]:List Value).toArray } :=hsb₁.extBut _ _ hDC (gL _ (hHH▸gW _ rfl));have nD:H1 s2.heap.objs.size=none:=I2.hok.fresh gA ;obtain⟨W,⟨m0,w0⟩,turn⟩:=hR s2.heap.objs.size _ nD (jN (.lst []) nD) jD;generalize hσ:(List.replicate own none++idx.map λj=>(σ[j]?).getD none:L2.St)=σ0 at turn;have lσ:σ0.length=N.length:=by rw[<-hσ,gY,gO,mS,hlen]
 have ok:=vM (N:=N) (cl:=cl) (C:=HH.objs.size) I2 hk hsub hhas hCle f2 hlt;have oldC:∀c v,s2.heap.IsCell c v->h₁.IsCell c v:=λc v ⟨o,ho,hd⟩=>⟨o,old c o ho,hd⟩;have I4:Inv (jK X N scope cl HH.objs.size fp s2 H1) [] σ0 (upd H1 s2.heap.objs.size (.lst [])) { s2 with heap:=h₁,toks:=s2.toks+([]:List (Str×Value)).length } :=by
  refine⟨ok,rfl,I2.bare,Un.laid old gA nD,⟨_,hns₁,λi x v e1 e2 _=>?_⟩,(λx c z=>?_), ?_,(λx c z=>?_),(λp hp=>nomatch hp),I2.hok.laid old gA ?_,lσ⟩
  ·
   rw[<-hσ]at e2;by_cases hi':i<own
   ·rw[gH (by rw[gO];exact hi'),List.getElem?_replicate]at e2;split at e2<;>cases e2
   ·obtain⟨k,rfl⟩:∃k,i=own+k:=⟨i-own,by omega⟩;rw[gF (by rw[gO];omega),gO,Nat.add_sub_cancel_left,mC]at e2;cases ej:idx[k]? with
    | none=>rw[ej]at e2;cases e2
    | some j=>
     rw[ej,Option.map_some]at e2;have e2:=Option.some.inj e2;obtain⟨n1,n2,n3,n4⟩:=hidx k j x ej e1;have e3:σ[j]? = some (some v):=by
      cases q:σ[j]? with
      | none=>rw[q]at e2;cases e2
      | some y=>rw[q,Option.getD_some]at e2;rw[e2]
     obtain⟨m,hm,hl⟩:=I2.loc;obtain⟨u,ru,lk⟩:=hl j x v n1 e3 (.inr (.inl n4));refine⟨u,ru, ?_⟩;rcases lk with⟨kl,_⟩ | ⟨_,c,hcl,hic⟩
     ·rw[n2]at kl;cases kl
     ·obtain⟨c',hc'⟩:=hhas x (.inl n3);have:c'=c:=Option.some.inj ((hsub x c' hc').symm.trans hcl);subst this;exact .inr ⟨.inl n3,c',hc',oldC _ _ hic⟩
  ·obtain⟨v,hv⟩:=I2.cell x c (hsub x c z);exact⟨v,oldC _ _ hv⟩
  ·show(upd H1 s2.heap.objs.size (.lst [])) HH.objs.size=none;rw[jH (Ne.symm hDC)];exact I2.hok.fresh hCle
  ·obtain⟨v,hv⟩:=I2.cell x c (hsub x c z);show(upd H1 s2.heap.objs.size (.lst [])) c=none;rw[jH (nM hv.lt)];exact I2.freeC x c (hsub x c z)
  ·exact⟨by show 0<=sizeLine;decide,[],0,.nil,hD⟩
 have stat:∀{H':Hp},(∀b∈fp,H' b=none)->∀b∈fp,FpOk (jK X N scope cl HH.objs.size fp s2 H1) [] H' b:=λhn b hb=>
  ⟨hn b hb,(ok.exf b hb).1,ok.exfs b hb,.inl hb,(ok.exf b hb).2,λp hp=>nomatch hp⟩
 have st4:tn 0 h₁:=T.keep _ _ _ st2 λb _ o e=>old b o e;have fr4:∀b∈fp,(upd H1 s2.heap.objs.size (.lst [])) b=none:=λb hb=>by
  rw[jH (nM (hlt b hb))];exact(f2 b hb).1
 have loop:codeAny (model X.prog X.w) X.A (.compLoop (.ListComp elt [⟨target,iter,[],0⟩] scope pos) 0 (.ref it) (.ref s2.heap.objs.size) (compEnvC scope cl HH.objs.size X.env))
   (compPost (model X.prog X.w) X.A X.xe (some (assign (.Name y py) X.env)) (λ_ s'=>∃σ' H',Inv X ac σ' H' s'/\D.nx σ' H') (.ref s2.heap.objs.size) HH.objs.size) { s2 with heap:=h₁,toks:=s2.toks+([]:List (Str×Value)).length } :=by
  refine xC (λn s'=>∃i ys H',Inv (jK X N scope cl HH.objs.size fp s2 H1) [] σ0 H' s'/\tn i s'.heap/\(∀b∈fp,H' b=none)/\W i n ys H') ?_ m0 ⟨0,[],_,I4,st4,fr4,w0⟩;rintro n s3 ⟨i,ys,H3,I3,st3,fr3,w3⟩;obtain⟨hp3,hz3,hw⟩:=turn i n ys H3 w3;rcases hw with⟨stop,qn⟩ | ⟨go,step⟩
  ·refine thn (T.done (jK X N scope cl HH.objs.size fp s2 H1) rfl rfl rfl hc i [] s3 _ H3 _ I3 (stat fr3) st3 stop) λr s4 ⟨hr,I5⟩=>?_;subst hr;obtain⟨m,hm,_⟩:=id I5.loc;have U:=I5.base;have fC:H3 HH.objs.size=none:=I5.free;have IX:Inv X ac σ H3 s4:=I2.call' (ch:=fp) (s':=s4) I5.os U I5.hok I5.bare (λb hb=>⟨(f2 b hb).2.2.2.1,(f2 b hb).2.1,(f2 b hb).2.2.2.2.1,(f2 b hb).2.2.2.2.2⟩);have ltC:∀b,b<s2.heap.objs.size->b≠HH.objs.size:=λb hb=>nM (hJ hb hCle);show wpAny _ X.A (assign (.Name y py) X.env (.ref s2.heap.objs.size)) _ _ s4;refine wpAny_assign_Name (zM IX hN hi hx (v:=.ref s2.heap.objs.size) rfl (λs5 I6 ⟨a,sb,ha⟩=>?_) hfn);have aC:a≠HH.objs.size:=by
    rcases ha with ha | ha
    ·rw[ha];exact ltC _ I2.lt
    ·obtain⟨v,hv⟩:=I2.cell y a ha;exact ltC _ hv.lt
   refine⟨m,hm.sameBut sb (Ne.symm aC),λh' sb'=>⟨_,H3, ?_,qn⟩⟩;refine I6.turned (it:=HH.objs.size) (t':=s5.toks) (λb o hb e=>sb'.extBut b o hb e) fC (Ne.symm (ltC _ I2.lt)) (.inr (nL I2.sz hCle)) (λx c hc=>?_) (λp hp=>?_)
   ·obtain⟨v,hv⟩:=I2.cell x c hc;exact ltC _ hv.lt
   ·exact ltC _ (nK (I2.pin p hp).1)
  ·refine nY (T.item (jK X N scope cl HH.objs.size fp s2 H1) rfl rfl rfl hc i [] s3 _ H3 (λ_ _=>False) I3 (stat fr3) st3 go) (λr s4 ⟨u,hr,h4⟩=>?_) λ_ _ z=>z.elim;subst hr;refine nY h4 (λ_ s5 ⟨x,H5,I5,r5,y5,st5,fr5⟩=>?_) λ_ _ z=>z.elim;have I5':=I5.pinned (stat fr5) (T.obj _ _ st5);refine nY (hg _ _ _ _ _ s5 _ H5 x u _ I5' r5 (step x H5 y5)) (λ_ s6 ⟨σ6,H6,I6,kp6,q6⟩=>?_) λ_ _ z=>z.elim;refine nY (he _ _ _ _ _ s6 σ6 H6 _ I6 q6) (λy s7 ⟨yv,H7,I7,r7,q7⟩=>?_) λ_ _ z=>z.elim;obtain⟨e7,m',hm',w7⟩:=q7;refine nY (kW (X:=jK X N scope cl HH.objs.size fp s2 H1) _ s7 σ6 H7 (.ref s2.heap.objs.size) [yv] (.ref s2.heap.objs.size) [y] (λ_ H8=>H8=upd H7 s2.heap.objs.size (.lst (ys++[yv]))) I7 rfl (.cons r7 .nil) ⟨_,ys,yv,rfl,rfl,e7,hz3,rfl⟩) (λ_ s8 ⟨_,H8,I8,_,q8⟩=>?_) λ_ _ z=>z.elim;subst q8;refine⟨m',hm',i+1,_,_,(I8.unpinned).weak (by rw[lσ,I8.len];rfl) kp6,T.keep _ _ _ st5 λb hb o e=>(I8.pin (b,o) (gN _ (gN _ (jZ hb e)))).1,λb hb=>?_,w7⟩;obtain⟨o,e,d⟩:=T.obj _ _ st5 b hb;exact(I8.pin (b,o) (gN _ (gN _ (jZ hb e)))).2.1
 exact codeAny_compStart_list loop (T.self _ 0 _ _ _ st4 loop)
end
section
variable{prog:Program}{w:World}{A:Around}{R:Result->Shared->Prop}{s:Shared}
theorem AI{elt target iter c:Expr}{scope:Scope}{pos:Pos}{it acc:Value}{env:Env}(I:Nat->Shared->Prop)
  (turn:∀n s,I n s->wpAny (model prog w) A (pyNext it) (λr s₁=>match r with
   | none=>R (.ok .next) s₁
   | some v=>wpAny (model prog w) A (letOwnedTupleGo target it v) (λ_ s₁'=>wpAny (model prog w) A (assign target env v) (λ_ s₂=>wpAny (model prog w) A (isTrue c env (eval c env)) (λb s₂'=>if b=true then wpAny (model prog w) A (eval elt env) (λx s₃=>
     wpAny (model prog w) A (call (.builtin "list.append") [acc,x]) (λ_ s₄=>∃m,m<n/\I m s₄) (notedBy (model prog w) A env λe s'=>R (.error e) s') s₃)
     (notedBy (model prog w) A env λe s'=>R (.error e) s') s₂' else ∃m,m<n/\I m s₂') (notedBy (model prog w) A env λe s'=>R (.error e) s') s₂) (notedBy (model prog w) A env λe s'=>R (.error e) s') s₁') (notedBy (model prog w) A env λe s'=>R (.error e) s') s₁) (notedBy (model prog w) A env λe s'=>R (.error e) s') s)
  (n:Nat) (h:I n s) :
  codeAny (model prog w) A (.compLoop (.ListComp elt [⟨target,iter,[c],0⟩] scope pos) 0 it acc env) R s:=by
 refine codeAny_loop rfl I (λn s hI=>?_) n h;show wpAny _ _ ((compTurn (.ListComp elt [⟨target,iter,[c],0⟩] scope pos) 0 it acc env).onRaise (λx=>do noteFrame x env;theTreesLotGoes x)) _ _ s;refine wpAny_noted ?_;rw[compTurn_list];refine nW (wpAny_standAt (nW (nY (turn n s hI) (λr s₁ h₁=>?_) λ_ _ h'=>h')));cases r with
 | none=>exact nX h₁
 | some v=>
  refine nW (nY h₁ (λ_ s₁' h₁'=>?_) λ_ _ h'=>h');refine nW (nY h₁' (λ_ s₂ h₂=>?_) λ_ _ h'=>h');refine nW ?_;rw[List.forIn_cons];dsimp only;rw[tD rfl];refine nW (nW (nY h₂ (λb s₂' hb=>nX ?_) λ_ _ h'=>h'));dsimp only;rw[List.forIn_nil];refine nX ?_;cases b with
  | true=>
   rw[tD rfl]at hb ⊢;refine nW ?_;exact(nW (nY hb (λx s₃ h₃=>nW (nY h₃
    (λ_ s₄ h₄=>nX (nX ⟨rfl,h₄⟩)) λ_ _ h'=>h')) λ_ _ h'=>h'))
  | false=>
   rw[nZ gZ]at hb ⊢;exact nX ⟨rfl,hb⟩
end
section
variable{X:Cx}
end
end Lw
namespace LwD
open PySem PySem.Spec PyProof.Rows L2 Lw
section
variable{prog:Program}{w:World}{A:Around}{E:Value->Shared->Prop}{s:Shared}
end
section
variable{X:Cx}
end
section
variable{X:Cx}{k v:Expr}{tk tv:TE}{pos:Pos}
end
end LwD
namespace L2
open PySem PySem.Spec PyProof.Rows
section
variable{X:Cx}
end
end L2
namespace Lw
open PySem PySem.Spec PyProof.Rows L2
theorem OF{κ:Type}{ag:List (κ×V)}{vs:List (κ×Value)}(r:KV ag vs){i:Nat}{k:κ}{x:V}(h:ag[i]? = some (k,x)):∃u,vs[i]? = some (k,u)/\RelV x u:=by
 unfold KV at r;induction r generalizing i with
 | nil=>simp at h
 | cons p t ih=>
  cases i with
  | zero=>
   cases (Option.some.inj h);rename_i b bs _;exact⟨b.2,by have e:k=b.1:=p.1;show some b=some (k,b.2);rw[e],p.2⟩
  | succ i=>exact ih (i:=i) h
theorem GX{P:Program}{w:World}{k:Key}{u:Value}(h:(kE P w).is k u=true):RelV (kV k) u:=by
 rcases kY (show CP k u=true from h)with⟨i,t,rfl,rfl⟩ | ⟨x,t,rfl,rfl⟩
 ·exact⟨t,rfl⟩
 ·exact⟨t,rfl⟩
def Iti(d:Addr)(o:Obj)(ag:List (Key×V)):It:=
 ⟨λi H=>H d=some (.frz o (.dK ag))/\i<ag.length,
  λi H v H'=>∃p k x,H p=none/\v=.ref p/\ag[i]? = some (k,x)/\H'=upd H p (.tup [kV k,x]),
  λi H=>H d=some (.frz o (.dK ag))/\i=ag.length⟩
theorem LH{P:Program}{w:World}{K:tF}{es:List Expr}{x1}{pos:Pos}(d it:Addr){o:Obj}{ens:Array DictEntry}{ep:Nat}{ag:List (Key×V)}(ho:o.data=.dict ens ep):Turn P w K (.Tuple es x1 pos) (Iti d o ag) [it] it (λi h=>∃ok ov,IsItemIter h it d i ag.length ep ok ov) where
 mem:=by simp
 obj:=λi h st b hb=>by
  have e:b=it:=by simpa using hb
  subst e;obtain⟨ok,ov,st⟩:=st;exact⟨_,st,λv q=>by cases (show Data.fields _=Data.cell v from q)⟩
 keep:=λi h h' st k=>by
  obtain⟨ok,ov,st⟩:=st;exact⟨ok,ov,k it (by simp) _ st⟩
 item:=by
  intro X hP hw hK hc i ac s σ H E I hf st hg;subst hP hw hK;obtain⟨hd,hi⟩:=hg;obtain⟨go,ob⟩:=I.hok d _ hd;obtain⟨z,lo,vs,rel,o',es',ep',g',xo,hdat,hk,hp,hn⟩:=(show ObjOk X.prog X.w H s.heap d (.dK ag)from ob);rw[go]at g';cases g';rw[ho]at hdat;cases hdat;have hlen:vs.length=ag.length:=rel.length.symm;have at':s.heap.DictAt (kE X.prog X.w) d vs ep:=⟨o,ens,go,xo,ho,hk,hp,hn⟩;obtain⟨⟨k,x⟩,hkx⟩:∃kx,ag[i]? = some kx:=⟨ag[i],by simp [hi]⟩;obtain⟨u,hu,ru⟩:=OF rel hkx;obtain⟨ok,ov,st⟩:=st;rw[<-hlen]at st;refine wpAny_pyNext_items_item st at' hu λkey g hkey out new _ kk=>⟨_,rfl, ?_⟩;refine wpAny_letOwnedTupleGo_items out λg2 z2 sb=>?_;have il:it<s.heap.objs.size:=nK st;have fr:H s.heap.objs.size=none:=I.hok.fresh gA ;have fp:∀b∈[it],FpOk X ac (upd H s.heap.objs.size (.tup [kV k,x])) b:=λb hb=>by
   have e:b=it:=by simpa using hb
   subst e;exact⟨by rw[jH (nM il)];exact(hf b hb).1,(hf b hb).2⟩
  have I1:Inv X ac σ (upd H s.heap.objs.size (.tup [kV k,x])) { s with heap:=s.heap.push { cls:=.type "tuple",data:=.seq #[key,u] } } :=I.laid (t':=s.toks) (λb u e=>gL _ e) gA ⟨by simp [sizeLine],[key,u],.cons (GX hkey) (.cons ru .nil),⟨_,gW _ rfl,rfl,_,rfl⟩,.of (gW _ rfl) rfl⟩;have I2:Inv X ac σ (upd H s.heap.objs.size (.tup [kV k,x])) { s with heap:=g2 } :=by
   refine Inv.turnedL (s:={ s with heap:=s.heap.push { cls:=.type "tuple",data:=.seq #[key,u] } }) (h':=g2) (t':=s.toks) I1 fp λb o hb y=>?_;have hb:b≠it:=λz=>hb (by simp [z]);rcases Heap.get?_push_cases y with⟨e1,e2⟩ | e1
   ·rw[e1,e2];exact sb.extBut _ _ (Nat.ne_of_gt il) new
   ·exact sb.extBut _ _ hb (kk b o hb e1)
  rw[hlen]at z2;exact⟨.ref s.heap.objs.size,_,I2,rfl,⟨_,k,x,fr,rfl,hkx,rfl⟩,⟨_,_,z2⟩,λb hb=>(fp b hb).1⟩
 done:=by
  intro X hP hw hK hc i ac s σ H E I hf st hg;subst hP hw hK;obtain⟨hd,hi⟩:=hg;obtain⟨go,ob⟩:=I.hok d _ hd;obtain⟨z,lo,vs,rel,o',es',ep',g',xo,hdat,hk,hp,hn⟩:=(show ObjOk X.prog X.w H s.heap d (.dK ag)from ob);rw[go]at g';cases g';rw[ho]at hdat;cases hdat;have hlen:vs.length=ag.length:=rel.length.symm;have at':s.heap.DictAt (kE X.prog X.w) d vs ep:=⟨o,ens,go,xo,ho,hk,hp,hn⟩;obtain⟨ok,ov,st⟩:=st;rw[<-hlen]at st;exact wpAny_pyNext_items_end (I.ok.hd hc) st at' (by rw[List.getElem?_eq_none];omega) λg eb=>⟨rfl,Inv.turnedL (t':=s.toks) I hf λb o hb y=>eb b o (λz=>hb (by simp [z])) y⟩
 self:=λ_ _ _ _ _ st h=>by
  obtain⟨ok,ov,st⟩:=st;exact PySem.W.kcp_self st h
section
variable{X:Cx}
theorem PR{prog:Program}{w:World}{A:Around}{E:Value->Shared->Prop}{s:Shared}{d:Addr}{vs:List (Key×Value)}{Q:Value->Shared->Prop}(lo:(d==sysModules)=false)(hm:s.heap.DictOf (kE prog w) d vs)(q:Q (.ref s.heap.objs.size) { s with heap:=s.heap.push { cls:=.type "dict_items",data:=.fields #[.ref d] } }) :
  wpAny (model prog w) A (call (.builtin "dict.items") [.ref d]) Q E s:=
 call_meetsIn PySem.F.slot_dict_items hm.typeIs PySem.F.entry_dict_items (PySem.F.args_dict_items_1 _) (meets_dict_items (kE prog w) d lo) ⟨⟨vs,hm⟩,q⟩
def iItems(te:TE):TI:=fun σ H R=>te σ H λv H1=>∃d o ag,v=.ref d/\H1 d=some (.frz o (.dK ag))/\R (Iti d o ag) H1
theorem xG{es:List Expr}{x1}{tp:Pos}{o:Expr}{to:TE}{apos cpos:Pos}(ho:PE X o to)(hbase:attributeBase o "items" X.env (eval o X.env)=eval o X.env:=by rfl)(hline:(apos.endLine==cpos.line)=true:=by rfl) :
  PI X (.Tuple es x1 tp) (.Call (.Attribute o "items" apos) [] [] cpos) (iItems to):=by
 intro ac s σ H R I h;refine wpAny_Call_method0_late hbase hline (thn (ho ac s σ H _ I h) λv s1 ⟨x,H1,I1,r1,q1⟩=>?_);obtain⟨d,ob,ag,rfl,hd,q⟩:=q1;cases r1;obtain⟨go,ok⟩:=I1.hok d _ hd;obtain⟨z,lo,vs,rel,dd⟩:=(show ObjOk X.prog X.w H1 s1.heap d (.dK ag)from ok);obtain⟨o',es',ep,g',xo,hdat,hk,hp,hn⟩:=id dd;rw[go]at g';cases g';have hlen:vs.length=ag.length:=rel.length.symm;refine⟨"dict","dict.items",PySem.F.plainAttrs_dict,PySem.F.slot_dict_items,PySem.F.type_dict_items,⟨_,go,xo.1⟩,(λa e=>by cases e;exact⟨_,go,xo.2.1⟩),Calls.callWith_builtin rfl (PySem.evalArgs_none ?_)⟩;refine PR lo dd ?_;have at1:(s1.heap.push { cls:=.type "dict_items",data:=.fields #[.ref d] }).DictAt (kE X.prog X.w) d vs ep:=⟨ob,es',gL _ go,xo,hdat,hk,hp,hn⟩;refine wpAny_pyIter_items (s:={ s1 with heap:=s1.heap.push { cls:=.type "dict_items",data:=.fields #[.ref d] } }) ⟨_,gW _ rfl,rfl,rfl⟩ at1 ?_;have psz:(s1.heap.push { cls:=.type "dict_items",data:=.fields #[.ref d] }).objs.size=s1.heap.objs.size+1:=nC ..;refine⟨_,[(s1.heap.push { cls:=.type "dict_items",data:=.fields #[.ref d] }).objs.size],_,_,H1,rfl,I1.kept (t':=s1.toks) λb o e=>gL _ (gL _ e),LH d _ hdat,⟨_,_,by rw[<-hlen];exact gW _ rfl⟩,λb hb=>?_,q⟩;have e:b=(s1.heap.push { cls:=.type "dict_items",data:=.fields #[.ref d] }).objs.size:=by simpa using hb
 have hb':s1.heap.objs.size<=b:=by rw[e,psz];exact Nat.le_succ _
 exact I1.fpOk hb' (I1.hok.fresh hb')
end
theorem zU{d:Addr}{o:Obj}{ag:List (Key×V)}{g:TG}{tb:TS}{D:Ends}{σ:L2.St}{H:Hp}(Pv:Nat->L2.St->Hp->Prop)(h0:Pv 0 σ H)(hl:∀i σ H,i<=ag.length->Pv i σ H->H d=some (.frz o (.dK ag)))
  (hs:∀i k x p σ H,ag[i]? = some (k,x)->H p=none->Pv i σ H->g (.ref p) σ (upd H p (.tup [kV k,x])) fun σ2 H2=>tb { D with nx:=Pv (i+1),ct:=Pv (i+1),bk:=D.nx } σ2 H2) (hd:∀σ H,Pv ag.length σ H->D.nx σ H) :
  ∃W:Nat->Nat->L2.St->Hp->Prop,(∃m,W 0 m σ H)/\∀i m σ H,W i m σ H->
   ((Iti d o ag).stop i H/\D.nx σ H)∨((Iti d o ag).go i H/\∃N:L2.St->Hp->Prop,(∀σ' H',N σ' H'->∃m',m'<m/\W (i+1) m' σ' H')/\∀x H',(Iti d o ag).yld i H x H'->g x σ H' fun σ2 H2=>tb { D with nx:=N,ct:=N,bk:=D.nx } σ2 H2):=by
 refine⟨λi m σ H=>m=ag.length-i/\i<=ag.length/\Pv i σ H,⟨ag.length,by simp,nR _,h0⟩, ?_⟩;rintro i m σ H ⟨rfl,hi,p⟩;have q:=hl i σ H hi p;by_cases hlt:i<ag.length
 ·refine .inr ⟨⟨q,hlt⟩,Pv (i+1),fun σ' H' p'=>⟨ag.length-(i+1),by omega,rfl,hlt,p'⟩,λv H' y=>?_⟩;obtain⟨r,k,x,hr,rfl,hx,rfl⟩:=y;exact hs i k x r σ H hx hr p
 ·have ei:i=ag.length:=by omega
  subst ei;exact .inl ⟨⟨q,rfl⟩,hd σ H p⟩
section
variable{X:Cx}{ac:List (Addr×Obj)}{σ:L2.St}{H:Hp}{s:Shared}
theorem Inv.freezeK{d:Addr}{ag:List (Key×V)}(I:Inv X ac σ H s)(e:H d=some (.dK ag)):∃o,Inv X ac σ (upd H d (.frz o (.dK ag))) s:=by
 have ob:ObjOk X.prog X.w H s.heap d (.dK ag):=I.hok d _ e;obtain⟨z,lo,xs,rel,o,es,ep,ho,r⟩:=id ob;refine⟨o, ?_⟩;have ne:∀{b:Addr} {u:HO},H b=some u->(∀k,u≠.dK k)->upd H d (.frz o (.dK ag)) b=some u:=fun {b u} q n=>by
  rw[jH (λy=>by rw[y,e]at q;cases q;exact n _ rfl)];exact q
 refine I.step (h':=s.heap) (g':=s.gens) (t':=s.toks) (d':=s.drawn) (ch:=[]) (λ_ y=>nomatch y) (λb u _ _ _ q _=>q) (λb u _ _ _ q _=>⟨u.slots,q⟩) (λb u _ _ q=>?_) (λb u _ q=>⟨u,q⟩) (λb xs q=>ne q λ_ y=>by cases y) (λb u v q=>ne q λ_ y=>by cases y)
  (λb ps q=>⟨#[],by rw[ne q λ_ y=>by cases y];simp⟩) (λm hm=>hm) ?_ I.bare
 ·rw[jH (λy=>by rw[y,e]at q;cases q)];exact q
 ·intro b u q;by_cases hb:b=d
  ·subst hb;rw[jD]at q;cases q;exact⟨ho,ob.stay (λc v _ q=>q) (λc q=>ne q λ_ y=>by cases y) λc xs q=>ne q λ_ y=>by cases y⟩
  ·rw[jH hb]at q;exact(I.hok b u q).stay (λc v _ q=>q) (λc q=>ne q λ_ y=>by cases y) λc xs q=>ne q λ_ y=>by cases y
end
section
variable{X:Cx}
def tFrzK(te:TE):TE:=fun σ H Q=>te σ H λv H1=>∃d ag,v=.ref d/\H1 d=some (.dK ag)/\∀o,Q v (upd H1 d (.frz o (.dK ag)))
theorem HD{e:Expr}{te:TE}(h:PE X e te):PE X e (tFrzK te):=by
 intro ac s σ H Q I hq;refine thn (h ac s σ H _ I hq) λu s1 ⟨x,H1,I1,r1,q1⟩=>?_;obtain⟨d,ag,rfl,hd,k⟩:=q1;obtain⟨o,I2⟩:=Inv.freezeK I1 hd;exact⟨.ref d,_,I2,r1,k o⟩
end
open LwD
section
variable{X:Cx}
def kJ(ag:List (Key×V)):List Int:=ag.map λp=>match p.1 with | .inl i=>i | .inr _=>0
def rSortK:List V->Hp->VK->Prop:=λxs H Q=>∃(a:Addr) (ag:List (Key×V)),xs=[.ref a]/\Rd H a (.dK ag)/\ag.length<64/\(∀p∈ag,∃i:Int,p.1=.inl i)/\
 ∀ns:List Int,ns.Perm (kJ ag)->ns.Pairwise (λx y=>x<=y)->New H (.lst (ns.map V.int)) Q
theorem EL{prog:Program}{w:World} :∀{es:List DictEntry} {vs:List (Key×Value)},Pairs (kE prog w) es vs->∀(j:Nat) (h:j<es.length),∃k u,vs[j]? = some (k,u)/\(kE prog w).is k es[j].key=true:=by
 intro es vs h;induction h with
 | nil=>intro j h;exact absurd h (Nat.not_lt_zero _)
 | cons h1 h2 t ih=>
  intro j hj;cases j with
  | zero=>exact⟨_,_,rfl,h1⟩
  | succ j=>exact ih j (by simpa using hj)
theorem BO:∀{xs:List V} {us:List Value},xs.length=us.length->(∀(j:Nat) (x:V) (u:Value),xs[j]? = some x->us[j]? = some u->RelV x u)->Vals xs us
 | [],[],_,_=>.nil
 | [],_::_,h,_=>by simp at h
 | _::_,[],h,_=>by simp at h
 | x::xs,u::us,h,f=>.cons (f 0 x u rfl rfl) (BO (by simpa using h) λj y v hy hv=>f (j+1) y v (by simpa using hy) (by simpa using hv))
theorem MG(hc:X.calm=true):CallR X (.builtin "sorted") rSortK:=by
 intro ac s σ H xs us Q I r h;obtain⟨a,ag,rfl,ha,h64,hk,q⟩:=h;obtain⟨u,rfl,ru⟩:=qM r;cases ru;obtain⟨z,lo,ks,rel,dd⟩:=uE I.hok ha;obtain⟨o,es,ep,hd1,hd2,hd3,he,hp,hn⟩:=id dd;have raw:Raw s.heap a es ep:=⟨o,hd1,hd2,hd3⟩;have esz:es.size=ag.length:=by rw[rel.length,<-hp.length];simp
 obtain⟨m,F⟩:=I.fr;refine PySem.W.kdu_sorted (XN lo) (I.ok.hd hc) F UU raw (by rw[esz];exact z) λD h' tk vs F' N' lt hlen hP=>?_;have vl:vs.length=ag.length:=by rw[hlen,esz]
 have kl:(kJ ag).length=ag.length:=by unfold kJ;rw[mS]
 have vv:Vals ((kJ ag).map V.int) vs:=by
  refine BO (by rw[mS,kl,vl]) λj x u hx hu=>?_;obtain⟨hj,e⟩:=hP j u hu;have hj':j<es.toList.length:=by simpa using hj
  obtain⟨k,u',h1,h2⟩:=EL hp j hj';have jk:j<ag.length:=by rw[<-esz];exact hj
  obtain⟨u2,g1,_⟩:=OF rel (i:=j) (k:=ag[j].1) (x:=ag[j].2) (by rw[gI jk]);rw[h1]at g1;cases g1;obtain⟨i,hi⟩:=hk ag[j] (List.getElem_mem jk);have ex:x=.int i:=by
   unfold kJ at hx;rw[nO,mC,gI jk]at hx;have hx:=Option.some.inj hx;rw[<-hx];show V.int (match ag[j].1 with | .inl i=>i | .inr _=>0)=_;rw[hi]
  rw[hi]at h2;have r2:=GX h2;rw[ex,e];have r2:RelV (V.int i) (es.toList[j]).key:=r2;simpa using r2
 have ia:IntsAre vs (kJ ag):=qP vv;have hd:∀q∈zX X.base s.heap X.env.locals,q.1≠D:=λq hq=>nM (lt q hq);refine PySem.W.ksk_lsort (its:=vs.toArray) (vs:=vs) (ns:=kJ ag) F' N' (λo=>.head hd) (by simp) ia (by rw[kl];exact h64) λvs' ns' c h3 F3 N3 ia' hl hpm hpw _=>?_;have rv:Vals (ns'.map V.int) vs':=by
  have e1:=vH ia';refine BO (by rw[mS,e1]) λj x u hx hu=>?_;obtain⟨hj,e⟩:=gG.mp hu;obtain⟨n,t,g1,g2⟩:=xK ia' hj;rw[mC,g1]at hx;cases hx;exact⟨t,by rw[<-e,g2]⟩
 have nb:=JN (ho:=.lst (ns'.map V.int)) (tk:=tk) I F F3 N3 lt λe=>⟨by rw[mS,hl,kl];exact z,_,c,rv,e⟩;exact⟨.ref D,_,nb.2,rfl,(q ns' hpm hpw).at nb.1⟩
end
end Lw
namespace Lw
open PySem PySem.Spec PyProof.Rows L2
section
variable{X:Cx}
def tFrzB(te:TE):TE:=fun σ H Q=>te σ H λv H1=>∃d ag,v=.ref d/\Rd H1 d (.dK ag)/\∀(o:Obj) (H2:Hp),H2 d=some (.frz o (.dK ag))->But d H1 H2->(∀c,H2 c=none->H1 c=none)->Q v H2
theorem BD{e:Expr}{te:TE}(h:PE X e te):PE X e (tFrzB te):=by
 intro ac s σ H Q I hq;refine thn (h ac s σ H _ I hq) λu s1 ⟨v,H1,I1,r,d,ag,ev,rd,q⟩=>?_;rcases rd with e | ⟨o,e⟩
 ·obtain⟨o,I2⟩:=Inv.freezeK I1 e;refine⟨v,_,I2,r,q o _ jD (λc u h n=>by rw[jH n];exact h) λc n=>?_⟩;by_cases z:c=d
  ·rw[z,jD]at n;cases n
  ·rw[jH z]at n;exact n
 ·exact⟨v,H1,I1,r,q o H1 e (λ_ _ h _=>h) λ_ n=>n⟩
end
def Itw(d:Addr)(o:Obj)(ag:List (Key×V)):It:=
 ⟨λi H=>H d=some (.frz o (.dK ag))/\i<ag.length,
  λi H v H'=>H'=H/\∃k,ag[i]? = some (k,v),
  λi H=>H d=some (.frz o (.dK ag))/\i=ag.length⟩
theorem PD{P:Program}{w:World}{K:tF}{tg:Expr}(d it:Addr){o:Obj}{ens:Array DictEntry}{ep:Nat}{ag:List (Key×V)}(ho:o.data=.dict ens ep):Turn P w K tg (Itw d o ag) [it] it (λi h=>h.IsValIter it d i ag.length ep) where
 mem:=by simp
 obj:=λi h st b hb=>by
  have e:b=it:=by simpa using hb
  subst e;obtain⟨o,e,_,dd⟩:=st;exact⟨_,e,λv q=>by rw[dd]at q;cases q⟩
 keep:=λi h h' st k=>st.at λo e=>k it (by simp) o e
 item:=by
  intro X hP hw hK hc i ac s σ H E I hf st hg;subst hP hw hK;obtain⟨hd,hi⟩:=hg;obtain⟨go,ob⟩:=I.hok d _ hd;obtain⟨z,lo,vs,rel,o',es',ep',g',xo,hdat,hk,hp,hn⟩:=(show ObjOk X.prog X.w H s.heap d (.dK ag)from ob);rw[go]at g';cases g';rw[ho]at hdat;cases hdat;have hlen:vs.length=ag.length:=rel.length.symm;have at':s.heap.DictAt (kE X.prog X.w) d vs ep:=⟨o,ens,go,xo,ho,hk,hp,hn⟩;obtain⟨⟨k,x⟩,hkx⟩:∃kx,ag[i]? = some kx:=⟨ag[i],by simp [hi]⟩;obtain⟨u,hu,ru⟩:=OF rel hkx;rw[<-hlen]at st;refine wpAny_pyNext_values_item st at' hu λh' st' sb=>⟨_,rfl, ?_⟩;obtain⟨o9,e9,c9,d9⟩:=id st';refine EU (s:={ s with heap:=h' }) e9 c9 d9 (by decide) ?_;rw[hlen]at st';exact⟨x,H,Inv.turnedL (t':=s.toks) I hf λb o hb y=>sb.extBut b o (λz=>hb (by simp [z])) y,ru,⟨rfl,k,hkx⟩,st',λb hb=>(hf b hb).1⟩
 done:=by
  intro X hP hw hK hc i ac s σ H E I hf st hg;subst hP hw hK;obtain⟨hd,hi⟩:=hg;obtain⟨go,ob⟩:=I.hok d _ hd;obtain⟨z,lo,vs,rel,o',es',ep',g',xo,hdat,hk,hp,hn⟩:=(show ObjOk X.prog X.w H s.heap d (.dK ag)from ob);rw[go]at g';cases g';rw[ho]at hdat;cases hdat;have hlen:vs.length=ag.length:=rel.length.symm;have at':s.heap.DictAt (kE X.prog X.w) d vs ep:=⟨o,ens,go,xo,ho,hk,hp,hn⟩;rw[<-hlen]at st;exact wpAny_pyNext_values_end (I.ok.hd hc) st at' (by rw[List.getElem?_eq_none];omega) λg eb=>⟨rfl,Inv.turnedL (t':=s.toks) I hf λb o hb y=>eb b o (λz=>hb (by simp [z])) y⟩
 self:=λ_ _ _ _ _ st h=>wpAny_pyIter_valiter st h
section
variable{X:Cx}
theorem PQ{prog:Program}{w:World}{A:Around}{E:Value->Shared->Prop}{s:Shared}{d:Addr}{vs:List (Key×Value)}{Q:Value->Shared->Prop}(lo:(d==sysModules)=false)(hm:s.heap.DictOf (kE prog w) d vs)(q:Q (.ref s.heap.objs.size) { s with heap:=s.heap.push { cls:=.type "dict_values",data:=.fields #[.ref d] } }) :
  wpAny (model prog w) A (call (.builtin "dict.values") [.ref d]) Q E s:=
 call_meetsIn PySem.F.slot_dict_values hm.typeIs PySem.F.entry_dict_values (PySem.F.args_dict_values_1 _) (meets_dict_values (kE prog w) d lo) ⟨⟨vs,hm⟩,q⟩
def iVals(te:TE):TI:=fun σ H R=>te σ H λv H1=>∃d o ag,v=.ref d/\H1 d=some (.frz o (.dK ag))/\R (Itw d o ag) H1
theorem XX{tg:Expr}{o:Expr}{to:TE}{apos cpos:Pos}(ho:PE X o to)(hbase:attributeBase o "values" X.env (eval o X.env)=eval o X.env:=by rfl)(hline:(apos.endLine==cpos.line)=true:=by rfl) :
  PI X tg (.Call (.Attribute o "values" apos) [] [] cpos) (iVals to):=by
 intro ac s σ H R I h;refine wpAny_Call_method0_late hbase hline (thn (ho ac s σ H _ I h) λv s1 ⟨x,H1,I1,r1,q1⟩=>?_);obtain⟨d,ob,ag,rfl,hd,q⟩:=q1;cases r1;obtain⟨go,ok⟩:=I1.hok d _ hd;obtain⟨z,lo,vs,rel,dd⟩:=(show ObjOk X.prog X.w H1 s1.heap d (.dK ag)from ok);obtain⟨o',es',ep,g',xo,hdat,hk,hp,hn⟩:=id dd;rw[go]at g';cases g';have hlen:vs.length=ag.length:=rel.length.symm;refine⟨"dict","dict.values",PySem.F.plainAttrs_dict,PySem.F.slot_dict_values,PySem.F.type_dict_values,⟨_,go,xo.1⟩,(λa e=>by cases e;exact⟨_,go,xo.2.1⟩),Calls.callWith_builtin rfl (PySem.evalArgs_none ?_)⟩;refine PQ lo dd ?_;have at1:(s1.heap.push { cls:=.type "dict_values",data:=.fields #[.ref d] }).DictAt (kE X.prog X.w) d vs ep:=⟨ob,es',gL _ go,xo,hdat,hk,hp,hn⟩;refine wpAny_pyIter_values (s:={ s1 with heap:=s1.heap.push { cls:=.type "dict_values",data:=.fields #[.ref d] } }) ⟨_,gW _ rfl,rfl,rfl⟩ at1 ?_;have psz:(s1.heap.push { cls:=.type "dict_values",data:=.fields #[.ref d] }).objs.size=s1.heap.objs.size+1:=nC ..;refine⟨_,[(s1.heap.push { cls:=.type "dict_values",data:=.fields #[.ref d] }).objs.size],_,_,H1,rfl,I1.kept (t':=s1.toks) λb o e=>gL _ (gL _ e),PD d _ hdat,by rw[<-hlen];exact⟨_,gW _ rfl,rfl,rfl⟩,λb hb=>?_,q⟩;have e:b=(s1.heap.push { cls:=.type "dict_values",data:=.fields #[.ref d] }).objs.size:=by simpa using hb
 have hb':s1.heap.objs.size<=b:=by rw[e,psz];exact Nat.le_succ _
 exact I1.fpOk hb' (I1.hok.fresh hb')
end
theorem VX{d:Addr}{o:Obj}{ag:List (Key×V)}{g:TG}{tb:TS}{D:Ends}{σ:L2.St}{H:Hp}(Pv:Nat->L2.St->Hp->Prop)(h0:Pv 0 σ H)(hl:∀i σ H,i<=ag.length->Pv i σ H->H d=some (.frz o (.dK ag)))
  (hs:∀i k x σ H,ag[i]? = some (k,x)->Pv i σ H->g x σ H fun σ2 H2=>tb { D with nx:=Pv (i+1),ct:=Pv (i+1),bk:=D.nx } σ2 H2) (hd:∀σ H,Pv ag.length σ H->D.nx σ H) :
  ∃W:Nat->Nat->L2.St->Hp->Prop,(∃m,W 0 m σ H)/\∀i m σ H,W i m σ H->
   ((Itw d o ag).stop i H/\D.nx σ H)∨((Itw d o ag).go i H/\∃N:L2.St->Hp->Prop,(∀σ' H',N σ' H'->∃m',m'<m/\W (i+1) m' σ' H')/\∀x H',(Itw d o ag).yld i H x H'->g x σ H' fun σ2 H2=>tb { D with nx:=N,ct:=N,bk:=D.nx } σ2 H2):=by
 refine⟨λi m σ H=>m=ag.length-i/\i<=ag.length/\Pv i σ H,⟨ag.length,by simp,nR _,h0⟩, ?_⟩;rintro i m σ H ⟨rfl,hi,p⟩;have q:=hl i σ H hi p;by_cases hlt:i<ag.length
 ·refine .inr ⟨⟨q,hlt⟩,Pv (i+1),fun σ' H' p'=>⟨ag.length-(i+1),by omega,rfl,hlt,p'⟩,λv H' y=>?_⟩;obtain⟨rfl,k,hx⟩:=y;exact hs i k v σ H' hx p
 ·have ei:i=ag.length:=by omega
  subst ei;exact .inl ⟨⟨q,rfl⟩,hd σ H p⟩
def SE(td ty tx:TE):TE:=fun σ H Q=>td σ H λx H1=>∃a,x=.ref a/\IsD H1 a/\ty σ H1 λy H2=>tx σ H2 λz H3=>∃ag k,H3 a=some (.dK ag)/\y=kV k/\ag.length<sizeLine/\(∀v,kS ag k=some v->Q v H3)/\(kS ag k=none->Q z (upd H3 a (.dK (qE ag k z))))
section
variable{X:Cx}{o e f:Expr}{td ty tx:TE}{apos cpos:Pos}
theorem WH{ac:List (Addr×Obj)}{σ:L2.St}{H:Hp}{s:Shared}{a:Addr}{ag:List (Key×V)}{k:Key}{z:V}{u r:Value}{A:Around}{E:Value->Shared->Prop}{Q:Value->Shared->Prop}(I:Inv X ac σ H s)(ea:H a=some (.dK ag))(l:ag.length<sizeLine)(ry:RelV (kV k) u)(rz:RelV z r)
  (h1:∀v w' s',kS ag k=some v->Inv X ac σ H s'->RelV v w'->Q w' s') (h2:kS ag k=none->∀s',Inv X ac σ (upd H a (.dK (qE ag k z))) s'->Q r s'):wpAny (model X.prog X.w) A (call (.builtin "dict.setdefault") [.ref a,u,r]) Q E s:=by
 obtain⟨zl,hd,vs,rel,dd⟩:=OM I.hok ea;have hz:vs.length<=sizeLine:=by rw[<-rel.length];exact zl
 have hl:(qE ag k z).length<=sizeLine:=by have:=vC ag k z;omega
 have rv:=rel.val k;refine call_meetsIn PySem.F.slot_dict_setdefault dd.typeIs PySem.F.entry_dict_setdefault (PySem.F.args_dict_setdefault_3 _ _ _) (kt_meets_setdefault (kE X.prog X.w) a (AF ry) hd r) ⟨vs,dd,hz,λv hv=>?_,λhn h' dd' hs=>?_⟩
 ·cases q:kS ag k with
  | none=>rw[q,hv]at rv;exact absurd rv (λz=>by cases z)
  | some v'=>
   rw[q,hv]at rv;exact h1 v' v _ q (I.tok _) rv
 ·cases q:kS ag k with
  | some v'=>rw[q,hn]at rv;exact absurd rv (λz=>by cases z)
  | none=>
   have he:∃q,h'.get? a=some q:=let ⟨q,_,_,hq,_⟩:=dd';⟨q,hq⟩;exact h2 q _ (uG I (by rw[ea];exact True.intro) hs he (CV hl hd (rel.put k rz) dd'))
theorem JB(ho:PE X o td)(he:PE X e ty)(hf:PE X f tx)(m:M2 X o "setdefault" apos e f cpos):PE X (.Call (.Attribute o "setdefault" apos) [e,f] [] cpos) (SE td ty tx):=by
 intro ac s σ H Q I h;refine wpAny_Call_method m.base m.few m.line PySem.F.plainAttrs_dict PySem.F.slot_dict_setdefault PySem.F.type_dict_setdefault (thn (ho ac s σ H _ I h) λu s1 ⟨x,H1,I1,rx,a,ex,d,q1⟩=>?_);subst ex;obtain rfl:u=Value.ref a:=rx;obtain⟨t1,t2,_⟩:=VI I1 d;refine⟨t1,t2, ?_⟩;rw[m.trees];refine Calls.callWith_builtin rfl (Calls.evalArgs_plain (Calls.spliced_cons (thn (he ac s1 σ H1 _ I1 q1) λiv s2 ⟨y,H2,I2,ry,q2⟩=>
  Calls.spliced_cons (thn (hf ac s2 σ H2 _ I2 q2) λfv s3 ⟨z,H3,I3,rz,ag,k,ea,ey,lz,q3,q4⟩=>Calls.spliced_nil ?_))))
 subst ey;exact WH I3 ea lz ry rz (λv w' s4 l I4 rw'=>⟨v,_,I4,rw',q3 v l⟩) λn s4 I4=>⟨z,_,I4,rz,q4 n⟩
end
open LwD
section
variable{X:Cx}
def rMaxK(d:Int):List V->Hp->VK->Prop:=λxs H Q=>∃(a:Addr) (ag:List (Key×V)),xs=[.ref a]/\Rd H a (.dK ag)/\(∀p∈ag,∃i:Int,p.1=.inl i)/\(ag=[]->Q (.int d) H)/\∀m,m∈kJ ag->(∀x∈kJ ag,x<=m)->Q (.int m) H
theorem RE{ac:List (Addr×Obj)}{σ:L2.St}{H:Hp}{s:Shared}{a:Addr}{ag:List (Key×V)}{d:Int}{t:Tok}{Q:VK}(hc:X.calm=true)(I:Inv X ac σ H s)(ha:Rd H a (.dK ag))(hk:∀p∈ag,∃i:Int,p.1=.inl i)
  (q0:ag=[]->Q (.int d) H) (q1:∀m,m∈kJ ag->(∀x∈kJ ag,x<=m)->Q (.int m) H):wpAny (model X.prog X.w) X.A (call (.builtin "max") [.ref a] [(Str.ofString "default",.int d t)]) (EP X ac σ Q) X.xe s:=by
 obtain⟨z,lo,ks,rel,dd⟩:=uE I.hok ha;obtain⟨o,es,ep,hd1,hd2,hd3,he,hp,hn⟩:=id dd;have raw:Raw s.heap a es ep:=⟨o,hd1,hd2,hd3⟩;have esz:es.size=ag.length:=by rw[rel.length,<-hp.length];simp
 have al:a<s.heap.objs.size:=raw.lt;have kl:(kJ ag).length=ag.length:=by unfold kJ;rw[mS]
 generalize hns:kJ ag=ns at q1 kl;have key:∀(j:Nat) (h:j<es.size),∃t,es[j].key=.int (ns.getD j 0) t:=λj h=>by
  have hj':j<es.toList.length:=by simpa using h
  obtain⟨k,u',h1,h2⟩:=EL hp j hj';have jk:j<ag.length:=by rw[<-esz];exact h
  obtain⟨u2,g1,_⟩:=OF rel (i:=j) (k:=ag[j].1) (x:=ag[j].2) (by rw[gI jk]);rw[h1]at g1;cases g1;obtain⟨i,hi⟩:=hk ag[j] (List.getElem_mem jk);rw[hi]at h2;have r2:RelV (V.int i) (es.toList[j]).key:=GX h2;have en:ns.getD j 0=i:=by
   rw[<-hns];unfold kJ;rw[gE,mC,gI jk];show(match ag[j].1 with | .inl i=>i | .inr _=>0)=i;rw[hi]
  rw[en];obtain⟨t,ht⟩:=r2;exact⟨t,by simpa using ht⟩
 refine LwMx.mx_call (IU lo raw ?_);refine⟨s.heap.objs.size,_,_,_,_,_,λi j=>decide (ns.getD i 0>ns.getD j 0),rfl,EI (show X.A.in1.handled=none from I.ok.hd hc) (nM al),⟨⟨_,gW _ rfl,rfl,rfl⟩,raw.keep λo e=>gL _ e⟩, ?_, ?_, ?_, ?_⟩
 ·intro b hb;show b<(s.heap.push _).objs.size;rw[nC];simp only[nF,mM,or_false]at hb;rcases hb with rfl | rfl
  ·exact mR _
  ·exact Nat.lt_succ_of_lt al
 ·refine CmpOf.ints_gt (λi=>ns.getD i 0) λi v hv=>?_;obtain⟨hi,e⟩:=hv;obtain⟨t,ht⟩:=key i hi;exact⟨t,by rw[e,ht]⟩
 ·intro zz h' tk k;have z':ag=[]:=List.length_eq_zero_iff.mp (by omega);refine⟨.int d,H,I.kept (t':=tk) (λb o e=>k b o ?_ (gL _ e)),⟨t,rfl⟩,q0 z'⟩;simp;exact nM (nK e)
 ·intro zz v h' tk hv k;obtain⟨b1,b2⟩:=LwMx.best_is ns (es.size-1) (by omega);generalize argBest (λi j=>decide (ns.getD i 0>ns.getD j 0)) (es.size-1)=i at hv b1 b2;obtain⟨hi,e⟩:=hv;obtain⟨t,ht⟩:=key i hi;have il:i<ns.length:=by omega
  have gi:ns[i]? = some (ns.getD i 0):=by rw[gE,gI il];rfl
  refine⟨.int (ns.getD i 0),H,I.kept (t':=tk) (λb o e=>k b o ?_ (gL _ e)),⟨t,by rw[e,ht]⟩,q1 _ (gQ gi) λx hx=>?_⟩
  ·simp;exact nM (nK e)
  ·obtain⟨j,hj⟩:=gP.mp hx;have hjl:=(gG.mp hj).1;have:=b2 j (by omega);rw[gE (l:=ns) (i:=j),hj]at this;exact this
variable{p pos kpos:Pos}{e e2:Expr}{es:List Expr}{t tk:TA}
def tMaxK(t tk:TA):TE:=fun σ H Q=>t σ H λvs H1=>tk σ H1 λzs H2=>∃d,zs=[.int d]/\rMaxK d vs H2 Q
theorem XY(hc:X.calm=true)(hg:Gl X "max")(hm:X.mg "max" = none)(ha:PA X [e] t)(hk:PK X [⟨some "default",e2,kpos⟩] tk)
  (hall:(backToKw pos (keywordEach [⟨some "default",e2,kpos⟩] X.env)).all (·.1.isSome)=true:=by rfl) (hks:(backToKw pos (keywordEach [⟨some "default",e2,kpos⟩] X.env)).filterMap (·.1)=[Str.ofString "default"]:=by rfl)
  (he:starEach [e] X.env=[(false,eval e X.env)]:=by rfl)
  (hpl:((backTo pos (starEach [e] X.env)).any (·.1)||(backToKw pos (keywordEach [⟨some "default",e2,kpos⟩] X.env)).any (·.1.isNone))=false:=by rfl) :
  PE X (.Call (.Name "max" p) [e] [⟨some "default",e2,kpos⟩] pos) (tMaxK t tk):=by
 intro ac s σ H Q I h;refine wpAny_Call_Name_kw (xV I hg hm (show bootBuiltins "max" = some (.builtin "max") by decide +kernel) ?_ (by decide) (by decide));refine PySem.W.callWith_of (P:=λ_=>True) hpl (λ_ _=>⟨_,.inr (.inl rfl),PySem.W.Looks.of_pure rfl⟩) (evalArgs_kw2 hall (thn (ha pos ac s σ H _ I h) λus s1 ⟨vs,H1,I1,r,q⟩=>?_) he);refine thn (hk pos ac s1 σ H1 _ I1 q) λws s2 ⟨zs,H2,I2,rz,q2⟩=>⟨trivial, ?_⟩;rw[hks];obtain⟨d,rfl,a,ag,rfl,ra,hk',q0,q1⟩:=q2;obtain⟨u,rfl,ru⟩:=qM r;cases ru;obtain⟨u,rfl,⟨t,rfl⟩⟩:=qM rz;exact RE hc I2 ra hk' q0 q1
end
end Lw
namespace L2
open PySem PySem.Spec PyProof.Rows
section
variable{prog:Program}{w:World}{A:Around}{E:Value->Shared->Prop}{s:Shared}
theorem PU{r:Addr}{n:Int}{t u v:Tok}{Q:Value->Shared->Prop}(hr:IsRange s.heap r 0 n 1 t u v)(h0:0<=n)(h1:n<2^62)
  (h:Q (.ref s.heap.objs.size) { s with heap:=s.heap.push { cls:=.type "range_iterator",data:=.fields #[rawInt (n-1),rawInt n,rawInt (-1)] } }) :
  wpAny (model prog w) A (call (.builtin "range.__reversed__") [.ref r]) Q E s:=by
 have hT:s.TypeIs (.ref r) "range":=⟨_,hr,rfl⟩;refine wpAny_call_entry F.slot_range_reversed hT F.entry_range_reversed ?_ (F.args_range_reversed_1 _);unfold Builtin.«range.__reversed__»;refine nW (wpAny_of_eq (a:=Value.ref r) rfl ?_);have rf:∀{Q':Int×Int×Int->Shared->Prop} {E':Value->Shared->Prop},Q' (0,n,1) s->wpAny (model prog w) A.in1 (Builtin.Range.rangeFields (.ref r)) Q' E' s:=fun {Q' E'} hq=>by
  unfold Builtin.Range.rangeFields;refine nW (wpAny_field hr rfl (x:=.int 0 t) rfl (nW (nX ?_)));refine nW (wpAny_field hr rfl (x:=.int n u) rfl (nW (nX ?_)));refine nW (wpAny_field hr rfl (x:=.int 1 v) rfl (nW (nX ?_)));exact nX hq
 refine nW (rf ?_);have sz:Builtin.Range.rangeSize 0 n 1=n:=by rw[rangeSize_one];split<;>omega
 have sm:(Builtin.Range.rangeFitsLong 0&&Builtin.Range.rangeFitsLong n&&Builtin.Range.rangeFitsLong 1&&Builtin.Range.rangeFitsLong (-1)&&Builtin.Range.rangeFitsLong (0-1)&&Builtin.Range.rangeFitsLong n)=true:=by
  simp only[Builtin.Range.rangeFitsLong,mP,decide_eq_true_eq];omega
 dsimp only;rw[sz,sm];rw[nZ (by decide)];have e:0+(n-1)*1=n-1:=by omega
 rw[e];exact nW (wpAny_newObj_type (nX ⟨_,rfl,h⟩))
theorem WM{r:Addr}{n:Int}{t u v:Tok}{Q₁:Value->Shared->Prop}(hr:IsRange s.heap r 0 n 1 t u v)(h0:0<=n)(h1:n<2^62)
  (h:Q₁ (.ref s.heap.objs.size) { s with heap:=s.heap.push { cls:=.type "range_iterator",data:=.fields #[rawInt (n-1),rawInt n,rawInt (-1)] } }) :
  codeAny (model prog w) A (.call (.builtin "reversed.__new__") ⟨[.type "reversed",.ref r],[]⟩) (wants Q₁ E) s:=by
 have hT:s.TypeIs (.ref r) "range":=⟨_,hr,rfl⟩;refine codeAny_of_tree ?_;show wpAny _ A.in1 (do checkBuiltinCall "reversed.__new__" ⟨[.type "reversed",.ref r],[]⟩;again (.builtin "reversed.__new__" ⟨[.type "reversed",.ref r],[]⟩)) _ _ s;refine nW (wpAny_of_eq (F.newCall_reversed_1 _) (nX ⟨plainId_quiet F.plain_reversed_new _,codeAny_builtin F.entry_reversed_new ?_⟩));rw[Around.under_plainId F.plain_reversed_new _];unfold Builtin.«reversed.__new__»;refine nW (wpAny_of_eq (newClass_reversed _) ?_);try dsimp only
 refine nW (wpAny_of_eq (a:=()) (by first | rfl | kernel_rfl) ?_);refine nW (wpAny_of_eq (a:=()) (by first | rfl | kernel_rfl) ?_);try dsimp only
 refine nW (wpAny_specialOf hT F.slot_range_reversed.lookup ?_);try dsimp only
 refine nW (wpAny_of_eq (F.slot_range_reversed.bind _) ?_);try dsimp only
 first
 | rw[nZ (show ¬((Value.builtin "range.__reversed__"==Value.none)=true)from gZ)]
 | (show wpAny _ _ (if (Value.builtin "range.__reversed__"==Value.none)=true then _ else _) _ _ _;rw[nZ (show ¬((Value.builtin "range.__reversed__"==Value.none)=true)from gZ)])
 refine nW (wpAny_rule ?_);refine nW (m:=runValue (.call (.builtin "range.__reversed__") ⟨[.ref r],[]⟩)) (show wpAny _ _ (call (.builtin "range.__reversed__") [.ref r]) _ _ _ from PU hr h0 h1 ?_);first
 | exact nX h
 | exact nW (nX (nX h))
theorem AL:isSubtype (.type "range_iterator") (.type "reversed")=pure false:=by rw[isSubtype_type];kernel_rfl
theorem WN{r:Addr}{n:Int}{t u v:Tok}{Q:Value->Shared->Prop}(hr:IsRange s.heap r 0 n 1 t u v)(h0:0<=n)(h1:n<2^62)
  (h:Q (.ref s.heap.objs.size) { s with heap:=s.heap.push { cls:=.type "range_iterator",data:=.fields #[rawInt (n-1),rawInt n,rawInt (-1)] } }) :
  wpAny (model prog w) A (call (.type "reversed") [.ref r]) Q E s:=by
 refine callType_other (U:="range_iterator") (Q₁:=λobj s₁=>obj=.ref s.heap.objs.size/\s₁ = { s with heap:=s.heap.push { cls:=.type "range_iterator",data:=.fields #[rawInt (n-1),rawInt n,rawInt (-1)] } }) (by decide +kernel) F.create_reversed ⟨_,_,F.mro_reversed⟩ F.made_reversed AL (F.typeCall_reversed_1 _) (WM hr h0 h1 ⟨rfl,rfl⟩) ?_;rintro obj s₁ ⟨rfl,rfl⟩;exact⟨⟨_,gW _ rfl,rfl⟩,h⟩
end
def Itd(n:Nat):It:=⟨λi _=>i<n,λi H x H'=>H'=H/\x=.int ((n:Int)-1-i),λi _=>n<=i⟩
theorem PH{P:Program}{w:World}{K:tF}{tg:Expr}(it:Addr)(n:Nat):Turn P w K tg (Itd n) [it] it (λi h=>IsRangeIter h it (((n:Int)-1)+(i:Nat)*(-1)) ((n:Int)-(i:Nat)) (-1)) where
 mem:=by simp
 obj:=λi h st b hb=>by
  have e:b=it:=by simpa using hb
  subst e;exact⟨_,st,λv z=>by
   have z':Data.fields _=Data.cell v:=z;cases z'⟩
 keep:=λi h h' st k=>k it (by simp) _ st
 item:=by
  intro X hP hw hK hc i ac s σ H E I hf st hg;subst hP hw hK;obtain⟨f0,f1,f2,f3,f4,f5⟩:=hf it (by simp);have W:=Walks.range (prog:=X.prog) (w:=X.w) (I.ok.hd hc) it ((n:Int)-1) (-1) n;refine W.item i s _ _ hg st λv h' tk hv st' kk=>?_;obtain⟨t,rfl⟩:=hv;have I1:Inv X ac σ H { s with heap:=h',toks:=tk } :=I.turned (λb o hb e=>kk b o (by simpa using hb) e) f0 f1 f3 f4 f5;refine⟨_,rfl,EU (s:={ s with heap:=h',toks:=tk }) (n:="range_iterator") st' rfl rfl (by decide) ⟨.int ((n:Int)-1-i),H,I1,⟨t, ?_⟩,⟨rfl,rfl⟩,st',λb hb=>(hf b hb).1⟩⟩;rw[show(n:Int)-1+(i:Int)*(-1)=(n:Int)-1-i by omega]
 done:=by
  intro X hP hw hK hc i ac s σ H E I hf st hg;subst hP hw hK;obtain⟨f0,f1,f2,f3,f4,f5⟩:=hf it (by simp);exact wpAny_pyNext_range_end (I.ok.hd hc) st (by have:n<=i:=hg;omega) λh' eb=>⟨rfl,I.turned (t':=s.toks) (λb o hb e=>eb b o hb e) f0 f1 f3 f4 f5⟩
 self:=λ_ _ _ _ _ st h=>wpAny_pyIter_rangeiter st h
section
variable{X:Cx}{tg:Expr}
def rRange:List V->Hp->VK->Prop:=λxs H Q=>∃n:Int,xs=[.int n]/\∀p,H p=none->Q (.ref p) (upd H p (.rng 0 n))
theorem MH:CallR X (.type "range") rRange:=by
 intro ac s σ H xs us Q I r h;obtain⟨n,rfl,q⟩:=h;obtain⟨u,rfl,t,rfl⟩:=qM r;refine call_range_1 ⟨.ref s.heap.objs.size,_,I.laid (a:=s.heap.objs.size) (o:=.rng 0 n) (λb u e=>gL _ e) gA ⟨_,_,_,gW _ rfl⟩,rfl,q _ (I.hok.fresh gA)⟩
def iRev(ta:TA):TI:=fun σ H R=>ta σ H λvs H1=>∃(r:Addr) (n:Nat),vs=[.ref r]/\H1 r=some (.rng 0 n)/\n<2^62/\R (Itd n) H1
theorem pi_rev{a:Expr}{ta:TA}{p pos:Pos}(hg:Gl X "reversed")(hm:X.mg "reversed" = none)(ha:PA X [a] ta)(hs:starEach [a] X.env=[(false,eval a X.env)]:=by rfl):PI X tg (.Call (.Name "reversed" p) [a] [] pos) (iRev ta):=by
 intro ac s σ H R I h;refine Call_ (xV I hg hm (show bootBuiltins "reversed" = some (.type "reversed") by decide +kernel) (PyProof.Rows.callWith_type1 (thn (ha pos ac s σ H _ I h) λus s1 ⟨vs,H1,I1,r1,q1⟩=>?_) hs rfl));obtain⟨r,n,e,hr,hn,q⟩:=q1;subst e;obtain⟨u,rfl,ru⟩:=qM r1;cases ru;obtain⟨t,u,v,ho⟩:=(show ObjOk X.prog X.w H1 s1.heap r (.rng 0 n)from I1.hok r _ hr);refine WN ho (by omega) (by omega) (wpAny_pyIter_rangeiter (gW _ rfl) ?_);refine⟨s1.heap.objs.size,[s1.heap.objs.size],_,_,H1,rfl,I1.kept (t':=s1.toks) λb o e=>gL _ e,PH _ n, ?_,λb hb=>?_,q⟩
 ·show IsRangeIter _ _ _ _ _;rw[show(n:Int)-1+((0:Nat):Int)*(-1)=n-1 by omega,show(n:Int)-((0:Nat):Int)=n by omega];exact gW _ rfl
 ·have e:b=s1.heap.objs.size:=by simpa using hb
  subst e;exact I1.fpOk gA (I1.hok.fresh gA)
end
open Lw
section
variable{X:Cx}{pos:Pos}
theorem zY:∀{xs:List V} {us:List Value},Vals xs us->Vals xs.reverse us.reverse
 | _,_,.nil=>.nil
 | _,_,.cons h t=>by rw[List.reverse_cons,List.reverse_cons];exact(zY t).append (.cons h .nil)
def tBackL(K:tF)(te:TE)(ts:TO):TE:=fun σ H Q=>te σ H λx H1=>ts σ H1 λo H2=>o=some (-1)/\∃a xs,x=.ref a/\SqL K H2 a xs/\New H2 (.lst xs.reverse) Q
theorem JD{e st:Expr}{te:TE}{ts:TO}{p2:Pos}(he:PE X e te)(hs:PO X (some st) ts):PE X (.Subscript e (.Slice none none (some st) p2) pos) (tBackL X.K te ts):=by
 intro ac s σ H Q I h;refine Subscript_ (thn (he ac s σ H _ I h) λv s1 ⟨x,H1,I1,r1,q1⟩=>?_);refine wpAny_Slice ?_;rw[evalPart_none];refine nX (nX (thn (hs ac s1 σ H1 _ I1 q1) λvs s2 ⟨o,H2,I2,po,eo,a,xs,ex,hx,q⟩=>?_));subst eo ex;cases r1;cases po with
 | int i u=>
 have I3:Inv X ac σ H2 { s2 with heap:=s2.heap.push { cls:=.type "slice",data:=.fields #[.none,.none,.int (-1) u] } } :=I2.kept (t':=s2.toks) λb ob q=>gL _ q;obtain⟨its,r,ht,hz⟩:=I3.list hx;have hl:its.toArray.size=xs.length:=by rw[mD];exact r.length.symm
 show wpAny (model X.prog X.w) X.A (subscriptTail e (.Slice none none (some st) p2) (.ref a) (.ref s2.heap.objs.size)) (EP X ac σ Q) X.xe { s2 with heap:=s2.heap.push { cls:=.type "slice",data:=.fields #[.none,.none,.int (-1) u] } };refine tail_any (ops:=[.ref a,.ref s2.heap.objs.size]) ht.isList.typeIs slot_list_getitem.lookup ?_ (by with_unfolding_all rfl);refine wpAny_getItem_list_slice ht.isList (Heap.IsSliceOf.new ..) .none .none (.int (-1) u) (by decide) ?_ (by rw[hl];exact hz);rw[PySem.W.krv_pick];have n:=I3.hok.fresh (nQ (s2.heap.push { cls:=.type "slice",data:=.fields #[.none,.none,.int (-1) u] }).objs.size);refine⟨.ref _,_,I3.laid (t':=s2.toks) (o:=.lst xs.reverse) (λb ob q=>gL _ q) gA ?_,rfl,q _ _ n (Lw.jN _ n) jD⟩;exact⟨by rw[List.length_reverse];exact hz,_,0,zY r,gW _ rfl⟩
end
section
variable{prog:Program}{w:World}{A:Around}{E:Value->Shared->Prop}{s:Shared}
end
section
variable{X:Cx}{pos:Pos}
end
structure ZL(z TI TO i1 i2 l1 l2:Addr)(k:Nat)(h:Heap):Prop where
 zz:IsZip h z TI TO .none
 ti:IsPair h TI (.ref i1) (.ref i2)
 to:∃a b,IsPair h TO a b
 one:h.IsListIter i1 l1 k
 two:h.IsListIter i2 l2 k
section
variable{X:Cx}
end
end L2
namespace L2
open PySem PySem.Spec PyProof.Rows
section
variable{prog:Program}{w:World}{A:Around}{E:Value->Shared->Prop}{s:Shared}
end
section
variable{X:Cx}{tg:Expr}
end
end L2
namespace Lw
open PySem PySem.Spec PyProof.Rows L2
section
variable{X:Cx}
end
section
variable{prog:Program}{w:World}{A:Around}{E:Value->Shared->Prop}{s:Shared}
end
section
variable{X:Cx}
end
section
variable{prog:Program}{w:World}{A:Around}{R:Result->Shared->Prop}{s:Shared}
theorem wA{kx vx target iter:Expr}{scope:Scope}{pos:Pos}{it:Value}{D:Addr}{env:Env}(I:Nat->Shared->Prop)
  (turn:∀n s,I n s->wpAny (model prog w) A (pyNext it) (λr s₁=>match r with
   | none=>R (.ok .next) s₁
   | some v=>wpAny (model prog w) A (letOwnedTupleGo target it v) (λ_ s₁'=>wpAny (model prog w) A (assign target env v) (λ_ s₂=>wpAny (model prog w) A (eval kx env) (λx s₃=>wpAny (model prog w) A (eval vx env) (λy s₃'=>
     wpAny (model prog w) A (dictSet D x y) (λ_ s₄=>∃m,m<n/\I m s₄) (notedBy (model prog w) A env λe s'=>R (.error e) s') s₃') (notedBy (model prog w) A env λe s'=>R (.error e) s') s₃)
     (notedBy (model prog w) A env λe s'=>R (.error e) s') s₂) (notedBy (model prog w) A env λe s'=>R (.error e) s') s₁') (notedBy (model prog w) A env λe s'=>R (.error e) s') s₁) (notedBy (model prog w) A env λe s'=>R (.error e) s') s)
  (n:Nat) (h:I n s) :
  codeAny (model prog w) A (.compLoop (.DictComp kx vx [⟨target,iter,[],0⟩] scope pos) 0 it (.ref D) env) R s:=by
 refine codeAny_loop rfl I (λn s hI=>?_) n h;show wpAny _ _ ((compTurn (.DictComp kx vx [⟨target,iter,[],0⟩] scope pos) 0 it (.ref D) env).onRaise (λx=>do noteFrame x env;theTreesLotGoes x)) _ _ s;refine wpAny_noted ?_;rw[compTurn_dict];refine nW (wpAny_standAt (nW (nY (turn n s hI) (λr s₁ h₁=>?_) λ_ _ h'=>h')));cases r with
 | none=>exact nX h₁
 | some v=>
  refine nW (nY h₁ (λ_ s₁' h₁'=>?_) λ_ _ h'=>h');refine nW (nY h₁' (λ_ s₂ h₂=>?_) λ_ _ h'=>h');refine nW ?_;rw[List.forIn_nil];refine nX ?_;dsimp only;rw[tD rfl];refine nW (nW (nY h₂ (λx s₃ h₃=>nW (wpAny_holding (nY h₃ (λy s₃' h₃'=>nW (wpAny_standAt (wpAny_holding (nY h₃' (λ_ s₄ h₄=>nX ⟨rfl,h₄⟩) λ_ _ h'=>h')))) λ_ _ h'=>h'))) λ_ _ h'=>h'))
end
section
variable{X:Cx}
end
def DCompGoK(σ0:L2.St)(J:It)(g:TG)(tk tv:TE)(Q:VK)(p:Addr)(H':Hp):Prop:=
 ∃W:Nat->Nat->List (Key×V)->Hp->Prop,(∃m,W 0 m [] H')/\∀i m ys H2,W i m ys H2->H2 p=some (.dK ys)/\ys.length<sizeLine/\
  ((J.stop i H2/\Q (.ref p) H2)∨(J.go i H2/\∀x H3,J.yld i H2 x H3->g x σ0 H3 fun σ4 H4=>Keep σ0 σ4/\tk σ4 H4 λy H5=>tv σ4 H5 λv H6=>∃(k:Key),y=kV k/\H6 p=some (.dK ys)/\∃m',m'<m/\W (i+1) m' (qE ys k v) (upd H6 p (.dK (qE ys k v)))))
def MQ(own:Nat)(idx:List Nat)(wi:TI)(g:TG)(tk tv:TE):TE:=fun σ H Q=>wi σ H λJ H1=>∀p H',H1 p=none->Same H1 H'->H' p=some (.dK [])->
 DCompGoK (List.replicate own none++idx.map λj=>(σ[j]?).getD none) J g tk tv Q p H'
section
variable{X:Cx}
theorem WI{ac:List (Addr×Obj)}{σ:L2.St}{H:Hp}{s:Shared}{a:Addr}{v:V}{u r:Value}{A:Around}{E:Value->Shared->Prop}{ag:List (Key×V)}{k:Key}{Q:Unit->Shared->Prop}(I:Inv X ac σ H s)(e:H a=some (.dK ag))(l:ag.length<sizeLine)(ry:RelV (kV k) u)(rv:RelV v r)
  (h:∀s',Inv X ac σ (upd H a (.dK (qE ag k v))) s'->Q () s'):wpAny (model X.prog X.w) A (dictSet a u r) Q E s:=by
 obtain⟨z,hd,vs,rel,dd⟩:=OM I.hok e;have hz:vs.length<=sizeLine:=by rw[<-rel.length];exact z
 have hl:(qE ag k v).length<=sizeLine:=by have:=vC ag k v;omega
 refine wpAny_dictSet_pairs (hsz:=hz) (AF ry) dd λh' dd' hs=>h _ ?_;have he:∃q,h'.get? a=some q:=let ⟨q,_,_,hq,_⟩:=dd';⟨q,hq⟩;exact uG I (by rw[e];exact True.intro) hs he (CV hl hd (rel.put k rv) dd')
theorem uQ{own:Nat}{idx:List Nat}{N:List Str}{kx vx target iter:Expr}{scope:Scope}{cl:List (Str×Addr)}{pos:Pos}{wi:TI}{g:TG}{tk tv:TE}(hc:X.calm=true)
  (hk:scope.kind=.function) (hclos:closureFor scope X.env=pure cl) (hcell:∀x∈scope.names,x.2≠.cell) (hnames:∀x∈scope.names,x.2=.local->scope.names.lookup x.1=some .local)
  (hsub:∀x c,cl.lookup x=some c->X.env.cells.lookup x=some c) (hhas:∀x,((relabel scope X.env).names.lookup x=some .cell∨(relabel scope X.env).names.lookup x=some .free)->∃c,cl.lookup x=some c)
  (hlen:N.length=own+idx.length)
  (hidx:∀(k j:Nat) (x:Str),idx[k]? = some j->N[own+k]? = some x->X.N[j]? = some x/\X.env.kindOf x=some .cell/\(relabel scope X.env).names.lookup x=some .cell/\X.env.scope.names.lookup x=some .cell)
  (hi:PI X target iter wi) (hg:∀C fp s2 H2,PG (jK X N scope cl C fp s2 H2) target g) (hkx:∀C fp s2 H2,PE (jK X N scope cl C fp s2 H2) kx tk) (hvx:∀C fp s2 H2,PE (jK X N scope cl C fp s2 H2) vx tv)
  (hs:∀x,foldedSetIterable iter X.env x=pure x:=by intro _;rfl):PE X (.DictComp kx vx [⟨target,iter,[],0⟩] scope pos) (MQ own idx wi g tk tv):=by
 intro ac s σ H Q I h;rw[arm_eval_DictComp];refine wpAny_comprehension_free (use:=none) rfl hs hclos hk hnames (thn (hi ac s σ H _ I h) λv s1 h1=>thn h1 λitv s2 h2=>?_);obtain⟨it,fp,tn,J,H1,e,I2,T,st2,f2,hR⟩:=h2;subst e;have hlt:∀b∈fp,b<s2.heap.objs.size:=λb hb=>by
  obtain⟨o,ho,_⟩:=T.obj 0 _ st2 b hb;exact nK ho
 refine wpAny_newObj_type (wpAny_newFunctionEnv hcell (by intro y hy;simp at hy) (λh₁ hns₁ hsb₁=>?_) hk);dsimp only at hns₁ hsb₁ ⊢;generalize hHH:s2.heap.push { cls:=.type "dict",dict:=none,data:=.dict #[] 0 } = HH at hns₁ hsb₁ ⊢;have hCe:HH.objs.size=s2.heap.objs.size+1:=by rw[<-hHH,nC]
 have hDC:s2.heap.objs.size≠HH.objs.size:=by rw[hCe];exact nM (mR _)
 have hCle:s2.heap.objs.size<=HH.objs.size:=by rw[hCe];exact Nat.le_succ _
 have old:∀b o,s2.heap.get? b=some o->h₁.get? b=some o:=λb o e=>hsb₁.extBut b o (by rw[hCe];exact nM (Nat.lt_succ_of_lt (nK e))) (gL _ (hHH▸gL _ e));have hD:h₁.get? s2.heap.objs.size=some { cls:=.type "dict",dict:=none,data:=.dict #[] 0 } :=hsb₁.extBut _ _ hDC (gL _ (hHH▸gW _ rfl));have nD:H1 s2.heap.objs.size=none:=I2.hok.fresh gA ;obtain⟨W,⟨m0,w0⟩,turn⟩:=hR s2.heap.objs.size _ nD (jN (.dK []) nD) jD;generalize hσ:(List.replicate own none++idx.map λj=>(σ[j]?).getD none:L2.St)=σ0 at turn;have lσ:σ0.length=N.length:=by rw[<-hσ,gY,gO,mS,hlen]
 have ok:=vM (N:=N) (cl:=cl) (C:=HH.objs.size) I2 hk hsub hhas hCle f2 hlt;have oldC:∀c v,s2.heap.IsCell c v->h₁.IsCell c v:=λc v ⟨o,ho,hd⟩=>⟨o,old c o ho,hd⟩;have I4:Inv (jK X N scope cl HH.objs.size fp s2 H1) [] σ0 (upd H1 s2.heap.objs.size (.dK [])) { s2 with heap:=h₁,toks:=s2.toks+([]:List (Str×Value)).length } :=by
  refine⟨ok,rfl,I2.bare,Un.laid old gA nD,⟨_,hns₁,λi x v e1 e2 _=>?_⟩,(λx c z=>?_), ?_,(λx c z=>?_),(λp hp=>nomatch hp),I2.hok.laid old gA ?_,lσ⟩
  ·
   rw[<-hσ]at e2;by_cases hi':i<own
   ·rw[gH (by rw[gO];exact hi'),List.getElem?_replicate]at e2;split at e2<;>cases e2
   ·obtain⟨k,rfl⟩:∃k,i=own+k:=⟨i-own,by omega⟩;rw[gF (by rw[gO];omega),gO,Nat.add_sub_cancel_left,mC]at e2;cases ej:idx[k]? with
    | none=>rw[ej]at e2;cases e2
    | some j=>
     rw[ej,Option.map_some]at e2;have e2:=Option.some.inj e2;obtain⟨n1,n2,n3,n4⟩:=hidx k j x ej e1;have e3:σ[j]? = some (some v):=by
      cases q:σ[j]? with
      | none=>rw[q]at e2;cases e2
      | some y=>rw[q,Option.getD_some]at e2;rw[e2]
     obtain⟨m,hm,hl⟩:=I2.loc;obtain⟨u,ru,lk⟩:=hl j x v n1 e3 (.inr (.inl n4));refine⟨u,ru, ?_⟩;rcases lk with⟨kl,_⟩ | ⟨_,c,hcl,hic⟩
     ·rw[n2]at kl;cases kl
     ·obtain⟨c',hc'⟩:=hhas x (.inl n3);have:c'=c:=Option.some.inj ((hsub x c' hc').symm.trans hcl);subst this;exact .inr ⟨.inl n3,c',hc',oldC _ _ hic⟩
  ·obtain⟨v,hv⟩:=I2.cell x c (hsub x c z);exact⟨v,oldC _ _ hv⟩
  ·show(upd H1 s2.heap.objs.size (.dK [])) HH.objs.size=none;rw[jH (Ne.symm hDC)];exact I2.hok.fresh hCle
  ·obtain⟨v,hv⟩:=I2.cell x c (hsub x c z);show(upd H1 s2.heap.objs.size (.dK [])) c=none;rw[jH (nM hv.lt)];exact I2.freeC x c (hsub x c z)
  ·exact⟨nR _,beq_eq_false_iff_ne.mpr (Ne.symm (nM I2.big)),[],.nil,_,#[],0,hD,⟨rfl,rfl,rfl⟩,rfl,(λ_ he=>by simp at he),Pairs.nil,nB⟩
 have stat:∀{H':Hp},(∀b∈fp,H' b=none)->∀b∈fp,FpOk (jK X N scope cl HH.objs.size fp s2 H1) [] H' b:=λhn b hb=>
  ⟨hn b hb,(ok.exf b hb).1,ok.exfs b hb,.inl hb,(ok.exf b hb).2,λp hp=>nomatch hp⟩
 have st4:tn 0 h₁:=T.keep _ _ _ st2 λb _ o e=>old b o e;have fr4:∀b∈fp,(upd H1 s2.heap.objs.size (.dK [])) b=none:=λb hb=>by
  rw[jH (nM (hlt b hb))];exact(f2 b hb).1
 have loop:codeAny (model X.prog X.w) X.A (.compLoop (.DictComp kx vx [⟨target,iter,[],0⟩] scope pos) 0 (.ref it) (.ref s2.heap.objs.size) (compEnvC scope cl HH.objs.size X.env))
   (compPost (model X.prog X.w) X.A X.xe none (EP X ac σ Q) (.ref s2.heap.objs.size) HH.objs.size) { s2 with heap:=h₁,toks:=s2.toks+([]:List (Str×Value)).length } :=by
  refine wA (λn s'=>∃i ys H',Inv (jK X N scope cl HH.objs.size fp s2 H1) [] σ0 H' s'/\tn i s'.heap/\(∀b∈fp,H' b=none)/\W i n ys H') ?_ m0 ⟨0,[],_,I4,st4,fr4,w0⟩;rintro n s3 ⟨i,ys,H3,I3,st3,fr3,w3⟩;obtain⟨hp3,hz3,hw⟩:=turn i n ys H3 w3;rcases hw with⟨stop,qn⟩ | ⟨go,step⟩
  ·refine thn (T.done (jK X N scope cl HH.objs.size fp s2 H1) rfl rfl rfl hc i [] s3 _ H3 _ I3 (stat fr3) st3 stop) λr s4 ⟨hr,I5⟩=>?_;subst hr;obtain⟨m,hm,_⟩:=id I5.loc;refine⟨m,hm,λh' sb=>⟨.ref s2.heap.objs.size,H3, ?_,rfl,qn⟩⟩;have k:∀b o,b≠HH.objs.size->s4.heap.get? b=some o->h'.get? b=some o:=λb o hb e=>sb.extBut b o hb e;have nb:∀b o,s2.heap.get? b=some o->b≠HH.objs.size:=λb o e=>by rw[hCe];exact nM (Nat.lt_succ_of_lt (nK e))
   have U:=I5.base;have fC:H3 HH.objs.size=none:=I5.free;refine I2.call' (ch:=fp) (s':={ s4 with heap:=h' }) I5.os ⟨λb o e n hb hx=>k b o (nb b o e) (U.keep b o e n hb hx),λb o e n hb hx=>?_,U.free,λb o e hx=>?_,U.tups,U.frzs,U.tbls⟩ (λb u e=>?_) I5.bare (λb hb=>⟨(f2 b hb).2.2.2.1,(f2 b hb).2.1,(f2 b hb).2.2.2.2.1,(f2 b hb).2.2.2.2.2⟩)
   ·obtain⟨sl,q⟩:=U.slot b o e n hb hx;exact⟨sl,k b _ (nb b o e) q⟩
   ·obtain⟨o',q⟩:=U.there b o e hx;exact⟨o',k b _ (nb b o e) q⟩
   ·refine(I5.hok b u e).stay (λc v hcc q=>k c v ?_ q) (λ_ q=>q) λ_ _ q=>q;rcases hcc with z | z
    ·rw[z];intro y;rw[y,fC]at e;cases e
    ·intro y;rw[y,fC]at z;cases z
  ·refine nY (T.item (jK X N scope cl HH.objs.size fp s2 H1) rfl rfl rfl hc i [] s3 _ H3 (λ_ _=>False) I3 (stat fr3) st3 go) (λr s4 ⟨u,hr,h4⟩=>?_) λ_ _ z=>z.elim;subst hr;refine nY h4 (λ_ s5 ⟨x,H5,I5,r5,y5,st5,fr5⟩=>?_) λ_ _ z=>z.elim;have I5':=I5.pinned (stat fr5) (T.obj _ _ st5);refine nY (hg _ _ _ _ _ s5 _ H5 x u _ I5' r5 (step x H5 y5)) (λ_ s6 ⟨σ6,H6,I6,kp6,q6⟩=>?_) λ_ _ z=>z.elim;refine nY (hkx _ _ _ _ _ s6 σ6 H6 _ I6 q6) (λy s7 ⟨yv,H7,I7,r7,q7⟩=>?_) λ_ _ z=>z.elim;refine nY (hvx _ _ _ _ _ s7 σ6 H7 _ I7 q7) (λv' s7' ⟨vv,H7',I7',r7',q7'⟩=>?_) λ_ _ z=>z.elim;obtain⟨k',ey,e7,m',hm',w7⟩:=q7';subst ey;refine WI (X:=jK X N scope cl HH.objs.size fp s2 H1) (A:=X.A) I7' e7 hz3 r7 r7' λs8 I8=>?_;refine⟨m',hm',i+1,_,_,(I8.unpinned).weak (by rw[lσ,I8.len];rfl) kp6,T.keep _ _ _ st5 λb hb o e=>(I8.pin (b,o) (gN _ (gN _ (jZ hb e)))).1,λb hb=>?_,w7⟩;obtain⟨o,e,d⟩:=T.obj _ _ st5 b hb;exact(I8.pin (b,o) (gN _ (gN _ (jZ hb e)))).2.1
 exact codeAny_compStart_dict loop (T.self _ 0 _ _ _ st4 loop)
end
section
variable{X:Cx}
end
section
variable{X:Cx}
def rSumL(K:tF):List V->Hp->VK->Prop:=λxs H Q=>∃(a:Addr) (ns:List Int),xs=[.ref a]/\SqL K H a (ns.map V.int)/\Q (.int ns.sum) H
theorem RD(hc:X.calm=true):CallR X (.builtin "sum") (rSumL X.K):=by
 intro ac s σ H xs us Q I r h;obtain⟨a,ns,rfl,hq,q⟩:=h;obtain⟨u,rfl,ru⟩:=qM r;cases ru;obtain⟨its,rv,p,hz⟩:=I.list hq;have i1:IntsAre its ns:=qP rv;have hl:=vH i1;have ha:a<s.heap.objs.size:=by
  obtain⟨o,n,e,_⟩:=p;exact nK e
 refine PySem.call_sum_walkG (wpAny_pyIter_list p.isList ?_);refine⟨s.heap.objs.size,_,_,_,_,_,λi=>ns.getD i 0,rfl,Walks.list (show X.A.in1.handled=none from I.ok.hd hc) s.heap.objs.size a (nM ha) its.toArray,⟨⟨_,gW _ rfl,rfl,rfl⟩,p.isList.at λo e=>gL _ e⟩, ?_, ?_, ?_⟩
 ·intro b hb;show b<(s.heap.push _).objs.size;rw[nC];simp only[nF,mM,or_false]at hb;rcases hb with rfl | rfl
  ·exact mR _
  ·exact Nat.lt_succ_of_lt ha
 ·intro i v hv;have hv':its[i]? = some v:=by simpa using hv
  obtain⟨hi,e⟩:=gG.mp hv';obtain⟨n,t,e1,e2⟩:=xK i1 hi;exact⟨t,by dsimp only;rw[<-e,e2,gE,e1];rfl⟩
 ·intro h' tk t' k;have e:preSum (λi=>ns.getD i 0) its.toArray.size=ns.sum:=by
   rw[mD,hl,xR ns _ gA,mN]
  rw[e];refine⟨.int ns.sum,H,I.kept (t':=tk) (λb o q=>?_),⟨t',rfl⟩,q⟩;exact k b o (by simp;exact nM (nK q)) (gL _ q)
end
section
variable{prog:Program}{w:World}{A:Around}{R:Result->Shared->Prop}{s:Shared}
end
def CompGoFI(σ0:L2.St)(J:It)(g:TG)(tt:TT)(te:TE)(Q:VK)(p:Addr)(H':Hp):Prop:=
 ∃W:Nat->Nat->List V->Hp->Prop,(∃m,W 0 m [] H')/\∀i m ys H2,W i m ys H2->H2 p=some (.lst ys)/\ys.length<sizeLine/\
  ((J.stop i H2/\Q (.ref p) H2)∨(J.go i H2/\∀x H3,J.yld i H2 x H3->g x σ0 H3 fun σ4 H4=>Keep σ0 σ4/\tt σ4 H4 λb H5=>if b=true then te σ4 H5 λy H6=>H6 p=some (.lst ys)/\∃m',m'<m/\W (i+1) m' (ys++[y]) (upd H6 p (.lst (ys++[y])))else ∃m',m'<m/\W (i+1) m' ys H5))
def AR(own:Nat)(idx:List Nat)(wi:TI)(g:TG)(tt:TT)(te:TE):TE:=fun σ H Q=>wi σ H λJ H1=>∀p H',H1 p=none->Same H1 H'->H' p=some (.lst [])->
 CompGoFI (List.replicate own none++idx.map λj=>(σ[j]?).getD none) J g tt te Q p H'
section
variable{X:Cx}
theorem EK{own:Nat}{idx:List Nat}{N:List Str}{elt target iter c:Expr}{scope:Scope}{cl:List (Str×Addr)}{pos:Pos}{wi:TI}{g:TG}{tt:TT}{te:TE}(hc:X.calm=true)
  (hk:scope.kind=.function) (hclos:closureFor scope X.env=pure cl) (hcell:∀x∈scope.names,x.2≠.cell) (hnames:∀x∈scope.names,x.2=.local->scope.names.lookup x.1=some .local)
  (hsub:∀x c,cl.lookup x=some c->X.env.cells.lookup x=some c) (hhas:∀x,((relabel scope X.env).names.lookup x=some .cell∨(relabel scope X.env).names.lookup x=some .free)->∃c,cl.lookup x=some c)
  (hlen:N.length=own+idx.length)
  (hidx:∀(k j:Nat) (x:Str),idx[k]? = some j->N[own+k]? = some x->X.N[j]? = some x/\X.env.kindOf x=some .cell/\(relabel scope X.env).names.lookup x=some .cell/\X.env.scope.names.lookup x=some .cell)
  (hi:PI X target iter wi) (hg:∀C fp s2 H2,PG (jK X N scope cl C fp s2 H2) target g) (ht:∀C fp s2 H2,PT (jK X N scope cl C fp s2 H2) c tt) (he:∀C fp s2 H2,PE (jK X N scope cl C fp s2 H2) elt te)
  (hs:∀x,foldedSetIterable iter X.env x=pure x:=by intro _;rfl):PE X (.ListComp elt [⟨target,iter,[c],0⟩] scope pos) (AR own idx wi g tt te):=by
 intro ac s σ H Q I h;rw[eval_ListComp];refine wpAny_comprehension_free (use:=none) rfl hs hclos hk hnames (thn (hi ac s σ H _ I h) λv s1 h1=>thn h1 λitv s2 h2=>?_);obtain⟨it,fp,tn,J,H1,e,I2,T,st2,f2,hR⟩:=h2;subst e;have hlt:∀b∈fp,b<s2.heap.objs.size:=λb hb=>by
  obtain⟨o,ho,_⟩:=T.obj 0 _ st2 b hb;exact nK ho
 refine wpAny_newObj_type (wpAny_newFunctionEnv hcell (by intro y hy;simp at hy) (λh₁ hns₁ hsb₁=>?_) hk);dsimp only at hns₁ hsb₁ ⊢;generalize hHH:s2.heap.push { cls:=.type "list",dict:=none,data:=.seq ([]:List Value).toArray } = HH at hns₁ hsb₁ ⊢;have hCe:HH.objs.size=s2.heap.objs.size+1:=by rw[<-hHH,nC]
 have hDC:s2.heap.objs.size≠HH.objs.size:=by rw[hCe];exact nM (mR _)
 have hCle:s2.heap.objs.size<=HH.objs.size:=by rw[hCe];exact Nat.le_succ _
 have old:∀b o,s2.heap.get? b=some o->h₁.get? b=some o:=λb o e=>hsb₁.extBut b o (by rw[hCe];exact nM (Nat.lt_succ_of_lt (nK e))) (gL _ (hHH▸gL _ e));have hD:h₁.get? s2.heap.objs.size=some { cls:=.type "list",dict:=none,data:=.seq ([]:List Value).toArray } :=hsb₁.extBut _ _ hDC (gL _ (hHH▸gW _ rfl));have nD:H1 s2.heap.objs.size=none:=I2.hok.fresh gA ;obtain⟨W,⟨m0,w0⟩,turn⟩:=hR s2.heap.objs.size _ nD (jN (.lst []) nD) jD;generalize hσ:(List.replicate own none++idx.map λj=>(σ[j]?).getD none:L2.St)=σ0 at turn;have lσ:σ0.length=N.length:=by rw[<-hσ,gY,gO,mS,hlen]
 have ok:=vM (N:=N) (cl:=cl) (C:=HH.objs.size) I2 hk hsub hhas hCle f2 hlt;have oldC:∀c v,s2.heap.IsCell c v->h₁.IsCell c v:=λc v ⟨o,ho,hd⟩=>⟨o,old c o ho,hd⟩;have I4:Inv (jK X N scope cl HH.objs.size fp s2 H1) [] σ0 (upd H1 s2.heap.objs.size (.lst [])) { s2 with heap:=h₁,toks:=s2.toks+([]:List (Str×Value)).length } :=by
  refine⟨ok,rfl,I2.bare,Un.laid old gA nD,⟨_,hns₁,λi x v e1 e2 _=>?_⟩,(λx c z=>?_), ?_,(λx c z=>?_),(λp hp=>nomatch hp),I2.hok.laid old gA ?_,lσ⟩
  ·
   rw[<-hσ]at e2;by_cases hi':i<own
   ·rw[gH (by rw[gO];exact hi'),List.getElem?_replicate]at e2;split at e2<;>cases e2
   ·obtain⟨k,rfl⟩:∃k,i=own+k:=⟨i-own,by omega⟩;rw[gF (by rw[gO];omega),gO,Nat.add_sub_cancel_left,mC]at e2;cases ej:idx[k]? with
    | none=>rw[ej]at e2;cases e2
    | some j=>
     rw[ej,Option.map_some]at e2;have e2:=Option.some.inj e2;obtain⟨n1,n2,n3,n4⟩:=hidx k j x ej e1;have e3:σ[j]? = some (some v):=by
      cases q:σ[j]? with
      | none=>rw[q]at e2;cases e2
      | some y=>rw[q,Option.getD_some]at e2;rw[e2]
     obtain⟨m,hm,hl⟩:=I2.loc;obtain⟨u,ru,lk⟩:=hl j x v n1 e3 (.inr (.inl n4));refine⟨u,ru, ?_⟩;rcases lk with⟨kl,_⟩ | ⟨_,c,hcl,hic⟩
     ·rw[n2]at kl;cases kl
     ·obtain⟨c',hc'⟩:=hhas x (.inl n3);have:c'=c:=Option.some.inj ((hsub x c' hc').symm.trans hcl);subst this;exact .inr ⟨.inl n3,c',hc',oldC _ _ hic⟩
  ·obtain⟨v,hv⟩:=I2.cell x c (hsub x c z);exact⟨v,oldC _ _ hv⟩
  ·show(upd H1 s2.heap.objs.size (.lst [])) HH.objs.size=none;rw[jH (Ne.symm hDC)];exact I2.hok.fresh hCle
  ·obtain⟨v,hv⟩:=I2.cell x c (hsub x c z);show(upd H1 s2.heap.objs.size (.lst [])) c=none;rw[jH (nM hv.lt)];exact I2.freeC x c (hsub x c z)
  ·exact⟨by show 0<=sizeLine;decide,[],0,.nil,hD⟩
 have stat:∀{H':Hp},(∀b∈fp,H' b=none)->∀b∈fp,FpOk (jK X N scope cl HH.objs.size fp s2 H1) [] H' b:=λhn b hb=>
  ⟨hn b hb,(ok.exf b hb).1,ok.exfs b hb,.inl hb,(ok.exf b hb).2,λp hp=>nomatch hp⟩
 have st4:tn 0 h₁:=T.keep _ _ _ st2 λb _ o e=>old b o e;have fr4:∀b∈fp,(upd H1 s2.heap.objs.size (.lst [])) b=none:=λb hb=>by
  rw[jH (nM (hlt b hb))];exact(f2 b hb).1
 have loop:codeAny (model X.prog X.w) X.A (.compLoop (.ListComp elt [⟨target,iter,[c],0⟩] scope pos) 0 (.ref it) (.ref s2.heap.objs.size) (compEnvC scope cl HH.objs.size X.env))
   (compPost (model X.prog X.w) X.A X.xe none (EP X ac σ Q) (.ref s2.heap.objs.size) HH.objs.size) { s2 with heap:=h₁,toks:=s2.toks+([]:List (Str×Value)).length } :=by
  refine AI (λn s'=>∃i ys H',Inv (jK X N scope cl HH.objs.size fp s2 H1) [] σ0 H' s'/\tn i s'.heap/\(∀b∈fp,H' b=none)/\W i n ys H') ?_ m0 ⟨0,[],_,I4,st4,fr4,w0⟩;rintro n s3 ⟨i,ys,H3,I3,st3,fr3,w3⟩;obtain⟨hp3,hz3,hw⟩:=turn i n ys H3 w3;rcases hw with⟨stop,qn⟩ | ⟨go,step⟩
  ·refine thn (T.done (jK X N scope cl HH.objs.size fp s2 H1) rfl rfl rfl hc i [] s3 _ H3 _ I3 (stat fr3) st3 stop) λr s4 ⟨hr,I5⟩=>?_;subst hr;obtain⟨m,hm,_⟩:=id I5.loc;refine⟨m,hm,λh' sb=>⟨.ref s2.heap.objs.size,H3, ?_,rfl,qn⟩⟩;have k:∀b o,b≠HH.objs.size->s4.heap.get? b=some o->h'.get? b=some o:=λb o hb e=>sb.extBut b o hb e;have nb:∀b o,s2.heap.get? b=some o->b≠HH.objs.size:=λb o e=>by rw[hCe];exact nM (Nat.lt_succ_of_lt (nK e))
   have U:=I5.base;have fC:H3 HH.objs.size=none:=I5.free;refine I2.call' (ch:=fp) (s':={ s4 with heap:=h' }) I5.os ⟨λb o e n hb hx=>k b o (nb b o e) (U.keep b o e n hb hx),λb o e n hb hx=>?_,U.free,λb o e hx=>?_,U.tups,U.frzs,U.tbls⟩ (λb u e=>?_) I5.bare (λb hb=>⟨(f2 b hb).2.2.2.1,(f2 b hb).2.1,(f2 b hb).2.2.2.2.1,(f2 b hb).2.2.2.2.2⟩)
   ·obtain⟨sl,q⟩:=U.slot b o e n hb hx;exact⟨sl,k b _ (nb b o e) q⟩
   ·obtain⟨o',q⟩:=U.there b o e hx;exact⟨o',k b _ (nb b o e) q⟩
   ·refine(I5.hok b u e).stay (λc v hcc q=>k c v ?_ q) (λ_ q=>q) λ_ _ q=>q;rcases hcc with z | z
    ·rw[z];intro y;rw[y,fC]at e;cases e
    ·intro y;rw[y,fC]at z;cases z
  ·refine nY (T.item (jK X N scope cl HH.objs.size fp s2 H1) rfl rfl rfl hc i [] s3 _ H3 (λ_ _=>False) I3 (stat fr3) st3 go) (λr s4 ⟨u,hr,h4⟩=>?_) λ_ _ z=>z.elim;subst hr;refine nY h4 (λ_ s5 ⟨x,H5,I5,r5,y5,st5,fr5⟩=>?_) λ_ _ z=>z.elim;have I5':=I5.pinned (stat fr5) (T.obj _ _ st5);refine nY (hg _ _ _ _ _ s5 _ H5 x u _ I5' r5 (step x H5 y5)) (λ_ s6 ⟨σ6,H6,I6,kp6,q6⟩=>?_) λ_ _ z=>z.elim;refine nY (ht _ _ _ _ _ s6 σ6 H6 _ I6 q6) (λb s6' ⟨H6',I6',q6'⟩=>?_) λ_ _ z=>z.elim;cases b with
   | false=>
    rw[nZ gZ]at q6' ⊢;obtain⟨m',hm',w7⟩:=q6';refine⟨m',hm',i+1,_,_,(I6'.unpinned).weak (by rw[lσ,I6'.len];rfl) kp6,T.keep _ _ _ st5 λb hb o e=>(I6'.pin (b,o) (gN _ (gN _ (jZ hb e)))).1,λb hb=>?_,w7⟩;obtain⟨o,e,d⟩:=T.obj _ _ st5 b hb;exact(I6'.pin (b,o) (gN _ (gN _ (jZ hb e)))).2.1
   | true=>
    rw[tD rfl]at q6' ⊢;refine nY (he _ _ _ _ _ s6' σ6 H6' _ I6' q6') (λy s7 ⟨yv,H7,I7,r7,q7⟩=>?_) λ_ _ z=>z.elim;obtain⟨e7,m',hm',w7⟩:=q7;refine nY (kW (X:=jK X N scope cl HH.objs.size fp s2 H1) _ s7 σ6 H7 (.ref s2.heap.objs.size) [yv] (.ref s2.heap.objs.size) [y] (λ_ H8=>H8=upd H7 s2.heap.objs.size (.lst (ys++[yv]))) I7 rfl (.cons r7 .nil) ⟨_,ys,yv,rfl,rfl,e7,hz3,rfl⟩) (λ_ s8 ⟨_,H8,I8,_,q8⟩=>?_) λ_ _ z=>z.elim;subst q8;refine⟨m',hm',i+1,_,_,(I8.unpinned).weak (by rw[lσ,I8.len];rfl) kp6,T.keep _ _ _ st5 λb hb o e=>(I8.pin (b,o) (gN _ (gN _ (jZ hb e)))).1,λb hb=>?_,w7⟩;obtain⟨o,e,d⟩:=T.obj _ _ st5 b hb;exact(I8.pin (b,o) (gN _ (gN _ (jZ hb e)))).2.1
 exact codeAny_compStart_list loop (T.self _ 0 _ _ _ st4 loop)
end
end Lw
namespace LwD
open PySem PySem.Spec PyProof.Rows L2
section
variable{prog:Program}{w:World}{A:Around}{E:Value->Shared->Prop}{s:Shared}{d it vw:Addr}{es:Array DictEntry}{ep i:Nat}
end
section
variable{X:Cx}
end
end LwD
namespace Lw
open PySem PySem.Spec PyProof.Rows L2
section
variable{X:Cx}
theorem IZ{i:Nat}{y:Str}{py spos:Pos}(hN:X.N.Nodup)(hi:X.N[i]? = some y)(hx:Loc X.env.scope y){own:Nat}{idx:List Nat}{N:List Str}{elt target iter c:Expr}{scope:Scope}{cl:List (Str×Addr)}{pos:Pos}{wi:TI}{g:TG}{tt:TT}{te:TE}(hc:X.calm=true)
  (hk:scope.kind=.function) (hclos:closureFor scope X.env=pure cl) (hcell:∀x∈scope.names,x.2≠.cell) (hnames:∀x∈scope.names,x.2=.local->scope.names.lookup x.1=some .local)
  (hsub:∀x c,cl.lookup x=some c->X.env.cells.lookup x=some c) (hhas:∀x,((relabel scope X.env).names.lookup x=some .cell∨(relabel scope X.env).names.lookup x=some .free)->∃c,cl.lookup x=some c)
  (hlen:N.length=own+idx.length)
  (hidx:∀(k j:Nat) (x:Str),idx[k]? = some j->N[own+k]? = some x->X.N[j]? = some x/\X.env.kindOf x=some .cell/\(relabel scope X.env).names.lookup x=some .cell/\X.env.scope.names.lookup x=some .cell)
  (hit:PI X target iter wi) (hg:∀C fp s2 H2,PG (jK X N scope cl C fp s2 H2) target g) (ht:∀C fp s2 H2,PT (jK X N scope cl C fp s2 H2) c tt) (he:∀C fp s2 H2,PE (jK X N scope cl C fp s2 H2) elt te)
  (hsw:swapsWith (.ListComp elt [⟨target,iter,[c],0⟩] scope pos) (some (.Name y py)) spos.line X.env=pure true:=by rfl)
  (hs:∀x,foldedSetIterable iter X.env x=pure x:=by intro _;rfl) (hfn:X.fn y=true∨X.env.scope.names.lookup y=some .local:=by first | exact .inl rfl | exact .inr rfl | assumption):PS X (.Assign [.Name y py] (.ListComp elt [⟨target,iter,[c],0⟩] scope pos) spos) (SF (AR own idx wi g tt te) (jX i)):=by
 intro ac s σ H D I h;rw[exec_Assign_Name_used _ _ _ _ hsw];refine nW (wpAny_standAt (nW ?_));show wpAny _ X.A (do let _<-comprehension (.ListComp elt [⟨target,iter,[c],0⟩] scope pos) scope X.env _ (newList []) false (eval iter X.env) (some (assign (.Name y py) X.env))) _ _ s;refine nW (nY (wpAny_comprehension_free (use:=some (assign (.Name y py) X.env)) (Q:=λ_ s'=>∃σ' H',Inv X ac σ' H' s'/\D.nx σ' H') rfl hs hclos hk hnames (thn (hit ac s σ H _ I h) λv s1 h1=>thn h1 λitv s2 h2=>?_)) (λ_ s' hq=>nX (nX hq)) λ_ _ e=>e);obtain⟨it,fp,tn,J,H1,e,I2,T,st2,f2,hR⟩:=h2;subst e;have hlt:∀b∈fp,b<s2.heap.objs.size:=λb hb=>by
  obtain⟨o,ho,_⟩:=T.obj 0 _ st2 b hb;exact nK ho
 refine wpAny_newObj_type (wpAny_newFunctionEnv hcell (by intro y hy;simp at hy) (λh₁ hns₁ hsb₁=>?_) hk);dsimp only at hns₁ hsb₁ ⊢;generalize hHH:s2.heap.push { cls:=.type "list",dict:=none,data:=.seq ([]:List Value).toArray } = HH at hns₁ hsb₁ ⊢;have hCe:HH.objs.size=s2.heap.objs.size+1:=by rw[<-hHH,nC]
 have hDC:s2.heap.objs.size≠HH.objs.size:=by rw[hCe];exact nM (mR _)
 have hCle:s2.heap.objs.size<=HH.objs.size:=by rw[hCe];exact Nat.le_succ _
 have old:∀b o,s2.heap.get? b=some o->h₁.get? b=some o:=λb o e=>hsb₁.extBut b o (by rw[hCe];exact nM (Nat.lt_succ_of_lt (nK e))) (gL _ (hHH▸gL _ e));have hD:h₁.get? s2.heap.objs.size=some { cls:=.type "list",dict:=none,data:=.seq ([]:List Value).toArray } :=hsb₁.extBut _ _ hDC (gL _ (hHH▸gW _ rfl));have nD:H1 s2.heap.objs.size=none:=I2.hok.fresh gA ;obtain⟨W,⟨m0,w0⟩,turn⟩:=hR s2.heap.objs.size _ nD (jN (.lst []) nD) jD;generalize hσ:(List.replicate own none++idx.map λj=>(σ[j]?).getD none:L2.St)=σ0 at turn;have lσ:σ0.length=N.length:=by rw[<-hσ,gY,gO,mS,hlen]
 have ok:=vM (N:=N) (cl:=cl) (C:=HH.objs.size) I2 hk hsub hhas hCle f2 hlt;have oldC:∀c v,s2.heap.IsCell c v->h₁.IsCell c v:=λc v ⟨o,ho,hd⟩=>⟨o,old c o ho,hd⟩;have I4:Inv (jK X N scope cl HH.objs.size fp s2 H1) [] σ0 (upd H1 s2.heap.objs.size (.lst [])) { s2 with heap:=h₁,toks:=s2.toks+([]:List (Str×Value)).length } :=by
  refine⟨ok,rfl,I2.bare,Un.laid old gA nD,⟨_,hns₁,λi x v e1 e2 _=>?_⟩,(λx c z=>?_), ?_,(λx c z=>?_),(λp hp=>nomatch hp),I2.hok.laid old gA ?_,lσ⟩
  ·
   rw[<-hσ]at e2;by_cases hi':i<own
   ·rw[gH (by rw[gO];exact hi'),List.getElem?_replicate]at e2;split at e2<;>cases e2
   ·obtain⟨k,rfl⟩:∃k,i=own+k:=⟨i-own,by omega⟩;rw[gF (by rw[gO];omega),gO,Nat.add_sub_cancel_left,mC]at e2;cases ej:idx[k]? with
    | none=>rw[ej]at e2;cases e2
    | some j=>
     rw[ej,Option.map_some]at e2;have e2:=Option.some.inj e2;obtain⟨n1,n2,n3,n4⟩:=hidx k j x ej e1;have e3:σ[j]? = some (some v):=by
      cases q:σ[j]? with
      | none=>rw[q]at e2;cases e2
      | some y=>rw[q,Option.getD_some]at e2;rw[e2]
     obtain⟨m,hm,hl⟩:=I2.loc;obtain⟨u,ru,lk⟩:=hl j x v n1 e3 (.inr (.inl n4));refine⟨u,ru, ?_⟩;rcases lk with⟨kl,_⟩ | ⟨_,c,hcl,hic⟩
     ·rw[n2]at kl;cases kl
     ·obtain⟨c',hc'⟩:=hhas x (.inl n3);have:c'=c:=Option.some.inj ((hsub x c' hc').symm.trans hcl);subst this;exact .inr ⟨.inl n3,c',hc',oldC _ _ hic⟩
  ·obtain⟨v,hv⟩:=I2.cell x c (hsub x c z);exact⟨v,oldC _ _ hv⟩
  ·show(upd H1 s2.heap.objs.size (.lst [])) HH.objs.size=none;rw[jH (Ne.symm hDC)];exact I2.hok.fresh hCle
  ·obtain⟨v,hv⟩:=I2.cell x c (hsub x c z);show(upd H1 s2.heap.objs.size (.lst [])) c=none;rw[jH (nM hv.lt)];exact I2.freeC x c (hsub x c z)
  ·exact⟨by show 0<=sizeLine;decide,[],0,.nil,hD⟩
 have stat:∀{H':Hp},(∀b∈fp,H' b=none)->∀b∈fp,FpOk (jK X N scope cl HH.objs.size fp s2 H1) [] H' b:=λhn b hb=>
  ⟨hn b hb,(ok.exf b hb).1,ok.exfs b hb,.inl hb,(ok.exf b hb).2,λp hp=>nomatch hp⟩
 have st4:tn 0 h₁:=T.keep _ _ _ st2 λb _ o e=>old b o e;have fr4:∀b∈fp,(upd H1 s2.heap.objs.size (.lst [])) b=none:=λb hb=>by
  rw[jH (nM (hlt b hb))];exact(f2 b hb).1
 have loop:codeAny (model X.prog X.w) X.A (.compLoop (.ListComp elt [⟨target,iter,[c],0⟩] scope pos) 0 (.ref it) (.ref s2.heap.objs.size) (compEnvC scope cl HH.objs.size X.env))
   (compPost (model X.prog X.w) X.A X.xe (some (assign (.Name y py) X.env)) (λ_ s'=>∃σ' H',Inv X ac σ' H' s'/\D.nx σ' H') (.ref s2.heap.objs.size) HH.objs.size) { s2 with heap:=h₁,toks:=s2.toks+([]:List (Str×Value)).length } :=by
  refine AI (λn s'=>∃i ys H',Inv (jK X N scope cl HH.objs.size fp s2 H1) [] σ0 H' s'/\tn i s'.heap/\(∀b∈fp,H' b=none)/\W i n ys H') ?_ m0 ⟨0,[],_,I4,st4,fr4,w0⟩;rintro n s3 ⟨i,ys,H3,I3,st3,fr3,w3⟩;obtain⟨hp3,hz3,hw⟩:=turn i n ys H3 w3;rcases hw with⟨stop,qn⟩ | ⟨go,step⟩
  ·refine thn (T.done (jK X N scope cl HH.objs.size fp s2 H1) rfl rfl rfl hc i [] s3 _ H3 _ I3 (stat fr3) st3 stop) λr s4 ⟨hr,I5⟩=>?_;subst hr;obtain⟨m,hm,_⟩:=id I5.loc;have U:=I5.base;have fC:H3 HH.objs.size=none:=I5.free;have IX:Inv X ac σ H3 s4:=I2.call' (ch:=fp) (s':=s4) I5.os U I5.hok I5.bare (λb hb=>⟨(f2 b hb).2.2.2.1,(f2 b hb).2.1,(f2 b hb).2.2.2.2.1,(f2 b hb).2.2.2.2.2⟩);have ltC:∀b,b<s2.heap.objs.size->b≠HH.objs.size:=λb hb=>nM (hJ hb hCle);show wpAny _ X.A (assign (.Name y py) X.env (.ref s2.heap.objs.size)) _ _ s4;refine wpAny_assign_Name (zM IX hN hi hx (v:=.ref s2.heap.objs.size) rfl (λs5 I6 ⟨a,sb,ha⟩=>?_) hfn);have aC:a≠HH.objs.size:=by
    rcases ha with ha | ha
    ·rw[ha];exact ltC _ I2.lt
    ·obtain⟨v,hv⟩:=I2.cell y a ha;exact ltC _ hv.lt
   refine⟨m,hm.sameBut sb (Ne.symm aC),λh' sb'=>⟨_,H3, ?_,qn⟩⟩;refine I6.turned (it:=HH.objs.size) (t':=s5.toks) (λb o hb e=>sb'.extBut b o hb e) fC (Ne.symm (ltC _ I2.lt)) (.inr (nL I2.sz hCle)) (λx c hc=>?_) (λp hp=>?_)
   ·obtain⟨v,hv⟩:=I2.cell x c hc;exact ltC _ hv.lt
   ·exact ltC _ (nK (I2.pin p hp).1)
  ·refine nY (T.item (jK X N scope cl HH.objs.size fp s2 H1) rfl rfl rfl hc i [] s3 _ H3 (λ_ _=>False) I3 (stat fr3) st3 go) (λr s4 ⟨u,hr,h4⟩=>?_) λ_ _ z=>z.elim;subst hr;refine nY h4 (λ_ s5 ⟨x,H5,I5,r5,y5,st5,fr5⟩=>?_) λ_ _ z=>z.elim;have I5':=I5.pinned (stat fr5) (T.obj _ _ st5);refine nY (hg _ _ _ _ _ s5 _ H5 x u _ I5' r5 (step x H5 y5)) (λ_ s6 ⟨σ6,H6,I6,kp6,q6⟩=>?_) λ_ _ z=>z.elim;refine nY (ht _ _ _ _ _ s6 σ6 H6 _ I6 q6) (λb s6' ⟨H6',I6',q6'⟩=>?_) λ_ _ z=>z.elim;cases b with
   | false=>
    rw[nZ gZ]at q6' ⊢;obtain⟨m',hm',w7⟩:=q6';refine⟨m',hm',i+1,_,_,(I6'.unpinned).weak (by rw[lσ,I6'.len];rfl) kp6,T.keep _ _ _ st5 λb hb o e=>(I6'.pin (b,o) (gN _ (gN _ (jZ hb e)))).1,λb hb=>?_,w7⟩;obtain⟨o,e,d⟩:=T.obj _ _ st5 b hb;exact(I6'.pin (b,o) (gN _ (gN _ (jZ hb e)))).2.1
   | true=>
    rw[tD rfl]at q6' ⊢;refine nY (he _ _ _ _ _ s6' σ6 H6' _ I6' q6') (λy s7 ⟨yv,H7,I7,r7,q7⟩=>?_) λ_ _ z=>z.elim;obtain⟨e7,m',hm',w7⟩:=q7;refine nY (kW (X:=jK X N scope cl HH.objs.size fp s2 H1) _ s7 σ6 H7 (.ref s2.heap.objs.size) [yv] (.ref s2.heap.objs.size) [y] (λ_ H8=>H8=upd H7 s2.heap.objs.size (.lst (ys++[yv]))) I7 rfl (.cons r7 .nil) ⟨_,ys,yv,rfl,rfl,e7,hz3,rfl⟩) (λ_ s8 ⟨_,H8,I8,_,q8⟩=>?_) λ_ _ z=>z.elim;subst q8;refine⟨m',hm',i+1,_,_,(I8.unpinned).weak (by rw[lσ,I8.len];rfl) kp6,T.keep _ _ _ st5 λb hb o e=>(I8.pin (b,o) (gN _ (gN _ (jZ hb e)))).1,λb hb=>?_,w7⟩;obtain⟨o,e,d⟩:=T.obj _ _ st5 b hb;exact(I8.pin (b,o) (gN _ (gN _ (jZ hb e)))).2.1
 exact codeAny_compStart_list loop (T.self _ 0 _ _ _ st4 loop)
end
section
variable{X:Cx}{CX:CXT}{k:Nat}{f:Addr}{fd:FuncData}{ps ks:List Str}{sp:Sp}{E:XK}{x:Str}{p pos:Pos}{kws:List Keyword}{tk:TA}{g:List Value->List Value->List Value}{gV:List V->List V->List V}
theorem kO(F:FnOk X.prog X.w X.K X.mg X.base CX k f fd ps sp)(hr:Room k X.A)(hg:Gl X x)(hm:X.mg x=some (.ref f))(hk:PySem.W.keepIn X.K (.ref f)=true)(hb:KBinds X.K fd ps ks g gV)(hx:Passes CX X E)
  (hkw:PK X kws tk) (hall:(backToKw pos (keywordEach kws X.env)).all (·.1.isSome)=true:=by rfl) (hks:(backToKw pos (keywordEach kws X.env)).filterMap (·.1)=ks:=by rfl)
  (hdb:(x==("__debug__" :Str))=false:=by decide) (hpl:((backTo pos (starEach [] X.env)).any (·.1)||(backToKw pos (keywordEach kws X.env)).any (·.1.isNone))=false:=by rfl) :
  PE X (.Call (.Name x p) [] kws pos) (uL sp gV E tNil tk):=by
 intro ac s σ H Q I h;refine wpAny_Call_Name_kw (HQ I hg hm ?_ hdb);refine PySem.W.callWith_KW0 (h₀:=X.base) I.ok.mod.kin hk hall (thn (hkw pos ac s σ H _ I h) λws s2 ⟨zs,H2,I2,rz,q2⟩=>⟨I2.kIn, ?_⟩) hpl;rw[hks];exact XJ (us:=[]) F hr hb hx I2 .nil rz q2
end
def gK:List Value->List Value->List Value
 | [],ws=>ws
 | _::_,_=>[]
def gKV:List V->List V->List V
 | [],zs=>zs
 | _::_,_=>[]
abbrev KBs(K:tF)(fd:FuncData)(ps:List Str):Prop:=KBinds K fd ps ps gK gKV
theorem Fun.kbs{K:tF}{x:Str}{st:Stmt}{f:Addr}{fd:FuncData}{ps:List Str}(F:Fun K x x st f fd)(hp:0<ps.length)
  (h:∀(kV doc pm:Value) (an:Option Addr) (cdv ct:Value) (ws:List Value),ws.length=ps.length->bindArgs (PySem.W.fnOf x x (xT st) (xB st) (jL st) .none kV doc pm an cdv ct) ⟨[],ps.zip ws⟩=pure (ps.zip ws)):KBs K fd ps:=by
 obtain⟨oc,od,kV,doc,pm,an,cdv,ct,osl,rfl,lk,hcd⟩:=F.ex;refine⟨λs us ws _ hl=>?_,fun {vs us zs ws} r rz=>?_⟩
 ·cases us with
  | nil=>exact .of_eq (h kV doc pm an cdv ct ws hl)
  | cons a l=>exact absurd hl (by show([]:List Value).length≠ps.length;simp;omega)
 ·cases r with
  | nil=>exact rz
  | cons _ _=>exact .nil
mutual
inductive DecK(K:tF)(H:Hp):V->PyData->Prop where
 | bl (b:Bool):DecK K H (.bl b) (.bool b)
 | int (i:Int):DecK K H (.int i) (.int i)
 | tup {a:Addr} {xs:List V} {ds:List PyData} (e:SqT K H a xs) (h:DecKs K H xs ds):DecK K H (.ref a) (.tuple ds)
inductive DecKs(K:tF)(H:Hp):List V->List PyData->Prop where
 | nil:DecKs K H [] []
 | cons {x:V} {d:PyData} {xs:List V} {ds:List PyData} (h:DecK K H x d) (t:DecKs K H xs ds):DecKs K H (x::xs) (d::ds)
end
section
variable{X:Cx}
mutual
theorem DecK.reads{ac:List (Addr×Obj)}{σ:L2.St}{H:Hp}{s:Shared}(I:Inv X ac σ H s):∀{x:V} {d:PyData} {u:Value},DecK X.K H x d->RelV x u->∃as,Reads s.heap u d as
 | _,_,_,.bl b,r=>by cases r;exact⟨_,.bool b⟩
 | _,_,_,.int i,r=>by obtain⟨t,rfl⟩:=r;exact⟨_,.int i t⟩
 | _,_,_,.tup e h,r=>by
  cases r;obtain⟨its,rv,⟨o,ho,hc,n,hd⟩,_⟩:=I.tuple e;obtain⟨as,ra⟩:=DecKs.reads I h rv;exact⟨_,.tuple ho hc hd (by simpa using ra)⟩
theorem DecKs.reads{ac:List (Addr×Obj)}{σ:L2.St}{H:Hp}{s:Shared}(I:Inv X ac σ H s):∀{xs:List V} {ds:List PyData} {us:List Value},DecKs X.K H xs ds->Vals xs us->∃as,ReadsAll s.heap us ds as
 | _,_,_,.nil,r=>by cases r;exact⟨_,.nil⟩
 | _,_,_,.cons h t,r=>by
  cases r with
  | cons q r=>
   obtain⟨as,ra⟩:=DecK.reads I h q;obtain⟨bs,rb⟩:=DecKs.reads I t r;exact⟨_,.cons ra rb⟩
end
def TC(K:tF):R2:=λx y H Q=>∃d,DecK K H x d/\DecK K H y d/\DataOk d/\Q (.bl false) H
theorem UB(hu:X.A.units+64<cLine):OpR X (compareOp .NotEq) (TC X.K):=by
 intro ac s σ H x y v u Q I rx ry h;obtain⟨d,d1,d2,o,q⟩:=h;obtain⟨as,ra⟩:=d1.reads I rx;obtain⟨bs,rb⟩:=d2.reads I ry;refine SeqAt.rcNeAt_reads ra rb o.1 o.1 (by have:=o.2;omega) _ _ _ _ ⟨.bl _,H,I,rfl, ?_⟩;rw[SeqAt.eqv_refl _ o.1];exact q
theorem UD:OpR X (compareOp .Is) (λx y H Q=>∃a b:Bool,x=.bl a/\y=.bl b/\Q (.bl (decide (a=b))) H):=by
 intro ac s σ H x y v u Q I rx ry h;obtain⟨a,b,rfl,rfl,q⟩:=h;cases rx;cases ry;exact is_bool (kK I q (by cases a<;>cases b<;>rfl))
end
section
variable{X:Cx}
theorem GZ{i:Nat}{y:Str}{py spos:Pos}(hN:X.N.Nodup)(hi:X.N[i]? = some y)(hx:Loc X.env.scope y){own:Nat}{idx:List Nat}{N:List Str}{kx vx target iter:Expr}{scope:Scope}{cl:List (Str×Addr)}{pos:Pos}{wi:TI}{g:TG}{tk tv:TE}(hc:X.calm=true)
  (hk:scope.kind=.function) (hclos:closureFor scope X.env=pure cl) (hcell:∀x∈scope.names,x.2≠.cell) (hnames:∀x∈scope.names,x.2=.local->scope.names.lookup x.1=some .local)
  (hsub:∀x c,cl.lookup x=some c->X.env.cells.lookup x=some c) (hhas:∀x,((relabel scope X.env).names.lookup x=some .cell∨(relabel scope X.env).names.lookup x=some .free)->∃c,cl.lookup x=some c)
  (hlen:N.length=own+idx.length)
  (hidx:∀(k j:Nat) (x:Str),idx[k]? = some j->N[own+k]? = some x->X.N[j]? = some x/\X.env.kindOf x=some .cell/\(relabel scope X.env).names.lookup x=some .cell/\X.env.scope.names.lookup x=some .cell)
  (hit:PI X target iter wi) (hg:∀C fp s2 H2,PG (jK X N scope cl C fp s2 H2) target g) (hkx:∀C fp s2 H2,PE (jK X N scope cl C fp s2 H2) kx tk) (hvx:∀C fp s2 H2,PE (jK X N scope cl C fp s2 H2) vx tv)
  (hsw:swapsWith (.DictComp kx vx [⟨target,iter,[],0⟩] scope pos) (some (.Name y py)) spos.line X.env=pure true:=by rfl)
  (hs:∀x,foldedSetIterable iter X.env x=pure x:=by intro _;rfl) (hfn:X.fn y=true∨X.env.scope.names.lookup y=some .local:=by first | exact .inl rfl | exact .inr rfl | assumption):PS X (.Assign [.Name y py] (.DictComp kx vx [⟨target,iter,[],0⟩] scope pos) spos) (SF (MQ own idx wi g tk tv) (jX i)):=by
 intro ac s σ H D I h;rw[exec_Assign_Name_used _ _ _ _ hsw];refine nW (wpAny_standAt (nW ?_));show wpAny _ X.A (do let _<-comprehension (.DictComp kx vx [⟨target,iter,[],0⟩] scope pos) scope X.env _ newDict false (eval iter X.env) (some (assign (.Name y py) X.env))) _ _ s;refine nW (nY (wpAny_comprehension_free (use:=some (assign (.Name y py) X.env)) (Q:=λ_ s'=>∃σ' H',Inv X ac σ' H' s'/\D.nx σ' H') rfl hs hclos hk hnames (thn (hit ac s σ H _ I h) λv s1 h1=>thn h1 λitv s2 h2=>?_)) (λ_ s' hq=>nX (nX hq)) λ_ _ e=>e);obtain⟨it,fp,tn,J,H1,e,I2,T,st2,f2,hR⟩:=h2;subst e;have hlt:∀b∈fp,b<s2.heap.objs.size:=λb hb=>by
  obtain⟨o,ho,_⟩:=T.obj 0 _ st2 b hb;exact nK ho
 refine wpAny_newObj_type (wpAny_newFunctionEnv hcell (by intro y hy;simp at hy) (λh₁ hns₁ hsb₁=>?_) hk);dsimp only at hns₁ hsb₁ ⊢;generalize hHH:s2.heap.push { cls:=.type "dict",dict:=none,data:=.dict #[] 0 } = HH at hns₁ hsb₁ ⊢;have hCe:HH.objs.size=s2.heap.objs.size+1:=by rw[<-hHH,nC]
 have hDC:s2.heap.objs.size≠HH.objs.size:=by rw[hCe];exact nM (mR _)
 have hCle:s2.heap.objs.size<=HH.objs.size:=by rw[hCe];exact Nat.le_succ _
 have old:∀b o,s2.heap.get? b=some o->h₁.get? b=some o:=λb o e=>hsb₁.extBut b o (by rw[hCe];exact nM (Nat.lt_succ_of_lt (nK e))) (gL _ (hHH▸gL _ e));have hD:h₁.get? s2.heap.objs.size=some { cls:=.type "dict",dict:=none,data:=.dict #[] 0 } :=hsb₁.extBut _ _ hDC (gL _ (hHH▸gW _ rfl));have nD:H1 s2.heap.objs.size=none:=I2.hok.fresh gA ;obtain⟨W,⟨m0,w0⟩,turn⟩:=hR s2.heap.objs.size _ nD (jN (.dK []) nD) jD;generalize hσ:(List.replicate own none++idx.map λj=>(σ[j]?).getD none:L2.St)=σ0 at turn;have lσ:σ0.length=N.length:=by rw[<-hσ,gY,gO,mS,hlen]
 have ok:=vM (N:=N) (cl:=cl) (C:=HH.objs.size) I2 hk hsub hhas hCle f2 hlt;have oldC:∀c v,s2.heap.IsCell c v->h₁.IsCell c v:=λc v ⟨o,ho,hd⟩=>⟨o,old c o ho,hd⟩;have I4:Inv (jK X N scope cl HH.objs.size fp s2 H1) [] σ0 (upd H1 s2.heap.objs.size (.dK [])) { s2 with heap:=h₁,toks:=s2.toks+([]:List (Str×Value)).length } :=by
  refine⟨ok,rfl,I2.bare,Un.laid old gA nD,⟨_,hns₁,λi x v e1 e2 _=>?_⟩,(λx c z=>?_), ?_,(λx c z=>?_),(λp hp=>nomatch hp),I2.hok.laid old gA ?_,lσ⟩
  ·
   rw[<-hσ]at e2;by_cases hi':i<own
   ·rw[gH (by rw[gO];exact hi'),List.getElem?_replicate]at e2;split at e2<;>cases e2
   ·obtain⟨k,rfl⟩:∃k,i=own+k:=⟨i-own,by omega⟩;rw[gF (by rw[gO];omega),gO,Nat.add_sub_cancel_left,mC]at e2;cases ej:idx[k]? with
    | none=>rw[ej]at e2;cases e2
    | some j=>
     rw[ej,Option.map_some]at e2;have e2:=Option.some.inj e2;obtain⟨n1,n2,n3,n4⟩:=hidx k j x ej e1;have e3:σ[j]? = some (some v):=by
      cases q:σ[j]? with
      | none=>rw[q]at e2;cases e2
      | some y=>rw[q,Option.getD_some]at e2;rw[e2]
     obtain⟨m,hm,hl⟩:=I2.loc;obtain⟨u,ru,lk⟩:=hl j x v n1 e3 (.inr (.inl n4));refine⟨u,ru, ?_⟩;rcases lk with⟨kl,_⟩ | ⟨_,c,hcl,hic⟩
     ·rw[n2]at kl;cases kl
     ·obtain⟨c',hc'⟩:=hhas x (.inl n3);have:c'=c:=Option.some.inj ((hsub x c' hc').symm.trans hcl);subst this;exact .inr ⟨.inl n3,c',hc',oldC _ _ hic⟩
  ·obtain⟨v,hv⟩:=I2.cell x c (hsub x c z);exact⟨v,oldC _ _ hv⟩
  ·show(upd H1 s2.heap.objs.size (.dK [])) HH.objs.size=none;rw[jH (Ne.symm hDC)];exact I2.hok.fresh hCle
  ·obtain⟨v,hv⟩:=I2.cell x c (hsub x c z);show(upd H1 s2.heap.objs.size (.dK [])) c=none;rw[jH (nM hv.lt)];exact I2.freeC x c (hsub x c z)
  ·exact⟨nR _,beq_eq_false_iff_ne.mpr (Ne.symm (nM I2.big)),[],.nil,_,#[],0,hD,⟨rfl,rfl,rfl⟩,rfl,(λ_ he=>by simp at he),Pairs.nil,nB⟩
 have stat:∀{H':Hp},(∀b∈fp,H' b=none)->∀b∈fp,FpOk (jK X N scope cl HH.objs.size fp s2 H1) [] H' b:=λhn b hb=>
  ⟨hn b hb,(ok.exf b hb).1,ok.exfs b hb,.inl hb,(ok.exf b hb).2,λp hp=>nomatch hp⟩
 have st4:tn 0 h₁:=T.keep _ _ _ st2 λb _ o e=>old b o e;have fr4:∀b∈fp,(upd H1 s2.heap.objs.size (.dK [])) b=none:=λb hb=>by
  rw[jH (nM (hlt b hb))];exact(f2 b hb).1
 have loop:codeAny (model X.prog X.w) X.A (.compLoop (.DictComp kx vx [⟨target,iter,[],0⟩] scope pos) 0 (.ref it) (.ref s2.heap.objs.size) (compEnvC scope cl HH.objs.size X.env))
   (compPost (model X.prog X.w) X.A X.xe (some (assign (.Name y py) X.env)) (λ_ s'=>∃σ' H',Inv X ac σ' H' s'/\D.nx σ' H') (.ref s2.heap.objs.size) HH.objs.size) { s2 with heap:=h₁,toks:=s2.toks+([]:List (Str×Value)).length } :=by
  refine wA (λn s'=>∃i ys H',Inv (jK X N scope cl HH.objs.size fp s2 H1) [] σ0 H' s'/\tn i s'.heap/\(∀b∈fp,H' b=none)/\W i n ys H') ?_ m0 ⟨0,[],_,I4,st4,fr4,w0⟩;rintro n s3 ⟨i,ys,H3,I3,st3,fr3,w3⟩;obtain⟨hp3,hz3,hw⟩:=turn i n ys H3 w3;rcases hw with⟨stop,qn⟩ | ⟨go,step⟩
  ·refine thn (T.done (jK X N scope cl HH.objs.size fp s2 H1) rfl rfl rfl hc i [] s3 _ H3 _ I3 (stat fr3) st3 stop) λr s4 ⟨hr,I5⟩=>?_;subst hr;obtain⟨m,hm,_⟩:=id I5.loc;have U:=I5.base;have fC:H3 HH.objs.size=none:=I5.free;have IX:Inv X ac σ H3 s4:=I2.call' (ch:=fp) (s':=s4) I5.os U I5.hok I5.bare (λb hb=>⟨(f2 b hb).2.2.2.1,(f2 b hb).2.1,(f2 b hb).2.2.2.2.1,(f2 b hb).2.2.2.2.2⟩);have ltC:∀b,b<s2.heap.objs.size->b≠HH.objs.size:=λb hb=>nM (hJ hb hCle);show wpAny _ X.A (assign (.Name y py) X.env (.ref s2.heap.objs.size)) _ _ s4;refine wpAny_assign_Name (zM IX hN hi hx (v:=.ref s2.heap.objs.size) rfl (λs5 I6 ⟨a,sb,ha⟩=>?_) hfn);have aC:a≠HH.objs.size:=by
    rcases ha with ha | ha
    ·rw[ha];exact ltC _ I2.lt
    ·obtain⟨v,hv⟩:=I2.cell y a ha;exact ltC _ hv.lt
   refine⟨m,hm.sameBut sb (Ne.symm aC),λh' sb'=>⟨_,H3, ?_,qn⟩⟩;refine I6.turned (it:=HH.objs.size) (t':=s5.toks) (λb o hb e=>sb'.extBut b o hb e) fC (Ne.symm (ltC _ I2.lt)) (.inr (nL I2.sz hCle)) (λx c hc=>?_) (λp hp=>?_)
   ·obtain⟨v,hv⟩:=I2.cell x c hc;exact ltC _ hv.lt
   ·exact ltC _ (nK (I2.pin p hp).1)
  ·refine nY (T.item (jK X N scope cl HH.objs.size fp s2 H1) rfl rfl rfl hc i [] s3 _ H3 (λ_ _=>False) I3 (stat fr3) st3 go) (λr s4 ⟨u,hr,h4⟩=>?_) λ_ _ z=>z.elim;subst hr;refine nY h4 (λ_ s5 ⟨x,H5,I5,r5,y5,st5,fr5⟩=>?_) λ_ _ z=>z.elim;have I5':=I5.pinned (stat fr5) (T.obj _ _ st5);refine nY (hg _ _ _ _ _ s5 _ H5 x u _ I5' r5 (step x H5 y5)) (λ_ s6 ⟨σ6,H6,I6,kp6,q6⟩=>?_) λ_ _ z=>z.elim;refine nY (hkx _ _ _ _ _ s6 σ6 H6 _ I6 q6) (λy' s7 ⟨yv,H7,I7,r7,q7⟩=>?_) λ_ _ z=>z.elim;refine nY (hvx _ _ _ _ _ s7 σ6 H7 _ I7 q7) (λv' s7' ⟨vv,H7',I7',r7',q7'⟩=>?_) λ_ _ z=>z.elim;obtain⟨k',ey,e7,m',hm',w7⟩:=q7';subst ey;refine WI (X:=jK X N scope cl HH.objs.size fp s2 H1) (A:=X.A) I7' e7 hz3 r7 r7' λs8 I8=>?_;refine⟨m',hm',i+1,_,_,(I8.unpinned).weak (by rw[lσ,I8.len];rfl) kp6,T.keep _ _ _ st5 λb hb o e=>(I8.pin (b,o) (gN _ (gN _ (jZ hb e)))).1,λb hb=>?_,w7⟩;obtain⟨o,e,d⟩:=T.obj _ _ st5 b hb;exact(I8.pin (b,o) (gN _ (gN _ (jZ hb e)))).2.1
 exact codeAny_compStart_dict loop (T.self _ 0 _ _ _ st4 loop)
end
theorem rvT{K:tF}{H:Hp}{p:Addr}{xs:List V}{i:Int}{v:V}{Q:VK}{σ:L2.St}{a:Nat}(e1:σ[a]? = some (some (.ref p)))(h:SqT K H p xs)(e:atI xs i=some v)(q:Q v H):tOp (yY K) (qJ a) (tC (.int i)) σ H Q:=⟨_,e1,p,xs,i,v,rfl,rfl,h,e,q⟩
theorem rvL{K:tF}{H:Hp}{p:Addr}{xs:List V}{i:Int}{v:V}{Q:VK}{σ:L2.St}{a:Nat}(e1:σ[a]? = some (some (.ref p)))(h:SqL K H p xs)(e:atI xs i=some v)(q:Q v H):tOp (rIxL K) (qJ a) (tC (.int i)) σ H Q:=⟨_,e1,p,xs,i,v,rfl,rfl,h,e,q⟩
theorem gT2{K:tF}{H:Hp}{a:Addr}{x y:V}{i j n:Nat}{σ:L2.St}{Q:L2.St->Hp->Prop}(h:SqT K H a [x,y])(hn:2=n)(q:Q ((σ.set i (some x)).set j (some y)) H):wZ K n (qI (jX i) (qI (jX j) gNil)) (.ref a) σ H Q:=⟨a,_,rfl,h,hn,_,_,rfl,_,_,rfl,rfl,q⟩
theorem gSet{p:Addr}{xs:List V}{i:Int}{j a:Nat}{v:V}{σ:L2.St}{H:Hp}{Q:L2.St->Hp->Prop}(e:σ[a]? = some (some (.ref p)))(h:H p=some (.lst xs))(hj:ixN xs.length i=some j)(q:Q σ (upd H p (.lst (xs.set j v)))):gSub (qJ a) (tC (.int i)) rSetL v σ H Q:=⟨_,e,p,xs,i,j,rfl,rfl,h,hj,q⟩
def Sm:V->Prop
 | .int i=>i.natAbs<2^1000
 | _=>True
inductive Thing(H:Hp):V->Prop where
 | sc {v:V} {k:Kd} (h:KdOf H v k) (n:k≠.tup):Thing H v
 | tup {a:Addr} {xs:List V} (e:H a=some (.tup xs)) (h:∀x∈xs,Sm x/\∃k,KdOf H x k):Thing H (.ref a)
def zC:List V->Bool
 | [.int t,.int b]=>decide (1<=b)&&decide (Int.gcd t b=1)
 | _=>false
def AG(H:Hp):V->Bool
 | .ref a=>match H a with
  | some (.tup xs)=>zC xs
  | _=>false
 | _=>false
theorem ZK{H:Hp}{v:V}{k:Kd}(h:KdOf H v k)(n:k≠.tup):AG H v=false:=by
 cases h with
 | tup e=>exact absurd rfl n
 | lst e=>simp only[AG,e]
 | _=>rfl
theorem CS{H:Hp}{a:Addr}{xs:List V}(e:H a=some (.tup xs)):AG H (.ref a)=zC xs:=by simp only[AG,e]
theorem CH{xs:List V}(h:xs.length≠2):zC xs=false:=by
 match xs,h with
 | [],_=>rfl
 | [_],_=>unfold zC;split<;>simp_all
 | [_,_],h=>exact absurd rfl h
 | _::_::_::_,_=>unfold zC;split<;>simp_all
theorem UA{x y:V}(h:∀n,x≠.int n):zC [x,y]=false:=by
 unfold zC;split
 ·rename_i t b e;injection e with e1 _
  exact absurd e1 (h t)
 ·rfl
theorem TZ{x y:V}(h:∀n,y≠.int n):zC [x,y]=false:=by
 unfold zC;split
 ·rename_i t b e;injection e with _ e2
  injection e2 with e2 _
  exact absurd e2 (h b)
 ·rfl
def spWhole:Sp:=λvs H Q _=>∃v k,vs=[v]/\KdOf H v k/\Q (.bl (decide (k=.int))) H
def spIsf:Sp:=λvs H Q _=>∃v,vs=[v]/\Thing H v/\Q (.bl (AG H v)) H
def spGcd:Sp:=λvs H Q _=>∃a b:Int,vs=[.int a,.int b]/\0<b/\b.natAbs<2^8000/\Q (.int (Int.gcd a b)) H
def yD(t b:Int):Int:=(if b<0 then 0-t else t)/(Int.gcd t b:Int)
def yU(t b:Int):Int:=(if b<0 then 0-b else b)/(Int.gcd t b:Int)
def MW(K:tF):Sp:=λvs H Q _=>∃(a:Addr) (ns:List Int),vs=[.ref a]/\SqL K H a (ns.map V.int)/\ns.length<=63/\∀H',Q (.bl true) H'
structure Txt(mg:Str->Option Value):Prop where
 isi:mg "isinstance" = none
 len:mg "len" = none
 int:mg "int" = none
 bool:mg "bool" = none
 tup:mg "tuple" = none
 lst:mg "list" = none
 str:mg "str" = none
 abs:mg "abs" = none
 rng:mg "range" = none
 lbits:∃t,mg "LONG_BITS" = some (.int 8000 t)
 all:mg "all" = none
 sum:mg "sum" = none
 zip:mg "zip" = none
 sorted:mg "sorted" = none
 letters:∃t,mg "MOST_LETTERS" = some (.int 4 t)
 degree:∃t,mg "MOST_DEGREE" = some (.int 16 t)
 terms:∃t,mg "MOST_TERMS" = some (.int 500 t)
 signs:∃t,mg "MOST_SIGNS" = some (.int 4000 t)
 pack:∃t,mg "PACK" = some (.int 256 t)
 short:∃t,mg "SHORT_BITS" = some (.int 1500 t)
 enum:mg "enumerate" = none
 dct:mg "dict" = none
 max:mg "max" = none
 rev:mg "reversed" = none
structure Df(K:tF)(mg:Str->Option Value)(x:Str)(st:Stmt)(ps:List Str)(f:Addr)(fd:FuncData):Prop where
 F:Fun K x x st f fd
 b:Binds K fd ps []
 m:mg x=some (.ref f)
variable{P:Program}{w:World}{K:tF}{mg:Str->Option Value}{base:Heap}{f fd:_}
theorem XF:FnScope ["thing"] ["thing"] (jL uO):=⟨rfl,rfl,rfl,by decide +kernel,rfl,by decide +kernel,by decide +kernel⟩
theorem JG(F:Fun K "is_whole" "is_whole" uO f fd)(T:Txt mg):FnOk P w K mg base CX0 1 f fd ["thing"] spWhole:=by
 refine F.ok XF (λvs H Q E h=>?_) (λcdv A outer s H vs Q E hr h=>?_)
 ·obtain⟨v,k,rfl,_⟩:=h
  rfl
 ·obtain⟨v,k,rfl,hk,q⟩:=h;refine⟨_,jE (jO (zB (yM OJ T.isi T.int boot_int (pv 0)) (uP (TV (yM JX T.isi T.bool boot_bool (pv 0)))))), ?_⟩;refine⟨_,rfl,rfl,k,hk,_,rfl, ?_⟩;refine AN (λe=>?_) (λe=>?_)
  ·refine⟨_,rfl,rfl,k,hk,_,rfl, ?_⟩;cases k<;>first | exact q | exact absurd e (by decide)
  ·cases k<;>first | exact q | exact absurd rfl e
theorem scGcd:FnScope ["one","other"] ["one","other"] (jL GQ):=⟨rfl,rfl,rfl,by decide +kernel,rfl,by decide +kernel,by decide +kernel⟩
theorem NY{X:Cx} :MtR X "int.bit_length" (λx xs H Q=>∃i:Int,x=.int i/\xs=[]/\Q (.int (Builtin.Int.intBits i:Nat)) H):=by
 intro ac s σ H x xs v us Q I rx rs q;obtain⟨i,rfl,rfl,q⟩:=q;obtain⟨t,rfl⟩:=rx;cases rs;exact call_int_bit_length ⟨.int (Builtin.Int.intBits i:Nat),H,I.tok _,⟨_,rfl⟩,q⟩
theorem HI(F:Fun K "greatest_divisor" "greatest_divisor" GQ f fd)(T:Txt mg):FnOk P w K mg base CX0 1 f fd ["one","other"] spGcd:=by
 obtain⟨tl,hl⟩:=T.lbits;refine F.ok scGcd (λvs H Q E h=>?_) (λcdv A outer s H vs Q E hr h=>?_)
 ·obtain⟨a,b,rfl,_⟩:=h
  rfl
 ·obtain⟨a,b,rfl,hb,hs,k⟩:=h;refine⟨_,jC (IY PassesOwn.never (jV AC (pv 1) jJ (jU _))
    (jE (kR (jV xS (TX PySem.F.plainAttrs_int slot_int_bit_length type_int_bit_length NY (pv 1)) (kQ (v:=.int 8000) (by rfl) hl ⟨_,rfl⟩) (jU _)) EJ
     (jE (TK (i:=0) (j:=1) rfl scGcd.nd rfl rfl (by decide) rfl rfl (jA (pv 1) (jA (jW uR (pv 0) (pv 1)) jB)) rfl)))))
   (jE (jO (pv 0))), ?_⟩
  refine IE (fun σ H1=>H1=H/\∃p q:Int,σ=[some (.int p),some (.int q)]/\0<=q/\(0<q∨0<=p)/\q.natAbs<2^8000/\Int.gcd p q=Int.gcd a b)
   (fun σ _=>match σ with | [_,some (.int q)]=>q.toNat | _=>0) ⟨rfl,a,b,rfl,by omega,.inl hb,hs,rfl⟩ ?_ ?_
  ·rintro σ H1 ⟨rfl,p,q,rfl,h0,h1,hq8,h2⟩;refine⟨_,rfl,rfl,_,rfl, ?_⟩;refine AN (λe=>?_) (λe=>?_)
   ·have hq:0<q:=by
     have:q≠0:=λz=>by simp [z]at e
     omega
    have hbits:(Builtin.Int.intBits q)<=8000:=PySem.intBits_le_iff.mpr hq8;refine⟨_,rfl,rfl,_,rfl,rfl,_,_,rfl,rfl,_,rfl,vI (mU (by omega)) ?_⟩;refine⟨_,rfl,_,rfl,_,rfl,_,_,rfl,rfl,hq,_,_,rfl, ?_⟩;have m1:=Int.emod_nonneg p (b:=q) (by omega);have m2:=Int.emod_lt_of_pos p hq;have m3:(p%q).natAbs<=q.natAbs:=by omega
    refine⟨⟨rfl,q,p%q,rfl,m1,.inr h0,gX m3 hq8,(LwM.JY p q).trans h2⟩, ?_⟩;show(p%q).toNat<q.toNat;omega
   ·have hq:q=0:=by
     by_cases z:q=0
     ·exact z
     ·exact absurd (by simp [z]) e
    subst hq;refine⟨_,rfl, ?_⟩;have:p=((Int.gcd a b:Nat):Int):=by
     rw[<-h2,Int.gcd_zero_right];omega
    rw[this];exact k
  ·rintro σ H1 Q1 Q2 hQ ⟨v,e,hs,k',ek,q⟩;exact⟨v,e,hs,k',ek,hQ _ _ q⟩
theorem scIsf:FnScope ["thing","top","bottom"] ["thing"] (jL PM):=⟨rfl,rfl,rfl,by decide +kernel,rfl,by decide +kernel,by decide +kernel⟩
theorem UQ{fW fG:Addr}{fdW fdG:FuncData}(F:Fun K "is_fraction" "is_fraction" PM f fd)(T:Txt mg)(DW:Df K mg "is_whole" uO ["thing"] fW fdW)(DG:Df K mg "greatest_divisor" GQ ["one","other"] fG fdG) :
  FnOk P w K mg base CX0 2 f fd ["thing"] spIsf:=by
 have GW:FnOk P w K mg base CX0 1 fW fdW ["thing"] spWhole:=JG DW.F T;have GG:FnOk P w K mg base CX0 1 fG fdG ["one","other"] spGcd:=HI DG.F T;refine F.ok scIsf (λvs H Q E h=>?_) (λcdv A outer s H vs Q E hr h=>?_)
 ·obtain⟨v,rfl,_⟩:=h
  rfl
 ·obtain⟨v,rfl,hv,q⟩:=h;refine⟨_,jC (kR (PW.pt (yZ (vD (qY (yM wY T.isi T.tup boot_tuple (pv 0)))) (xU (jV AC (kN qD (by rfl) T.len PySem.boot_len (jA (pv 0) jB)) jJ (jU _))))) (jE (jO yB)) kA)
   (jC (qZ (pv 0) (kD rfl (jG (jF (i:=1) scIsf.nd rfl (Or.inl rfl)) (jG (jF (i:=2) scIsf.nd rfl (Or.inl rfl)) jR))))
   (jC (kR (PW.pt (yZ (vD (qY (jI GW hr rfl DW.m DW.F.kp DW.b .nil jM (jA (pv 1) jB)))) (yZ (vD (qY (jI GW hr rfl DW.m DW.F.kp DW.b .nil jM (jA (pv 2) jB)))) (xU (jV UC (pv 2) jJ (jU _)))))) (jE (jO yB)) kA)
   (jE (jO (qV zF (jI GG hr rfl DG.m DG.F.kp DG.b .nil jM (jA (pv 1) (jA (pv 2) jB))) jJ (jU _)))))), ?_⟩
  cases hv with
  | @sc _ k hk n=>
   refine⟨_,rfl,rfl,k,hk,_,rfl, ?_⟩;refine xO (by cases k<;>first | rfl | exact absurd rfl n) (kI ?_);show Q (.bl false) H;rw[ZK hk n]at q;exact q
  | @tup a xs e hx=>
   rw[CS e]at q;refine⟨_,rfl,rfl,.tup,.tup e,_,rfl,vW ?_⟩;refine⟨_,rfl,a,xs,rfl,.inr (SqT.of e),rfl,_,rfl, ?_⟩;by_cases hl:xs.length=2
   ·match xs,hl,hx,e,q with
    | [x,y],_,hx,e,q=>
     refine vW ?_;obtain⟨_,k1,h1⟩:=hx x (by simp);obtain⟨_,k2,h2⟩:=hx y (by simp);refine⟨_,rfl,a,[x,y],rfl,SqT.of e,rfl,x,[y],rfl,y,[],rfl,rfl, ?_⟩;refine⟨_,rfl,x,k1,rfl,h1,_,rfl, ?_⟩;by_cases e1:k1=.int
     ·subst e1;cases h1 with
      | int t=>
      refine vW ?_;refine⟨_,rfl,y,k2,rfl,h2,_,rfl, ?_⟩;by_cases e2:k2=.int
      ·subst e2;cases h2 with
       | int b=>
       refine vW ?_;refine⟨_,rfl,_,_,rfl,rfl,_,rfl, ?_⟩;by_cases hb:b<1
       ·refine xO (mX hb) ?_;have z:zC [.int t,.int b]=false:=by
         show(decide (1<=b)&&_)=false;rw[mU (by omega)]
         rfl
        rw[z]at q;exact q
       ·refine vI (mU hb) ?_;refine⟨_,rfl,_,rfl,t,b,rfl,by omega,hJ (hx (.int b) (by simp)).1 (gS (by decide) (by decide)),rfl, ?_⟩;have z:zC [.int t,.int b]=decide (V.int (Int.gcd t b:Int)=V.int 1):=by
         show(decide (1<=b)&&decide (Int.gcd t b=1))=_;rw[mX (by omega:1<=b),BK];by_cases g:Int.gcd t b=1
         ·simp [g]
         ·have:¬((Int.gcd t b:Int)=1):=by omega
          simp [g,this]
        rw[z]at q;exact q
      ·refine xO (by simp [e2]) ?_;refine kI ?_;rw[TZ (by cases h2<;>first | exact absurd rfl e2 | (intro n z;cases z))]at q;exact q
     ·refine xO (by simp [e1]) ?_;refine kI ?_;rw[UA (by cases h1<;>first | exact absurd rfl e1 | (intro n z;cases z))]at q;exact q
   ·refine xO ?_ ?_
    ·rw[mU]
     ·rfl
     ·intro z;injection z with z
      omega
    ·rw[CH hl]at q;exact q
theorem OC{t b:Int}(h:0<b):yD t b=t/(Int.gcd t b:Int)/\yU t b=b/(Int.gcd t b:Int):=by
 unfold yD yU;rw[nZ (by omega),nZ (by omega)];exact⟨rfl,rfl⟩
end Lw
namespace LwV
abbrev Pl:=List (List Int×Rat)
def cf:Pl->List Int->Rat
 | [],_=>0
 | x::P,m=>(if x.1=m then x.2 else 0)+cf P m
theorem OS(x:List Int×Rat)(P:Pl)(m:List Int):cf (x::P) m=(if x.1=m then x.2 else 0)+cf P m:=rfl
theorem cf_out{P:Pl}{m:List Int}(h:∀x∈P,x.1≠m):cf P m=0:=by
 induction P with
 | nil=>rfl
 | cons x P ih=>
  rw[OS,nZ (h x (by simp)),ih λy hy=>h y (by simp [hy])]
  grind
end LwV
namespace LwQ
theorem yG{a:Int}{m n:Nat}(ha:a.natAbs<=2^m)(h:m<=n):a.natAbs<=2^n:=nL ha (gS (by decide) h)
end LwQ
namespace Lw
open PySem PySem.Spec PyProof.Rows L2
structure FrOk(n:Nat)(t b:Int):Prop where
 pos:0<b
 low:Int.gcd t b=1
 st:t.natAbs<2^n
 sb:b.natAbs<2^n
def At2(H:Hp)(p:Addr)(t b:Int):Prop:=H p=some (.tup [.int t,.int b])
theorem uK{a b:Int}{m n:Nat}(ha:a.natAbs<2^m)(hb:b.natAbs<2^n):(a*b).natAbs<2^(m+n):=by
 rw[mY,nU];exact Nat.mul_lt_mul'' ha hb
theorem ZR{a b:Int}{n:Nat}(ha:a.natAbs<2^n)(hb:b.natAbs<2^n):(a+b).natAbs<2^(n+1):=by
 rw[Nat.pow_succ];omega
theorem jQ{a:Int}{m n:Nat}(ha:a.natAbs<2^m)(h:m<=n):a.natAbs<2^n:=hJ ha (gS (by decide) h)
theorem vT{a g:Int}{n:Nat}(ha:a.natAbs<2^n)(hg:1<=g):(a/g).natAbs<2^n:=gX (LwM.uC a g hg) ha
theorem BG{a b:Int}{n:Nat}(hb:0<b)(hs:b.natAbs<2^n):((Int.gcd a b:Nat):Int).natAbs<2^n:=by
 have:=LwM.gcd_le a b hb;have:=LwM.qW a b hb;omega
theorem qU{t b:Int}(h:0<b):yD t b=t/(Int.gcd t b:Int):=(OC h).1
theorem xI{t b:Int}(h:0<b):yU t b=b/(Int.gcd t b:Int):=(OC h).2
def ZZ(K:tF)(nt nb:Int->Int->Int->Int->Int):Sp:=λvs H Q _=>∃(p q:Addr) (t b o u:Int),vs=[.ref p,.ref q]/\SqT K H p [.int t,.int b]/\SqT K H q [.int o,.int u]/\FrOk 7900 t b/\FrOk 7900 o u/\
 ∀(r:Addr) (H':Hp),H r=none->Same H H'->At2 H' r (yD (nt t b o u) (nb t b o u)) (yU (nt t b o u) (nb t b o u))->Q (.ref r) H'
abbrev uY(K:tF):Sp:=ZZ K (λt _ o _=>t*o) (λ_ b _ u=>b*u)
theorem kU{K:tF}{H H':Hp}{a:Addr}{xs:List V}(s:Same H H')(h:SqT K H a xs):SqT K H' a xs:=by
 rcases h with(h | ⟨o,h⟩) | h
 ·exact .inl (.inl (s _ _ h))
 ·exact .inl (.inr ⟨o,s _ _ h⟩)
 ·exact .inr h
variable{P:Program}{w:World}{K:tF}{mg:Str->Option Value}{base:Heap}{f fd:_}
theorem scMul:FnScope ["one","other","top","bottom","over","under","first","second"] ["one","other"] (jL IQ):=⟨rfl,rfl,rfl,by decide +kernel,rfl,by decide +kernel,by decide +kernel⟩
theorem UN{fG:Addr}{fdG:FuncData}(F:Fun K "multiplied" "multiplied" IQ f fd)(T:Txt mg)(DG:Df K mg "greatest_divisor" GQ ["one","other"] fG fdG):FnOk P w K mg base CX0 2 f fd ["one","other"] (uY K):=by
 have GG:FnOk P w K mg base CX0 1 fG fdG ["one","other"] spGcd:=HI DG.F T;refine F.ok scMul (λvs H Q E h=>?_) (λcdv A outer s H vs Q E hr h=>?_)
 ·obtain⟨p,q,t,b,o,u,rfl,_⟩:=h
  rfl
 ·obtain⟨p,q,t,b,o,u,rfl,hp,hq,f1,f2,k⟩:=h;refine⟨_,jC (qZ (pv 0) (kD rfl (jG (jF (i:=2) scMul.nd rfl (Or.inl rfl)) (jG (jF (i:=3) scMul.nd rfl (Or.inl rfl)) jR))))
   (jC (qZ (pv 1) (kD rfl (jG (jF (i:=4) scMul.nd rfl (Or.inl rfl)) (jG (jF (i:=5) scMul.nd rfl (Or.inl rfl)) jR))))
   (jC (jP (i:=6) scMul.nd rfl (Or.inl rfl) (jI GG hr rfl DG.m DG.F.kp DG.b .nil jM (jA (pv 2) (jA (pv 5) jB))))
   (jC (jP (i:=7) scMul.nd rfl (Or.inl rfl) (jI GG hr rfl DG.m DG.F.kp DG.b .nil jM (jA (pv 4) (jA (pv 3) jB))))
   (jE (jO (jS (jA (jW kZ (jW vF (pv 2) (pv 6)) (jW vF (pv 4) (pv 7))) (jA (jW kZ (jW vF (pv 3) (pv 7)) (jW vF (pv 5) (pv 6))) jB)))))))), ?_⟩
  try dsimp only[cxK]
  refine⟨_,rfl,p,_,rfl,hp,rfl,_,_,rfl,_,_,rfl,rfl, ?_⟩;refine⟨_,rfl,q,_,rfl,hq,rfl,_,_,rfl,_,_,rfl,rfl, ?_⟩;refine⟨_,rfl,_,rfl,t,u,rfl,f2.pos,jQ f2.sb (by decide), ?_⟩;refine⟨_,rfl,_,rfl,o,b,rfl,f1.pos,jQ f1.sb (by decide), ?_⟩;have a1:=LwM.qW t u f2.pos;have a2:=LwM.qW o b f1.pos;have d1:CDivL t (Int.gcd t u:Int):=⟨by omega,jQ (BG f2.pos f2.sb) (by decide)⟩;have d2:CDivL t (Int.gcd o b:Int):=⟨by omega,jQ (BG f1.pos f1.sb) (by decide)⟩;have m:=LwM.YS f1.pos f2.pos f1.low f2.low;refine⟨_,rfl,_,rfl,_,_,rfl,rfl,d1,_,rfl,_,rfl,_,_,rfl,rfl,d2,_,_,rfl,rfl,⟨jQ (vT f1.st a1) (by decide),jQ (vT f2.st a2) (by decide)⟩, ?_⟩;refine⟨_,rfl,_,rfl,_,_,rfl,rfl,d2,_,rfl,_,rfl,_,_,rfl,rfl,d1,_,_,rfl,rfl,⟨jQ (vT f1.sb a2) (by decide),jQ (vT f2.sb a1) (by decide)⟩,gD,λr H' n s e=>?_⟩;refine k r H' n s ?_;have bu:=nS f1.pos f2.pos;show H' r=_;rw[e,qU bu,xI bu];dsimp only;rw[m.1,m.2]
def uM(K:tF):Sp:=λvs H Q _=>∃(p q:Addr) (t b o u:Int),vs=[.ref p,.ref q]/\SqT K H p [.int t,.int b]/\SqT K H q [.int o,.int u]/\FrOk 7900 t b/\FrOk 7900 o u/\o≠0/\
 ∀(r:Addr) (H':Hp),H r=none->Same H H'->At2 H' r (yD (t*u) (b*o)) (yU (t*u) (b*o))->Q (.ref r) H'
theorem BF{t b:Int}(h:b<0):yD (-t) (-b)=yD t b/\yU (-t) (-b)=yU t b:=by
 unfold yD yU;simp only[nZ (show ¬(-b<0) by omega),tD h,Int.neg_gcd,Int.gcd_neg,Int.zero_sub];exact⟨trivial,trivial⟩
theorem scDiv:FnScope ["one","other","over","under"] ["one","other"] (jL PN):=⟨rfl,rfl,rfl,by decide +kernel,rfl,by decide +kernel,by decide +kernel⟩
theorem YK{fM fG:Addr}{fdM fdG:FuncData}(F:Fun K "divided" "divided" PN f fd)(T:Txt mg)(DM:Df K mg "multiplied" IQ ["one","other"] fM fdM)(DG:Df K mg "greatest_divisor" GQ ["one","other"] fG fdG):FnOk P w K mg base CX0 3 f fd ["one","other"] (uM K):=by
 have GM:FnOk P w K mg base CX0 2 fM fdM ["one","other"] (uY K):=UN DM.F T DG;refine F.ok scDiv (λvs H Q E h=>?_) (λcdv A outer s H vs Q E hr h=>?_)
 ·obtain⟨p,q,t,b,o,u,rfl,_⟩:=h
  rfl
 ·obtain⟨p,q,t,b,o,u,rfl,hp,hq,f1,f2,ho,k⟩:=h;refine⟨_,jC (qZ (pv 1) (kD rfl (jG (jF (i:=2) scDiv.nd rfl (Or.inl rfl)) (jG (jF (i:=3) scDiv.nd rfl (Or.inl rfl)) jR))))
   (jC (kR (jV zF (pv 2) jJ (jU _)) (jE qO) kA)
   (jC (kR (jV UC (pv 2) jJ (jU _)) (jE (jO (jI GM hr rfl DM.m DM.F.kp DM.b .nil jM (jA (pv 0) (jA (jS (jA (AB yV (pv 3)) (jA (AB yV (pv 2)) jB))) jB))))) kA)
   (jE (jO (jI GM hr rfl DM.m DM.F.kp DM.b .nil jM (jA (pv 0) (jA (jS (jA (pv 3) (jA (pv 2) jB))) jB))))))), ?_⟩
  try dsimp only[cxK]
  refine⟨_,rfl,q,_,rfl,hq,rfl,_,_,rfl,_,_,rfl,rfl, ?_⟩;refine⟨_,rfl,rfl,_,rfl,vI (mU (by intro z;injection z with z;exact ho z)) ?_⟩;refine⟨_,rfl,_,_,rfl,rfl,_,rfl, ?_⟩;have gc:Int.gcd u o=1:=by rw[Int.gcd_comm];exact f2.low
  by_cases hn:o<0
  ·refine xO (mX hn) ?_;refine⟨_,rfl,_,rfl,_,rfl,_,rfl,_,rfl,gD,λz H1 n1 s1 e1=>?_⟩;refine⟨p,z,t,b,-u,-o,rfl,kU s1 hp,SqT.of e1,f1,⟨by omega,by rw[Int.neg_gcd,Int.gcd_neg];exact gc,by rw[Int.natAbs_neg];exact f2.sb,by rw[Int.natAbs_neg];exact f2.st⟩,λr H' n s e=>?_⟩;refine k r H' (s1.free n) (s1.trans s) ?_;dsimp only at e;rw[Int.mul_neg,Int.mul_neg,(BF (Int.mul_neg_of_pos_of_neg f1.pos hn)).1,(BF (Int.mul_neg_of_pos_of_neg f1.pos hn)).2]at e;exact e
  ·refine vI (mU hn) ?_;refine⟨_,rfl,_,rfl,_,rfl,gD,λz H1 n1 s1 e1=>?_⟩;refine⟨p,z,t,b,u,o,rfl,kU s1 hp,SqT.of e1,f1,⟨by omega,gc,f2.sb,f2.st⟩,λr H' n s e=>?_⟩;exact k r H' (s1.free n) (s1.trans s) e
abbrev yW(K:tF):Sp:=ZZ K (λt b o u=>t*u+o*b) (λ_ b _ u=>b*u)
theorem scAddF:FnScope ["one","other","top","bottom","over","under","shared","total","left"] ["one","other"] (jL uZ):=⟨rfl,rfl,rfl,by decide +kernel,rfl,by decide +kernel,by decide +kernel⟩
theorem YM{fG:Addr}{fdG:FuncData}(F:Fun K "added" "added" uZ f fd)(T:Txt mg)(DG:Df K mg "greatest_divisor" GQ ["one","other"] fG fdG):FnOk P w K mg base CX0 2 f fd ["one","other"] (yW K):=by
 have GG:FnOk P w K mg base CX0 1 fG fdG ["one","other"] spGcd:=HI DG.F T;refine F.ok scAddF (λvs H Q E h=>?_) (λcdv A outer s H vs Q E hr h=>?_)
 ·obtain⟨p,q,t,b,o,u,rfl,_⟩:=h
  rfl
 ·obtain⟨p,q,t,b,o,u,rfl,hp,hq,f1,f2,k⟩:=h;refine⟨_,jC (qZ (pv 0) (kD rfl (jG (jF (i:=2) scAddF.nd rfl (Or.inl rfl)) (jG (jF (i:=3) scAddF.nd rfl (Or.inl rfl)) jR))))
   (jC (qZ (pv 1) (kD rfl (jG (jF (i:=4) scAddF.nd rfl (Or.inl rfl)) (jG (jF (i:=5) scAddF.nd rfl (Or.inl rfl)) jR))))
   (jC (jP (i:=6) scAddF.nd rfl (Or.inl rfl) (jI GG hr rfl DG.m DG.F.kp DG.b .nil jM (jA (pv 3) (jA (pv 5) jB))))
   (jC (jP (i:=7) scAddF.nd rfl (Or.inl rfl) (jW vJ (jW kZ (pv 2) (jW vF (pv 5) (pv 6))) (jW kZ (pv 4) (jW vF (pv 3) (pv 6)))))
   (jC (jP (i:=8) scAddF.nd rfl (Or.inl rfl) (jI GG hr rfl DG.m DG.F.kp DG.b .nil jM (jA (pv 7) (jA (pv 6) jB))))
   (jE (jO (jS (jA (jW vF (pv 7) (pv 8)) (jA (jW kZ (jW vF (pv 3) (pv 6)) (jW vF (pv 5) (pv 8))) jB))))))))), ?_⟩
  refine⟨_,rfl,p,_,rfl,hp,rfl,_,_,rfl,_,_,rfl,rfl, ?_⟩;refine⟨_,rfl,q,_,rfl,hq,rfl,_,_,rfl,_,_,rfl,rfl, ?_⟩;have s1:=LwM.qW b u f2.pos;have sA:((Int.gcd b u:Nat):Int).natAbs<2^7900:=BG f2.pos f2.sb;have sD:CDivL u (Int.gcd b u:Int):=⟨by omega,jQ sA (by decide)⟩;refine⟨_,rfl,_,rfl,b,u,rfl,f2.pos,jQ f2.sb (by decide), ?_⟩;refine⟨_,rfl,_,rfl,_,rfl,_,_,rfl,rfl,sD,_,_,rfl,rfl,⟨jQ f1.st (by decide),jQ (vT f2.sb s1) (by decide)⟩, ?_⟩;refine⟨_,rfl,_,rfl,_,rfl,_,_,rfl,rfl,sD,_,_,rfl,rfl,⟨jQ f2.st (by decide),jQ (vT f1.sb s1) (by decide)⟩,_,_,rfl,rfl, ?_⟩;have tA:(t*(u/(Int.gcd b u:Int))+o*(b/(Int.gcd b u:Int))).natAbs<2^15801:=ZR (n:=15800) (uK (m:=7900) (n:=7900) f1.st (vT f2.sb s1)) (uK (m:=7900) (n:=7900) f2.st (vT f1.sb s1));refine⟨_,rfl,_,rfl,_,_,rfl,by omega,jQ sA (by decide), ?_⟩;have m:=LwM.ZQ f1.pos f2.pos f1.low f2.low;have l1:=LwM.qW (t*(u/(Int.gcd b u:Int))+o*(b/(Int.gcd b u:Int))) (Int.gcd b u:Int) (by omega);have lA:((Int.gcd (t*(u/(Int.gcd b u:Int))+o*(b/(Int.gcd b u:Int))) (Int.gcd b u:Int):Nat):Int).natAbs<2^7900:=BG (by omega) sA;generalize hT:t*(u/(Int.gcd b u:Int))+o*(b/(Int.gcd b u:Int))=T at *;generalize hl:(Int.gcd T (Int.gcd b u:Int):Int)=l at *;have lD:CDivL u l:=⟨by omega,jQ lA (by decide)⟩;refine⟨_,rfl,_,rfl,_,_,rfl,rfl,lD,_,rfl,_,rfl,_,_,rfl,rfl,sD,_,rfl,_,rfl,_,_,rfl,rfl,lD,_,_,rfl,rfl,⟨jQ (vT f1.sb s1) (by decide),jQ (vT f2.sb (by omega)) (by decide)⟩,gD,λr H' n s e=>?_⟩
  refine k r H' n s ?_;have bu:=nS f1.pos f2.pos;show H' r=_;rw[e,qU bu,xI bu];dsimp only;rw[hT,m.1,m.2]
open LwQ LwV
end Lw
namespace LwQ
def fv(t b:Int):Rat:=(t:Rat)/(b:Rat)
theorem cne{b:Int}(h:0<b):(b:Rat)≠0:=by
 intro z;have:b=0:=Rat.intCast_inj.mp (by rw[z];rfl);omega
theorem VR{t b o u:Int}(hb:0<b)(hu:0<u)(h:t*u=o*b):fv t b=fv o u:=by
 have h1:=cne hb;have h2:=cne hu;have h3:(t:Rat)*(u:Rat)=(o:Rat)*(b:Rat):=by rw[<-mW,<-mW,h]
 unfold fv
 grind
theorem VQ{t b o u:Int}(hb:0<b)(hu:0<u)(h:fv t b=fv o u):t*u=o*b:=by
 have h1:=cne hb;have h2:=cne hu;unfold fv at h;have h3:(t:Rat)*(u:Rat)=(o:Rat)*(b:Rat):=by grind
 rw[<-mW,<-mW]at h3;exact Rat.intCast_inj.mp h3
theorem fv_add{t b o u:Int}(hb:0<b)(hu:0<u):fv (t*u+o*b) (b*u)=fv t b+fv o u:=by
 have h1:=cne hb;have h2:=cne hu;unfold fv;rw[Rat.intCast_add,mW,mW,mW]
 grind
theorem VP{t b o u:Int}(hb:0<b)(hu:0<u):fv (t*o) (b*u)=fv t b*fv o u:=by
 have h1:=cne hb;have h2:=cne hu;unfold fv;rw[mW,mW]
 grind
theorem BI{b t u:Int}(g:Int.gcd t b=1)(h:b∣t*u):b∣u:=by
 have h:=Int.natAbs_dvd_natAbs.mpr h;rw[mY]at h;have c:Nat.Coprime b.natAbs t.natAbs:=by
  have:Nat.gcd t.natAbs b.natAbs=1:=g;rw[Nat.gcd_comm]at this;exact this
 exact Int.natAbs_dvd_natAbs.mp (c.dvd_of_dvd_mul_left h)
theorem VD{t b o u:Int}(hb:0<b)(hu:0<u)(g1:Int.gcd t b=1)(g2:Int.gcd o u=1)(h:t*u=o*b):t=o/\b=u:=by
 have d1:b∣u:=by
  have:b∣t*u:=⟨o,by rw[h,nP]⟩;exact BI g1 this
 have d2:u∣b:=by
  have:u∣o*b:=⟨t,by rw[<-h,nP]⟩;exact BI g2 this
 have e:b=u:=Int.dvd_antisymm (by omega) (by omega) d1 d2;subst e;exact⟨Int.eq_of_mul_eq_mul_right (by omega) h,rfl⟩
theorem vX(x:Rat):fv x.num x.den=x:=by
 unfold fv;have:=Rat.num_divInt_den x;rw[Rat.divInt_eq_div]at this;exact this
theorem kT(x:Rat):0<(x.den:Int)/\Int.gcd x.num x.den=1:=⟨by have:=x.den_pos;omega,x.reduced⟩
theorem num_of{t b:Int}(hb:0<b)(g:Int.gcd t b=1):(fv t b).num=t/\((fv t b).den:Int)=b:=by
 have n:=kT (fv t b);have e:=VQ n.1 hb (vX (fv t b));exact VD n.1 hb n.2 g e
def Wh(D:Int)(x:Rat):Prop:=∃z:Int,x*(D:Rat)=(z:Rat)
theorem Wh.dvd{D t b:Int}(hb:0<b)(g:Int.gcd t b=1)(h:Wh D (fv t b)):b∣D:=by
 obtain⟨z,hz⟩:=h;have h1:=cne hb;have e:(t:Rat)*(D:Rat)=(z:Rat)*(b:Rat):=by unfold fv at hz;grind
 rw[<-mW,<-mW]at e;have e:=Rat.intCast_inj.mp e;have:b∣t*D:=⟨z,by rw[e,nP]⟩;exact BI g this
theorem Wh.of{t b:Int}(hb:0<b):Wh b (fv t b):=⟨t,by have h1:=cne hb;unfold fv;grind⟩
end LwQ
namespace Lw
open PySem PySem.Spec PyProof.Rows L2 LwQ
theorem QK{n d:Int}(hd:0<d):yD n d*d=n*yU n d:=by
 rw[qU hd,xI hd];obtain⟨a,ha⟩:=mQ (a:=n) (b:=d);obtain⟨b,hb⟩:=mI (a:=n) (b:=d);have g1:=LwM.qW n d hd;generalize (Int.gcd n d:Int)=g at ha hb g1;subst ha hb;rw[Int.mul_ediv_cancel_left _ (by omega),Int.mul_ediv_cancel_left _ (by omega)]
 grind
theorem JU{n d:Int}(hd:0<d):0<yU n d:=by
 have g1:=LwM.qW n d hd;rw[xI hd];exact Int.ediv_pos_of_pos_of_dvd hd (by omega) (mI ..)
theorem OD{n d:Int}(hd:0<d):Int.gcd (yD n d) (yU n d)=1:=by
 have g1:=LwM.qW n d hd;rw[qU hd,xI hd];exact Int.gcd_ediv_gcd_ediv_gcd (by omega)
theorem YW{n d:Int}(hd:0<d):(yD n d).natAbs<=n.natAbs:=by
 rw[qU hd];exact LwM.uC _ _ (LwM.qW n d hd)
theorem fv_low{n d:Int}(hd:0<d):fv (yD n d) (yU n d)=fv n d:=VR (JU hd) hd (QK hd)
theorem cross{x:Rat}{t b:Int}(hb:0<b)(h:x=fv t b):x.num*b=t*x.den:=by
 have n:=kT x;exact VQ n.1 hb (by rw[vX,h])
def SzR(n:Nat)(x:Rat):Prop:=x.num.natAbs<2^n/\x.den<2^n
theorem SzR.fr{n:Nat}{x:Rat}(h:SzR n x)(k:n<=7900):FrOk 7900 x.num x.den:=
 ⟨(kT x).1,(kT x).2,jQ h.1 k,jQ (by rw[hV];exact h.2) k⟩
theorem uX{H:Hp}{r:Addr}{N D:Int}{z:Rat}(h:At2 H r (yD N D) (yU N D))(hD:0<D)(e:fv N D=z):At2 H r z.num z.den:=by
 have nm:=num_of (JU (n:=N) hD) (OD hD);rw[fv_low hD,e]at nm;unfold At2;rw[nm.1,nm.2];exact h
theorem ZP{H:Hp}{r:Addr}{N D:Int}{z:Rat}(h:At2 H r (yD N D) (yU N D))(hD:D≠0)(e:fv N D=z):At2 H r z.num z.den:=by
 by_cases p:0<D
 ·exact uX h p e
 ·have q:D<0:=by omega
  rw[<-(BF q).1,<-(BF q).2]at h;refine uX h (by omega) ?_;rw[<-e];unfold fv;rw[Rat.intCast_neg,Rat.intCast_neg];have:(D:Rat)≠0:=λz=>hD (Rat.intCast_inj.mp (by rw[z];rfl))
  grind
theorem BJ{x:Rat}{t b:Int}(hb:0<b)(h:x=fv t b):(x.den:Int)∣b/\x.num.natAbs<=t.natAbs:=by
 have n:=kT x;have d:(x.den:Int)∣b:=Wh.dvd n.1 n.2 (by rw[vX,h];exact Wh.of hb);refine⟨d, ?_⟩;obtain⟨k,hk⟩:=d;have c:=cross hb h;have k0:k≠0:=λz=>by rw[z,Int.mul_zero]at hk;omega
 have:x.num*k=t:=by
  have e:x.den*(x.num*k)=x.den*t:=by rw[hk]at c;grind
  exact Int.eq_of_mul_eq_mul_left (by omega) e
 rw[<-this,mY];exact Nat.le_mul_of_pos_right _ (by omega)
structure Ov(D:Int)(n:Nat)(x:Rat):Prop where
 ex:∃z:Int,x=fv z D/\z.natAbs<=2^n
theorem Ov.sz{D:Int}{n d k:Nat}{x:Rat}(h:Ov D n x)(hD:0<D)(hd:D.natAbs<=2^d)(h1:n<k)(h2:d<k):SzR k x:=by
 obtain⟨z,e,hz⟩:=h.ex;have q:=BJ hD e;have l:x.den<=D.natAbs:=by
  have:=Int.natAbs_dvd_natAbs.mpr q.1;rw[hV]at this;exact Nat.le_of_dvd (by omega) this
 exact⟨gX (nL q.2 hz) (gT (by decide) h1),gX (nL l hd) (gT (by decide) h2)⟩
theorem Ov.up{D:Int}{n m:Nat}{x:Rat}(h:Ov D n x)(k:n<=m):Ov D m x:=let ⟨z,e,hz⟩:=h.ex;⟨z,e,nL hz (gS (by decide) k)⟩
theorem Ov.zero(D:Int)(n:Nat):Ov D n 0:=⟨0,by unfold fv;rw[show((0:Int):Rat)=0 from rfl,nT,Rat.zero_mul],nR _⟩
theorem Ov.scale{D c:Int}{n b:Nat}{x:Rat}(h:Ov D n x)(hD:0<D)(hc:0<c)(hb:c.natAbs<=2^b):Ov (D*c) (n+b) x:=by
 obtain⟨z,e,hz⟩:=h.ex;refine⟨z*c, ?_, ?_⟩
 ·rw[e];exact VR hD (nS hD hc) (by grind)
 ·rw[mY,nU];exact mZ hz hb
theorem ZI{z y D:Int}(hD:0<D):fv z D+fv y D=fv (z+y) D:=by
 have h1:=cne hD;unfold fv;rw[Rat.intCast_add]
 grind
theorem Ov.add{D:Int}{n:Nat}{x y:Rat}(h:Ov D n x)(k:Ov D n y)(hD:0<D):Ov D (n+1) (x+y):=by
 obtain⟨z,e,hz⟩:=h.ex;obtain⟨z',e',hz'⟩:=k.ex;refine⟨z+z',by rw[e,e',ZI hD], ?_⟩;rw[Nat.pow_succ];omega
theorem Ov.imul{D i:Int}{n b:Nat}{x:Rat}(h:Ov D n x)(hi:i.natAbs<=2^b):Ov D (n+b) ((i:Rat)*x):=by
 obtain⟨z,e,hz⟩:=h.ex;refine⟨i*z, ?_, ?_⟩
 ·rw[e];unfold fv;rw[mW,nT,nT,Rat.mul_assoc]
 ·rw[mY,Nat.add_comm,nU];exact mZ hi hz
theorem Ov.div{D c:Int}{n:Nat}{x:Rat}(h:Ov D n x)(hD:0<D)(hc:c≠0):Ov (D*(c.natAbs:Int)) n (x/((c:Int):Rat)):=by
 obtain⟨z,e,hz⟩:=h.ex;have h1:=cne hD;have h2:(c:Rat)≠0:=λy=>hc (Rat.intCast_inj.mp (by rw[y];rfl));by_cases p:0<c
 ·refine⟨z, ?_,hz⟩;rw[show(c.natAbs:Int)=c by omega,e];unfold fv;rw[mW]
  grind
 ·refine⟨-z, ?_,by rw[Int.natAbs_neg];exact hz⟩;rw[show(c.natAbs:Int) = -c by omega,e];unfold fv;rw[mW,Rat.intCast_neg,Rat.intCast_neg]
  grind
theorem HU(i:Int):((i:Int):Rat).num=i/\(((i:Int):Rat).den:Int)=1:=⟨Rat.num_intCast i,by rw[Rat.den_intCast];rfl⟩
theorem HS{i:Int}{n:Nat}(h:i.natAbs<2^n)(hn:0<n):SzR n ((i:Int):Rat):=⟨by rw[(HU i).1];exact h,by rw[Rat.den_intCast];exact Nat.one_lt_two_pow (by omega)⟩
def NumK(K:tF)(H:Hp)(v:V)(x:Rat):Prop:=∃p,v=.ref p/\SqT K H p [.int x.num,.int x.den]
theorem NumK.same{K:tF}{H H':Hp}{v:V}{x:Rat}(h:NumK K H v x)(s:Same H H'):NumK K H' v x:=let ⟨p,e,q⟩:=h;⟨p,e,kU s q⟩
theorem NumK.of{K:tF}{H:Hp}{p:Addr}{x:Rat}(h:At2 H p x.num x.den):NumK K H (.ref p) x:=⟨p,rfl,SqT.of h⟩
theorem FN{K:tF}{H:Hp}{p:Addr}{i:Int}(h:SqT K H p [.int i,.int 1]):SqT K H p [.int ((i:Int):Rat).num,.int ((i:Int):Rat).den]:=by rw[(HU i).1,(HU i).2];exact h
theorem LA{H:Hp}{r:Addr}{x y:Rat}(e:At2 H r (yD (x.num*y.den+y.num*x.den) (x.den*y.den)) (yU (x.num*y.den+y.num*x.den) (x.den*y.den))):At2 H r (x+y).num (x+y).den:=
 uX e (nS (kT x).1 (kT y).1) (by rw[fv_add (kT x).1 (kT y).1,vX,vX])
theorem NV{H:Hp}{r:Addr}{x y:Rat}(e:At2 H r (yD (x.num*y.num) (x.den*y.den)) (yU (x.num*y.num) (x.den*y.den))):At2 H r (x*y).num (x*y).den:=
 uX e (nS (kT x).1 (kT y).1) (by rw[VP (kT x).1 (kT y).1,vX,vX])
theorem LS{y:Rat}(ny:y≠0):y.num≠0:=λz=>ny (by rw[<-vX y,z];unfold fv;rw[show((0:Int):Rat)=0 from rfl,nT,Rat.zero_mul])
theorem divAt{H:Hp}{r:Addr}{x y:Rat}(ny:y≠0)(e:At2 H r (yD (x.num*y.den) (x.den*y.num)) (yU (x.num*y.den) (x.den*y.num))):At2 H r (x/y).num (x/y).den:=by
 have yn:=LS ny;refine ZP e (Int.mul_ne_zero (by have:=(kT x).1;omega) yn) ?_;have h1:=cne (kT x).1;have h2:=cne (kT y).1;have h3:((y.num:Int):Rat)≠0:=λz=>yn (Rat.intCast_inj.mp (by rw[z];rfl))
 conv=>rhs;rw[<-vX x,<-vX y]
 unfold fv;rw[mW,mW]
 grind
end Lw
namespace Lw
open PySem PySem.Spec PyProof.Rows L2
theorem jY{H H':Hp}{l:Addr}{o:HO}(s:Same H H')(n:H l=none):Same H (upd H' l o):=λc u h=>by
 rw[jH (kG h n)];exact s c u h
mutual
theorem DecV.mono{H H':Hp}(e:Same H H'):∀{x:V} {d:PyData},DecV H x d->DecV H' x d
 | _,_,.non=>.non
 | _,_,.bl b=>.bl b
 | _,_,.int i=>.int i
 | _,_,.str x=>.str x
 | _,_,.lst q h=>.lst (e _ _ q) (DecVs.mono e h)
 | _,_,.tup q h=>.tup (e _ _ q) (DecVs.mono e h)
theorem DecVs.mono{H H':Hp}(e:Same H H'):∀{xs:List V} {ds:List PyData},DecVs H xs ds->DecVs H' xs ds
 | _,_,.nil=>.nil
 | _,_,.cons h t=>.cons (DecV.mono e h) (DecVs.mono e t)
end
theorem DecVs.length{H:Hp} :∀{xs:List V} {ds:List PyData},DecVs H xs ds->xs.length=ds.length
 | _,_,.nil=>rfl
 | _,_,.cons _ t=>by simp [DecVs.length t]
theorem DecVs.get{H:Hp} :∀{xs:List V} {ds:List PyData} {i:Nat} {x:V},DecVs H xs ds->xs[i]? = some x->∃d,ds[i]? = some d/\DecV H x d
 | _,_,_,_,.nil,e=>by simp at e
 | _,_,0,_,.cons h _,e=>by
  simp only[List.getElem?_cons_zero,Option.some.injEq]at e;subst e;exact⟨_,rfl,h⟩
 | _,_,i+1,_,.cons _ t,e=>by
  simp only[List.getElem?_cons_succ]at e ⊢;exact DecVs.get t e
def kdD:PyData->Kd
 | .none=>.non | .bool _=>.bl | .int _=>.int | .str _=>.str | .list _=>.lst | .tuple _=>.tup | .dict _=>.non
theorem DecV.kd{H:Hp}{v:V}{d:PyData}(h:DecV H v d):KdOf H v (kdD d):=by
 cases h with
 | non=>exact .non
 | bl b=>exact .bl b
 | int i=>exact .int i
 | str x=>exact .str x
 | lst e _=>exact .lst e
 | tup e _=>exact .tup e
theorem KS{K:tF}{a:Addr}{xs:List V}{n:Nat}{g:TG}{te:TE}{Q:VK}{p:Addr}{H':Hp}(Pv:Nat->List V->Hp->Prop)(hz:xs.length<sizeLine)(h0:Pv 0 [] H')
  (hl:∀i ys H2,Pv i ys H2->SqT K H2 a xs/\H2 p=some (.lst ys))
  (hs:∀i m ys x H2,xs[i]? = some x->m=xs.length-i->ys.length=i->Pv i ys H2->g x (List.replicate n none) H2 fun σ4 H4=>te σ4 H4 λy H5=>H5 p=some (.lst ys)/\∃m',m'<m/\CompW xs Pv (i+1) m' (ys++[y]) (upd H5 p (.lst (ys++[y]))))
  (hd:∀ys H2,ys.length=xs.length->Pv xs.length ys H2->Q (.ref p) H2):CompGo n (Itt K a) g te Q p H':=by
 refine⟨CompW xs Pv,⟨_,rfl,nR _,rfl,h0⟩, ?_⟩;rintro i m ys H2 ⟨hm,hi,hy,hp⟩;obtain⟨q,e⟩:=hl i ys H2 hp;refine⟨e,by omega, ?_⟩;by_cases hlt:i<xs.length
 ·refine .inr ⟨⟨xs,xs[i],q,by simp [hlt]⟩, ?_⟩;rintro x H3 ⟨rfl,y⟩;exact hs i m ys x _ (y xs q) hm hy hp
 ·obtain rfl:i=xs.length:=by omega
  exact .inl ⟨⟨xs,q,nQ _⟩,hd ys H2 hy hp⟩
theorem WL{K:tF}{a b:Addr}{ts us:List V}{n:Nat}{g:TG}{te:TE}{Q:VK}{p:Addr}{H':Hp}(Pv:Nat->List V->Hp->Prop)(hle:us.length<=ts.length)(hz:us.length<sizeLine)(h0:Pv 0 [] H')
  (hl:∀i ys H2,Pv i ys H2->SqT K H2 a ts/\SqT K H2 b us/\H2 p=some (.lst ys))
  (hs:∀i m ys x y c H2,ts[i]? = some x->us[i]? = some y->m=us.length-i->ys.length=i->Pv i ys H2->H2 c=none->g (.ref c) (List.replicate n none) (upd H2 c (.tup [x,y])) fun σ4 H4=>te σ4 H4 λy H5=>H5 p=some (.lst ys)/\∃m',m'<m/\CompW us Pv (i+1) m' (ys++[y]) (upd H5 p (.lst (ys++[y]))))
  (hd:∀ys H2,ys.length=us.length->Pv us.length ys H2->Q (.ref p) H2):CompGo n (Itz K a b) g te Q p H':=by
 refine⟨CompW us Pv,⟨_,rfl,nR _,rfl,h0⟩, ?_⟩;rintro i m ys H2 ⟨hm,hi,hy,hp⟩;obtain⟨q1,q2,e⟩:=hl i ys H2 hp;refine⟨e,by omega, ?_⟩;by_cases hlt:i<us.length
 ·have h2:i<ts.length:=by omega
  refine .inr ⟨⟨ts,us,ts[i],us[i],q1,q2,by simp [h2],by simp [hlt]⟩, ?_⟩;rintro _ _ ⟨c,x,y,hc,rfl,rfl,h1,h2⟩;exact hs i m ys x y c H2 (h1 _ q1) (h2 _ q2) hm hy hp hc
 ·obtain rfl:i=us.length:=by omega
  exact .inl ⟨⟨ts,us,q1,q2,.inr gA⟩,hd ys H2 hy hp⟩
def whF:PyData->Int->Bool
 | .int i,low=>decide (low<=i)
 | _,_=>false
def spWF:Sp:=λvs H Q _=>∃(v:V) (d:PyData) (low:Int),vs=[v,.int low]/\DecV H v d/\Q (.bl (whF d low)) H
def vU:List PyData->List Int
 | []=>[]
 | .int i::r=>i::vU r
 | _::r=>vU r
def pwB:PyData->Int->Bool
 | .tuple ds,aa=>decide ((ds.length:Int)=aa)&&(ds.all λd=>whF d 0)&&decide ((vU ds).sum<=16)
 | _,_=>false
def pwOk:PyData->Prop
 | .tuple ds=>ds.length<=1000/\∀i,PyData.int i∈ds->i<=2^40
 | _=>True
theorem HR{H:Hp} :∀{xs:List V} {ds:List PyData},DecVs H xs ds->(ds.all λd=>whF d 0)=true->xs=(vU ds).map V.int/\(∀n∈vU ds,0<=n/\PyData.int n∈ds)/\(vU ds).length=ds.length
 | _,_,.nil,_=>⟨rfl,λn h=>(by cases h),rfl⟩
 | _,_,.cons (d:=d) (ds:=ds) h t,a=>by
  rw[List.all_cons,mP]at a;obtain⟨e,k,l⟩:=HR t a.2;cases h with
  | int i=>
   refine⟨by rw[e];rfl,λn hn=>?_,by simp [vU,l]⟩;rcases nF.mp hn with rfl | hn
   ·exact⟨mG a.1,hW ..⟩
   ·exact⟨(k n hn).1,gR _ (k n hn).2⟩
  | non=>exact absurd a.1 (by decide)
  | bl b=>exact absurd a.1 (by simp [whF])
  | str x=>exact absurd a.1 (by simp [whF])
  | lst e _=>exact absurd a.1 (by simp [whF])
  | tup e _=>exact absurd a.1 (by simp [whF])
def spPw:Sp:=λvs H Q _=>∃(v:V) (d:PyData) (aa:Int),vs=[v,.int aa]/\DecV H v d/\pwOk d/\∀H',Same H H'->Q (.bl (pwB d aa)) H'
variable{P:Program}{w:World}{K:tF}{mg:Str->Option Value}{base:Heap}{f fd:_}
theorem scWF:FnScope ["thing","low"] ["thing","low"] (jL sWF):=⟨rfl,rfl,rfl,by decide +kernel,rfl,by decide +kernel,by decide +kernel⟩
theorem UF(F:Fun K "is_whole_from" "is_whole_from" sWF f fd)(T:Txt mg):FnOk P w K mg base CX0 1 f fd ["thing","low"] spWF:=by
 refine F.ok scWF (λvs H Q E h=>?_) (λcdv A outer s H vs Q E hr h=>?_)
 ·obtain⟨v,d,low,rfl,_⟩:=h
  rfl
 ·obtain⟨v,d,low,rfl,hd,q⟩:=h;refine⟨_,jE (jO (zB (yM OJ T.isi T.int boot_int (pv 0)) (zB (TV (yM JX T.isi T.bool boot_bool (pv 0))) (uP (qV op_ge (pv 0) (pv 1) (jU _)))))), ?_⟩;refine⟨_,rfl,rfl,_,hd.kd,_,rfl, ?_⟩;cases hd with
  | int i=>
   refine kI ⟨_,rfl,rfl,_,.int i,_,rfl,_,rfl,kI ?_⟩;exact⟨_,rfl,_,rfl,_,_,rfl,rfl,q⟩
  | bl b=>
   refine kI ⟨_,rfl,rfl,_,.bl b,_,rfl,_,rfl,vW ?_⟩;exact q
  | non=>exact vW q
  | str x=>exact vW q
  | lst e _=>exact vW q
  | tup e _=>exact vW q
theorem scPw:FnScope ["thing","many"] ["thing","many"] (jL sPw):=⟨rfl,rfl,rfl,by decide +kernel,rfl,by decide +kernel,by decide +kernel⟩
theorem ok_pw{fW:Addr}{fdW:FuncData}(F:Fun K "are_powers" "are_powers" sPw f fd)(T:Txt mg)(DW:Df K mg "is_whole_from" sWF ["thing","low"] fW fdW):FnOk P w K mg base CX0 3 f fd ["thing","many"] spPw:=by
 have GW:FnOk P w K mg base CX0 1 fW fdW ["thing","low"] spWF:=UF DW.F T;obtain⟨td,hdg⟩:=T.degree;refine F.ok scPw (λvs H Q E h=>?_) (λcdv A outer s H vs Q E hr h=>?_)
 ·obtain⟨v,d,aa,rfl,_⟩:=h
  rfl
 ·obtain⟨v,d,aa,rfl,hd,hp,q⟩:=h;have hr1:Room 1 _:=hr.mono (by decide);refine⟨_,jC (kR (PW.pt (yZ (vD (qY (yM wY T.isi T.tup boot_tuple (pv 0)))) (xU (jV AC (kN qD (by rfl) T.len PySem.boot_len (jA (pv 0) jB)) (pv 1) (jU _))))) (jE (jO yB)) kA)
   (jC (kR (vD (qY (kN (uH rfl) (by rfl) T.all boot_all (jA (CD (N:=["power"]) rfl rfl (by decide +kernel) (by decide +kernel) (by decide +kernel) (xF (pv 0)) (λC fp s2 H2=>jF (i:=0) (show List.Nodup (["power"]:List Str) by decide +kernel) rfl (Or.inl rfl)) (λC fp s2 H2=>jI GW hr1 rfl DW.m DW.F.kp DW.b .nil jM (jA (pv 0) (jA jJ jB)))) jB)))) (jE (jO yB)) kA)
   (jE (jO (qV op_le (kN (FC rfl) (by rfl) T.sum boot_sum (jA (pv 0) jB)) (kQ (v:=.int 16) (by rfl) hdg ⟨_,rfl⟩) (jU _))))), ?_⟩
  refine⟨_,rfl,rfl,_,hd.kd,_,rfl, ?_⟩;cases hd with
  | non=>exact kI (kI (q _ (Same.refl _)))
  | bl b=>exact kI (kI (q _ (Same.refl _)))
  | int i=>exact kI (kI (q _ (Same.refl _)))
  | str x=>exact kI (kI (q _ (Same.refl _)))
  | lst e _=>exact kI (kI (q _ (Same.refl _)))
  | @tup a xs ds e hx=>
   refine vW ⟨_,rfl,a,xs,rfl,.inr (SqT.of e),_,rfl,rfl,_,rfl, ?_⟩;have hlen:=hx.length;by_cases hl:(ds.length:Int)=aa
   ·refine vI (by rw[hlen,hl];simp) ?_;refine⟨_,rfl,a,rfl,⟨xs,SqT.of e⟩,λp H1 n1 s1 e1=>?_⟩;refine KS (xs:=xs) (λi ys H2=>(∀c o,H c=some o->H2 c=some o)/\H2 p=some (.lst ys)/\ys=(ds.take i).map λd=>V.bl (whF d 0)) (by rw[hlen];exact gX hp.1 (by decide)) ⟨s1,e1,rfl⟩ (λi ys H2 h=>⟨SqT.of (h.1 _ _ e),h.2.1⟩) ?_ ?_
    ·rintro i m ys x H2 hx' hm hl' ⟨k1,k2,rfl⟩;obtain⟨d,hd1,hd2⟩:=(hx.mono k1).get hx';refine⟨_,rfl,x,d,0,rfl,hd2, ?_⟩;refine kL hx' hm hl' k2 ⟨λc o h=>?_,jD, ?_⟩
     ·rw[jH (kG h n1)];exact k1 _ _ h
     ·rw[mE,hd1,mT]
      rfl
    ·rintro ys H2 hl' ⟨k1,k2,rfl⟩;rw[hlen,mN]at k2;refine⟨p,ds.map λd=>whF d 0,rfl,SqL.of (by rw[k2,nO];rfl),_,rfl, ?_⟩;have ea:(ds.map λd=>whF d 0).all id=ds.all λd=>whF d 0:=by rw[List.all_map];rfl
     rw[ea];by_cases al:(ds.all λd=>whF d 0)=true
     ·obtain⟨ex,kx,lx⟩:=HR hx al;refine vI (by rw[al];rfl) ?_;refine⟨_,rfl,a,vU ds,rfl,SqT.of (by rw[<-ex];exact k1 _ _ e),λn hn=>⟨(kx n hn).1,hp.2 n (kx n hn).2⟩,by rw[lx];exact hp.1,_,_,rfl,rfl, ?_⟩;have z:pwB (.tuple ds) aa=decide ((vU ds).sum<=16):=by simp only[pwB,hl,al,decide_true,Bool.true_and]
      rw[z]at q;exact q _ k1
     ·have al':(ds.all λd=>whF d 0)=false:=by simpa using al
      refine xO (by rw[al'];rfl) ?_;have z:pwB (.tuple ds) aa=false:=by simp only[pwB,al',Bool.and_false,Bool.false_and]
      rw[z]at q;exact q _ k1
   ·refine xO (by rw[hlen];simp [hl]) ?_;have z:pwB (.tuple ds) aa=false:=by simp [pwB,hl]
    rw[z]at q;exact q _ (Same.refl _)
def EV:PyData->Bool
 | .tuple [.int t,.int b]=>decide (1<=b)&&decide (Int.gcd t b=1)
 | _=>false
def smD:PyData->Prop
 | .int i=>i.natAbs<2^1000
 | _=>True
def frOk:PyData->Prop
 | .tuple ds=>∀x∈ds,smD x
 | _=>True
def nzD:PyData->Bool
 | .tuple [.int t,.int b]=>!decide ([t,b]=[0,1])
 | _=>true
def vA:PyData->Int->Bool
 | .tuple [p,f],aa=>pwB p aa&&(EV f&&nzD f)
 | _,_=>false
def tmOk:PyData->Prop
 | .tuple [p,f]=>pwOk p/\frOk f
 | _=>True
def spTerm:Sp:=λvs H Q _=>∃(v:V) (d:PyData) (aa:Int),vs=[v,.int aa]/\DecV H v d/\tmOk d/\∀H',Same H H'->Q (.bl (vA d aa)) H'
theorem DecVs.sm{H:Hp} :∀{xs:List V} {ds:List PyData},DecVs H xs ds->(∀x∈ds,smD x)->∀x∈xs,Sm x/\∃k,KdOf H x k
 | _,_,.nil,_=>λx h=>(by cases h)
 | _,_,.cons h t,k=>λx hx=>by
  rcases nF.mp hx with rfl | hx
  ·refine⟨?_,_,h.kd⟩;have:=k _ (hW ..);cases h<;>first | exact this | exact trivial
  ·exact DecVs.sm t (λy hy=>k y (gR _ hy)) x hx
theorem VS{H:Hp}{v:V}{d:PyData}(h:DecV H v d)(o:frOk d):Thing H v/\AG H v=EV d:=by
 cases h with
 | non=>exact⟨.sc .non (by decide),rfl⟩
 | bl b=>exact⟨.sc (.bl b) (by decide),rfl⟩
 | int i=>exact⟨.sc (.int i) (by decide),rfl⟩
 | str x=>exact⟨.sc (.str x) (by decide),rfl⟩
 | lst e _=>exact⟨.sc (.lst e) (by decide),by simp only[AG,e];rfl⟩
 | @tup a xs ds e h=>
  refine⟨.tup e (h.sm o), ?_⟩;rw[CS e]
  match xs,ds,h with
  | [],[],_=>rfl
  | [_],[_],.cons h1 .nil=>rw[CH (by simp)];cases h1<;>rfl
  | [_,_],[_,_],.cons h1 (.cons h2 .nil)=>cases h1<;>cases h2<;>rfl
  | _::_::_::_,_::_::_::_,_=>
   rw[CH (by simp)];unfold EV;split
   ·rename_i e;injection e with e
    injection e with _ e
    injection e with _ e
    cases e
   ·rfl
theorem QS{g:PyData}(h:EV g=true):∃t b,g=.tuple [.int t,.int b]:=by
 unfold EV at h;split at h
 ·exact⟨_,_,rfl⟩
 ·cases h
theorem WF{H:Hp}{y:V}{t b:Int}(h:DecV H y (.tuple [.int t,.int b])):∃c,y=.ref c/\H c=some (.tup [.int t,.int b]):=by
 cases h with
 | tup e h=>
  cases h with
  | cons h1 h=>
   cases h with
   | cons h2 h=>
    cases h;cases h1;cases h2;exact⟨_,rfl,e⟩
def Ngt(K:tF)(mg:Str->Option Value):Prop:=∃a,mg "NOUGHT" = some (.ref a)/\∀H,SqT K H a (([0,1]:List Int).map V.int)
theorem scTerm:FnScope ["thing","many","powers","fraction"] ["thing","many"] (jL NB):=⟨rfl,rfl,rfl,by decide +kernel,rfl,by decide +kernel,by decide +kernel⟩
theorem NQ{fW fI fP fH fG:Addr}{fdW fdI fdP fdH fdG:FuncData}(F:Fun K "is_term" "is_term" NB f fd)(T:Txt mg)(N:Ngt K mg)(DW:Df K mg "is_whole_from" sWF ["thing","low"] fW fdW)(DP:Df K mg "are_powers" sPw ["thing","many"] fP fdP)(DI:Df K mg "is_fraction" PM ["thing"] fI fdI)
  (DH:Df K mg "is_whole" uO ["thing"] fH fdH) (DG:Df K mg "greatest_divisor" GQ ["one","other"] fG fdG):FnOk P w K mg base CX0 4 f fd ["thing","many"] spTerm:=by
 have GP:FnOk P w K mg base CX0 3 fP fdP ["thing","many"] spPw:=ok_pw DP.F T DW;have GI:FnOk P w K mg base CX0 2 fI fdI ["thing"] spIsf:=UQ DI.F T DH DG;obtain⟨nA,hn,hN⟩:=N;refine F.ok scTerm (λvs H Q E h=>?_) (λcdv A outer s H vs Q E hr h=>?_)
 ·obtain⟨v,d,aa,rfl,_⟩:=h
  rfl
 ·obtain⟨v,d,aa,rfl,hd,ho,q⟩:=h;have hr2:Room 2 _:=hr.mono (by decide);refine⟨_,jC (kR (PW.pt (yZ (vD (qY (yM wY T.isi T.tup boot_tuple (pv 0)))) (xU (jV AC (kN qD (by rfl) T.len PySem.boot_len (jA (pv 0) jB)) jJ (jU _))))) (jE (jO yB)) kA)
   (jC (qZ (pv 0) (kD rfl (jG (jF (i:=2) scTerm.nd rfl (Or.inl rfl)) (jG (jF (i:=3) scTerm.nd rfl (Or.inl rfl)) jR))))
   (jE (jO (zB (jI GP hr rfl DP.m DP.F.kp DP.b .nil jM (jA (pv 2) (jA (pv 1) jB))) (zB (jI GI hr2 rfl DI.m DI.F.kp DI.b .nil jM (jA (pv 3) jB)) (uP (qV (LwT.op_neT hr.units0) (pv 3) (kQ (v:=.ref nA) (by rfl) hn rfl) (jU _)))))))), ?_⟩
  refine⟨_,rfl,rfl,_,hd.kd,_,rfl, ?_⟩;cases hd with
  | non=>exact kI (kI (q _ (Same.refl _)))
  | bl b=>exact kI (kI (q _ (Same.refl _)))
  | int i=>exact kI (kI (q _ (Same.refl _)))
  | str x=>exact kI (kI (q _ (Same.refl _)))
  | lst e _=>exact kI (kI (q _ (Same.refl _)))
  | @tup a xs ds e hx=>
   refine vW ⟨_,rfl,a,xs,rfl,.inr (SqT.of e),rfl,_,rfl, ?_⟩
   match xs,ds,hx,e,ho,q with
   | [],[],_,e,ho,q=>exact kI (q _ (Same.refl _))
   | [_],[_],_,e,ho,q=>exact kI (q _ (Same.refl _))
   | [x,y],[p,g],.cons h1 (.cons h2 .nil),e,ho,q=>
    refine vW ?_;refine⟨_,rfl,a,[x,y],rfl,SqT.of e,rfl,x,[y],rfl,y,[],rfl,rfl, ?_⟩;refine⟨_,rfl,_,rfl,x,p,aa,rfl,h1,ho.1,λH1 s1=>⟨_,rfl, ?_⟩⟩;cases e1:pwB p aa with
    | false=>
     have z:vA (.tuple [p,g]) aa=false:=by simp only[vA,e1,Bool.false_and]
     rw[z]at q;exact vW (q _ s1)
    | true=>
     obtain⟨t1,t2⟩:=VS (h2.mono s1) ho.2;refine kI ⟨_,rfl,y,rfl,t1,_,rfl, ?_⟩;rw[t2];cases e2:EV g with
     | false=>
      have z:vA (.tuple [p,g]) aa=false:=by simp only[vA,e2,Bool.false_and,Bool.and_false]
      rw[z]at q;exact vW (q _ s1)
     | true=>
      refine kI ?_;have z:vA (.tuple [p,g]) aa=nzD g:=by simp only[vA,e1,e2,Bool.true_and]
      rw[z]at q;obtain⟨t,b,rfl⟩:=QS e2;obtain⟨c,rfl,ec⟩:=WF (h2.mono s1);refine⟨_,rfl,c,nA,[t,b],[0,1],rfl,rfl,SqT.of ec,hN _, ?_⟩;show Q (V.bl (LwT.lexNe [t,b] [0,1])) H1;rw[show LwT.lexNe [t,b] [0,1]=nzD (.tuple [.int t,.int b])from LwT.lexNe_eq [t,b] [0,1]];exact q _ s1
   | x1::x2::x3::xs,d1::d2::d3::ds,hx,e,ho,q=>
    refine xO ?_ (q _ (Same.refl _));rw[mU]
    ·rfl
    ·intro z;injection z with z
     simp only[mO]at z;omega
def wU:PyData->List Int
 | .tuple (.tuple ds::_)=>vU ds
 | _=>[]
def EH(ts:List PyData):Bool:=(ts.zip (ts.drop 1)).all λq=>LwT.lexLt (wU q.1) (wU q.2)
def IL:PyData->Bool
 | .tuple [.int n,.tuple ts]=>(decide (1<=n)&&decide (n<=4))&&(decide (ts.length<=500)&&((ts.all λt=>vA t n)&&EH ts))
 | _=>false
def suOk:PyData->Prop
 | .tuple [_,.tuple ts]=>∀t∈ts,tmOk t
 | _=>True
def spSum:Sp:=λvs H Q _=>∃(v:V) (d:PyData),vs=[v]/\DecV H v d/\suOk d/\∀H',Same H H'->Q (.bl (IL d)) H'
theorem IH{H:Hp}{x:V}{d:PyData}{n:Int}(h:DecV H x d)(e:vA d n=true):∃a b y ns,x=.ref a/\H a=some (.tup [.ref b,y])/\H b=some (.tup (ns.map V.int))/\wU d=ns:=by
 unfold vA at e;split at e
 ·rename_i p g;rw[mP]at e;have e1:=e.1;unfold pwB at e1;split at e1
  ·rename_i ds';rw[mP,mP]at e1;cases h with
   | tup q h=>
    cases h with
    | cons h1 h=>
     cases h with
     | cons h2 h=>
      cases h;cases h1 with
      | tup q1 h1=>
       obtain⟨ex,_⟩:=HR h1 e1.1.2;exact⟨_,_,_,vU ds',rfl,q,by rw[q1,ex],rfl⟩
  ·cases e1
 ·cases e
theorem WT{ts:List PyData}{i:Nat}{a b:PyData}(h1:ts[i]? = some a)(h2:(ts.drop 1)[i]? = some b):((ts.zip (ts.drop 1)).take (i+1))=(ts.zip (ts.drop 1)).take i++[(a,b)]:=by
 rw[mE,List.getElem?_zip_eq_some (z:=(a,b)) |>.mpr ⟨h1,h2⟩]
 rfl
theorem KQ(xs:List V):vN xs (some 1) none=xs.drop 1:=by
 unfold vN;have e1:HT.sIx xs.length 0 (some 1)=min 1 xs.length:=HT.sIx_nat xs.length 0 1;have e2:HT.sIx xs.length xs.length none=xs.length:=rfl;rw[e1,e2];cases xs with
 | nil=>rfl
 | cons x xs=>
  have:min 1 (x::xs).length=1:=by simp
  rw[this,gM (by simp)]
theorem DecVs.drop1{H:Hp}{xs:List V}{ds:List PyData}(h:DecVs H xs ds):DecVs H (xs.drop 1) (ds.drop 1):=by
 cases h with
 | nil=>exact .nil
 | cons _ t=>exact t
theorem scSum:FnScope ["thing","many","terms"] ["thing"] (jL SV):=⟨rfl,rfl,rfl,by decide +kernel,rfl,by decide +kernel,by decide +kernel⟩
theorem ok_sum{fW fI fP fH fG fT:Addr}{fdW fdI fdP fdH fdG fdT:FuncData}(F:Fun K "is_sum" "is_sum" SV f fd)(T:Txt mg)(N:Ngt K mg)(DW:Df K mg "is_whole_from" sWF ["thing","low"] fW fdW)(DP:Df K mg "are_powers" sPw ["thing","many"] fP fdP)(DI:Df K mg "is_fraction" PM ["thing"] fI fdI)
  (DH:Df K mg "is_whole" uO ["thing"] fH fdH) (DG:Df K mg "greatest_divisor" GQ ["one","other"] fG fdG) (DT:Df K mg "is_term" NB ["thing","many"] fT fdT):FnOk P w K mg base CX0 5 f fd ["thing"] spSum:=by
 have GW:FnOk P w K mg base CX0 1 fW fdW ["thing","low"] spWF:=UF DW.F T;have GT:FnOk P w K mg base CX0 4 fT fdT ["thing","many"] spTerm:=NQ DT.F T N DW DP DI DH DG;obtain⟨tl,hlt⟩:=T.letters;obtain⟨tt,htt⟩:=T.terms;refine F.ok scSum (λvs H Q E h=>?_) (λcdv A outer s H vs Q E hr h=>?_)
 ·obtain⟨v,d,rfl,_⟩:=h
  rfl
 ·obtain⟨v,d,rfl,hd,ho,q⟩:=h;have hr1:Room 1 _:=hr.mono (by decide);refine⟨_,jC (kR (PW.pt (yZ (vD (qY (yM wY T.isi T.tup boot_tuple (pv 0)))) (xU (jV AC (kN qD (by rfl) T.len PySem.boot_len (jA (pv 0) jB)) jJ (jU _))))) (jE (jO yB)) kA)
   (jC (qZ (pv 0) (kD rfl (jG (jF (i:=1) scSum.nd rfl (Or.inr rfl)) (jG (jF (i:=2) scSum.nd rfl (Or.inl rfl)) jR))))
   (jC (kR (PW.pt (yZ (vD (qY (jI GW hr1 rfl DW.m DW.F.kp DW.b .nil jM (jA (pv 1) (jA jJ jB))))) (xU (jV xS (pv 1) (kQ (v:=.int 4) (by rfl) hlt ⟨_,rfl⟩) (jU _))))) (jE (jO yB)) kA)
   (jC (kR (PW.pt (yZ (vD (qY (yM wY T.isi T.tup boot_tuple (pv 2)))) (xU (jV xS (kN qD (by rfl) T.len PySem.boot_len (jA (pv 2) jB)) (kQ (v:=.int 500) (by rfl) htt ⟨_,rfl⟩) (jU _))))) (jE (jO yB)) kA)
   (jC (kR (vD (qY (kN (uH rfl) (by rfl) T.all boot_all (jA
     (vE (own:=1) (idx:=[1]) (N:=["term","many"]) rfl rfl rfl (by decide +kernel) (by decide +kernel) (λ_ _ h=>h) (qH rfl) rfl (yN rfl ⟨rfl,rfl,rfl,rfl⟩) (xF (pv 2)) (λC fp s2 H2=>jF (i:=0) (show List.Nodup (["term","many"]:List Str) by decide +kernel) rfl (Or.inl rfl)) (λC fp s2 H2=>jI GT hr rfl DT.m DT.F.kp DT.b .nil jM (jA (pv 0) (jA (pv 1) jB)))) jB)))) (jE (jO yB)) kA)
   (jE (jO (kN (uH rfl) (by rfl) T.all boot_all (jA
     (CD (N:=["before","behind"]) rfl rfl (by decide +kernel) (by decide +kernel) (by decide +kernel) (NL (by rfl) T.zip (jA (pv 2) (jA (xH FU (pv 2) (vO jJ) yK) jB))) (λC fp s2 H2=>show PG (qL _ ["before","behind"] _ C fp s2 H2) _ (wZ K 2 (qI (jX 0) (qI (jX 1) gNil)))from kD (X:=qL _ ["before","behind"] _ C fp s2 H2) rfl (jG (jF (i:=0) (show List.Nodup (["before","behind"]:List Str) by decide +kernel) rfl (Or.inl rfl) (Or.inl rfl)) (jG (jF (i:=1) (show List.Nodup (["before","behind"]:List Str) by decide +kernel) rfl (Or.inl rfl) (Or.inl rfl)) jR)))
      (λC fp s2 H2=>qV (show OpR (qL _ ["before","behind"] _ C fp s2 H2) (compareOp .Lt) (LwT.rOrdT K LwT.lexLt)from LwT.op_ltT hr.units0) (kF (show IxR (qL _ ["before","behind"] _ C fp s2 H2) (yY K)from kH) (pv 0) jJ (λ_ _=>rfl)) (kF (show IxR (qL _ ["before","behind"] _ C fp s2 H2) (yY K)from kH) (pv 1) jJ (λ_ _=>rfl)) (jU _))) jB)))))))), ?_⟩
  have no:IL d=false->Q (.bl false) H:=λz=>by have:=q H (Same.refl _);rwa [z]at this
  refine⟨_,rfl,rfl,_,hd.kd,_,rfl, ?_⟩;cases hd with
  | non=>exact kI (kI (no rfl))
  | bl b=>exact kI (kI (no rfl))
  | int i=>exact kI (kI (no rfl))
  | str x=>exact kI (kI (no rfl))
  | lst e _=>exact kI (kI (no rfl))
  | @tup a xs ds e hx=>
   refine vW ⟨_,rfl,a,xs,rfl,.inr (SqT.of e),rfl,_,rfl, ?_⟩
   match xs,ds,hx,e,ho,q,no with
   | [],[],_,e,ho,q,no=>exact kI (no rfl)
   | [_],[d1],_,e,ho,q,no=>exact kI (no (by cases d1<;>rfl))
   | x1::x2::x3::xs,d1::d2::d3::ds,hx,e,ho,q,no=>
    refine xO ?_ (no (by cases d1<;>cases d2<;>rfl));rw[mU]
    ·rfl
    ·intro z;injection z with z
     simp only[mO]at z;omega
   | [x,y],[dm,dt],.cons h1 (.cons h2 .nil),e,ho,q,no=>
    refine vW ?_;refine⟨_,rfl,a,[x,y],rfl,SqT.of e,rfl,x,[y],rfl,y,[],rfl,rfl, ?_⟩;refine⟨_,rfl,x,dm,1,rfl,h1,_,rfl, ?_⟩;cases h1 with
    | non=>exact kI (kI (no rfl))
    | bl b=>exact kI (kI (no rfl))
    | str x=>exact kI (kI (no rfl))
    | lst e _=>exact kI (kI (no rfl))
    | tup e _=>exact kI (kI (no rfl))
    | int n=>
    by_cases n1:1<=n
    case neg=>
     refine xO (by show(!decide (1<=n))=true;rw[mU n1];rfl) (kI (no ?_));cases dt<;>first | rfl | (simp only[IL,mU n1,Bool.false_and])
    refine vI (by show(!decide (1<=n))=false;rw[mX n1];rfl) ?_;refine⟨_,rfl,_,_,rfl,rfl,_,rfl, ?_⟩;by_cases n4:4<n
    case pos=>
     refine xO (mX n4) (no ?_);have:¬n<=4:=by omega
     cases dt<;>first | rfl | (simp only[IL,mU this,Bool.false_and,Bool.and_false])
    refine vI (mU n4) ?_;have n4':n<=4:=by omega
    refine⟨_,rfl,rfl,_,h2.kd,_,rfl, ?_⟩;cases h2 with
    | non=>exact kI (kI (no rfl))
    | bl b=>exact kI (kI (no rfl))
    | int i=>exact kI (kI (no rfl))
    | str x=>exact kI (kI (no rfl))
    | lst e _=>exact kI (kI (no rfl))
    | @tup a2 ts dts e2 ht=>
    have hlen:=ht.length;refine vW ⟨_,rfl,a2,ts,rfl,.inr (SqT.of e2),_,_,rfl,rfl,_,rfl, ?_⟩;by_cases n5:dts.length<=500
    case neg=>
     refine xO (mX (by rw[hlen];omega)) (no ?_);simp only[IL,mU n5,Bool.false_and,Bool.and_false]
    refine vI (mU (by rw[hlen];omega)) ?_;have zs:IL (.tuple [.int n,.tuple dts])=((dts.all λt=>vA t n)&&EH dts):=by
     simp only[IL,mX n1,mX n4',mX n5,Bool.true_and]
    rw[zs]at q;clear no zs;have tsz:ts.length<sizeLine:=by rw[hlen];exact gX n5 (by decide)
    refine⟨_,rfl,a2,rfl,⟨ts,SqT.of e2⟩,λp H1 n1' s1 e1=>?_⟩;refine uW (xs:=ts) (λi ys H2=>Same H H2/\H2 p=some (.lst ys)/\ys=(dts.take i).map λd=>V.bl (vA d n)) tsz ⟨s1,e1,rfl⟩ (λi ys H2 h=>⟨SqT.of (h.1 _ _ e2),h.2.1⟩) ?_ ?_
    ·rintro i m ys x H2 hx' hm hl' ⟨k1,k2,rfl⟩;obtain⟨d,hd1,hd2⟩:=(ht.mono k1).get hx';refine⟨zJ,_,rfl,_,rfl,x,d,n,rfl,hd2,ho d (gQ hd1),λH3 s3=>?_⟩;refine kL hx' hm hl' (s3 _ _ k2) ⟨jY (k1.trans s3) n1',jD, ?_⟩;rw[mE,hd1,mT]
     rfl
    ·rintro ys H2 hl' ⟨k1,k2,rfl⟩;rw[hlen,mN]at k2;refine⟨p,dts.map λd=>vA d n,rfl,SqL.of (by rw[k2,nO];rfl),_,rfl, ?_⟩;have ea:(dts.map λd=>vA d n).all id=dts.all λd=>vA d n:=by rw[List.all_map];rfl
     rw[ea];cases al:dts.all λd=>vA d n with
     | false=>
      rw[al]at q;exact kI (q _ k1)
     | true=>
      rw[al,Bool.true_and]at q;refine vW ?_;have alt:∀d∈dts,vA d n=true:=List.all_eq_true.mp al;have d1:=ht.drop1;refine⟨_,rfl,_,rfl,1,rfl,a2,ts,rfl,k1 _ _ e2,λp2 H3 s3 e3=>?_⟩;rw[KQ]at e3;have k3:Same H H3:=k1.trans s3;refine⟨a2,p2,rfl,⟨ts,SqT.of (k3 _ _ e2)⟩,⟨_,SqT.of e3⟩,λp3 H4 n4 s4 e4=>?_⟩;refine WL (ts:=ts) (us:=ts.drop 1) (λi ys H5=>Same H3 H5/\H5 p3=some (.lst ys)/\ys=((dts.zip (dts.drop 1)).take i).map λq=>V.bl (LwT.lexLt (wU q.1) (wU q.2))) (by simp) (by simp;omega) ⟨s4,e4,rfl⟩
       (λi ys H5 h=>⟨SqT.of ((k3.trans h.1) _ _ e2),SqT.of (h.1 _ _ e3),h.2.1⟩) ?_ ?_
      ·rintro i m ys x y c H5 hx' hy' hm hl' ⟨j1,j2,rfl⟩ hc;obtain⟨dx,ex1,ex2⟩:=(ht.mono (k3.trans j1)).get hx';obtain⟨dy,ey1,ey2⟩:=(d1.mono (k3.trans j1)).get hy';obtain⟨ax,bx,wx,ns,rfl,hax,hbx,rfl⟩:=IH ex2 (alt _ (gQ ex1));obtain⟨ay,by',wy,ms,rfl,hay,hby,rfl⟩:=IH ey2 (alt _ (List.mem_of_mem_drop (gQ ey1)));have su:Same H5 (upd H5 c (.tup [.ref ax,.ref ay])):=jN _ hc;refine⟨c,[.ref ax,.ref ay],rfl,SqT.of jD,rfl,_,_,rfl,_,_,rfl,rfl, ?_⟩;refine⟨_,rfl,ax,_,_,_,rfl,rfl,SqT.of (su _ _ hax),rfl,_,rfl,ay,_,_,_,rfl,rfl,SqT.of (su _ _ hay),rfl,bx,by',_,_,rfl,rfl,SqT.of (su _ _ hbx),SqT.of (su _ _ hby), ?_⟩;refine kL hy' hm hl' (su _ _ j2) ⟨jY (j1.trans su) n4,jD, ?_⟩;rw[WT ex1 ey1,mT]
       rfl
      ·rintro ys H5 hl' ⟨j1,j2,rfl⟩;have el:(dts.zip (dts.drop 1)).length=(ts.drop 1).length:=by rw[List.length_zip,List.length_drop,List.length_drop,hlen];omega
       rw[<-el,mN]at j2;refine⟨p3,(dts.zip (dts.drop 1)).map λq=>LwT.lexLt (wU q.1) (wU q.2),rfl,SqL.of (by rw[j2,nO];rfl), ?_⟩;have ez:((dts.zip (dts.drop 1)).map λq=>LwT.lexLt (wU q.1) (wU q.2)).all id=EH dts:=by rw[List.all_map];rfl
       rw[ez];exact q _ (k3.trans j1)
open LwS
def Ltr(K:tF)(mg:Str->Option Value):Prop:=∃a,mg "LETTERS" = some (.ref a)/\(∀H,SqT K H a [.str (ltr 0),.str (ltr 1),.str (ltr 2),.str (ltr 3)])/\∃o,K.lookup a=some o/\o.cls=.type "tuple"/\o.dict=none
theorem OP(b:Int):decide (V.int b=V.int 1)=decide (b=1):=by
 by_cases h:b=1
 ·rw[h];rfl
 ·rw[mU h,mU];intro z;injection z with z
  exact h z
structure TAt(H:Hp)(b c:Addr)(x:Trm):Prop where
 pw:H b=some (.tup (x.ns.map V.int))
 nb:At2 H c x.t x.b
theorem TAt.map{H H':Hp}{b c:Addr}{x:Trm}(h:TAt H b c x)(k:∀a xs,H a=some (.tup xs)->H' a=some (.tup xs)):TAt H' b c x:=⟨k _ _ h.pw,k _ _ h.nb⟩
def spShNum:Sp:=λvs H Q _=>∃(c:Addr) (aa:Nat) (x:Trm),vs=[.ref c]/\At2 H c x.t x.b/\TmOk aa x/\Q (.str (ntx x.t x.b)) H
def spShTerm:Sp:=λvs H Q _=>∃(b c:Addr) (aa:Nat) (x:Trm),vs=[.ref b,.ref c]/\TAt H b c x/\TmOk aa x/\aa<=4/\∀H',Same H H'->Q (.str (ttx x)) H'
theorem scShNum:FnScope ["number","top","bottom"] ["number"] (jL CB):=⟨rfl,rfl,rfl,by decide +kernel,rfl,by decide +kernel,by decide +kernel⟩
theorem JH(F:Fun K "shown_number" "shown_number" CB f fd)(T:Txt mg):FnOk P w K mg base CX0 1 f fd ["number"] spShNum:=by
 refine F.ok scShNum (λvs H Q E h=>?_) (λcdv A outer s H vs Q E hr h=>?_)
 ·obtain⟨c,aa,x,rfl,_⟩:=h
  rfl
 ·obtain⟨c,aa,x,rfl,hc,ok,q⟩:=h;refine⟨_,jC (qZ (pv 0) (kD rfl (jG (jF (i:=1) scShNum.nd rfl (Or.inl rfl)) (jG (jF (i:=2) scShNum.nd rfl (Or.inl rfl)) jR))))
   (jC (kR (jV zF (pv 2) jJ (jU _)) (jE (jO (qA IA (by rfl) T.str boot_str (jA (pv 1) jB)))) kA)
   (jE (jO (pe_f3 (pv 1) (pv 2))))), ?_⟩
  have l1:=LY ok.st (by decide) (by decide);have l2:=LY ok.sb (by decide) (by decide);have e1:=yO (by decide) ok.t10;have e2:=yO (by decide) ok.b10;refine⟨_,rfl,c,_,rfl,SqT.of hc,rfl,_,_,rfl,_,_,rfl,rfl, ?_⟩;refine⟨_,rfl,rfl,_,rfl, ?_⟩;rw[OP];refine AN (λe=>?_) (λe=>?_)
  ·refine⟨_,rfl,_,rfl,l1, ?_⟩;have:ntx x.t x.b=itx x.t:=tD (mG e);rw[this]at q;exact q
  ·have:ntx x.t x.b=itx x.t++⟨#[47]⟩++itx x.b:=nZ λz=>e (mX z);rw[this]at q;refine⟨_,rfl,itx x.t,⟨l1,rfl⟩, ?_,_,rfl,itx x.b,⟨l2,rfl⟩, ?_,q⟩
   ·show(itx x.t).length+1<=sizeLine;exact nL (show _<=1000 by omega) (by decide)
   ·show(itx x.t).length+1+(itx x.b).length<=sizeLine;exact nL (show _<=1000 by omega) (by decide)
theorem QM{i:Nat}{u:V}(hi:i<4∨True)(hu:([.str (ltr 0),.str (ltr 1),.str (ltr 2),.str (ltr 3)]:List V)[i]? = some u):u=.str (ltr i):=by
 match i,hu with
 | 0,h=>exact(Option.some.inj h).symm
 | 1,h=>exact(Option.some.inj h).symm
 | 2,h=>exact(Option.some.inj h).symm
 | 3,h=>exact(Option.some.inj h).symm
 | n+4,h=>simp at h
inductive ShI(K:tF)(H:Hp)(b c l:Addr)(x:Trm)(i:Nat):L2.St->Hp->Prop where
 | mk {u v:Option V} {H':Hp} (s:Same H H') (e:H' l=some (.lst ((ntx x.t x.b::(wl 0 (x.ns.take i)).map wtx).map V.str))) (n:H l=none):ShI K H b c l x i [some (.ref b),some (.ref c),some (.ref l),u,v] H'
theorem scShTerm:FnScope ["powers","number","words","letter","power"] ["powers","number"] (jL AV):=⟨rfl,rfl,rfl,by decide +kernel,rfl,by decide +kernel,by decide +kernel⟩
theorem EN{fN:Addr}{fdN:FuncData}(F:Fun K "shown_term" "shown_term" AV f fd)(T:Txt mg)(L:Ltr K mg)(DN:Df K mg "shown_number" CB ["number"] fN fdN):FnOk P w K mg base CX0 2 f fd ["powers","number"] spShTerm:=by
 have GN:FnOk P w K mg base CX0 1 fN fdN ["number"] spShNum:=JH DN.F T;obtain⟨la,lm,ls,_⟩:=L;refine F.ok scShTerm (λvs H Q E h=>?_) (λcdv A outer s H vs Q E hr h=>?_)
 ·obtain⟨b,c,aa,x,rfl,_⟩:=h
  rfl
 ·obtain⟨b,c,aa,x,rfl,hx,ok,hm,q⟩:=h;have hr1:Room 1 _:=hr.mono (by decide);refine⟨_,jC (jP (i:=2) scShTerm.nd rfl (Or.inl rfl) (qC (jA (jI GN hr1 rfl DN.m DN.F.kp DN.b .nil jM (jA (pv 1) jB)) jB)))
   (jC (qF PassesOwn.never rfl (NL (by rfl) T.zip (jA (kQ (v:=.ref la) (by rfl) lm rfl) (jA (pv 0) jB))) (kD rfl (jG (jF (i:=3) scShTerm.nd rfl (Or.inl rfl)) (jG (jF (i:=4) scShTerm.nd rfl (Or.inl rfl)) jR)))
    (jC (kR (jV zF (pv 4) jJ (jU _)) (jE (xQ (vY PySem.F.plainAttrs_list PySem.F.slot_list_append PySem.F.type_list_append kW (pv 2) (jA (pv 3) jB)))) kA)
    (jE (kR (jV xS (pv 4) jJ (jU _)) (jE (xQ (vY PySem.F.plainAttrs_list PySem.F.slot_list_append PySem.F.type_list_append kW (pv 2) (jA (pe_f3 (pv 3) (pv 4)) jB)))) kA))))
   (jE (jO (vY PySem.F.plainAttrs_str PySem.F.slot_str_join PySem.F.type_str_join NX vV (jA (pv 2) jB))))), ?_⟩
  refine⟨_,rfl,c,aa,x,rfl,hx.nb,ok,gC,λl H1 n1 s1 e1=>?_⟩;refine⟨_,rfl,la,b,rfl,⟨_,ls H1⟩,⟨_,SqT.of (s1 _ _ hx.pw)⟩, ?_⟩;have nl:(x.ns.map V.int).length=aa:=by rw[mS,ok.len]
  refine L2.VW (xs:=[.str (ltr 0),.str (ltr 1),.str (ltr 2),.str (ltr 3)]) (ys:=x.ns.map V.int) (ShI K H b c l x) (by rw[nl];exact hm) (.mk s1 (by rw[List.take_zero];exact e1) n1) (λi σ H2 _ h=>?_) (λi u v p σ H2 hu hv hp h=>?_) (fun σ H2 h=>?_)
  ·obtain⟨s2,e2,_⟩:=h;exact⟨ls H2,SqT.of (s2 _ _ hx.pw)⟩
  ·obtain⟨s2,e2,_⟩:=h;have hi:i<x.ns.length:=by
    have:=(gG.mp hv).1
    rwa [mS]at this
   obtain⟨n,hn⟩:∃n,x.ns[i]? = some n:=⟨x.ns[i],by simp [hi]⟩;have ev:v=.int n:=by rw[mC,hn]at hv;exact(Option.some.inj hv).symm
   have eu:u=.str (ltr i):=QM (.inr True.intro) hu;subst ev eu;have nb:=ok.le (gQ hn);have et:x.ns.take (i+1)=x.ns.take i++[n]:=by rw[mE,hn];rfl
   have ti:(x.ns.take i).length=i:=by rw[mK];omega
   have s3:Same H2 (upd H2 p (.tup [.str (ltr i),.int n])):=jN _ hp;have e3:=s3 _ _ e2;have pl:p≠l:=λz=>by rw[z,e2]at hp;cases hp
   have few:((ntx x.t x.b::(wl 0 (x.ns.take i)).map wtx).map V.str).length<sizeLine:=by
    have:=FK (x.ns.take i) 0;simp only[mS,mO];exact gX (show _<=5 by have:=ok.len;omega) (by decide)
   refine⟨p,_,rfl,SqT.of jD,rfl,_,_,rfl,_,_,rfl,rfl, ?_⟩;refine⟨_,rfl,rfl,_,rfl, ?_⟩;rw[OP];have go:∀(y:List Str) (H4:Hp),Same H H4->wl 0 (x.ns.take (i+1))=wl 0 (x.ns.take i)++(if 1<=n then [(i,n)]else [])->(if 1<=n then [(i,n)]else []).map wtx=y->H4 l=some (.lst ((ntx x.t x.b::(wl 0 (x.ns.take i)).map wtx).map V.str++y.map V.str))->ShI K H b c l x (i+1) [some (.ref b),some (.ref c),some (.ref l),some (.str (ltr i)),some (.int n)] H4:=λy H4 s4 ew ey e4=>
    .mk s4 (by rw[e4,ew,mT,ey,<-List.cons_append,mT]) n1
   have ew:wl 0 (x.ns.take (i+1))=wl 0 (x.ns.take i)++(if 1<=n then [(i,n)]else []):=by rw[et,FJ,ti,Nat.zero_add]
   have put:∀z:V,Same H (upd (upd H2 p (.tup [.str (ltr i),.int n])) l (.lst ((ntx x.t x.b::(wl 0 (x.ns.take i)).map wtx).map V.str++[z]))):=λz=>jY (s2.trans s3) n1;rcases Int.lt_trichotomy n 1 with h | h | h
   ·refine vI (mU (by omega)) ⟨_,rfl,_,_,rfl,rfl,_,rfl,vI (mU (by omega)) ?_⟩;exact go [] _ (s2.trans s3) ew (by rw[nZ (by omega)];rfl) (by rw[List.map_nil,List.append_nil];exact e3)
   ·refine xO (mX h) ⟨_,rfl,.inl ⟨rfl,_,SqL.of e3⟩,_,rfl,l,_,_,rfl,rfl,e3,few, ?_⟩;refine⟨_,rfl,_,_,rfl,rfl,_,rfl,vI (mU (by omega)) ?_⟩;exact go [ltr i] _ (put _) ew (by rw[tD (by omega),h];rfl) jD
   ·refine vI (mU (by omega)) ⟨_,rfl,_,_,rfl,rfl,_,rfl,xO (mX h) ?_⟩;have li:=yO (by decide) (FS nb.1 nb.2);refine⟨_,rfl,.inl ⟨rfl,_,SqL.of e3⟩,_,rfl,ltr i,⟨gC,rfl⟩,(by show 1+1<=sizeLine;decide),_,rfl,itx n,⟨LY (k:=10) (by omega) (by decide) (by decide),rfl⟩, ?_,l,_,_,rfl,rfl,e3,few, ?_⟩
    ·show 1+1+(itx n).length<=sizeLine;exact nL (show _<=5 by omega) (by decide)
    ·exact go [wtx (i,n)] _ (put _) ew (by rw[tD (by omega)];rfl) (by
      have:wtx (i,n)=ltr i++⟨#[94]⟩++itx n:=nZ (by show ¬n=1;omega);rw[this];exact jD)
  ·obtain⟨s2,e2,_⟩:=h;rw[nl,<-ok.len,mN]at e2;refine⟨rfl,_,rfl,⟨#[32]⟩,l,_,rfl,rfl,SqL.of e2, ?_,q _ s2⟩;refine OG (B:=444) (λy hy=>?_) ?_
   ·rcases nF.mp hy with rfl | hy
    ·exact HJ ok
    ·exact nL (DX ok y hy) (by decide)
   ·have:=FK x.ns 0;have:=ok.len;have e:(⟨#[32]⟩:Str).length=1:=rfl;rw[e,mO,mS];omega
structure TrmV(H:Hp)(v:V)(x:Trm):Prop where
 ex:∃r b c:Addr,v=.ref r/\H r=some (.tup [.ref b,.ref c])/\TAt H b c x
theorem TrmV.map{H H':Hp}{v:V}{x:Trm}(h:TrmV H v x)(k:∀a xs,H a=some (.tup xs)->H' a=some (.tup xs)):TrmV H' v x:=by
 obtain⟨r,b,c,e1,e2,e3⟩:=h.ex;exact⟨r,b,c,e1,k _ _ e2,e3.map k⟩
structure Poly(H:Hp)(p:Addr)(aa:Nat)(ts:List Trm):Prop where
 ex:∃(q:Addr) (xs:List V),H p=some (.tup [.int aa,.ref q])/\H q=some (.tup xs)/\Paired (TrmV H) xs ts
theorem Paired.to{α β:Type}{F G:α->β->Prop}(f:∀a b,F a b->G a b):∀{l₁:List α} {l₂:List β},Paired F l₁ l₂->Paired G l₁ l₂
 | _,_,.nil=>.nil
 | _,_,.cons h t=>.cons (f _ _ h) (Paired.to f t)
theorem Poly.map{H H':Hp}{p:Addr}{aa:Nat}{ts:List Trm}(h:Poly H p aa ts)(k:∀a xs,H a=some (.tup xs)->H' a=some (.tup xs)):Poly H' p aa ts:=by
 obtain⟨q,xs,e1,e2,e3⟩:=h.ex;exact⟨q,xs,k _ _ e1,k _ _ e2,Paired.to (λ_ _ h=>h.map k) e3⟩
theorem Poly.same{H H':Hp}{p:Addr}{aa:Nat}{ts:List Trm}(h:Poly H p aa ts)(s:Same H H'):Poly H' p aa ts:=h.map λ_ _ e=>s _ _ e
theorem Paired.rev{α β:Type}{F:α->β->Prop} :∀{l₁:List α} {l₂:List β},Paired F l₁ l₂->Paired F l₁.reverse l₂.reverse
 | _,_,.nil=>.nil
 | _,_,.cons h t=>by
  rw[List.reverse_cons,List.reverse_cons];exact pair_app (Paired.rev t) (.cons h .nil)
where pair_app {α β:Type} {F:α->β->Prop} :∀{a b:List α} {c d:List β},Paired F a c->Paired F b d->Paired F (a++b) (c++d)
 | _,_,_,_,.nil,h=>h
 | _,_,_,_,.cons h t,k=>.cons h (pair_app t k)
theorem Paired.at{α β:Type}{F:α->β->Prop} :∀{l₁:List α} {l₂:List β} {i:Nat} {x:α},Paired F l₁ l₂->l₁[i]? = some x->∃y,l₂[i]? = some y/\F x y
 | _,_,_,_,.nil,h=>by simp at h
 | _,_,0,_,.cons h t,e=>by
  cases (Option.some.inj e);exact⟨_,rfl,h⟩
 | _,_,i+1,_,.cons h t,e=>Paired.at t (i:=i) e
def xW(x:Trm):PyData:=.tuple [.tuple (x.ns.map PyData.int),.tuple [.int x.t,.int x.b]]
def wW(aa:Nat)(ts:List Trm):PyData:=.tuple [.int aa,.tuple (ts.map xW)]
theorem KK{H:Hp} :∀ns:List Int,DecVs H (ns.map V.int) (ns.map PyData.int)
 | []=>.nil
 | n::r=>.cons (.int n) (KK r)
theorem TrmV.dec{H:Hp}{v:V}{x:Trm}(h:TrmV H v x):DecV H v (xW x):=by
 obtain⟨r,b,c,rfl,e2,e3⟩:=h.ex;exact .tup e2 (.cons (.tup e3.pw (KK _)) (.cons (.tup e3.nb (.cons (.int _) (.cons (.int _) .nil))) .nil))
theorem CY{H:Hp} :∀{xs:List V} {ts:List Trm},Paired (TrmV H) xs ts->DecVs H xs (ts.map xW)
 | _,_,.nil=>.nil
 | _,_,.cons h t=>.cons h.dec (CY t)
theorem Poly.dec{H:Hp}{p:Addr}{aa:Nat}{ts:List Trm}(h:Poly H p aa ts):DecV H (.ref p) (wW aa ts):=by
 obtain⟨q,xs,e1,e2,e3⟩:=h.ex;exact .tup e1 (.cons (.int _) (.cons (.tup e2 (CY e3)) .nil))
theorem JV:∀ns:List Int,PyData.canLayAll0 (ns.map PyData.int)=true/\PyData.depthAll (ns.map PyData.int)<=5
 | []=>⟨by simp [PyData.canLayAll0],by simp [PyData.depthAll]⟩
 | n::r=>by
  have:=JV r;exact⟨by simp [PyData.canLayAll0,PyData.canLay0,this.1],by simp [PyData.depthAll,PyData.depth];omega⟩
theorem CN:∀ts:List Trm,PyData.canLayAll0 (ts.map xW)=true/\PyData.depthAll (ts.map xW)<=20
 | []=>⟨by simp [PyData.canLayAll0],by simp [PyData.depthAll]⟩
 | x::r=>by
  have h1:=CN r;have h2:=JV x.ns;exact⟨by simp [PyData.canLayAll0,PyData.canLay0,xW,h1.1,h2.1],by simp [PyData.depthAll,PyData.depth,xW];omega⟩
theorem WX(ts:List Trm):DataOk (.tuple (ts.map xW)):=by
 have h1:=CN ts;exact⟨by simp [PyData.canLay0,h1.1],by simp [PyData.depth];omega⟩
theorem NJ(aa:Nat)(ts:List Trm):DataOk (wW aa ts):=by
 have h1:=CN ts;exact⟨by simp [wW,PyData.canLay0,PyData.canLayAll0,h1.1],by simp [wW,PyData.depth,PyData.depthAll];omega⟩
theorem nil_ok:DataOk (.tuple []):=⟨by simp [PyData.canLay0,PyData.canLayAll0],by simp [PyData.depth,PyData.depthAll]⟩
theorem ZN(ts:List Trm):PyData.eqv (.tuple (ts.map xW)) (.tuple [])=ts.isEmpty:=by
 cases ts with
 | nil=>simp [PyData.eqv,PyData.eqvAll]
 | cons x r=>simp [PyData.eqv,PyData.eqvAll]
structure Good(aa:Nat)(ts:List Trm):Prop where
 each:∀x∈ts,TmOk aa x
 few:ts.length<=7
 m1:1<=aa
 m4:aa<=4
 up:ts.Pairwise λx y=>LwD.xN x.ns y.ns=true
def spShown:Sp:=λvs H Q _=>∃(p:Addr) (aa:Nat) (ts:List Trm),vs=[.ref p]/\Poly H p aa ts/\Good aa ts/\∀H',Same H H'->Q (.str (stx ts)) H'
structure CmI(F:Nat->List V)(q:Addr)(H1:Hp)(i:Nat)(ys:List V)(H2:Hp):Prop where
 s:Same H1 H2
 e:H2 q=some (.lst ys)
 y:ys=F i
theorem XG:FnScope ["one"] ["one"] (jL CA):=⟨rfl,rfl,rfl,by decide +kernel,rfl,by decide +kernel,by decide +kernel⟩
theorem UK{fN fT:Addr}{fdN fdT:FuncData}(F:Fun K "shown" "shown" CA f fd)(T:Txt mg)(L:Ltr K mg)(DN:Df K mg "shown_number" CB ["number"] fN fdN)(DT:Df K mg "shown_term" AV ["powers","number"] fT fdT):FnOk P w K mg base CX0 3 f fd ["one"] spShown:=by
 have GT:FnOk P w K mg base CX0 2 fT fdT ["powers","number"] spShTerm:=EN DT.F T L DN;refine F.ok XG (λvs H Q E h=>?_) (λcdv A outer s H vs Q E hr h=>?_)
 ·obtain⟨p,aa,ts,rfl,_⟩:=h
  rfl
 ·obtain⟨p,aa,ts,rfl,hp,ok,go⟩:=h;have hr2:Room 2 _:=hr.mono (by decide);refine⟨_,jC (kR (jV (LQ hr.units) (kF kH (pv 0) jJ (λ_ _=>rfl)) (jS jB) (jU _)) (jE (jO vV)) kA)
   (jE (jO (vY PySem.F.plainAttrs_str PySem.F.slot_str_join PySem.F.type_str_join NX vV (jA
    (vE (own:=2) (idx:=[]) (N:=["powers","number"]) rfl rfl rfl (by decide +kernel) (by decide +kernel) (λ_ _ h=>nomatch h) (qH rfl) rfl (λ_ _ _ h=>nomatch h) (xF (YC (kF kH (pv 0) jJ (λ_ _=>rfl)) (vO (AB yV jJ))))
     (λC fp s2 H2=>show PG (jK _ ["powers","number"] _ _ C fp s2 H2) _ (wZ K 2 (qI (jX 0) (qI (jX 1) gNil)))from kD (X:=jK _ ["powers","number"] _ _ C fp s2 H2) rfl (jG (jF (i:=0) (show List.Nodup (["powers","number"]:List Str) by decide +kernel) rfl (Or.inl rfl) (Or.inr rfl)) (jG (jF (i:=1) (show List.Nodup (["powers","number"]:List Str) by decide +kernel) rfl (Or.inl rfl) (Or.inr rfl)) jR)))
     (λC fp s2 H2=>jI GT hr2 rfl DT.m DT.F.kp DT.b .nil jM (jA (pv 0) (jA (pv 1) jB)))) jB)))), ?_⟩
  try dsimp only[cxK]
  obtain⟨q,xs,e1,e2,e3⟩:=hp.ex;refine⟨_,rfl,p,_,_,_,rfl,rfl,SqT.of e1,rfl,gB,λz H1 n1 s1 e4=>?_⟩;refine⟨_,_,.tup (s1 _ _ e2) (CY (Paired.to (λ_ _ h=>h.map λ_ _ e=>s1 _ _ e) e3)),.tup e4 .nil,WX ts,nil_ok,_,rfl, ?_⟩;rw[ZN];cases ts with
  | nil=>exact kI (go H1 s1)
  | cons x r=>
   refine vW ⟨rfl,_,rfl,p,_,_,_,rfl,rfl,SqT.of (s1 _ _ e1),rfl,1,rfl,_,rfl,rfl,q,xs,rfl,s1 _ _ e2,λq2 H2 s2 e5=>⟨q2,rfl,⟨_,SqT.of e5⟩,λl H3 n3 s3 e6=>?_⟩⟩;have s13:=s1.trans s2;have e7:=Paired.rev (Paired.to (λ_ _ h=>h.map λ_ _ e=>s13 _ _ e) e3);have lx:=Paired.length e7;rw[List.length_reverse (as:=x::r)]at lx;have few:=ok.few;refine uW (K:=K) (a:=q2) (xs:=xs.reverse) (CmI (λi=>(((x::r).reverse.take i).map ttx).map V.str) l H2) (gX (show xs.reverse.length<=7 by omega) (by decide)) ⟨s3,e6,rfl⟩ (λi ys H4 h=>⟨SqT.of (h.s _ _ e5),h.e⟩) ?_ ?_
   ·rintro i m ys v H4 hv hm hy ⟨s4,e8,hys⟩;obtain⟨y,hy2,⟨r1,b,c,rfl,t1,t2⟩⟩:=Paired.at e7 hv;have ym:y∈x::r:=List.mem_reverse.mp (gQ hy2);refine⟨r1,_,rfl,SqT.of (s4 _ _ t1),rfl,_,_,rfl,_,_,rfl,rfl,AE, ?_⟩;refine⟨_,rfl,_,rfl,b,c,aa,y,rfl,t2.map (λ_ _ e=>s4 _ _ e),ok.each y ym,ok.m4,λH5 s5=>?_⟩;refine kL hv hm hy (s5 _ _ e8) ⟨jY (s4.trans s5) ?_,jD, ?_⟩
    ·exact n3
    ·rw[hys,mE,hy2,mT,mT]
     rfl
   ·rintro ys H4 hl ⟨s4,e8,hys⟩;rw[lx,gM (by rw[List.length_reverse];exact nQ _)]at hys;rw[hys]at e8;refine⟨⟨#[32,43,32]⟩,l,_,rfl,rfl,SqL.of e8, ?_,go H4 (s13.trans s4)⟩;refine OG (B:=469) (λy hy=>?_) ?_
    ·obtain⟨z,hz,rfl⟩:=nN.mp hy;exact FL (ok.each z (List.mem_reverse.mp hz)) ok.m4
    ·have e:(⟨#[32,43,32]⟩:Str).length=3:=rfl;rw[e,mS,List.length_reverse];omega
def ZM:List V:=[.str ⟨#[48]⟩,.str ⟨#[49]⟩,.str ⟨#[50]⟩,.str ⟨#[51]⟩,.str ⟨#[52]⟩,.str ⟨#[53]⟩,.str ⟨#[54]⟩,.str ⟨#[55]⟩,.str ⟨#[56]⟩,.str ⟨#[57]⟩]
def Fig(K:tF)(mg:Str->Option Value):Prop:=∃a,mg "FIGURES" = some (.ref a)/\∀H,SqT K H a ZM
theorem ZE{c:Nat}(h:48<=c/\c<=57):inV (.str ⟨#[c]⟩) ZM=true:=by
 have:c=48∨c=49∨c=50∨c=51∨c=52∨c=53∨c=54∨c=55∨c=56∨c=57:=by omega
 rcases this with rfl | rfl | rfl | rfl | rfl | rfl | rfl | rfl | rfl | rfl<;>decide
def spRdWhole:Sp:=λvs H Q _=>∃i:Int,vs=[.str (itx i)]/\i.natAbs<10^600/\∀H',Same H H'->Q (.int i) H'
def spRdNum:Sp:=λvs H Q _=>∃(aa:Nat) (x:Trm),vs=[.str (ntx x.t x.b)]/\TmOk aa x/\∀p H',H p=none->Same H H'->At2 H' p x.t x.b->Q (.ref p) H'
theorem WR(n:Nat):(List.replicate n true).all id=true:=by
 rw[List.all_eq_true];intro b hb;rw[(List.mem_replicate.mp hb).2]
 rfl
theorem LK{z:Str}(h:z.cps.toList≠[]):decide (V.str z=V.str (Str.ofString ""))=false:=by
 refine mU λe=>h ?_;injection e with e
 rw[e]
 rfl
theorem IT{K:tF}{H:Hp}{Q:VK}{i:Int}{z:Str}{fa:Addr}(hz:z.cps.toList=dg i.natAbs)(hi:i.natAbs<10^600)(q:∀H',Same H H'->Q (.int i) H')(fs:∀H,SqT K H fa ZM) :
  tSeq (tIfS (tOr (MP (tOp rEq (qJ 1) (tC (V.str (Str.ofString ""))))) (tNot (tB (tCB (rAll K) (kP (FM 1 [] (iStr (qJ 1)) (jX 0) (tOp (rIn K false) (qJ 0) (tC (V.ref fa)))) tNil))))) tNever tNext)
   (tRet (tCB (λxs H Q=>∃(x:Str) (i:Int),xs=[V.str x]/\LwI.Nml x.cps.toList i/\Q (V.int i) H) (kP (qJ 0) tNil))) { nx:=λx H'=>Q V.non H',rt:=Q } [some (.str (itx i)),some (.str z)] H:=by
 have dl:=HY (by decide) hi;have ec:∀c∈dg i.natAbs,48<=c/\c<=57:=uV _;refine⟨_,rfl,rfl,_,rfl,vI (LK (by rw[hz];exact ON _)) ?_⟩;have a128:z.cps.all (· < 128)=true:=by
  rw[<-Array.all_toList,hz];exact List.all_eq_true.mpr λc hc=>mX (by have:=ec c hc;omega)
 refine⟨_,rfl,z,rfl,a128,λl H1 n1 s1 e1=>?_⟩;have zl:z.length=(dg i.natAbs).length:=by rw[<-hz,jT]
 refine BL (J:=Its z) (xs:=(dg i.natAbs).map λc=>V.str ⟨#[c]⟩) (CmI (λk=>List.replicate k (V.bl true)) l H) (by rw[mS];exact gX dl (by decide)) ⟨s1,e1,rfl⟩ (λk ys H2 h hk=>?_) (λys H2 h=>?_) (λk ys H2 h=>h.e) ?_ ?_
 ·rw[mS]at hk;refine⟨by show k<z.length;omega,λx H3 y=>?_⟩;obtain⟨e,c,hc,rfl⟩:=y;rw[hz]at hc;exact⟨e,by rw[mC,hc];rfl⟩
 ·show z.length<=_;rw[mS];omega
 ·rintro k m ys x H2 hx hm hy ⟨s2,e2,hys⟩;rw[mC]at hx;have hx':=hx;obtain⟨c,hc,rfl⟩:∃c,(dg i.natAbs)[k]? = some c/\V.str ⟨#[c]⟩=x:=by
   cases e:(dg i.natAbs)[k]? with
   | none=>rw[e]at hx;cases hx
   | some c=>rw[e]at hx;exact⟨c,rfl,Option.some.inj hx⟩
  refine⟨zJ,_,rfl,fa,ZM,rfl,.inr (fs H2),rfl,rfl, ?_⟩;rw[ZE (ec c (gQ hc))];refine kL (by rw[mC];exact hx') hm hy e2 ⟨jY s2 n1,jD, ?_⟩;rw[hys,List.replicate_succ']
  rfl
 ·rintro ys H2 hl ⟨s2,e2,hys⟩;rw[mS]at hys;refine⟨l,List.replicate (dg i.natAbs).length true,rfl,SqL.of (by rw[e2,hys,List.map_replicate]),_,rfl, ?_⟩;rw[WR];refine vW ⟨_,rfl,_,_,rfl,OI hi,q H2 s2⟩
theorem scRdWhole:FnScope ["word","figures"] ["word"] (jL xY):=⟨rfl,rfl,rfl,by decide +kernel,rfl,by decide +kernel,by decide +kernel⟩
theorem wH(F:Fun K "read_whole" "read_whole" xY f fd)(T:Txt mg)(G:Fig K mg):FnOk P w K mg base CX0 1 f fd ["word"] spRdWhole:=by
 obtain⟨fa,fm,fs⟩:=G;refine F.ok scRdWhole (λvs H Q E h=>?_) (λcdv A outer s H vs Q E hr h=>?_)
 ·obtain⟨i,rfl,_⟩:=h
  rfl
 ·obtain⟨i,rfl,hi,q⟩:=h;refine⟨_,jC (jP (i:=1) scRdWhole.nd rfl (Or.inl rfl) (JA (qY (vY PySem.F.plainAttrs_str PySem.F.slot_str_startswith PySem.F.type_str_startswith QJ (pv 0) (jA vV jB))) (xH sl_str (pv 0) (vO jJ) yK) (pv 0)))
   (jC (kR (PW.pt (yZ (jV zF (pv 1) vV (jU _)) (xU (vD (qY (kN (uH rfl) (by rfl) T.all boot_all (jA
    (vE (own:=1) (idx:=[]) (N:=["sign"]) rfl rfl rfl (by decide +kernel) (by decide +kernel) (λ_ _ h=>nomatch h) (qH rfl) rfl (λ_ _ _ h=>nomatch h) (pi_str (pv 1)) (λC fp s2 H2=>jF (i:=0) (show List.Nodup (["sign"]:List Str) by decide +kernel) rfl (Or.inl rfl))
     (λC fp s2 H2=>qV (show OpR (jK _ ["sign"] _ _ C fp s2 H2) (compareOp .In) (rIn K false)from PY) (pv 0) (kQ (v:=.ref fa) (by rfl) fm rfl) rfl)) jB))))))) (jE qO) kA)
   (jE (jO (qA RG (by rfl) T.int boot_int (jA (pv 0) jB))))), ?_⟩
  try dsimp only[cxK]
  have nm:=OI hi;have dl:=HY (by decide) hi;have ln:(itx i).length<=601:=yO (by decide) hi;have ec:∀c∈dg i.natAbs,48<=c/\c<=57:=uV _;refine⟨_,rfl,rfl,_,_,rfl,rfl,_,rfl, ?_⟩;have hc:=vK i;rw[show Txt.startswith (itx i) (Str.ofString "-")=decide (i<0)from LL i];by_cases h0:i<0
  all_goals first | refine xO (mX h0) ?_ | refine vI (mU h0) ?_
  ·have hz:(Txt.slice (itx i) (some 1) none).cps.toList=dg i.natAbs:=by
    have e:(itx i).cps.toList=45::dg i.natAbs:=by
     rcases hc with h | h
     ·omega
     ·exact h.2
    rw[slice1 (by rw[<-jT,e,mO];omega),e]
    rfl
   refine⟨_,rfl,_,rfl,_,rfl,nL ln (by decide), ?_⟩;exact IT hz hi q fs
  ·have hz:(itx i).cps.toList=dg i.natAbs:=by
    rcases hc with h | h
    ·exact h.2
    ·omega
   refine⟨_,rfl, ?_⟩;exact IT hz hi q fs
theorem scRdNum:FnScope ["word","top","stroke","bottom"] ["word"] (jL FY):=⟨rfl,rfl,rfl,by decide +kernel,rfl,by decide +kernel,by decide +kernel⟩
theorem JJ{fW:Addr}{fdW:FuncData}(F:Fun K "read_number" "read_number" FY f fd)(T:Txt mg)(G:Fig K mg)(DW:Df K mg "read_whole" xY ["word"] fW fdW):FnOk P w K mg base CX0 2 f fd ["word"] spRdNum:=by
 have GW:FnOk P w K mg base CX0 1 fW fdW ["word"] spRdWhole:=wH DW.F T G;refine F.ok scRdNum (λvs H Q E h=>?_) (λcdv A outer s H vs Q E hr h=>?_)
 ·obtain⟨aa,x,rfl,_⟩:=h
  rfl
 ·obtain⟨aa,x,rfl,ok,go⟩:=h;refine⟨_,jC (qZ (vY PySem.F.plainAttrs_str PySem.F.slot_str_partition PySem.F.type_str_partition NW (pv 0) (jA vV jB)) (kD rfl (jG (jF (i:=1) scRdNum.nd rfl (Or.inl rfl)) (jG (jF (i:=2) scRdNum.nd rfl (Or.inl rfl)) (jG (jF (i:=3) scRdNum.nd rfl (Or.inl rfl)) jR)))))
   (jC (kR (jV zF (pv 2) vV (jU _)) (jE (jO (jS (jA (jI GW hr rfl DW.m DW.F.kp DW.b .nil jM (jA (pv 1) jB)) (jA jJ jB))))) kA)
   (jE (jO (jS (jA (jI GW hr rfl DW.m DW.F.kp DW.b .nil jM (jA (pv 1) jB)) (jA (jI GW hr rfl DW.m DW.F.kp DW.b .nil jM (jA (pv 3) jB)) jB)))))), ?_⟩
  try dsimp only[cxK]
  have t6:x.t.natAbs<10^600:=Nat.lt_trans ok.t10 (by decide +kernel);have b6:x.b.natAbs<10^600:=Nat.lt_trans ok.b10 (by decide +kernel);have no:∀i:Int,47∉(itx i).cps.toList:=λi h=>by have:=yE h;omega
  refine⟨_,rfl,rfl,_,_,rfl,rfl,rfl,nL (HJ ok) (by decide),λp H1 n1 s1 e1=>⟨p,_,rfl,SqT.of e1,rfl,_,_,rfl,_,_,rfl,_,_,rfl,rfl, ?_⟩⟩;by_cases hb:x.b=1
  ·have e:Txt.partition (ntx x.t x.b) (Str.ofString "/")=(itx x.t,Str.empty,Str.empty):=by
    rw[show ntx x.t x.b=itx x.t from tD hb];exact NM (no _)
   rw[e];refine⟨_,rfl,rfl,_,rfl,xO (mX rfl) ?_⟩;refine⟨_,rfl,_,rfl,t6,λH2 s2=>⟨gD,λp2 H3 n3 s3 e3=>?_⟩⟩;have s13:=s1.trans (s2.trans s3);refine go p2 H3 ((s1.trans s2).free n3) s13 ?_;rw[At2,hb];exact e3
  ·have e:Txt.partition (ntx x.t x.b) (Str.ofString "/")=(itx x.t,⟨#[47]⟩,itx x.b):=by
    rw[show ntx x.t x.b=itx x.t++⟨#[47]⟩++itx x.b from nZ hb];exact NN (no _)
   rw[e];refine⟨_,rfl,rfl,_,rfl,vI (LK (λz=>by cases z)) ?_⟩;refine⟨_,rfl,_,rfl,t6,λH2 s2=>⟨_,rfl,_,rfl,b6,λH3 s3=>⟨gD,λp2 H4 n4 s4 e4=>?_⟩⟩⟩;exact go p2 H4 ((s1.trans (s2.trans s3)).free n4) (s1.trans (s2.trans (s3.trans s4))) e4
theorem VO{X:Cx} :PGet X (rIxL X.K):=by
 intro ac s σ H x y v u Q I rx ry h;obtain⟨p,xs,i,z,rfl,rfl,hq,he,q⟩:=h;cases rx;obtain⟨t,rfl⟩:=ry;obtain⟨its,r,pl,hz⟩:=I.list hq;obtain⟨j,h1,h2,h3,h4,h5⟩:=ID he;obtain⟨w,ew,rw'⟩:=r.get h2;have hl:=r.length;have hn:=uU;have fin:EP X ac σ Q w s:=⟨z,H,I,rw',q⟩;by_cases h0:0<=i
 ·have hj:i.toNat=j:=by
   rw[seqIndex_of h0 h5]at h1;exact Option.some.inj h1
  exact wpAny_getItem_list pl.isList h0 (by omega) (by rw[hj];simpa using ew) fin
 ·have hj:(i+(its.toArray.size:Int)).toNat=j:=by
   rw[seqIndex_neg (by omega) h4]at h1;rw[mD,<-hl];exact Option.some.inj h1
  exact wpAny_getItem_list_neg pl.isList (by omega) (by rw[mD]<;>omega) (by omega) (by rw[hj];simpa using ew) fin
def rSlK(K:tF):V->Option Int->Option Int->Hp->VK->Prop:=λx lo hi H Q=>∃a xs,x=.ref a/\SqT K H a xs/\∀p H',Same H H'->SqT K H' p (vN xs lo hi)->Q (.ref p) H'
theorem XE{X:Cx} :SlR X (rSlK X.K):=by
 intro ac s σ H x v vl vu lo hi sl Q I rx hs pl pu h;obtain⟨a,xs,rfl,hx,q⟩:=h;by_cases hw:HT.sIx xs.length 0 lo=0/\HT.sIx xs.length xs.length hi=xs.length
 ·cases rx;obtain⟨its,r,ht,hz⟩:=I.tuple hx;have hl:its.toArray.size=xs.length:=by rw[mD];exact r.length.symm
  refine⟨"tuple",_,PyProof.Rows.slot_tuple_getitem.lookup,ht.typeIs,HT.cut_whole ht hs pl pu (by rw[hl];exact hw) ⟨.ref a,H,I,rfl,q a H (λ_ _ e=>e) ?_⟩⟩;rw[vN,hw.1,hw.2];simpa using hx
 ·exact SM ac s σ H _ v vl vu lo hi sl Q I rx hs pl pu ⟨a,xs,rfl,hx,hw,λp n=>q p _ (Lw.jN _ n) (SqT.of jD)⟩
def lets:List V:=[.str (ltr 0),.str (ltr 1),.str (ltr 2),.str (ltr 3)]
theorem WK{aa:Nat}(h:aa<=4):vN lets none (some (aa:Int))=lets.take aa:=by
 rw[vN,HT.sIx_none,HT.sIx_nat,List.drop_zero,Nat.sub_zero]
 congr 1
 show min aa 4=aa;omega
theorem LX(i j:Nat):eqV (.str (ltr i)) (.str (ltr j))=decide (i=j):=by
 show(ltr i==ltr j)=_;by_cases h:i=j
 ·rw[h,mX rfl];exact beq_self_eq_true _
 ·rw[mU h];refine beq_eq_false_iff_ne.mpr λe=>h ?_;have e2:[97+i]=[97+j]:=congrArg (λs:Str=>s.cps.toList) e;injection e2 with e2
  omega
theorem HP{i:Nat}(h:i<4):lets[i]? = some (.str (ltr i)):=by
 match i,h with
 | 0,_=>rfl
 | 1,_=>rfl
 | 2,_=>rfl
 | 3,_=>rfl
 | n+4,h=>omega
theorem ZD{j aa:Nat}(h:j<aa)(hm:aa<=4):inV (.str (ltr j)) (lets.take aa)=true:=by
 refine List.any_eq_true.mpr ⟨.str (ltr j), ?_,by rw[LX];exact mX rfl⟩;refine gQ (i:=j) ?_;rw[gJ h];exact HP (by omega)
theorem QT(aa:Nat):(lets.take aa).all yT=true:=by
 refine List.all_eq_true.mpr λv hv=>?_;have:=gU hv;simp only[lets,nF,mM,or_false]at this;rcases this with rfl | rfl | rfl | rfl<;>rfl
theorem RN{j:Nat}{p:Int} :∃hat pw:Str,Txt.partition (wtx (j,p)) ⟨#[94]⟩=(ltr j,hat,pw)/\((hat=Str.empty/\p=1)∨(hat.cps.toList≠[]/\pw=itx p)):=by
 have no:94∉(ltr j).cps.toList:=λh=>by
  have:94=97+j:=by simpa [ltr]using h
  omega
 by_cases h:p=1
 ·refine⟨Str.empty,Str.empty, ?_,.inl ⟨rfl,h⟩⟩;rw[show wtx (j,p)=ltr j from tD h];exact NM no
 ·refine⟨⟨#[94]⟩,itx p, ?_,.inr ⟨(λz=>by cases z),rfl⟩⟩;rw[show wtx (j,p)=ltr j++⟨#[94]⟩++itx p from nZ h];exact NN no
def spRdPw:Sp:=λvs H Q _=>∃(a:Addr) (aa:Nat) (x:Trm),vs=[.ref a,.int aa]/\H a=some (.lst (((wl 0 x.ns).map wtx).map V.str))/\TmOk aa x/\1<=aa/\aa<=4/\∀p H',H p=none->Same H H'->H' p=some (.tup (x.ns.map V.int))->Q (.ref p) H'
def spRdTerm:Sp:=λvs H Q _=>∃(aa:Nat) (x:Trm),vs=[.str (ttx x),.int aa]/\TmOk aa x/\1<=aa/\aa<=4/\∀v H',Same H H'->TrmV H' v x->Q v H'
inductive PwI(H:Hp)(a l:Addr)(aa:Nat)(q:List (Nat×Int))(i:Nat):L2.St->Hp->Prop where
 | mk {u v x y:Option V} {H':Hp} {ps:List Int} (s:Same H H') (e:H' l=some (.lst (ps.map V.int))) (n:ps=(q.take i).foldl ML (List.replicate aa 0)) (hl:ps.length=aa):PwI H a l aa q i [some (.ref a),some (.int aa),some (.ref l),u,v,x,y] H'
theorem scRdPw:FnScope ["words","many","powers","word","letter","hat","power"] ["words","many"] (jL NE):=⟨rfl,rfl,rfl,by decide +kernel,rfl,by decide +kernel,by decide +kernel⟩
theorem NR{fW:Addr}{fdW:FuncData}(F:Fun K "read_powers" "read_powers" NE f fd)(T:Txt mg)(L:Ltr K mg)(G:Fig K mg)(DW:Df K mg "read_whole" xY ["word"] fW fdW):FnOk P w K mg base CX0 2 f fd ["words","many"] spRdPw:=by
 have GW:FnOk P w K mg base CX0 1 fW fdW ["word"] spRdWhole:=wH DW.F T G;obtain⟨la,lm,ls,lo,lk,lc,ld⟩:=L;refine F.ok scRdPw (λvs H Q E h=>?_) (λcdv A outer s H vs Q E hr h=>?_)
 ·obtain⟨a,aa,x,rfl,_⟩:=h
  rfl
 ·obtain⟨a,aa,x,rfl,ha,ok,m1,m4,go⟩:=h;refine⟨_,jC (jP (i:=2) scRdPw.nd rfl (Or.inl rfl) (jW LP (qC (jA jJ jB)) (pv 1)))
   (jC (qF PassesOwn.never rfl (vP (pv 0)) (jF (i:=3) scRdPw.nd rfl (Or.inl rfl))
    (jC (qZ (vY PySem.F.plainAttrs_str PySem.F.slot_str_partition PySem.F.type_str_partition NW (pv 3) (jA vV jB)) (kD rfl (jG (jF (i:=4) scRdPw.nd rfl (Or.inl rfl)) (jG (jF (i:=5) scRdPw.nd rfl (Or.inl rfl)) (jG (jF (i:=6) scRdPw.nd rfl (Or.inl rfl)) jR)))))
    (jC (kR (jV HG (pv 4) (xH XE (kQ (v:=.ref la) (by rfl) lm rfl) yK (vO (pv 1))) rfl) (jE qO) kA)
    (jE (XT (pv 2) (vY PySem.F.plainAttrs_tuple PySem.F.slot_tuple_index PySem.F.type_tuple_index UZ (kQ (v:=.ref la) (by rfl) lm rfl) (jA (pv 4) jB)) VO (JA (jV zF (pv 5) vV (jU _)) jJ (jI GW hr rfl DW.m DW.F.kp DW.b .nil jM (jA (pv 6) jB))) ip_add IO)))))
   (jE (jO (qA qG (by rfl) T.tup boot_tuple (jA (pv 2) jB))))), ?_⟩
  try dsimp only[cxK]
  refine⟨gC,λz0 H3 n3 s3 e3=>⟨_,rfl,z0,aa,[.int 0],rfl,rfl,e3,by omega,by omega, ?_,λl nl=>?_⟩⟩
  ·show 1*(aa:Int).toNat<=sizeLine;exact nL (show 1*(aa:Int).toNat<=4 by omega) (by decide)
  have hl0:(List.replicate (aa:Int).toNat [V.int 0]).flatten=(List.replicate aa (0:Int)).map V.int:=by simp
  rw[hl0];have nl0:H l=none:=s3.free nl;have s4:Same H (upd H3 l (.lst ((List.replicate aa (0:Int)).map V.int))):=jY s3 nl0;refine⟨_,rfl,a,rfl,⟨_,SqL.of (s4 _ _ ha)⟩, ?_⟩;refine CT (K:=K) (a:=a) (xs:=((wl 0 x.ns).map wtx).map V.str) (PwI H a l aa (wl 0 x.ns)) (.mk s4 jD rfl (by simp)) (λi σ H5 _ h=>?_) (λi v σ H5 hv h=>?_) (fun σ H5 h=>?_)
  ·obtain⟨s5,_,_,_⟩:=h;exact SqL.of (s5 _ _ ha)
  ·obtain⟨s5,e5,hps,hl⟩:=h;rename_i u0 v0 x0 y0 ps;rw[mC,mC]at hv;obtain⟨⟨j,p⟩,hq,rfl⟩:∃q,(wl 0 x.ns)[i]? = some q/\V.str (wtx q)=v:=by
    cases e:(wl 0 x.ns)[i]? with
    | none=>rw[e]at hv;cases hv
    | some q=>rw[e]at hv;exact⟨q,rfl,Option.some.inj hv⟩
   obtain⟨_,hj,hp1,hpm⟩:=LC (gQ hq);have hjm:j<aa:=by have:=ok.len;dsimp only at hj;omega
   have hp:=ok.le hpm;dsimp only at hp1 hp;obtain⟨hat,pw,ep,hh⟩:=RN (j:=j) (p:=p);have wlen:(wtx (j,p)).length<=sizeLine:=nL (MM (q:=(j,p)) hp.1 hp.2) (by decide);refine⟨_,rfl,rfl,_,_,rfl,rfl,rfl,wlen,λp0 H6 n6 s6 e6=>⟨p0,_,rfl,SqT.of e6,rfl,_,_,rfl,_,_,rfl,_,_,rfl,rfl, ?_⟩⟩;rw[show Txt.partition (wtx (j,p)) (Str.ofString "^")=(ltr j,hat,pw)from ep];refine⟨_,rfl,_,rfl,_,rfl,la,lets,rfl,ls H6,λp1 H7 s7 sq7=>?_⟩;rw[WK m4]at sq7;refine⟨p1,_,rfl,.inr sq7,rfl,QT aa,_,rfl, ?_⟩;rw[ZD hjm m4];have s57:=s5.trans (s6.trans s7);have e7:=s7 _ _ (s6 _ _ e5);have hjl:j<ps.length:=by omega
   refine vW ⟨_,rfl,.inr (.inl ⟨rfl,lo,lk,lc,ld⟩),_,rfl,la,lets,.str (ltr j),j,rfl,rfl,ls H7,rfl,rfl,(by show j<4;omega),λk z hk hz=>?_,λz hz=>?_, ?_⟩
   ·rw[HP (by omega)]at hz;rw[<-Option.some.inj hz,LX];exact mU (by omega)
   ·rw[HP (by omega)]at hz;rw[<-Option.some.inj hz,LX];exact mX rfl
   refine⟨l,_,(j:Int),V.int (ps.getD j 0),rfl,rfl,SqL.of e7,qX (by simp [hjl]), ?_⟩;have ix:ixN ((ps.map V.int).length) (j:Int)=some j:=by
    unfold ixN;rw[tD (by omega),tD (by rw[mS];omega)];simp
   have fin:∀H8,Same H7 H8->PwI H a l aa (wl 0 x.ns) (i+1) [some (.ref a),some (.int aa),some (.ref l),some (.str (wtx (j,p))),some (.str (ltr j)),some (.str hat),some (.str pw)] (upd H8 l (.lst ((ps.map V.int).set j (.int (ps.getD j 0+p))))):=λH8 s8=>
    .mk (ps:=ML ps (j,p)) (jY (s57.trans s8) nl0) (by rw[jD,ML,List.map_set]) (by rw[mE,hq,hps];simp [mH]) (by rw[ML,List.length_set];exact hl)
   refine⟨_,rfl,rfl,_,rfl, ?_⟩;rcases hh with⟨rfl,rfl⟩ | ⟨h1,rfl⟩
   ·exact xO (mX rfl) ⟨_,_,rfl,rfl,l,_,_,j,rfl,rfl,e7,ix,fin H7 (Same.refl _)⟩
   ·refine vI (LK h1) ⟨_,rfl,p,rfl,Nat.lt_trans (FS hp.1 hp.2) (by decide +kernel),λH8 s8=>⟨_,_,rfl,rfl,l,_,_,j,rfl,rfl,s8 _ _ e7,ix,fin H8 s8⟩⟩
  ·obtain⟨s5,e5,hps,hl⟩:=h;rename_i u0 v0 x0 y0 ps;refine⟨_,rfl,l,_,rfl,.inl ⟨SqL.of e5,λp np=>?_⟩⟩;have ew:ps=x.ns:=by
    rw[hps,mS,mS,mN,OK aa aa x.ns ok.len gA ok.nn,Nat.sub_self];simp
   rw[ew];exact go p _ (s5.free np) (s5.trans (jN _ np)) jD
theorem ltOf:∀{a b:List Int},LwD.xN a b=true->LwT.lexLt a b=true
 | [],[],h=>by simp [LwD.xN]at h
 | [],_::_,_=>by rfl
 | _::_,[],h=>by simp [LwD.xN]at h
 | x::xs,y::ys,h=>by
  unfold LwD.xN at h;show(if x=y then LwT.lexLt xs ys else decide (x<y))=true;split
  ·rename_i e;rw[tD e]at h;exact ltOf h
  ·rename_i e;rw[nZ e]at h;exact h
theorem zS:∀ns:List Int,vU (ns.map PyData.int)=ns
 | []=>rfl
 | n::r=>by show n::vU (r.map PyData.int)=_;rw[zS r]
theorem SA{aa:Nat}{x:Trm}(h:TmOk aa x):vA (xW x) aa=true:=by
 show((decide (((x.ns.map PyData.int).length:Int)=aa)&&((x.ns.map PyData.int).all λd=>whF d 0)&&decide ((vU (x.ns.map PyData.int)).sum<=16))&&((decide (1<=x.b)&&decide (Int.gcd x.t x.b=1))&&!decide ([x.t,x.b]=[0,1])))=true;have e1:decide (((x.ns.map PyData.int).length:Int)=aa)=true:=mX (by rw[mS,h.len]);have e2:((x.ns.map PyData.int).all λd=>whF d 0)=true:=List.all_eq_true.mpr λd hd=>by
  obtain⟨n,hn,rfl⟩:=nN.mp hd;exact mX (h.nn n hn)
 have e3:decide ((vU (x.ns.map PyData.int)).sum<=16)=true:=by rw[zS];exact mX h.deg
 have e4:decide (1<=x.b)=true:=mX h.pos;have e5:decide (Int.gcd x.t x.b=1)=true:=mX h.low;have e6:decide ([x.t,x.b]=[0,1])=false:=mU λz=>by injection z with z _;exact h.nz z
 rw[e1,e2,e3,e4,e5,e6]
 rfl
theorem SW{ts:List Trm}(h:ts.Pairwise λx y=>LwD.xN x.ns y.ns=true):EH (ts.map xW)=true:=by
 unfold EH;refine List.all_eq_true.mpr λq hq=>?_;obtain⟨j,hj⟩:=gP.mp hq;obtain⟨h1,h2⟩:=List.getElem?_zip_eq_some.mp hj;rw[List.getElem?_drop,mC]at h2;rw[mC]at h1;cases e1:ts[j]? with
 | none=>rw[e1]at h1;cases h1
 | some a=>
  cases e2:ts[1+j]? with
  | none=>rw[e2]at h2;cases h2
  | some b=>
   rw[e1]at h1;rw[e2]at h2;have a1:xW a=q.1:=Option.some.inj h1;have a2:xW b=q.2:=Option.some.inj h2;rw[<-a1,<-a2];show LwT.lexLt (vU (a.ns.map PyData.int)) (vU (b.ns.map PyData.int))=true;rw[zS,zS];obtain⟨i1,g1⟩:=gG.mp e1;obtain⟨i2,g2⟩:=gG.mp e2;have:=List.pairwise_iff_getElem.mp h j (1+j) i1 i2 (by omega);rw[g1,g2]at this;exact ltOf this
theorem MT{aa:Nat}{ts:List Trm}(h:Good aa ts):IL (wW aa ts)=true:=by
 show((decide (1<=(aa:Int))&&decide ((aa:Int)<=4))&&(decide ((ts.map xW).length<=500)&&(((ts.map xW).all λt=>vA t aa)&&EH (ts.map xW))))=true;have e1:decide (1<=(aa:Int))=true:=mX (by have:=h.m1;omega);have e2:decide ((aa:Int)<=4)=true:=mX (by have:=h.m4;omega);have e3:decide ((ts.map xW).length<=500)=true:=mX (by rw[mS];have:=h.few;omega);have e4:((ts.map xW).all λt=>vA t aa)=true:=List.all_eq_true.mpr λd hd=>by
  obtain⟨x,hx,rfl⟩:=nN.mp hd;exact SA (h.each x hx)
 rw[e1,e2,e3,e4,SW h.up]
 rfl
theorem MU{aa:Nat}{ts:List Trm}(h:Good aa ts):suOk (wW aa ts):=by
 show ∀t∈ts.map xW,tmOk t;intro d hd;obtain⟨x,hx,rfl⟩:=nN.mp hd;have ok:=h.each x hx;refine⟨⟨?_,λi hi=>?_⟩,λz hz=>?_⟩
 ·rw[mS,ok.len];exact nL h.m4 (by decide)
 ·obtain⟨n,hn,e⟩:=nN.mp hi;injection e with e
  rw[<-e];exact Int.le_trans (ok.le hn).2 (by decide)
 ·rcases nF.mp hz with rfl | hz
  ·exact Nat.lt_trans ok.st (gT (by decide) (by decide))
  ·rw[hU]at hz;subst hz;exact Nat.lt_trans ok.sb (gT (by decide) (by decide))
theorem scRdTerm:FnScope ["text","many","words"] ["text","many"] (jL AX):=⟨rfl,rfl,rfl,by decide +kernel,rfl,by decide +kernel,by decide +kernel⟩
theorem QD{fW fN fP:Addr}{fdW fdN fdP:FuncData}(F:Fun K "read_term" "read_term" AX f fd)(T:Txt mg)(L:Ltr K mg)(G:Fig K mg)(DW:Df K mg "read_whole" xY ["word"] fW fdW)(DN:Df K mg "read_number" FY ["word"] fN fdN)(DP:Df K mg "read_powers" NE ["words","many"] fP fdP):FnOk P w K mg base CX0 3 f fd ["text","many"] spRdTerm:=by
 have GN:FnOk P w K mg base CX0 2 fN fdN ["word"] spRdNum:=JJ DN.F T G DW;have GP:FnOk P w K mg base CX0 2 fP fdP ["words","many"] spRdPw:=NR DP.F T L G DW;refine F.ok scRdTerm (λvs H Q E h=>?_) (λcdv A outer s H vs Q E hr h=>?_)
 ·obtain⟨aa,x,rfl,_⟩:=h
  rfl
 ·obtain⟨aa,x,rfl,ok,m1,m4,go⟩:=h;refine⟨_,jC (jP (i:=2) scRdTerm.nd rfl (Or.inl rfl) (vY PySem.F.plainAttrs_str PySem.F.slot_str_split PySem.F.type_str_split JQ (pv 0) (jA vV jB)))
   (jE (jO (jS (jA (jI GP hr rfl DP.m DP.F.kp DP.b .nil jM (jA (xH MZ (pv 2) (vO jJ) yK) (jA (pv 1) jB))) (jA (jI GN hr rfl DN.m DN.F.kp DN.b .nil jM (jA (kF qS (pv 2) jJ (λ_ _=>rfl)) jB)) jB))))), ?_⟩
  try dsimp only[cxK]
  refine⟨_,rfl,rfl,_,_,rfl,rfl,rfl,nL (Nat.add_le_add_right (FL ok m4) 2) (by decide),λl H1 n1 s1 e1=>?_⟩;rw[show Txt.split (ttx x) (Str.ofString " ")=ntx x.t x.b::(wl 0 x.ns).map wtx from EE x]at e1;refine⟨_,rfl,_,rfl,l,_,rfl,SqL.of e1,λp np=>⟨_,rfl, ?_⟩⟩;have ec:vN ((ntx x.t x.b::(wl 0 x.ns).map wtx).map V.str) (some 1) none=((wl 0 x.ns).map wtx).map V.str:=by
   rw[KQ]
   rfl
  rw[ec];refine⟨p,aa,x,rfl,jD,ok,m1,m4,λb H2 n2 s2 e2=>?_⟩;have s12:Same H1 H2:=(jN _ np).trans s2;refine⟨_,rfl,l,_,0,_,rfl,rfl,SqL.of (s12 _ _ e1),qX (j:=0) rfl,aa,x,rfl,ok,λc H3 n3 s3 e3=>⟨gD,λr H4 n4 s4 e4=>?_⟩⟩;exact go _ H4 (s1.trans (s12.trans (s3.trans s4))) ⟨r,b,c,rfl,e4,s4 _ _ (s3 _ _ e2),s4 _ _ e3⟩
theorem EG{y p:Str}{k c:Nat}(M:Mark y k c)(h:c∉p.cps.toList):Txt.split p y=[p]:=wE M (p:=p) (ps:=[]) λq hq=>by rw[hU.mp hq];exact h
theorem YZ(i:Int):1<=(itx i).length:=by
 rw[<-jT];have:=ON i.natAbs;rcases vK i with⟨_,h⟩ | ⟨_,h⟩<;>rw[h]
 ·cases e:dg i.natAbs with
  | nil=>exact absurd e this
  | cons a r=>simp
 ·simp
theorem stx_ne{aa:Nat}{x:Trm}{r:List Trm}(h:TmOk aa x):decide (V.str (stx (x::r))=V.str (Str.ofString "0"))=false:=by
 refine mU λe=>?_;injection e with e
 have e:stx (x::r)=⟨#[48]⟩:=e;have h1:=EF x r;have M3:Mark ⟨#[32,43,32]⟩ 1 43:=⟨rfl,λj hj=>(by
  have e0:j=0:=by omega
  rw[e0]
  decide),by decide +kernel⟩
 have M1:Mark ⟨#[32]⟩ 0 32:=⟨rfl,λj hj=>absurd hj (Nat.not_lt_zero _),by decide +kernel⟩;rw[e,EG M3 (by decide)]at h1;have hr:r=[]:=by
  have:=congrArg List.length h1;rw[mS,List.length_reverse]at this;exact List.length_eq_zero_iff.mp (by simpa using this.symm)
 subst hr;have e2:ttx x=⟨#[48]⟩:=by
  have h1':[(⟨#[48]⟩:Str)]=[ttx x]:=h1;exact(List.cons.inj h1').1.symm
 have h3:=EE x;rw[e2,EG M1 (by decide)]at h3
 replace h3:=(List.cons.inj h3).1
 unfold ntx at h3;split at h3
 ·have e4:[48]=(itx x.t).cps.toList:=congrArg (λs:Str=>s.cps.toList) h3;rcases vK x.t with⟨_,h5⟩ | ⟨_,h5⟩
  ·rw[h5]at e4;have:=WE x.t.natAbs;rw[<-e4]at this;have v0:LwI.valD [48]=0:=by decide
   rw[v0]at this;exact h.nz (by omega)
  ·rw[h5]at e4;injection e4 with e4 _
   omega
 ·have:=congrArg Str.length h3;rw[Str.length_append,Str.length_append]at this;have l1:(⟨#[48]⟩:Str).length=1:=rfl;have l2:(⟨#[47]⟩:Str).length=1:=rfl;have:=YZ x.t;omega
def spRead:Sp:=λvs H Q _=>∃(aa:Nat) (ts:List Trm),vs=[.str (stx ts),.int aa]/\Good aa ts/\∀p H',Same H H'->Poly H' p aa ts->Q (.ref p) H'
structure RdI(H:Hp)(l:Addr)(ts:List Trm)(i:Nat)(ys:List V)(H2:Hp):Prop where
 s:Same H H2
 e:H2 l=some (.lst ys)
 y:Paired (TrmV H2) ys (ts.take i)
theorem Paired.snoc{α β:Type}{F:α->β->Prop} :∀{l₁:List α} {l₂:List β} {x:α} {y:β},Paired F l₁ l₂->F x y->Paired F (l₁++[x]) (l₂++[y])
 | _,_,_,_,.nil,h=>.cons h .nil
 | _,_,_,_,.cons h t,k=>.cons h (Paired.snoc t k)
theorem OA{H:Hp}{l:Addr}{ys:List V}{o:HO}(e:H l=some (.lst ys)):∀a xs,H a=some (.tup xs)->upd H l o a=some (.tup xs):=λa xs h=>by
 rw[jH (λz=>by rw[z,e]at h;cases h)];exact h
theorem scRead:FnScope ["text","many","one"] ["text","many"] (jL ND):=⟨rfl,rfl,rfl,by decide +kernel,rfl,by decide +kernel,by decide +kernel⟩
theorem YG{fT fS fH:Addr}{fdT fdS fdH:FuncData}(F:Fun K "read" "read" ND f fd)(T:Txt mg)(DT:Df K mg "read_term" AX ["text","many"] fT fdT)(DS:Df K mg "is_sum" SV ["thing"] fS fdS)(DH:Df K mg "shown" CA ["one"] fH fdH)
  (GT:FnOk P w K mg base CX0 3 fT fdT ["text","many"] spRdTerm) (GS:FnOk P w K mg base CX0 5 fS fdS ["thing"] spSum) (GH:FnOk P w K mg base CX0 3 fH fdH ["one"] spShown):FnOk P w K mg base CX0 6 f fd ["text","many"] spRead:=by
 obtain⟨ts0,hsg⟩:=T.signs;refine F.ok scRead (λvs H Q E h=>?_) (λcdv A outer s H vs Q E hr h=>?_)
 ·obtain⟨aa,ts,rfl,_⟩:=h
  rfl
 ·obtain⟨aa,ts,rfl,ok,go⟩:=h;have hr3:Room 3 _:=hr.mono (by decide);refine⟨_,jC (kR (jV xS (kN IB (by rfl) T.len PySem.boot_len (jA (pv 0) jB)) (kQ (v:=.int 4000) (by rfl) hsg ⟨_,rfl⟩) (jU _)) (jE qO) kA)
   (jC (kR (jV zF (pv 0) vV (jU _)) (jE (jO (jS (jA (pv 1) (jA (jS jB) jB))))) kA)
   (jC (jP (i:=2) scRead.nd rfl (Or.inl rfl) (jS (jA (pv 1) (jA (qA qG (by rfl) T.tup boot_tuple (jA
    (vE (own:=1) (idx:=[1]) (N:=["part","many"]) rfl rfl rfl (by decide +kernel) (by decide +kernel) (λ_ _ h=>h) (qH rfl) rfl (yN rfl ⟨rfl,rfl,rfl,rfl⟩)
     (vP (JD (vY PySem.F.plainAttrs_str PySem.F.slot_str_split PySem.F.type_str_split JQ (pv 0) (jA vV jB)) (vO (AB yV jJ))))
     (λC fp s2 H2=>jF (i:=0) (show List.Nodup (["part","many"]:List Str) by decide +kernel) rfl (Or.inl rfl)) (λC fp s2 H2=>jI GT hr3 rfl DT.m DT.F.kp DT.b .nil jM (jA (pv 0) (jA (pv 1) jB)))) jB)) jB))))
   (jC (kR (PW.pt (yZ (vD (qY (jI GS hr rfl DS.m DS.F.kp DS.b .nil jM (jA (pv 2) jB)))) (xU (jV AC (jI GH hr3 rfl DH.m DH.F.kp DH.b .nil jM (jA (pv 2) jB)) (pv 0) (jU _))))) (jE qO) kA)
   (jE (jO (pv 2)))))), ?_⟩
  try dsimp only[cxK]
  have ln:=XA ok.each ok.m4 ok.few;refine⟨_,rfl,_,rfl,nL ln (by decide),_,_,rfl,rfl,_,rfl,vI (mU (by omega)) ?_⟩;refine⟨_,rfl,rfl,_,rfl, ?_⟩;cases ts with
  | nil=>
   refine xO (mX rfl) ⟨_,rfl,gB,λq H1 n1 s1 e1=>⟨gD,λp H2 n2 s2 e2=>?_⟩⟩;exact go p H2 (s1.trans s2) ⟨q,[],e2,s2 _ _ e1,.nil⟩
  | cons x r=>
   refine vI (stx_ne (ok.each x (by simp))) ?_;refine⟨_,rfl,_,rfl,rfl,_,_,rfl,rfl,rfl,nL (Nat.add_le_add_right ln 2) (by decide),λa H1 n1 s1 e1=>?_⟩;rw[show Txt.split (stx (x::r)) (Str.ofString " + ")=(x::r).reverse.map ttx from EF x r]at e1;refine⟨1,rfl,_,rfl,rfl,a,_,rfl,SqL.of e1,λa2 H2 n2 s2 e2=>?_⟩;rw[<-List.map_reverse,<-List.map_reverse,List.reverse_reverse]at e2;refine⟨a2,rfl,⟨_,SqL.of e2⟩,λl H3 n3 s3 e3=>?_⟩;refine yQ (K:=K) (a:=a2) (xs:=((x::r).map ttx).map V.str) (RdI H2 l (x::r)) (gX (show _<=7 by rw[mS,mS];exact ok.few) (by decide)) ⟨s3,e3,.nil⟩ (λi ys H4 h=>⟨SqL.of (h.s _ _ e2),h.e⟩) ?_ ?_
   ·rintro i m ys v H4 hv hm hy ⟨s4,e4,hp⟩;rw[mC,mC]at hv;obtain⟨y,hy2,rfl⟩:∃y,(x::r)[i]? = some y/\V.str (ttx y)=v:=by
     cases e:(x::r)[i]? with
     | none=>rw[e]at hv;cases hv
     | some y=>rw[e]at hv;exact⟨y,rfl,Option.some.inj hv⟩
    refine⟨zJ,_,rfl,_,rfl,aa,y,rfl,ok.each y (gQ hy2),ok.m1,ok.m4,λu H5 s5 hu=>?_⟩;have e5:=s5 _ _ e4;refine kL (by rw[mC,mC,hy2];rfl) hm hy e5 ⟨jY (s4.trans s5) n3,jD, ?_⟩;rw[mE,hy2];exact Paired.snoc (Paired.to (λ_ _ h=>(h.map λ_ _ e=>s5 _ _ e).map (OA e5)) hp) (hu.map (OA e5))
   ·rintro ys H4 hl ⟨s4,e4,hp⟩;rw[mS,mS,mN]at hp;refine⟨l,_,rfl,.inl ⟨SqL.of e4,λq nq=>⟨gD,λp H5 n5 s5 e5=>?_⟩⟩⟩;have s45:Same H4 H5:=(jN _ nq).trans s5;have P5:Poly H5 p aa (x::r):=⟨q,ys,e5,s5 _ _ jD,Paired.to (λ_ _ h=>h.map λ_ _ e=>s45 _ _ e) hp⟩;have s05:Same H H5:=s1.trans (s2.trans (s4.trans s45));refine⟨_,rfl,_,_,rfl,P5.dec,MU ok,λH6 s6=>⟨_,rfl, ?_⟩⟩;rw[MT ok];refine vW ⟨_,rfl,p,aa,x::r,rfl,P5.same s6,ok,λH7 s7=>⟨_,rfl,rfl,_,rfl, ?_⟩⟩;refine vI (by rw[mX rfl];rfl) ⟨_,rfl, ?_⟩;exact go p H7 (s05.trans (s6.trans s7)) (P5.same (s6.trans s7))
end Lw
namespace Lw
open PySem PySem.Spec PyProof.Rows L2 LwQ LwV
def pk(ns:List Int):Int:=ns.foldl (λk n=>k*256+n) 0
theorem yL(ns:List Int)(n:Int):pk (ns++[n])=pk ns*256+n:=by
 unfold pk;rw[mH]
 rfl
theorem XW{ns:List Int}{i:Nat}{n:Int}(h:ns[i]? = some n):pk (ns.take (i+1))=pk (ns.take i)*256+n:=by
 rw[mE,h];exact yL ..
def Byt(ns:List Int):Prop:=∀n∈ns,0<=n/\n<256
theorem Byt.take{ns:List Int}(h:Byt ns)(i:Nat):Byt (ns.take i):=λn hn=>h n (gU hn)
theorem pk_nn:∀{ns:List Int},Byt ns->0<=pk ns:=fun {ns} =>by
 have key:∀(k:Int) (l:List Int),0<=k->(∀n∈l,0<=n/\n<256)->0<=l.foldl (λk n=>k*256+n) k:=λk l=>by
  induction l generalizing k with
  | nil=>exact λh _=>h
  | cons a l ih=>
   intro h0 h1;refine ih _ ?_ λn hn=>h1 n (gR _ hn);have:=h1 a (hW ..);show 0<=k*256+a;omega
 exact key 0 ns (nV _)
theorem BB{ns:List Int}{n:Int}(h:0<=n/\n<256):pk (ns++[n])%256=n/\pk (ns++[n])/256=pk ns:=by
 rw[yL];omega
theorem yH{α:Type}{l:List α}{n:Nat}(h:l.length=n+1):∃m y,l=m++[y]/\m.length=n:=by
 rcases List.eq_nil_or_concat l with z | ⟨m,y,z⟩
 ·rw[z]at h;cases h
 ·rw[List.concat_eq_append]at z;exact⟨m,y,z,by rw[z,gY]at h;simpa using h⟩
theorem uI{l:List Int}{a:Int}(h:Byt (l++[a])):Byt l/\0<=a/\a<256:=⟨λn hn=>h n (List.mem_append_left _ hn),h a (gN _ (hU.mpr rfl))⟩
theorem pk_lt:∀(n:Nat) {ns:List Int},ns.length=n->Byt ns->pk ns<256^n
 | 0,ns,hl,_=>by rw[List.length_eq_zero_iff.mp hl];decide
 | n+1,ns,hl,h=>by
  obtain⟨m,y,rfl,hm⟩:=yH hl;obtain⟨h1,h2⟩:=uI h;have:=pk_lt n hm h1;rw[yL,Int.pow_succ];omega
theorem HB:∀(n:Nat) {a b:List Int},a.length=n->b.length=n->Byt a->Byt b->pk a=pk b->a=b
 | 0,a,b,h1,h2,_,_,_=>by rw[List.length_eq_zero_iff.mp h1,List.length_eq_zero_iff.mp h2]
 | n+1,a,b,h1,h2,ha,hb,e=>by
  obtain⟨m,y,rfl,hm⟩:=yH h1;obtain⟨m',y',rfl,hm'⟩:=yH h2;obtain⟨k1,k2⟩:=uI ha;obtain⟨k3,k4⟩:=uI hb;have p1:=BB (ns:=m) k2;have p2:=BB (ns:=m') k4;rw[e]at p1;rw[p1.1.symm.trans p2.1,HB n hm hm' k1 k3 (p1.2.symm.trans p2.2)]
theorem wX{ns:List Int}(h:Byt ns)(l:ns.length<=4):(pk ns).natAbs<2^32:=by
 have h0:=pk_nn h;have h1:=pk_lt _ rfl h;have:(256:Int)^ns.length<=256^4:=by
  obtain h | h | h | h | h:ns.length=0∨ns.length=1∨ns.length=2∨ns.length=3∨ns.length=4:=by omega
  all_goals rw[h];decide
 have:(256:Int)^4=2^32:=by decide
 omega
def BY(K:tF):Sp:=λvs H Q _=>∃(b:Addr) (ns:List Int),vs=[.ref b]/\SqT K H b (ns.map V.int)/\Byt ns/\ns.length<=4/\Q (.int (pk ns)) H
inductive PkI(H:Hp)(b:Addr)(ns:List Int)(i:Nat):L2.St->Hp->Prop where
 | mk {u:Option V} :PkI H b ns i [some (.ref b),some (.int (pk (ns.take i))),u] H
def spUnpk:Sp:=λvs H Q _=>∃(ns:List Int),vs=[.int (pk ns),.int ns.length]/\Byt ns/\ns.length<=4/\∀(r:Addr) (H':Hp),H r=none->Same H H'->H' r=some (.tup (ns.map V.int))->Q (.ref r) H'
inductive UpI(H:Hp)(l:Addr)(ns:List Int)(i:Nat):L2.St->Hp->Prop where
 | mk {u:Option V} {H':Hp} (s:Same H H') (e:H' l=some (.lst (((ns.reverse).take i).map V.int))):UpI H l ns i [some (.int (pk (ns.take (ns.length-i)))),some (.int ns.length),some (.ref l),u] H'
variable{P:Program}{w:World}{K:tF}{mg:Str->Option Value}{base:Heap}{f fd:_}
theorem scPk:FnScope ["powers","key","power"] ["powers"] (jL wS):=⟨rfl,rfl,rfl,by decide +kernel,rfl,by decide +kernel,by decide +kernel⟩
theorem QF(F:Fun K "packed" "packed" wS f fd)(T:Txt mg):FnOk P w K mg base CX0 1 f fd ["powers"] (BY K):=by
 obtain⟨tp,hp⟩:=T.pack;refine F.ok scPk (λvs H Q E h=>?_) (λcdv A outer s H vs Q E hr h=>?_)
 ·obtain⟨b,ns,rfl,_⟩:=h
  rfl
 ·obtain⟨b,ns,rfl,hb,hB,l4,go⟩:=h;refine⟨_,jC (jP (i:=1) scPk.nd rfl (Or.inl rfl) jJ) (jC (qF PassesOwn.never rfl (xF (pv 0)) (jF (i:=2) scPk.nd rfl (Or.inl rfl)) (jE (jP (i:=1) scPk.nd rfl (Or.inl rfl) (jW vJ (jW kZ (pv 1) (kQ (v:=.int 256) (by rfl) hp ⟨_,rfl⟩)) (pv 2))))) (jE (jO (pv 1)))), ?_⟩;try dsimp only[cxK]
  refine⟨_,rfl,b,rfl,⟨_,hb⟩,uA (K:=K) (a:=b) (xs:=ns.map V.int) (PkI H b ns) .mk (λi σ H1 _ h=>?_) (λi x σ H1 hx h=>?_) (fun σ H1 h=>?_)⟩
  ·obtain⟨⟩:=h;exact hb
  ·obtain⟨⟩:=h;rw[mC]at hx;obtain⟨n,hn,rfl⟩:=Option.map_eq_some_iff.mp hx;have sm:=wX (hB.take i) (by rw[mK];omega);refine⟨_,rfl,_,_,rfl,rfl,⟨jQ sm (by decide),jQ (m:=9) (by decide) (by decide)⟩,_,rfl,_,_,rfl,rfl, ?_⟩;have e:=XW hn;dsimp only[jX];rw[<-e];exact .mk
  ·obtain⟨⟩:=h;rw[mS,mN];exact⟨_,rfl,go⟩
theorem scUp:FnScope ["key","many","powers","letter"] ["key","many"] (jL NA):=⟨rfl,rfl,rfl,by decide +kernel,rfl,by decide +kernel,by decide +kernel⟩
theorem YE(F:Fun K "unpacked" "unpacked" NA f fd)(T:Txt mg):FnOk P w K mg base CX0 1 f fd ["key","many"] spUnpk:=by
 obtain⟨tp,hp⟩:=T.pack;refine F.ok scUp (λvs H Q E h=>?_) (λcdv A outer s H vs Q E hr h=>?_)
 ·obtain⟨ns,rfl,_⟩:=h
  rfl
 ·obtain⟨ns,rfl,hB,l4,go⟩:=h;refine⟨_,jC (jP (i:=2) scUp.nd rfl (Or.inl rfl) (qC jB)) (jC (qF PassesOwn.never rfl (vB (by rfl) T.rng (jA (pv 1) jB)) (jF (i:=3) scUp.nd rfl (Or.inl rfl)) (jC (xQ (vY PySem.F.plainAttrs_list PySem.F.slot_list_append PySem.F.type_list_append kW (pv 2) (jA (jW uR (pv 0) (kQ (v:=.int 256) (by rfl) hp ⟨_,rfl⟩)) jB))) (jE (jP (i:=0) scUp.nd rfl (Or.inl rfl) (jW LwD.zE (pv 0) (kQ (v:=.int 256) (by rfl) hp ⟨_,rfl⟩)))))) (jE (jO (qA qG (by rfl) T.tup boot_tuple (jA (JD (pv 2) (vO (AB yV jJ))) jB))))), ?_⟩;try dsimp only[cxK]
  refine⟨gB,λl H1 n1 s1 e1=>?_⟩;refine⟨_,rfl,_,rfl,by omega,by omega,yF (n:=ns.length) (UpI H l ns) ?_ (λi σ H2 hi h=>?_) (fun σ H2 h=>?_)⟩
  ·have z:UpI H l ns 0 [some (.int (pk (ns.take (ns.length-0)))),some (.int ns.length),some (.ref l),none] H1:=.mk s1 (by rw[List.take_zero];exact e1);rw[Nat.sub_zero,mN]at z;exact z
  ·obtain⟨s2,e2⟩:=h;obtain⟨m,y,em,hm⟩:=yH (l:=ns.take (ns.length-i)) (n:=ns.length-(i+1)) (by rw[mK];omega);have hBm:=hB.take (ns.length-i);rw[em]at hBm;obtain⟨b1,b2⟩:=uI hBm;have p1:=BB (ns:=m) b2;have em':m=ns.take (ns.length-(i+1)):=by
    have:=congrArg (List.take (ns.length-(i+1))) em;rw[List.take_take,Nat.min_eq_left (by omega),<-hm,List.take_left' rfl]at this;rw[<-this,hm]
   have sm:=wX (hB.take (ns.length-i)) (by rw[mK];omega);rw[em]at sm ⊢;have lt:=mK (i:=i) (l:=ns.reverse);rw[List.length_reverse]at lt;refine⟨_,rfl,.inl ⟨rfl,_,SqL.of e2⟩,_,rfl,_,_,rfl,rfl,(by show(0:Int)<256;decide),l,_,_,rfl,rfl,e2,by rw[mS,lt,sizeLine_eq];omega, ?_⟩;refine⟨_,rfl,_,_,rfl,rfl,LwD.xL (m:=32) (by decide) (by decide) sm, ?_⟩;dsimp only[jX];rw[p1.1,p1.2,em'];refine .mk (jY s2 n1) ?_;have g:ns.reverse[i]? = some y:=by
    rw[List.getElem?_reverse (by omega)];have g2:(ns.take (ns.length-i))[ns.length-1-i]? = some y:=by
     rw[em,gF (by omega)];have:ns.length-1-i-m.length=0:=by omega
     rw[this]
     rfl
    rw[gJ (by omega)]at g2;exact g2
   rw[jD,mE,g,mT]
   rfl
  ·obtain⟨s2,e2⟩:=h;rw[gM (by rw[List.length_reverse];exact nQ _)]at e2;refine⟨_,rfl,_,rfl,_,rfl,rfl,l,_,rfl,SqL.of e2,λl2 H3 n3 s3 e3=>⟨l2,_,rfl,.inl ⟨SqL.of e3,λr nr=>?_⟩⟩⟩;have e:((ns.reverse).map V.int).reverse=ns.map V.int:=by rw[List.map_reverse,List.reverse_reverse]
   rw[e];exact go r _ ((s2.trans s3).free nr) ((s2.trans s3).trans (jN _ nr)) jD
theorem Paired.app{α β:Type}{F:α->β->Prop} :∀{a b:List α} {c d:List β},Paired F a c->Paired F b d->Paired F (a++b) (c++d)
 | _,_,_,_,.nil,h=>h
 | _,_,_,_,.cons h t,k=>.cons h (Paired.app t k)
abbrev Tb:=List (Int×Rat)
def tv(T:Tb)(k:Int):Rat:=((T.find? λe=>decide (e.1=k)).map (·.2)).getD 0
def xM(T:Tb)(k:Int)(x:Rat):Tb:=if (T.any λe=>decide (e.1=k))=true then T.map (λe=>if e.1=k then(e.1,x)else e)else T++[(k,x)]
theorem kX(e:Int×Rat)(T:Tb)(k:Int):tv (e::T) k=if e.1=k then e.2 else tv T k:=by
 unfold tv;rw[List.find?_cons];by_cases h:e.1=k
 ·rw[tD h];simp [h]
 ·rw[nZ h];simp [h]
theorem wC:∀{T:Tb} {k:Int},k∉T.map (·.1)->tv T k=0
 | [],_,_=>rfl
 | e::T,k,h=>by
  rw[kX,nZ (λz=>h (by simp [z])),wC (λz=>h (by simp at z ⊢;exact .inr z))]
theorem LE:∀(T:Tb) (k:Int) (x:Rat) (j:Int),k∉T.map (·.1)->tv (T++[(k,x)]) j=if j=k then x else tv T j
 | [],k,x,j,_=>by
  show tv [(k,x)] j=_;rw[kX];by_cases h:k=j
  ·rw[tD h,tD h.symm]
  ·rw[nZ h,nZ (Ne.symm h)]
 | e::T,k,x,j,hk=>by
  have ih:=LE T k x j (λz=>hk (by simp at z ⊢;exact .inr z));show tv (e::(T++[(k,x)])) j=_;rw[kX,kX,ih];by_cases h:e.1=j
  ·rw[tD h,tD h,nZ (λz=>hk (by simp [h,z]))]
  ·rw[nZ h,nZ h]
theorem LD:∀(T:Tb) (k:Int) (x:Rat) (j:Int),k∈T.map (·.1)->tv (T.map (λe=>if e.1=k then(e.1,x)else e)) j=if j=k then x else tv T j
 | [],k,x,j,h=>nomatch h
 | e::T,k,x,j,hk=>by
  rw[nE,kX,kX];by_cases h:e.1=k
  ·rw[tD h];by_cases q:e.1=j
   ·rw[tD q,tD (q.symm.trans h)]
   ·rw[nZ q,nZ (λz=>q (h.trans z.symm)),nZ q];by_cases r:k∈T.map (·.1)
    ·rw[LD T k x j r,nZ (λz=>q (h.trans z.symm))]
    ·have:T.map (λe=>if e.1=k then(e.1,x)else e)=T:=by
      conv=>rhs;rw[<-List.map_id T]
      refine List.map_congr_left λa ha=>?_;rw[nZ (λz=>r (by rw[<-z];exact List.mem_map_of_mem ha))]
      rfl
     rw[this]
  ·rw[nZ h];have r:k∈T.map (·.1):=by
    rcases nN.mp hk with⟨a,ha,e1⟩
    rcases nF.mp ha with rfl | ha
    ·exact absurd e1 h
    ·exact e1▸List.mem_map_of_mem ha
   rw[LD T k x j r];by_cases q:e.1=j
   ·rw[tD q,nZ (λz=>h (q.trans z)),tD q]
   ·rw[nZ q,nZ q]
theorem any_key{T:Tb}{k:Int} :(T.any λe=>decide (e.1=k))=true↔k∈T.map (·.1):=by
 rw[List.any_eq_true,nN];constructor
 ·rintro⟨e,he,h⟩;exact⟨e,he,mG h⟩
 ·rintro⟨e,he,h⟩;exact⟨e,he,mX h⟩
theorem tv_put(T:Tb)(k:Int)(x:Rat)(j:Int):tv (xM T k x) j=if j=k then x else tv T j:=by
 unfold xM;by_cases h:(T.any λe=>decide (e.1=k))=true
 ·rw[tD h,LD T k x j (any_key.mp h)]
 ·rw[nZ h,LE T k x j (λz=>h (any_key.mpr z))]
theorem zI(T:Tb)(k:Int)(x:Rat):(xM T k x).map (·.1)=if k∈T.map (·.1)then T.map (·.1)else T.map (·.1)++[k]:=by
 unfold xM;by_cases h:(T.any λe=>decide (e.1=k))=true
 ·rw[tD h,tD (any_key.mp h),nO];refine List.map_congr_left λa _=>?_;show(if a.1=k then(a.1,x)else a).1=a.1;split<;>rfl
 ·rw[nZ h,nZ (λz=>h (any_key.mpr z)),mT]
  rfl
theorem zP{T:Tb}{k:Int}{x:Rat}(h:(T.map (·.1)).Nodup):((xM T k x).map (·.1)).Nodup:=by
 rw[zI];split
 ·exact h
 ·rename_i n;rw[List.nodup_append];exact⟨h,by simp,λa ha b hb=>by rw[hU]at hb;rintro rfl;rw[hb]at ha;exact n ha⟩
def EntQ(K:tF)(H:Hp)(kv:Key×V)(e:Int×Rat):Prop:=kv.1=.inl e.1/\NumK K H kv.2 e.2
theorem EntQ.same{K:tF}{H H':Hp}{kv:Key×V}{e:Int×Rat}(h:EntQ K H kv e)(s:Same H H'):EntQ K H' kv e:=⟨h.1,h.2.same s⟩
theorem OL{K:tF}{H:Hp}{k:Int} :∀{ag:List (Key×V)} {T:Tb},Paired (EntQ K H) ag T->(ag.any λkv=>decide (kv.1=(.inl k:Key)))=(T.any λe=>decide (e.1=k))
 | _,_,.nil=>rfl
 | _,_,.cons (a:=kv) (b:=e) h t=>by
  rw[List.any_cons,List.any_cons,OL t,h.1]
  congr 1
  by_cases q:e.1=k
  ·rw[mX q,mX (by rw[q])]
  ·rw[mU q,mU (λz=>q (Sum.inl.inj z))]
theorem uB{K:tF}{H:Hp}{k:Int}{v:V}{x:Rat}{ag:List (Key×V)}{T:Tb}(h:Paired (EntQ K H) ag T)(n:NumK K H v x):Paired (EntQ K H) (qE ag (.inl k) v) (xM T k x):=by
 have key:∀{ag:List (Key×V)} {T:Tb},Paired (EntQ K H) ag T->Paired (EntQ K H) (ag.map λkv=>if kv.1=(.inl k:Key)then(kv.1,v)else kv) (T.map λe=>if e.1=k then(e.1,x)else e):=by
  intro ag T h;induction h with
  | nil=>exact .nil
  | @cons kv e _ _ h _ ih=>
   refine .cons ?_ ih;dsimp only;by_cases q:e.1=k
   ·rw[tD (by rw[h.1,q]),tD q];exact⟨h.1,n⟩
   ·rw[nZ (λz=>q (by rw[h.1]at z;exact Sum.inl.inj z)),nZ q];exact h
 unfold qE xM;rw[OL h];split
 ·exact key h
 ·exact Paired.app h (.cons ⟨rfl,n⟩ .nil)
theorem HW{K:tF}{H:Hp}{k:Int} :∀{ag:List (Key×V)} {T:Tb},Paired (EntQ K H) ag T->(∃v,kS ag (.inl k:Key)=some v/\NumK K H v (tv T k)/\k∈T.map (·.1))∨(kS ag (.inl k:Key)=none/\tv T k=0/\k∉T.map (·.1))
 | _,_,.nil=>.inr ⟨rfl,rfl,by simp⟩
 | kv::ag,e::T,.cons h t=>by
  rw[kX];by_cases q:e.1=k
  ·rw[tD q,qB (by rw[h.1,q])];exact .inl ⟨_,rfl,h.2,by simp [q]⟩
  ·have n:kv.1≠(.inl k:Key):=λz=>q (by rw[h.1]at z;exact Sum.inl.inj z);have e1:kS (kv::ag) (.inl k:Key)=kS ag (.inl k:Key):=by unfold kS;rw[List.find?_cons,mU n]
   rw[nZ q,e1];rcases HW t with⟨v,h1,h2,h3⟩ | ⟨h1,h2,h3⟩
   ·exact .inl ⟨v,h1,h2,gR _ h3⟩
   ·exact .inr ⟨h1,h2,λz=>by rcases nF.mp z with z | z;exact q z.symm;exact h3 z⟩
structure TabQ(K:tF)(H:Hp)(d:Addr)(ag:List (Key×V))(T:Tb):Prop where
 rd:Rd H d (.dK ag)
 pr:Paired (EntQ K H) ag T
section
variable{X:Cx}
def rDictK:List V->Hp->VK->Prop:=λxs H Q=>∃(a:Addr) (ag:List (Key×V)),xs=[.ref a]/\Rd H a (.dK ag)/\New H (.dK ag) Q
theorem MJ:CallR X (.type "dict") rDictK:=by
 intro ac s σ H xs us Q I r h;obtain⟨a,ag,rfl,ha,q⟩:=h;obtain⟨u,rfl,ru⟩:=qM r;cases ru;exact WJ I ha λp s' n I'=>⟨.ref p,_,I',rfl,q.at n⟩
end
def DW{α:Type}(xs:List α)(Pv:Nat->List (Key×V)->Hp->Prop)(i m:Nat)(ys:List (Key×V))(H:Hp):Prop:=m=xs.length-i/\i<=xs.length/\Pv i ys H
theorem BH{α:Type}{xs:List α}{Pv:Nat->List (Key×V)->Hp->Prop}{i m:Nat}{ys:List (Key×V)}{H:Hp}{x:α}(h:xs[i]? = some x)(hm:m=xs.length-i)(q:Pv (i+1) ys H):∃m',m'<m/\DW xs Pv (i+1) m' ys H:=by
 have:=(gG.mp h).1;exact⟨_,by omega,rfl,this,q⟩
theorem MD{K:tF}{a:Addr}{xs:List V}{σ0:L2.St}{g:TG}{tk tx:TE}{Q:VK}{p:Addr}{H':Hp}(Pv:Nat->List (Key×V)->Hp->Prop)(hz:xs.length<sizeLine)(h0:Pv 0 [] H')(hl:∀i ys H2,Pv i ys H2->SqT K H2 a xs/\H2 p=some (.dK ys)/\ys.length<=i)
  (hs:∀i m ys x H2,xs[i]? = some x->m=xs.length-i->Pv i ys H2->g x σ0 H2 fun σ4 H4=>Keep σ0 σ4/\tk σ4 H4 λy H5=>tx σ4 H5 λv H6=>∃k,y=kV k/\H6 p=some (.dK ys)/\∃m',m'<m/\DW xs Pv (i+1) m' (qE ys k v) (upd H6 p (.dK (qE ys k v))))
  (hd:∀ys H2,Pv xs.length ys H2->Q (.ref p) H2):DCompGoK σ0 (Itt K a) g tk tx Q p H':=by
 refine⟨DW xs Pv,⟨_,rfl,nR _,h0⟩, ?_⟩;rintro i m ys H2 ⟨hm,hi,hp⟩;obtain⟨q,e,ly⟩:=hl i ys H2 hp;refine⟨e,by omega, ?_⟩;by_cases hlt:i<xs.length
 ·refine .inr ⟨⟨xs,xs[i],q,by simp [hlt]⟩, ?_⟩;rintro x H3 ⟨rfl,y⟩;exact hs i m ys x _ (y xs q) hm hp
 ·obtain rfl:i=xs.length:=by omega
  exact .inl ⟨⟨xs,q,nQ _⟩,hd ys H2 hp⟩
theorem yP{d:Addr}{o:Obj}{ag:List (Key×V)}{σ0:L2.St}{g:TG}{tk tx:TE}{Q:VK}{p:Addr}{H':Hp}(Pv:Nat->List (Key×V)->Hp->Prop)(hz:ag.length<sizeLine)(h0:Pv 0 [] H')(hl:∀i ys H2,Pv i ys H2->H2 d=some (.frz o (.dK ag))/\H2 p=some (.dK ys)/\ys.length<=i)
  (hs:∀i m ys k x c H2,ag[i]? = some (k,x)->m=ag.length-i->Pv i ys H2->H2 c=none->g (.ref c) σ0 (upd H2 c (.tup [kV k,x])) fun σ4 H4=>Keep σ0 σ4/\tk σ4 H4 λy H5=>tx σ4 H5 λv H6=>∃k,y=kV k/\H6 p=some (.dK ys)/\∃m',m'<m/\DW ag Pv (i+1) m' (qE ys k v) (upd H6 p (.dK (qE ys k v))))
  (hd:∀ys H2,Pv ag.length ys H2->Q (.ref p) H2):DCompGoK σ0 (Iti d o ag) g tk tx Q p H':=by
 refine⟨DW ag Pv,⟨_,rfl,nR _,h0⟩, ?_⟩;rintro i m ys H2 ⟨hm,hi,hp⟩;obtain⟨q,e,ly⟩:=hl i ys H2 hp;refine⟨e,by omega, ?_⟩;by_cases hlt:i<ag.length
 ·refine .inr ⟨⟨q,hlt⟩, ?_⟩;rintro v H3 ⟨c,k,x,hc,rfl,hx,rfl⟩;exact hs i m ys k x c _ hx hm hp hc
 ·obtain rfl:i=ag.length:=by omega
  exact .inl ⟨⟨q,rfl⟩,hd ys H2 hp⟩
def TmQ(K:tF)(H:Hp)(v:V)(x:List Int×Rat):Prop:=∃r b c:Addr,v=.ref r/\H r=some (.tup [.ref b,.ref c])/\H b=some (.tup (x.1.map V.int))/\NumK K H (.ref c) x.2
theorem TmQ.same{K:tF}{H H':Hp}{v:V}{x:List Int×Rat}(h:TmQ K H v x)(s:Same H H'):TmQ K H' v x:=let ⟨r,b,c,e1,e2,e3,e4⟩:=h;⟨r,b,c,e1,s _ _ e2,s _ _ e3,e4.same s⟩
structure SumQ(K:tF)(H:Hp)(p:Addr)(aa:Nat)(P:Pl):Prop where
 ex:∃(q:Addr) (xs:List V),H p=some (.tup [.int aa,.ref q])/\H q=some (.tup xs)/\Paired (TmQ K H) xs P
theorem SumQ.same{K:tF}{H H':Hp}{p:Addr}{aa:Nat}{P:Pl}(h:SumQ K H p aa P)(s:Same H H'):SumQ K H' p aa P:=by
 obtain⟨q,xs,e1,e2,e3⟩:=h.ex;exact⟨q,xs,s _ _ e1,s _ _ e2,Paired.to (λ_ _ h=>h.same s) e3⟩
structure PlOk(aa:Nat)(P:Pl):Prop where
 len:∀x∈P,x.1.length=aa
 nn:∀x∈P,∀n∈x.1,0<=n
 deg:∀x∈P,x.1.sum<=16
 ord:(P.map λx=>pk x.1).Pairwise (· < ·)
 nz:∀x∈P,x.2≠0
 few:P.length<=60
 m1:1<=aa
 m4:aa<=4
theorem vZ:∀{ns:List Int} {n:Int},(∀x∈ns,0<=x)->n∈ns->n<=ns.sum/\0<=ns.sum
 | [],_,_,h=>nomatch h
 | a::l,n,h,hn=>by
  rw[nI];have ha:=h a (hW ..);have hl:0<=l.sum:=by
   match l with
   | []=>exact nV _
   | b::l'=>exact(vZ (ns:=b::l') (n:=b) (λx hx=>h x (gR _ hx)) (hW ..)).2
  rcases nF.mp hn with rfl | hn
  ·omega
  ·have:=(vZ (λx hx=>h x (gR _ hx)) hn).1;omega
theorem PlOk.byt{aa:Nat}{P:Pl}(h:PlOk aa P){x:List Int×Rat}(hx:x∈P):Byt x.1:=λn hn=>by
 have h1:=h.nn x hx;have h2:=(vZ h1 hn).1;have h3:=h.deg x hx;have h4:=h1 n hn;omega
def kB(P:Pl):Tb:=P.map λx=>(pk x.1,x.2)
theorem xE(P:Pl):(kB P).map (·.1)=P.map λx=>pk x.1:=by unfold kB;rw[nO];rfl
theorem PlOk.nd{aa:Nat}{P:Pl}(h:PlOk aa P):((kB P).map (·.1)).Nodup:=by
 rw[xE];exact h.ord.imp λh=>Int.ne_of_lt h
theorem yA{T:Tb}{k:Int}{x:Rat}(h:k∉T.map (·.1)):xM T k x=T++[(k,x)]:=by
 unfold xM;rw[nZ (λz=>h (any_key.mp z))]
theorem SB{P:Pl}{i:Nat}{x:List Int×Rat}(h:P[i]? = some x)(nd:((kB P).map (·.1)).Nodup):xM (kB (P.take i)) (pk x.1) x.2=kB (P.take (i+1)):=by
 rw[yA,mE,h]
 ·unfold kB;rw[mT]
  rfl
 ·intro z;rw[xE]at z nd;rw[List.map_take]at z;obtain⟨j,hj⟩:=gP.mp z;have hj':j<i:=by
   have:=(gG.mp hj).1;rw[mK]at this;omega
  rw[gJ hj']at hj;have hi:(P.map λx=>pk x.1)[i]? = some (pk x.1):=by rw[mC,h];rfl
  have:=(List.getElem?_inj (gG.mp hj).1 nd).mp (hj.trans hi.symm);omega
theorem RT{aa:Nat} :∀{P:Pl},(∀x∈P,x.1.length=aa/\Byt x.1)->(P.map (·.1)).Nodup->∀{ns:List Int},ns.length=aa->Byt ns->tv (kB P) (pk ns)=cf P ns
 | [],_,_,_,_,_=>rfl
 | x::P,h,nd,ns,hl,hb=>by
  have hx:=h x (hW ..);rw[nE,List.nodup_cons]at nd;have ih:=RT (P:=P) (λy hy=>h y (gR _ hy)) nd.2 hl hb;show tv ((pk x.1,x.2)::kB P) (pk ns)=_;rw[kX,OS];by_cases e:x.1=ns
  ·rw[tD (by rw[e]),tD e,cf_out (λy hy z=>nd.1 (by rw[e,<-z];exact List.mem_map_of_mem hy)),Rat.add_zero]
  ·rw[nZ (λz=>e (HB _ hx.1 hl hx.2 hb z)),nZ e,Rat.zero_add,ih]
theorem PlOk.ndn{aa:Nat}{P:Pl}(h:PlOk aa P):(P.map (·.1)).Nodup:=by
 have:=h.ord;rw[List.pairwise_map]at this;rw[List.Nodup,List.pairwise_map];exact this.imp λz e=>by rw[e]at z;exact Int.lt_irrefl _ z
theorem PlOk.tv{aa:Nat}{P:Pl}(h:PlOk aa P){ns:List Int}(hl:ns.length=aa)(hb:Byt ns):Lw.tv (kB P) (pk ns)=cf P ns:=RT (λx hx=>⟨h.len x hx,h.byt hx⟩) h.ndn hl hb
def wP(K:tF):Sp:=λvs H Q _=>∃(p:Addr) (aa:Nat) (P:Pl),vs=[.ref p]/\SumQ K H p aa P/\PlOk aa P/\∀(d:Addr) (ag:List (Key×V)) (H':Hp),H d=none->Same H H'->H' d=some (.dK ag)->Paired (EntQ K H') ag (kB P)->Q (.ref d) H'
theorem MV{K:tF}{H:Hp}{p a:Addr}{xs:List V}{ag:List (Key×V)}{o:HO}(e:H p=some (.dK ag))(h:SqT K H a xs):SqT K (upd H p o) a xs:=by
 rcases h with(h | ⟨u,h⟩) | h
 ·exact .inl (.inl (by rw[jH λz=>by rw[z,e]at h;cases h];exact h))
 ·exact .inl (.inr ⟨u,by rw[jH λz=>by rw[z,e]at h;cases h];exact h⟩)
 ·exact .inr h
theorem EntQ.upd{K:tF}{H:Hp}{p:Addr}{ag:List (Key×V)}{o:HO}(e:H p=some (.dK ag)){kv:Key×V}{x:Int×Rat}(h:EntQ K H kv x):EntQ K (upd H p o) kv x:=let ⟨z1,pz,z2,z3⟩:=h;⟨z1,pz,z2,MV e z3⟩
structure TbI(K:tF)(H1:Hp)(d:Addr)(P:Pl)(i:Nat)(ys:List (Key×V))(H2:Hp):Prop where
 s:Same H1 H2
 e:H2 d=some (.dK ys)
 pr:Paired (EntQ K H2) ys (kB (P.take i))
theorem scTab:FnScope ["one"] ["one"] (jL wF):=⟨rfl,rfl,rfl,by decide +kernel,rfl,by decide +kernel,by decide +kernel⟩
theorem UH{fP:Addr}{fdP:FuncData}(F:Fun K "table_of" "table_of" wF f fd)(DP:Df K mg "packed" wS ["powers"] fP fdP)(GP:FnOk P w K mg base CX0 1 fP fdP ["powers"] (BY K)):FnOk P w K mg base CX0 2 f fd ["one"] (wP K):=by
 refine F.ok scTab (λvs H Q E h=>?_) (λcdv A outer s H vs Q E hr h=>?_)
 ·obtain⟨p,aa,PP,rfl,_⟩:=h
  rfl
 ·obtain⟨p,aa,PP,rfl,hS,ok,go⟩:=h;refine⟨_,jE (jO (uQ (own:=2) (idx:=[]) (N:=["powers","fraction"]) rfl rfl rfl (by decide +kernel) (by decide +kernel) (λ_ _ h=>nomatch h) (qH rfl) rfl (λ_ _ _ h=>nomatch h) (xF (kF kH (pv 0) jJ (λ_ _=>rfl))) (λC fp s2 H2=>show PG (jK _ ["powers","fraction"] _ _ C fp s2 H2) _ (wZ K 2 (qI (jX 0) (qI (jX 1) gNil)))from kD (X:=jK _ ["powers","fraction"] _ _ C fp s2 H2) rfl (jG (jF (i:=0) (show List.Nodup (["powers","fraction"]:List Str) by decide +kernel) rfl (Or.inl rfl) (Or.inr rfl)) (jG (jF (i:=1) (show List.Nodup (["powers","fraction"]:List Str) by decide +kernel) rfl (Or.inl rfl) (Or.inr rfl)) jR))) (λC fp s2 H2=>jI GP hr rfl DP.m DP.F.kp DP.b .nil jM (jA (pv 0) jB)) (λC fp s2 H2=>pv 1))), ?_⟩;try dsimp only[cxK]
  obtain⟨q,xs,e1,e2,pr⟩:=hS.ex;have lx:xs.length=PP.length:=Paired.length pr;refine⟨_,rfl,p,_,_,_,rfl,rfl,SqT.of e1,rfl,q,rfl,⟨_,SqT.of e2⟩,λd H1 n1 s1 e3=>?_⟩;refine MD (K:=K) (a:=q) (xs:=xs) (TbI K H d PP) (by rw[lx];exact gX ok.few (by decide)) ⟨s1,e3,.nil⟩ (λi ys H2 h=>⟨SqT.of (h.s _ _ e2),h.e, ?_⟩) ?_ ?_
  ·have:=Paired.length h.pr;unfold kB at this;rw[this,mS,mK];omega
  ·intro i m ys x H2 hx hm h;obtain⟨y,hy,r,b,c,rfl,r1,r2,r3⟩:=Paired.at pr hx;have hm':=gQ hy;refine⟨r,_,rfl,SqT.of (h.s _ _ r1),rfl,_,_,rfl,_,_,rfl,rfl,AE,_,rfl,b,y.1,rfl,SqT.of (h.s _ _ r2),ok.byt hm',by rw[ok.len y hm'];exact ok.m4,_,rfl,.inl (pk y.1),rfl,h.e,BH hx hm ⟨jY h.s n1,jD, ?_⟩⟩;have k:=uB (k:=pk y.1) h.pr (r3.same h.s);rw[SB hy ok.nd]at k;exact Paired.to (λkv e z=>z.upd h.e) k
  ·intro ys H2 h;have pr2:=h.pr;rw[lx,mN]at pr2;exact go d ys H2 n1 h.s h.e pr2
theorem scTa:FnScope ["one","other","table","key","fraction"] ["one","other"] (jL wR):=⟨rfl,rfl,rfl,by decide +kernel,rfl,by decide +kernel,by decide +kernel⟩
theorem BM{K:tF}{H:Hp}{p:Addr}(h:SqT K H p (([0,1]:List Int).map V.int)):NumK K H (.ref p) 0:=⟨p,rfl,h⟩
structure AddT(T1 T2 T:Tb):Prop where
 nd:(T.map (·.1)).Nodup
 ks:∀k∈T.map (·.1),k∈T1.map (·.1)∨k∈T2.map (·.1)
 ln:T.length<=T1.length+T2.length
 vl:∀k,tv T k=tv T1 k+tv T2 k
theorem yC{T:Tb}{i:Nat}{e:Int×Rat}(h:T[i]? = some e)(nd:(T.map (·.1)).Nodup):e.1∉(T.take i).map (·.1):=λz=>by
 rw[List.map_take]at z;obtain⟨j,hj⟩:=gP.mp z;have hj':j<i:=by
  have:=(gG.mp hj).1;rw[mK]at this;omega
 rw[gJ hj']at hj;have hi:(T.map (·.1))[i]? = some e.1:=by rw[mC,h];rfl
 have:=(List.getElem?_inj (gG.mp hj).1 nd).mp (hj.trans hi.symm);omega
theorem AddT.step{T1 T2 T:Tb}{i:Nat}{e:Int×Rat}(A:AddT T1 (T2.take i) T)(h:T2[i]? = some e)(nd:(T2.map (·.1)).Nodup):AddT T1 (T2.take (i+1)) (xM T e.1 (tv T e.1+e.2)):=by
 have nt:=yC h nd;have tk:T2.take (i+1)=T2.take i++[(e.1,e.2)]:=by rw[mE,h];rfl
 refine⟨zP A.nd,λk hk=>?_, ?_,λk=>?_⟩
 ·rw[zI]at hk;rw[tk,mT];split at hk
  ·rcases A.ks k hk with z | z
   ·exact .inl z
   ·exact .inr (List.mem_append_left _ z)
  ·rcases mV.mp hk with hk | hk
   ·rcases A.ks k hk with z | z
    ·exact .inl z
    ·exact .inr (List.mem_append_left _ z)
   ·exact .inr (gN _ hk)
 ·have l1:=congrArg List.length (zI T e.1 (tv T e.1+e.2));rw[mS]at l1;have l2:=A.ln;rw[tk,gY,l1];split
  ·rw[mS];omega
  ·rw[gY,mS];show T.length+1<=T1.length+((T2.take i).length+1);omega
 ·rw[tv_put,tk,LE _ _ _ _ nt];by_cases q:k=e.1
  ·rw[tD q,tD q,q,A.vl,wC nt,Rat.add_zero]
  ·rw[nZ q,nZ q,A.vl]
def addS(A:Tb)(e:Int×Rat):Tb:=xM A e.1 (tv A e.1+e.2)
def RJ(T1 T2:Tb):Tb:=T2.foldl addS T1
def BW(K:tF):Sp:=λvs H Q _=>∃(a b:Addr) (k1 k2:List (Key×V)) (T1 T2:Tb),vs=[.ref a,.ref b]/\Rd H a (.dK k1)/\H b=some (.dK k2)/\Paired (EntQ K H) k1 T1/\Paired (EntQ K H) k2 T2/\(T1.map (·.1)).Nodup/\(T2.map (·.1)).Nodup/\T1.length+T2.length<=1000/\(∀k,SzR 7900 (tv T1 k))/\(∀e∈T2,SzR 7900 e.2)/\
 ∀(d:Addr) (ag:List (Key×V)) (T:Tb) (H':Hp),H d=none->But b H H'->H' d=some (.dK ag)->Paired (EntQ K H') ag T->AddT T1 T2 T->T=RJ T1 T2->Q (.ref d) H'
inductive TaI(K:tF)(H:Hp)(a b d:Addr)(o:Obj)(k2:List (Key×V))(T1 T2:Tb)(i:Nat):L2.St->Hp->Prop where
 | mk {u v:Option V} {H':Hp} {ag:List (Key×V)} {T:Tb} (s:But b H H') (eb:H' b=some (.frz o (.dK k2))) (ed:H' d=some (.dK ag)) (p1:Paired (EntQ K H') ag T) (p2:Paired (EntQ K H') k2 T2) (A:AddT T1 (T2.take i) T) (ft:T=(T2.take i).foldl addS T1):TaI K H a b d o k2 T1 T2 i [some (.ref a),some (.ref b),some (.ref d),u,v] H'
theorem QB{fA:Addr}{fdA:FuncData}(F:Fun K "tables_added" "tables_added" wR f fd)(T:Txt mg)(N:Ngt K mg)(DA:Df K mg "added" uZ ["one","other"] fA fdA)(GA:FnOk P w K mg base CX0 2 fA fdA ["one","other"] (yW K)):FnOk P w K mg base CX0 3 f fd ["one","other"] (BW K):=by
 obtain⟨na,hN,hna⟩:=N;refine F.ok scTa (λvs H Q E h=>?_) (λcdv A outer s H vs Q E hr h=>?_)
 ·obtain⟨a,b,k1,k2,T1,T2,rfl,_⟩:=h
  rfl
 ·obtain⟨a,b,k1,k2,T1,T2,rfl,ra,rb,p1,p2,nd1,nd2,ln,s1,s2,go⟩:=h;have hu:_+1<cLine:=gX (Nat.add_le_add_left (by decide:1<=64) _) hr.units;refine⟨_,jC (jP (i:=2) scTa.nd rfl (Or.inl rfl) (qA MJ (by rfl) T.dct boot_dict (jA (pv 0) jB))) (jC (qF PassesOwn.never rfl (xG (HD (pv 1))) (kD rfl (jG (jF (i:=3) scTa.nd rfl (Or.inl rfl)) (jG (jF (i:=4) scTa.nd rfl (Or.inl rfl)) jR))) (jE (HA hu (pv 2) (pv 3) (jI GA hr rfl DA.m DA.F.kp DA.b .nil jM (jA (JC hu (pv 2) (pv 3) (kQ (v:=.ref na) (by rfl) hN rfl) ⟨rfl,rfl,rfl,rfl⟩) (jA (pv 4) jB))) rfl))) (jE (jO (pv 2)))), ?_⟩;try dsimp only[cxK]
  refine⟨_,rfl,a,k1,rfl,ra,λd H1 n1 e1 ed=>?_⟩;have eb1:=e1 _ _ rb;have db:d≠b:=λz=>by rw[z,rb]at n1;cases n1
  refine⟨_,rfl,b,k2,rfl,eb1,λo=>⟨b,o,k2,rfl,jD, ?_⟩⟩;have up:∀{kv:Key×V} {x:Int×Rat},EntQ K H kv x->EntQ K (upd H1 b (.frz o (.dK k2))) kv x:=λh=>(h.same e1).upd eb1;have b0:But b H (upd H1 b (.frz o (.dK k2))):=λc u h n=>by rw[jH n];exact e1 _ _ h
  refine zU (TaI K H a b d o k2 T1 T2) (.mk (T:=T1) b0 jD (by rw[jH db];exact ed) (Paired.to (λ_ _ h=>up h) p1) (Paired.to (λ_ _ h=>up h) p2) ⟨nd1,λk hk=>.inl hk,Nat.le_add_right ..,λk=>(Rat.add_zero _).symm⟩ rfl) (λi σ H2 _ h=>?_) (λi k x p σ H2 hx hp h=>?_) (fun σ H2 h=>?_)
  ·obtain⟨_,eb,_⟩:=h;exact eb
  ·obtain⟨s2',eb,ed2,q1,q2,A,ft⟩:=h;rename_i ag TT;obtain⟨e,he,hk,hn⟩:=Paired.at q2 hx;have hk:k=.inl e.1:=hk;subst hk;have s3:Same H2 (upd H2 p (.tup [kV (.inl e.1),x])):=jN _ hp;have e3:(upd H2 p (.tup [kV (.inl e.1),x])) p=some (.tup [kV (.inl e.1),x]):=jD;generalize upd H2 p (.tup [kV (.inl e.1),x])=H3 at s3 e3;refine gT2 (SqT.of e3) rfl ?_;obtain⟨wv,ew,hw⟩:∃wv,(kS ag (.inl e.1:Key)).getD (.ref na)=wv/\NumK K H3 wv (tv TT e.1):=by
    rcases HW (k:=e.1) q1 with⟨v,h1,h2,_⟩ | ⟨h1,h2,_⟩
    ·exact⟨v,by rw[h1];rfl,h2.same s3⟩
    ·exact⟨.ref na,by rw[h1];rfl,by rw[h2];exact BM (hna H3)⟩
   refine⟨_,rfl,d,rfl,.inl ⟨_,.inl (s3 _ _ ed2)⟩,_,rfl,_,DGet.k (k:=.inl e.1) (s3 _ _ ed2),_,rfl, ?_⟩;rw[ew];obtain⟨pw,rfl,hw⟩:=hw;obtain⟨px,rfl,hx2⟩:=hn.same s3;have nt:=yC he nd2;have sz1:SzR 7900 (tv TT e.1):=by rw[A.vl,wC nt,Rat.add_zero];exact s1 _
   refine⟨pw,px,_,_,_,_,rfl,hw,hx2,sz1.fr gA,(s2 e (gQ he)).fr gA,λr H4 n4 s4 e4=>?_⟩;have e4:=LA e4;have ed4:=(s3.trans s4) _ _ ed2;have lk:ag.length=TT.length:=Paired.length q1;have lA:=A.ln;rw[mK]at lA;refine⟨_,rfl,_,rfl,d,_,rfl,DPut.k (k:=.inl e.1) ed4 (by rw[lk,sizeLine_eq];omega), ?_⟩;have u4:∀{kv:Key×V} {x:Int×Rat},EntQ K H2 kv x->EntQ K (upd H4 d (.dK (qE ag (.inl e.1) (.ref r)))) kv x:=λh=>(h.same (s3.trans s4)).upd ed4;refine .mk (T:=xM TT e.1 (tv TT e.1+e.2)) (λc u h n=>?_) ?_ jD ?_ (Paired.to (λ_ _ h=>u4 h) q2) (A.step he nd2) (by rw[mE,he,mH,<-ft];rfl)
   ·rw[jH (kG h n1)];exact(s3.trans s4) _ _ (s2' _ _ h n)
   ·rw[jH (Ne.symm db)];exact(s3.trans s4) _ _ eb
   ·exact Paired.to (λ_ _ h=>h.upd ed4) (uB (Paired.to (λ_ _ h=>h.same (s3.trans s4)) q1) (NumK.of e4))
  ·obtain⟨s2',eb,ed2,q1,q2,A,ft⟩:=h;rw[show k2.length=T2.length from Paired.length p2,mN]at A ft;exact⟨_,rfl,go d _ _ H2 n1 s2' ed2 q1 A ft⟩
theorem wD{cl cells:List (Str×Addr)}(h:∀y∈cl,cells.lookup y.1=some y.2):∀x c,cl.lookup x=some c->cells.lookup x=some c:=λx c e=>h (x,c) (PySem.mem_of_lookup e)
theorem MN{X:Cx}{scope:Scope}{own j0 j1:Nat}{N:List Str}{x0 x1:Str}(h0:N[own]? = some x0)(h1:N[own+1]? = some x1)(a:X.N[j0]? = some x0/\X.env.kindOf x0=some .cell/\(relabel scope X.env).names.lookup x0=some .cell/\X.env.scope.names.lookup x0=some .cell)
  (b:X.N[j1]? = some x1/\X.env.kindOf x1=some .cell/\(relabel scope X.env).names.lookup x1=some .cell/\X.env.scope.names.lookup x1=some .cell) :
  ∀(k j:Nat) (x:Str),[j0,j1][k]? = some j->N[own+k]? = some x->X.N[j]? = some x/\X.env.kindOf x=some .cell/\(relabel scope X.env).names.lookup x=some .cell/\X.env.scope.names.lookup x=some .cell:=by
 intro k j x e1 e2
 match k,e1,e2 with
 | 0,e1,e2=>
  cases e1;rw[Nat.add_zero,h0]at e2;cases e2;exact a
 | 1,e1,e2=>
  cases e1;rw[h1]at e2;cases e2;exact b
 | k+2,e1,_=>cases e1
def CW{α:Type}(xs:List α)(Pv:Nat->List V->Hp->Prop)(i m:Nat)(ys:List V)(H:Hp):Prop:=m=xs.length-i/\i<=xs.length/\Pv i ys H
theorem HZ{α:Type}{xs:List α}{Pv:Nat->List V->Hp->Prop}{i m:Nat}{ys:List V}{H:Hp}{x:α}(h:xs[i]? = some x)(hm:m=xs.length-i)(q:Pv (i+1) ys H):∃m',m'<m/\CW xs Pv (i+1) m' ys H:=by
 have:=(gG.mp h).1;exact⟨_,by omega,rfl,this,q⟩
theorem AJ{K:tF}{a:Addr}{xs:List V}{σ0:L2.St}{g:TG}{tt:TT}{te:TE}{Q:VK}{p:Addr}{H':Hp}(Pv:Nat->List V->Hp->Prop)(hz:xs.length<sizeLine)(h0:Pv 0 [] H')
  (hl:∀i ys H2,Pv i ys H2->SqL K H2 a xs/\H2 p=some (.lst ys)/\ys.length<=i)
  (hs:∀i m ys x H2,xs[i]? = some x->m=xs.length-i->Pv i ys H2->g x σ0 H2 fun σ4 H4=>Keep σ0 σ4/\tt σ4 H4 λb H5=>if b=true then te σ4 H5 λy H6=>H6 p=some (.lst ys)/\∃m',m'<m/\CW xs Pv (i+1) m' (ys++[y]) (upd H6 p (.lst (ys++[y])))else ∃m',m'<m/\CW xs Pv (i+1) m' ys H5)
  (hd:∀ys H2,Pv xs.length ys H2->Q (.ref p) H2):CompGoFI σ0 (Itl K a) g tt te Q p H':=by
 refine⟨CW xs Pv,⟨_,rfl,nR _,h0⟩, ?_⟩;rintro i m ys H2 ⟨hm,hi,hp⟩;obtain⟨q,e,hy⟩:=hl i ys H2 hp;refine⟨e,by omega, ?_⟩;by_cases hlt:i<xs.length
 ·refine .inr ⟨⟨xs,xs[i],q,by simp [hlt]⟩, ?_⟩;rintro x H3 ⟨rfl,y⟩;exact hs i m ys x _ (y xs q) hm hp
 ·obtain rfl:i=xs.length:=by omega
  exact .inl ⟨⟨xs,q,nQ _⟩,hd ys H2 hp⟩
def xP(P:Pl):Int:=(P.map λx=>x.1.sum).foldr max 0
theorem vL:∀{l:List Int} {m:Int},(∀x∈l,x<=m)->0<=m->l.foldr max 0<=m
 | [],_,_,h=>h
 | a::l,m,h,h0=>by
  show max a (l.foldr max 0)<=m;have:=vL (l:=l) (λx hx=>h x (gR _ hx)) h0;have:=h a (hW ..);omega
theorem xJ:∀{l:List Int} {x:Int},x∈l->x<=l.foldr max 0
 | a::l,x,h=>by
  show x<=max a (l.foldr max 0);rcases nF.mp h with rfl | h
  ·omega
  ·have:=xJ h;omega
theorem deg_eq{P:Pl}{m:Int}(h1:m∈P.map λx=>x.1.sum)(h2:∀y∈P.map (λx=>x.1.sum),y<=m)(h0:0<=m):m=xP P:=Int.le_antisymm (xJ h1) (vL h2 h0)
theorem MC{P:Pl}{D:Int}(h:∀x∈P,x.1.sum<=D)(h0:0<=D):xP P<=D:=vL (λy hy=>by obtain⟨x,hx,rfl⟩:=nN.mp hy;exact h x hx) h0
structure PlD(aa D:Nat)(P:Pl):Prop where
 len:∀x∈P,x.1.length=aa
 nn:∀x∈P,∀n∈x.1,0<=n
 deg:∀x∈P,x.1.sum<=D
theorem PlOk.pd{aa:Nat}{P:Pl}(h:PlOk aa P):PlD aa 16 P:=⟨h.len,h.nn,h.deg⟩
def uN(K:tF):Sp:=λvs H Q _=>∃(p:Addr) (aa D:Nat) (P:Pl),vs=[.ref p]/\SumQ K H p aa P/\PlD aa D P/\aa<=4/\D<=1000/\P.length<=1000/\∀H',Same H H'->Q (.int (xP P)) H'
theorem SU:FnScope ["one"] ["one"] (jL yI):=⟨rfl,rfl,rfl,by decide +kernel,rfl,by decide +kernel,by decide +kernel⟩
theorem QG(F:Fun K "degree" "degree" yI f fd)(T:Txt mg):FnOk P w K mg base CX0 1 f fd ["one"] (uN K):=by
 refine F.ok SU (λvs H Q E h=>?_) (λcdv A outer s H vs Q E hr h=>?_)
 ·obtain⟨p,aa,D,PP,rfl,_⟩:=h
  rfl
 ·obtain⟨p,aa,D,PP,rfl,hP,ok,m4,hD,lP,go⟩:=h;refine⟨_,jE (jO (LwMx.pe_maxD rfl (by rfl) T.max (jA (CD (N:=["powers","fraction"]) rfl rfl (by decide +kernel) (by decide +kernel) (by decide +kernel) (xF (kF kH (pv 0) jJ (λ_ _=>rfl))) (λC fp s2 H2=>show PG (qL _ ["powers","fraction"] _ C fp s2 H2) _ (wZ K 2 (qI (jX 0) (qI (jX 1) gNil)))from kD (X:=qL _ ["powers","fraction"] _ C fp s2 H2) rfl (jG (jF (i:=0) (show List.Nodup (["powers","fraction"]:List Str) by decide +kernel) rfl (Or.inl rfl) (Or.inl rfl)) (jG (jF (i:=1) (show List.Nodup (["powers","fraction"]:List Str) by decide +kernel) rfl (Or.inl rfl) (Or.inl rfl)) jR))) (λC fp s2 H2=>kN (show CallR (qL _ ["powers","fraction"] _ C fp s2 H2) (.builtin "sum") (rSumT K)from FC rfl) (by rfl) T.sum boot_sum (jA (pv 0) jB))) jB) (kC jJ qK))), ?_⟩;obtain⟨q,xs,e1,e2,pr⟩:=hP.ex;have lx:xs.length=PP.length:=Paired.length pr;refine⟨_,rfl,p,_,_,_,rfl,rfl,SqT.of e1,rfl,q,rfl,⟨xs,SqT.of e2⟩,λl H1 n1 s1 e3=>?_⟩;refine KS (K:=K) (a:=q) (xs:=xs) (CmI (λk=>(PP.take k).map λx=>V.int x.1.sum) l H) (by rw[lx];exact gX lP (by decide)) ⟨s1,e3,rfl⟩ (λi ys H2 h=>⟨SqT.of (h.s _ _ e2),h.e⟩) ?_ ?_
  ·rintro i m ys x H2 hx hm hy ⟨s2,e4,ey⟩;obtain⟨x',hx',r,b,c,rfl,r1,r2,r3⟩:=Paired.at pr hx;have xm:=gQ hx';refine⟨r,_,rfl,SqT.of (s2 _ _ r1),rfl,_,_,rfl,_,_,rfl,rfl, ?_⟩;refine⟨_,rfl,b,x'.1,rfl,SqT.of (s2 _ _ r2),λn hn=>⟨ok.nn x' xm n hn, ?_⟩,by rw[ok.len x' xm];omega, ?_⟩
   ·have:=(vZ (ok.nn x' xm) hn).1;have:=ok.deg x' xm;omega
   ·refine kL hx hm hy e4 ⟨jY s2 n1,jD, ?_⟩;rw[ey,mE,hx',mT]
    rfl
  ·rintro ys H2 hl ⟨s2,e4,ey⟩;rw[lx,mN]at ey;have hm:ys=(PP.map λx=>x.1.sum).map V.int:=by rw[ey,nO];rfl
   refine⟨0,rfl,l,PP.map (λx=>x.1.sum),rfl,by rw[<-hm];exact e4,λz=>?_,λm h1 h2=>?_⟩
   ·have:PP=[]:=List.map_eq_nil_iff.mp z;have:=go H2 s2;rw[‹PP=[]›]at this;exact this
   ·have h0:0<=m:=by
     obtain⟨x,hx,rfl⟩:=nN.mp h1
     match hh:x.1 with
     | []=>exact nV _
     | n::r=>rw[<-hh];exact(vZ (n:=n) (ok.nn x hx) (by rw[hh];exact hW ..)).2
    rw[deg_eq h1 h2 h0];exact go H2 s2
def unp:Nat->Int->List Int
 | 0,_=>[]
 | n+1,k=>unp n (k/256)++[k%256]
theorem RR:∀(n:Nat) {ns:List Int},ns.length=n->Byt ns->unp n (pk ns)=ns
 | 0,ns,hl,_=>(List.length_eq_zero_iff.mp hl).symm
 | n+1,ns,hl,h=>by
  obtain⟨m,y,rfl,hm⟩:=yH hl;obtain⟨h1,h2⟩:=uI h;have p:=BB (ns:=m) h2;show unp n (pk (m++[y])/256)++[pk (m++[y])%256]=_;rw[p.1,p.2,RR n hm h1]
def KyP(aa:Nat)(k:Int):Prop:=∃ns:List Int,ns.length=aa/\(∀n∈ns,0<=n)/\ns.sum<=16/\k=pk ns
theorem wM{ns:List Int}(h:∀n∈ns,0<=n)(h2:ns.sum<=16):Byt ns:=λn hn=>by
 have h3:=(vZ h hn).1;have h4:=h n hn;omega
structure SumT(aa:Nat)(T:Tb)(P:Pl):Prop where
 ok:PlOk aa P
 vl:∀ns:List Int,ns.length=aa->Byt ns->cf P ns=tv T (pk ns)
 at':∀x∈P,x.2=tv T (pk x.1)
def nzb(T:Tb)(k:Int):Bool:=decide (tv T k≠0)
theorem RU(f:Int->Rat):∀(ks:List Int) (j:Int),tv (ks.map λk=>(k,f k)) j=if j∈ks then f j else 0
 | [],j=>by rw[nZ (by simp)];rfl
 | k::ks,j=>by
  rw[nE,kX,RU f ks j];by_cases h:k=j
  ·rw[tD h,tD (by simp [h]),h]
  ·rw[nZ h];by_cases q:j∈ks
   ·rw[tD q,tD (gR _ q)]
   ·rw[nZ q,nZ (λz=>by rcases nF.mp z with z | z;exact h z.symm;exact q z)]
def wN(aa:Nat)(T:Tb)(ns:List Int):Pl:=(ns.filter (nzb T)).map λk=>(unp aa k,tv T k)
theorem KyP.unp{aa:Nat}{k:Int}(h:KyP aa k):(Lw.unp aa k).length=aa/\(∀n∈Lw.unp aa k,0<=n)/\(Lw.unp aa k).sum<=16/\pk (Lw.unp aa k)=k:=by
 obtain⟨ns,h1,h2,h3,rfl⟩:=h;rw[RR aa h1 (wM h2 h3)];exact⟨h1,h2,h3,rfl⟩
theorem WY{aa:Nat}{T:Tb}{ns:List Int}(lT:T.length<=60)(ky:∀k∈T.map (·.1),KyP aa k)(m1:1<=aa)(m4:aa<=4)(pm:ns.Perm (T.map (·.1)))(lt:ns.Pairwise (· < ·)):SumT aa T (wN aa T ns):=by
 have kk:∀k∈ns.filter (nzb T),KyP aa k/\tv T k≠0:=λk hk=>by
  rw[List.mem_filter]at hk;exact⟨ky k (pm.mem_iff.mp hk.1),mG hk.2⟩
 have mm:∀x∈wN aa T ns,∃k∈ns.filter (nzb T),x=(Lw.unp aa k,tv T k):=λx hx=>by
  obtain⟨k,hk,e⟩:=nN.mp hx;exact⟨k,hk,e.symm⟩
 have pks:((wN aa T ns).map λx=>pk x.1)=ns.filter (nzb T):=by
  unfold wN;rw[nO]
  conv=>rhs;rw[<-List.map_id (ns.filter (nzb T))]
  exact List.map_congr_left λk hk=>(kk k hk).1.unp.2.2.2
 have ok:PlOk aa (wN aa T ns):=by
  refine⟨λx hx=>?_,λx hx=>?_,λx hx=>?_, ?_,λx hx=>?_, ?_,m1,m4⟩
  ·obtain⟨k,hk,rfl⟩:=mm x hx;exact(kk k hk).1.unp.1
  ·obtain⟨k,hk,rfl⟩:=mm x hx;exact(kk k hk).1.unp.2.1
  ·obtain⟨k,hk,rfl⟩:=mm x hx;exact(kk k hk).1.unp.2.2.1
  ·rw[pks];exact lt.filter _
  ·obtain⟨k,hk,rfl⟩:=mm x hx;exact(kk k hk).2
  ·unfold wN;rw[mS];have h1:=List.length_filter_le (nzb T) ns;have h2:=pm.length_eq;rw[mS]at h2;omega
 refine⟨ok,λms hl hb=>?_,λx hx=>?_⟩
 ·rw[<-ok.tv hl hb];have e:kB (wN aa T ns)=(ns.filter (nzb T)).map λk=>(k,tv T k):=by
   unfold kB wN;rw[nO];refine List.map_congr_left λk hk=>?_;show(pk (Lw.unp aa k),tv T k)=(k,tv T k);rw[(kk k hk).1.unp.2.2.2]
  rw[e,RU];by_cases q:pk ms∈ns.filter (nzb T)
  ·rw[tD q]
  ·rw[nZ q];by_cases r:pk ms∈T.map (·.1)
   ·refine Classical.byContradiction λz=>q (List.mem_filter.mpr ⟨pm.mem_iff.mpr r,mX λy=>z y.symm⟩)
   ·exact(wC r).symm
 ·obtain⟨k,hk,rfl⟩:=mm x hx;show tv T k=tv T (pk (Lw.unp aa k));rw[(kk k hk).1.unp.2.2.2]
theorem JZ{K:tF}{H:Hp} :∀{ag:List (Key×V)} {T:Tb},Paired (EntQ K H) ag T->kJ ag=T.map (·.1)/\∀p∈ag,∃i:Int,p.1=.inl i
 | _,_,.nil=>⟨rfl,λ_ h=>nomatch h⟩
 | kv::ag,e::T,.cons h t=>by
  obtain⟨h1,h2⟩:=JZ t;refine⟨?_,λp hp=>?_⟩
  ·show(match kv.1 with | .inl i=>i | .inr _=>0)::kJ ag=e.1::T.map (·.1);rw[h1,h.1]
  ·rcases nF.mp hp with rfl | hp
   ·exact⟨_,h.1⟩
   ·exact h2 p hp
theorem GY{H H':Hp}{d:Addr}{o:HO}(h:Rd H d o)(s:Same H H'):Rd H' d o:=by
 rcases h with h | ⟨u,h⟩
 ·exact .inl (s _ _ h)
 ·exact .inr ⟨u,s _ _ h⟩
theorem QI(x:Rat):LwT.lexNe [x.num,(x.den:Int)] [0,1]=decide (x≠0):=by
 rw[show LwT.lexNe [x.num,(x.den:Int)] [0,1] = !decide ([x.num,(x.den:Int)]=[0,1])from LwT.lexNe_eq _ _];by_cases h:x=0
 ·subst h
  decide
 ·rw[mX h,mU (λz=>h ?_)]
  ·rfl
  ·have z1:x.num=0:=by injection z
   exact Rat.num_eq_zero.mp z1
structure KyI(H1:Hp)(q:Addr)(T:Tb)(ns:List Int)(i:Nat)(ys:List V)(H2:Hp):Prop where
 s:Same H1 H2
 e:H2 q=some (.lst ys)
 y:ys=((ns.take i).filter (nzb T)).map V.int
structure TuI(K:tF)(H1:Hp)(q:Addr)(P:Pl)(i:Nat)(ys:List V)(H2:Hp):Prop where
 s:Same H1 H2
 e:H2 q=some (.lst ys)
 pr:Paired (TmQ K H2) ys (P.take i)
theorem TmQ.updL{K:tF}{H:Hp}{p:Addr}{xs ys:List V}(e:H p=some (.lst xs)){v:V}{x:List Int×Rat}(h:TmQ K H v x):TmQ K (upd H p (.lst ys)) v x:=by
 obtain⟨r,b,c,e1,e2,e3,pc,e4,e5⟩:=h;have nu:∀{a:Addr} {zs:List V},H a=some (.tup zs)->(upd H p (.lst ys)) a=some (.tup zs):=fun {a zs} h=>by
  rw[jH λz=>by rw[z,e]at h;cases h];exact h
 refine⟨r,b,c,e1,nu e2,nu e3,pc,e4, ?_⟩;rcases e5 with(h | ⟨u,h⟩) | h
 ·exact .inl (.inl (nu h))
 ·exact .inl (.inr ⟨u,by rw[jH λz=>by rw[z,e]at h;cases h];exact h⟩)
 ·exact .inr h
def zN(K:tF):Sp:=λvs H Q _=>∃(d:Addr) (aa:Nat) (ag:List (Key×V)) (T:Tb),vs=[.int aa,.ref d]/\Rd H d (.dK ag)/\Paired (EntQ K H) ag T/\(T.map (·.1)).Nodup/\T.length<=60/\(∀k∈T.map (·.1),KyP aa k)/\1<=aa/\aa<=4/\
 ∀(p:Addr) (P:Pl) (H':Hp),H p=none->Same H H'->SumQ K H' p aa P->SumT aa T P->Q (.ref p) H'
theorem scSo:FnScope ["many","table","keys","one"] ["many","table"] (jL yX):=⟨rfl,rfl,rfl,by decide +kernel,rfl,by decide +kernel,by decide +kernel⟩
theorem UI{fU fD:Addr}{fdU fdD:FuncData}(F:Fun K "sum_of" "sum_of" yX f fd)(T:Txt mg)(N:Ngt K mg)(DU:Df K mg "unpacked" NA ["key","many"] fU fdU)(GU:FnOk P w K mg base CX0 1 fU fdU ["key","many"] spUnpk)(DD:Df K mg "degree" yI ["one"] fD fdD)(GD:FnOk P w K mg base CX0 1 fD fdD ["one"] (uN K)):FnOk P w K mg base CX0 2 f fd ["many","table"] (zN K):=by
 obtain⟨na,hN,hna⟩:=N;obtain⟨tt,ht⟩:=T.terms;obtain⟨td,hd⟩:=T.degree;refine F.ok scSo (λvs H Q E h=>?_) (λcdv A outer s H vs Q E hr h=>?_)
 ·obtain⟨d,aa,ag,TT,rfl,_⟩:=h
  rfl
 ·obtain⟨d,aa,ag,TT,rfl,rd,pr,nd,lT,ky,m1,m4,go⟩:=h;have hr1:Room 1 _:=hr.mono (by decide);have hu0:=hr.units0;have hu1:_+1<cLine:=gX (Nat.add_le_add_left (by decide:1<=64) _) hr.units;refine⟨_,jC (IZ (i:=2) scSo.nd rfl (Or.inl rfl) (own:=1) (idx:=[1]) (N:=["key","table"]) rfl rfl rfl (by decide +kernel) (by decide +kernel) (wD (by intro y hy;simp only[nF,mM,or_false]at hy;rcases hy with rfl;rfl)) (qH rfl) rfl (yN rfl ⟨rfl,rfl,rfl,rfl⟩) (vP (kN (MG rfl) (by rfl) T.sorted boot_sorted (jA (pv 1) jB))) (λC fp s2 H2=>(jF (i:=0) (show List.Nodup (["key","table"]:List Str) by decide +kernel) rfl (Or.inl rfl) (Or.inr rfl))) (λC fp s2 H2=>jV (show OpR (jK _ ["key","table"] _ _ C fp s2 H2) _ (LwT.rOrdT K LwT.lexNe)from LwT.op_neT hu0) (HE hu1 (pv 1) (pv 0) (λ_ _=>rfl)) (kQ (v:=.ref na) (by rfl) hN rfl) (jU _)) (λC fp s2 H2=>pv 0)) (jC (kR (jV xS (kN qD (by rfl) T.len PySem.boot_len (jA (pv 2) jB)) (kQ (v:=.int 500) (by rfl) ht ⟨_,rfl⟩) (jU _)) (jE (qO)) kA) (jC (jP (i:=3) scSo.nd rfl (Or.inl rfl) (jS (jA (pv 0) (jA (qA qG (by rfl) T.tup boot_tuple (jA (vE (own:=1) (idx:=[0,1]) (N:=["key","many","table"]) rfl rfl rfl (by decide +kernel) (by decide +kernel) (wD (by intro y hy;simp only[nF,mM,or_false]at hy;rcases hy with rfl | rfl<;>rfl)) (qH rfl) rfl (MN rfl rfl ⟨rfl,rfl,rfl,rfl⟩ ⟨rfl,rfl,rfl,rfl⟩) (vP (pv 2)) (λC fp s2 H2=>(jF (i:=0) (show List.Nodup (["key","many","table"]:List Str) by decide +kernel) rfl (Or.inl rfl) (Or.inr rfl))) (λC fp s2 H2=>jS (jA (jI GU hr1 rfl DU.m DU.F.kp DU.b .nil jM (jA (pv 0) (jA (pv 1) jB))) (jA (HE hu1 (pv 2) (pv 0) (λ_ _=>rfl)) jB)))) jB)) jB)))) (jC (kR (jV xS (jI GD hr1 rfl DD.m DD.F.kp DD.b .nil jM (jA (pv 3) jB)) (kQ (v:=.int 16) (by rfl) hd ⟨_,rfl⟩) (jU _)) (jE (qO)) kA) (jE (jO (pv 3)))))), ?_⟩
  try dsimp only[cxK]
  obtain⟨ek,ei⟩:=JZ pr;have lk:ag.length=TT.length:=Paired.length pr;refine⟨_,rfl,d,ag,rfl,rd,by omega,ei,λns pm srt sl H1 n1 s1 e1=>⟨sl,rfl,⟨_,SqL.of e1⟩,λq H2 n2 s2 e2=>?_⟩⟩;rw[ek]at pm;have ndn:ns.Nodup:=pm.nodup_iff.mpr nd;have lt:ns.Pairwise (· < ·):=(srt.and ndn).imp λ⟨h1,h2⟩=>by omega
  have ln:ns.length=TT.length:=by rw[pm.length_eq,mS]
  have get:∀{n:Int} {H':Hp},n∈ns->Same H H'->∃v,DGet H' d (.int n) (some v)/\NumK K H' v (tv TT n):=fun {n H'} hn sm=>by
   rcases HW (k:=n) pr with⟨v,h1,h2,_⟩ | ⟨_,_,h3⟩
   ·exact⟨v,.inl ⟨ag,.inl n,GY rd sm,rfl,h1.symm⟩,h2.same sm⟩
   ·exact absurd (pm.mem_iff.mp hn) h3
  refine AJ (K:=K) (a:=sl) (xs:=ns.map V.int) (KyI H1 q TT ns) (by rw[mS,ln,sizeLine_eq];omega) ⟨s2,e2,rfl⟩ (λi ys H3 h=>⟨SqL.of (h.s _ _ e1),h.e, ?_⟩) ?_ ?_
  ·rw[h.y,mS];have:=List.length_filter_le (nzb TT) (ns.take i);rw[mK]at this;omega
  ·intro i m ys x H3 hx hm h;have hx':=hx;rw[mC]at hx';obtain⟨n,hn,rfl⟩:=Option.map_eq_some_iff.mp hx';obtain⟨v,g1,pv',rfl,g2⟩:=get (gQ hn) (s1.trans h.s);have tk:(ns.take (i+1)).filter (nzb TT)=(ns.take i).filter (nzb TT)++(if nzb TT n=true then [n]else []):=by
    rw[mE,hn,List.filter_append]
    congr 1
    show [n].filter _=_;rw[List.filter_cons]
    rfl
   refine⟨zJ,_,rfl,_,rfl,d,_,rfl,g1,pv',na,[(tv TT n).num,((tv TT n).den:Int)],[0,1],rfl,rfl,g2,hna H3,_,rfl, ?_⟩;rw[QI];refine AN (λc=>⟨_,rfl,h.e,HZ hx hm ⟨jY h.s n2,jD, ?_⟩⟩) (λc=>HZ hx hm ⟨h.s,h.e, ?_⟩)
   ·rw[tk,tD (show nzb TT n=true from c),mT,h.y]
    rfl
   ·rw[tk,nZ (show ¬nzb TT n=true from c),List.append_nil,h.y]
  ·rintro ys H3 ⟨s3,e3,ey⟩;rw[mS,mN]at ey;subst ey;dsimp only[jX];have lf:=List.length_filter_le (nzb TT) ns;refine⟨_,rfl,q,_,rfl,.inl (SqL.of e3),_,_,rfl,rfl,_,rfl,vI (mU (by rw[mS];omega)) ?_⟩;refine⟨_,rfl,_,rfl,q,rfl,⟨_,SqL.of e3⟩,λl2 H4 n4 s4 e4=>?_⟩;have ST:=WY lT ky m1 m4 pm lt;have s03:=s1.trans s3;refine yQ (K:=K) (a:=q) (xs:=(ns.filter (nzb TT)).map V.int) (TuI K H3 l2 (wN aa TT ns)) (by rw[mS,sizeLine_eq];omega) ⟨s4,e4,.nil⟩ (λi ys H5 h=>⟨SqL.of (h.s _ _ e3),h.e⟩) ?_ ?_
   ·intro i m ys x H5 hx hm hy h;have hx':=hx;rw[mC]at hx';obtain⟨n,hn,rfl⟩:=Option.map_eq_some_iff.mp hx';have nm:=gQ hn;have nn:=(List.mem_filter.mp nm).1;have ku:=(ky n (pm.mem_iff.mp nn)).unp;have hP:(wN aa TT ns)[i]? = some (unp aa n,tv TT n):=by unfold wN;rw[mC,hn];rfl
    refine⟨zJ,_,rfl,_,rfl,unp aa n,by rw[ku.1,ku.2.2.2];rfl,wM ku.2.1 ku.2.2.1,by rw[ku.1];exact m4,λr H6 n6 s6 e6=>?_⟩;obtain⟨v,g1,pv',rfl,g2⟩:=get nn (s03.trans (h.s.trans s6));refine⟨_,rfl,_,rfl,d,_,rfl,g1,gD,λtt H7 n7 s7 e7=>?_⟩;have eq7:=(s6.trans s7) _ _ h.e;refine kL hx hm hy eq7 ⟨jY (h.s.trans (s6.trans s7)) n4,jD, ?_⟩;rw[mE,hP];exact Paired.app (Paired.to (λ_ _ k=>(k.same (s6.trans s7)).updL eq7) h.pr) (.cons (TmQ.updL eq7 ⟨tt,r,pv',rfl,e7,s7 _ _ e6,pv',rfl,kU s7 g2⟩) .nil)
   ·rintro ys H5 hy ⟨s5,e5,pr5⟩;have lS:(wN aa TT ns).length=(ns.filter (nzb TT)).length:=by unfold wN;rw[mS]
    rw[mS,<-lS,mN]at pr5;refine⟨l2,_,rfl,.inl ⟨SqL.of e5,λr nr=>⟨gD,λp H7 n7 s7 e7=>?_⟩⟩⟩;have s6:Same H5 (upd H5 r (.tup ys)):=jN _ nr;have e6:(upd H5 r (.tup ys)) r=some (.tup ys):=jD;generalize upd H5 r (.tup ys)=H6 at s6 e6 n7 s7;have SQ:SumQ K H7 p aa (wN aa TT ns):=⟨r,ys,e7,s7 _ _ e6,Paired.to (λ_ _ k=>k.same (s6.trans s7)) pr5⟩;have s07:=s03.trans (s5.trans (s6.trans s7));have n7':H p=none:=(s03.trans (s5.trans s6)).free n7;dsimp only[jX];refine⟨_,rfl,p,aa,16,_,rfl,SQ,ST.ok.pd,m4,by decide,nL ST.ok.few (by decide),λH8 s8=>⟨_,_,rfl,rfl,_,rfl,vI (mU ?_) ⟨_,rfl,go p _ H8 n7' (s07.trans s8) (SQ.same s8) ST⟩⟩⟩;have:=MC ST.ok.deg (by decide);omega
theorem AQ{e:Int×Rat}{T:Tb} :tv (e::T) e.1=e.2:=by rw[kX,tD rfl]
theorem RV{T:Tb}{k:Int}(h:∀e∈T,k<e.1):tv T k=0:=wC λz=>by
 obtain⟨e,he,rfl⟩:=nN.mp z;exact Int.lt_irrefl _ (h e he)
theorem MO:∀{T S:Tb},(T.map (·.1)).Pairwise (· < ·)->(S.map (·.1)).Pairwise (· < ·)->(∀e∈T,e.2≠0)->(∀e∈S,e.2≠0)->(∀k,k∈T.map (·.1)∨k∈S.map (·.1)->tv T k=tv S k)->T=S
 | [],[],_,_,_,_,_=>rfl
 | [],e::S,_,_,_,hs,h=>by
  have:=h e.1 (.inr (by simp));rw[AQ]at this;exact absurd this.symm (hs e (hW ..))
 | e::T,[],_,_,ht,_,h=>by
  have:=h e.1 (.inl (by simp));rw[AQ]at this;exact absurd this (ht e (hW ..))
 | e::T,c::S,h1,h2,ht,hs,h=>by
  rw[nE,List.pairwise_cons]at h1 h2;have lt1:∀x∈T,e.1<x.1:=λx hx=>h1.1 _ (List.mem_map_of_mem hx);have lt2:∀x∈S,c.1<x.1:=λx hx=>h2.1 _ (List.mem_map_of_mem hx);have he:=h e.1 (.inl (by simp));have hc:=h c.1 (.inr (by simp));rw[AQ]at he hc;have ec:e.1=c.1:=by
   refine Classical.byContradiction λn=>?_;rcases Int.lt_or_lt_of_ne n with l | l
   ·rw[kX,nZ (Ne.symm n),RV (λx hx=>Int.lt_trans l (lt2 x hx))]at he;exact ht e (hW ..) he
   ·rw[kX,nZ n,RV (λx hx=>Int.lt_trans l (lt1 x hx))]at hc;exact hs c (hW ..) hc.symm
  have e2:e.2=c.2:=by rw[he,ec,AQ]
  have tl:T=S:=by
   refine MO h1.2 h2.2 (λx hx=>ht x (gR _ hx)) (λx hx=>hs x (gR _ hx)) λk hk=>?_;have nk:e.1≠k:=λz=>by
    rcases hk with hk | hk
    ·obtain⟨x,hx,rfl⟩:=nN.mp hk;exact absurd (lt1 x hx) (by omega)
    ·obtain⟨x,hx,rfl⟩:=nN.mp hk;have:=lt2 x hx;omega
   have:=h k (hk.elim (λz=>.inl (gR _ z)) (λz=>.inr (gR _ z)));rw[kX,nZ nk,kX,nZ (by rw[<-ec];exact nk)]at this;exact this
  rw[tl,show e=c from Prod.ext ec e2]
theorem XV{aa:Nat}{P S:Pl}(h1:PlOk aa P)(h2:PlOk aa S)(h:∀ns:List Int,ns.length=aa->Byt ns->cf P ns=cf S ns):P=S:=by
 have t:kB P=kB S:=by
  refine MO (by rw[xE];exact h1.ord) (by rw[xE];exact h2.ord) (λe he=>?_) (λe he=>?_) λk hk=>?_
  ·obtain⟨x,hx,rfl⟩:=nN.mp he;exact h1.nz x hx
  ·obtain⟨x,hx,rfl⟩:=nN.mp he;exact h2.nz x hx
  ·rw[xE,xE]at hk;rcases hk with hk | hk
   ·obtain⟨x,hx,rfl⟩:=nN.mp hk;rw[h1.tv (h1.len x hx) (h1.byt hx),h2.tv (h1.len x hx) (h1.byt hx),h _ (h1.len x hx) (h1.byt hx)]
   ·obtain⟨x,hx,rfl⟩:=nN.mp hk;rw[h1.tv (h2.len x hx) (h2.byt hx),h2.tv (h2.len x hx) (h2.byt hx),h _ (h2.len x hx) (h2.byt hx)]
 have l:P.length=S.length:=by have:=congrArg List.length t;unfold kB at this;rwa [mS,mS]at this
 refine List.ext_getElem? λi=>?_;have g:(kB P)[i]? = (kB S)[i]? :=by rw[t]
 unfold kB at g;rw[mC,mC]at g;cases a:P[i]? with
 | none=>rw[a]at g;cases b:S[i]? with | none=>rfl | some y=>rw[b]at g;cases g
 | some x=>
  rw[a]at g;cases b:S[i]? with
  | none=>rw[b]at g;cases g
  | some y=>
   rw[b]at g;have g:(pk x.1,x.2)=(pk y.1,y.2):=Option.some.inj g;have g1:pk x.1=pk y.1:=(Prod.mk.inj g).1;have g2:x.2=y.2:=(Prod.mk.inj g).2;have xm:=gQ a;have ym:=gQ b;rw[show x=y from Prod.ext (HB aa (h1.len x xm) (h2.len y ym) (h1.byt xm) (h2.byt ym) g1) g2]
theorem PlOk.ky{aa:Nat}{P:Pl}(h:PlOk aa P):∀k∈(kB P).map (·.1),KyP aa k:=λk hk=>by
 rw[xE]at hk;obtain⟨x,hx,rfl⟩:=nN.mp hk;exact⟨x.1,h.len x hx,h.nn x hx,h.deg x hx,rfl⟩
theorem qR(P:Pl):(kB P).length=P.length:=by unfold kB;rw[mS]
theorem MR(n:Nat):SzR (n+1) 0:=⟨Nat.two_pow_pos _,by show 1<2^(n+1);exact Nat.one_lt_two_pow (by omega)⟩
theorem RW:∀{T:Tb} {k:Int},tv T k=0∨∃e∈T,e.2=tv T k
 | [],_=>.inl rfl
 | e::T,k=>by
  rw[kX];by_cases h:e.1=k
  ·rw[tD h];exact .inr ⟨e,hW ..,rfl⟩
  ·rw[nZ h];rcases RW (T:=T) (k:=k)with z | ⟨c,hc,z⟩
   ·exact .inl z
   ·exact .inr ⟨c,gR _ hc,z⟩
theorem sz_tab{P:Pl}(h:∀x∈P,SzR 7900 x.2)(k:Int):SzR 7900 (tv (kB P) k):=by
 rcases RW (T:=kB P) (k:=k)with z | ⟨e,he,z⟩
 ·rw[z];exact MR 7899
 ·rw[<-z];obtain⟨x,hx,rfl⟩:=nN.mp he;exact h x hx
theorem MS{P:Pl}(h:∀x∈P,SzR 7900 x.2):∀e∈kB P,SzR 7900 e.2:=λe he=>by
 obtain⟨x,hx,rfl⟩:=nN.mp he;exact h x hx
def FQ(K:tF):Sp:=λvs H Q _=>∃(p1 p2:Addr) (aa:Nat) (P1 P2:Pl),vs=[.ref p1,.ref p2]/\SumQ K H p1 aa P1/\SumQ K H p2 aa P2/\PlOk aa P1/\PlOk aa P2/\P1.length+P2.length<=60/\(∀x∈P1,SzR 7900 x.2)/\(∀x∈P2,SzR 7900 x.2)/\
 ∀(p:Addr) (P:Pl) (H':Hp),H p=none->Same H H'->SumQ K H' p aa P->PlOk aa P->(∀ns:List Int,ns.length=aa->Byt ns->cf P ns=cf P1 ns+cf P2 ns)->Q (.ref p) H'
theorem scPl:FnScope ["one","other"] ["one","other"] (jL GE):=⟨rfl,rfl,rfl,by decide +kernel,rfl,by decide +kernel,by decide +kernel⟩
theorem UM{fT fA fS:Addr}{fdT fdA fdS:FuncData}(F:Fun K "plus" "plus" GE f fd)(DT:Df K mg "table_of" wF ["one"] fT fdT)(GT:FnOk P w K mg base CX0 2 fT fdT ["one"] (wP K))(DA:Df K mg "tables_added" wR ["one","other"] fA fdA)(GA:FnOk P w K mg base CX0 3 fA fdA ["one","other"] (BW K))(DS:Df K mg "sum_of" yX ["many","table"] fS fdS)(GS:FnOk P w K mg base CX0 2 fS fdS ["many","table"] (zN K)):FnOk P w K mg base CX0 4 f fd ["one","other"] (FQ K):=by
 refine F.ok scPl (λvs H Q E h=>?_) (λcdv A outer s H vs Q E hr h=>?_)
 ·obtain⟨p1,p2,aa,P1,P2,rfl,_⟩:=h
  rfl
 ·obtain⟨p1,p2,aa,P1,P2,rfl,q1,q2,o1,o2,ln,z1,z2,go⟩:=h;have hr2:Room 2 _:=hr.mono (by decide);refine⟨_,jE (jO (jI GS hr2 rfl DS.m DS.F.kp DS.b .nil jM (jA (kF kH (pv 0) jJ (λ_ _=>rfl)) (jA (jI GA hr rfl DA.m DA.F.kp DA.b .nil jM (jA (jI GT hr2 rfl DT.m DT.F.kp DT.b .nil jM (jA (pv 0) jB)) (jA (jI GT hr2 rfl DT.m DT.F.kp DT.b .nil jM (jA (pv 1) jB)) jB))) jB)))), ?_⟩;try dsimp only[cxK]
  obtain⟨qq,xs,e1,_⟩:=q1.ex;refine⟨_,rfl,p1,_,_,_,rfl,rfl,SqT.of e1,rfl,_,rfl,p1,aa,P1,rfl,q1,o1,λda k1 H1 n1 s1 ea pa=>?_⟩;refine⟨_,rfl,p2,aa,P2,rfl,q2.same s1,o2,λdb k2 H2 n2 s2 eb pb=>?_⟩;refine⟨da,db,k1,k2,kB P1,kB P2,rfl,.inl (s2 _ _ ea),eb,Paired.to (λ_ _ h=>h.same s2) pa,pb,o1.nd,o2.nd,by rw[qR,qR];omega,sz_tab z1,MS z2,λd ag T H3 n3 b3 e3 p3 A _=>?_⟩;have s03:Same H H3:=λc u h=>b3 _ _ ((s1.trans s2) _ _ h) (kG (s1 _ _ h) n2);have nd3:H d=none:=(s1.trans s2).free n3;refine⟨d,aa,ag,T,rfl,.inl e3,p3,A.nd,by have:=A.ln;rw[qR,qR]at this;omega,λk hk=>(A.ks k hk).elim (o1.ky k) (o2.ky k),o1.m1,o1.m4,λp PP H4 n4 s4 SQ ST=>?_⟩;refine go p PP H4 (s03.free n4) (s03.trans s4) SQ ST.ok λns hl hb=>?_;rw[ST.vl ns hl hb,A.vl,o1.tv hl hb,o2.tv hl hb]
def BX(K:tF):Sp:=λvs H Q _=>∃(p1:Addr) (v:V) (aa:Nat) (P1:Pl) (y:Rat),vs=[.ref p1,v]/\SumQ K H p1 aa P1/\PlOk aa P1/\NumK K H v y/\(∀x∈P1,SzR 7900 x.2)/\SzR 7900 y/\
 ∀(p:Addr) (P:Pl) (H':Hp),H p=none->Same H H'->SumQ K H' p aa P->PlOk aa P->(∀ns:List Int,ns.length=aa->Byt ns->cf P ns=cf P1 ns*y)->Q (.ref p) H'
structure ScI(K:tF)(H1:Hp)(d0 d:Addr)(o:Obj)(k1:List (Key×V))(T:Tb)(y:Rat)(i:Nat)(ys:List (Key×V))(H2:Hp):Prop where
 s:Same H1 H2
 e:H2 d=some (.dK ys)
 pr:Paired (EntQ K H2) ys ((T.take i).map λe=>(e.1,e.2*y))
theorem IG(y:Rat):∀(T:Tb) (k:Int),tv (T.map λe=>(e.1,e.2*y)) k=tv T k*y
 | [],k=>by show(0:Rat)=0*y;rw[Rat.zero_mul]
 | e::T,k=>by
  rw[nE,kX,kX,IG y T k];by_cases h:e.1=k
  ·rw[tD h,tD h]
  ·rw[nZ h,nZ h]
theorem scSc:FnScope ["one","number","table"] ["one","number"] (jL AW):=⟨rfl,rfl,rfl,by decide +kernel,rfl,by decide +kernel,by decide +kernel⟩
theorem QC{fT fM fS:Addr}{fdT fdM fdS:FuncData}(F:Fun K "scaled" "scaled" AW f fd)(DT:Df K mg "table_of" wF ["one"] fT fdT)(GT:FnOk P w K mg base CX0 2 fT fdT ["one"] (wP K))(DM:Df K mg "multiplied" IQ ["one","other"] fM fdM)(GM:FnOk P w K mg base CX0 2 fM fdM ["one","other"] (uY K))(DS:Df K mg "sum_of" yX ["many","table"] fS fdS)(GS:FnOk P w K mg base CX0 2 fS fdS ["many","table"] (zN K)):FnOk P w K mg base CX0 3 f fd ["one","number"] (BX K):=by
 refine F.ok scSc (λvs H Q E h=>?_) (λcdv A outer s H vs Q E hr h=>?_)
 ·obtain⟨p1,v,aa,P1,y,rfl,_⟩:=h
  rfl
 ·obtain⟨p1,v,aa,P1,y,rfl,q1,o1,ny,z1,zy,go⟩:=h;refine⟨_,jC (GZ (i:=2) scSc.nd rfl (Or.inl rfl) (own:=2) (idx:=[1]) (N:=["key","fraction","number"]) rfl rfl rfl (by decide +kernel) (by decide +kernel) (wD (by intro y hy;simp only[nF,mM,or_false]at hy;rcases hy with rfl;rfl)) (qH rfl) rfl (yN rfl ⟨rfl,rfl,rfl,rfl⟩) (xG (HD (jI GT hr rfl DT.m DT.F.kp DT.b .nil jM (jA (pv 0) jB)))) (λC fp s2 H2=>show PG (jK _ ["key","fraction","number"] _ _ C fp s2 H2) _ (wZ K 2 (qI (jX 0) (qI (jX 1) gNil)))from kD (X:=jK _ ["key","fraction","number"] _ _ C fp s2 H2) rfl (jG (jF (i:=0) (show List.Nodup (["key","fraction","number"]:List Str) by decide +kernel) rfl (Or.inl rfl) (Or.inr rfl)) (jG (jF (i:=1) (show List.Nodup (["key","fraction","number"]:List Str) by decide +kernel) rfl (Or.inl rfl) (Or.inr rfl)) jR))) (λC fp s2 H2=>pv 0) (λC fp s2 H2=>jI GM hr rfl DM.m DM.F.kp DM.b .nil jM (jA (pv 1) (jA (pv 2) jB)))) (jE (jO (jI GS hr rfl DS.m DS.F.kp DS.b .nil jM (jA (kF kH (pv 0) jJ (λ_ _=>rfl)) (jA (pv 2) jB))))), ?_⟩;try dsimp only[cxK]
  refine⟨_,rfl,p1,aa,P1,rfl,q1,o1,λda k1 H1 n1 s1 ea pa=>?_⟩;refine⟨da,k1,rfl,ea,λo=>⟨da,o,k1,rfl,jD,λd H3 n3 s3 e3=>?_⟩⟩;have k2:Paired (EntQ K (upd H1 da (.frz o (.dK k1)))) k1 (kB P1):=Paired.to (λ_ _ h=>h.upd ea) pa;have s2:Same H (upd H1 da (.frz o (.dK k1))):=jY s1 n1;have ef:(upd H1 da (.frz o (.dK k1))) da=some (.frz o (.dK k1)):=jD;generalize upd H1 da (.frz o (.dK k1))=H2 at k2 s2 ef n3 s3;have l1:k1.length=P1.length:=by rw[Paired.length k2,qR]
  refine yP (ScI K H2 da d o k1 (kB P1) y) (by rw[l1];exact gX o1.few (by decide)) ⟨s3,e3,.nil⟩ (λi ys H4 h=>⟨h.s _ _ ef,h.e, ?_⟩) ?_ ?_
  ·have:=Paired.length h.pr;rw[this,mS,mK];omega
  ·intro i m ys k x c H4 hx hm h hc;obtain⟨e,he,hk,hn⟩:=Paired.at k2 hx;have hk:k=.inl e.1:=hk;subst hk;have s5:Same H4 (upd H4 c (.tup [kV (.inl e.1),x])):=jN _ hc;have e5:(upd H4 c (.tup [kV (.inl e.1),x])) c=some (.tup [kV (.inl e.1),x]):=jD;generalize upd H4 c (.tup [kV (.inl e.1),x])=H5 at s5 e5;have em:=gQ he;obtain⟨px,rfl,hx2⟩:=hn.same (h.s.trans s5);obtain⟨py,rfl,hy2⟩:=ny.same (s2.trans (h.s.trans s5));refine⟨c,_,rfl,SqT.of e5,rfl,_,_,rfl,_,_,rfl,rfl,AE,_,rfl,_,rfl,_,rfl,px,py,_,_,_,_,rfl,hx2,hy2,(MS z1 e em).fr gA,zy.fr gA,λr H6 n6 s6 e6=>?_⟩;have e6:=NV e6;have ed6:=(s5.trans s6) _ _ h.e;refine⟨.inl e.1,rfl,ed6,BH hx hm ⟨jY (h.s.trans (s5.trans s6)) n3,jD, ?_⟩⟩;have k:=uB (k:=e.1) (Paired.to (λ_ _ h=>h.same (s5.trans s6)) h.pr) (NumK.of e6);have eq:xM ((List.take i (kB P1)).map λe=>(e.1,e.2*y)) e.1 (e.2*y)=(List.take (i+1) (kB P1)).map λe=>(e.1,e.2*y):=by
    rw[yA,mE,he,mT]
    ·rfl
    ·have:=yC he o1.nd;rw[nO];exact this
   rw[eq]at k;exact Paired.to (λ_ _ h=>h.upd ed6) k
  ·intro ys H4 h;have pr2:=h.pr;rw[show k1.length=(kB P1).length from Paired.length k2,mN]at pr2;dsimp only[jX];obtain⟨qq,xs,e1,_⟩:=(q1.same (s2.trans h.s)).ex;have ks:((kB P1).map λe=>(e.1,e.2*y)).map (·.1)=(kB P1).map (·.1):=by rw[nO];rfl
   refine⟨_,rfl,p1,_,_,_,rfl,rfl,SqT.of e1,rfl,_,rfl,d,aa,ys,_,rfl,.inl h.e,pr2,by rw[ks];exact o1.nd,by rw[mS,qR];exact o1.few,by rw[ks];exact o1.ky,o1.m1,o1.m4,λp PP H5 n5 s5 SQ ST=>?_⟩;have s04:=s2.trans h.s;refine go p PP H5 (s04.free n5) (s04.trans s5) SQ ST.ok λns hl hb=>?_;rw[ST.vl ns hl hb,IG,o1.tv hl hb]
def zH(ns:List Int)(l:Nat):List Int:=ns.set l (ns.getD l 0-1)
theorem xA{ns:List Int}{l:Nat}(h:l<ns.length):ns[l]? = some (ns.getD l 0):=by
 rw[gE,gI h]
 rfl
theorem YV{ns ms:List Int}{l:Nat}(h:ns.length=ms.length)(hl:l<ns.length)(e:zH ns l=zH ms l):ns=ms:=by
 refine List.ext_getElem? λi=>?_;have g:(zH ns l)[i]? = (zH ms l)[i]? :=by rw[e]
 unfold zH at g;by_cases c:l=i
 ·subst c;rw[List.getElem?_set_self hl,List.getElem?_set_self (by omega)]at g;have g:=Option.some.inj g;rw[xA hl,xA (show l<ms.length by omega)]
  congr 1
  omega
 ·rw[List.getElem?_set_ne c,List.getElem?_set_ne c]at g;exact g
theorem IK:∀{ns:List Int} {l:Nat} (v:Int),l<ns.length->(ns.set l v).sum=ns.sum-ns.getD l 0+v
 | [],l,v,h=>by simp at h
 | a::r,0,v,h=>by
  rw[List.set_cons_zero,nI,nI];show v+r.sum=a+r.sum-a+v;omega
 | a::r,l+1,v,h=>by
  have ih:=IK (ns:=r) (l:=l) v (by simpa using h);rw[List.set_cons_succ,nI,nI,ih];show a+(r.sum-r.getD l 0+v)=a+r.sum-r.getD l 0+v;omega
theorem HM{aa l:Nat}{P:Pl}(ok:PlOk aa P){x:List Int×Rat}(hx:x∈P)(hl:l<aa)(hp:0<x.1.getD l 0):(zH x.1 l).length=aa/\(∀n∈zH x.1 l,0<=n)/\(zH x.1 l).sum<=16:=by
 have h1:=ok.len x hx;refine⟨by unfold zH;rw[List.length_set];exact h1,λn hn=>?_, ?_⟩
 ·rcases List.mem_or_eq_of_mem_set hn with hn | rfl
  ·exact ok.nn x hx n hn
  ·omega
 ·have:=IK (ns:=x.1) (l:=l) (x.1.getD l 0-1) (by omega);have:=ok.deg x hx;unfold zH;omega
def slE(l:Nat)(x:List Int×Rat):Option (Int×Rat):=if 0<x.1.getD l 0 then some (pk (zH x.1 l),x.2*((x.1.getD l 0:Int):Rat))else none
def slT(P:Pl)(l:Nat):Tb:=P.filterMap (slE l)
theorem SO{aa l:Nat}{P Q:Pl}(ok:PlOk aa P)(sub:∀x∈Q,x∈P)(hl:l<aa){k:Int}(h:k∈(slT Q l).map (·.1)):∃x∈Q,0<x.1.getD l 0/\k=pk (zH x.1 l):=by
 obtain⟨e,he,rfl⟩:=nN.mp h;obtain⟨x,hx,e1⟩:=List.mem_filterMap.mp he;unfold slE at e1;split at e1
 ·rename_i c;cases e1;exact⟨x,hx,c,rfl⟩
 ·cases e1
theorem sl_new{aa l i:Nat}{P:Pl}(ok:PlOk aa P)(hl:l<aa){x:List Int×Rat}(hx:P[i]? = some x)(hp:0<x.1.getD l 0):pk (zH x.1 l)∉(slT (P.take i) l).map (·.1):=λz=>by
 obtain⟨y,hy,py,e⟩:=SO ok (λa ha=>gU ha) hl z;have xm:=gQ hx;have ym:=gU hy;have kx:=HM ok xm hl hp;have ky:=HM ok ym hl py;have e2:=HB aa kx.1 ky.1 (wM kx.2.1 kx.2.2) (wM ky.2.1 ky.2.2) e;have e3:=YV (by rw[ok.len x xm,ok.len y ym]) (by rw[ok.len x xm];exact hl) e2;obtain⟨j,hj⟩:=gP.mp hy;have ji:j<i:=by
  have:=(gG.mp hj).1;rw[mK]at this;omega
 rw[gJ ji]at hj;have a1:(P.map (·.1))[j]? = some y.1:=by rw[mC,hj];rfl
 have a2:(P.map (·.1))[i]? = some x.1:=by rw[mC,hx];rfl
 have:=(List.getElem?_inj (gG.mp a1).1 ok.ndn).mp (a1.trans (by rw[<-e3];exact a2.symm));omega
theorem MY{aa l i:Nat}{P:Pl}(ok:PlOk aa P)(hl:l<aa){x:List Int×Rat}(hx:P[i]? = some x):slT (P.take (i+1)) l=if 0<x.1.getD l 0 then xM (slT (P.take i) l) (pk (zH x.1 l)) (x.2*((x.1.getD l 0:Int):Rat))else slT (P.take i) l:=by
 have t:slT (P.take (i+1)) l=slT (P.take i) l++[x].filterMap (slE l):=by
  unfold slT;rw[mE,hx,List.filterMap_append]
  rfl
 rw[t];split
 ·rename_i c;rw[yA (sl_new ok hl hx c)]
  congr 1
  rw[List.filterMap_cons_some (show slE l x=_ from tD c)]
  rfl
 ·rename_i c;have:[x].filterMap (slE l)=[]:=by
   rw[List.filterMap_cons_none (show slE l x=none from nZ c)]
   rfl
  rw[this,List.append_nil]
theorem SN{aa l:Nat}{P:Pl}(ok:PlOk aa P)(hl:l<aa):∀i,i<=P.length->((slT (P.take i) l).map (·.1)).Nodup
 | 0,_=>nB
 | i+1,h=>by
  rw[MY ok hl (gI (show i<P.length by omega))];split
  ·exact zP (SN ok hl i (by omega))
  ·exact SN ok hl i (by omega)
theorem SS(P:Pl)(l:Nat):(slT P l).length<=P.length:=List.length_filterMap_le ..
def FP(K:tF):Sp:=λvs H Q _=>∃(p1:Addr) (l aa:Nat) (P1:Pl),vs=[.ref p1,.int l]/\SumQ K H p1 aa P1/\PlOk aa P1/\l<aa/\(∀x∈P1,SzR 7900 x.2)/\
 ∀(p:Addr) (P:Pl) (H':Hp),H p=none->Same H H'->SumQ K H' p aa P->SumT aa (slT P1 l) P->Q (.ref p) H'
inductive SlI(K:tF)(H:Hp)(p1 q d:Addr)(l aa:Nat)(P:Pl)(i:Nat):L2.St->Hp->Prop where
 | mk {u5 u6 u7 u8:Option V} {H':Hp} {ag:List (Key×V)} (s:Same H H') (e:H' d=some (.dK ag)) (pr:Paired (EntQ K H') ag (slT (P.take i) l)):SlI K H p1 q d l aa P i [some (.ref p1),some (.int l),some (.int aa),some (.ref q),some (.ref d),u5,u6,u7,u8] H'
theorem uT{ns:List Int}{l:Nat}(h:l<ns.length):vN (ns.map V.int) none (some (l:Int))++[V.int (ns.getD l 0-1)]++vN (ns.map V.int) (some ((l:Int)+1)) none=(zH ns l).map V.int:=by
 have c1:vN (ns.map V.int) none (some (l:Int))=(ns.take l).map V.int:=by
  unfold vN;rw[HT.sIx_nat,HT.sIx_none,Nat.min_eq_left (by rw[mS];omega),List.drop_zero,Nat.sub_zero,List.map_take]
 have c2:vN (ns.map V.int) (some ((l:Int)+1)) none=(ns.drop (l+1)).map V.int:=by
  rw[show((l:Int)+1)=((l+1:Nat):Int) by omega];unfold vN;rw[HT.sIx_nat,HT.sIx_none,Nat.min_eq_left (by rw[mS];omega),List.map_drop];exact gM (by rw[List.length_drop];exact nQ _)
 rw[c1,c2];unfold zH;rw[List.set_eq_take_append_cons_drop,tD h,mT,nE,mF]
 rfl
theorem scSl:FnScope ["one","letter","many","terms","table","powers","fraction","power","lower"] ["one","letter"] (jL FX):=⟨rfl,rfl,rfl,by decide +kernel,rfl,by decide +kernel,by decide +kernel⟩
theorem UJ{fP fM fS:Addr}{fdP fdM fdS:FuncData}(F:Fun K "slope" "slope" FX f fd)(DP:Df K mg "packed" wS ["powers"] fP fdP)(GP:FnOk P w K mg base CX0 1 fP fdP ["powers"] (BY K))(DM:Df K mg "multiplied" IQ ["one","other"] fM fdM)(GM:FnOk P w K mg base CX0 2 fM fdM ["one","other"] (uY K))(DS:Df K mg "sum_of" yX ["many","table"] fS fdS)(GS:FnOk P w K mg base CX0 2 fS fdS ["many","table"] (zN K)):FnOk P w K mg base CX0 3 f fd ["one","letter"] (FP K):=by
 refine F.ok scSl (λvs H Q E h=>?_) (λcdv A outer s H vs Q E hr h=>?_)
 ·obtain⟨p1,l,aa,P1,rfl,_⟩:=h
  rfl
 ·obtain⟨p1,l,aa,P1,rfl,q1,o1,hl,z1,go⟩:=h;have hr1:Room 1 _:=hr.mono (by decide);have hu:_+1<cLine:=gX (Nat.add_le_add_left (by decide:1<=64) _) hr.units;refine⟨_,jC (qZ (pv 0) (kD rfl (jG (jF (i:=2) scSl.nd rfl (Or.inl rfl)) (jG (jF (i:=3) scSl.nd rfl (Or.inl rfl)) jR)))) (jC (jP (i:=4) scSl.nd rfl (Or.inl rfl) (zA)) (jC (qF PassesOwn.never rfl (xF (pv 3)) (kD rfl (jG (jF (i:=5) scSl.nd rfl (Or.inl rfl)) (jG (jF (i:=6) scSl.nd rfl (Or.inl rfl)) jR))) (jC (jP (i:=7) scSl.nd rfl (Or.inl rfl) (kF kH (pv 5) (pv 1) (λ_ _=>rfl))) (jE (kR (jV xS (pv 7) jJ (jU _)) (jC (jP (i:=8) scSl.nd rfl (Or.inl rfl) (jW NP (jW NP (xH FU (pv 5) yK (vO (pv 1))) (jS (jA (jW HF (pv 7) jJ) jB))) (xH FU (pv 5) (vO (jW vJ (pv 1) jJ)) yK))) (jE (HA hu (pv 4) (jI GP hr1 rfl DP.m DP.F.kp DP.b .nil jM (jA (pv 8) jB)) (jI GM hr rfl DM.m DM.F.kp DM.b .nil jM (jA (pv 6) (jA (jS (jA (pv 7) (jA jJ jB))) jB))) rfl))) kA)))) (jE (jO (jI GS hr rfl DS.m DS.F.kp DS.b .nil jM (jA (pv 2) (jA (pv 4) jB))))))), ?_⟩;try dsimp only[cxK]
  obtain⟨q,xs,e1,e2,pr⟩:=q1.ex;have lx:xs.length=P1.length:=Paired.length pr;refine⟨_,rfl,gT2 (SqT.of e1) rfl ?_⟩;intro d nd;have s0:Same H (upd H d (.dK [])):=jN _ nd;have e0:(upd H d (.dK [])) d=some (.dK []):=jD;generalize upd H d (.dK [])=H0 at s0 e0;refine⟨_,rfl,q,rfl,⟨_,SqT.of (s0 _ _ e2)⟩,uA (K:=K) (a:=q) (xs:=xs) (SlI K H p1 q d l aa P1) (.mk (ag:=[]) s0 e0 .nil) (λi σ H2 _ h=>?_) (λi x σ H2 hx h=>?_) (fun σ H2 h=>?_)⟩
  ·obtain⟨s2,_,_⟩:=h;exact SqT.of (s2 _ _ e2)
  ·obtain⟨s2,ed,pr2⟩:=h;rename_i ag;obtain⟨y,hy,r,b,c,rfl,r1,r2,r3⟩:=Paired.at pr hx;have ym:=gQ hy;have ly:=o1.len y ym;refine gT2 (SqT.of (s2 _ _ r1)) rfl ?_;refine⟨_,rfl,_,rfl,b,_,_,_,rfl,rfl,SqT.of (s2 _ _ r2),qX (by rw[mC,xA (show l<y.1.length by omega)];rfl), ?_⟩;dsimp only[jX];have st:=MY o1 hl hy;refine⟨_,rfl,_,_,rfl,rfl,_,rfl, ?_⟩;refine AN (λc0=>?_) (λc0=>?_)
   ·have c0:0<y.1.getD l 0:=mG c0;have ky:=HM o1 ym hl c0;rw[tD c0]at st;have s20:=fun {a:Addr} {o:HO} (h:H a=some o)=>s2 _ _ h;refine⟨_,rfl,_,rfl,_,rfl,b,_,rfl,s20 r2,λt1 H3 s3 e3=>⟨_,rfl,_,_,rfl,rfl,gC,λt2 H4 n4 s4 e4=>?_⟩⟩;have lc:(vN (y.1.map V.int) none (some (l:Int))).length<=4:=by
     have:=congrArg List.length (uT (ns:=y.1) (l:=l) (by omega));rw[gY,gY,mS,ky.1]at this;have:=o1.m4;omega
    have ld:(vN (y.1.map V.int) (some ((l:Int)+1)) none).length<=4:=by
     have:=congrArg List.length (uT (ns:=y.1) (l:=l) (by omega));rw[gY,gY,mS,ky.1]at this;have:=o1.m4;omega
    refine⟨t1,t2,_,_,rfl,rfl,s4 _ _ e3,e4,by rw[sizeLine_eq];show _+1<=_;omega,λt3 H5 s5 e5=>?_⟩;have s25:=s3.trans (s4.trans s5);refine⟨_,rfl,_,rfl,_,_,rfl,rfl,_,rfl,b,_,rfl,s25 _ _ (s20 r2),λt4 H6 s6 e6=>?_⟩;refine⟨t3,t4,_,_,rfl,rfl,s6 _ _ e5,e6,by rw[sizeLine_eq,gY];show _+1+_<=_;omega,λt5 H7 s7 e7=>?_⟩;rw[uT (by omega)]at e7;have s27:=s25.trans (s6.trans s7);dsimp only[jX];refine⟨_,rfl,_,rfl,gD,λt6 H8 n8 s8 e8=>?_⟩;obtain⟨pc,epc,hc⟩:=r3;cases epc;have pw:(y.1.getD l 0).natAbs<2^10:=by
     have m0:y.1.getD l 0∈y.1:=gQ (xA (show l<y.1.length by omega));have:=(vZ (o1.nn y ym) m0).1;have:=o1.deg y ym;have:(2:Nat)^10=1024:=rfl;omega
    refine⟨c,t6,_,_,_,_,rfl,kU (s2.trans (s27.trans s8)) hc,FN (SqT.of e8),(z1 y ym).fr gA,(HS (n:=7900) (jQ pw (by decide)) (by decide)).fr gA,λr9 H9 n9 s9 e9=>?_⟩;have e9:=NV e9;have s29:=s27.trans (s8.trans s9);have ed9:=s29 _ _ ed;have lk:ag.length=(slT (P1.take i) l).length:=Paired.length pr2;have lS:=SS (P1.take i) l;rw[mK]at lS;have fw:=o1.few;refine⟨_,rfl,_,rfl,t5,_,rfl,SqT.of ((s8.trans s9) _ _ e7),wM ky.2.1 ky.2.2,by rw[ky.1];exact o1.m4,d,_,rfl,DPut.k (k:=.inl (pk (zH y.1 l))) ed9 (by rw[lk,sizeLine_eq];omega), ?_⟩;refine .mk (jY (s2.trans s29) nd) jD ?_;rw[st];exact Paired.to (λ_ _ h=>h.upd ed9) (uB (Paired.to (λ_ _ h=>h.same s29) pr2) (NumK.of e9))
   ·rw[nZ (λz=>c0 (mX z))]at st;exact .mk s2 ed (by rw[st];exact pr2)
  ·obtain⟨s2,ed,pr2⟩:=h;rw[lx,mN]at pr2;have nd2:=SN o1 hl P1.length gA ;rw[mN]at nd2;refine⟨_,rfl,_,rfl,d,aa,_,_,rfl,.inl ed,pr2,nd2,nL (SS _ _) o1.few,λk hk=>?_,o1.m1,o1.m4,λp PP H5 n5 s5 SQ ST=>go p PP H5 (s2.free n5) (s2.trans s5) SQ ST⟩;obtain⟨x,hx,hp,rfl⟩:=SO o1 (λ_ h=>h) hl hk;have ky:=HM o1 hx hl hp;exact⟨_,ky.1,ky.2.1,ky.2.2,rfl⟩
end Lw
namespace Lw
open PySem PySem.Spec PyProof.Rows L2 LwQ
def lvS(b:Int)(r:Rat):Int:=b*yD (r.den:Int) b
def lvD(rs:List Rat):Int:=rs.foldl lvS 1
theorem OB{b:Int}(hb:0<b)(r:Rat):0<lvS b r:=by
 unfold lvS;rw[qU hb];have g:=LwM.qW (r.den:Int) b hb;have d:=r.den_pos;have:0<(r.den:Int)/(Int.gcd (r.den:Int) b:Int):=by
  have h1:(Int.gcd (r.den:Int) b:Int)∣(r.den:Int):=mQ ..;obtain⟨k,hk⟩:=h1;generalize (Int.gcd (r.den:Int) b:Int)=G at *;rw[hk,Int.mul_ediv_cancel_left _ (by omega)];by_cases z:0<k
  ·exact z
  ·have:G*k<=0:=Int.mul_nonpos_of_nonneg_of_nonpos (by omega) (by omega);omega
 exact nS hb this
theorem YT{b:Int}(hb:0<b)(r:Rat):b∣lvS b r/\(r.den:Int)∣lvS b r:=by
 unfold lvS;refine⟨Int.dvd_mul_right .., ?_⟩;rw[qU hb];have g:=LwM.qW (r.den:Int) b hb;obtain⟨k,hk⟩:(Int.gcd (r.den:Int) b:Int)∣(r.den:Int):=mQ ..;obtain⟨m,hm⟩:(Int.gcd (r.den:Int) b:Int)∣b:=mI ..;generalize (Int.gcd (r.den:Int) b:Int)=G at *;refine⟨m, ?_⟩;have:(r.den:Int)/G=k:=by rw[hk,Int.mul_ediv_cancel_left _ (by omega)]
 rw[this,hk]
 conv=>lhs;rw[hm]
 grind
theorem lvF:∀(rs:List Rat) (b:Int),0<b->0<rs.foldl lvS b/\b∣rs.foldl lvS b/\∀r∈rs,(r.den:Int)∣rs.foldl lvS b
 | [],b,h=>⟨h,Int.dvd_refl _,λ_ z=>nomatch z⟩
 | r::rs,b,h=>by
  obtain⟨h1,h2,h3⟩:=lvF rs (lvS b r) (OB h r);have d:=YT h r;refine⟨h1,Int.dvd_trans d.1 h2,λq hq=>?_⟩;rcases nF.mp hq with rfl | hq
  ·exact Int.dvd_trans d.2 h2
  ·exact h3 q hq
theorem HL(rs:List Rat):0<lvD rs:=(lvF rs 1 (by decide)).1
theorem YU{rs:List Rat}{r:Rat}(h:r∈rs):(r.den:Int)∣lvD rs:=(lvF rs 1 (by decide)).2.2 r h
theorem lvS_of{b D:Int}(hb:0<b){r:Rat}(h:b∣D)(k:(r.den:Int)∣D):lvS b r∣D:=by
 unfold lvS;rw[qU hb];have g:=LwM.qW (r.den:Int) b hb;have lg:=OD (n:=(r.den:Int)) hb;rw[qU hb,xI hb]at lg;obtain⟨y,hy⟩:(Int.gcd (r.den:Int) b:Int)∣(r.den:Int):=mQ ..;obtain⟨m,hm⟩:(Int.gcd (r.den:Int) b:Int)∣b:=mI ..;generalize (Int.gcd (r.den:Int) b:Int)=G at *;have e1:(r.den:Int)/G=y:=by rw[hy,Int.mul_ediv_cancel_left _ (by omega)]
 have e2:b/G=m:=by rw[hm,Int.mul_ediv_cancel_left _ (by omega)]
 rw[e1,e2]at lg;rw[e1];obtain⟨x,hx⟩:=h;obtain⟨z,hz⟩:=k;have:y∣m*x:=⟨z,by
  have:G*(m*x)=G*(y*z):=by rw[<-nH,<-hm,<-hx,hz,hy,nH]
  exact Int.eq_of_mul_eq_mul_left (by omega) this⟩
 have:y∣x:=BI (by rw[Int.gcd_comm];exact lg) this;obtain⟨q,hq⟩:=this;exact⟨q,by rw[hx,hq,nH]⟩
theorem VB{D:Int} :∀(rs:List Rat) (b:Int),0<b->b∣D->(∀r∈rs,(r.den:Int)∣D)->rs.foldl lvS b∣D
 | [],_,_,h,_=>h
 | r::rs,b,h0,h,k=>VB rs (lvS b r) (OB h0 r) (lvS_of h0 h (k r (hW ..))) λq hq=>k q (gR _ hq)
theorem lvD_of{D:Int}{rs:List Rat}(k:∀r∈rs,(r.den:Int)∣D):lvD rs∣D:=VB rs 1 (by decide) ⟨D,by omega⟩ k
theorem uD{a D:Int}(h:a∣D)(h0:0<D):a.natAbs<=D.natAbs:=Nat.le_of_dvd (by omega) (Int.natAbs_dvd_natAbs.mpr h)
theorem VC(rs:List Rat)(r:Rat):lvD (rs++[r])=lvS (lvD rs) r:=by
 unfold lvD;rw[mH]
 rfl
theorem VA{rs:List Rat}{r:Rat}(h:r∈rs):((r.num*(lvD rs/(r.den:Int)):Int):Rat)=r*(lvD rs:Rat):=by
 obtain⟨k,hk⟩:=YU h;have d:=r.den_pos;rw[hk,Int.mul_ediv_cancel_left _ (by omega),mW,mW];have h1:=vX r;unfold fv at h1;have h2:((r.den:Int):Rat)≠0:=cne (by omega);generalize ((r.den:Int):Rat)=D at *;generalize (r.num:Rat)=N at *;rw[<-h1]
 grind
theorem VT{t:Int}{n:Nat}(h:t.natAbs<2^n)(hn:0<n):FrOk n t 1:=⟨by decide,by simp,h,by
 show 1<2^n;exact Nat.one_lt_two_pow (by omega)⟩
open LwV
theorem keep3{x y z:Option V}{r:L2.St} :Keep (none::none::none::r) (x::y::z::r):=λi v h=>by
 match i,h with
 | i+3,h=>exact h
def EntR(C:Int)(H:Hp)(kv:Key×V)(e:Int×Rat):Prop:=kv.1=.inl e.1/\∃c,kv.2=.ref c/\H c=some (.tup [.int (e.2.num*(C/(e.2.den:Int))),.int C])
theorem XD{K:tF}{H H':Hp}{p a:Addr}{xs:List V}{ag:List (Key×V)}(e:Rd H p (.dK ag))(b:But p H H')(h:SqT K H a xs):SqT K H' a xs:=by
 rcases h with(h | ⟨u,h⟩) | h
 ·refine .inl (.inl (b _ _ h λz=>?_));rw[z]at h;rcases e with e | ⟨o,e⟩<;>rw[e]at h<;>cases h
 ·refine .inl (.inr ⟨u,b _ _ h λz=>?_⟩);rw[z]at h;rcases e with e | ⟨o,e⟩<;>rw[e]at h<;>cases h
 ·exact .inr h
theorem EntQ.but{K:tF}{H H':Hp}{p:Addr}{ag:List (Key×V)}{kv:Key×V}{x:Int×Rat}(h:EntQ K H kv x)(e:Rd H p (.dK ag))(b:But p H H'):EntQ K H' kv x:=let ⟨z1,pz,z2,z3⟩:=h;⟨z1,pz,z2,XD e b z3⟩
theorem EntR.same{C:Int}{H H':Hp}{kv:Key×V}{e:Int×Rat}(h:EntR C H kv e)(s:Same H H'):EntR C H' kv e:=let ⟨h1,c,h2,h3⟩:=h;⟨h1,c,h2,s _ _ h3⟩
theorem EntR.upd{C:Int}{H:Hp}{p:Addr}{ag:List (Key×V)}{o:HO}(e:H p=some (.dK ag)){kv:Key×V}{x:Int×Rat}(h:EntR C H kv x):EntR C (upd H p o) kv x:=let ⟨h1,c,h2,h3⟩:=h;⟨h1,c,h2,by rw[jH λz=>by rw[z,e]at h3;cases h3];exact h3⟩
theorem IW{l:List (Key×V)}{k:Key}{v:V}(h:∀p∈l,p.1≠k):qE l k v=l++[(k,v)]:=by
 unfold qE;rw[nZ];intro z;obtain⟨p,hp,e⟩:=List.any_eq_true.mp z;exact h p hp (mG e)
def kM(T:Tb):Int:=lvD (T.map (·.2))
def spLev(K:tF):Sp:=λvs H Q _=>∃(a:Addr) (ag:List (Key×V)) (T:Tb) (D:Int),vs=[.ref a]/\Rd H a (.dK ag)/\Paired (EntQ K H) ag T/\(T.map (·.1)).Nodup/\T.length<=1000/\0<D/\D.natAbs<2^1400/\(∀e∈T,(e.2.den:Int)∣D)/\(∀e∈T,e.2.num.natAbs<2^3000)/\
 ∀(d:Addr) (ks:List (Key×V)) (H':Hp),H d=none->But a H H'->(∃o,H' a=some (.frz o (.dK ag)))->H' d=some (.dK ks)->Paired (EntR (kM T) H') ks T->Q (.ref d) H'
inductive LvI(H:Hp)(a:Addr)(T:Tb)(i:Nat):L2.St->Hp->Prop where
 | mk {u v:Option V} {H':Hp} (s:Same H H'):LvI H a T i [some (.ref a),some (.int (kM (T.take i))),u,v] H'
structure LvC(C:Int)(H1:Hp)(d:Addr)(T:Tb)(i:Nat)(ys:List (Key×V))(H2:Hp):Prop where
 s:Same H1 H2
 e:H2 d=some (.dK ys)
 pr:Paired (EntR C H2) ys (T.take i)
theorem MF{T:Tb}{D:Int}(h:∀e∈T,(e.2.den:Int)∣D):kM T∣D:=lvD_of λr hr=>by obtain⟨e,he,rfl⟩:=nN.mp hr;exact h e he
variable{P:Program}{w:World}{K:tF}{mg:Str->Option Value}{base:Heap}{f fd:_}
theorem scLv:FnScope ["table","common","top","bottom"] ["table"] (jL NF):=⟨rfl,rfl,rfl,by decide +kernel,rfl,by decide +kernel,by decide +kernel⟩
theorem ok_lev{fD:Addr}{fdD:FuncData}(F:Fun K "levelled" "levelled" NF f fd)(T:Txt mg)(DD:Df K mg "divided" PN ["one","other"] fD fdD)(GD:FnOk P w K mg base CX0 3 fD fdD ["one","other"] (uM K)):FnOk P w K mg base CX0 4 f fd ["table"] (spLev K):=by
 obtain⟨ts,hS⟩:=T.short;refine F.ok scLv (λvs H Q E h=>?_) (λcdv A outer s H vs Q E hr h=>?_)
 ·obtain⟨a,ag,TT,D,rfl,_⟩:=h
  rfl
 ·obtain⟨a,ag,TT,D,rfl,ha,pr,nd,lT,D0,D1,dv,nb,go⟩:=h;refine⟨_,jC (jP (i:=1) scLv.nd rfl (Or.inr rfl) jJ) (jC (qF PassesOwn.never rfl (XX (BD (pv 0))) (kD rfl (jG (jF (i:=2) scLv.nd rfl (Or.inl rfl)) (jG (jF (i:=3) scLv.nd rfl (Or.inl rfl)) jR))) (jC (jP (i:=1) scLv.nd rfl (Or.inr rfl) (jW kZ (pv 1) (kF kH (jI GD hr rfl DD.m DD.F.kp DD.b .nil jM (jA (jS (jA (pv 3) (jA jJ jB))) (jA (jS (jA (pv 1) (jA jJ jB))) jB))) jJ (λ_ _=>rfl)))) (jE (kR (jV xS (TX PySem.F.plainAttrs_int slot_int_bit_length type_int_bit_length NY (pv 1)) (kQ (v:=.int 1500) (by rfl) hS ⟨_,rfl⟩) (jU _)) (jE (qO)) kA)))) (jE (jO (uQ (own:=3) (idx:=[1]) (N:=["key","top","bottom","common"]) rfl rfl rfl (by decide +kernel) (by decide +kernel) (wD (by intro y hy;simp only[nF,mM,or_false]at hy;rcases hy with rfl;rfl)) (qH rfl) rfl (yN rfl ⟨rfl,rfl,rfl,rfl⟩) (xG (pv 0)) (λC fp s2 H2=>show PG (jK _ ["key","top","bottom","common"] _ _ C fp s2 H2) _ (wZ K 2 (qI (jX 0) (qI (wZ K 2 (qI (jX 1) (qI (jX 2) gNil))) gNil)))from kD (X:=jK _ ["key","top","bottom","common"] _ _ C fp s2 H2) rfl (jG (jF (i:=0) (show List.Nodup (["key","top","bottom","common"]:List Str) by decide +kernel) rfl (Or.inl rfl) (Or.inr rfl)) (jG (kD (X:=jK _ ["key","top","bottom","common"] _ _ C fp s2 H2) rfl (jG (jF (i:=1) (show List.Nodup (["key","top","bottom","common"]:List Str) by decide +kernel) rfl (Or.inl rfl) (Or.inr rfl)) (jG (jF (i:=2) (show List.Nodup (["key","top","bottom","common"]:List Str) by decide +kernel) rfl (Or.inl rfl) (Or.inr rfl)) jR))) jR))) (λC fp s2 H2=>pv 0) (λC fp s2 H2=>jS (jA (jW kZ (pv 1) (jW LwD.zE (pv 3) (pv 2))) (jA (pv 3) jB))))))), ?_⟩
  try dsimp only[cxK]
  have lk:ag.length=TT.length:=Paired.length pr;refine⟨_,rfl,a,ag,rfl,ha,λo H1 e1 b1 fr1=>⟨a,o,ag,rfl,e1, ?_⟩⟩;have p1:Paired (EntQ K H1) ag TT:=Paired.to (λ_ _ h=>h.but ha b1) pr;have cD:∀i,(kM (TT.take i)).natAbs<2^1400/\0<kM (TT.take i):=λi=>⟨gX (uD (MF λe he=>dv e (gU he)) D0) D1,HL _⟩;refine VX (LvI H1 a TT) (.mk (Same.refl _)) (λi σ H2 _ h=>?_) (λi k x σ H2 hx h=>?_) (fun σ H2 h=>?_)
  ·obtain⟨s2⟩:=h;exact s2 _ _ e1
  ·obtain⟨s2⟩:=h;obtain⟨e,he,_,px,rfl,sx⟩:=Paired.at p1 hx;have em:=gQ he;have ci:=cD i;have dn:((e.2.den:Int)).natAbs<2^1400:=gX (uD (dv e em) D0) D1;have dp:=e.2.den_pos;refine gT2 (kU s2 sx) rfl ?_;refine⟨_,rfl,_,rfl,gD,λz1 H3 n3 s3 e3=>⟨_,rfl,gD,λy1 H4 n4 s4 e4=>?_⟩⟩;refine⟨z1,y1,(e.2.den:Int),1,kM (TT.take i),1,rfl,SqT.of (s4 _ _ e3),SqT.of e4,VT (jQ dn (by decide)) (by decide),VT (jQ ci.1 (by decide)) (by decide),by have:=ci.2;omega,λq5 H5 n5 s5 e5=>?_⟩;rw[Int.mul_one,Int.one_mul]at e5;have lt:=YW (n:=(e.2.den:Int)) ci.2;refine⟨q5,_,_,_,rfl,rfl,SqT.of e5,rfl,_,_,rfl,rfl,⟨jQ ci.1 (by decide),gX lt (jQ dn (by decide))⟩, ?_⟩;have cs:kM (TT.take i)*yD (e.2.den:Int) (kM (TT.take i))=kM (TT.take (i+1)):=by
    unfold kM;rw[mE,he,mT];exact(VC _ _).symm
   dsimp only[jX];rw[cs];have cn:=cD (i+1);have hb:(Builtin.Int.intBits (kM (TT.take (i+1))))<=1400:=PySem.intBits_le_iff.mpr cn.1;refine⟨_,rfl,rfl,_,rfl,rfl,_,_,rfl,rfl,_,rfl,vI (mU (by omega)) ?_⟩;exact .mk (s2.trans (s3.trans (s4.trans s5)))
  ·obtain⟨s2⟩:=h;rw[lk,mN];have cf':=cD TT.length;rw[mN]at cf';refine⟨_,rfl,a,o,ag,rfl,s2 _ _ e1,λd H3 n3 s3 e3=>?_⟩;refine yP (LvC (kM TT) H2 d TT) (by rw[lk,sizeLine_eq];omega) ⟨s3,e3,.nil⟩ (λi ys H4 h=>⟨(s2.trans h.s) _ _ e1,h.e, ?_⟩) ?_ ?_
   ·have:=Paired.length h.pr;rw[this,mK];omega
   ·intro i m ys k x c H4 hx hm h hc;obtain⟨e,he,hk,px,rfl,sx⟩:=Paired.at p1 hx;have hk:k=.inl e.1:=hk;subst hk;have em:=gQ he;have s5:Same H4 (upd H4 c (.tup [kV (.inl e.1),.ref px])):=jN _ hc;have e5:(upd H4 c (.tup [kV (.inl e.1),.ref px])) c=some (.tup [kV (.inl e.1),.ref px]):=jD;generalize upd H4 c (.tup [kV (.inl e.1),.ref px])=H5 at s5 e5;have dn:((e.2.den:Int)).natAbs<2^1400:=gX (uD (dv e em) D0) D1;have dp:=e.2.den_pos;have qb:(kM TT/(e.2.den:Int)).natAbs<2^1400:=gX (LwM.uC _ _ (by omega)) cf'.1;refine⟨c,_,rfl,SqT.of e5,rfl,_,_,rfl,_,_,rfl,px,_,rfl,kU (s2.trans (h.s.trans s5)) sx,rfl,_,_,rfl,_,_,rfl,rfl,rfl,keep3,_,rfl,_,rfl,_,rfl,_,rfl,_,_,rfl,rfl,LwD.xL (m:=1400) (by omega) (by decide) cf'.1,_,_,rfl,rfl,⟨jQ (nb e em) (by decide),jQ qb (by decide)⟩,_,rfl,gD,λt H6 n6 s6 e6=>?_⟩;have ed6:=(s5.trans s6) _ _ h.e;refine⟨.inl e.1,rfl,ed6,BH hx hm ⟨jY (h.s.trans (s5.trans s6)) n3,jD, ?_⟩⟩;have out:∀p∈ys,p.1≠(.inl e.1:Key):=λp hp z=>by
     obtain⟨j,hj⟩:=gP.mp hp;obtain⟨e',he',q1,_⟩:=Paired.at h.pr hj;rw[z]at q1;exact yC he nd (by rw[Sum.inl.inj q1];exact List.mem_map_of_mem (gQ he'))
    rw[IW out,mE,he];exact Paired.app (Paired.to (λ_ _ k=>(k.same (s5.trans s6)).upd ed6) h.pr) (.cons (EntR.upd ed6 ⟨rfl,t,rfl,e6⟩) .nil)
   ·intro ys H4 h;have pr4:=h.pr;rw[lk,mN]at pr4;refine go d ys H4 (fr1 d (s2.free n3)) (λc u hc n=>(s2.trans h.s) _ _ (b1 c u hc n)) ⟨o,(s2.trans h.s) _ _ e1⟩ h.e pr4
theorem ZJ{n M:Int}(M0:0<M)(Mb:M.natAbs<2^7800)(nb:n.natAbs<2^7800):SzR 7900 ((n:Rat)/(M:Rat)):=by
 have o:Ov 1 7800 ((n:Int):Rat):=⟨n,by unfold fv;rw[nT,show((1:Int):Rat)=1 from rfl];grind,Nat.le_of_lt nb⟩;have o:=o.div (by decide) (show M≠0 by omega);rw[Int.one_mul]at o;exact o.sz (by omega) (d:=7800) (by rw[hV];exact Nat.le_of_lt Mb) (by decide) (by decide)
def SL(K:tF):Sp:=λvs H Q _=>∃(a:Addr) (M n:Int),vs=[.ref a]/\H a=some (.dK [(.inl M,.int n)])/\0<M/\M.natAbs<2^7800/\n.natAbs<2^7800/\
 ∀(v:V) (H':Hp),But a H H'->NumK K H' v ((n:Rat)/(M:Rat))->Q v H'
inductive HtI(K:tF)(H:Hp)(a:Addr)(M n:Int)(i:Nat):L2.St->Hp->Prop where
 | mk {v:V} {u2 u3:Option V} {H':Hp} (s:Same H H') (h:NumK K H' v (if i=0 then 0 else(n:Rat)/(M:Rat))):HtI K H a M n i [some (.ref a),some v,u2,u3] H'
theorem scHt:FnScope ["heap","total","bottom","top"] ["heap"] (jL GK):=⟨rfl,rfl,rfl,by decide +kernel,rfl,by decide +kernel,by decide +kernel⟩
theorem YI{fA fD:Addr}{fdA fdD:FuncData}(F:Fun K "heap_total" "heap_total" GK f fd)(N:Ngt K mg)(DA:Df K mg "added" uZ ["one","other"] fA fdA)(GA:FnOk P w K mg base CX0 2 fA fdA ["one","other"] (yW K))(DD:Df K mg "divided" PN ["one","other"] fD fdD)(GD:FnOk P w K mg base CX0 3 fD fdD ["one","other"] (uM K)):FnOk P w K mg base CX0 4 f fd ["heap"] (SL K):=by
 obtain⟨na,hN,hna⟩:=N;refine F.ok scHt (λvs H Q E h=>?_) (λcdv A outer s H vs Q E hr h=>?_)
 ·obtain⟨a,M,n,rfl,_⟩:=h
  rfl
 ·obtain⟨a,M,n,rfl,ha,M0,Mb,nb,go⟩:=h;have hr2:Room 2 _:=hr.mono (by decide);refine⟨_,jC (jP (i:=1) scHt.nd rfl (Or.inl rfl) (kQ (v:=.ref na) (by rfl) hN rfl)) (jC (qF PassesOwn.never rfl (xG (HD (pv 0))) (kD rfl (jG (jF (i:=2) scHt.nd rfl (Or.inl rfl)) (jG (jF (i:=3) scHt.nd rfl (Or.inl rfl)) jR))) (jE (jP (i:=1) scHt.nd rfl (Or.inl rfl) (jI GA hr2 rfl DA.m DA.F.kp DA.b .nil jM (jA (pv 1) (jA (jI GD hr rfl DD.m DD.F.kp DD.b .nil jM (jA (jS (jA (pv 3) (jA jJ jB))) (jA (jS (jA (pv 2) (jA jJ jB))) jB))) jB)))))) (jE (jO (pv 1)))), ?_⟩;try dsimp only[cxK]
  refine⟨_,rfl,a,_,rfl,ha,λo=>⟨a,o,_,rfl,jD, ?_⟩⟩;have b1:But a H (upd H a (.frz o (.dK [(.inl M,.int n)]))):=λc u h n=>by rw[jH n];exact h
  have e1:(upd H a (.frz o (.dK [((.inl M:Key),V.int n)]))) a=some (.frz o (.dK [(.inl M,.int n)])):=jD;generalize upd H a (.frz o (.dK [((.inl M:Key),V.int n)]))=H1 at b1 e1;refine zU (HtI K H1 a M n) (.mk (Same.refl _) (BM (hna H1))) (λi σ H2 _ h=>?_) (λi k x p σ H2 hx hp h=>?_) (fun σ H2 h=>?_)
  ·obtain⟨s2,_⟩:=h;exact s2 _ _ e1
  ·obtain⟨s2,hn⟩:=h
   match i,hx,hn with
   | 0,hx,hn=>
    cases hx;have s3:Same H2 (upd H2 p (.tup [kV (.inl M),.int n])):=jN _ hp;have e3:(upd H2 p (.tup [kV (.inl M),.int n])) p=some (.tup [kV (.inl M),.int n]):=jD;generalize upd H2 p (.tup [kV (.inl M),.int n])=H3 at s3 e3;refine gT2 (SqT.of e3) rfl ?_;obtain⟨pt,rfl,qt⟩:=hn.same s3;have hM:((M:Int):Rat)≠0:=λz=>by
     have:M=0:=Rat.intCast_inj.mp (by rw[z];rfl);omega
    refine⟨_,rfl,_,rfl,gD,λz1 H4 n4 s4 e4=>⟨_,rfl,gD,λy1 H5 n5 s5 e5=>?_⟩⟩;refine⟨z1,y1,_,_,_,_,rfl,FN (SqT.of (s5 _ _ e4)),FN (SqT.of e5),(HS (jQ nb (by decide)) (by decide)).fr gA,(HS (jQ Mb (by decide)) (by decide)).fr gA,LS hM,λr6 H6 n6 s6 e6=>?_⟩;have e6:=divAt hM e6;have sz6:=ZJ M0 Mb nb;refine⟨pt,r6,_,_,_,_,rfl,kU (s4.trans (s5.trans s6)) qt,SqT.of e6,(MR 7899).fr gA,sz6.fr gA,λr7 H7 n7 s7 e7=>?_⟩;have e7:=LA e7;refine .mk (s2.trans (s3.trans (s4.trans (s5.trans (s6.trans s7))))) ?_;rw[nZ (by omega)];have:=NumK.of (K:=K) e7;rw[tD rfl,Rat.zero_add]at this;exact this
   | i+1,hx,_=>simp at hx
  ·obtain⟨s2,hn⟩:=h;exact⟨_,rfl,go _ H2 (λc u h n=>s2 _ _ (b1 c u h n)) hn⟩
def AM(e1:Int×Rat)(A:Tb)(e2:Int×Rat):Tb:=xM A (e1.1+e2.1) (tv A (e1.1+e2.1)+e1.2*e2.2)
def UY(T2:Tb)(A:Tb)(e1:Int×Rat):Tb:=T2.foldl (AM e1) A
def uS(T1 T2:Tb):Tb:=T1.foldl (UY T2) []
theorem zV{α β:Type}{f:β->α->β}{l:List α}{i:Nat}{x:α}{b:β}(h:l[i]? = some x):(l.take (i+1)).foldl f b=f ((l.take i).foldl f b) x:=by
 rw[mE,h,mH]
 rfl
theorem CG{α β γ:Type}{F:α->β->Prop}{G:α->γ->Prop}{g:β->γ} :∀{l1:List α} {l2:List β},Paired F l1 l2->(∀(i:Nat) (a:α) (b:β),l1[i]? = some a->l2[i]? = some b->F a b->G a (g b))->Paired G l1 (l2.map g)
 | _,_,.nil,_=>.nil
 | _,_,.cons h t,k=>.cons (k 0 _ _ rfl rfl h) (CG t λi a b h1 h2=>k (i+1) a b h1 h2)
def EntH(M:Int)(B:Nat)(Hs H:Hp)(hd:Addr)(kv:Key×V)(e:Int×Rat):Prop:=kv.1=.inl e.1/\∃(c:Addr) (n:Int),kv.2=.ref c/\Hs c=none/\c≠hd/\H c=some (.dK [(.inl M,.int n)])/\((n:Int):Rat)=e.2*(M:Rat)/\n.natAbs<=B*2^7600
theorem EntH.go{M:Int}{B B':Nat}{Hs H H':Hp}{hd:Addr}{kv:Key×V}{e:Int×Rat}(h:EntH M B Hs H hd kv e)(k:∀c,kv.2=.ref c->Hs c=none->c≠hd->∀o,H c=some o->H' c=some o)(hB:B<=B'):EntH M B' Hs H' hd kv e:=by
 obtain⟨h1,c,n,h2,h3,h4,h5,h6,h7⟩:=h;exact⟨h1,c,n,h2,h3,h4,k c h2 h3 h4 _ h5,h6,nL h7 (Nat.mul_le_mul_right _ hB)⟩
structure HpI(M:Int)(B:Nat)(Hs H:Hp)(hd:Addr)(hs:List (Key×V))(A:Tb):Prop where
 e:H hd=some (.dK hs)
 pr:Paired (EntH M B Hs H hd) hs A
 nd:(hs.map (·.2)).Nodup
 ndA:(A.map (·.1)).Nodup
 ln:A.length<=B
theorem HpI.go{M:Int}{B:Nat}{Hs H H':Hp}{hd:Addr}{hs:List (Key×V)}{A:Tb}(I:HpI M B Hs H hd hs A)(e:H' hd=some (.dK hs))(k:∀c,Hs c=none->c≠hd->∀o,H c=some o->H' c=some o):HpI M B Hs H' hd hs A:=⟨e,Paired.to (λ_ _ h=>h.go (λc _ h1 h2=>k c h1 h2) gA) I.pr,I.nd,I.ndA,I.ln⟩
theorem CU{M:Int}{B:Nat}{Hs H:Hp}{hd:Addr}{k:Int} :∀{hs:List (Key×V)} {A:Tb},Paired (EntH M B Hs H hd) hs A->(∃(i:Nat) (c:Addr) (n:Int),hs[i]? = some (.inl k,.ref c)/\A[i]? = some (k,tv A k)/\kS hs (.inl k:Key)=some (.ref c)/\Hs c=none/\c≠hd/\H c=some (.dK [(.inl M,.int n)])/\((n:Int):Rat)=tv A k*(M:Rat)/\n.natAbs<=B*2^7600)∨(kS hs (.inl k:Key)=none/\k∉A.map (·.1)/\∀p∈hs,p.1≠(.inl k:Key))
 | [],[],.nil=>.inr ⟨rfl,by simp,λ_ h=>nomatch h⟩
 | kv::hs,e::A,.cons h t=>by
  rw[kX];by_cases q:e.1=k
  ·obtain⟨h1,c,n,h2,h3,h4,h5,h6,h7⟩:=h;obtain⟨k1,v1⟩:=kv;obtain⟨e1,x1⟩:=e;have h1:k1=.inl e1:=h1;have h2:v1=.ref c:=h2;have q:e1=k:=q;subst h1 h2 q;rw[tD rfl,qB rfl];exact .inl ⟨0,c,n,rfl,rfl,rfl,h3,h4,h5,h6,h7⟩
  ·have n:kv.1≠(.inl k:Key):=λz=>q (by rw[h.1]at z;exact Sum.inl.inj z);have e1:kS (kv::hs) (.inl k:Key)=kS hs (.inl k:Key):=by unfold kS;rw[List.find?_cons,mU n]
   rw[nZ q,e1];rcases CU t with⟨i,c,m,z1,z2,z3⟩ | ⟨z1,z2,z3⟩
   ·exact .inl ⟨i+1,c,m,z1,z2,z3⟩
   ·exact .inr ⟨z1,λz=>by rcases nF.mp z with z | z;exact q z.symm;exact z2 z,λp hp=>by rcases nF.mp hp with rfl | hp;exact n;exact z3 p hp⟩
theorem ZH{M n:Int} :kS [((.inl M:Key),V.int n)] (.inl M)=some (.int n):=qB rfl
theorem XR{M n m:Int} :qE [((.inl M:Key),V.int n)] (.inl M) (.int m)=[(.inl M,.int m)]:=by
 unfold qE;simp
theorem XS{M m:Int} :qE ([]:List (Key×V)) (.inl M) (.int m)=[(.inl M,.int m)]:=rfl
theorem HpI.there{M:Int}{B:Nat}{Hs H4:Hp}{hd c:Addr}{hs:List (Key×V)}{A:Tb}{k n m:Int}{y:Rat}{i:Nat}(I:HpI M B Hs H4 hd hs A)(hi:hs[i]? = some (.inl k,.ref c))(ai:A[i]? = some (k,tv A k))(fc:Hs c=none)(ch:c≠hd)(en:((n:Int):Rat)=tv A k*(M:Rat))(bn:n.natAbs<=B*2^7600)(em:((m:Int):Rat)=y*(M:Rat))(bm:m.natAbs<=2^7600):HpI M (B+1) Hs (upd H4 c (.dK [(.inl M,.int (n+m))])) hd hs (xM A k (tv A k+y)):=by
 have km:k∈A.map (·.1):=by
  have:=List.mem_map_of_mem (f:=(·.1)) (gQ ai);exact this
 have pq:xM A k (tv A k+y)=A.map λe=>if e.1=k then(e.1,tv A k+y)else e:=by unfold xM;rw[tD (any_key.mpr km)]
 refine⟨by rw[jH (Ne.symm ch)];exact I.e, ?_,I.nd,zP I.ndA, ?_⟩
 ·rw[pq];refine CG I.pr λj a b ha hb h=>?_;by_cases q:b.1=k
  ·have j1:(A.map (·.1))[j]? = some k:=by rw[mC,hb];exact congrArg some q
   have j2:(A.map (·.1))[i]? = some k:=by rw[mC,ai];rfl
   have ij:j=i:=(List.getElem?_inj (gG.mp j1).1 I.ndA).mp (j1.trans j2.symm);subst ij;rw[hi]at ha;cases ha;rw[tD q];refine⟨by rw[q],c,n+m,rfl,fc,ch,jD, ?_, ?_⟩
   ·show((n+m:Int):Rat)=(tv A k+y)*(M:Rat);rw[Rat.intCast_add,en,em]
    grind
   ·have:=Int.natAbs_add_le n m;rw[Nat.add_mul,Nat.one_mul];omega
  ·rw[nZ q];refine h.go (λc' hc' _ _ o ho=>?_) (Nat.le_succ _);have:c'≠c:=λz=>by
    subst z;have j1:(hs.map (·.2))[j]? = some (.ref c'):=by rw[mC,ha];exact congrArg some hc'
    have j2:(hs.map (·.2))[i]? = some (.ref c'):=by rw[mC,hi];rfl
    have ij:j=i:=(List.getElem?_inj (gG.mp j1).1 I.nd).mp (j1.trans j2.symm);subst ij;rw[ai]at hb;cases hb;exact q rfl
   rw[jH this];exact ho
 ·have:=congrArg List.length pq;rw[mS]at this;rw[this];exact nL I.ln (Nat.le_succ _)
theorem HpI.new{M:Int}{B:Nat}{Hs H4:Hp}{hd z:Addr}{hs:List (Key×V)}{A:Tb}{k m:Int}{y:Rat}(I:HpI M B Hs H4 hd hs A)(nk:k∉A.map (·.1))(fz:Hs z=none)(zh:z≠hd)(nz:∀p∈hs,p.2≠.ref z)(em:((m:Int):Rat)=y*(M:Rat))(bm:m.natAbs<=2^7600):HpI M (B+1) Hs (upd (upd H4 hd (.dK (hs++[(.inl k,.ref z)]))) z (.dK [(.inl M,.int m)])) hd (hs++[(.inl k,.ref z)]) (xM A k (tv A k+y)):=by
 rw[yA nk,wC nk,Rat.zero_add];refine⟨by rw[jH (Ne.symm zh)];exact jD,Paired.app ?_ (.cons ⟨rfl,z,m,rfl,fz,zh,jD,em, ?_⟩ .nil), ?_, ?_, ?_⟩
 ·have go:∀{l1:List (Key×V)} {l2:Tb},(∀p∈l1,p∈hs)->Paired (EntH M B Hs H4 hd) l1 l2->Paired (EntH M (B+1) Hs (upd (upd H4 hd (.dK (hs++[(.inl k,.ref z)]))) z (.dK [(.inl M,.int m)])) hd) l1 l2:=by
   intro l1 l2 sub h;induction h with
   | nil=>exact .nil
   | @cons a b _ _ h _ ih=>
    refine .cons (h.go (λc hc _ _ o ho=>?_) (Nat.le_succ _)) (ih λp hp=>sub p (gR _ hp));obtain⟨_,c',_,q1,_,q2,_⟩:=h;rw[hc]at q1;cases q1;rw[jH (λy=>nz a (sub a (hW ..)) (by rw[hc,y])),jH q2];exact ho
  exact go (λ_ h=>h) I.pr
 ·rw[Nat.add_mul,Nat.one_mul];omega
 ·rw[mT,List.nodup_append];refine⟨I.nd,by simp,λa ha b hb=>?_⟩;rw[nE,List.map_nil,hU]at hb;obtain⟨p,hp,rfl⟩:=nN.mp ha;rw[hb];exact nz p hp
 ·rw[mT,List.nodup_append];refine⟨I.ndA,by simp,λa ha b hb=>?_⟩;rw[nE,List.map_nil,hU]at hb;rintro rfl;rw[hb]at ha;exact nk ha
 ·rw[gY];exact Nat.add_le_add_right I.ln 1
def BV(K:tF):Sp:=λvs H Q _=>∃(a b:Addr) (k1 k2:List (Key×V)) (T1 T2:Tb) (D1 D2:Int),vs=[.ref a,.ref b]/\a≠b/\Rd H a (.dK k1)/\Rd H b (.dK k2)/\Paired (EntQ K H) k1 T1/\Paired (EntQ K H) k2 T2/\(T1.map (·.1)).Nodup/\(T2.map (·.1)).Nodup/\T1.length<=60/\T2.length<=60/\T1.length*T2.length<=1000/\0<D1/\D1.natAbs<2^1400/\0<D2/\D2.natAbs<2^1400/\(∀e∈T1,(e.2.den:Int)∣D1)/\(∀e∈T2,(e.2.den:Int)∣D2)/\(∀e∈T1,e.2.num.natAbs<2^2400)/\(∀e∈T2,e.2.num.natAbs<2^2400)/\(∀e∈T1,e.1.natAbs<2^40)/\(∀e∈T2,e.1.natAbs<2^40)/\
 ∀(d:Addr) (ks:List (Key×V)) (H':Hp),H d=none->(∀c u,H c=some u->c≠a->c≠b->H' c=some u)->Rd H' b (.dK k2)->H' d=some (.dK ks)->Paired (EntQ K H') ks (uS T1 T2)->Q (.ref d) H'
theorem UX{T1 T2:Tb}{e1 e2:Int×Rat}(h1:e1∈T1)(h2:e2∈T2):(((e1.2.num*(kM T1/(e1.2.den:Int)))*(e2.2.num*(kM T2/(e2.2.den:Int))):Int):Rat)=(e1.2*e2.2)*((kM T1*kM T2:Int):Rat):=by
 have a:=VA (List.mem_map_of_mem (f:=(·.2)) h1);have b:=VA (List.mem_map_of_mem (f:=(·.2)) h2);unfold kM;rw[mW,a,b,mW]
 grind
def B2(d1 d2:Addr)(H H':Hp):Prop:=∀c u,H c=some u->c≠d1->c≠d2->H' c=some u
theorem B2.tup{d1 d2 c:Addr}{H H':Hp}{xs:List V}{j1 j2:List (Key×V)}(b:B2 d1 d2 H H')(e1:H d1=some (.dK j1))(e2:H d2=some (.dK j2))(h:H c=some (.tup xs)):H' c=some (.tup xs):=b c _ h (λz=>by rw[z,e1]at h;cases h) (λz=>by rw[z,e2]at h;cases h)
theorem EntR.but{C:Int}{H H':Hp}{p:Addr}{ag:List (Key×V)}{kv:Key×V}{x:Int×Rat}(h:EntR C H kv x)(e:Rd H p (.dK ag))(b:But p H H'):EntR C H' kv x:=by
 obtain⟨h1,c,h2,h3⟩:=h;refine⟨h1,c,h2,b _ _ h3 λz=>?_⟩;rw[z]at h3;rcases e with e | ⟨o,e⟩<;>rw[e]at h3<;>cases h3
structure FnI(K:tF)(M:Int)(B:Nat)(H H2:Hp)(a b d hd:Addr)(oh:Obj)(hs:List (Key×V))(A:Tb)(i:Nat)(ys:List (Key×V))(H':Hp):Prop where
 s:∀c u,H2 c=some u->c≠a->c≠b->H' c=some u
 f:H' hd=some (.frz oh (.dK hs))
 e:H' d=some (.dK ys)
 later:∀(j:Nat) (kv:Key×V) (x:Int×Rat),i<=j->hs[j]? = some kv->A[j]? = some x->EntH M B H2 H' hd kv x
 pr:Paired (EntQ K H') ys (A.take i)
theorem CI{α β:Type}{F:α->β->Prop}{l1:List α}{l2:List β}(h:Paired F l1 l2){i:Nat}{a:α}{b:β}(h1:l1[i]? = some a)(h2:l2[i]? = some b):F a b:=by
 obtain⟨y,hy,k⟩:=Paired.at h h1;rw[h2]at hy;cases hy;exact k
inductive M1I(H2:Hp)(a b d1 d2 hd:Addr)(o1:Obj)(j1 j2:List (Key×V))(M:Int)(T1 T2:Tb)(i:Nat):L2.St->Hp->Prop where
 | mk {u5 u6 u7 u8 u9 u10 u11 u12:Option V} {H':Hp} {hs:List (Key×V)} (s:B2 d1 d2 H2 H') (f1:H' d1=some (.frz o1 (.dK j1))) (r2:Rd H' d2 (.dK j2)) (I:HpI M (i*T2.length) H2 H' hd hs ((T1.take i).foldl (UY T2) [])):M1I H2 a b d1 d2 hd o1 j1 j2 M T1 T2 i [some (.ref a),some (.ref b),some (.ref d1),some (.ref d2),some (.ref hd),u5,u6,u7,u8,u9,u10,u11,u12] H'
inductive M2I(H2:Hp)(a b d1 d2 hd:Addr)(o1 o2:Obj)(j1 j2:List (Key×V))(M:Int)(i:Nat)(A:Tb)(T2:Tb)(e1:Int×Rat)(t1 C1:Int)(j:Nat):L2.St->Hp->Prop where
 | mk {u8 u9 u10 u11 u12:Option V} {H':Hp} {hs:List (Key×V)} (s:B2 d1 d2 H2 H') (f1:H' d1=some (.frz o1 (.dK j1))) (f2:H' d2=some (.frz o2 (.dK j2))) (I:HpI M (i*T2.length+j) H2 H' hd hs ((T2.take j).foldl (AM e1) A)):M2I H2 a b d1 d2 hd o1 o2 j1 j2 M i A T2 e1 t1 C1 j [some (.ref a),some (.ref b),some (.ref d1),some (.ref d2),some (.ref hd),some (.int e1.1),some (.int t1),some (.int C1),u8,u9,u10,u11,u12] H'
theorem scTm:FnScope ["one","other","first","second","heaps","key","top","bottom","more","over","under","heap","product"] ["one","other"] (jL wQ):=⟨rfl,rfl,rfl,by decide +kernel,rfl,by decide +kernel,by decide +kernel⟩
theorem QA{fL fH:Addr}{fdL fdH:FuncData}(F:Fun K "tables_multiplied" "tables_multiplied" wQ f fd)(DL:Df K mg "levelled" NF ["table"] fL fdL)(GL:FnOk P w K mg base CX0 4 fL fdL ["table"] (spLev K))(DH:Df K mg "heap_total" GK ["heap"] fH fdH)(GH:FnOk P w K mg base CX0 4 fH fdH ["heap"] (SL K)):FnOk P w K mg base CX0 5 f fd ["one","other"] (BV K):=by
 refine F.ok scTm (λvs H Q E h=>?_) (λcdv A outer s H vs Q E hr h=>?_)
 ·obtain⟨a,b,k1,k2,T1,T2,D1,D2,rfl,_⟩:=h
  rfl
 ·obtain⟨a,b,k1,k2,T1,T2,D1,D2,rfl,ab,ra,rb,p1,p2,nd1,nd2,l1,l2,l12,D10,D1b,D20,D2b,v1,v2,b1,b2,y1,y2,go⟩:=h;have hu:_+1<cLine:=gX (Nat.add_le_add_left (by decide:1<=64) _) hr.units;refine⟨_,jC (jP (i:=2) scTm.nd rfl (Or.inl rfl) (jI GL hr rfl DL.m DL.F.kp DL.b .nil jM (jA (pv 0) jB))) (jC (jP (i:=3) scTm.nd rfl (Or.inl rfl) (jI GL hr rfl DL.m DL.F.kp DL.b .nil jM (jA (pv 1) jB))) (jC (jP (i:=4) scTm.nd rfl (Or.inl rfl) (zA)) (jC (qF PassesOwn.never rfl (xG (BD (pv 2))) (kD rfl (jG (jF (i:=5) scTm.nd rfl (Or.inl rfl)) (jG (kD rfl (jG (jF (i:=6) scTm.nd rfl (Or.inl rfl)) (jG (jF (i:=7) scTm.nd rfl (Or.inl rfl)) jR))) jR))) (jE (qF PassesOwn.never rfl (xG (BD (pv 3))) (kD rfl (jG (jF (i:=8) scTm.nd rfl (Or.inl rfl)) (jG (kD rfl (jG (jF (i:=9) scTm.nd rfl (Or.inl rfl)) (jG (jF (i:=10) scTm.nd rfl (Or.inl rfl)) jR))) jR))) (jC (jP (i:=11) scTm.nd rfl (Or.inl rfl) (JB (pv 4) (jW vJ (pv 5) (pv 8)) zA ⟨rfl,rfl,rfl,rfl⟩)) (jC (jP (i:=12) scTm.nd rfl (Or.inl rfl) (jW kZ (pv 7) (pv 10))) (jE (HA hu (pv 11) (pv 12) (jW vJ (JC hu (pv 11) (pv 12) jJ ⟨rfl,rfl,rfl,rfl⟩) (jW kZ (pv 6) (pv 9))) rfl))))))) (jE (jO (uQ (own:=2) (idx:=[]) (N:=["key","heap"]) rfl rfl rfl (by decide +kernel) (by decide +kernel) (λ_ _ h=>nomatch h) (qH rfl) rfl (λ_ _ _ h=>nomatch h) (xG (BD (pv 4))) (λC fp s2 H2=>show PG (jK _ ["key","heap"] _ _ C fp s2 H2) _ (wZ K 2 (qI (jX 0) (qI (jX 1) gNil)))from kD (X:=jK _ ["key","heap"] _ _ C fp s2 H2) rfl (jG (jF (i:=0) (show List.Nodup (["key","heap"]:List Str) by decide +kernel) rfl (Or.inl rfl) (Or.inr rfl)) (jG (jF (i:=1) (show List.Nodup (["key","heap"]:List Str) by decide +kernel) rfl (Or.inl rfl) (Or.inr rfl)) jR))) (λC fp s2 H2=>pv 0) (λC fp s2 H2=>jI GH hr rfl DH.m DH.F.kp DH.b .nil jM (jA (pv 1) jB)))))))), ?_⟩
  try dsimp only[cxK]
  have rne:∀{c:Addr} {kk:List (Key×V)},Rd H c (.dK kk)->∀{d:Addr},H d=none->d≠c:=fun {c kk} r {d} n z=>by
   rw[z]at n;rcases r with r | ⟨o,r⟩<;>rw[r]at n<;>cases n
  refine⟨_,rfl,a,k1,T1,D1,rfl,ra,p1,nd1,by omega,D10,D1b,v1,λe he=>jQ (b1 e he) (by decide),λd1 j1 H1 n1 t1 ⟨oa,fa⟩ e1 r1=>?_⟩;have rb1:Rd H1 b (.dK k2):=by
   rcases rb with r | ⟨o,r⟩
   ·exact .inl (t1 _ _ r (Ne.symm ab))
   ·exact .inr ⟨o,t1 _ _ r (Ne.symm ab)⟩
  have d1b:d1≠b:=rne rb n1;refine⟨_,rfl,b,k2,T2,D2,rfl,rb1,Paired.to (λ_ _ h=>h.but ra t1) p2,nd2,by omega,D20,D2b,v2,λe he=>jQ (b2 e he) (by decide),λd2 j2 H2 n2 t2 ⟨ob,fb⟩ e2 r2=>?_⟩;have d21:d2≠d1:=λz=>by rw[z,e1]at n2;cases n2
  have e1:H2 d1=some (.dK j1):=t2 _ _ e1 d1b;have r1:Paired (EntR (kM T1) H2) j1 T1:=Paired.to (λ_ _ h=>h.but rb1 t2) r1;have s02:∀c u,H c=some u->c≠a->c≠b->H2 c=some u:=λc u h na nb=>t2 _ _ (t1 _ _ h na) nb;have fr2:∀c,H2 c=none->H c=none:=λc n=>by
   cases q:H c with
   | none=>rfl
   | some u=>
    by_cases ca:c=a
    ·rw[ca,t2 _ _ fa ab]at n;cases n
    ·by_cases cb:c=b
     ·rw[cb,fb]at n;cases n
     ·rw[s02 c u q ca cb]at n;cases n
  have L1:j1.length=T1.length:=Paired.length r1;have L2':j2.length=T2.length:=Paired.length r2;have c1:0<kM T1/\(kM T1).natAbs<2^1400:=⟨HL _,gX (uD (MF v1) D10) D1b⟩;have c2:0<kM T2/\(kM T2).natAbs<2^1400:=⟨HL _,gX (uD (MF v2) D20) D2b⟩;have tb:∀{T:Tb} {e:Int×Rat},e∈T->0<kM T->(kM T).natAbs<2^1400->e.2.num.natAbs<2^2400->(e.2.num*(kM T/(e.2.den:Int))).natAbs<2^3800:=fun {T e} he h0 h1 h2=>by
   have dp:=e.2.den_pos;have q:=gX (LwM.uC (kM T) (e.2.den:Int) (by omega)) h1;exact uK (m:=2400) (n:=1400) h2 q
  intro hd nhd;have hd1:d1≠hd:=λz=>by rw[z,nhd]at e1;cases e1
  have hd2:d2≠hd:=λz=>by rw[z,nhd]at e2;cases e2
  refine⟨_,rfl,d1,j1,rfl,.inl (by rw[jH hd1];exact e1),λo1 H4 f1 b4 fr4=>⟨d1,o1,j1,rfl,f1, ?_⟩⟩;have h4:H4 hd=some (.dK []):=b4 _ _ jD (Ne.symm hd1);have s4:B2 d1 d2 H2 H4:=λc u h n1 n2=>b4 c u (by rw[jH (kG h nhd)];exact h) n1;have r24:Rd H4 d2 (.dK j2):=.inl (b4 _ _ (by rw[jH hd2];exact e2) d21);refine zU (M1I H2 a b d1 d2 hd o1 j1 j2 (kM T1*kM T2) T1 T2) (.mk (hs:=[]) s4 f1 r24 ⟨h4,.nil,nB,nB,nR _⟩) (λi σ H5 _ h=>?_) (λi k x p σ H5 hx hp h=>?_) (fun σ H5 h=>?_)
  ·obtain⟨_,f1,_,_⟩:=h;exact f1
  ·obtain⟨s5,f5,r5,I5⟩:=h;obtain⟨e,he,hk,c,hc,ec⟩:=Paired.at r1 hx;have hk:k=.inl e.1:=hk;have hc:x=.ref c:=hc;subst hk hc;have em:=gQ he;have il:i<T1.length:=(gG.mp he).1;have s6:Same H5 (upd H5 p (.tup [kV (.inl e.1),.ref c])):=jN _ hp;have e6:(upd H5 p (.tup [kV (.inl e.1),.ref c])) p=some (.tup [kV (.inl e.1),.ref c]):=jD;generalize upd H5 p (.tup [kV (.inl e.1),.ref c])=H6 at s6 e6;refine⟨p,_,rfl,SqT.of e6,rfl,_,_,rfl,_,_,rfl,c,_,rfl,SqT.of (s6 _ _ (s5.tup e1 e2 ec)),rfl,_,_,rfl,_,_,rfl,rfl,rfl, ?_⟩;refine⟨_,rfl,d2,j2,rfl,GY r5 s6,λo2 H7 f7 b7 fr7=>⟨d2,o2,j2,rfl,f7, ?_⟩⟩;have s7:B2 d1 d2 H2 H7:=λc u h n1 n2=>b7 _ _ (s6 _ _ (s5 c u h n1 n2)) n2;have f17:=b7 _ _ (s6 _ _ f5) (Ne.symm d21);have h57:∀{c:Addr} {kk:List (Key×V)},c≠d2->H5 c=some (.dK kk)->H7 c=some (.dK kk):=λn h=>b7 _ _ (s6 _ _ h) n;rename_i u5 u6 u7 u8 u9 u10 u11 u12 hs;have I7:HpI (kM T1*kM T2) (i*T2.length+0) H2 H7 hd hs ((T1.take i).foldl (UY T2) []):=I5.go (h57 (Ne.symm hd2) I5.e) λc n _ o ho=>b7 _ _ (s6 _ _ ho) (λz=>by rw[z,e2]at n;cases n);have tb1:=tb em c1.1 c1.2 (b1 e em);generalize ht1:e.2.num*(kM T1/(e.2.den:Int))=t1 at tb1;generalize hA:(T1.take i).foldl (UY T2) []=AA at I7;refine zU (M2I H2 a b d1 d2 hd o1 o2 j1 j2 (kM T1*kM T2) i AA T2 e t1 (kM T1)) (.mk s7 f17 f7 I7) (λj σ H8 _ h=>?_) (λj k' x' p' σ H8 hx' hp' h=>?_) (fun σ H8 h=>?_)
   ·obtain⟨_,_,f8,_⟩:=h;exact f8
   ·obtain⟨s8,f8,g8,I8⟩:=h;rename_i w8 w9 w10 w11 w12 hs';obtain⟨e',he',hk',c',hc',ec'⟩:=Paired.at r2 hx';have hk':k'=.inl e'.1:=hk';have hc':x'=.ref c':=hc';subst hk' hc';have em':=gQ he';have jl:j<T2.length:=(gG.mp he').1;have s9:Same H8 (upd H8 p' (.tup [kV (.inl e'.1),.ref c'])):=jN _ hp';have e9:(upd H8 p' (.tup [kV (.inl e'.1),.ref c'])) p'=some (.tup [kV (.inl e'.1),.ref c']):=jD;generalize upd H8 p' (.tup [kV (.inl e'.1),.ref c'])=H9 at s9 e9;refine⟨p',_,rfl,SqT.of e9,rfl,_,_,rfl,_,_,rfl,c',_,rfl,SqT.of (s9 _ _ (s8.tup e1 e2 ec')),rfl,_,_,rfl,_,_,rfl,rfl,rfl, ?_⟩;have tb2:=tb em' c2.1 c2.2 (b2 e' em');have mo:=UX em em';rw[ht1]at mo;generalize e'.2.num*(kM T2/(e'.2.den:Int))=t2 at tb2 mo;have bm:(t1*t2).natAbs<=2^7600:=Nat.le_of_lt (uK (m:=3800) (n:=3800) tb1 tb2);have st:(T2.take (j+1)).foldl (AM e) AA=xM ((T2.take j).foldl (AM e) AA) (e.1+e'.1) (tv ((T2.take j).foldl (AM e) AA) (e.1+e'.1)+e.2*e'.2):=zV he';have cnt:i*T2.length+j<1000:=by
     have:i*T2.length+T2.length<=T1.length*T2.length:=by
      rw[<-Nat.succ_mul];exact Nat.mul_le_mul_right _ il
     omega
    refine⟨_,rfl,hd,rfl,.inl ⟨_,.inl (s9 _ _ I8.e)⟩,_,rfl,_,rfl,_,_,rfl,rfl,λz nz=>?_⟩;have s10:Same H9 (upd H9 z (.dK [])):=jN _ nz;have e10:(upd H9 z (.dK [])) z=some (.dK []):=jD;generalize upd H9 z (.dK [])=H10 at s10 e10;have I10:=I8.go ((s9.trans s10) _ _ I8.e) λc _ _ o ho=>(s9.trans s10) _ _ ho;have lh:hs'.length=((T2.take j).foldl (AM e) AA).length:=Paired.length I10.pr;have ll:=I10.ln;have f10:=(s9.trans s10) _ _ f8;have g10:=(s9.trans s10) _ _ g8;have b10:B2 d1 d2 H2 H10:=λc u h n1 n2=>(s9.trans s10) _ _ (s8 c u h n1 n2);refine⟨hs',.inl (e.1+e'.1),I10.e,rfl,by rw[lh,sizeLine_eq];omega,λv hv=>?_,λhn=>?_⟩
    ·rcases CU (k:=e.1+e'.1) I10.pr with⟨ii,c,n,hi,ai,hvv,fc,ch,hcn,en,bn⟩ | ⟨hvv,_⟩
     ·rw[hvv]at hv;cases hv;dsimp only[jX];refine⟨_,rfl,_,rfl,_,_,rfl,rfl,⟨jQ c1.2 (by decide),jQ c2.2 (by decide)⟩, ?_⟩;refine⟨_,rfl,c,rfl,.inl ⟨_,.inl hcn⟩,_,rfl,_,DGet.k (k:=.inl (kM T1*kM T2)) hcn, ?_⟩;rw[ZH];refine⟨_,rfl,_,rfl,_,_,rfl,rfl,⟨jQ tb1 (by decide),jQ tb2 (by decide)⟩,_,_,rfl,rfl,_,rfl,_,rfl,c,_,rfl,DPut.k (k:=.inl (kM T1*kM T2)) hcn (by show 1<sizeLine;decide), ?_⟩;rw[XR];have cd:∀{d:Addr} {o:HO},H2 d=some o->c≠d:=λh z=>by rw[z,h]at fc;cases fc
      refine .mk (hs:=hs') (λx u h n1 n2=>by rw[jH (Ne.symm (cd h))];exact b10 x u h n1 n2) (by rw[jH (Ne.symm (cd e1))];exact f10) (by rw[jH (Ne.symm (cd e2))];exact g10) ?_;rw[st];exact I10.there hi ai fc ch en bn mo bm
     ·rw[hvv]at hv;cases hv
    ·rcases CU (k:=e.1+e'.1) I10.pr with⟨ii,c,n,hi,ai,hvv,_⟩ | ⟨hvv,nk,out⟩
     ·rw[hvv]at hn;cases hn
     ·rw[IW out];have zh:z≠hd:=λy=>by rw[y,s9 _ _ I8.e]at nz;cases nz
      have fz:H2 z=none:=by
       cases q:H2 z with
       | none=>rfl
       | some u=>
        by_cases y1:z=d1
        ·rw[y1,s9 _ _ f8]at nz;cases nz
        ·by_cases y2:z=d2
         ·rw[y2,s9 _ _ g8]at nz;cases nz
         ·rw[s9 _ _ (s8 z u q y1 y2)]at nz;cases nz
      have nzs:∀p∈hs',p.2≠.ref z:=λp hp y=>by
       obtain⟨ix,hix⟩:=gP.mp hp;obtain⟨ee,_,_,cc,nn,q1,_,_,q2,_⟩:=Paired.at I8.pr hix;rw[y]at q1;cases q1;rw[s9 _ _ q2]at nz;cases nz
      have ez:(upd H10 hd (.dK (hs'++[(.inl (e.1+e'.1),.ref z)]))) z=some (.dK []):=by rw[jH zh];exact e10
      dsimp only[jX];refine⟨_,rfl,_,rfl,_,_,rfl,rfl,⟨jQ c1.2 (by decide),jQ c2.2 (by decide)⟩, ?_⟩;refine⟨_,rfl,z,rfl,.inl ⟨_,.inl ez⟩,_,rfl,_,DGet.k (k:=.inl (kM T1*kM T2)) ez, ?_⟩;refine⟨_,rfl,_,rfl,_,_,rfl,rfl,⟨jQ tb1 (by decide),jQ tb2 (by decide)⟩,_,_,rfl,rfl,_,rfl,_,rfl,z,_,rfl,DPut.k (k:=.inl (kM T1*kM T2)) ez (by show 0<sizeLine;decide), ?_⟩;rw[XS,Int.zero_add];have cd:∀{d:Addr} {o:HO},H2 d=some o->d≠z/\d≠hd:=λh=>⟨(λy=>by rw[y,fz]at h;cases h),(λy=>by rw[y,nhd]at h;cases h)⟩;refine .mk (hs:=hs'++[(.inl (e.1+e'.1),.ref z)]) (λx u h n1 n2=>by rw[jH (cd h).1,jH (cd h).2];exact b10 x u h n1 n2) (by rw[jH (cd e1).1,jH (cd e1).2];exact f10) (by rw[jH (cd e2).1,jH (cd e2).2];exact g10) ?_;rw[st];exact I10.new nk fz zh nzs mo bm
   ·obtain⟨s8,f8,g8,I8⟩:=h;rename_i hs';rw[L2',mN,<-Nat.succ_mul]at I8;refine .mk (hs:=hs') s8 f8 (.inr ⟨o2,g8⟩) ?_;rw[zV he,hA];exact I8
  ·obtain⟨s5,f5,r5,I5⟩:=h;rw[L1,mN]at I5;rename_i u5 u6 u7 u8 u9 u10 u11 u12 hs;have I5:HpI (kM T1*kM T2) (T1.length*T2.length) H2 H5 hd hs (uS T1 T2):=I5;generalize hA:uS T1 T2=A at I5 go;have lA:hs.length=A.length:=Paired.length I5.pr;have ll:=I5.ln;have M0:0<kM T1*kM T2:=nS c1.1 c2.1;have Mb:(kM T1*kM T2).natAbs<2^7800:=jQ (uK c1.2 c2.2) (by decide);have fr5:∀c,H5 c=none->H2 c=none:=λc n=>by
    cases q:H2 c with
    | none=>rfl
    | some u=>
     by_cases y1:c=d1
     ·rw[y1,f5]at n;cases n
     ·by_cases y2:c=d2
      ·rw[y2]at n;rcases r5 with r | ⟨o,r⟩<;>rw[r]at n<;>cases n
      ·rw[s5 c u q y1 y2]at n;cases n
   refine⟨_,rfl,hd,hs,rfl,.inl I5.e,λoh H6 f6 b6 fr6=>⟨hd,oh,hs,rfl,f6,λd H7 n7 s7 e7=>?_⟩⟩;have pr6:Paired (EntH (kM T1*kM T2) (T1.length*T2.length) H2 H6 hd) hs A:=Paired.to (λ_ _ h=>h.go (λc _ _ ch o ho=>b6 _ _ ho ch) gA) I5.pr;have d2n:H2 d=none:=fr5 d (fr6 d n7);have dn:H d=none:=fr2 d d2n;have s26:∀c u,H2 c=some u->c≠d1->c≠d2->H6 c=some u:=λc u h y1 y2=>b6 _ _ (s5 c u h y1 y2) (λz=>by rw[z,nhd]at h;cases h);have nd2':H d2=none:=by
    cases q:H d2 with
    | none=>rfl
    | some u=>
     by_cases y1:d2=a
     ·rw[y1,fa]at n2;cases n2
     ·rw[t1 _ _ q y1]at n2;cases n2
   have dhd:hd≠d:=λz=>by rw[<-z,f6]at n7;cases n7
   refine yP (FnI K (kM T1*kM T2) (T1.length*T2.length) H H2 d1 d2 d hd oh hs A) (by rw[lA,sizeLine_eq];omega) ⟨λc u h na nb=>s7 _ _ (s26 c u h na nb),s7 _ _ f6,e7,λjj kv x _ h1 h2=>(CI pr6 h1 h2).go (λc _ _ _ o ho=>s7 _ _ ho) gA,.nil⟩ (λi ys H8 h=>⟨h.f,h.e, ?_⟩) ?_ ?_
   ·have:=Paired.length h.pr;rw[this,mK];omega
   ·intro i m ys k x cp H8 hx hm h hcp;have il:i<A.length:=by rw[<-lA];exact(gG.mp hx).1
    have hAi:A[i]? = some A[i]:=gI il;generalize A[i]=e at hAi;have E0:=h.later i _ e gA hx hAi;have E6:=CI pr6 hx hAi;obtain⟨hk,c,n,hc,fc,ch,h8c,en,bn⟩:=E0;have hk:k=.inl e.1:=hk;have hc:x=.ref c:=hc;subst hk hc;have cd:c≠d:=λz=>by
     obtain⟨_,c6,_,q1,_,_,q2,_⟩:=E6;cases q1;rw[z,n7]at q2;cases q2
    have s9:Same H8 (upd H8 cp (.tup [kV (.inl e.1),.ref c])):=jN _ hcp;have e9:(upd H8 cp (.tup [kV (.inl e.1),.ref c])) cp=some (.tup [kV (.inl e.1),.ref c]):=jD;generalize upd H8 cp (.tup [kV (.inl e.1),.ref c])=H9 at s9 e9;have h9c:=s9 _ _ h8c;have nb:n.natAbs<2^7800:=gX bn (gX (Nat.mul_le_mul_right _ (show T1.length*T2.length<=2^10 from nL l12 (by decide))) (by rw[<-nU];exact gT (by decide) (by decide)));refine⟨cp,_,rfl,SqT.of e9,rfl,_,_,rfl,_,_,rfl,rfl,AE,_,rfl,_,rfl,c,_,n,rfl,h9c,M0,Mb,nb,λv H10 b10 nv=>?_⟩;have hM:((kM T1*kM T2:Int):Rat)≠0:=λz=>by
     have:kM T1*kM T2=0:=Rat.intCast_inj.mp (by rw[z];rfl);omega
    have nv:NumK K H10 v e.2:=by
     have:((n:Int):Rat)/((kM T1*kM T2:Int):Rat)=e.2:=by rw[en,Rat.mul_div_cancel hM]
     rw[this]at nv;exact nv
    have e10:=b10 _ _ (s9 _ _ h.e) (Ne.symm cd);refine⟨.inl e.1,rfl,e10,BH hx hm ⟨λx u hx' na nb=>?_, ?_,jD,λjj kv y hj h1 h2=>?_, ?_⟩⟩
    ·rw[jH (λz=>by rw[z,d2n]at hx';cases hx')];exact b10 _ _ (s9 _ _ (h.s x u hx' na nb)) (λz=>by rw[z,fc]at hx';cases hx')
    ·rw[jH dhd];exact b10 _ _ (s9 _ _ h.f) (Ne.symm ch)
    ·refine(h.later jj kv y (by omega) h1 h2).go (λc' hc' _ _ o ho=>?_) gA ;have c'c:c'≠c:=λz=>by
      subst z;have j1:(hs.map (·.2))[jj]? = some (.ref c'):=by rw[mC,h1];exact congrArg some hc'
      have j2:(hs.map (·.2))[i]? = some (.ref c'):=by rw[mC,hx];rfl
      have:=(List.getElem?_inj (gG.mp j1).1 I5.nd).mp (j1.trans j2.symm);omega
     have c'd:c'≠d:=λz=>by
      obtain⟨_,c6,_,q1,_,_,q2,_⟩:=CI pr6 h1 h2;rw[hc']at q1;cases q1;rw[z,n7]at q2;cases q2
     rw[jH c'd];exact b10 _ _ (s9 _ _ ho) c'c
    ·have k1:Paired (EntQ K H10) ys (A.take i):=Paired.to (λ_ _ q=>(q.same s9).but (.inl h9c) b10) h.pr;have k:=uB (k:=e.1) k1 nv;have eq:xM (A.take i) e.1 e.2=A.take (i+1):=by
      rw[yA (yC hAi I5.ndA),mE,hAi]
      rfl
     rw[eq]at k;exact Paired.to (λ_ _ q=>q.upd e10) k
   ·intro ys H8 h;have pr8:=h.pr;rw[lA,mN]at pr8;exact go d ys H8 dn (λc u hc na nb=>h.s c u (s02 c u hc na nb) (λz=>by rw[z,n1]at hc;cases hc) (λz=>by rw[z,nd2']at hc;cases hc)) (.inr ⟨ob,h.s b _ fb (Ne.symm d1b) (λz=>by rw[z,e2]at fb;cases fb)⟩) h.e pr8
structure MulA(T1 T2:Tb)(B:Nat)(A:Tb):Prop where
 nd:(A.map (·.1)).Nodup
 ks:∀k∈A.map (·.1),∃e1∈T1,∃e2∈T2,k=e1.1+e2.1
 ln:A.length<=B
theorem MulA.step{T1 T2 A:Tb}{B:Nat}{e1 e2:Int×Rat}(h:MulA T1 T2 B A)(h1:e1∈T1)(h2:e2∈T2):MulA T1 T2 (B+1) (AM e1 A e2):=by
 refine⟨zP h.nd,λk hk=>?_, ?_⟩
 ·unfold AM at hk;rw[zI]at hk;split at hk
  ·exact h.ks k hk
  ·rcases mV.mp hk with hk | hk
   ·exact h.ks k hk
   ·exact⟨e1,h1,e2,h2,hU.mp hk⟩
 ·have l:=congrArg List.length (zI A (e1.1+e2.1) (tv A (e1.1+e2.1)+e1.2*e2.2));rw[mS]at l;unfold AM;rw[l];have:=h.ln;split
  ·rw[mS];omega
  ·rw[gY,mS];show A.length+1<=B+1;omega
theorem NU{T1 T2:Tb}{e1:Int×Rat}(h1:e1∈T1):∀(l:Tb) {A:Tb} {B:Nat},(∀e∈l,e∈T2)->MulA T1 T2 B A->MulA T1 T2 (B+l.length) (l.foldl (AM e1) A)
 | [],A,B,_,h=>h
 | e::l,A,B,sub,h=>by
  have:=NU h1 l (λx hx=>sub x (gR _ hx)) (h.step h1 (sub e (hW ..)));rw[mO,show B+(l.length+1)=B+1+l.length by omega];exact this
theorem NT{T1 T2:Tb} :∀(l:Tb) {A:Tb} {B:Nat},(∀e∈l,e∈T1)->MulA T1 T2 B A->MulA T1 T2 (B+l.length*T2.length) (l.foldl (UY T2) A)
 | [],A,B,_,h=>by rw[List.length_nil,Nat.zero_mul];exact h
 | e::l,A,B,sub,h=>by
  have:=NT l (λx hx=>sub x (gR _ hx)) (NU (sub e (hW ..)) T2 (λ_ h=>h) h);rw[mO,Nat.succ_mul,show B+(l.length*T2.length+T2.length)=B+T2.length+l.length*T2.length by omega];exact this
theorem mul_a(T1 T2:Tb):MulA T1 T2 (T1.length*T2.length) (uS T1 T2):=by
 have:=NT (T1:=T1) (T2:=T2) T1 (A:=[]) (B:=0) (λ_ h=>h) ⟨nB,(λ_ h=>nomatch h),nQ _⟩;rw[Nat.zero_add]at this;exact this
def zD(a b:List Int):List Int:=List.zipWith (· + ·) a b
theorem TQ:∀(n:Nat) {a b:List Int},a.length=n->b.length=n->pk (zD a b)=pk a+pk b
 | 0,a,b,h1,h2=>by rw[List.length_eq_zero_iff.mp h1,List.length_eq_zero_iff.mp h2];rfl
 | n+1,a,b,h1,h2=>by
  obtain⟨m,y,rfl,hm⟩:=yH h1;obtain⟨m',y',rfl,hm'⟩:=yH h2;unfold zD;rw[List.zipWith_append (by omega),yL,yL];show pk (zD m m'++[y+y'])=_;rw[yL,TQ n hm hm'];omega
theorem JF:∀{a b:List Int},a.length=b.length->(zD a b).sum=a.sum+b.sum
 | [],[],_=>rfl
 | x::a,y::b,h=>by
  have ih:=JF (a:=a) (b:=b) (by simpa using h);show x+y+(zD a b).sum=x+a.sum+(y+b.sum);omega
theorem NO:∀{a b:List Int},(∀n∈a,0<=n)->(∀n∈b,0<=n)->∀n∈zD a b,0<=n
 | [],_,_,_,n,h=>by simp [zD]at h
 | _::_,[],_,_,n,h=>by simp [zD]at h
 | x::a,y::b,h1,h2,n,h=>by
  have h:n∈(x+y)::zD a b:=h;rcases nF.mp h with rfl | h
  ·have:=h1 x (hW ..);have:=h2 y (hW ..);omega
  ·exact NO (λn hn=>h1 n (gR _ hn)) (λn hn=>h2 n (gR _ hn)) n h
theorem mul_ky{aa:Nat}{P1 P2:Pl}(o1:PlOk aa P1)(o2:PlOk aa P2)(hd:xP P1+xP P2<=16):∀k∈(uS (kB P1) (kB P2)).map (·.1),KyP aa k:=λk hk=>by
 obtain⟨e1,h1,e2,h2,rfl⟩:=(mul_a _ _).ks k hk;obtain⟨x,hx,rfl⟩:=nN.mp h1;obtain⟨y,hy,rfl⟩:=nN.mp h2;have lx:=o1.len x hx;have ly:=o2.len y hy;have dx:x.1.sum<=xP P1:=xJ (List.mem_map_of_mem (f:=λz=>z.1.sum) hx);have dy:y.1.sum<=xP P2:=xJ (List.mem_map_of_mem (f:=λz=>z.1.sum) hy);refine⟨zD x.1 y.1,by unfold zD;rw[List.length_zipWith];omega,NO (o1.nn x hx) (o2.nn y hy), ?_,(TQ aa lx ly).symm⟩;rw[JF (by omega)];omega
structure PlB(P:Pl)(D:Int):Prop where
 pos:0<D
 sd:D.natAbs<2^1400
 dv:∀x∈P,(x.2.den:Int)∣D
 nb:∀x∈P,x.2.num.natAbs<2^2400
def FO(K:tF):Sp:=λvs H Q _=>∃(p1 p2:Addr) (aa:Nat) (P1 P2:Pl) (D1 D2:Int),vs=[.ref p1,.ref p2]/\SumQ K H p1 aa P1/\SumQ K H p2 aa P2/\PlOk aa P1/\PlOk aa P2/\P1.length*P2.length<=60/\xP P1+xP P2<=16/\PlB P1 D1/\PlB P2 D2/\
 ∀(p:Addr) (P:Pl) (H':Hp),H p=none->Same H H'->SumQ K H' p aa P->SumT aa (uS (kB P1) (kB P2)) P->Q (.ref p) H'
theorem scTi:FnScope ["one","other","reached"] ["one","other"] (jL FW):=⟨rfl,rfl,rfl,by decide +kernel,rfl,by decide +kernel,by decide +kernel⟩
theorem UG{fD fT fM fS:Addr}{fdD fdT fdM fdS:FuncData}(F:Fun K "times" "times" FW f fd)(T:Txt mg)(DD:Df K mg "degree" yI ["one"] fD fdD)(GD:FnOk P w K mg base CX0 1 fD fdD ["one"] (uN K))(DT:Df K mg "table_of" wF ["one"] fT fdT)(GT:FnOk P w K mg base CX0 2 fT fdT ["one"] (wP K))(DM:Df K mg "tables_multiplied" wQ ["one","other"] fM fdM)(GM:FnOk P w K mg base CX0 5 fM fdM ["one","other"] (BV K))(DS:Df K mg "sum_of" yX ["many","table"] fS fdS)(GS:FnOk P w K mg base CX0 2 fS fdS ["many","table"] (zN K)):FnOk P w K mg base CX0 6 f fd ["one","other"] (FO K):=by
 obtain⟨td,hd⟩:=T.degree;refine F.ok scTi (λvs H Q E h=>?_) (λcdv A outer s H vs Q E hr h=>?_)
 ·obtain⟨p1,p2,aa,P1,P2,D1,D2,rfl,_⟩:=h
  rfl
 ·obtain⟨p1,p2,aa,P1,P2,D1,D2,rfl,q1,q2,o1,o2,ln,dg,B1,B2',go⟩:=h;have hr1:Room 1 _:=hr.mono (by decide);have hr2:Room 2 _:=hr.mono (by decide);refine⟨_,jC (jP (i:=2) scTi.nd rfl (Or.inl rfl) (jW vJ (jI GD hr1 rfl DD.m DD.F.kp DD.b .nil jM (jA (pv 0) jB)) (jI GD hr1 rfl DD.m DD.F.kp DD.b .nil jM (jA (pv 1) jB)))) (jC (kR (jV xS (pv 2) (kQ (v:=.int 16) (by rfl) hd ⟨_,rfl⟩) (jU _)) (jE (qO)) kA) (jE (jO (jI GS hr2 rfl DS.m DS.F.kp DS.b .nil jM (jA (kF kH (pv 0) jJ (λ_ _=>rfl)) (jA (jI GM hr rfl DM.m DM.F.kp DM.b .nil jM (jA (jI GT hr2 rfl DT.m DT.F.kp DT.b .nil jM (jA (pv 0) jB)) (jA (jI GT hr2 rfl DT.m DT.F.kp DT.b .nil jM (jA (pv 1) jB)) jB))) jB)))))), ?_⟩;try dsimp only[cxK]
  have f1:=o1.few;have f2:=o2.few;refine⟨_,rfl,p1,aa,16,P1,rfl,q1,o1.pd,o1.m4,by decide,by omega,λH1 s1=>⟨_,rfl,p2,aa,16,P2,rfl,q2.same s1,o2.pd,o2.m4,by decide,by omega,λH2 s2=>⟨_,_,rfl,rfl, ?_⟩⟩⟩;dsimp only[jX];refine⟨_,rfl,_,_,rfl,rfl,_,rfl,vI (mU (by omega)) ?_⟩;have s02:=s1.trans s2;obtain⟨qq,xs,e1,_⟩:=(q1.same s02).ex;refine⟨_,rfl,p1,_,_,_,rfl,rfl,SqT.of e1,rfl,_,rfl,p1,aa,P1,rfl,q1.same s02,o1,λda k1 H3 n3 s3 ea pa=>?_⟩;refine⟨_,rfl,p2,aa,P2,rfl,q2.same (s02.trans s3),o2,λdb k2 H4 n4 s4 eb pb=>?_⟩;have dab:da≠db:=λz=>by rw[<-z,ea]at n4;cases n4
  have sm:∀{P:Pl},PlOk aa P->∀e∈kB P,e.1.natAbs<2^40:=fun {P} o e he=>by
   obtain⟨x,hx,rfl⟩:=nN.mp he;exact jQ (wX (o.byt hx) (by rw[o.len x hx];exact o.m4)) (by decide)
  have tE:∀{P:Pl} {D:Int},PlB P D->(∀e∈kB P,(e.2.den:Int)∣D)/\(∀e∈kB P,e.2.num.natAbs<2^2400):=fun {P D} B=>⟨λe he=>by obtain⟨x,hx,rfl⟩:=nN.mp he;exact B.dv x hx,λe he=>by obtain⟨x,hx,rfl⟩:=nN.mp he;exact B.nb x hx⟩;refine⟨da,db,k1,k2,kB P1,kB P2,D1,D2,rfl,dab,.inl (s4 _ _ ea),.inl eb,Paired.to (λ_ _ h=>h.same s4) pa,pb,o1.nd,o2.nd,by rw[qR];exact f1,by rw[qR];exact f2,by rw[qR,qR];omega,B1.pos,B1.sd,B2'.pos,B2'.sd,(tE B1).1,(tE B2').1,(tE B1).2,(tE B2').2,sm o1,sm o2,λd ks H5 n5 b5 _ e5 p5=>?_⟩;have s05:Same H H5:=λc u h=>b5 c u ((s02.trans (s3.trans s4)) _ _ h) (λz=>by rw[z,s02.free n3]at h;cases h) (λz=>by rw[z,(s02.trans s3).free n4]at h;cases h);have ma:=mul_a (kB P1) (kB P2);refine⟨d,aa,ks,_,rfl,.inl e5,p5,ma.nd,by have:=ma.ln;rw[qR,qR]at this;omega,mul_ky o1 o2 dg,o1.m1,o1.m4,λp PP H6 n6 s6 SQ ST=>go p PP H6 (s05.free n6) (s05.trans s6) SQ ST⟩
def AT(K:tF):Sp:=λvs H Q _=>∃(v1 v2:V) (x y:Rat),vs=[v1,v2]/\NumK K H v1 x/\NumK K H v2 y/\SzR 7900 x/\SzR 7900 y/\∀(r:Addr) (H':Hp),H r=none->Same H H'->At2 H' r (x-y).num (x-y).den->Q (.ref r) H'
def bsd(x y:Rat):Int:=if x.num*(y.den:Int)<y.num*(x.den:Int)then -1 else if x.num*(y.den:Int)>y.num*(x.den:Int)then 1 else 0
def FR(K:tF):Sp:=λvs H Q _=>∃(v1 v2:V) (x y:Rat),vs=[v1,v2]/\NumK K H v1 x/\NumK K H v2 y/\SzR 7900 x/\SzR 7900 y/\Q (.int (bsd x y)) H
theorem scLess:FnScope ["one","other","over","under"] ["one","other"] (jL NG):=⟨rfl,rfl,rfl,by decide +kernel,rfl,by decide +kernel,by decide +kernel⟩
theorem UO{fA:Addr}{fdA:FuncData}(F:Fun K "less" "less" NG f fd)(DA:Df K mg "added" uZ ["one","other"] fA fdA)(GA:FnOk P w K mg base CX0 2 fA fdA ["one","other"] (yW K)):FnOk P w K mg base CX0 3 f fd ["one","other"] (AT K):=by
 refine F.ok scLess (λvs H Q E h=>?_) (λcdv A outer s H vs Q E hr h=>?_)
 ·obtain⟨v1,v2,x,y,rfl,_⟩:=h
  rfl
 ·obtain⟨v1,v2,x,y,rfl,⟨p1,rfl,q1⟩,⟨p2,rfl,q2⟩,z1,z2,go⟩:=h;refine⟨_,jC (qZ (pv 1) (kD rfl (jG (jF (i:=2) scLess.nd rfl (Or.inl rfl)) (jG (jF (i:=3) scLess.nd rfl (Or.inl rfl)) jR)))) (jE (jO (jI GA hr rfl DA.m DA.F.kp DA.b .nil jM (jA (pv 0) (jA (jS (jA (AB yV (pv 2)) (jA (pv 3) jB))) jB))))), ?_⟩;try dsimp only[cxK]
  refine⟨_,rfl,gT2 q2 rfl ?_⟩;refine⟨_,rfl,_,rfl,_,rfl,_,rfl,gD,λr1 H1 n1 s1 e1=>?_⟩;have e1:H1 r1=some (.tup [.int (-y).num,.int ((-y).den:Int)]):=e1;have z2':SzR 7900 (-y):=⟨by show(-y.num).natAbs<_;rw[Int.natAbs_neg];exact z2.1,z2.2⟩;refine⟨p1,r1,_,_,_,_,rfl,kU s1 q1,SqT.of e1,z1.fr gA,z2'.fr gA,λr H2 n2 s2 e2=>?_⟩;have e2:=LA e2;rw[<-Rat.sub_eq_add_neg]at e2;exact go r H2 (s1.free n2) (s1.trans s2) e2
theorem scBes:FnScope ["one","other","first","second"] ["one","other"] (jL AZ):=⟨rfl,rfl,rfl,by decide +kernel,rfl,by decide +kernel,by decide +kernel⟩
theorem YL(F:Fun K "beside" "beside" AZ f fd):FnOk P w K mg base CX0 1 f fd ["one","other"] (FR K):=by
 refine F.ok scBes (λvs H Q E h=>?_) (λcdv A outer s H vs Q E hr h=>?_)
 ·obtain⟨v1,v2,x,y,rfl,_⟩:=h
  rfl
 ·obtain⟨v1,v2,x,y,rfl,⟨p1,rfl,q1⟩,⟨p2,rfl,q2⟩,z1,z2,go⟩:=h;refine⟨_,jC (jP (i:=2) scBes.nd rfl (Or.inl rfl) (jW kZ (kF kH (pv 0) jJ (λ_ _=>rfl)) (kF kH (pv 1) jJ (λ_ _=>rfl)))) (jC (jP (i:=3) scBes.nd rfl (Or.inl rfl) (jW kZ (kF kH (pv 1) jJ (λ_ _=>rfl)) (kF kH (pv 0) jJ (λ_ _=>rfl)))) (jC (kR (jV UC (pv 2) (pv 3) (jU _)) (jE (jO (AB yV jJ))) kA) (jC (kR (jV xS (pv 2) (pv 3) (jU _)) (jE (jO jJ)) kA) (jE (jO jJ))))), ?_⟩;try dsimp only[cxK]
  have bn:∀{t:Int},t.natAbs<2^7900->t.natAbs<2^100000:=λh=>jQ h (by decide);have bd:∀{d:Nat},d<2^7900->((d:Int)).natAbs<2^100000:=λh=>jQ (by rw[hV];exact h) (by decide);refine rvT rfl q1 rfl (rvT rfl q2 rfl ⟨_,_,rfl,rfl,⟨bn z1.1,bd z2.2⟩,rvT rfl q2 rfl (rvT rfl q1 rfl ⟨_,_,rfl,rfl,⟨bn z2.1,bd z1.2⟩, ?_⟩)⟩);refine⟨_,rfl,_,rfl,_,_,rfl,rfl,_,rfl, ?_⟩;refine AN (λc=>?_) (λc=>?_)
  ·have e:bsd x y = -1:=tD (mG c);rw[e]at go;exact⟨_,rfl,go⟩
  ·have c:=λz=>c (mX z);refine⟨_,rfl,_,rfl,_,_,rfl,rfl,_,rfl, ?_⟩;refine AN (λc2=>?_) (λc2=>?_)
   ·have e:bsd x y=1:=by unfold bsd;rw[nZ c,tD (mG c2)]
    rw[e]at go;exact go
   ·have e:bsd x y=0:=by unfold bsd;rw[nZ c,nZ (λz=>c2 (mX z))]
    rw[e]at go;exact go
def iOr(a b:TI):TI:=fun σ H R=>a σ H R∨b σ H R
theorem pi_or{X:Cx}{tg l:Expr}{a b:TI}(h1:PI X tg l a)(h2:PI X tg l b):PI X tg l (iOr a b):=λac s σ H R I h=>h.elim (h1 ac s σ H R I) (h2 ac s σ H R I)
abbrev Zt:=List (V×(List Int×Rat))
def AK(Z:Zt)(l:Nat)(p:Int):Zt:=Z.filter λz=>decide (z.2.1.getD l 0=p)
theorem zL(Z:Zt)(z:V×(List Int×Rat))(l:Nat)(p:Int):AK (Z++[z]) l p=if z.2.1.getD l 0=p then AK Z l p++[z]else AK Z l p:=by
 unfold AK;rw[List.filter_append];by_cases h:z.2.1.getD l 0=p
 ·rw[tD h,List.filter_cons_of_pos (p:=λz:V×(List Int×Rat)=>decide (z.2.1.getD l 0=p)) (mX h)]
  rfl
 ·rw[nZ h,List.filter_cons_of_neg (p:=λz:V×(List Int×Rat)=>decide (z.2.1.getD l 0=p)) (λy=>h (mG y))];exact List.append_nil _
structure PartI(H0 H:Hp)(d:Addr)(ag:List (Key×V))(Z:Zt)(l:Nat):Prop where
 e:H d=some (.dK ag)
 no:∀p:Int,kS ag (.inl p:Key)=none->AK Z l p=[]
 yes:∀(p:Int) (v:V),kS ag (.inl p:Key)=some v->∃q,v=.ref q/\H0 q=none/\q≠d/\H q=some (.lst ((AK Z l p).map (·.1)))/\AK Z l p≠[]
 inj:∀(p p':Int) (v:V),kS ag (.inl p:Key)=some v->kS ag (.inl p':Key)=some v->p=p'
 ks:∀kv∈ag,∃i:Int,kv.1=.inl i
 ln:ag.length<=Z.length
theorem PartI.same{H0 H H':Hp}{d:Addr}{ag:List (Key×V)}{Z:Zt}{l:Nat}(I:PartI H0 H d ag Z l)(s:Same H H'):PartI H0 H' d ag Z l:=
 ⟨s _ _ I.e,I.no,λp v h=>let ⟨q,h1,h2,h3,h4,h5⟩:=I.yes p v h;⟨q,h1,h2,h3,s _ _ h4,h5⟩,I.inj,I.ks,I.ln⟩
theorem PartI.there{H0 H:Hp}{d q:Addr}{ag:List (Key×V)}{Z:Zt}{l:Nat}{z:V×(List Int×Rat)}(I:PartI H0 H d ag Z l)(h:kS ag (.inl (z.2.1.getD l 0):Key)=some (.ref q)) :
  PartI H0 (upd H q (.lst ((AK Z l (z.2.1.getD l 0)).map (·.1)++[z.1]))) d ag (Z++[z]) l:=by
 obtain⟨q',e1,f1,n1,e2,ne⟩:=I.yes _ _ h;cases e1;refine⟨by rw[jH (Ne.symm n1)];exact I.e,λp hp=>?_,λp v hv=>?_,I.inj,I.ks,by rw[gY];exact nL I.ln (Nat.le_add_right ..)⟩
 ·rw[zL,nZ (λy=>by rw[y,hp]at h;cases h)];exact I.no p hp
 ·obtain⟨q2,e3,f2,n2,e4,ne2⟩:=I.yes p v hv;rw[zL];by_cases c:z.2.1.getD l 0=p
  ·subst c;rw[h]at hv;cases hv;cases e3;rw[tD rfl];exact⟨q,rfl,f1,n1,by rw[jD,mT];rfl,by simp⟩
  ·rw[nZ c];refine⟨q2,e3,f2,n2, ?_,ne2⟩;rw[jH (λy=>c (I.inj _ _ _ h (by rw[hv,e3,y])))];exact e4
theorem PartI.new{H0 H:Hp}{d q:Addr}{ag:List (Key×V)}{Z:Zt}{l:Nat}{z:V×(List Int×Rat)}(I:PartI H0 H d ag Z l)(h:kS ag (.inl (z.2.1.getD l 0):Key)=none)(f0:H0 q=none)(qd:q≠d)(nq:∀xs:List V,xs≠[]->H q≠some (.lst xs)) :
  PartI H0 (upd (upd H d (.dK (qE ag (.inl (z.2.1.getD l 0)) (.ref q)))) q (.lst [z.1])) d (qE ag (.inl (z.2.1.getD l 0)) (.ref q)) (Z++[z]) l:=by
 have old:∀(p:Int) (v:V),kS ag (.inl p:Key)=some v->v≠.ref q:=λp v hv y=>by
  obtain⟨q2,e3,_,_,e4,ne⟩:=I.yes p v hv;rw[y]at e3;cases e3;exact nq _ (λy=>ne (List.map_eq_nil_iff.mp y)) e4
 have vp:∀p:Int,kS (qE ag (.inl (z.2.1.getD l 0)) (.ref q)) (.inl p:Key)=if p=z.2.1.getD l 0 then some (.ref q)else kS ag (.inl p):=λp=>by
  rw[RP];by_cases c:p=z.2.1.getD l 0
  ·rw[tD c,tD (by rw[c])]
  ·rw[nZ c,nZ (λy=>c (Sum.inl.inj y))]
 refine⟨by rw[jH (Ne.symm qd)];exact jD,λp hp=>?_,λp v hv=>?_,λp p' v h1 h2=>?_, ?_, ?_⟩
 ·rw[vp]at hp;split at hp
  ·cases hp
  ·rename_i c;rw[zL,nZ (Ne.symm c)];exact I.no p hp
 ·rw[vp]at hv;rw[zL];split at hv
  ·rename_i c;cases hv;rw[tD c.symm,c,I.no _ h];exact⟨q,rfl,f0,qd,jD,by simp⟩
  ·rename_i c;rw[nZ (Ne.symm c)];obtain⟨q2,e3,f2,n2,e4,ne2⟩:=I.yes p v hv;exact⟨q2,e3,f2,n2,by rw[jH (λy=>old p v hv (by rw[e3,y])),jH n2];exact e4,ne2⟩
 ·rw[vp]at h1 h2;split at h1
  ·rename_i c;cases h1;split at h2
   ·rename_i c2;rw[c,c2]
   ·exact absurd rfl (old _ _ h2)
  ·split at h2
   ·cases h2;exact absurd rfl (old _ _ h1)
   ·exact I.inj _ _ _ h1 h2
 ·rw[TJ _ h];intro kv hk;rcases mV.mp hk with hk | hk
  ·exact I.ks kv hk
  ·rw[hU.mp hk];exact⟨_,rfl⟩
 ·have:=vC ag (.inl (z.2.1.getD l 0):Key) (.ref q);rw[gY];have:=I.ln;show _<=Z.length+1;omega
def Sq2(H:Hp)(a:Addr)(xs:List V):Prop:=H a=some (.tup xs)∨H a=some (.lst xs)
theorem Sq2.same{H H':Hp}{a:Addr}{xs:List V}(h:Sq2 H a xs)(s:Same H H'):Sq2 H' a xs:=h.imp (s _ _) (s _ _)
def IN(K:tF):Sp:=λvs H Q _=>∃(a:Addr) (l aa:Nat) (xs:List V) (P:Pl),vs=[.ref a,.int l]/\Sq2 H a xs/\Paired (TmQ K H) xs P/\(∀x∈P,x.1.length=aa)/\l<aa/\P.length<=60/\
 ∀(d:Addr) (ag:List (Key×V)) (H':Hp),H d=none->Same H H'->PartI H H' d ag (xs.zip P) l->Q (.ref d) H'
inductive PtI(H:Hp)(a d:Addr)(l:Nat)(Z:Zt)(i:Nat):L2.St->Hp->Prop where
 | mk {u:Option V} {H':Hp} {ag:List (Key×V)} (s:Same H H') (I:PartI H H' d ag (Z.take i) l):PtI H a d l Z i [some (.ref a),some (.int l),some (.ref d),u] H'
theorem RK{F:V->(List Int×Rat)->Prop} :∀{xs:List V} {P:Pl} {i:Nat} {x:V} {y:List Int×Rat},Paired F xs P->xs[i]? = some x->P[i]? = some y->(xs.zip P)[i]? = some (x,y)
 | _::_,_::_,0,_,_,.cons _ _,h1,h2=>by cases h1;cases h2;rfl
 | _::_,_::_,i+1,_,_,.cons _ t,h1,h2=>RK (i:=i) t h1 h2
theorem WS{F:V->(List Int×Rat)->Prop}{xs:List V}{P:Pl}(h:Paired F xs P):(xs.zip P).length=xs.length:=by
 rw[List.length_zip,<-Paired.length h,Nat.min_self]
theorem scPt:FnScope ["terms","letter","parts","term"] ["terms","letter"] (jL AY):=⟨rfl,rfl,rfl,by decide +kernel,rfl,by decide +kernel,by decide +kernel⟩
theorem QE(F:Fun K "parted" "parted" AY f fd):FnOk P w K mg base CX0 1 f fd ["terms","letter"] (IN K):=by
 refine F.ok scPt (λvs H Q E h=>?_) (λcdv A outer s H vs Q E hr h=>?_)
 ·obtain⟨a,l,aa,xs,PP,rfl,_⟩:=h
  rfl
 ·obtain⟨a,l,aa,xs,PP,rfl,ha,pr,lm,hl,fw,go⟩:=h;refine⟨_,jC (jP (i:=2) scPt.nd rfl (Or.inl rfl) (zA)) (jC (qF PassesOwn.never rfl (pi_or (xF (pv 0)) (vP (pv 0))) (jF (i:=3) scPt.nd rfl (Or.inl rfl)) (jE (xQ (vY PySem.F.plainAttrs_list PySem.F.slot_list_append PySem.F.type_list_append kW (JB (pv 2) (kF kH (kF kH (pv 3) jJ (λ_ _=>rfl)) (pv 1) (λ_ _=>rfl)) (qC jB) ⟨rfl,rfl,rfl,rfl⟩) (jA (pv 3) jB))))) (jE (jO (pv 2)))), ?_⟩;try dsimp only[cxK]
  intro d nd;have s0:Same H (upd H d (.dK [])):=jN _ nd;have e0:(upd H d (.dK [])) d=some (.dK []):=jD;generalize upd H d (.dK [])=H0 at s0 e0;have lx:xs.length=PP.length:=Paired.length pr;have lz:=WS pr;have st0:PtI H a d l (xs.zip PP) 0 [some (.ref a),some (.int l),some (.ref d),none] H0:=.mk (ag:=[]) s0 ⟨e0,λ_ _=>rfl,λ_ _ h=>(nomatch h),λ_ _ _ h=>(nomatch h),λ_ h=>(nomatch h),nR _⟩;have step:∀(D:Ends) (i:Nat) (x:V) (σ:L2.St) (H2:Hp),(∀σ' H',PtI H a d l (xs.zip PP) (i+1) σ' H'->D.nx σ' H')->xs[i]? = some x->PtI H a d l (xs.zip PP) i σ H2->jX 3 x σ H2 fun σ2 H3=>ZW (tBM K "list" rAppend (SE (qJ 2) (tOp (yY K) (tOp (yY K) (qJ 3) (tC (V.int 0))) (qJ 1)) (BS tNil)) (kP (qJ 3) tNil)) D σ2 H3:=by
   rintro D i x σ H2 hD hx ⟨s2,I2⟩;rename_i ag;obtain⟨y,hy,r,b,c,rfl,r1,r2,r3⟩:=Paired.at pr hx;have ym:=gQ hy;have zt:=RK pr hx hy;have tk:(xs.zip PP).take (i+1)=(xs.zip PP).take i++[(.ref r,y)]:=by rw[mE,zt];rfl
   have il:i<xs.length:=(gG.mp hx).1;have ll:=I2.ln;rw[mK]at ll;refine⟨_,rfl,d,rfl,.inl ⟨_,.inl I2.e⟩,_,rfl,_,_,_,_,rfl,rfl,SqT.of (s2 _ _ r1),rfl,_,rfl,b,_,_,_,rfl,rfl,SqT.of (s2 _ _ r2),qX (by rw[mC,xA (show l<y.1.length by rw[lm y ym];exact hl)];rfl),gB,λq H3 n3 s3 e3=>?_⟩;have I3:=I2.same s3;have hs:=s2.trans s3;refine⟨ag,.inl (y.1.getD l 0),I3.e,rfl,by rw[sizeLine_eq];omega,λv hv=>?_,λhv=>?_⟩
   ·obtain⟨q2,rfl,f2,n2,e2,ne2⟩:=I3.yes _ _ hv;have:=List.length_filter_le (λz:V×(List Int×Rat)=>decide (z.2.1.getD l 0=y.1.getD l 0)) ((xs.zip PP).take i);rw[mK]at this;refine⟨.inl ⟨rfl,_,SqL.of e2⟩,_,rfl,q2,_,_,rfl,rfl,e2,by rw[mS,sizeLine_eq];unfold AK;omega,hD _ _ (.mk (ag:=ag) (jY hs f2) ?_)⟩;rw[tk];exact I3.there (z:=(.ref r,y)) hv
   ·have qd:q≠d:=λz=>by rw[z,I2.e]at n3;cases n3
    have eq:(upd H3 d (.dK (qE ag (.inl (y.1.getD l 0)) (.ref q)))) q=some (.lst []):=by rw[jH qd];exact e3
    refine⟨.inl ⟨rfl,_,SqL.of eq⟩,_,rfl,q,_,_,rfl,rfl,eq,(by show 0<sizeLine;decide),hD _ _ (.mk (ag:=qE ag (.inl (y.1.getD l 0)) (.ref q)) (jY (jY hs nd) (s2.free n3)) ?_)⟩;rw[tk];exact I3.new (z:=(.ref r,y)) hv (s2.free n3) qd λzs hz y=>by rw[e3]at y;cases y;exact hz rfl
  have fin:∀σ H2,PtI H a d l (xs.zip PP) xs.length σ H2->tRet (qJ 2) { nx:=λx H'=>Q V.non H',rt:=Q } σ H2:=by
   rintro σ H2 ⟨s2,I2⟩;rw[<-lz,mN]at I2;exact⟨_,rfl,go d _ H2 nd s2 I2⟩
  rcases ha with ha | ha
  ·exact .inl ⟨_,rfl,a,rfl,⟨_,SqT.of (s0 _ _ ha)⟩,uA (K:=K) (a:=a) (xs:=xs) (PtI H a d l (xs.zip PP)) st0 (λi σ H2 _ h=>by obtain⟨s2,_⟩:=h;exact SqT.of (s2 _ _ ha)) (λi x σ H2 hx h=>step _ i x σ H2 (λ_ _ h=>h) hx h) fin⟩
  ·exact .inr ⟨_,rfl,a,rfl,⟨_,SqL.of (s0 _ _ ha)⟩,CT (K:=K) (a:=a) (xs:=xs) (PtI H a d l (xs.zip PP)) st0 (λi σ H2 _ h=>by obtain⟨s2,_⟩:=h;exact SqL.of (s2 _ _ ha)) (λi x σ H2 hx h=>step _ i x σ H2 (λ_ _ h=>h) hx h) fin⟩
def qT(P:Pl)(l:Nat)(p:Int):Pl:=P.filter λx=>decide (x.1.getD l 0=p)
def mxP(P:Pl)(l:Nat):Int:=(P.map λx=>x.1.getD l 0).foldr max 0
def DJ(g:Int->Tb->Tb)(m:Nat):Nat->Tb
 | 0=>[]
 | i+1=>g ((m:Int)-i) (DJ g m i)
def yR(Td:Tb)(rec:Pl->Tb)(P:Pl)(l:Nat)(p:Int)(A:Tb):Tb:=if qT P l p=[]then uS A Td else RJ (uS A Td) (rec (qT P l p))
def wG(Td:Tb):Nat->Nat->Pl->Tb
 | 0,_,[]=>[]
 | 0,_,x::_=>[(0,x.2)]
 | n+1,l,P=>DJ (yR Td (wG Td n (l+1)) P l) (mxP P l).toNat ((mxP P l).toNat+1)
theorem add_ok{T1 T2:Tb}(n1:(T1.map (·.1)).Nodup)(n2:(T2.map (·.1)).Nodup):AddT T1 T2 (RJ T1 T2):=by
 have key:∀i,i<=T2.length->AddT T1 (T2.take i) ((T2.take i).foldl addS T1):=by
  intro i;induction i with
  | zero=>exact λ_=>⟨n1,λk hk=>.inl hk,Nat.le_add_right ..,λk=>(Rat.add_zero _).symm⟩
  | succ i ih=>
   intro h;have he:T2[i]? = some T2[i]:=gI (by omega);have:=(ih (by omega)).step he n2;rw[zV he];exact this
 have:=key T2.length gA ;rw[mN]at this;exact this
theorem tv_at{T:Tb}(nd:(T.map (·.1)).Nodup){e:Int×Rat}(h:e∈T):e.2=tv T e.1:=by
 induction T with
 | nil=>exact absurd h (by simp)
 | cons a T ih=>
  rw[nE,List.nodup_cons]at nd;rw[kX];rcases nF.mp h with rfl | h
  ·rw[tD rfl]
  ·rw[nZ (λz=>nd.1 (by rw[z];exact List.mem_map_of_mem h))];exact ih nd.2 h
theorem mul_one{Td:Tb}(nd:(Td.map (·.1)).Nodup)(c:Rat):uS [(0,c)] Td=Td.map λe=>(e.1,c*e.2):=by
 have key:∀i,i<=Td.length->(Td.take i).foldl (AM (0,c)) []=(Td.take i).map λe=>(e.1,c*e.2):=by
  intro i;induction i with
  | zero=>exact λ_=>rfl
  | succ i ih=>
   intro h;have he:Td[i]? = some Td[i]:=gI (by omega);generalize Td[i]=e at he;have nt:=yC he nd;have ks:((Td.take i).map λe=>(e.1,c*e.2)).map (·.1)=(Td.take i).map (·.1):=by rw[nO];rfl
   rw[zV he,ih (by omega)];unfold AM;rw[Int.zero_add,yA (by rw[ks];exact nt),wC (by rw[ks];exact nt),Rat.zero_add,mE,he,mT]
   rfl
 have:=key Td.length gA ;rw[mN]at this;exact this
theorem Ov.mul{D E:Int}{n m:Nat}{x y:Rat}(h:Ov D n x)(k:Ov E m y)(hD:0<D)(hE:0<E):Ov (D*E) (n+m) (x*y):=by
 obtain⟨a,rfl,ha⟩:=h.ex;obtain⟨b,rfl,hb⟩:=k.ex;refine⟨a*b, ?_, ?_⟩
 ·unfold fv;have h1:((D:Int):Rat)≠0:=λz=>by have:D=0:=Rat.intCast_inj.mp (by rw[z];rfl);omega
  have h2:((E:Int):Rat)≠0:=λz=>by have:E=0:=Rat.intCast_inj.mp (by rw[z];rfl);omega
  rw[mW,mW,nT,nT,nT,Rat.inv_mul_rev]
  grind
 ·rw[mY,nU];exact mZ ha hb
structure StL(L l:Nat)(d:Int)(P:Pl):Prop where
 len:∀x∈P,x.1.length=L
 nn:∀x∈P,∀n∈x.1,0<=n
 dg:∀x∈P,(x.1.drop l).sum<=d
 cf:∀x∈P,Ov 60 9 x.2
theorem KE{ns:List Int}{l:Nat}(h:l<ns.length)(nn:∀n∈ns,0<=n):(ns.drop l).sum=ns.getD l 0+(ns.drop (l+1)).sum/\0<=ns.getD l 0/\0<=(ns.drop (l+1)).sum:=by
 refine⟨?_, ?_, ?_⟩
 ·rw[List.drop_eq_getElem_cons h,nI,gE,gI h]
  rfl
 ·exact nn _ (gQ (xA h))
 ·have:∀m:List Int,(∀n∈m,0<=n)->0<=m.sum:=λm=>by
   induction m with
   | nil=>exact λ_=>nV _
   | cons a m ih=>
    intro h;rw[nI];have:=h a (hW ..);have:=ih λn hn=>h n (gR _ hn);omega
  exact this _ λn hn=>nn n (List.mem_of_mem_drop hn)
theorem part_mem{P:Pl}{l:Nat}{p:Int}{x:List Int×Rat} :x∈qT P l p↔x∈P/\x.1.getD l 0=p:=by
 unfold qT;rw[List.mem_filter];exact and_congr_right λ_=>decide_eq_true_iff
theorem StL.next{L l:Nat}{d p:Int}{P:Pl}(h:StL L l d P)(hl:l<L):StL L (l+1) (d-p) (qT P l p):=by
 refine⟨λx hx=>h.len x (part_mem.mp hx).1,λx hx=>h.nn x (part_mem.mp hx).1,λx hx=>?_,λx hx=>h.cf x (part_mem.mp hx).1⟩;obtain⟨h1,h2⟩:=part_mem.mp hx;have:=KE (l:=l) (by rw[h.len x h1];exact hl) (h.nn x h1);have:=h.dg x h1;omega
theorem StL.pw{L l:Nat}{d:Int}{P:Pl}(h:StL L l d P)(hl:l<L){x:List Int×Rat}(hx:x∈P):0<=x.1.getD l 0/\x.1.getD l 0<=d:=by
 have:=KE (l:=l) (by rw[h.len x hx];exact hl) (h.nn x hx);have:=h.dg x hx;omega
theorem StL.mx{L l:Nat}{d:Int}{P:Pl}(h:StL L l d P)(hl:l<L)(hd:0<=d):0<=mxP P l/\mxP P l<=d:=by
 refine⟨?_,vL (λy hy=>?_) hd⟩
 ·have:∀m:List Int,0<=m.foldr max 0:=λm=>by
   induction m with
   | nil=>exact nV _
   | cons a m ih=>show 0<=max a (m.foldr max 0);omega
  exact this _
 ·obtain⟨x,hx,rfl⟩:=nN.mp hy;exact(h.pw hl hx).2
def G0(T:Tb):Prop:=T=[]∨∃c,T=[(0,c)]/\Ov 60 9 c
theorem KZ{T:Tb}(h:G0 T):RJ [] T=T:=by
 rcases h with rfl | ⟨c,rfl,_⟩
 ·rfl
 ·show [((0:Int),(0:Rat)+c)]=_;rw[Rat.zero_add]
theorem IM{Td:Tb}{rec:Pl->Tb}{P:Pl}{l:Nat}{p:Int} :yR Td rec P l p []=if qT P l p=[]then []else RJ [] (rec (qT P l p)):=rfl
theorem IV{L:Nat}{Td:Tb} :∀(n l:Nat) (P:Pl),l+n=L->StL L l 0 P->G0 (wG Td n l P)
 | 0,_,[],_,_=>.inl rfl
 | 0,_,x::_,_,h=>.inr ⟨x.2,rfl,h.cf x (hW ..)⟩
 | n+1,l,P,hn,h=>by
  have m:=h.mx (show l<L by omega) (nV _);have m0:(mxP P l).toNat=0:=by omega
  show G0 (DJ _ (mxP P l).toNat ((mxP P l).toNat+1));rw[m0];show G0 (yR Td (wG Td n (l+1)) P l (((0:Nat):Int)-((0:Nat):Int)) []);rw[IM];split
  ·exact .inl rfl
  ·have:=IV (Td:=Td) n (l+1) (qT P l (((0:Nat):Int)-((0:Nat):Int))) (by omega) (h.next (p:=((0:Nat):Int)-((0:Nat):Int)) (by omega));rw[KZ this];exact this
structure GT(Td:Tb)(b:Nat)(T:Tb):Prop where
 nd:(T.map (·.1)).Nodup
 ks:∀k∈T.map (·.1),k=0∨k∈Td.map (·.1)
 vl:∀e∈T,Ov 3600 b e.2
 ln:T.length<=5*(b-17)
theorem GT.tv{Td:Tb}{b:Nat}{T:Tb}(h:GT Td b T)(k:Int):Ov 3600 b (Lw.tv T k):=by
 rcases RW (T:=T) (k:=k)with z | ⟨e,he,z⟩
 ·rw[z];exact .zero _ _
 ·rw[<-z];exact h.vl e he
theorem GT.up{Td:Tb}{b c:Nat}{T:Tb}(h:GT Td b T)(k:b<=c):GT Td c T:=⟨h.nd,h.ks,λe he=>(h.vl e he).up k,nL h.ln (by omega)⟩
theorem GT.add{Td:Tb}{b:Nat}{T1 T2:Tb}(h1:GT Td 18 T1)(h2:GT Td b T2)(hb:18<=b):GT Td (b+1) (RJ T1 T2):=by
 have a:=add_ok h1.nd h2.nd;refine⟨a.nd,λk hk=>(a.ks k hk).elim (h1.ks k) (h2.ks k),λe he=>?_, ?_⟩
 ·rw[tv_at a.nd he,a.vl];exact((h1.tv _).up hb).add (h2.tv _) (by decide)
 ·have:=a.ln;have:=h1.ln;have:=h2.ln;omega
theorem GT.nil{Td:Tb}{b:Nat} :GT Td b []:=⟨nB,λ_ h=>(nomatch h),λ_ h=>(nomatch h),nR _⟩
theorem G0.gt{Td T:Tb}(h:G0 T):GT Td 18 T:=by
 rcases h with rfl | ⟨c,rfl,h⟩
 ·exact GT.nil
 ·refine⟨by simp,λk hk=>.inl (by simpa using hk),λe he=>?_,(show 1<=5*(18-17) by decide)⟩;rw[hU.mp he];exact(h.scale (c:=60) (b:=6) (by decide) (by decide) (by decide)).up (by decide)
theorem G0.mul{Td T:Tb}(h:G0 T)(nd:(Td.map (·.1)).Nodup)(hv:∀e∈Td,Ov 60 9 e.2)(l5:Td.length<=5):GT Td 18 (uS T Td):=by
 rcases h with rfl | ⟨c,rfl,h⟩
 ·exact GT.nil
 ·rw[mul_one nd];have ks:(Td.map λe=>(e.1,c*e.2)).map (·.1)=Td.map (·.1):=by rw[nO];rfl
  refine⟨by rw[ks];exact nd,λk hk=>.inr (by rw[ks]at hk;exact hk),λe he=>?_,by rw[mS];exact l5⟩;obtain⟨e',he',rfl⟩:=nN.mp he;exact h.mul (hv e' he') (by decide) (by decide)
theorem XB{Td:Tb}{rec:Pl->Tb}{P:Pl}{l b:Nat}{p:Int}{A:Tb}(h:G0 A)(nd:(Td.map (·.1)).Nodup)(hv:∀e∈Td,Ov 60 9 e.2)(l5:Td.length<=5)(hb:18<=b)(hr:qT P l p≠[]->GT Td b (rec (qT P l p))):GT Td (b+1) (yR Td rec P l p A):=by
 unfold yR;split
 ·exact(h.mul nd hv l5).up (by omega)
 ·rename_i c;exact(h.mul nd hv l5).add (hr c) hb
theorem LB{L l n:Nat}{Td:Tb}{P:Pl}(h:StL L l 1 P)(hn:l+(n+1)=L):∀i,i<=(mxP P l).toNat->G0 (DJ (yR Td (wG Td n (l+1)) P l) (mxP P l).toNat i)
 | 0,_=>.inl rfl
 | i+1,hi=>by
  have m:=h.mx (show l<L by omega) (by decide);have m1:(mxP P l).toNat=1:=by omega
  have i0:i=0:=by omega
  subst i0;rw[m1];show G0 (yR Td (wG Td n (l+1)) P l (((1:Nat):Int)-((0:Nat):Int)) []);rw[IM];split
  ·exact .inl rfl
  ·have:=IV (Td:=Td) n (l+1) (qT P l (((1:Nat):Int)-((0:Nat):Int))) (by omega) (h.next (p:=((1:Nat):Int)-((0:Nat):Int)) (by omega));rw[KZ this];exact this
theorem CC{L:Nat}{Td:Tb}(nd:(Td.map (·.1)).Nodup)(hv:∀e∈Td,Ov 60 9 e.2)(l5:Td.length<=5):∀(n l:Nat) (P:Pl),l+n=L->StL L l 1 P->GT Td (18+n) (wG Td n l P)
 | 0,_,[],_,_=>GT.nil
 | 0,_,x::_,_,h=>G0.gt (.inr ⟨x.2,rfl,h.cf x (hW ..)⟩)
 | n+1,l,P,hn,h=>by
  have m:=h.mx (show l<L by omega) (by decide);show GT Td (18+n+1) (yR Td (wG Td n (l+1)) P l (((mxP P l).toNat:Int)-((mxP P l).toNat:Int)) (DJ _ (mxP P l).toNat (mxP P l).toNat));refine XB (LB h hn _ gA) nd hv l5 (by omega) λ_=>CC (L:=L) nd hv l5 n (l+1) _ (by omega) ?_;have:=h.next (p:=((mxP P l).toNat:Int)-((mxP P l).toNat:Int)) (show l<L by omega);rw[Int.sub_self,Int.sub_zero]at this;rw[Int.sub_self];exact this
theorem VZ{n:Nat}{g:TG}{tb:TS}{D:Ends}{σ:L2.St}{H:Hp}(Pv:Nat->L2.St->Hp->Prop)(h0:Pv 0 σ H)
  (hs:∀i σ H,i<n->Pv i σ H->g (.int ((n:Int)-1-i)) σ H fun σ2 H2=>tb { D with nx:=Pv (i+1),ct:=Pv (i+1),bk:=D.nx } σ2 H2) (hd:∀σ H,Pv n σ H->D.nx σ H) :
  ∃W:Nat->Nat->L2.St->Hp->Prop,(∃m,W 0 m σ H)/\∀i m σ H,W i m σ H->
   ((Itd n).stop i H/\D.nx σ H)∨((Itd n).go i H/\∃N:L2.St->Hp->Prop,(∀σ' H',N σ' H'->∃m',m'<m/\W (i+1) m' σ' H')/\∀x H',(Itd n).yld i H x H'->g x σ H' fun σ2 H2=>tb { D with nx:=N,ct:=N,bk:=D.nx } σ2 H2):=by
 refine⟨λi m σ H=>m=n-i/\i<=n/\Pv i σ H,⟨n,by simp,nR _,h0⟩, ?_⟩;rintro i m σ H ⟨rfl,hi,p⟩;by_cases hlt:i<n
 ·refine .inr ⟨hlt,Pv (i+1),fun σ' H' p'=>⟨n-(i+1),by omega,rfl,hlt,p'⟩,λx H' y=>?_⟩;obtain⟨e,y⟩:=y;subst e y;exact hs i σ _ hlt p
 ·have e:i=n:=by omega
  subst e;exact .inl ⟨nQ _,hd σ H p⟩
def Kp(S:Addr->Prop)(H H':Hp):Prop:=∀c u,H c=some u->¬S c->H' c=some u
def Dcs(H:Hp)(S:Addr->Prop):Prop:=∀c,S c->∃kv,Rd H c (.dK kv)
theorem Kp.tup{S:Addr->Prop}{H H':Hp}(k:Kp S H H')(d:Dcs H S){c:Addr}{xs:List V}(h:H c=some (.tup xs)):H' c=some (.tup xs):=k _ _ h λz=>by
 obtain⟨kv,r | ⟨o,r⟩⟩:=d c z<;>rw[r]at h<;>cases h
theorem Kp.lst{S:Addr->Prop}{H H':Hp}(k:Kp S H H')(d:Dcs H S){c:Addr}{xs:List V}(h:H c=some (.lst xs)):H' c=some (.lst xs):=k _ _ h λz=>by
 obtain⟨kv,r | ⟨o,r⟩⟩:=d c z<;>rw[r]at h<;>cases h
theorem Kp.sqT{S:Addr->Prop}{H H':Hp}(k:Kp S H H')(d:Dcs H S){K:tF}{a:Addr}{xs:List V}(h:SqT K H a xs):SqT K H' a xs:=by
 rcases h with(h | ⟨u,h⟩) | h
 ·exact .inl (.inl (k.tup d h))
 ·refine .inl (.inr ⟨u,k _ _ h λz=>?_⟩);obtain⟨kv,r | ⟨o,r⟩⟩:=d a z<;>rw[r]at h<;>cases h
 ·exact .inr h
theorem Kp.ent{S:Addr->Prop}{H H':Hp}(k:Kp S H H')(d:Dcs H S){K:tF}{kv:Key×V}{x:Int×Rat}(h:EntQ K H kv x):EntQ K H' kv x:=let ⟨z1,pz,z2,z3⟩:=h;⟨z1,pz,z2,k.sqT d z3⟩
theorem Kp.tm{S:Addr->Prop}{H H':Hp}(k:Kp S H H')(d:Dcs H S){K:tF}{v:V}{x:List Int×Rat}(h:TmQ K H v x):TmQ K H' v x:=let ⟨r,b,c,e1,e2,e3,pz,e4,e5⟩:=h;⟨r,b,c,e1,k.tup d e2,k.tup d e3,pz,e4,k.sqT d e5⟩
structure TabsAt(K:tF)(H:Hp)(ta:Addr)(Td:Tb)(ds:List Addr):Prop where
 e:H ta=some (.lst (ds.map V.ref))
 dk:∀d∈ds,∃kv,Rd H d (.dK kv)/\Paired (EntQ K H) kv Td
theorem TabsAt.dc{K:tF}{H:Hp}{ta:Addr}{Td:Tb}{ds:List Addr}(h:TabsAt K H ta Td ds):Dcs H (·∈ds):=λc hc=>let ⟨kv,r,_⟩:=h.dk c hc;⟨kv,r⟩
theorem TabsAt.same{K:tF}{H H':Hp}{ta:Addr}{Td:Tb}{ds:List Addr}(h:TabsAt K H ta Td ds)(s:Same H H'):TabsAt K H' ta Td ds:=⟨s _ _ h.e,λd hd=>let ⟨kv,r,p⟩:=h.dk d hd;⟨kv,GY r s,Paired.to (λ_ _ q=>q.same s) p⟩⟩
theorem FI{F:V->(List Int×Rat)->Prop}{l:Nat}{p:Int} :∀{xs:List V} {P:Pl},Paired F xs P->Paired F ((AK (xs.zip P) l p).map (·.1)) (qT P l p)
 | _,_,.nil=>.nil
 | x::xs,y::P,.cons h t=>by
  have ih:=FI (l:=l) (p:=p) t;unfold AK qT at *;rw[List.zip_cons_cons];by_cases c:y.1.getD l 0=p
  ·rw[List.filter_cons_of_pos (p:=λz:V×(List Int×Rat)=>decide (z.2.1.getD l 0=p)) (mX c),List.filter_cons_of_pos (p:=λx:List Int×Rat=>decide (x.1.getD l 0=p)) (mX c)];exact .cons h ih
  ·rw[List.filter_cons_of_neg (p:=λz:V×(List Int×Rat)=>decide (z.2.1.getD l 0=p)) (λy=>c (mG y)),List.filter_cons_of_neg (p:=λx:List Int×Rat=>decide (x.1.getD l 0=p)) (λy=>c (mG y))];exact ih
theorem wK{F:V->(List Int×Rat)->Prop}{l:Nat}{p:Int}{xs:List V}{P:Pl}(h:Paired F xs P):AK (xs.zip P) l p=[]↔qT P l p=[]:=by
 have:=Paired.length (FI (l:=l) (p:=p) h);rw[mS]at this;rw[<-List.length_eq_zero_iff,<-List.length_eq_zero_iff,this]
theorem JW{ag:List (Key×V)}(h:∀p∈ag,∃i:Int,p.1=.inl i)(i:Int):i∈kJ ag↔(.inl i:Key)∈ag.map (·.1):=by
 unfold kJ;rw[nN,nN];constructor
 ·rintro⟨p,hp,e⟩;obtain⟨j,hj⟩:=h p hp;rw[hj]at e;exact⟨p,hp,by rw[hj,<-e]⟩
 ·rintro⟨p,hp,e⟩;exact⟨p,hp,by rw[e]⟩
theorem TY{F:V->(List Int×Rat)->Prop}{H0 H:Hp}{d:Addr}{ag:List (Key×V)}{xs:List V}{P:Pl}{l:Nat}(pr:Paired F xs P)(I:PartI H0 H d ag (xs.zip P) l)(nn:∀x∈P,0<=x.1.getD l 0) :
  (ag=[]->mxP P l=0)/\∀m,m∈kJ ag->(∀x∈kJ ag,x<=m)->m=mxP P l:=by
 have has:∀x∈P,x.1.getD l 0∈kJ ag:=λx hx=>by
  rw[JW I.ks];refine Classical.byContradiction λn=>?_;have:kS ag (.inl (x.1.getD l 0):Key)=none:=by
   cases h:kS ag (.inl (x.1.getD l 0):Key)with
   | none=>rfl
   | some v=>exact absurd (WW h) n
  have:=(wK pr).mp (I.no _ this);have:x∈qT P l (x.1.getD l 0):=part_mem.mpr ⟨hx,rfl⟩;rw[‹qT P l (x.1.getD l 0)=[]›]at this;exact absurd this (by simp)
 refine⟨λe=>?_,λm hm hle=>?_⟩
 ·have:P=[]:=by
   match P,has with
   | [],_=>rfl
   | x::_,has=>have:=has x (hW ..);rw[e]at this;exact absurd this (by simp [kJ])
  rw[this]
  rfl
 ·have hv:kS ag (.inl m:Key)≠none:=λz=>RQ z ((JW I.ks m).mp hm);obtain⟨v,hv⟩:=Option.ne_none_iff_exists'.mp hv;obtain⟨_,_,_,_,_,ne⟩:=I.yes m v hv;have ne:qT P l m≠[]:=λz=>ne ((wK pr).mpr z);obtain⟨x,hx⟩:=List.exists_mem_of_ne_nil _ ne;obtain⟨hx,ex⟩:=part_mem.mp hx;refine Int.le_antisymm (xJ (nN.mpr ⟨x,hx,ex⟩)) (vL (λy hy=>?_) (by rw[<-ex];exact nn x hx));obtain⟨x',hx',rfl⟩:=nN.mp hy;exact hle _ (has x' hx')
theorem StL.mono{L l:Nat}{d d':Int}{P:Pl}(h:StL L l d P)(k:d<=d'):StL L l d' P:=⟨h.len,h.nn,λx hx=>Int.le_trans (h.dg x hx) k,h.cf⟩
theorem NumK.upd{K:tF}{H:Hp}{p:Addr}{ag:List (Key×V)}{o:HO}{v:V}{x:Rat}(e:H p=some (.dK ag))(h:NumK K H v x):NumK K (upd H p o) v x:=let ⟨pz,z2,z3⟩:=h;⟨pz,z2,MV e z3⟩
theorem TabsAt.but1{K:tF}{H:Hp}{ta d:Addr}{Td:Tb}{ds:List Addr}{kv:List (Key×V)}{o:HO}(h:TabsAt K H ta Td ds)(e:H d=some (.dK kv))(n:d∉ds):TabsAt K (upd H d o) ta Td ds:=by
 refine⟨by rw[jH (λz=>by have:=h.e;rw[z,e]at this;cases this)];exact h.e,λc hc=>?_⟩;obtain⟨kv',r,p⟩:=h.dk c hc;have cd:c≠d:=λz=>n (z▸hc);refine⟨kv', ?_,Paired.to (λ_ _ q=>q.upd e) p⟩;rcases r with r | ⟨o',r⟩
 ·exact .inl (by rw[jH cd];exact r)
 ·exact .inr ⟨o',by rw[jH cd];exact r⟩
theorem TabsAt.out{K:tF}{H:Hp}{ta d:Addr}{Td:Tb}{ds:List Addr}(h:TabsAt K H ta Td ds)(n:H d=none):d∉ds:=λz=>by
 obtain⟨kv',r | ⟨o,r⟩,_⟩:=h.dk d z<;>rw[r]at n<;>cases n
theorem rMaxK.of{d:Int}{a:Addr}{ag:List (Key×V)}{H:Hp}{Q:VK}{M:Int}(ra:Rd H a (.dK ag))(hk:∀p∈ag,∃i:Int,p.1=.inl i)(h1:ag=[]->M=d)(h2:∀m,m∈kJ ag->(∀x∈kJ ag,x<=m)->m=M)(q:Q (.int M) H):rMaxK d [.ref a] H Q:=⟨a,ag,rfl,ra,hk,λe=>h1 e▸q,λm a b=>h2 m a b▸q⟩
theorem n3600:(3600:Int).natAbs<2^1400:=hJ (show(3600:Int).natAbs<2^12 by decide) (gS (by decide) (by decide))
theorem n60:(60:Int).natAbs<2^1400:=hJ (show(60:Int).natAbs<2^12 by decide) (gS (by decide) (by decide))
structure TdOk(Td:Tb):Prop where
 nd:(Td.map (·.1)).Nodup
 l5:Td.length<=5
 vl:∀e∈Td,Ov 60 9 e.2
 ks:∀e∈Td,e.1.natAbs<2^40
theorem Ov.dn{D:Int}{n m:Nat}{x:Rat}(h:Ov D n x)(hD:0<D)(k:n<m):(x.den:Int)∣D/\x.num.natAbs<2^m:=by
 obtain⟨z,e,hz⟩:=h.ex;have q:=BJ hD e;exact⟨q.1,gX (nL q.2 hz) (gT (by decide) k)⟩
theorem GT.key{Td:Tb}{b:Nat}{T:Tb}(h:GT Td b T)(o:TdOk Td):∀e∈T,e.1.natAbs<2^40:=λe he=>by
 rcases h.ks e.1 (List.mem_map_of_mem he)with z | z
 ·rw[z];decide
 ·obtain⟨e',he',z⟩:=nN.mp z;rw[<-z];exact o.ks e' he'
theorem GT.sz{Td:Tb}{b:Nat}{T:Tb}(h:GT Td b T)(hb:b<7900)(k:Int):SzR 7900 (Lw.tv T k):=(h.tv k).sz (by decide) (d:=12) (by decide) hb (by decide)
theorem GT.szE{Td:Tb}{b:Nat}{T:Tb}(h:GT Td b T)(hb:b<7900):∀e∈T,SzR 7900 e.2:=λe he=>(h.vl e he).sz (by decide) (d:=12) (by decide) hb (by decide)
def BU(K:tF)(n:Nat):Sp:=λvs H Q _=>∃(a ta:Addr) (l L:Nat) (xs:List V) (P:Pl) (Td:Tb) (ds:List Addr),vs=[.ref a,.ref ta,.int l]/\l+n=L/\ds.length=L/\L<=4/\Sq2 H a xs/\(n=0->P≠[]/\H a=some (.lst xs))/\Paired (TmQ K H) xs P/\StL L l 1 P/\P.length<=60/\TdOk Td/\TabsAt K H ta Td ds/\
 ∀(d:Addr) (ag:List (Key×V)) (H':Hp),H d=none->Kp (·∈ds) H H'->TabsAt K H' ta Td ds->H' d=some (.dK ag)->Paired (EntQ K H') ag (wG Td n l P)->Q (.ref d) H'
inductive TpI(K:tF)(H1:Hp)(a ta dp:Addr)(l:Nat)(Td:Tb)(ds:List Addr)(g:Int->Tb->Tb)(m:Nat)(i:Nat):L2.St->Hp->Prop where
 | mk {u:Option V} {H':Hp} {dt:Addr} {kt:List (Key×V)} (n:H1 dt=none) (b:Kp (·∈ds) H1 H') (t:TabsAt K H' ta Td ds) (e:H' dt=some (.dK kt)) (p:Paired (EntQ K H') kt (DJ g m i)):TpI K H1 a ta dp l Td ds g m i [some (.ref a),some (.ref ta),some (.int l),some (.ref dp),some (.ref dt),u] H'
theorem scTp:FnScope ["terms","tables","letter","parts","table","power"] ["terms","tables","letter"] (jL AU):=⟨rfl,rfl,rfl,by decide +kernel,rfl,by decide +kernel,by decide +kernel⟩
theorem EM{fP fM fA:Addr}{fdP fdM fdA:FuncData}(D:Df K mg "table_put_in" AU ["terms","tables","letter"] f fd)(T:Txt mg)(DP:Df K mg "parted" AY ["terms","letter"] fP fdP)(GP:FnOk P w K mg base CX0 1 fP fdP ["terms","letter"] (IN K))(DM:Df K mg "tables_multiplied" wQ ["one","other"] fM fdM)(GM:FnOk P w K mg base CX0 5 fM fdM ["one","other"] (BV K))(DA:Df K mg "tables_added" wR ["one","other"] fA fdA)(GA:FnOk P w K mg base CX0 3 fA fdA ["one","other"] (BW K)):∀n:Nat,FnOk P w K mg base CX0 (n+6) f fd ["terms","tables","letter"] (BU K n)
 | 0=>by
  refine D.F.ok scTp (λvs H Q E h=>?_) (λcdv A outer s H vs Q E hr h=>?_)
  ·obtain⟨a,ta,l,L,xs,PP,Td,ds,rfl,_⟩:=h
   rfl
  ·obtain⟨a,ta,l,L,xs,PP,Td,ds,rfl,hn,ld,hL,ha,h0,pr,st,fw,tdk,tb,go⟩:=h;have hu:_+1<cLine:=gX (Nat.add_le_add_left (by decide:1<=64) _) hr.units;obtain⟨ne,ha⟩:=h0 rfl;refine⟨_,jC (kR (jV zF (pv 2) (kN qD (by rfl) T.len PySem.boot_len (jA (pv 1) jB)) (jU _)) (jE (jO (XZ (TN jJ (kF kH (kF qS (pv 0) jJ (λ_ _=>rfl)) jJ (λ_ _=>rfl)) XU) rfl rfl (by simp) (by decide)))) kA) (EJ), ?_⟩;try dsimp only[cxK]
   have ll:l=(ds.map V.ref).length:=by rw[mS,ld];omega
   refine⟨_,rfl,_,rfl,ta,_,rfl,.inl (SqL.of tb.e),rfl,_,rfl, ?_⟩;refine AN (λ_=>?_) (λc=>absurd (by rw[ll];exact mX rfl) c)
   match PP,xs,pr,ne with
   | y::PP',x::xs',.cons hx pr',_=>
    obtain⟨r,b,c,rfl,r1,r2,r3⟩:=hx;intro d nd;have s1:Same H (upd H d (.dK [])):=jN _ nd;have e1:(upd H d (.dK [])) d=some (.dK []):=jD;generalize upd H d (.dK [])=H1 at s1 e1;refine⟨_,rfl,a,_,_,_,rfl,rfl,SqL.of (s1 _ _ ha),(show atI _ ((0:Nat):Int)=_ from qX rfl),r,_,_,_,rfl,rfl,SqT.of (s1 _ _ r1),rfl,e1,[(.inl 0,.ref c)],rfl,(by show 1<=15;decide), ?_⟩;refine go d [(.inl 0,.ref c)] _ nd (λc' u h _=>jY s1 nd _ _ h) ((tb.same s1).but1 e1 (tb.out nd)) jD (.cons ⟨rfl,NumK.upd e1 (r3.same s1)⟩ .nil)
 | n+1=>by
  have G:FnOk P w K mg base CX0 (n+6) f fd ["terms","tables","letter"] (BU K n):=EM D T DP GP DM GM DA GA n;refine D.F.ok scTp (λvs H Q E h=>?_) (λcdv A outer s H vs Q E hr h=>?_)
  ·obtain⟨a,ta,l,L,xs,PP,Td,ds,rfl,_⟩:=h
   rfl
  ·obtain⟨a,ta,l,L,xs,PP,Td,ds,rfl,hn,ld,hL,ha,h0,pr,st,fw,tdk,tb,go⟩:=h;have hu:_+1<cLine:=gX (Nat.add_le_add_left (by decide:1<=64) _) hr.units;have hr1:Room 1 _:=hr.mono (by omega);have hr3:Room 3 _:=hr.mono (by omega);have hr5:Room 5 _:=hr.mono (by omega);refine⟨_,jC (kR (jV zF (pv 2) (kN qD (by rfl) T.len PySem.boot_len (jA (pv 1) jB)) (jU _)) (jE (qO)) kA) (jC (jP (i:=3) scTp.nd rfl (Or.inl rfl) (jI GP hr1 rfl DP.m DP.F.kp DP.b .nil jM (jA (pv 0) (jA (pv 2) jB)))) (jC (jP (i:=4) scTp.nd rfl (Or.inl rfl) (zA)) (jC (qF PassesOwn.never rfl (pi_rev (by rfl) T.rev (jA (qA MH (by rfl) T.rng boot_range (jA (jW vJ (XY rfl (by rfl) T.max (jA (pv 3) jB) (kC jJ qK)) jJ) jB)) jB)) (jF (i:=5) scTp.nd rfl (Or.inl rfl)) (jC (jP (i:=4) scTp.nd rfl (Or.inl rfl) (jI GM hr5 rfl DM.m DM.F.kp DM.b .nil jM (jA (pv 4) (jA (kF qS (pv 1) (pv 2) (λ_ _=>rfl)) jB)))) (jE (kR (pt_cmp (pc_din hu (pv 5) (pv 3))) (jE (jP (i:=4) scTp.nd rfl (Or.inl rfl) (jI GA hr3 rfl DA.m DA.F.kp DA.b .nil jM (jA (pv 4) (jA (jI G hr rfl D.m D.F.kp D.b .nil jM (jA (HE hu (pv 3) (pv 5) (λ_ _=>rfl)) (jA (pv 1) (jA (jW vJ (pv 2) jJ) jB)))) jB))))) kA)))) (jE (jO (pv 4)))))), ?_⟩
   try dsimp only[cxK]
   have lx:xs.length=PP.length:=Paired.length pr;have ll:(l:Int)≠((ds.map V.ref).length:Int):=by rw[mS,ld];omega
   refine⟨_,rfl,_,rfl,ta,_,rfl,.inl (SqL.of tb.e),rfl,_,rfl,vI (mU λz=>ll (V.int.inj z)) ?_⟩;refine⟨_,rfl,_,rfl,a,l,L,xs,PP,rfl,ha,pr,st.len,by omega,fw,λdp kvp H1 n1 s1 I1=>?_⟩;have pm:=TY pr I1 λx hx=>(st.pw (show l<L by omega) hx).1;have mb:=st.mx (show l<L by omega) (by decide);intro dt0 nt0;have t1:=tb.same s1;have s2:Same H1 (upd H1 dt0 (.dK [])):=jN _ nt0;have e2:(upd H1 dt0 (.dK [])) dt0=some (.dK []):=jD;generalize upd H1 dt0 (.dK [])=H2 at s2 e2;have I2:=I1.same s2;generalize hg:yR Td (wG Td n (l+1)) PP l=g;have mnn:mxP PP l+1=(((mxP PP l).toNat+1:Nat):Int):=by omega
   have gz:∀i,i<=(mxP PP l).toNat->G0 (DJ g (mxP PP l).toNat i):=λi hi=>by rw[<-hg];exact LB st (by omega) i hi
   have m1:(mxP PP l).toNat<=1:=by omega
   have fine:wG Td (n+1) l PP=DJ g (mxP PP l).toNat ((mxP PP l).toNat+1):=by rw[<-hg];rfl
   dsimp only[jX];refine⟨_,rfl,0,rfl,rMaxK.of (M:=mxP PP l) (.inl I2.e) I2.ks pm.1 pm.2 ⟨_,_,rfl,rfl,_,rfl,λpr0 npr=>?_⟩⟩;rw[mnn];generalize (mxP PP l).toNat=m at gz m1 fine;have s3:Same H2 (upd H2 pr0 (.rng 0 ((m+1:Nat):Int))):=jN _ npr;have e3:(upd H2 pr0 (.rng 0 ((m+1:Nat):Int))) pr0=some (.rng 0 ((m+1:Nat):Int)):=jD;generalize upd H2 pr0 (.rng 0 ((m+1:Nat):Int))=H3 at s3 e3;have dpo:dp∉ds:=tb.out n1;refine⟨pr0,m+1,rfl,e3,by omega,VZ (n:=m+1) (TpI K H1 a ta dp l Td ds g m) (.mk nt0 (λc u h _=>(s2.trans s3) _ _ h) (t1.same (s2.trans s3)) (s3 _ _ e2) .nil) (λi σ H4 hi h=>?_) (fun σ H4 h=>?_)⟩
   ·obtain⟨nt,bt,tt,et,pt⟩:=h;rename_i dt kt;have el:(((m+1:Nat):Int))-1-(i:Int)=(m:Int)-i:=by omega
    rw[el];have z:=gz i (by omega);have zg:=z.gt (Td:=Td);have zm:=z.mul tdk.nd tdk.vl tdk.l5;have acs:DJ g m (i+1)=yR Td (wG Td n (l+1)) PP l ((m:Int)-i) (DJ g m i):=by rw[hg];rfl
    generalize DJ g m i=A at pt z zg zm acs;generalize hp:(m:Int)-(i:Int)=p at acs;have p0:0<=p:=by omega
    have dto:dt∉ds:=t1.out nt;have lt:l<ds.length:=by omega
    have hdl:ds[l]? = some ds[l]:=gI lt;have mdl:ds[l]∈ds:=List.getElem_mem lt;generalize ds[l]=dl at hdl mdl;obtain⟨kl,rl,pl⟩:=tt.dk dl mdl;have dd:dt≠dl:=λz=>dto (z▸mdl);refine⟨_,rfl,_,rfl,_,rfl,ta,_,_,_,rfl,rfl,SqL.of tt.e,qX (by rw[mC,hdl];rfl), ?_⟩;refine⟨dt,dl,kt,kl,A,Td,3600,60,rfl,dd,.inl et,rl,pt,pl,zg.nd,tdk.nd,nL zg.ln (by decide),nL tdk.l5 (by decide),nL (mZ zg.ln tdk.l5) (by decide),by decide,n3600,by decide,n60,λe he=>((zg.vl e he).dn (by decide) (mR _)).1,λe he=>((tdk.vl e he).dn (by decide) (mR _)).1,λe he=>((zg.vl e he).dn (by decide) (by decide)).2,λe he=>((tdk.vl e he).dn (by decide) (by decide)).2,zg.key tdk,tdk.ks,λdm km H5 n5 b5 rl5 e5 p5=>?_⟩;have S5:Kp (λc=>c=dt∨c=dl) H4 H5:=λc u h hc=>b5 c u h (λz=>hc (.inl z)) (λz=>hc (.inr z));have D5:Dcs H4 (λc=>c=dt∨c=dl):=λc hc=>hc.elim (λz=>⟨kt,z▸.inl et⟩) (λz=>⟨kl,z▸rl⟩);have bt5:Kp (·∈ds) H1 H5:=λc u h hc=>b5 c u (bt c u h hc) (λz=>by rw[z,nt]at h;cases h) (λz=>hc (z▸mdl));have tt5:TabsAt K H5 ta Td ds:=⟨S5.lst D5 tt.e,λc hc=>by
     by_cases y:c=dl
     ·exact⟨kl,y▸rl5,Paired.to (λ_ _ q=>S5.ent D5 q) pl⟩
     ·obtain⟨kc,rc,pc⟩:=tt.dk c hc;have yd:c≠dt:=λz=>dto (z▸hc);refine⟨kc, ?_,Paired.to (λ_ _ q=>S5.ent D5 q) pc⟩;rcases rc with r | ⟨o,r⟩
      ·exact .inl (b5 _ _ r yd y)
      ·exact .inr ⟨o,b5 _ _ r yd y⟩⟩
    have n15:H1 dm=none:=by
     cases q:H1 dm with
     | none=>rfl
     | some u=>
      by_cases y:dm∈ds
      ·exact absurd y (tt.out n5)
      ·rw[bt dm u q y]at n5;cases n5
    have ep5:H5 dp=some (.dK kvp):=bt5 _ _ I1.e dpo;dsimp only[jX];refine⟨_,rfl,_,rfl,dp,_,rfl,DGet.k (k:=.inl p) ep5,_,rfl, ?_⟩;cases hv:kS kvp (.inl p:Key)with
    | none=>
     refine vI rfl ?_;refine .mk n15 bt5 tt5 e5 ?_;rw[acs];unfold yR;rw[tD ((wK pr).mp (I1.no p hv))];exact p5
    | some v=>
     obtain⟨q,rfl,fq,qd,eq1,nez⟩:=I1.yes p v hv;have nep:qT PP l p≠[]:=λz=>nez ((wK pr).mpr z);refine xO rfl ?_;have qo:q∉ds:=tb.out fq;have eq5:=bt5 _ _ eq1 qo;have tm1:Paired (TmQ K H1) xs PP:=Paired.to (λ_ _ h=>h.same s1) pr;have tm5:Paired (TmQ K H5) xs PP:=Paired.to (λ_ _ h=>bt5.tm t1.dc h) tm1;have sN:=(st.next (p:=p) (show l<L by omega)).mono (d':=1) (by omega);refine⟨_,rfl,_,rfl,_,rfl,dp,.ref q,rfl,hv▸DGet.k (k:=.inl p) ep5,_,rfl,_,rfl,_,_,rfl,rfl, ?_⟩;refine⟨q,ta,l+1,L,_,qT PP l p,Td,ds,rfl,by omega,ld,hL,.inr eq5,λ_=>⟨nep,eq5⟩,FI tm5,sN,nL (List.length_filter_le ..) fw,tdk,tt5,λd2 k2 H6 n6 b6 tt6 e6 p6=>?_⟩;have gr:=CC (L:=L) tdk.nd tdk.vl tdk.l5 n (l+1) (qT PP l p) (by omega) sN;have dmo:dm∉ds:=tt.out n5;have em6:=b6 _ _ e5 dmo;have pm6:Paired (EntQ K H6) km (uS A Td):=Paired.to (λ_ _ h=>b6.ent tt5.dc h) p5;have lg:=gr.ln;have lz:=zm.ln;refine⟨dm,d2,km,k2,uS A Td,wG Td n (l+1) (qT PP l p),rfl,.inl em6,e6,pm6,p6,zm.nd,gr.nd,by omega,zm.sz (by decide),gr.szE (by omega),λd3 k3 T3 H7 n7 b7 e7 p7 _ eT=>?_⟩;have d2o:d2∉ds:=tt5.out n6;have n12:H1 d2=none:=by
      cases q:H1 d2 with
      | none=>rfl
      | some u=>
       by_cases y:d2∈ds
       ·exact absurd y d2o
       ·rw[bt5 d2 u q y]at n6;cases n6
     have S7:Kp (λc=>c=d2) H6 H7:=λc u h hc=>b7 c u h hc;have D7:Dcs H6 (λc=>c=d2):=λc hc=>⟨k2,hc▸.inl e6⟩;refine .mk ?_ (λc u h hc=>b7 c u (b6 c u (bt5 c u h hc) hc) (λz=>by rw[z,n12]at h;cases h)) ⟨S7.lst D7 tt6.e,λc hc=>?_⟩ e7 ?_
     ·cases q:H1 d3 with
      | none=>rfl
      | some u=>
       by_cases y:d3∈ds
       ·exact absurd y (tt6.out n7)
       ·rw[b6 _ _ (bt5 d3 u q y) y]at n7;cases n7
     ·obtain⟨kc,rc,pc⟩:=tt6.dk c hc;have cd2:c≠d2:=λz=>d2o (z▸hc);refine⟨kc, ?_,Paired.to (λ_ _ q=>S7.ent D7 q) pc⟩;rcases rc with r | ⟨o,r⟩
      ·exact .inl (b7 _ _ r cd2)
      ·exact .inr ⟨o,b7 _ _ r cd2⟩
     ·rw[acs];unfold yR;rw[nZ nep,<-eT];exact p7
   ·obtain⟨nt,bt,tt,et,pt⟩:=h;rename_i dt kt;rw[<-fine]at pt;exact⟨_,rfl,go dt kt H4 (s1.free nt) (λc u h hc=>bt c u (s1 _ _ h) hc) tt et pt⟩
end Lw
namespace LwQ
def mono:List (Int×Int)->List Int->Rat
 | p::S,n::ns=>fv p.1 p.2^n.toNat*mono S ns
 | _,_=>1
theorem ER:∀(S:List (Int×Int)) (ns:List Int) (p:Int×Int) (n:Int),S.length=ns.length->mono (S++[p]) (ns++[n])=mono S ns*fv p.1 p.2^n.toNat
 | [],[],p,n,_=>by
  show fv p.1 p.2^n.toNat*1=1*_
  grind
 | q::S,m::ns,p,n,h=>by
  have ih:=ER S ns p n (by simpa using h);show fv q.1 q.2^m.toNat*mono (S++[p]) (ns++[n])=fv q.1 q.2^m.toNat*mono S ns*_;rw[ih]
  grind
 | [],_::_,_,_,h=>by simp at h
 | _::_,[],_,_,h=>by simp at h
theorem mono_take{S:List (Int×Int)}{ns:List Int}{j:Nat}{p:Int×Int}{n:Int}(hS:S[j]? = some p)(hn:ns[j]? = some n):mono (S.take (j+1)) (ns.take (j+1))=mono (S.take j) (ns.take j)*fv p.1 p.2^n.toNat:=by
 obtain⟨h1,e1⟩:=gG.mp hS;obtain⟨h2,e2⟩:=gG.mp hn;rw[List.take_succ_eq_append_getElem h1,List.take_succ_eq_append_getElem h2,e1,e2];refine ER _ _ _ _ ?_;rw[mK,mK];omega
def uF:List (Int×Int)->List Int->Int
 | p::S,m::ms=>p.2^m.toNat*uF S ms
 | _,_=>1
def wB:List (Int×Int)->List Int->List Int->Int
 | p::S,m::ms,n::ns=>p.1^n.toNat*p.2^(m-n).toNat*wB S ms ns
 | _,_,_=>1
theorem FA:∀(S:List (Int×Int)) (ns:List Int) (p:Int×Int) (n:Int),S.length=ns.length->uF (S++[p]) (ns++[n])=uF S ns*p.2^n.toNat
 | [],[],p,n,_=>by
  show p.2^n.toNat*1=1*_
  grind
 | q::S,m::ns,p,n,h=>by
  have ih:=FA S ns p n (by simpa using h);show q.2^m.toNat*uF (S++[p]) (ns++[n])=q.2^m.toNat*uF S ns*_;rw[ih]
  grind
 | [],_::_,_,_,h=>by simp at h
 | _::_,[],_,_,h=>by simp at h
theorem QW{S:List (Int×Int)}{ns:List Int}{j:Nat}{p:Int×Int}{n:Int}(hS:S[j]? = some p)(hn:ns[j]? = some n):uF (S.take (j+1)) (ns.take (j+1))=uF (S.take j) (ns.take j)*p.2^n.toNat:=by
 obtain⟨h1,e1⟩:=gG.mp hS;obtain⟨h2,e2⟩:=gG.mp hn;rw[List.take_succ_eq_append_getElem h1,List.take_succ_eq_append_getElem h2,e1,e2];refine FA _ _ _ _ ?_;rw[mK,mK];omega
theorem DY:∀(S:List (Int×Int)) (ms ns:List Int) (p:Int×Int) (m n:Int),S.length=ms.length->S.length=ns.length->wB (S++[p]) (ms++[m]) (ns++[n])=wB S ms ns*p.1^n.toNat*p.2^(m-n).toNat
 | [],[],[],p,m,n,_,_=>by
  show p.1^n.toNat*p.2^(m-n).toNat*1=1*_*_
  grind
 | q::S,a::ms,b::ns,p,m,n,h1,h2=>by
  have ih:=DY S ms ns p m n (by simpa using h1) (by simpa using h2);show q.1^b.toNat*q.2^(a-b).toNat*wB (S++[p]) (ms++[m]) (ns++[n])=q.1^b.toNat*q.2^(a-b).toNat*wB S ms ns*_*_;rw[ih]
  grind
 | [],[],_::_,_,_,_,_,h=>by simp at h
 | [],_::_,_,_,_,_,h,_=>by simp at h
 | _::_,[],_,_,_,_,h,_=>by simp at h
 | _::_,_::_,[],_,_,_,_,h=>by simp at h
theorem OY{S:List (Int×Int)}{ms ns:List Int}{j:Nat}{p:Int×Int}{m n:Int}(hS:S[j]? = some p)(hm:ms[j]? = some m)(hn:ns[j]? = some n):wB (S.take (j+1)) (ms.take (j+1)) (ns.take (j+1))=wB (S.take j) (ms.take j) (ns.take j)*p.1^n.toNat*p.2^(m-n).toNat:=by
 obtain⟨h1,e1⟩:=gG.mp hS;obtain⟨h2,e2⟩:=gG.mp hm;obtain⟨h3,e3⟩:=gG.mp hn;rw[List.take_succ_eq_append_getElem h1,List.take_succ_eq_append_getElem h2,List.take_succ_eq_append_getElem h3,e1,e2,e3];refine DY _ _ _ _ _ _ ?_ ?_<;>(rw[mK,mK];omega)
theorem KJ:∀(S:List (Int×Int)) (ms:List Int),(∀p∈S,0<p.2)->0<uF S ms
 | [],_,_=>by show(0:Int)<1;decide
 | _::_,[],_=>by show(0:Int)<1;decide
 | p::S,m::ms,h=>by
  show 0<p.2^m.toNat*uF S ms;exact nS (Int.pow_pos (h p (hW ..))) (KJ S ms λq hq=>h q (gR _ hq))
theorem wV{a:Int}{k:Nat}(h:a.natAbs<=2^k):∀n,(a^n).natAbs<=2^(k*n)
 | 0=>by simp
 | n+1=>by
  rw[Int.pow_succ,mY,Nat.mul_succ,nU];exact mZ (wV h n) h
theorem JP{a b:Int}{m n:Nat}(ha:a.natAbs<=2^m)(hb:b.natAbs<=2^n):(a*b).natAbs<=2^(m+n):=by
 rw[mY,nU];exact mZ ha hb
end LwQ
namespace Lw
open PySem PySem.Spec PyProof.Rows L2 LwQ LwV
theorem wJ{K:tF}{a b:Addr}{ts us:List V}{σ0:L2.St}{g:TG}{te:TE}{Q:VK}{p:Addr}{H':Hp}(Pv:Nat->List V->Hp->Prop)(hle:ts.length=us.length)(hz:us.length<sizeLine)(h0:Pv 0 [] H')
  (hl:∀i ys H2,Pv i ys H2->SqT K H2 a ts/\SqL K H2 b us/\H2 p=some (.lst ys))
  (hs:∀i m ys x y c H2,ts[i]? = some x->us[i]? = some y->m=us.length-i->ys.length=i->Pv i ys H2->H2 c=none->g (.ref c) σ0 (upd H2 c (.tup [x,y])) fun σ4 H4=>Keep σ0 σ4/\te σ4 H4 λy H5=>H5 p=some (.lst ys)/\∃m',m'<m/\CompW us Pv (i+1) m' (ys++[y]) (upd H5 p (.lst (ys++[y]))))
  (hd:∀ys H2,ys.length=us.length->Pv us.length ys H2->Q (.ref p) H2):CompGoF σ0 (Itu K a b) g te Q p H':=by
 refine⟨CompW us Pv,⟨_,rfl,nR _,rfl,h0⟩, ?_⟩;rintro i m ys H2 ⟨hm,hi,hy,hp⟩;obtain⟨q1,q2,e⟩:=hl i ys H2 hp;refine⟨e,by omega, ?_⟩;by_cases hlt:i<us.length
 ·have h2:i<ts.length:=by omega
  refine .inr ⟨⟨ts,us,ts[i],us[i],q1,q2,by simp [h2],by simp [hlt]⟩, ?_⟩;rintro _ _ ⟨c,x,y,hc,rfl,rfl,h1,h2⟩;exact hs i m ys x y c H2 (h1 _ q1) (h2 _ q2) hm hy hp hc
 ·obtain rfl:i=us.length:=by omega
  exact .inl ⟨⟨ts,us,q1,q2,.inr gA⟩,hd ys H2 hy hp⟩
theorem NK:∀n,pk (List.replicate n 0)=0
 | 0=>rfl
 | n+1=>by rw[List.replicate_succ',yL,NK n];rfl
theorem YY(aa:Nat):KyP aa 0:=⟨List.replicate aa 0,gO,λn hn=>by rw[List.eq_of_mem_replicate hn];exact nV _,by rw[show(List.replicate aa (0:Int)).sum=0 by induction aa with | zero=>rfl | succ n ih=>rw[List.replicate_succ,nI,ih];rfl];decide,(NK aa).symm⟩
theorem StL.td{aa:Nat}{P:Pl}(ok:PlOk aa P)(st:StL aa 0 1 P)(l5:P.length<=5):TdOk (kB P):=by
 refine⟨ok.nd,by rw[qR];exact l5,λe he=>?_,λe he=>?_⟩
 ·obtain⟨x,hx,rfl⟩:=nN.mp he;exact st.cf x hx
 ·obtain⟨x,hx,rfl⟩:=nN.mp he;exact jQ (wX (ok.byt hx) (by rw[ok.len x hx];exact ok.m4)) (by decide)
theorem NS(d:Int):∀ns:List Int,(ns.map λn=>n*d).sum=ns.sum*d
 | []=>by rw[List.map_nil,List.sum_nil,Int.zero_mul]
 | a::r=>by rw[nE,nI,nI,NS d r,Int.add_mul]
def AS(K:tF):Sp:=λvs H Q _=>∃(p1 oa p2:Addr) (aa:Nat) (P1 P2:Pl),vs=[.ref p1,.ref oa]/\SumQ K H p1 aa P1/\SumQ K H p2 aa P2/\PlOk aa P1/\PlOk aa P2/\StL aa 0 1 P1/\StL aa 0 1 P2/\P2.length<=5/\H oa=some (.lst (List.replicate aa (.ref p2)))/\
 ∀(p:Addr) (P:Pl) (H':Hp),H p=none->Same H H'->SumQ K H' p aa P->SumT aa (wG (kB P2) aa 0 P1) P->Q (.ref p) H'
inductive PiI(H:Hp)(p1 oa dg:Addr):L2.St->Hp->Prop where
 | mk {u v w:Option V} {H':Hp} (s:Same H H'):PiI H p1 oa dg [some (.ref p1),some (.ref oa),some (.ref dg),u,v,w,none] H'
structure TsI(K:tF)(H1:Hp)(q:Addr)(Td:Tb)(i:Nat)(ys:List V)(H2:Hp):Prop where
 s:Same H1 H2
 e:H2 q=some (.lst ys)
 y:∃ds:List Addr,ys=ds.map V.ref/\ds.length=i/\∀d∈ds,H1 d=none/\∃kv,H2 d=some (.dK kv)/\Paired (EntQ K H2) kv Td
theorem EY{K:tF}{H:Hp}{p:Addr}{xs ys:List V}(e:H p=some (.lst xs)){kv:Key×V}{x:Int×Rat}(h:EntQ K H kv x):EntQ K (upd H p (.lst ys)) kv x:=by
 obtain⟨z1,pz,z2,z3⟩:=h;refine⟨z1,pz,z2, ?_⟩;rcases z3 with(h | ⟨u,h⟩) | h
 ·exact .inl (.inl (by rw[jH λz=>by rw[z,e]at h;cases h];exact h))
 ·exact .inl (.inr ⟨u,by rw[jH λz=>by rw[z,e]at h;cases h];exact h⟩)
 ·exact .inr h
variable{P:Program}{w:World}{K:tF}{mg:Str->Option Value}{base:Heap}{f fd:_}
theorem scPi:FnScope ["one","others","degrees","powers","fraction","reached","tables"] ["one","others"] (jL FZ):=⟨rfl,rfl,rfl,by decide +kernel,rfl,by decide +kernel,by decide +kernel⟩
theorem UL{fD fT fP fS:Addr}{fdD fdT fdP fdS:FuncData}(F:Fun K "put_in" "put_in" FZ f fd)(T:Txt mg)(DD:Df K mg "degree" yI ["one"] fD fdD)(GD:FnOk P w K mg base CX0 1 fD fdD ["one"] (uN K))(DT:Df K mg "table_of" wF ["one"] fT fdT)(GT:FnOk P w K mg base CX0 2 fT fdT ["one"] (wP K))(DP:Df K mg "table_put_in" AU ["terms","tables","letter"] fP fdP)(GP:∀n,FnOk P w K mg base CX0 (n+6) fP fdP ["terms","tables","letter"] (BU K n))(DS:Df K mg "sum_of" yX ["many","table"] fS fdS)(GS:FnOk P w K mg base CX0 2 fS fdS ["many","table"] (zN K)):FnOk P w K mg base CX0 11 f fd ["one","others"] (AS K):=by
 obtain⟨td,hd⟩:=T.degree;refine F.ok scPi (λvs H Q E h=>?_) (λcdv A outer s H vs Q E hr h=>?_)
 ·obtain⟨p1,oa,p2,aa,P1,P2,rfl,_⟩:=h
  rfl
 ·obtain⟨p1,oa,p2,aa,P1,P2,rfl,q1,q2,o1,o2,st1,st2,l5,eo,go⟩:=h;have hr1:Room 1 _:=hr.mono (by decide);have hr2:Room 2 _:=hr.mono (by decide);have m4:=o1.m4;have hrP:Room (aa+6) _:=hr.mono (by omega);have GP:=GP aa;refine⟨_,jC (yJ (i:=2) scPi.nd rfl (Or.inl rfl) (own:=1) (idx:=[]) (N:=["other"]) rfl rfl rfl (by decide +kernel) (by decide +kernel) (λ_ _ h=>nomatch h) (qH rfl) rfl (λ_ _ _ h=>nomatch h) (vP (pv 1)) (λC fp s2 H2=>(jF (i:=0) (show List.Nodup (["other"]:List Str) by decide +kernel) rfl (Or.inl rfl) (Or.inr rfl))) (λC fp s2 H2=>jI GD hr1 rfl DD.m DD.F.kp DD.b .nil jM (jA (pv 0) jB))) (jC (qF PassesOwn.never rfl (xF (kF kH (pv 0) jJ (λ_ _=>rfl))) (kD rfl (jG (jF (i:=3) scPi.nd rfl (Or.inl rfl)) (jG (jF (i:=4) scPi.nd rfl (Or.inl rfl)) jR))) (jC (jP (i:=5) scPi.nd rfl (Or.inl rfl) (kN (RD rfl) (by rfl) T.sum boot_sum (jA (vE (own:=2) (idx:=[]) (N:=["power","most"]) rfl rfl rfl (by decide +kernel) (by decide +kernel) (λ_ _ h=>nomatch h) (qH rfl) rfl (λ_ _ _ h=>nomatch h) (BC (by rfl) T.zip (jA (pv 3) (jA (pv 2) jB))) (λC fp s2 H2=>show PG (jK _ ["power","most"] _ _ C fp s2 H2) _ (wZ K 2 (qI (jX 0) (qI (jX 1) gNil)))from kD (X:=jK _ ["power","most"] _ _ C fp s2 H2) rfl (jG (jF (i:=0) (show List.Nodup (["power","most"]:List Str) by decide +kernel) rfl (Or.inl rfl) (Or.inr rfl)) (jG (jF (i:=1) (show List.Nodup (["power","most"]:List Str) by decide +kernel) rfl (Or.inl rfl) (Or.inr rfl)) jR))) (λC fp s2 H2=>jW kZ (pv 0) (pv 1))) jB))) (jE (kR (jV xS (pv 5) (kQ (v:=.int 16) (by rfl) hd ⟨_,rfl⟩) (jU _)) (jE (qO)) kA)))) (jC (yJ (i:=6) scPi.nd rfl (Or.inl rfl) (own:=1) (idx:=[]) (N:=["other"]) rfl rfl rfl (by decide +kernel) (by decide +kernel) (λ_ _ h=>nomatch h) (qH rfl) rfl (λ_ _ _ h=>nomatch h) (vP (pv 1)) (λC fp s2 H2=>(jF (i:=0) (show List.Nodup (["other"]:List Str) by decide +kernel) rfl (Or.inl rfl) (Or.inr rfl))) (λC fp s2 H2=>jI GT hr2 rfl DT.m DT.F.kp DT.b .nil jM (jA (pv 0) jB))) (jE (jO (jI GS hr2 rfl DS.m DS.F.kp DS.b .nil jM (jA (kF kH (kF qS (pv 1) jJ (λ_ _=>rfl)) jJ (λ_ _=>rfl)) (jA (jI GP hrP rfl DP.m DP.F.kp DP.b .nil jM (jA (kF kH (pv 0) jJ (λ_ _=>rfl)) (jA (pv 6) (jA jJ jB)))) jB))))))), ?_⟩
  try dsimp only[cxK]
  have dg1:xP P2<=1:=MC (λx hx=>st2.dg x hx) (by decide);have dg0:0<=xP P2:=by
   have:∀m:List Int,0<=m.foldr max 0:=λm=>by
    induction m with
    | nil=>exact nV _
    | cons a m ih=>show 0<=max a (m.foldr max 0);omega
   exact this _
  have rl:∀{n:Nat} {x y:V} {i:Nat},(List.replicate n x)[i]? = some y->y=x:=λh=>List.eq_of_mem_replicate (gQ h);have d10:(xP P2).natAbs<2^10:=by have:(2:Nat)^10=1024:=rfl;omega
  refine⟨_,rfl,oa,rfl,⟨_,SqL.of eo⟩,λl1 H1 n1 s1 e1=>?_⟩;refine yQ (K:=K) (a:=oa) (xs:=List.replicate aa (.ref p2)) (CmI (λi=>List.replicate i (.int (xP P2))) l1 H) (by rw[gO,sizeLine_eq];omega) ⟨s1,e1,rfl⟩ (λi ys H2 h=>⟨SqL.of (h.s _ _ eo),h.e⟩) ?_ ?_
  ·rintro i m ys x H2 hx hm hy ⟨s2,e2,ey⟩;obtain rfl:=rl hx;refine⟨zJ,_,rfl,p2,aa,16,P2,rfl,q2.same s2,o2.pd,m4,by decide,by have:=o2.few;omega,λH3 s3=>?_⟩;exact kL hx hm hy (s3 _ _ e2) ⟨jY (s2.trans s3) n1,jD,by rw[ey,List.replicate_succ']⟩
  ·rintro ys H2 hl ⟨s2,e2,ey⟩;rw[gO]at ey;subst ey;obtain⟨q,xs,e3,e4,pr⟩:=q1.ex;refine⟨_,rfl,p1,_,_,_,rfl,rfl,SqT.of (s2 _ _ e3),rfl,q,rfl,⟨_,SqT.of (s2 _ _ e4)⟩,uA (K:=K) (a:=q) (xs:=xs) (λ_=>PiI H2 p1 oa l1) (.mk (Same.refl _)) (λi σ H3 _ h=>?_) (λi x σ H3 hx h=>?_) (fun σ H3 h=>?_)⟩
   ·obtain⟨s3⟩:=h;exact SqT.of ((s2.trans s3) _ _ e4)
   ·obtain⟨s3⟩:=h;obtain⟨y,hy,r,b,c,rfl,r1,r2,r3⟩:=Paired.at pr hx;have ym:=gQ hy;have ly:=o1.len y ym;refine gT2 (SqT.of ((s2.trans s3) _ _ r1)) rfl ?_;refine⟨_,rfl,_,rfl,b,l1,rfl,⟨_,SqT.of ((s2.trans s3) _ _ r2)⟩,⟨_,SqL.of (s3 _ _ e2)⟩,λl2 H4 n4 s4 e4'=>?_⟩;refine wJ (K:=K) (a:=b) (b:=l1) (ts:=y.1.map V.int) (us:=List.replicate aa (.int (xP P2))) (CmI (λi=>(y.1.take i).map λn=>V.int (n*xP P2)) l2 H3) (by rw[mS,gO];exact ly) (by rw[gO,sizeLine_eq];omega) ⟨s4,e4',rfl⟩ (λi ys H5 h=>⟨SqT.of (h.s _ _ ((s2.trans s3) _ _ r2)),SqL.of (h.s _ _ (s3 _ _ e2)),h.e⟩) ?_ ?_
    ·rintro i m ys x' y' c' H5 hx' hy' hm hyl ⟨s5,e5,ey⟩ hc;obtain rfl:=rl hy';rw[mC]at hx';cases hn:y.1[i]? with
     | none=>rw[hn]at hx';cases hx'
     | some n=>
      rw[hn]at hx';cases hx';have nb:=(vZ (o1.nn y ym) (gQ hn)).1;have n0:=o1.nn y ym n (gQ hn);have nd:=o1.deg y ym;have n10:n.natAbs<2^10:=by have:(2:Nat)^10=1024:=rfl;omega
      have s6:Same H5 (upd H5 c' (.tup [V.int n,.int (xP P2)])):=jN _ hc;refine⟨c',_,rfl,SqT.of jD,rfl,_,_,rfl,_,_,rfl,rfl,AE,_,rfl,_,rfl,_,_,rfl,rfl,⟨jQ n10 (by decide),jQ d10 (by decide)⟩, ?_⟩;refine kL hy' hm hyl (s6 _ _ e5) ⟨jY (s5.trans s6) n4,jD, ?_⟩;rw[ey,mE,hn,mT]
      rfl
    ·rintro ys H5 hl5 ⟨s5,e5,ey⟩;rw[gO,<-ly,mN]at ey;have em:ys=(y.1.map λn=>n*xP P2).map V.int:=by rw[ey,nO];rfl
     subst em;refine⟨l2,_,rfl,SqL.of e5, ?_⟩;dsimp only[jX];have dd:y.1.sum<=1:=st1.dg y ym;have sm:(y.1.map λn=>n*xP P2).sum<=16:=by
      rw[NS];rcases(show xP P2=0∨xP P2=1 by omega)with z | z
      ·rw[z,Int.mul_zero];decide
      ·rw[z,Int.mul_one];omega
     refine⟨_,rfl,_,_,rfl,rfl,_,rfl,vI (mU (by omega)) (.mk (s3.trans s5))⟩
   ·obtain⟨s3⟩:=h;have s03:=s2.trans s3;refine⟨_,rfl,oa,rfl,⟨_,SqL.of (s03 _ _ eo)⟩,λl6 H4 n4 s4 e4'=>?_⟩;refine yQ (K:=K) (a:=oa) (xs:=List.replicate aa (.ref p2)) (TsI K H3 l6 (kB P2)) (by rw[gO,sizeLine_eq];omega) ⟨s4,e4',[],rfl,rfl,λ_ h=>nomatch h⟩ (λi ys H5 h=>⟨SqL.of (h.s _ _ (s03 _ _ eo)),h.e⟩) ?_ ?_
    ·rintro i m ys x H5 hx hm hy ⟨s5,e5,ds,rfl,ld,hds⟩;obtain rfl:=rl hx;refine⟨zJ,_,rfl,p2,aa,P2,rfl,q2.same (s03.trans s5),o2,λd ag H6 n6 s6 e6 p6=>?_⟩;have e56:=s6 _ _ e5;have dl:∀{d:Addr} {kv:List (Key×V)},H6 d=some (.dK kv)->d≠l6:=λh z=>by rw[z,e56]at h;cases h
     refine kL hx hm hy e56 ⟨jY (s5.trans s6) n4,jD,ds++[d],by rw[mT];rfl,by rw[gY,ld];rfl,λd' hd'=>?_⟩;rcases mV.mp hd' with hd' | hd'
     ·obtain⟨h1,kv,h2,h3⟩:=hds d' hd';exact⟨h1,kv,by rw[jH (dl (s6 _ _ h2))];exact s6 _ _ h2,Paired.to (λ_ _ q=>EY e56 (q.same s6)) h3⟩
     ·rw[hU.mp hd'];exact⟨s5.free n6,ag,by rw[jH (dl e6)];exact e6,Paired.to (λ_ _ q=>EY e56 q) p6⟩
    ·rintro ys H5 hl5 ⟨s5,e5,ds,rfl,ld,hds⟩;rw[gO]at ld;dsimp only[jX];have s05:=s03.trans s5;obtain⟨qq,xx,f1,_⟩:=(q2.same s05).ex;have tda:=st2.td o2 l5;have gr:=CC (L:=aa) tda.nd tda.vl tda.l5 aa 0 P1 (by omega) st1;refine⟨_,rfl,oa,_,_,_,rfl,rfl,SqL.of (s05 _ _ eo),(show atI _ ((0:Nat):Int)=_ from qX (by rw[List.getElem?_replicate,tD (show 0<aa from o1.m1)])),p2,_,_,_,rfl,rfl,SqT.of f1,rfl,_,rfl,p1,_,_,_,rfl,rfl,SqT.of (s05 _ _ e3),rfl,_,rfl, ?_⟩;refine⟨q,l6,0,aa,xs,P1,kB P2,ds,rfl,by omega,ld,m4,.inl (s05 _ _ e4),λz=>by have:=o1.m1;omega,Paired.to (λ_ _ h=>h.same s05) pr,st1,o1.few,tda,⟨e5,λd hd=>let ⟨_,kv,h2,h3⟩:=hds d hd;⟨kv,.inl h2,h3⟩⟩,λd ag H6 n6 b6 t6 e6 p6=>?_⟩;have s06:Same H H6:=λc u h=>b6 c u (s05 _ _ h) λz=>by have:=(hds c z).1;rw[s03 _ _ h]at this;cases this
     have lg:=gr.ln;refine⟨d,aa,ag,_,rfl,.inl e6,p6,gr.nd,by omega,λk hk=>(gr.ks k hk).elim (λz=>z▸YY aa) (o2.ky k),o1.m1,m4,λp PP H7 n7 s7 SQ ST=>go p PP H7 (s06.free n7) (s06.trans s7) SQ ST⟩
def BQ(n:Nat):List V:=(List.range n).map λ(i:Nat)=>V.int (0+(i:Int))
theorem wL(n:Nat):(BQ n).length=n:=by simp [BQ]
theorem BP{n i:Nat}{x:V}(h:(BQ n)[i]? = some x):x=.int (0+(i:Int))/\i<n:=by
 unfold BQ at h;rw[mC]at h;cases e:(List.range n)[i]? with
 | none=>rw[e]at h;cases h
 | some j=>
  rw[e]at h;obtain⟨h1,h2⟩:=gG.mp e;rw[List.getElem_range]at h2;subst h2;rw[List.length_range]at h1;exact⟨(Option.some.inj h).symm,h1⟩
theorem zK{n:Nat}{σ0:L2.St}{g:TG}{te:TE}{Q:VK}{p:Addr}{H':Hp}(Pv:Nat->List V->Hp->Prop)(hz:n<sizeLine)(h0:Pv 0 [] H')(hl:∀i ys H2,Pv i ys H2->H2 p=some (.lst ys))
  (hs:∀i m ys x H2,(BQ n)[i]? = some x->m=(BQ n).length-i->ys.length=i->Pv i ys H2->g (.int (0+(i:Int))) σ0 H2 fun σ4 H4=>Keep σ0 σ4/\te σ4 H4 λy H5=>H5 p=some (.lst ys)/\∃m',m'<m/\CompW (BQ n) Pv (i+1) m' (ys++[y]) (upd H5 p (.lst (ys++[y]))))
  (hd:∀ys H2,ys.length=n->Pv n ys H2->Q (.ref p) H2):CompGoF σ0 (Itr 0 n) g te Q p H':=by
 refine BL (xs:=BQ n) Pv (by rw[wL];exact hz) h0 (λi ys H2 _ hi=>?_) (λys H2 _=>by rw[wL];exact nQ n) hl (λi m ys x H2 hx hm hy hp=>?_) (λys H2 hy hp=>?_)
 ·rw[wL]at hi;refine⟨hi, ?_⟩;rintro x H3 ⟨rfl,rfl⟩;exact⟨rfl,by unfold BQ;rw[mC,List.getElem?_range hi];rfl⟩
 ·obtain⟨e,_⟩:=BP hx;subst e;exact hs i m ys _ H2 hx hm hy hp
 ·rw[wL]at hy hp;exact hd ys H2 hy hp
def pws(base:Int)(n:Nat):List V:=(List.range (n+1)).map λ(i:Nat)=>V.int (base^i)
theorem XQ(base:Int)(n:Nat):(pws base n).length=n+1:=by simp [pws]
theorem TD(base:Int)(n:Nat):pws base (n+1)=pws base n++[V.int (base^(n+1))]:=by
 unfold pws;rw[List.range_succ,mT]
 rfl
theorem TF(base:Int)(n:Nat):atI (pws base n) (-1)=some (.int (base^n)):=by
 unfold pws;rw[List.range_succ,mT];exact WQ _ _
theorem TH{base:Int}{n i:Nat}(h:i<=n):atI (pws base n) (i:Int)=some (.int (base^i)):=by
 refine qX ?_;unfold pws;rw[mC,List.getElem?_range (by omega)]
 rfl
def spChain:Sp:=λvs H Q _=>∃(base:Int) (most:Nat),vs=[.int base,.int most]/\most<=16/\base.natAbs<=2^100/\∀l H',H l=none->Same H H'->H' l=some (.lst (pws base most))->Q (.ref l) H'
def grP(aa:Nat)(P:Pl):List Int:=(List.range aa).map λj=>mxP P j
theorem ZG(aa:Nat)(P:Pl):(grP aa P).length=aa:=by unfold grP;rw[mS,List.length_range]
theorem grP_at{aa:Nat}{P:Pl}{j:Nat}(h:j<aa):(grP aa P)[j]? = some (mxP P j):=by unfold grP;rw[mC,List.getElem?_range h];rfl
def MX(K:tF):Sp:=λvs H Q _=>∃(p:Addr) (aa:Nat) (P:Pl),vs=[.ref p]/\SumQ K H p aa P/\PlOk aa P/\∀l H',H l=none->Same H H'->H' l=some (.lst ((grP aa P).map V.int))->Q (.ref l) H'
structure GrI(H:Hp)(l:Addr)(P:Pl)(i:Nat)(ys:List V)(H2:Hp):Prop where
 s:Same H H2
 e:H2 l=some (.lst ys)
 y:ys=(grP i P).map V.int
theorem VN(i:Nat)(P:Pl):grP (i+1) P=grP i P++[mxP P i]:=by unfold grP;rw[List.range_succ,mT];rfl
theorem scChain:FnScope ["base","most","powers","turn"] ["base","most"] (jL GV):=⟨rfl,rfl,rfl,by decide +kernel,rfl,by decide +kernel,by decide +kernel⟩
theorem US(F:Fun K "chain" "chain" GV f fd)(T:Txt mg):FnOk P w K mg base CX0 1 f fd ["base","most"] spChain:=by
 refine F.ok scChain (λvs H Q E h=>?_) (λcdv A outer s H vs Q E hr h=>?_)
 ·obtain⟨b,m,rfl,_⟩:=h
  rfl
 ·obtain⟨b,m,rfl,m16,hb,go⟩:=h;refine⟨_,jC (jP (i:=2) scChain.nd rfl (Or.inl rfl) (qC (jA jJ jB))) (jC (qF PassesOwn.never rfl (vB (by rfl) T.rng (jA (pv 1) jB)) (jF (i:=3) scChain.nd rfl (Or.inl rfl))
   (jE (xQ (vY PySem.F.plainAttrs_list PySem.F.slot_list_append PySem.F.type_list_append kW (pv 2) (jA (jW kZ (kF qS (pv 2) (AB yV jJ) (λ_ _=>rfl)) (pv 0)) jB))))) (jE (jO (pv 2)))), ?_⟩
  refine⟨gC,λl H1 n1 s1 e1=>⟨_,rfl,m,rfl,by omega,by omega, ?_⟩⟩;refine yF (n:=m) (λi σ H2=>(∃u,σ=[some (.int b),some (.int m),some (.ref l),u])/\Same H H2/\H2 l=some (.lst (pws b i))) ⟨⟨_,rfl⟩,s1,by rw[e1];simp [pws]⟩ ?_ ?_
  ·rintro i σ H2 hi ⟨⟨u,rfl⟩,s2,e2⟩;refine⟨_,rfl,.inl ⟨rfl,_,SqL.of e2⟩,_,rfl,_,rfl,l,_,_,_,rfl,rfl,SqL.of e2,TF b i,_,rfl,_,_,rfl,rfl,⟨?_, ?_⟩, ?_⟩
   ·exact gX (yG (wV hb i) (show 100*i<=1600 by omega)) (gT (by decide) (by decide))
   ·exact gX hb (gT (by decide) (by decide))
   ·refine⟨l,_,_,rfl,rfl,e2, ?_,⟨_,rfl⟩,jY s2 n1, ?_⟩
    ·rw[XQ];exact gX (show i+1<=17 by omega) (by decide)
    ·rw[jD,TD,Int.pow_succ]
  ·rintro σ H2 ⟨⟨u,rfl⟩,s2,e2⟩;exact⟨_,rfl,go l H2 n1 s2 e2⟩
theorem scGreat:FnScope ["one","many","terms"] ["one"] (jL NH):=⟨rfl,rfl,rfl,by decide +kernel,rfl,by decide +kernel,by decide +kernel⟩
theorem UE{X:Cx}{scope:Scope}{j0:Nat}{N:List Str}{x0 x1:Str}(h0:N[1]? = some x1)(h:x1≠x0/\X.N[j0]? = some x1/\X.env.kindOf x1=some .cell/\(relabel scope X.env).names.lookup x1=some .cell/\X.env.scope.names.lookup x1=some .cell) :
  ∀(k j:Nat) (x:Str),[j0][k]? = some j->N[1+k]? = some x->x≠x0/\X.N[j]? = some x/\X.env.kindOf x=some .cell/\(relabel scope X.env).names.lookup x=some .cell/\X.env.scope.names.lookup x=some .cell:=by
 intro k j x e1 e2
 match k,e1 with
 | 0,e1=>
  cases e1;rw[Nat.add_zero,h0]at e2;cases e2;exact h
 | k+1,e1=>cases e1
theorem ZF{names:List (Str×NameKind)}{cl:List (Str×Addr)}{x0:Str}(h:hasB (names.filter λy=>y.1 != x0) cl=true):∀x,(names.lookup x=some .cell∨names.lookup x=some .free)->x=x0∨∃c,cl.lookup x=some c:=by
 intro x hx;by_cases e:x=x0
 ·exact .inl e
 ·right
  have all:=List.all_eq_true.mp h;rcases hx with hx | hx
  ·have:=all _ (List.mem_filter.mpr ⟨PySem.mem_of_lookup hx,by simp [e]⟩);exact Option.isSome_iff_exists.mp this
  ·have:=all _ (List.mem_filter.mpr ⟨PySem.mem_of_lookup hx,by simp [e]⟩);exact Option.isSome_iff_exists.mp this
theorem UR(F:Fun K "greatest_powers" "greatest_powers" NH f fd)(T:Txt mg):FnOk P w K mg base CX0 1 f fd ["one"] (MX K):=by
 refine F.ok scGreat (λvs H Q E h=>?_) (λcdv A outer s H vs Q E hr h=>?_)
 ·obtain⟨p,aa,PP,rfl,_⟩:=h
  rfl
 ·obtain⟨p,aa,PP,rfl,q1,ok,go⟩:=h;have m4:=ok.m4;refine⟨_,jC (qZ (pv 0) (kD rfl (jG (jF (i:=1) scGreat.nd rfl (Or.inl rfl)) (jG (jF (i:=2) scGreat.nd rfl (Or.inr rfl)) jR))))
   (jE (jO (TW (idx:=[2]) (N:=["letter","terms"]) (x0:="letter") rfl rfl rfl (λ_ _=>rfl) (λ_=>rfl) (by decide +kernel) (λ_ _ h=>h) (ZF rfl) rfl (UE rfl ⟨by decide +kernel,rfl,rfl,rfl,rfl⟩) (vB (by rfl) T.rng (jA (pv 1) jB))
    (λC fp s2 H2=>jF (i:=0) (show List.Nodup (["letter","terms"]:List Str) by decide +kernel) rfl (Or.inr rfl) (Or.inl rfl))
    (λC fp s2 H2=>LwMx.pe_maxD rfl (by rfl) T.max (jA (vE (own:=2) (idx:=[0]) (N:=["powers","fraction","letter"]) rfl rfl rfl (by decide +kernel) (by decide +kernel) (wD (by intro y hy;simp only[nF,mM,or_false]at hy;rcases hy with rfl;rfl)) (qH rfl) rfl (yN rfl ⟨rfl,rfl,rfl,rfl⟩) (show PI (vR _ ["letter","terms"] _ "letter" _ C fp s2 H2) _ _ (iTup K (qJ 1))from xF (pv 1))
     (λC' fp' s2' H2'=>show PG (jK _ ["powers","fraction","letter"] _ _ C' fp' s2' H2') _ (wZ K 2 (qI (jX 0) (qI (jX 1) gNil)))from kD (X:=jK _ ["powers","fraction","letter"] _ _ C' fp' s2' H2') rfl (jG (jF (i:=0) (show List.Nodup (["powers","fraction","letter"]:List Str) by decide +kernel) rfl (Or.inl rfl) (Or.inr rfl)) (jG (jF (i:=1) (show List.Nodup (["powers","fraction","letter"]:List Str) by decide +kernel) rfl (Or.inl rfl) (Or.inr rfl)) jR)))
     (λC' fp' s2' H2'=>kF (show IxR (jK _ ["powers","fraction","letter"] _ _ C' fp' s2' H2') (yY K)from kH) (pv 0) (pv 2) (λ_ _=>rfl))) jB) (kC jJ qK))))), ?_⟩
  try dsimp only[cxK]
  obtain⟨q,xs,e1,e2,pr⟩:=q1.ex;have lx:xs.length=PP.length:=Paired.length pr;have fw:=ok.few;refine⟨_,rfl,p,_,rfl,SqT.of e1,rfl,_,_,rfl,_,_,rfl,rfl, ?_⟩;refine⟨_,rfl,aa,rfl,by omega,by omega,λl H1 n1 s1 e3=>?_⟩;refine zK (n:=aa) (GrI H l PP) (by rw[sizeLine_eq];omega) ⟨s1,e3,rfl⟩ (λi ys H2 h=>h.e) ?_ ?_
  ·rintro i m ys x H2 hx hm hy ⟨s2,e4,ey⟩;have him:i<aa:=(BP hx).2;refine⟨zJ,_,rfl,q,rfl,⟨xs,SqT.of (s2 _ _ e2)⟩,λl2 H3 n3 s3 e5=>?_⟩;refine uW (K:=K) (a:=q) (xs:=xs) (CmI (λk=>(PP.take k).map λx=>V.int (x.1.getD i 0)) l2 H2) (by rw[lx,sizeLine_eq];omega) ⟨s3,e5,rfl⟩ (λk zs H4 h=>⟨SqT.of (h.s _ _ (s2 _ _ e2)),h.e⟩) ?_ ?_
   ·rintro k m' zs x' H4 hx' hm' hy' ⟨s4,e6,ez⟩;obtain⟨y,hy2,r,b,c,rfl,r1,r2,r3⟩:=Paired.at pr hx';have ym:=gQ hy2;have s24:=s2.trans s4;have hat:atI (y.1.map V.int) (0+(i:Int))=some (.int (y.1.getD i 0)):=by
     rw[Int.zero_add];exact qX (by rw[mC,xA (show i<y.1.length by rw[ok.len y ym];exact him)];rfl)
    refine⟨r,_,rfl,SqT.of (s24 _ _ r1),rfl,_,_,rfl,_,_,rfl,rfl,AE, ?_⟩;refine⟨_,rfl,_,rfl,b,_,_,_,rfl,rfl,SqT.of (s24 _ _ r2),hat, ?_⟩;refine kL hx' hm' hy' e6 ⟨jY s4 n3,jD, ?_⟩;rw[ez,mE,hy2,mT]
    rfl
   ·rintro zs H4 hl ⟨s4,e6,ez⟩;rw[lx,mN]at ez;have hz:zs=(PP.map λx=>x.1.getD i 0).map V.int:=by rw[ez,nO];rfl
    have fin:∀m0:Int,m0=mxP PP i->H4 l=some (.lst ys)/\∃m',m'<m/\CompW (BQ aa) (GrI H l PP) (i+1) m' (ys++[.int m0]) (upd H4 l (.lst (ys++[.int m0]))):=λm0 h0=>by
     refine kL hx hm hy (s4 _ _ e4) ⟨jY (s2.trans s4) n1,jD, ?_⟩;rw[ey,h0,VN,mT]
     rfl
    refine⟨0,rfl,l2,PP.map (λx=>x.1.getD i 0),rfl,by rw[e6,hz],λz=>?_,λm0 h1 h2=>?_⟩
    ·refine fin 0 ?_;have:PP=[]:=List.map_eq_nil_iff.mp z;rw[this]
     rfl
    ·refine fin m0 (Int.le_antisymm (xJ h1) (vL h2 ?_));obtain⟨x,hx,rfl⟩:=nN.mp h1;exact ok.nn x hx _ (gQ (xA (show i<x.1.length by rw[ok.len x hx];exact him)))
  ·rintro ys H2 hl ⟨s2,e4,ey⟩;exact go l H2 n1 s2 (by rw[e4,ey])
def pr2(r:Rat):Int×Int:=(r.num,(r.den:Int))
def BN(S:List (Int×Int))(ms:List Int):Pl->Rat
 | []=>0
 | x::r=>x.2*((wB S ms x.1:Int):Rat)+BN S ms r
theorem DV(S:List (Int×Int))(ms:List Int)(x:List Int×Rat):∀P:Pl,BN S ms (P++[x])=BN S ms P+x.2*((wB S ms x.1:Int):Rat)
 | []=>by
  show x.2*((wB S ms x.1:Int):Rat)+0=0+_;rw[Rat.add_zero,Rat.zero_add]
 | a::r=>by
  show a.2*_+BN S ms (r++[x])=a.2*_+BN S ms r+_;rw[DV S ms x r,Rat.add_assoc]
theorem OX{S:List (Int×Int)}{ms:List Int}{P:Pl}{i:Nat}{x:List Int×Rat}(h:P[i]? = some x):BN S ms (P.take (i+1))=BN S ms (P.take i)+x.2*((wB S ms x.1:Int):Rat):=by
 rw[mE,h];exact DV S ms x _
def wvQ(S:List Rat)(aa:Nat)(P:Pl):Rat:=BN (S.map pr2) (grP aa P) P/((uF (S.map pr2) (grP aa P):Int):Rat)
def NmP(K:tF)(H:Hp)(v:V)(p:Int×Int):Prop:=∃c,v=.ref c/\SqT K H c [.int p.1,.int p.2]
theorem NmP.same{K:tF}{H H':Hp}{v:V}{p:Int×Int}(h:NmP K H v p)(s:Same H H'):NmP K H' v p:=let ⟨c,e,q⟩:=h;⟨c,e,kU s q⟩
def SpQ(K:tF)(H:Hp)(sp:Addr)(S:List Rat):Prop:=∃ys,H sp=some (.tup ys)/\Paired (NumK K H) ys S
theorem CF{α β γ:Type}{F:α->β->Prop}{G:α->γ->Prop}{g:β->γ}(h:∀a b,F a b->G a (g b)):∀{l:List α} {m:List β},Paired F l m->Paired G l (m.map g)
 | _,_,.nil=>.nil
 | _,_,.cons k t=>.cons (h _ _ k) (CF h t)
def BT(K:tF):Sp:=λvs H Q _=>∃(p sp:Addr) (aa n d:Nat) (P:Pl) (S:List Rat) (D:Int),vs=[.ref p,.ref sp]/\SumQ K H p aa P/\PlOk aa P/\SpQ K H sp S/\S.length=aa/\(∀x∈P,Ov D n x.2)/\0<D/\D.natAbs<=2^d/\n<=1300/\d<=1300/\(∀r∈S,r.num.natAbs<=2^100/\r.den<=2^100)/\
 ∀(v:V) (H':Hp),Same H H'->NumK K H' v (wvQ S aa P)->Q v H'
structure LsI(H1:Hp)(l:Addr)(g:Nat->List V)(i:Nat)(ys:List V)(H2:Hp):Prop where
 s:Same H1 H2
 e:H2 l=some (.lst ys)
 a:∀j,j<i->∃a,ys[j]? = some (.ref a)/\H2 a=some (.lst (g j))/\a≠l
theorem LsI.same{H1 H2 H3:Hp}{l:Addr}{g:Nat->List V}{i:Nat}{ys:List V}(h:LsI H1 l g i ys H2)(s:Same H2 H3):LsI H1 l g i ys H3:=⟨h.s.trans s,s _ _ h.e,λj hj=>let ⟨a,e1,e2,e3⟩:=h.a j hj;⟨a,e1,s _ _ e2,e3⟩⟩
theorem LsI.next{H1 H2 H3:Hp}{l la:Addr}{g:Nat->List V}{i:Nat}{ys:List V}(h:LsI H1 l g i ys H2)(s:Same H2 H3)(n:H1 l=none)(nl:H2 la=none)(hy:ys.length=i)(e:H3 la=some (.lst (g i))):LsI H1 l g (i+1) (ys++[.ref la]) (upd H3 l (.lst (ys++[.ref la]))):=by
 have ll:la≠l:=λz=>by rw[z,h.e]at nl;cases nl
 refine⟨jY (h.s.trans s) n,jD,λj hj=>?_⟩;by_cases hji:j<i
 ·obtain⟨a,a1,a2,a3⟩:=h.a j hji;exact⟨a,by rw[gH (by omega)];exact a1,by rw[jH a3];exact s _ _ a2,a3⟩
 ·have:j=i:=by omega
  subst this;exact⟨la,by rw[gF (by omega),hy,Nat.sub_self];rfl,by rw[jH ll];exact e,ll⟩
inductive W1(K:tF)(H5:Hp)(p sp lm l2 l4:Addr)(S:List (Int×Int))(ms:List Int)(P:Pl)(i:Nat):L2.St->Hp->Prop where
 | mk {u6 u7 u8 u9 u10 u11 u12:Option V} {v:V} {H':Hp} (s:Same H5 H') (h:NumK K H' v (BN S ms (P.take i))):W1 K H5 p sp lm l2 l4 S ms P i [some (.ref p),some (.ref sp),some (.ref lm),some (.ref l2),some (.ref l4),some v,u6,u7,u8,u9,u10,u11,u12] H'
inductive W2(H6:Hp)(p sp lm l2 l4 b c:Addr)(v:V)(S:List (Int×Int))(ms ns:List Int)(j:Nat):L2.St->Hp->Prop where
 | mk {u9 u10 u11 u12:Option V} {H':Hp} (s:Same H6 H') (h:(wB (S.take j) (ms.take j) (ns.take j)).natAbs<=2^(1600*j)):W2 H6 p sp lm l2 l4 b c v S ms ns j [some (.ref p),some (.ref sp),some (.ref lm),some (.ref l2),some (.ref l4),some v,some (.ref b),some (.ref c),some (.int (wB (S.take j) (ms.take j) (ns.take j))),u9,u10,u11,u12] H'
inductive W3(K:tF)(H6:Hp)(p sp lm l2 l4:Addr)(d N:Nat)(X:Rat)(S:List (Int×Int))(ms:List Int)(j:Nat):L2.St->Hp->Prop where
 | mk {u6 u7 u8 u9 u10 u11 u12:Option V} {v:V} {H':Hp} {E:Int} (s:Same H6 H') (h:NumK K H' v (X/((uF (S.take j) (ms.take j):Int):Rat))) (e0:0<E) (e1:E.natAbs<=2^(d+1600*j)) (o:Ov E N (X/((uF (S.take j) (ms.take j):Int):Rat))):W3 K H6 p sp lm l2 l4 d N X S ms j [some (.ref p),some (.ref sp),some (.ref lm),some (.ref l2),some (.ref l4),some v,u6,u7,u8,u9,u10,u11,u12] H'
inductive W4(K:tF)(H7:Hp)(p sp lm l2 l4 cc:Addr)(m d N:Nat)(Y:Rat)(b:Int)(u6 u7 u8 u9:Option V)(i:Nat):L2.St->Hp->Prop where
 | mk {u12:Option V} {v:V} {H':Hp} {E:Int} (s:Same H7 H') (h:NumK K H' v (Y/((b^i:Int):Rat))) (e0:0<E) (e1:E.natAbs<=2^(d+100*i)) (o:Ov E N (Y/((b^i:Int):Rat))):W4 K H7 p sp lm l2 l4 cc m d N Y b u6 u7 u8 u9 i [some (.ref p),some (.ref sp),some (.ref lm),some (.ref l2),some (.ref l4),some v,u6,u7,u8,u9,some (.int (m:Int)),some (.ref cc),u12] H'
theorem divN{H:Hp}{r:Addr}{x:Rat}{b:Int}(hb:0<b)(e:At2 H r (yD (x.num*1) (x.den*b)) (yU (x.num*1) (x.den*b))):At2 H r (x/(b:Rat)).num (x/(b:Rat)).den:=
 uX e (nS (kT x).1 hb) (by rw[VP (kT x).1 hb,vX];unfold fv;rw[show((1:Int):Rat)=1 from rfl,nT,nT,Rat.one_mul])
theorem zT{α:Type}{l:List α}{i:Nat}{x d:α}(h:l[i]? = some x):l.getD i d=x:=by
 rw[gE,h]
 rfl
theorem scWorth:FnScope ["one","spot","most","tops","bottoms","total","powers","fraction","weight","letter","power","number","turn"] ["one","spot"] (jL FV):=⟨rfl,rfl,rfl,by decide +kernel,rfl,by decide +kernel,by decide +kernel⟩
theorem PZ{fG fC fA fM:Addr}{fdG fdC fdA fdM:FuncData}(F:Fun K "worth" "worth" FV f fd)(T:Txt mg)(Nn:Ngt K mg)(DG:Df K mg "greatest_powers" NH ["one"] fG fdG)(GG:FnOk P w K mg base CX0 1 fG fdG ["one"] (MX K))(DC:Df K mg "chain" GV ["base","most"] fC fdC)(GC:FnOk P w K mg base CX0 1 fC fdC ["base","most"] spChain)(DA:Df K mg "added" uZ ["one","other"] fA fdA)(GA:FnOk P w K mg base CX0 2 fA fdA ["one","other"] (yW K))(DM:Df K mg "multiplied" IQ ["one","other"] fM fdM)(GM:FnOk P w K mg base CX0 2 fM fdM ["one","other"] (uY K)):FnOk P w K mg base CX0 3 f fd ["one","spot"] (BT K):=by
 obtain⟨nA,hn,hN⟩:=Nn;refine F.ok scWorth (λvs H Q E h=>?_) (λcdv A outer s H vs Q E hr h=>?_)
 ·obtain⟨p,sp,aa,n,d,PP,S,D,rfl,_⟩:=h
  rfl
 ·obtain⟨p,sp,aa,n,d,PP,S0,D,rfl,q1,ok,⟨ys,ey,pS⟩,lS,hO,D0,Dd,n13,d13,hS,go⟩:=h;have hr1:Room 1 _:=hr.mono (by decide);have m4:=ok.m4;refine⟨_,jC (jP (i:=2) scWorth.nd rfl (Or.inl rfl) (jI GG hr1 rfl DG.m DG.F.kp DG.b .nil jM (jA (pv 0) jB))) (jC (yJ (i:=3) scWorth.nd rfl (Or.inl rfl) (own:=2) (idx:=[]) (N:=["number","power"]) rfl rfl rfl (by decide +kernel) (by decide +kernel) (λ_ _ h=>nomatch h) (qH rfl) rfl (λ_ _ _ h=>nomatch h) (BC (by rfl) T.zip (jA (pv 1) (jA (pv 2) jB))) (λC fp s2 H2=>show PG (jK _ ["number","power"] _ _ C fp s2 H2) _ (wZ K 2 (qI (jX 0) (qI (jX 1) gNil)))from kD (X:=jK _ ["number","power"] _ _ C fp s2 H2) rfl (jG (jF (i:=0) (show List.Nodup (["number","power"]:List Str) by decide +kernel) rfl (Or.inl rfl) (Or.inr rfl)) (jG (jF (i:=1) (show List.Nodup (["number","power"]:List Str) by decide +kernel) rfl (Or.inl rfl) (Or.inr rfl)) jR))) (λC fp s2 H2=>jI GC hr1 rfl DC.m DC.F.kp DC.b .nil jM (jA (kF (show IxR (jK _ ["number","power"] _ _ C fp s2 H2) (yY K)from kH) (pv 0) jJ (λ_ _=>rfl)) (jA (pv 1) jB)))) (jC (yJ (i:=4) scWorth.nd rfl (Or.inl rfl) (own:=2) (idx:=[]) (N:=["number","power"]) rfl rfl rfl (by decide +kernel) (by decide +kernel) (λ_ _ h=>nomatch h) (qH rfl) rfl (λ_ _ _ h=>nomatch h) (BC (by rfl) T.zip (jA (pv 1) (jA (pv 2) jB))) (λC fp s2 H2=>show PG (jK _ ["number","power"] _ _ C fp s2 H2) _ (wZ K 2 (qI (jX 0) (qI (jX 1) gNil)))from kD (X:=jK _ ["number","power"] _ _ C fp s2 H2) rfl (jG (jF (i:=0) (show List.Nodup (["number","power"]:List Str) by decide +kernel) rfl (Or.inl rfl) (Or.inr rfl)) (jG (jF (i:=1) (show List.Nodup (["number","power"]:List Str) by decide +kernel) rfl (Or.inl rfl) (Or.inr rfl)) jR))) (λC fp s2 H2=>jI GC hr1 rfl DC.m DC.F.kp DC.b .nil jM (jA (kF (show IxR (jK _ ["number","power"] _ _ C fp s2 H2) (yY K)from kH) (pv 0) jJ (λ_ _=>rfl)) (jA (pv 1) jB)))) (jC (jP (i:=5) scWorth.nd rfl (Or.inl rfl) (kQ (v:=.ref nA) (by rfl) hn rfl)) (jC (qF PassesOwn.never rfl (xF (kF kH (pv 0) jJ (λ_ _=>rfl))) (kD rfl (jG (jF (i:=6) scWorth.nd rfl (Or.inl rfl)) (jG (jF (i:=7) scWorth.nd rfl (Or.inl rfl)) jR))) (jC (jP (i:=8) scWorth.nd rfl (Or.inl rfl) (jJ)) (jC (qF PassesOwn.never rfl (TU (by rfl) T.enum (jA (pv 6) jB)) (kD rfl (jG (jF (i:=9) scWorth.nd rfl (Or.inl rfl)) (jG (jF (i:=10) scWorth.nd rfl (Or.inl rfl)) jR))) (jE (jP (i:=8) scWorth.nd rfl (Or.inl rfl) (jW kZ (jW kZ (pv 8) (kF qS (kF qS (pv 3) (pv 9) (λ_ _=>rfl)) (pv 10) (λ_ _=>rfl))) (kF qS (kF qS (pv 4) (pv 9) (λ_ _=>rfl)) (jW HF (kF qS (pv 2) (pv 9) (λ_ _=>rfl)) (pv 10)) (λ_ _=>rfl)))))) (jE (jP (i:=5) scWorth.nd rfl (Or.inl rfl) (jI GA hr rfl DA.m DA.F.kp DA.b .nil jM (jA (pv 5) (jA (jI GM hr rfl DM.m DM.F.kp DM.b .nil jM (jA (pv 7) (jA (jS (jA (pv 8) (jA jJ jB))) jB))) jB)))))))) (jC (qF PassesOwn.never rfl (BC (by rfl) T.zip (jA (pv 1) (jA (pv 2) jB))) (kD rfl (jG (jF (i:=11) scWorth.nd rfl (Or.inl rfl)) (jG (jF (i:=10) scWorth.nd rfl (Or.inl rfl)) jR))) (jE (qF PassesOwn.never rfl (vB (by rfl) T.rng (jA (pv 10) jB)) (jF (i:=12) scWorth.nd rfl (Or.inl rfl)) (jE (jP (i:=5) scWorth.nd rfl (Or.inl rfl) (jI GM hr rfl DM.m DM.F.kp DM.b .nil jM (jA (pv 5) (jA (jS (jA jJ (jA (kF kH (pv 11) jJ (λ_ _=>rfl)) jB))) jB)))))))) (jE (jO (pv 5)))))))), ?_⟩
  try dsimp only[cxK]
  have S100:∀r∈S0.map pr2,0<r.2/\r.1.natAbs<=2^100/\r.2.natAbs<=2^100:=λr hr=>by
   obtain⟨x,hx,rfl⟩:=nN.mp hr;exact⟨(kT x).1,(hS x hx).1,by show((x.den:Int)).natAbs<=_;rw[hV];exact(hS x hx).2⟩
  have pS2:Paired (NmP K H) ys (S0.map pr2):=CF (g:=pr2) (λa b h=>h) pS;have lS2:(S0.map pr2).length=aa:=by rw[mS];exact lS
  have lms:=ZG aa PP;have msb:∀(j:Nat) m,(grP aa PP)[j]? = some m->0<=m/\m<=16/\∀x∈PP,∀n,x.1[j]? = some n->0<=n/\n<=m:=λj m hj=>by
   have hjm:j<aa:=by rw[<-lms];exact(gG.mp hj).1
   rw[grP_at hjm]at hj;cases hj;have gd:∀x∈PP,x.1[j]? = some (x.1.getD j 0)/\0<=x.1.getD j 0/\x.1.getD j 0<=16:=λx hx=>by
    have g:=xA (ns:=x.1) (l:=j) (by rw[ok.len x hx];exact hjm);have:=(vZ (ok.nn x hx) (gQ g)).1;exact⟨g,ok.nn x hx _ (gQ g),Int.le_trans this (ok.deg x hx)⟩
   refine⟨?_,vL (λy hy=>by obtain⟨x,hx,rfl⟩:=nN.mp hy;exact(gd x hx).2.2) (by decide),λx hx n hn=>?_⟩
   ·have:∀m:List Int,0<=m.foldr max 0:=λm=>by
     induction m with
     | nil=>exact nV _
     | cons a m ih=>show 0<=max a (m.foldr max 0);omega
    exact this _
   ·have g:=gd x hx;rw[hn]at g;have e:=Option.some.inj g.1;exact⟨by rw[e];exact g.2.1,by rw[e];exact xJ (List.mem_map_of_mem (f:=λx:List Int×Rat=>x.1.getD j 0) hx)⟩
  generalize hw:wvQ S0 aa PP=WV at go;unfold wvQ at hw;generalize S0.map pr2=S at S100 pS2 lS2 hw;refine⟨_,rfl,p,aa,PP,rfl,q1,ok,λlm H1 n1 s1 e1=>?_⟩;generalize grP aa PP=ms at e1 lms msb hw;have ly:ys.length=aa:=by rw[Paired.length pS2,lS2]
  have lmv:(ms.map V.int).length=aa:=by rw[mS];exact lms
  have letter:∀(i:Nat) x y,ys[i]? = some x->(ms.map V.int)[i]? = some y->∃(r:Int×Int) (m:Nat) (c:Addr),S[i]? = some r/\r∈S/\ms[i]? = some (m:Int)/\x=.ref c/\SqT K H c [.int r.1,.int r.2]/\y=.int (m:Int)/\m<=16:=λi x y hx hy=>by
   obtain⟨r,hr,c,e1,e2⟩:=Paired.at pS2 hx;rw[mC]at hy;cases hm:ms[i]? with
   | none=>rw[hm]at hy;cases hy
   | some m=>
    rw[hm]at hy;obtain⟨b0,b1,_⟩:=msb i m hm;obtain⟨mn,rfl⟩:=Int.eq_ofNat_of_zero_le b0;exact⟨r,mn,c,hr,gQ hr,rfl,e1,e2,(Option.some.inj hy).symm,by omega⟩
  refine⟨_,rfl,_,rfl,sp,lm,rfl,⟨ys,SqT.of (s1 _ _ ey)⟩,⟨_,SqL.of e1⟩,λl2 H2 n2 s2 e2=>?_⟩;refine wJ (K:=K) (ts:=ys) (us:=ms.map V.int) (LsI H1 l2 λj=>pws (S.getD j (0,1)).1 (ms.getD j 0).toNat) (by rw[ly,lmv]) (by rw[lmv,sizeLine_eq];omega) ⟨s2,e2,λj hj=>absurd hj (Nat.not_lt_zero _)⟩ (λi zs H3 h=>⟨SqT.of (h.s _ _ (s1 _ _ ey)),SqL.of (h.s _ _ e1),h.e⟩) ?_ ?_
  ·intro i mm zs x y c H3 hx hy hm hl L hc;obtain⟨r,m,cc,hp,rS,hmm,rfl,at1,rfl,m16⟩:=letter i x y hx hy;have sc:Same H3 (upd H3 c (.tup [V.ref cc,.int (m:Int)])):=jN _ hc;refine⟨c,_,rfl,SqT.of jD,rfl,_,_,rfl,_,_,rfl,rfl,AE, ?_⟩;refine⟨_,rfl,cc,_,_,_,rfl,rfl,kU (s1.trans (L.s.trans sc)) at1,rfl,_,rfl,r.1,m,rfl,m16,(S100 r rS).2.1,λl H4 n4 s4 e4=>?_⟩;exact kL hy hm hl ((sc.trans s4) _ _ L.e) (L.next (sc.trans s4) n2 (sc.free n4) hl (by rw[e4,zT hp,zT hmm];rfl))
  intro zs H3 hzl L3;rw[lmv]at L3;refine⟨_,rfl,_,rfl,sp,lm,rfl,⟨ys,SqT.of ((s1.trans L3.s) _ _ ey)⟩,⟨_,SqL.of (L3.s _ _ e1)⟩,λl4 H4 n4 s4 e4=>?_⟩;refine wJ (K:=K) (ts:=ys) (us:=ms.map V.int) (LsI H3 l4 λj=>pws (S.getD j (0,1)).2 (ms.getD j 0).toNat) (by rw[ly,lmv]) (by rw[lmv,sizeLine_eq];omega) ⟨s4,e4,λj hj=>absurd hj (Nat.not_lt_zero _)⟩ (λi zs H5 h=>⟨SqT.of (h.s _ _ ((s1.trans L3.s) _ _ ey)),SqL.of (h.s _ _ (L3.s _ _ e1)),h.e⟩) ?_ ?_
  ·intro i mm zs x y c H5 hx hy hm hl L hc;obtain⟨r,m,cc,hp,rS,hmm,rfl,at1,rfl,m16⟩:=letter i x y hx hy;have sc:Same H5 (upd H5 c (.tup [V.ref cc,.int (m:Int)])):=jN _ hc;refine⟨c,_,rfl,SqT.of jD,rfl,_,_,rfl,_,_,rfl,rfl,AE, ?_⟩;refine⟨_,rfl,cc,_,_,_,rfl,rfl,kU (s1.trans (L3.s.trans (L.s.trans sc))) at1,rfl,_,rfl,r.2,m,rfl,m16,(S100 r rS).2.2,λl H6 n6 s6 e6=>?_⟩;exact kL hy hm hl ((sc.trans s6) _ _ L.e) (L.next (sc.trans s6) n4 (sc.free n6) hl (by rw[e6,zT hp,zT hmm];rfl))
  intro zb H5 hzb L5;rw[lmv]at L5;have L35:=L3.same L5.s;have s05:Same H H5:=s1.trans (L3.s.trans L5.s);have e15:=(L3.s.trans L5.s) _ _ e1;obtain⟨q,xs,f1,f2,pr⟩:=q1.ex;have lx:xs.length=PP.length:=Paired.length pr;have fw:=ok.few;dsimp only[jX];refine⟨_,rfl,p,_,_,_,rfl,rfl,SqT.of (s05 _ _ f1),rfl,q,rfl,⟨_,SqT.of (s05 _ _ f2)⟩,uA (K:=K) (a:=q) (xs:=xs) (λi σ H'=>W1 K H5 p sp lm l2 l4 S ms PP i σ H'/\Ov D (n+6400+i) (BN S ms (PP.take i))) ⟨.mk (Same.refl _) (BM (hN H5)),.zero _ _⟩ (λi σ H6 _ h=>?_) (λi x σ H6 hx h=>?_) (fun σ H6 h=>?_)⟩
  ·obtain⟨⟨s6,_⟩,_⟩:=h;exact SqT.of ((s05.trans s6) _ _ f2)
  ·obtain⟨⟨s6,nv⟩,ov⟩:=h;rename_i v;obtain⟨y,hy,r,b,c,rfl,r1,r2,r3⟩:=Paired.at pr hx;have ym:=gQ hy;have ln:=ok.len y ym;have il:i<PP.length:=(gG.mp hy).1;refine gT2 (SqT.of ((s05.trans s6) _ _ r1)) rfl ?_;refine⟨_,rfl,b,rfl,⟨_,SqT.of ((s05.trans s6) _ _ r2)⟩,VY (K:=K) (a:=b) (xs:=y.1.map V.int) (W2 H6 p sp lm l2 l4 b c v S ms y.1) (.mk (Same.refl _) (by show 1<=_;exact Nat.one_le_two_pow)) (λj σ H7 _ h=>?_) (λj x pr' σ H7 hxj hpr h=>?_) (fun σ H7 h=>?_)⟩
   ·obtain⟨s7,_⟩:=h;exact SqT.of ((s05.trans (s6.trans s7)) _ _ r2)
   ·obtain⟨s7,bw⟩:=h;rename_i q9 q10 q11 q12;rw[mC]at hxj;cases hnj:y.1[j]? with
    | none=>rw[hnj]at hxj;cases hxj
    | some n'=>
     rw[hnj]at hxj;cases hxj;have hj:j<aa:=by rw[<-ln];exact(gG.mp hnj).1
     have hpS:S[j]? = some S[j]:=gI (by omega);have hmS:ms[j]? = some ms[j]:=gI (by omega);obtain⟨b0,b1,b2⟩:=msb j _ hmS;obtain⟨n0,nm⟩:=b2 y ym n' hnj;have fS:=S100 S[j] (List.getElem_mem (by omega));generalize S[j]=pp at hpS fS;generalize ms[j]=m at hmS b0 b1 b2 nm;have s8:Same H7 (upd H7 pr' (.tup [.int j,.int n'])):=jN _ hpr;have at8:(upd H7 pr' (.tup [.int j,.int n'])) pr'=some (.tup [.int j,.int n']):=jD;generalize upd H7 pr' (.tup [.int j,.int n'])=H8 at s8 at8;have s58:=(s6.trans s7).trans s8;obtain⟨a1,a11,a12,_⟩:=(L35.same s58).a j hj;obtain⟨c1,c11,c12,_⟩:=(L5.same s58).a j hj;have za1:=(L35.same s58).e;have zb1:=(L5.same s58).e;rw[zT hpS,zT hmS]at a12 c12;have i1:atI (pws pp.1 m.toNat) n'=some (.int (pp.1^n'.toNat)):=by
      have:=TH (base:=pp.1) (n:=m.toNat) (i:=n'.toNat) (by omega)
      rwa [Int.toNat_of_nonneg n0]at this
     have i2:atI (pws pp.2 m.toNat) (m-n')=some (.int (pp.2^(m-n').toNat)):=by
      have:=TH (base:=pp.2) (n:=m.toNat) (i:=(m-n').toNat) (by omega)
      rwa [Int.toNat_of_nonneg (by omega)]at this
     have w1:(pp.1^n'.toNat).natAbs<=2^(100*n'.toNat):=wV fS.2.1 _;have w2:(pp.2^(m-n').toNat).natAbs<=2^(100*(m-n').toNat):=wV fS.2.2 _;have w3:=JP bw w1;have w4:=JP w3 w2;refine gT2 (SqT.of at8) rfl ?_;refine⟨_,rfl,_,rfl,_,rfl,l2,_,_,_,rfl,rfl,SqL.of za1,qX a11,_,rfl,a1,_,_,_,rfl,rfl,SqL.of a12,i1,_,_,rfl,rfl,⟨?_, ?_⟩, ?_⟩
     ·exact gX (yG bw (show 1600*j<=4800 by omega)) (gT (by decide) (by decide))
     ·exact gX (yG w1 (show 100*n'.toNat<=1600 by omega)) (gT (by decide) (by decide))
     refine⟨_,rfl,_,rfl,l4,_,_,_,rfl,rfl,SqL.of zb1,qX c11,_,rfl,_,rfl,lm,_,_,_,rfl,rfl,SqL.of (s58 _ _ e15),qX (by rw[mC,hmS];rfl),_,rfl,_,_,rfl,rfl,c1,_,_,_,rfl,rfl,SqL.of c12,i2,_,_,rfl,rfl,⟨?_, ?_⟩, ?_⟩
     ·exact gX (yG w3 (show 1600*j+100*n'.toNat<=7000 by omega)) (gT (by decide) (by decide))
     ·exact gX (yG w2 (show 100*(m-n').toNat<=1600 by omega)) (gT (by decide) (by decide))
     have wt:=OY hpS hmS hnj;have z:W2 H6 p sp lm l2 l4 b c v S ms y.1 (j+1) [some (.ref p),some (.ref sp),some (.ref lm),some (.ref l2),some (.ref l4),some v,some (.ref b),some (.ref c),some (.int (wB (S.take (j+1)) (ms.take (j+1)) (y.1.take (j+1)))),some (.int j),some (.int n'),q11,q12] H8:=.mk (s7.trans s8) (by rw[wt];exact yG w4 (by omega));rw[wt]at z;exact z
   ·obtain⟨s7,bw⟩:=h;have lnm:(y.1.map V.int).length=aa:=by rw[mS];exact ln
    rw[lnm]at bw ⊢;rw[show S.take aa=S by rw[<-lS2];exact mN,show ms.take aa=ms by rw[<-lms];exact mN,show y.1.take aa=y.1 by rw[<-ln];exact mN]at bw ⊢;have wt:=OX (S:=S) (ms:=ms) hy;generalize wB S ms y.1=W at bw wt ⊢;have bW:W.natAbs<=2^6400:=yG bw (by omega);have oy:Ov D (n+6400) (y.2*((W:Int):Rat)):=by rw[Rat.mul_comm];exact(hO y ym).imul bW
    have szy:SzR 7900 y.2:=(hO y ym).sz D0 Dd (by omega) (by omega);refine⟨_,rfl,_,rfl,_,rfl,gD,λz H8 n8 s8 e8=>?_⟩;obtain⟨pc,epc,hc⟩:=r3;cases epc;obtain⟨pv',rfl,hv⟩:=nv;have s78:=s7.trans s8;refine⟨c,z,_,_,_,_,rfl,kU (s05.trans (s6.trans s78)) hc,FN (SqT.of e8),szy.fr gA,(HS (n:=7900) (gX bW (gT (by decide) (by decide))) (by decide)).fr gA,λr1' H9 n9 s9 e9=>?_⟩;have e9:=NV e9;refine⟨pv',r1',_,_,_,_,rfl,kU (s78.trans s9) hv,SqT.of e9,(ov.sz D0 Dd (by omega) (by omega):SzR 7900 _).fr gA,(oy.sz D0 Dd (by omega) (by omega):SzR 7900 _).fr gA,λr3' H10 n10 s10 e10=>?_⟩;have e10:=LA e10;rw[<-wt]at e10;refine⟨.mk (s6.trans (s78.trans (s9.trans s10))) (NumK.of e10), ?_⟩;rw[wt];exact ov.add (oy.up (by omega)) D0
  ·obtain⟨⟨s6,nv⟩,ov⟩:=h;rw[lx,mN]at nv ov;have s06:=s05.trans s6;have e16:=s6 _ _ e15;have one:∀{x:Rat},x/(((1:Int)):Rat)=x:=fun {x} =>by rw[show((1:Int):Rat)=1 from rfl,nT];grind
   generalize hX:BN S ms PP=X at nv ov hw;refine⟨_,rfl,_,rfl,sp,lm,rfl,⟨ys,SqT.of (s06 _ _ ey)⟩,⟨_,SqL.of e16⟩,VU (K:=K) (a:=sp) (b:=lm) (xs:=ys) (ys:=ms.map V.int) (W3 K H6 p sp lm l2 l4 d (n+6400+PP.length) X S ms) (by rw[ly,lmv]) (.mk (Same.refl _) (by show NumK K H6 _ (X/((1:Int):Rat));rw[one];exact nv) D0 Dd (by show Ov D _ (X/((1:Int):Rat));rw[one];exact ov)) (λj σ H7 _ h=>?_) (λj x y pr' σ H7 hx hy hpr h=>?_) (fun σ H7 h=>?_)⟩
   ·obtain⟨s7,_⟩:=h;exact⟨SqT.of ((s06.trans s7) _ _ ey),SqL.of (s7 _ _ e16)⟩
   ·obtain⟨s7,nv7,E0,E1,ov7⟩:=h;rename_i u6 u7 u8 u9 u10 u11 u12 v7 E7;obtain⟨pp,m,cc,hp,pS',hmm,rfl,at1,rfl,m16⟩:=letter j x y hx hy;have fS:=S100 pp pS';have hj:j<aa:=by rw[<-lS2];exact(gG.mp hp).1
    have s8:Same H7 (upd H7 pr' (.tup [V.ref cc,.int (m:Int)])):=jN _ hpr;have at8:(upd H7 pr' (.tup [V.ref cc,.int (m:Int)])) pr'=some (.tup [V.ref cc,.int (m:Int)]):=jD;generalize upd H7 pr' (.tup [V.ref cc,.int (m:Int)])=H8 at s8 at8;have s08:=s06.trans (s7.trans s8);have dt:=QW hp hmm;refine gT2 (SqT.of at8) rfl ?_;generalize hY:X/((uF (S.take j) (ms.take j):Int):Rat)=Y at nv7 ov7;refine⟨_,rfl,m,rfl,by omega,by omega,yF (n:=m) (W4 K H8 p sp lm l2 l4 cc m (d+1600*j) (n+6400+PP.length) Y pp.2 u6 u7 u8 u9) (.mk (Same.refl _) (by rw[Int.pow_zero,one];exact nv7.same s8) E0 E1 (by rw[Int.pow_zero,one];exact ov7)) (λi σ H9 hi h=>?_) (fun σ H9 h=>?_)⟩
    ·obtain⟨s9,nv9,E90,E91,ov9⟩:=h;rename_i w12 v9 E9;obtain⟨pv9,rfl,hv9⟩:=nv9;refine⟨_,rfl,_,rfl,cc,_,_,_,rfl,rfl,kU (s08.trans s9) at1,rfl,gD,λz H10 n10 s10 e10=>?_⟩;have b2:pp.2.natAbs<2^7900:=gX fS.2.2 (gT (by decide) (by decide));refine⟨pv9,z,_,_,1,pp.2,rfl,kU s10 hv9,SqT.of e10,(ov9.sz E90 E91 (by omega) (by omega):SzR 7900 _).fr gA,⟨fS.1,by simp,Nat.one_lt_pow (by decide) (by decide),b2⟩,λr11 H11 n11 s11 e11=>?_⟩;have e11:=divN fS.1 e11;have pw:Y/((pp.2^i:Int):Rat)/((pp.2:Int):Rat)=Y/((pp.2^(i+1):Int):Rat):=by
      have h1:=cne fS.1;have h2:=cne (Int.pow_pos (m:=i) fS.1);rw[Int.pow_succ,mW]
      grind
     have od:=ov9.div E90 (show pp.2≠0 by have:=fS.1;omega);rw[pw]at e11 od;refine .mk (s9.trans (s10.trans s11)) (NumK.of e11) (nS E90 (by have:=fS.1;omega)) ?_ od;rw[mY,hV,show d+1600*j+100*(i+1)=d+1600*j+100*i+100 by omega,nU _ _ 100];exact mZ E91 fS.2.2
    ·obtain⟨s9,nv9,E90,E91,ov9⟩:=h;have dp:=KJ (S.take j) (ms.take j) λq hq=>(S100 q (gU hq)).1;have e:Y/((pp.2^m:Int):Rat)=X/((uF (S.take (j+1)) (ms.take (j+1)):Int):Rat):=by
      have h1:=cne dp;have h2:=cne (Int.pow_pos (m:=m) fS.1);rw[dt,mW,<-hY,mJ]
      grind
     rw[e]at nv9 ov9;exact .mk (s7.trans (s8.trans s9)) nv9 E90 (nL E91 (gS (by decide) (by omega))) ov9
   ·obtain⟨s7,nv7,E0,E1,ov7⟩:=h;rw[ly,show S.take aa=S by rw[<-lS2];exact mN,show ms.take aa=ms by rw[<-lms];exact mN,hw]at nv7;exact⟨_,rfl,go _ H7 (s06.trans s7) nv7⟩
structure TapeN(H:Hp)(tp:Addr):Prop where
 ex:∃n:Int,H tp=some (.lst [.int n])/\0<=n/\n<2147483647
theorem sm31{n:Int}(h0:0<=n)(h1:n<2147483647):n.natAbs<2^100000:=jQ (show n.natAbs<2^31 by have:(2:Nat)^31=2147483648:=rfl;omega) (by decide)
def SK(K:tF):Sp:=λvs H Q _=>∃(a:Addr) (ns:List Int),vs=[.ref a]/\SqL K H a (ns.map V.int)/\ns.length<=63/\∀(p:Addr) (H':Hp),H p=none->Same H H'->TapeN H' p->Q (.ref p) H'
inductive TaN(H:Hp)(a:Addr):L2.St->Hp->Prop where
 | mk {n:Int} {u:Option V} (h0:0<=n) (h1:n<2147483647):TaN H a [some (.ref a),some (.int n),u] H
def spPick:Sp:=λvs H Q _=>∃(tp:Addr) (k:Int),vs=[.ref tp,.int k]/\TapeN H tp/\0<k/\k<1000/\∀(m:Int) (H':Hp),0<=m->m<k->But tp H H'->TapeN H' tp->Q (.int m) H'
def spLeast:Sp:=λvs H Q _=>∃x y:Int,vs=[.int x,.int y]/\0<y/\x.natAbs<2^100/\y.natAbs<2^100/\∀(r:Addr) (H':Hp),H r=none->Same H H'->At2 H' r (fv x y).num (fv x y).den->Q (.ref r) H'
structure SmF(x:Rat):Prop where
 ex:∃t b:Int,x=fv t b/\-6<=t/\t<=6/\1<=b/\b<=5
def spFrac:Sp:=λvs H Q _=>∃tp:Addr,vs=[.ref tp]/\TapeN H tp/\∀(r:Addr) (x:Rat) (H':Hp),H r=none->But tp H H'->TapeN H' tp->At2 H' r x.num x.den->SmF x->Q (.ref r) H'
theorem scTape:FnScope ["script","number_here","cell"] ["script"] (jL NC):=⟨rfl,rfl,rfl,by decide +kernel,rfl,by decide +kernel,by decide +kernel⟩
theorem cut63(xs:List V):vN xs none (some 63)=xs.take 63:=by
 show vN xs none (some ((63:Nat):Int))=_;unfold vN;rw[HT.sIx_nat,HT.sIx_none,List.drop_zero,Nat.sub_zero,List.take_eq_take_iff];omega
theorem YF(F:Fun K "_law_tape" "_law_tape" NC f fd):FnOk P w K mg base CX0 1 f fd ["script"] (SK K):=by
 refine F.ok scTape (λvs H Q E h=>?_) (λcdv A outer s H vs Q E hr h=>?_)
 ·obtain⟨a,ns,rfl,_⟩:=h
  rfl
 ·obtain⟨a,ns,rfl,ha,l63,go⟩:=h;refine⟨_,jC (jP (i:=1) scTape.nd rfl (Or.inl rfl) (jJ)) (jC (qF PassesOwn.never rfl (vP (xH SR (pv 0) yK (vO jJ))) (jF (i:=2) scTape.nd rfl (Or.inl rfl)) (jE (jP (i:=1) scTape.nd rfl (Or.inl rfl) (jW uR (jW vJ (jW kZ (pv 1) jJ) (pv 2)) jJ)))) (jE (jO (qC (jA (pv 1) jB))))), ?_⟩;try dsimp only[cxK]
  refine⟨_,rfl,63,rfl,a,_,rfl,ha,λl H1 n1 s1 e1=>?_⟩;rw[cut63,<-List.map_take]at e1;refine⟨l,rfl,⟨_,SqL.of e1⟩,CT (K:=K) (a:=l) (xs:=(ns.take 63).map V.int) (λ_=>TaN H1 a) (.mk (by decide) (by decide)) (λi σ H2 _ h=>by obtain⟨_,_⟩:=h;exact SqL.of e1) (λi x σ H2 hx h=>?_) (fun σ H2 h=>?_)⟩
  ·obtain⟨h0,h1⟩:=h;rename_i n u;rw[mC]at hx;cases hn:(ns.take 63)[i]? with
   | none=>rw[hn]at hx;cases hx
   | some c=>
    rw[hn]at hx;cases hx;refine⟨_,rfl,_,_,rfl,rfl,⟨sm31 h0 h1,by decide +kernel⟩,_,rfl,_,_,rfl,rfl,_,_,rfl,rfl,(by show(0:Int)<2147483647;decide), ?_⟩;exact .mk (Int.emod_nonneg _ (by decide)) (Int.emod_lt_of_pos _ (by decide))
  ·obtain⟨h0,h1⟩:=h;rename_i n u;exact⟨_,rfl,gC,λp H3 n3 s3 e3=>go p H3 (s1.free n3) (s1.trans s3) ⟨n,e3,h0,h1⟩⟩
theorem scPick:FnScope ["tape","share"] ["tape","share"] (jL IP):=⟨rfl,rfl,rfl,by decide +kernel,rfl,by decide +kernel,by decide +kernel⟩
theorem YH(F:Fun K "_law_pick" "_law_pick" IP f fd):FnOk P w K mg base CX0 1 f fd ["tape","share"] spPick:=by
 refine F.ok scPick (λvs H Q E h=>?_) (λcdv A outer s H vs Q E hr h=>?_)
 ·obtain⟨tp,k,rfl,_⟩:=h
  rfl
 ·obtain⟨tp,k,rfl,⟨n,et,h0,h1⟩,k0,k1,go⟩:=h;refine⟨_,jC (qZ (jW uR (jW vJ (jW kZ (kF qS (pv 0) jJ (λ_ _=>rfl)) (kF qS (pv 0) jJ (λ_ _=>rfl))) jJ) jJ) (pg_sub (pv 0) jJ IO)) (jE (jO (jW uR (jW LwD.zE (kF qS (pv 0) jJ (λ_ _=>rfl)) jJ) (pv 1)))), ?_⟩;try dsimp only[cxK]
  have r0:∀{H:Hp} {m:Int},H tp=some (.lst [.int m])->SqL K H tp [.int m]:=λh=>SqL.of h;refine rvL rfl (r0 et) rfl (rvL rfl (r0 et) rfl ⟨_,_,rfl,rfl,⟨sm31 h0 h1,sm31 h0 h1⟩,_,_,rfl,rfl,_,_,rfl,rfl,(by show(0:Int)<2147483647;decide), ?_⟩);dsimp only;have m0:=Int.emod_nonneg (n*n+7919) (b:=2147483647) (by decide);have m1:=Int.emod_lt_of_pos (n*n+7919) (b:=2147483647) (by decide);generalize (n*n+7919)%2147483647=m at m0 m1;refine gSet (j:=0) rfl et rfl ?_;have e2:(upd H tp (.lst ([V.int n].set 0 (.int m)))) tp=some (.lst [.int m]):=jD;have b2:But tp H (upd H tp (.lst ([V.int n].set 0 (.int m)))):=λc u h n=>by rw[jH n];exact h
  generalize upd H tp (.lst ([V.int n].set 0 (.int m)))=H2 at e2 b2;refine rvL rfl (r0 e2) rfl ⟨_,_,rfl,rfl,LwD.xL (m:=31) (by decide) (by decide) (by have:(2:Nat)^31=2147483648:=rfl;omega),_,rfl,_,_,rfl,rfl,k0, ?_⟩;exact go _ _ (Int.emod_nonneg _ (by omega)) (Int.emod_lt_of_pos _ k0) b2 ⟨m,e2,m0,m1⟩
theorem scLeast:FnScope ["x","y","a","b"] ["x","y"] (jL GJ):=⟨rfl,rfl,rfl,by decide +kernel,rfl,by decide +kernel,by decide +kernel⟩
inductive LeI(H:Hp)(x y:Int):L2.St->Hp->Prop where
 | mk {p q:Int} (h0:0<=p) (h1:0<q) (h2:Int.gcd q p=Int.gcd x y):LeI H x y [some (.int x),some (.int y),some (.int p),some (.int q)] H
theorem UP(F:Fun K "_law_least" "_law_least" GJ f fd)(T:Txt mg):FnOk P w K mg base CX0 1 f fd ["x","y"] spLeast:=by
 refine F.ok scLeast (λvs H Q E h=>?_) (λcdv A outer s H vs Q E hr h=>?_)
 ·obtain⟨x,y,rfl,_⟩:=h
  rfl
 ·obtain⟨x,y,rfl,y0,xb,yb,go⟩:=h;refine⟨_,jC (jP (i:=2) scLeast.nd rfl (Or.inl rfl) (kN WP (by rfl) T.abs boot_abs (jA (pv 0) jB))) (jC (jP (i:=3) scLeast.nd rfl (Or.inl rfl) (pv 1)) (jC (IY PassesOwn.never (jV xS (pv 2) jJ (jU _)) (jE (TK (i:=2) (j:=3) rfl scLeast.nd rfl rfl (by decide) rfl rfl (jA (jW uR (pv 3) (pv 2)) (jA (pv 2) jB)) rfl))) (jE (jO (jS (jA (jW LwD.zE (pv 0) (pv 3)) (jA (jW LwD.zE (pv 1) (pv 3)) jB))))))), ?_⟩;try dsimp only[cxK]
  refine⟨_,rfl,_,rfl,_,rfl, ?_⟩;refine IE (LeI H x y) (fun σ _=>match σ with | [_,_,some (.int p),_]=>p.toNat | _=>0) (.mk (by split<;>omega) y0 ?_) ?_ ?_
  ·rw[Int.gcd_comm x];split
   ·exact Int.gcd_neg
   ·rfl
  ·rintro σ H1 ⟨h0,h1,h2⟩;rename_i p q;refine⟨_,rfl,_,_,rfl,rfl,_,rfl, ?_⟩;refine AN (λe=>?_) (λe=>?_)
   ·have hp:0<p:=mG e;refine⟨_,rfl,_,rfl,_,_,rfl,rfl,hp,_,rfl,_,_,rfl, ?_⟩;have m1:=Int.emod_nonneg q (b:=p) (by omega);have m2:=Int.emod_lt_of_pos q hp;refine⟨.mk m1 hp ((LwM.JY q p).trans h2), ?_⟩;show(q%p).toNat<p.toNat;omega
   ·have hp:p=0:=by
     have:¬0<p:=λz=>e (mX z);omega
    subst hp;have hq:q=((Int.gcd x y:Nat):Int):=by
     rw[<-h2,Int.gcd_zero_right];omega
    refine⟨_,rfl,_,rfl,_,_,rfl,rfl,LwD.xL (m:=100) h1 (by decide) xb,_,rfl,_,rfl,_,_,rfl,rfl,LwD.xL (m:=100) h1 (by decide) yb,gD,λr H2 n2 s2 e2=>?_⟩;refine go r H2 n2 s2 (uX (N:=x) (D:=y) ?_ y0 rfl);rw[qU y0,xI y0,<-hq];exact e2
  ·rintro σ H1 Q1 Q2 hQ ⟨v,e,i,j,e1,e2,k',ek,q⟩;exact⟨v,e,i,j,e1,e2,k',ek,hQ _ _ q⟩
theorem scFrac:FnScope ["tape"] ["tape"] (jL IR):=⟨rfl,rfl,rfl,by decide +kernel,rfl,by decide +kernel,by decide +kernel⟩
theorem YJ{fP fL:Addr}{fdP fdL:FuncData}(F:Fun K "_law_fraction" "_law_fraction" IR f fd)(DP:Df K mg "_law_pick" IP ["tape","share"] fP fdP)(GP:FnOk P w K mg base CX0 1 fP fdP ["tape","share"] spPick)(DL:Df K mg "_law_least" GJ ["x","y"] fL fdL)(GL:FnOk P w K mg base CX0 1 fL fdL ["x","y"] spLeast):FnOk P w K mg base CX0 2 f fd ["tape"] spFrac:=by
 refine F.ok scFrac (λvs H Q E h=>?_) (λcdv A outer s H vs Q E hr h=>?_)
 ·obtain⟨tp,rfl,_⟩:=h
  rfl
 ·obtain⟨tp,rfl,T0,go⟩:=h;refine⟨_,jE (jO (jI GL hr rfl DL.m DL.F.kp DL.b .nil jM (jA (jW HF (jI GP hr rfl DP.m DP.F.kp DP.b .nil jM (jA (pv 0) (jA jJ jB))) jJ) (jA (jW vJ jJ (jI GP hr rfl DP.m DP.F.kp DP.b .nil jM (jA (pv 0) (jA jJ jB)))) jB)))), ?_⟩;try dsimp only[cxK]
  refine⟨_,rfl,tp,13,rfl,T0,by decide,by decide,λm H1 m0 m1 b1 T1=>?_⟩;refine⟨_,_,rfl,rfl,_,rfl,tp,5,rfl,T1,by decide,by decide,λk H2 k0 k1 b2 T2=>?_⟩;refine⟨_,_,rfl,rfl,_,_,rfl,by omega, ?_, ?_,λr H3 n3 s3 e3=>?_⟩
  ·exact jQ (show(m-6).natAbs<2^5 by have:(2:Nat)^5=32:=rfl;omega) (by decide)
  ·exact jQ (show(1+k).natAbs<2^5 by have:(2:Nat)^5=32:=rfl;omega) (by decide)
  obtain⟨n,et,h0,h1⟩:=T2.ex;have b13:But tp H H3:=λc u h n=>s3 _ _ (b2 c u (b1 c u h n) n);refine go r _ H3 ?_ b13 ⟨n,s3 _ _ et,h0,h1⟩ e3 ⟨m-6,1+k,rfl,by omega,by omega,by omega,by omega⟩;cases q:H r with
  | none=>rfl
  | some u=>
   by_cases z:r=tp
   ·rw[z,et]at n3;cases n3
   ·rw[b2 r u (b1 r u q z) z]at n3;cases n3
theorem TapeN.same{H H':Hp}{tp:Addr}(t:TapeN H tp)(s:Same H H'):TapeN H' tp:=let ⟨n,e,h⟩:=t.ex;⟨n,s _ _ e,h⟩
theorem RH{X:Cx} :CallR X (.type "int") (λxs H Q=>∃b:Bool,xs=[.bl b]/\Q (.int (if b=true then 1 else 0)) H):=by
 intro ac s σ H xs us Q I r h;obtain⟨b,rfl,q⟩:=h;obtain⟨u,rfl,ru⟩:=qM r;cases ru;exact call_int_bool ⟨.int (if b=true then 1 else 0),H,I.tok _,⟨_,rfl⟩,q⟩
def pwU(L k a:Nat):Int:=if (decide (0<k)&&decide ((a:Int)=(L:Int)-(k:Int)))=true then 1 else 0
def pwL(L k:Nat):List Int:=(List.range L).map (pwU L k)
theorem BA(L k:Nat):(pwL L k).length=L:=by unfold pwL;rw[mS,List.length_range]
theorem pwU_nn(L k a:Nat):0<=pwU L k a:=by unfold pwU;split<;>decide
theorem LN(L k:Nat):∀n∈pwL L k,0<=n:=λn hn=>by
 obtain⟨a,_,rfl⟩:=nN.mp hn;exact pwU_nn L k a
theorem xZ:∀L:Nat,L<5->∀k,k<5->k<=L->(pwL L k).sum<=1/\∀j,j<k->pk (pwL L j)<pk (pwL L k)/\LwD.xN (pwL L j) (pwL L k)=true:=by decide +kernel
abbrev JL:=List (Nat×Rat)
structure JI(L k:Nat)(J:JL):Prop where
 up:J.Pairwise λa b=>a.1<b.1
 lt:∀a∈J,a.1<k
 nz:∀a∈J,a.2≠0
 sm:∀a∈J,SmF a.2
 ln:J.length<=k
def plJ(L:Nat)(J:JL):Pl:=J.map λa=>(pwL L a.1,a.2)
def tmJ(L:Nat)(J:JL):List LwS.Trm:=J.map λa=>⟨pwL L a.1,a.2.num,a.2.den⟩
theorem SmF.ov{x:Rat}(h:SmF x):Ov 60 9 x:=by
 obtain⟨t,b,rfl,t0,t1,b0,b1⟩:=h.ex;obtain⟨c,hc,hb⟩:∃c:Int,b*c=60/\c.natAbs<=60:=by
  rcases(show b=1∨b=2∨b=3∨b=4∨b=5 by omega)with rfl | rfl | rfl | rfl | rfl
  ·exact⟨60,rfl,by decide⟩
  ·exact⟨30,rfl,by decide⟩
  ·exact⟨20,rfl,by decide⟩
  ·exact⟨15,rfl,by decide⟩
  ·exact⟨12,rfl,by decide⟩
 refine⟨t*c,VR (by omega) (by decide) (by rw[<-hc];grind), ?_⟩;rw[mY];exact nL (mZ (show t.natAbs<=6 by omega) hb) (by decide)
theorem SmF.dn{x:Rat}(h:SmF x):x.num.natAbs<=6/\x.den<=5:=by
 obtain⟨t,b,e,t0,t1,b0,b1⟩:=h.ex;have q:=BJ (by omega) e;have l:x.den<=b.natAbs:=by
  have:=Int.natAbs_dvd_natAbs.mpr q.1;rw[hV]at this;exact Nat.le_of_dvd (by omega) this
 exact⟨nL q.2 (by omega),by omega⟩
theorem SmF.sz{x:Rat}(h:SmF x):SzR 7900 x:=h.ov.sz (by decide) (d:=6) (by decide) (by decide) (by decide)
theorem JI.ok{L:Nat}{J:JL}(h:JI L (L+1) J)(l1:1<=L)(l4:L<=4):PlOk L (plJ L J):=by
 have mem:∀x∈plJ L J,∃a∈J,x=(pwL L a.1,a.2):=λx hx=>by obtain⟨a,ha,e⟩:=nN.mp hx;exact⟨a,ha,e.symm⟩
 refine⟨λx hx=>?_,λx hx=>?_,λx hx=>?_, ?_,λx hx=>?_, ?_,l1,l4⟩
 ·obtain⟨a,ha,rfl⟩:=mem x hx;exact BA _ _
 ·obtain⟨a,ha,rfl⟩:=mem x hx;exact LN _ _
 ·obtain⟨a,ha,rfl⟩:=mem x hx;have:=h.lt a ha;exact Int.le_trans (xZ L (by omega) a.1 (by omega) (by omega)).1 (by decide)
 ·unfold plJ;rw[nO,List.pairwise_map];refine h.up.imp_of_mem fun {a b} ha hb k=>?_;have:=h.lt b hb;exact((xZ L (by omega) b.1 (by omega) (by omega)).2 a.1 k).1
 ·obtain⟨a,ha,rfl⟩:=mem x hx;exact h.nz a ha
 ·unfold plJ;rw[mS];have:=h.ln;omega
theorem JI.st{L:Nat}{J:JL}(h:JI L (L+1) J)(l4:L<=4):StL L 0 1 (plJ L J):=by
 have mem:∀x∈plJ L J,∃a∈J,x=(pwL L a.1,a.2):=λx hx=>by obtain⟨a,ha,e⟩:=nN.mp hx;exact⟨a,ha,e.symm⟩
 refine⟨λx hx=>?_,λx hx=>?_,λx hx=>?_,λx hx=>?_⟩
 ·obtain⟨a,ha,rfl⟩:=mem x hx;exact BA _ _
 ·obtain⟨a,ha,rfl⟩:=mem x hx;exact LN _ _
 ·obtain⟨a,ha,rfl⟩:=mem x hx;have:=h.lt a ha;exact(xZ L (by omega) a.1 (by omega) (by omega)).1
 ·obtain⟨a,ha,rfl⟩:=mem x hx;exact(h.sm a ha).ov
theorem JI.good{L:Nat}{J:JL}(h:JI L (L+1) J)(l1:1<=L)(l4:L<=4):Good L (tmJ L J):=by
 have mem:∀x∈tmJ L J,∃a∈J,x=LwS.Trm.mk (pwL L a.1) a.2.num a.2.den:=λx hx=>by obtain⟨a,ha,e⟩:=nN.mp hx;exact⟨a,ha,e.symm⟩
 refine⟨λx hx=>?_, ?_,l1,l4, ?_⟩
 ·obtain⟨a,ha,rfl⟩:=mem x hx;have:=h.lt a ha;have pf:=(xZ L (by omega) a.1 (by omega) (by omega)).1;have sd:=(h.sm a ha).dn;have nl:=kT a.2;exact⟨BA _ _,LN _ _,Int.le_trans pf (by decide),nl.1,nl.2,λz=>h.nz a ha (Rat.num_eq_zero.mp z),jQ (show a.2.num.natAbs<2^5 by have:(2:Nat)^5=32:=rfl;omega) (by decide),jQ (show((a.2.den:Int)).natAbs<2^5 by have:(2:Nat)^5=32:=rfl;omega) (by decide)⟩
 ·unfold tmJ;rw[mS];have:=h.ln;omega
 ·unfold tmJ;rw[List.pairwise_map];refine h.up.imp_of_mem fun {a b} ha hb k=>?_;have:=h.lt b hb;exact((xZ L (by omega) b.1 (by omega) (by omega)).2 a.1 k).2
theorem Poly.sq{K:tF}{H:Hp}{p:Addr}{L:Nat}{J:JL}(h:Poly H p L (tmJ L J)):SumQ K H p L (plJ L J):=by
 obtain⟨q,xs,e1,e2,pr⟩:=h.ex;refine⟨q,xs,e1,e2, ?_⟩;have key:∀{xs:List V} {J:JL},Paired (TrmV H) xs (tmJ L J)->Paired (TmQ K H) xs (plJ L J):=by
  intro xs J;induction J generalizing xs with
  | nil=>intro h;cases h;exact .nil
  | cons a J ih=>
   intro h;cases h with
   | cons h t=>
    obtain⟨r,b,c,e1,e2,e3⟩:=h.ex;exact .cons ⟨r,b,c,e1,e2,e3.pw,c,rfl,SqT.of e3.nb⟩ (ih t)
 exact key pr
def spStr:Sp:=λvs H Q _=>∃(tp:Addr) (L:Nat),vs=[.ref tp,.int L]/\TapeN H tp/\1<=L/\L<=4/\∀(p:Addr) (J:JL) (H':Hp),H p=none->But tp H H'->TapeN H' tp->Poly H' p L (tmJ L J)->JI L (L+1) J->Q (.ref p) H'
inductive StI(H:Hp)(tp l:Addr)(L k:Nat):L2.St->Hp->Prop where
 | mk {u3 u4 u5:Option V} {H':Hp} {xs:List V} {J:JL} (b:But tp H H') (t:TapeN H' tp) (e:H' l=some (.lst xs)) (p:Paired (TrmV H') xs (tmJ L J)) (j:JI L k J):StI H tp l L k [some (.ref tp),some (.int L),some (.ref l),u3,u4,u5] H'
theorem scStr:FnScope ["tape","letters","terms","k","powers","share"] ["tape","letters"] (jL zO):=⟨rfl,rfl,rfl,by decide +kernel,rfl,by decide +kernel,by decide +kernel⟩
theorem ok_str{fF:Addr}{fdF:FuncData}(F:Fun K "_law_straight" "_law_straight" zO f fd)(T:Txt mg)(DF:Df K mg "_law_fraction" IR ["tape"] fF fdF)(GF:FnOk P w K mg base CX0 2 fF fdF ["tape"] spFrac):FnOk P w K mg base CX0 3 f fd ["tape","letters"] spStr:=by
 refine F.ok scStr (λvs H Q E h=>?_) (λcdv A outer s H vs Q E hr h=>?_)
 ·obtain⟨tp,L,rfl,_⟩:=h
  rfl
 ·obtain⟨tp,L,rfl,T0,l1,l4,go⟩:=h;refine⟨_,jC (jP (i:=2) scStr.nd rfl (Or.inl rfl) (qC jB)) (jC (qF PassesOwn.never rfl (vB (by rfl) T.rng (jA (jW vJ (pv 1) jJ) jB)) (jF (i:=3) scStr.nd rfl (Or.inr rfl)) (jC (jP (i:=4) scStr.nd rfl (Or.inl rfl) (qA qG (by rfl) T.tup boot_tuple (jA (vE (own:=1) (idx:=[3,1]) (N:=["at","k","letters"]) rfl rfl rfl (by decide +kernel) (by decide +kernel) (wD (by intro y hy;simp only[nF,mM,or_false]at hy;rcases hy with rfl | rfl<;>rfl)) (qH rfl) rfl (MN rfl rfl ⟨rfl,rfl,rfl,rfl⟩ ⟨rfl,rfl,rfl,rfl⟩) (vB (by rfl) T.rng (jA (pv 1) jB)) (λC fp s2 H2=>(jF (i:=0) (show List.Nodup (["at","k","letters"]:List Str) by decide +kernel) rfl (Or.inl rfl) (Or.inr rfl))) (λC fp s2 H2=>qA RH (by rfl) T.int boot_int (jA (zB (qV xS (pv 1) jJ (jU _)) (uP (qV zF (pv 0) (jW HF (pv 2) (pv 1)) (jU _)))) jB))) jB))) (jC (jP (i:=5) scStr.nd rfl (Or.inl rfl) (jI GF hr rfl DF.m DF.F.kp DF.b .nil jM (jA (pv 0) jB))) (jE (kR (jV AC (kF kH (pv 5) jJ (λ_ _=>rfl)) jJ (jU _)) (jE (xQ (vY PySem.F.plainAttrs_list PySem.F.slot_list_append PySem.F.type_list_append kW (pv 2) (jA (jS (jA (pv 4) (jA (pv 5) jB))) jB)))) kA))))) (jE (jO (jS (jA (pv 1) (jA (qA qG (by rfl) T.tup boot_tuple (jA (pv 2) jB)) jB)))))), ?_⟩
  try dsimp only[cxK]
  have bt:∀{H1 H2:Hp},TapeN H1 tp->But tp H1 H2->∀a xs,H1 a=some (.tup xs)->H2 a=some (.tup xs):=λt b a xs h=>b a _ h λz=>by
   obtain⟨n,et,_⟩:=t.ex;rw[z,et]at h;cases h
  refine⟨gB,λl H1 n1 s1 e1=>?_⟩;have ltp:l≠tp:=λz=>by
   obtain⟨n,et,_⟩:=T0.ex;rw[z,et]at n1;cases n1
  dsimp only[jX];refine⟨_,rfl,_,_,rfl,rfl,L+1,rfl,by omega,by omega,yF (n:=L+1) (StI H tp l L) (.mk (xs:=[]) (J:=[]) (λc u h _=>s1 _ _ h) (T0.same s1) e1 .nil ⟨.nil,λ_ h=>(nomatch h),λ_ h=>(nomatch h),λ_ h=>(nomatch h),nQ _⟩) (λi σ H2 hi h=>?_) (fun σ H2 h=>?_)⟩
  ·obtain⟨b,t,e,p,j⟩:=h;rename_i u3 u4 u5 xs J;refine⟨_,rfl,L,rfl,by omega,by omega,λl2 H3 n3 s3 e3=>?_⟩;refine zK (n:=L) (CmI (λm=>((pwL L i).take m).map V.int) l2 H2) (by rw[sizeLine_eq];omega) ⟨s3,e3,rfl⟩ (λm ys H4 h=>h.e) ?_ ?_
   ·rintro m mm ys x H4 hx hm hy ⟨s4,e4,ey⟩;have mL:=(BP hx).2;refine⟨zJ, ?_⟩;have pm:(pwL L i)[m]? = some (pwU L i m):=by unfold pwL;rw[mC,List.getElem?_range mL];rfl
    have fin:∀v:Int,v=pwU L i m->H4 l2=some (.lst ys)/\∃m',m'<mm/\CompW (BQ L) (CmI (λm=>((pwL L i).take m).map V.int) l2 H2) (m+1) m' (ys++[.int v]) (upd H4 l2 (.lst (ys++[.int v]))):=λv hv=>by
     refine kL hx hm hy e4 ⟨jY s4 n3,jD, ?_⟩;rw[ey,mE,pm,mT,hv]
     rfl
    refine⟨_,rfl,_,_,rfl,rfl,_,rfl, ?_⟩;refine AN (λc=>?_) (λc=>?_)
    ·have c:(0:Int)<0+(i:Int):=mG c;refine⟨_,rfl,_,rfl,_,rfl,_,_,rfl,rfl,rfl,_,rfl,fin _ ?_⟩;unfold pwU;have e:decide (V.int (0+(m:Int))=V.int ((L:Int)-(0+(i:Int))))=(decide (0<i)&&decide ((m:Int)=(L:Int)-(i:Int))):=by
      rw[BK,mX (show 0<i by omega),Bool.true_and,Int.zero_add,Int.zero_add]
      rfl
     rw[e]
    ·refine⟨_,rfl,fin _ ?_⟩;unfold pwU;have z:¬0<i:=λz=>c (mX (by omega));rw[mU z]
     rfl
   ·rintro ys H4 hl ⟨s4,e4,ey⟩;rw[show(pwL L i).take L=pwL L i from gM (by rw[BA];exact nQ _)]at ey;refine⟨l2,ys,rfl,.inl ⟨SqL.of e4,λpb npb=>?_⟩⟩;have s5:Same H4 (upd H4 pb (.tup ys)):=jN _ npb;have e5:(upd H4 pb (.tup ys)) pb=some (.tup ys):=jD;generalize upd H4 pb (.tup ys)=H5 at s5 e5;rw[ey]at e5;have s25:=s4.trans s5;refine⟨_,rfl,tp,rfl,t.same s25,λr x H6 n6 b6 t6 e6 sm=>?_⟩;have k26:∀a zs,H2 a=some (.tup zs)->H6 a=some (.tup zs):=λa zs h=>bt (t.same s25) b6 _ _ (s25 _ _ h);have e56:=bt (t.same s25) b6 _ _ e5;have el6:H6 l=some (.lst xs):=b6 _ _ (s25 _ _ e) ltp;have p6:Paired (TrmV H6) xs (tmJ L J):=Paired.to (λ_ _ h=>h.map k26) p;have b06:But tp H H6:=λc u h n=>b6 _ _ (s25 _ _ (b c u h n)) n;have lx:xs.length=J.length:=by rw[Paired.length p];unfold tmJ;rw[mS]
    have lJ:=j.ln;dsimp only[jX];refine⟨_,rfl,r,_,_,_,rfl,rfl,SqT.of e6,rfl,rfl,_,rfl, ?_⟩;refine AN (λc=>?_) (λc=>?_)
    ·have xn:x≠0:=λz=>by rw[z]at c;exact absurd c (by decide)
     refine⟨_,rfl,.inl ⟨rfl,_,SqL.of el6⟩,_,rfl,_,rfl,gD,λpz H7 n7 s7 e7=>⟨l,_,_,rfl,rfl,s7 _ _ el6,by rw[sizeLine_eq];omega, ?_⟩⟩;have nu:∀a zs,H7 a=some (.tup zs)->upd H7 l (.lst (xs++[.ref pz])) a=some (.tup zs):=λa zs h=>by
      rw[jH (λz=>by rw[z,s7 _ _ el6]at h;cases h)];exact h
     refine .mk (xs:=xs++[.ref pz]) (J:=J++[(i,x)]) (λc u h n=>by rw[jH (λz=>by rw[z,n1]at h;cases h)];exact s7 _ _ (b06 c u h n)) ?_ jD ?_ ?_
     ·obtain⟨n,et,h0,h1⟩:=t6.ex;exact⟨n,by rw[jH (Ne.symm ltp)];exact s7 _ _ et,h0,h1⟩
     ·have e:tmJ L (J++[(i,x)])=tmJ L J++[LwS.Trm.mk (pwL L i) x.num x.den]:=by unfold tmJ;rw[mT];rfl
      rw[e];exact Paired.snoc (Paired.to (λ_ _ h=>(h.map λ_ _ z=>s7 _ _ z).map nu) p6) ⟨pz,pb,r,rfl,nu _ _ e7,nu _ _ (s7 _ _ e56),nu _ _ (s7 _ _ e6)⟩
     ·refine⟨?_,λa ha=>?_,λa ha=>?_,λa ha=>?_,by rw[gY];show _+1<=_;omega⟩
      ·rw[List.pairwise_append];refine⟨j.up,List.pairwise_singleton ..,λa ha c hc=>?_⟩;rw[hU.mp hc];exact j.lt a ha
      ·rcases mV.mp ha with ha | ha
       ·exact Nat.lt_succ_of_lt (j.lt a ha)
       ·rw[hU.mp ha];exact mR _
      ·rcases mV.mp ha with ha | ha
       ·exact j.nz a ha
       ·rw[hU.mp ha];exact xn
      ·rcases mV.mp ha with ha | ha
       ·exact j.sm a ha
       ·rw[hU.mp ha];exact sm
    ·exact .mk (xs:=xs) (J:=J) b06 t6 el6 p6 ⟨j.up,λa ha=>Nat.lt_succ_of_lt (j.lt a ha),j.nz,j.sm,by omega⟩
  ·obtain⟨b,t,e,p,j⟩:=h;rename_i u3 u4 u5 xs J;refine⟨_,rfl,_,rfl,l,xs,rfl,.inl ⟨SqL.of e,λq nq=>?_⟩⟩;have s3:Same H2 (upd H2 q (.tup xs)):=jN _ nq;have e3:(upd H2 q (.tup xs)) q=some (.tup xs):=jD;generalize upd H2 q (.tup xs)=H3 at s3 e3;refine⟨gD,λpp H4 n4 s4 e4=>?_⟩;refine go pp J H4 ?_ (λc u h n=>(s3.trans s4) _ _ (b c u h n)) (t.same (s3.trans s4)) ⟨q,xs,e4,s4 _ _ e3,Paired.to (λ_ _ h=>h.map λ_ _ z=>(s3.trans s4) _ _ z) p⟩ j;have n2:=s3.free n4;cases q:H pp with
   | none=>rfl
   | some u=>
    by_cases z:pp=tp
    ·obtain⟨n,et,_⟩:=t.ex;rw[z,et]at n2;cases n2
    ·rw[b pp u q z]at n2;cases n2
section
variable{K:tF}
mutual
theorem DecK.same{H H':Hp}(s:Same H H'):∀{v:V} {d:PyData},DecK K H v d->DecK K H' v d
 | _,_,.bl b=>.bl b
 | _,_,.int i=>.int i
 | _,_,.tup e h=>.tup (kU s e) (DecKs.same s h)
theorem DecKs.same{H H':Hp}(s:Same H H'):∀{vs:List V} {ds:List PyData},DecKs K H vs ds->DecKs K H' vs ds
 | _,_,.nil=>.nil
 | _,_,.cons h t=>.cons (DecK.same s h) (DecKs.same s t)
end
def CL(x:Rat):PyData:=.tuple [.int x.num,.int x.den]
theorem CK(x:Rat):DataOk (CL x):=⟨rfl,by show max 0 (max 0 0)+1<=60;decide⟩
theorem VJ(i:Int):DataOk (.int i):=⟨rfl,by show 0<=60;decide⟩
theorem NumK.dec{H:Hp}{v:V}{x:Rat}(h:NumK K H v x):DecK K H v (CL x):=by
 obtain⟨p,rfl,q⟩:=h;exact .tup q (.cons (.int _) (.cons (.int _) .nil))
structure EqP(K:tF)(H:Hp)(v:V):Prop where
 ex:∃(p:Addr) (x y:V) (d:PyData),v=.ref p/\H p=some (.tup [x,y])/\DecK K H x d/\DecK K H y d/\DataOk d
theorem EqP.same{H H':Hp}{v:V}(h:EqP K H v)(s:Same H H'):EqP K H' v:=let ⟨p,x,y,d,e1,e2,e3,e4,e5⟩:=h.ex;⟨p,x,y,d,e1,s _ _ e2,e3.same s,e4.same s,e5⟩
def Tls(K:tF)(d:PyData)(t:TE)(σ:L2.St)(H:Hp):Prop:=∀H',Same H H'->∀Q:VK,(∀v H'',Same H' H''->DecK K H'' v d->Q v H'')->t σ H' Q
theorem rdP{d:PyData}{t1 t2:TE}{σ:L2.St}{H:Hp}{Q:VK}(ok:DataOk d)(h1:Tls K d t1 σ H)(h2:Tls K d t2 σ H)(go:∀p H',Same H H'->EqP K H' (.ref p)->Q (.ref p) H'):BR (kP t1 (kP t2 tNil)) σ H Q:=
 h1 H (Same.refl _) _ λv1 H1 s1 d1=>h2 H1 s1 _ λv2 H2 s2 d2=>⟨gD,λp H3 n3 s3 e3=>go p H3 (s1.trans (s2.trans s3)) ⟨p,v1,v2,d,rfl,e3,d1.same (s2.trans s3),d2.same s3,ok⟩⟩
structure PrL(K:tF)(H:Hp)(l:Addr)(n:Nat):Prop where
 ex:∃xs,H l=some (.lst xs)/\xs.length=n/\∀v∈xs,EqP K H v
theorem PrL.same{H H':Hp}{l:Addr}{n:Nat}(h:PrL K H l n)(s:Same H H'):PrL K H' l n:=let ⟨xs,e1,e2,e3⟩:=h.ex;⟨xs,s _ _ e1,e2,λv hv=>(e3 v hv).same s⟩
theorem rdL1{t1:TE}{σ:L2.St}{H:Hp}{Q:VK}(h1:∀H',Same H H'->∀Q':VK,(∀p H'',Same H' H''->EqP K H'' (.ref p)->Q' (.ref p) H'')->t1 σ H' Q')(go:∀l H',H l=none->Same H H'->PrL K H' l 1->Q (.ref l) H'):BS (kP t1 tNil) σ H Q:=
 h1 H (Same.refl _) _ λp1 H1 s1 q1=>⟨gC,λl H3 n3 s3 e3=>go l H3 (s1.free n3) (s1.trans s3) ⟨_,e3,rfl,λv hv=>by
  rw[hU.mp hv];exact q1.same s3⟩⟩
theorem SY{t1 t2:TE}{σ:L2.St}{H:Hp}{Q:VK}(h1:∀H',Same H H'->∀Q':VK,(∀p H'',Same H' H''->EqP K H'' (.ref p)->Q' (.ref p) H'')->t1 σ H' Q')(h2:∀H',Same H H'->∀Q':VK,(∀p H'',Same H' H''->EqP K H'' (.ref p)->Q' (.ref p) H'')->t2 σ H' Q')(go:∀l H',H l=none->Same H H'->PrL K H' l 2->Q (.ref l) H'):BS (kP t1 (kP t2 tNil)) σ H Q:=
 h1 H (Same.refl _) _ λp1 H1 s1 q1=>h2 H1 s1 _ λp2 H2 s2 q2=>⟨gD,λl H3 n3 s3 e3=>go l H3 ((s1.trans s2).free n3) (s1.trans (s2.trans s3)) ⟨_,e3,rfl,λv hv=>by
  rcases nF.mp hv with rfl | hv
  ·exact q1.same (s2.trans s3)
  ·rw[hU.mp hv];exact q2.same s3⟩⟩
theorem NI{t2:TE}{σ:L2.St}{H:Hp}{Q:VK}{i l:Addr}{n m:Nat}(e:σ[i]? = some (some (.ref l)))(h:PrL K H l n)(nm:n+m<=100)(h2:∀Q':VK,(∀l2 H',H l2=none->Same H H'->PrL K H' l2 m->Q' (.ref l2) H')->t2 σ H Q')(go:∀l3 H',H l3=none->Same H H'->PrL K H' l3 (n+m)->Q (.ref l3) H'):tOp rCatF (qJ i) t2 σ H Q:=
 ⟨_,e,h2 _ λl2 H1 n1 s1 p1=>by
  obtain⟨xs,e1,l1,q1⟩:=(h.same s1).ex;obtain⟨ys,e2,l2',q2⟩:=p1.ex;refine⟨l,l2,xs,ys,rfl,rfl,e1,e2,by rw[sizeLine_eq];omega,λl3 H3 n3 s3 e3=>go l3 H3 (s1.free n3) (s1.trans s3) ⟨_,e3,by rw[gY,l1,l2'],λv hv=>?_⟩⟩;rcases mV.mp hv with hv | hv
  ·exact(q1 v hv).same s3
  ·exact(q2 v hv).same s3⟩
theorem XC{H:Hp}{l a:Addr}{xs ys zs:List V}(e:H l=some (.lst xs))(h:SqT K H a zs):SqT K (upd H l (.lst ys)) a zs:=by
 rcases h with(h | ⟨u,h⟩) | h
 ·exact .inl (.inl (by rw[jH λz=>by rw[z,e]at h;cases h];exact h))
 ·exact .inl (.inr ⟨u,by rw[jH λz=>by rw[z,e]at h;cases h];exact h⟩)
 ·exact .inr h
mutual
theorem DecK.updL{H:Hp}{l:Addr}{xs ys:List V}(e:H l=some (.lst xs)):∀{v:V} {d:PyData},DecK K H v d->DecK K (upd H l (.lst ys)) v d
 | _,_,.bl b=>.bl b
 | _,_,.int i=>.int i
 | _,_,.tup h t=>.tup (XC e h) (DecKs.updL e t)
theorem DecKs.updL{H:Hp}{l:Addr}{xs ys:List V}(e:H l=some (.lst xs)):∀{vs:List V} {ds:List PyData},DecKs K H vs ds->DecKs K (upd H l (.lst ys)) vs ds
 | _,_,.nil=>.nil
 | _,_,.cons h t=>.cons (DecK.updL e h) (DecKs.updL e t)
end
theorem EqP.updL{H:Hp}{l:Addr}{xs ys:List V}(e:H l=some (.lst xs)){v:V}(h:EqP K H v):EqP K (upd H l (.lst ys)) v:=by
 obtain⟨p,x,y,d,e1,e2,e3,e4,e5⟩:=h.ex;exact⟨p,x,y,d,e1,by rw[jH λz=>by rw[z,e]at e2;cases e2];exact e2,e3.updL e,e4.updL e,e5⟩
theorem PrL.app{H:Hp}{l p:Addr}{n:Nat}{xs:List V}(e:H l=some (.lst xs))(h:xs.length=n/\∀v∈xs,EqP K H v)(q:EqP K H (.ref p)):PrL K (upd H l (.lst (xs++[.ref p]))) l (n+1):=
 ⟨_,jD,by rw[gY,h.1];rfl,λv hv=>by
  rcases mV.mp hv with hv | hv
  ·exact(h.2 v hv).updL e
  ·rw[hU.mp hv];exact q.updL e⟩
end
structure NoI(K:tF)(H1:Hp)(q:Addr)(i:Nat)(ys:List V)(H2:Hp):Prop where
 s:Same H1 H2
 e:H2 q=some (.lst [])
 y:ys=[]
section
variable{K:tF}{H:Hp}{Q:VK}{E:XK}{v1 v2:V}{x y:Rat}
theorem dAddQ(h1:NumK K H v1 x)(h2:NumK K H v2 y)(z1:SzR 7900 x)(z2:SzR 7900 y)(go:∀v H',Same H H'->DecK K H' v (CL (x+y))->Q v H'):yW K [v1,v2] H Q E:=by
 obtain⟨p1,rfl,q1⟩:=h1;obtain⟨p2,rfl,q2⟩:=h2;exact⟨p1,p2,_,_,_,_,rfl,q1,q2,z1.fr gA,z2.fr gA,λr H' _ s e=>go _ H' s (NumK.dec (NumK.of (LA e)))⟩
theorem dMulQ(h1:NumK K H v1 x)(h2:NumK K H v2 y)(z1:SzR 7900 x)(z2:SzR 7900 y)(go:∀v H',Same H H'->DecK K H' v (CL (x*y))->Q v H'):uY K [v1,v2] H Q E:=by
 obtain⟨p1,rfl,q1⟩:=h1;obtain⟨p2,rfl,q2⟩:=h2;exact⟨p1,p2,_,_,_,_,rfl,q1,q2,z1.fr gA,z2.fr gA,λr H' _ s e=>go _ H' s (NumK.dec (NumK.of (NV e)))⟩
theorem dDivQ(h1:NumK K H v1 x)(h2:NumK K H v2 y)(z1:SzR 7900 x)(z2:SzR 7900 y)(ny:y≠0)(go:∀v H',Same H H'->DecK K H' v (CL (x/y))->Q v H'):uM K [v1,v2] H Q E:=by
 obtain⟨p1,rfl,q1⟩:=h1;obtain⟨p2,rfl,q2⟩:=h2;exact⟨p1,p2,_,_,_,_,rfl,q1,q2,z1.fr gA,z2.fr gA,LS ny,λr H' _ s e=>go _ H' s (NumK.dec (NumK.of (divAt ny e)))⟩
theorem dLessQ(h1:NumK K H v1 x)(h2:NumK K H v2 y)(z1:SzR 7900 x)(z2:SzR 7900 y)(go:∀v H',Same H H'->DecK K H' v (CL (x-y))->Q v H'):AT K [v1,v2] H Q E:=
 ⟨v1,v2,x,y,rfl,h1,h2,z1,z2,λr H' _ s e=>go _ H' s (NumK.dec (NumK.of e))⟩
theorem dBesQ(h1:NumK K H v1 x)(h2:NumK K H v2 y)(z1:SzR 7900 x)(z2:SzR 7900 y)(go:∀v H',Same H H'->DecK K H' v (.int (bsd x y))->Q v H'):FR K [v1,v2] H Q E:=
 ⟨v1,v2,x,y,rfl,h1,h2,z1,z2,go _ H (Same.refl _) (.int _)⟩
end
section
variable{K:tF}{H:Hp}{d:PyData}{sp:Sp}{σ:L2.St}{i j:Nat}{v1 v2:V}
def TlsS(K:tF)(d:PyData)(sp:Sp)(vs:List V)(H:Hp):Prop:=∀H',Same H H'->∀Q:VK,(∀v H'',Same H' H''->DecK K H'' v d->Q v H'')->sp vs H' Q E0
theorem rd2(ok:DataOk d)(h:TlsS K d sp [v1,v2] H)(e1:σ[i]? = some (some v1))(e2:σ[j]? = some (some v2))(H':Hp)(s:Same H H')(Q':VK)(go:∀p H'',Same H' H''->EqP K H'' (.ref p)->Q' (.ref p) H'') :
  BR (kP (uL sp gKV E0 tNil (kP (qJ i) (kP (qJ j) tNil))) (kP (IJ sp [] E0 (kP (qJ i) (kP (qJ j) tNil))) tNil)) σ H' Q':=
 rdP ok (λH1 s1 Q1 g1=>⟨_,e1,_,e2,h H1 (s.trans s1) Q1 g1⟩) (λH1 s1 Q1 g1=>⟨_,e1,_,e2,h H1 (s.trans s1) Q1 g1⟩) go
theorem nil_list:DataOk (.list []):=⟨by simp [PyData.canLay0,PyData.canLayAll0],by simp [PyData.depth,PyData.depthAll]⟩
theorem SX{l:Addr}{n:Nat}{Q:VK}(e:σ[i]? = some (some (.ref l)))(h:PrL K H l n)(hn:n<=100)(go:∀H',Same H H'->Q (.bl true) H') :
  tOp rEqD (AR 1 [] (VL K (qJ i)) (jX 0) (MP (tOp (TC K) (tOp (yY K) (qJ 0) (tC (V.int 0))) (tOp (yY K) (qJ 0) (tC (V.int 1))))) (qJ 0)) (BS tNil) σ H Q:=by
 obtain⟨xs,e1,lx,hx⟩:=h.ex;refine⟨_,e,l,rfl,⟨_,SqL.of e1⟩,λq H1 n1 s1 e2=>?_⟩;refine AJ (K:=K) (a:=l) (xs:=xs) (NoI K H q) (by rw[lx,sizeLine_eq];omega) ⟨s1,e2,rfl⟩ (λk ys H2 h=>⟨SqL.of (h.s _ _ e1),by rw[h.y];exact h.e,by rw[h.y];exact nR _⟩) ?_ ?_
 ·intro k m ys x H2 hk hm h;obtain⟨p,a,b,d,rfl,ep,d1,d2,ok⟩:=((hx x (gQ hk)).same h.s).ex;exact⟨zJ,_,rfl,p,_,_,_,rfl,rfl,SqT.of ep,rfl,_,rfl,p,_,_,_,rfl,rfl,SqT.of ep,rfl,d,d1,d2,ok,_,rfl,vI rfl (HZ hk hm ⟨h.s,h.e,h.y⟩)⟩
 ·intro ys H2 h;refine⟨gB,λq2 H3 n3 s3 e3=>⟨.list [],.list [],.lst (s3 _ _ h.e) .nil,.lst e3 .nil,nil_list,nil_list, ?_⟩⟩;rw[SeqAt.eqv_refl _ nil_list.1];exact go H3 (h.s.trans s3)
end
def spFrR:Sp:=λvs H Q _=>∃(pa pb:Addr) (x y:Rat),vs=[.ref pa,.ref pb]/\At2 H pa x.num x.den/\At2 H pb y.num y.den/\SmF x/\SmF y/\∀H',Same H H'->Q (.bl true) H'
theorem scFrR:FnScope ["a","b","pairs"] ["a","b"] (jL XI):=⟨rfl,rfl,rfl,by decide +kernel,rfl,by decide +kernel,by decide +kernel⟩
theorem ok_frR{fA fL fM fB fD fI:Addr}{fdA fdL fdM fdB fdD fdI:FuncData}(F:Fun K "_law_fractions_right" "_law_fractions_right" XI f fd)(T:Txt mg)
  (DA:Df K mg "added" uZ ["one","other"] fA fdA) (GA:FnOk P w K mg base CX0 2 fA fdA ["one","other"] (yW K))
  (DL:Df K mg "less" NG ["one","other"] fL fdL) (GL:FnOk P w K mg base CX0 3 fL fdL ["one","other"] (AT K))
  (DM:Df K mg "multiplied" IQ ["one","other"] fM fdM) (GM:FnOk P w K mg base CX0 2 fM fdM ["one","other"] (uY K))
  (DB:Df K mg "beside" AZ ["one","other"] fB fdB) (GB:FnOk P w K mg base CX0 1 fB fdB ["one","other"] (FR K))
  (DD:Df K mg "divided" PN ["one","other"] fD fdD) (GD:FnOk P w K mg base CX0 3 fD fdD ["one","other"] (uM K))
  (DI:Df K mg "is_fraction" PM ["thing"] fI fdI) (GI:FnOk P w K mg base CX0 2 fI fdI ["thing"] spIsf):FnOk P w K mg base CX0 4 f fd ["a","b"] spFrR:=by
 have KA:KBs K fdA ["one","other"]:=Fun.kbs DA.F (by decide) λkV doc pm an cdv ct ws hl=>by match ws,hl with | [a,b],_=>rfl
 have KL:KBs K fdL ["one","other"]:=Fun.kbs DL.F (by decide) λkV doc pm an cdv ct ws hl=>by match ws,hl with | [a,b],_=>rfl
 have KM:KBs K fdM ["one","other"]:=Fun.kbs DM.F (by decide) λkV doc pm an cdv ct ws hl=>by match ws,hl with | [a,b],_=>rfl
 have KB:KBs K fdB ["one","other"]:=Fun.kbs DB.F (by decide) λkV doc pm an cdv ct ws hl=>by match ws,hl with | [a,b],_=>rfl
 have KD:KBs K fdD ["one","other"]:=Fun.kbs DD.F (by decide) λkV doc pm an cdv ct ws hl=>by match ws,hl with | [a,b],_=>rfl
 have KI:KBs K fdI ["thing"]:=Fun.kbs DI.F (by decide) λkV doc pm an cdv ct ws hl=>by match ws,hl with | [a],_=>rfl
 refine F.ok scFrR (λvs H Q E h=>?_) (λcdv A outer s H vs Q E hr h=>?_)
 ·obtain⟨pa,pb,x,y,rfl,_⟩:=h
  rfl
 ·obtain⟨pa,pb,x,y,rfl,ha,hb,sx,sy,go⟩:=h;have hu:_+64<cLine:=hr.units;have hr1:Room 1 _:=hr.mono (by decide);have hr2:Room 2 _:=hr.mono (by decide);refine⟨_,jC (jP (i:=2) scFrR.nd rfl (Or.inl rfl) (qC (jA (jS (jA (kO GA hr2 rfl DA.m DA.F.kp KA jM (kC (pv 0) (kC (pv 1) qK))) (jA (jI GA hr2 rfl DA.m DA.F.kp DA.b .nil jM (jA (pv 0) (jA (pv 1) jB))) jB))) (jA (jS (jA (kO GL hr rfl DL.m DL.F.kp KL jM (kC (pv 0) (kC (pv 1) qK))) (jA (jI GL hr rfl DL.m DL.F.kp DL.b .nil jM (jA (pv 0) (jA (pv 1) jB))) jB))) jB)))) (jC (jP (i:=2) scFrR.nd rfl (Or.inl rfl) (jW BE (pv 2) (qC (jA (jS (jA (kO GM hr2 rfl DM.m DM.F.kp KM jM (kC (pv 0) (kC (pv 1) qK))) (jA (jI GM hr2 rfl DM.m DM.F.kp DM.b .nil jM (jA (pv 0) (jA (pv 1) jB))) jB))) (jA (jS (jA (kO GB hr1 rfl DB.m DB.F.kp KB jM (kC (pv 0) (kC (pv 1) qK))) (jA (jI GB hr1 rfl DB.m DB.F.kp DB.b .nil jM (jA (pv 0) (jA (pv 1) jB))) jB))) jB))))) (jC (kR (jV AC (kF kH (pv 1) jJ (λ_ _=>rfl)) jJ (jU _)) (jE (xQ (vY PySem.F.plainAttrs_list PySem.F.slot_list_append PySem.F.type_list_append kW (pv 2) (jA (jS (jA (kO GD hr rfl DD.m DD.F.kp KD jM (kC (pv 0) (kC (pv 1) qK))) (jA (jI GD hr rfl DD.m DD.F.kp DD.b .nil jM (jA (pv 0) (jA (pv 1) jB))) jB))) jB)))) kA) (jE (jO (zB (qV UD (kO GI hr2 rfl DI.m DI.F.kp KI jM (kC (pv 0) qK)) yB (jU _)) (uP (qV (LQ hu) (EK (own:=1) (idx:=[]) (N:=["pair"]) rfl rfl rfl (by decide +kernel) (by decide +kernel) (λ_ _ h=>nomatch h) (qH rfl) rfl (λ_ _ _ h=>nomatch h) (vP (pv 2)) (λC fp s2 H2=>(jF (i:=0) (show List.Nodup (["pair"]:List Str) by decide +kernel) rfl (Or.inl rfl) (Or.inr rfl))) (λC fp s2 H2=>jV (show OpR (jK _ ["pair"] _ _ C fp s2 H2) (compareOp .NotEq) (TC K)from UB hu) (kF (show IxR (jK _ ["pair"] _ _ C fp s2 H2) (yY K)from kH) (pv 0) jJ (λ_ _=>rfl)) (kF (show IxR (jK _ ["pair"] _ _ C fp s2 H2) (yY K)from kH) (pv 0) jJ (λ_ _=>rfl)) (jU _)) (λC fp s2 H2=>pv 0)) (qC jB) (jU _)))))))), ?_⟩
  try dsimp only[cxK]
  have na:NumK K H (.ref pa) x:=NumK.of ha;have nb:NumK K H (.ref pb) y:=NumK.of hb;have hA:TlsS K (CL (x+y)) (yW K) [.ref pa,.ref pb] H:=λH' s Q go=>dAddQ (na.same s) (nb.same s) sx.sz sy.sz go;have hL:TlsS K (CL (x-y)) (AT K) [.ref pa,.ref pb] H:=λH' s Q go=>dLessQ (na.same s) (nb.same s) sx.sz sy.sz go;have hM:TlsS K (CL (x*y)) (uY K) [.ref pa,.ref pb] H:=λH' s Q go=>dMulQ (na.same s) (nb.same s) sx.sz sy.sz go;have hB:TlsS K (.int (bsd x y)) (FR K) [.ref pa,.ref pb] H:=λH' s Q go=>dBesQ (na.same s) (nb.same s) sx.sz sy.sz go;have fin:∀(H':Hp) (l:Addr) (n:Nat),n<=100->Same H H'->PrL K H' l n->∀Q':VK,(∀H'',Same H H''->Q' (.bl true) H'')->ZY (tOp (λx y H Q=>∃a b,x=V.bl a/\y=V.bl b/\Q (V.bl (decide (a=b))) H) (uL spIsf gKV E0 tNil (kP (qJ 0) tNil)) (tC (V.bl true)))
    (tOp rEqD (AR 1 [] (VL K (qJ 2)) (jX 0) (MP (tOp (TC K) (tOp (yY K) (qJ 0) (tC (V.int 0))) (tOp (yY K) (qJ 0) (tC (V.int 1))))) (qJ 0)) (BS tNil)) [some (.ref pa),some (.ref pb),some (.ref l)] H' Q':=λH' l n hn s pl Q' g=>by
   have fb:AG H' (.ref pa)=true:=by
    rw[CS (s _ _ ha)];have nl:=kT x;show(decide (1<=(x.den:Int))&&decide (Int.gcd x.num x.den=1))=true;rw[mX (show 1<=(x.den:Int) by omega),mX nl.2]
    rfl
   have sd:=sx.dn;refine⟨_,rfl,_,rfl,.tup (s _ _ ha) (λz hz=>?_),_,_,rfl,rfl,_,rfl, ?_⟩
   ·have p5:(2:Nat)^5=32:=rfl;rcases nF.mp hz with rfl | hz
    ·exact⟨jQ (show x.num.natAbs<2^5 by omega) (by decide),_,.int _⟩
    ·rw[hU.mp hz];exact⟨jQ (show((x.den:Int)).natAbs<2^5 by omega) (by decide),_,.int _⟩
   ·rw[fb];exact xO rfl (SX rfl pl hn λH'' s2=>g H'' (s.trans s2))
  refine SY (rd2 (CK _) hA rfl rfl) (rd2 (CK _) hL rfl rfl) λl1 H1 n1 s1 p1=>?_;have up:∀{d:PyData} {sp:Sp} {vs:List V} {H':Hp},TlsS K d sp vs H->Same H H'->TlsS K d sp vs H':=λh s H' s'=>h H' (s.trans s');dsimp only[jX];refine NI (i:=2) rfl p1 (by decide) (λQ' go=>SY (rd2 (CK _) (up hM s1) rfl rfl) (rd2 (VJ _) (up hB s1) rfl rfl) go) λl2 H2 n2 s2 p2=>?_;have s02:=s1.trans s2;dsimp only[jX];refine⟨_,rfl,pb,_,_,_,rfl,rfl,SqT.of (s02 _ _ hb),rfl,rfl,_,rfl, ?_⟩;refine AN (λc=>?_) (λc=>?_)
  ·have yn:y≠0:=λz=>by rw[z]at c;exact absurd c (by decide)
   have hD:TlsS K (CL (x/y)) (uM K) [.ref pa,.ref pb] H:=λH' s Q go=>dDivQ (na.same s) (nb.same s) sx.sz sy.sz yn go;obtain⟨xs,e2,lx,hx⟩:=p2.ex;refine⟨_,rfl,.inl ⟨rfl,_,SqL.of e2⟩,rd2 (CK _) (up hD s02) rfl rfl H2 (Same.refl _) _ λp H3 s3 q3=>⟨l2,_,_,rfl,rfl,s3 _ _ e2,by rw[lx];decide, ?_⟩⟩;have pl:=PrL.app (s3 _ _ e2) ⟨lx,λv hv=>(hx v hv).same s3⟩ q3;exact fin _ l2 _ (by decide) (jY (s02.trans s3) (s1.free n2)) pl _ go
  ·exact fin _ l2 _ (by decide) s02 p2 _ go
def tmP(P:Pl):List LwS.Trm:=P.map λx=>⟨x.1,x.2.num,x.2.den⟩
theorem ZV(L:Nat)(J:JL):tmP (plJ L J)=tmJ L J:=by unfold tmP plJ tmJ;rw[nO];rfl
section
variable{K:tF}{H:Hp}
theorem FB:∀ns:List Int,DecKs K H (ns.map V.int) (ns.map PyData.int)
 | []=>.nil
 | n::r=>.cons (.int n) (FB r)
theorem KN:∀{xs:List V} {P:Pl},Paired (TmQ K H) xs P->DecKs K H xs ((tmP P).map xW)
 | _,_,.nil=>.nil
 | _,_,.cons h t=>by
  obtain⟨r,b,c,rfl,e1,e2,n⟩:=h;exact .cons (.tup (SqT.of e1) (.cons (.tup (SqT.of e2) (FB _)) (.cons n.dec .nil))) (KN t)
theorem SumQ.dec{p:Addr}{aa:Nat}{P:Pl}(h:SumQ K H p aa P):DecK K H (.ref p) (wW aa (tmP P)):=by
 obtain⟨q,xs,e1,e2,pr⟩:=h.ex;exact .tup (SqT.of e1) (.cons (.int _) (.cons (.tup (SqT.of e2) (KN pr)) .nil))
end
structure DS(aa:Nat)(g:List Int->Rat)(d:PyData):Prop where
 ex:∃P,d=wW aa (tmP P)/\PlOk aa P/\∀ns:List Int,ns.length=aa->Byt ns->cf P ns=g ns
def One(D:PyData->Prop):Prop:=∀d d',D d->D d'->d'=d/\DataOk d
theorem DS.one(aa:Nat)(g:List Int->Rat):One (DS aa g):=λd d' h h'=>by
 obtain⟨P,rfl,o1,v1⟩:=h.ex;obtain⟨P',rfl,o2,v2⟩:=h'.ex;rw[XV o1 o2 λns hl hb=>by rw[v1 ns hl hb,v2 ns hl hb]];exact⟨rfl,NJ _ _⟩
theorem LR{d:PyData}(h:DataOk d):One (· = d):=λ_ _ e e'=>⟨by rw[e,e'],by rw[e];exact h⟩
section
variable{K:tF}
def TlE(K:tF)(D:PyData->Prop)(t:TE)(σ:L2.St)(H:Hp):Prop:=∀H',Same H H'->∀Q:VK,(∀v d H'',Same H' H''->DecK K H'' v d->D d->Q v H'')->t σ H' Q
theorem rdU{D:PyData->Prop}{t1 t2:TE}{σ:L2.St}{H:Hp}(u:One D)(h1:TlE K D t1 σ H)(h2:TlE K D t2 σ H)(H0:Hp)(s0:Same H H0)(Q:VK)(go:∀p H',Same H0 H'->EqP K H' (.ref p)->Q (.ref p) H'):BR (kP t1 (kP t2 tNil)) σ H0 Q:=
 h1 H0 s0 _ λv1 d1 H1 s1 k1 q1=>h2 H1 (s0.trans s1) _ λv2 d2 H2 s2 k2 q2=>⟨gD,λp H3 n3 s3 e3=>by
  obtain⟨rfl,ok⟩:=u _ _ q1 q2;exact go p H3 (s1.trans (s2.trans s3)) ⟨p,v1,v2,_,rfl,e3,k1.same (s2.trans s3),k2.same s3,ok⟩⟩
def TlP(K:tF)(D:PyData->Prop)(sp:Sp)(vs:List V)(H:Hp):Prop:=∀H',Same H H'->∀Q:VK,(∀v d H'',Same H' H''->DecK K H'' v d->D d->Q v H'')->sp vs H' Q E0
theorem TlP.up{D:PyData->Prop}{sp:Sp}{vs:List V}{H H':Hp}(h:TlP K D sp vs H)(s:Same H H'):TlP K D sp vs H':=λH1 s1=>h H1 (s.trans s1)
variable{H:Hp}{D:PyData->Prop}{sp:Sp}{σ:L2.St}{i j:Nat}{v1 v2:V}
theorem XM(u:One D)(h:TlP K D sp [v1,v2] H)(e1:σ[i]? = some (some v1))(e2:σ[j]? = some (some v2))(H':Hp)(s:Same H H')(Q':VK)(go:∀p H'',Same H' H''->EqP K H'' (.ref p)->Q' (.ref p) H'') :
  BR (kP (uL sp gKV E0 tNil (kP (qJ i) (kP (qJ j) tNil))) (kP (IJ sp [] E0 (kP (qJ i) (kP (qJ j) tNil))) tNil)) σ H' Q':=
 rdU u (λH1 s1 Q1 g1=>⟨_,e1,_,e2,h H1 s1 Q1 g1⟩) (λH1 s1 Q1 g1=>⟨_,e1,_,e2,h H1 s1 Q1 g1⟩) H' s Q' go
theorem rdU2c(u:One D)(h:TlP K D sp [v1,v2] H)(e1:σ[i]? = some (some v1))(H':Hp)(s:Same H H')(Q':VK)(go:∀p H'',Same H' H''->EqP K H'' (.ref p)->Q' (.ref p) H'') :
  BR (kP (uL sp gKV E0 tNil (kP (qJ i) (kP (tC v2) tNil))) (kP (IJ sp [] E0 (kP (qJ i) (kP (tC v2) tNil))) tNil)) σ H' Q':=
 rdU u (λH1 s1 Q1 g1=>⟨_,e1,h H1 s1 Q1 g1⟩) (λH1 s1 Q1 g1=>⟨_,e1,h H1 s1 Q1 g1⟩) H' s Q' go
theorem rdU1(u:One D)(h:TlP K D sp [v1] H)(e1:σ[i]? = some (some v1))(H':Hp)(s:Same H H')(Q':VK)(go:∀p H'',Same H' H''->EqP K H'' (.ref p)->Q' (.ref p) H'') :
  BR (kP (uL sp gKV E0 tNil (kP (qJ i) tNil)) (kP (IJ sp [] E0 (kP (qJ i) tNil)) tNil)) σ H' Q':=
 rdU u (λH1 s1 Q1 g1=>⟨_,e1,h H1 s1 Q1 g1⟩) (λH1 s1 Q1 g1=>⟨_,e1,h H1 s1 Q1 g1⟩) H' s Q' go
end
structure SmH(K:tF)(H:Hp)(pc pd pa ph:Addr)(L:Nat)(J1 J2:JL)(x:Rat)(S:List Rat):Prop where
 c:Poly H pc L (tmJ L J1)
 d:Poly H pd L (tmJ L J2)
 a:At2 H pa x.num x.den
 h:SpQ K H ph S
 j1:JI L (L+1) J1
 j2:JI L (L+1) J2
 sx:SmF x
 sl:S.length=L
 ss:∀r∈S,SmF r
 l1:1<=L
 l4:L<=4
theorem SmH.same{K:tF}{H H':Hp}{pc pd pa ph:Addr}{L:Nat}{J1 J2:JL}{x:Rat}{S:List Rat}(h:SmH K H pc pd pa ph L J1 J2 x S)(s:Same H H'):SmH K H' pc pd pa ph L J1 J2 x S:=by
 obtain⟨ys,e,p⟩:=h.h;exact⟨h.c.same s,h.d.same s,s _ _ h.a,⟨ys,s _ _ e,Paired.to (λ_ _ k=>k.same s) p⟩,h.j1,h.j2,h.sx,h.sl,h.ss,h.l1,h.l4⟩
def spSmR(K:tF):Sp:=λvs H Q _=>∃(pc pd pa ph:Addr) (L:Nat) (J1 J2:JL) (x:Rat) (S:List Rat),vs=[.ref pc,.ref pd,.ref pa,.ref ph,.int L]/\SmH K H pc pd pa ph L J1 J2 x S/\∀H',Same H H'->Q (.bl true) H'
theorem JI.sz{L:Nat}{J:JL}(h:JI L (L+1) J):∀x∈plJ L J,SzR 7900 x.2:=λx hx=>by
 obtain⟨a,ha,rfl⟩:=nN.mp hx;exact(h.sm a ha).sz
theorem JI.ln5{L:Nat}{J:JL}(h:JI L (L+1) J)(l4:L<=4):(plJ L J).length<=5:=by
 have:=h.ln;unfold plJ;rw[mS];omega
theorem JI.plb{L:Nat}{J:JL}(h:JI L (L+1) J):PlB (plJ L J) 60:=by
 have mem:∀x∈plJ L J,SmF x.2:=λx hx=>by obtain⟨a,ha,rfl⟩:=nN.mp hx;exact h.sm a ha
 refine⟨by decide,jQ (show(60:Int).natAbs<2^6 by decide) (by decide),λx hx=>?_,λx hx=>?_⟩
 ·obtain⟨c,e,_⟩:=(mem x hx).ov;exact(BJ (by decide) e).1
 ·have:=(mem x hx).dn.1;exact jQ (show x.2.num.natAbs<2^5 by have:(2:Nat)^5=32:=rfl;omega) (by decide)
theorem JI.dg{L:Nat}{J:JL}(h:JI L (L+1) J)(l4:L<=4):xP (plJ L J)<=1:=MC (λx hx=>by
 obtain⟨a,ha,rfl⟩:=nN.mp hx;have:=h.lt a ha;exact(xZ L (by omega) a.1 (by omega) (by omega)).1) (by decide)
section
variable{K:tF}{H:Hp}{pc pd pa ph:Addr}{L:Nat}{J1 J2:JL}{x:Rat}{S:List Rat}
theorem SmH.plus(h:SmH K H pc pd pa ph L J1 J2 x S):TlP K (DS L λns=>cf (plJ L J1) ns+cf (plJ L J2) ns) (FQ K) [.ref pc,.ref pd] H:=λH' s Q go=>by
 have h':=h.same s;have:=h.j1.ln5 h.l4;have:=h.j2.ln5 h.l4;exact⟨pc,pd,L,_,_,rfl,h'.c.sq,h'.d.sq,h.j1.ok h.l1 h.l4,h.j2.ok h.l1 h.l4,by omega,h.j1.sz,h.j2.sz,λp P H2 _ s2 q ok v=>go _ _ H2 s2 q.dec ⟨P,rfl,ok,v⟩⟩
theorem SmH.times(h:SmH K H pc pd pa ph L J1 J2 x S):TlP K (DS L λns=>tv (uS (kB (plJ L J1)) (kB (plJ L J2))) (pk ns)) (FO K) [.ref pc,.ref pd] H:=λH' s Q go=>by
 have h':=h.same s;have l1:=h.j1.ln5 h.l4;have l2:=h.j2.ln5 h.l4;have d1:=h.j1.dg h.l4;have d2:=h.j2.dg h.l4;exact⟨pc,pd,L,_,_,60,60,rfl,h'.c.sq,h'.d.sq,h.j1.ok h.l1 h.l4,h.j2.ok h.l1 h.l4,nL (mZ l1 l2) (by decide),by omega,h.j1.plb,h.j2.plb,λp P H2 _ s2 q v=>go _ _ H2 s2 q.dec ⟨P,rfl,v.ok,v.vl⟩⟩
theorem SmH.scaled(h:SmH K H pc pd pa ph L J1 J2 x S):TlP K (DS L λns=>cf (plJ L J1) ns*x) (BX K) [.ref pc,.ref pa] H:=λH' s Q go=>by
 have h':=h.same s;exact⟨pc,_,L,_,x,rfl,h'.c.sq,h.j1.ok h.l1 h.l4,NumK.of h'.a,h.j1.sz,h.sx.sz,λp P H2 _ s2 q ok v=>go _ _ H2 s2 q.dec ⟨P,rfl,ok,v⟩⟩
theorem SmH.slope(h:SmH K H pc pd pa ph L J1 J2 x S):TlP K (DS L λns=>tv (slT (plJ L J1) 0) (pk ns)) (FP K) [.ref pc,.int 0] H:=λH' s Q go=>by
 have h':=h.same s;exact⟨pc,0,L,_,rfl,h'.c.sq,h.j1.ok h.l1 h.l4,h.l1,h.j1.sz,λp P H2 _ s2 q v=>go _ _ H2 s2 q.dec ⟨P,rfl,v.ok,v.vl⟩⟩
theorem SmH.worth(h:SmH K H pc pd pa ph L J1 J2 x S):TlP K (· = CL (wvQ S L (plJ L J1))) (BT K) [.ref pc,.ref ph] H:=λH' s Q go=>by
 have h':=h.same s;refine⟨pc,ph,L,9,6,_,S,60,rfl,h'.c.sq,h.j1.ok h.l1 h.l4,h'.h,h.sl,(h.j1.st h.l4).cf,by decide,by decide,by decide,by decide,λr hr=>?_,λv H2 s2 n=>go _ _ H2 s2 n.dec rfl⟩;have:=(h.ss r hr).dn;exact⟨nL this.1 (show 6<=2^100 by decide),nL this.2 (show 5<=2^100 by decide)⟩
theorem SmH.degree(h:SmH K H pc pd pa ph L J1 J2 x S):TlP K (· = .int (xP (plJ L J1))) (uN K) [.ref pc] H:=λH' s Q go=>by
 have h':=h.same s;have:=h.j1.ln5 h.l4;exact⟨pc,L,16,_,rfl,h'.c.sq,(h.j1.ok h.l1 h.l4).pd,h.l4,by decide,by omega,λH2 s2=>go _ _ H2 s2 (.int _) rfl⟩
theorem SmH.put(h:SmH K H pc pd pa ph L J1 J2 x S){oa:Addr}(ho:H oa=some (.lst (List.replicate L (.ref pd)))):TlP K (DS L λns=>tv (wG (kB (plJ L J2)) L 0 (plJ L J1)) (pk ns)) (AS K) [.ref pc,.ref oa] H:=λH' s Q go=>by
 have h':=h.same s;exact⟨pc,oa,pd,L,_,_,rfl,h'.c.sq,h'.d.sq,h.j1.ok h.l1 h.l4,h.j2.ok h.l1 h.l4,h.j1.st h.l4,h.j2.st h.l4,h.j2.ln5 h.l4,s _ _ ho,λp P H2 _ s2 q v=>go _ _ H2 s2 q.dec ⟨P,rfl,v.ok,v.vl⟩⟩
end
theorem scSmR:FnScope ["c","d","a","here","letters","pairs"] ["c","d","a","here","letters"] (jL XH):=⟨rfl,rfl,rfl,by decide +kernel,rfl,by decide +kernel,by decide +kernel⟩
theorem ok_smR{fP fT fC fS fU fW fD fR fH fI:Addr}{fdP fdT fdC fdS fdU fdW fdD fdR fdH fdI:FuncData}(F:Fun K "_law_sums_right" "_law_sums_right" XH f fd)(T:Txt mg)
  (DP:Df K mg "plus" GE ["one","other"] fP fdP) (GP:FnOk P w K mg base CX0 4 fP fdP ["one","other"] (FQ K))
  (DT:Df K mg "times" FW ["one","other"] fT fdT) (GT:FnOk P w K mg base CX0 6 fT fdT ["one","other"] (FO K))
  (DC:Df K mg "scaled" AW ["one","number"] fC fdC) (GC:FnOk P w K mg base CX0 3 fC fdC ["one","number"] (BX K))
  (DO:Df K mg "slope" FX ["one","letter"] fS fdS) (GO:FnOk P w K mg base CX0 3 fS fdS ["one","letter"] (FP K))
  (DU:Df K mg "put_in" FZ ["one","others"] fU fdU) (GU:FnOk P w K mg base CX0 11 fU fdU ["one","others"] (AS K))
  (DW:Df K mg "worth" FV ["one","spot"] fW fdW) (GW:FnOk P w K mg base CX0 3 fW fdW ["one","spot"] (BT K))
  (DD:Df K mg "degree" yI ["one"] fD fdD) (GD:FnOk P w K mg base CX0 1 fD fdD ["one"] (uN K))
  (DR:Df K mg "read" ND ["text","many"] fR fdR) (GR:FnOk P w K mg base CX0 6 fR fdR ["text","many"] spRead)
  (DH:Df K mg "shown" CA ["one"] fH fdH) (GH:FnOk P w K mg base CX0 3 fH fdH ["one"] spShown)
  (DI:Df K mg "is_sum" SV ["thing"] fI fdI) (GI:FnOk P w K mg base CX0 5 fI fdI ["thing"] spSum):FnOk P w K mg base CX0 12 f fd ["c","d","a","here","letters"] (spSmR K):=by
 have KP:KBs K fdP ["one","other"]:=Fun.kbs DP.F (by decide) λkV doc pm an cdv ct ws hl=>by match ws,hl with | [a,b],_=>rfl
 have KT:KBs K fdT ["one","other"]:=Fun.kbs DT.F (by decide) λkV doc pm an cdv ct ws hl=>by match ws,hl with | [a,b],_=>rfl
 have KC:KBs K fdC ["one","number"]:=Fun.kbs DC.F (by decide) λkV doc pm an cdv ct ws hl=>by match ws,hl with | [a,b],_=>rfl
 have KO:KBs K fdS ["one","letter"]:=Fun.kbs DO.F (by decide) λkV doc pm an cdv ct ws hl=>by match ws,hl with | [a,b],_=>rfl
 have KU:KBs K fdU ["one","others"]:=Fun.kbs DU.F (by decide) λkV doc pm an cdv ct ws hl=>by match ws,hl with | [a,b],_=>rfl
 have KW:KBs K fdW ["one","spot"]:=Fun.kbs DW.F (by decide) λkV doc pm an cdv ct ws hl=>by match ws,hl with | [a,b],_=>rfl
 have KD:KBs K fdD ["one"]:=Fun.kbs DD.F (by decide) λkV doc pm an cdv ct ws hl=>by match ws,hl with | [a],_=>rfl
 have KR:KBs K fdR ["text","many"]:=Fun.kbs DR.F (by decide) λkV doc pm an cdv ct ws hl=>by match ws,hl with | [a,b],_=>rfl
 have KH:KBs K fdH ["one"]:=Fun.kbs DH.F (by decide) λkV doc pm an cdv ct ws hl=>by match ws,hl with | [a],_=>rfl
 have KI:KBs K fdI ["thing"]:=Fun.kbs DI.F (by decide) λkV doc pm an cdv ct ws hl=>by match ws,hl with | [a],_=>rfl
 refine F.ok scSmR (λvs H Q E h=>?_) (λcdv A outer s H vs Q E hr h=>?_)
 ·obtain⟨pc,pd,pa,ph,L,J1,J2,x,S,rfl,_⟩:=h
  rfl
 ·obtain⟨pc,pd,pa,ph,L,J1,J2,x,S,rfl,h,go⟩:=h;have hu:_+64<cLine:=hr.units;have hr1:Room 1 _:=hr.mono (by decide);have hr3:Room 3 _:=hr.mono (by decide);have hr4:Room 4 _:=hr.mono (by decide);have hr5:Room 5 _:=hr.mono (by decide);have hr6:Room 6 _:=hr.mono (by decide);refine⟨_,jC (jP (i:=5) scSmR.nd rfl (Or.inl rfl) (qC (jA (jS (jA (kO GP hr4 rfl DP.m DP.F.kp KP jM (kC (pv 0) (kC (pv 1) qK))) (jA (jI GP hr4 rfl DP.m DP.F.kp DP.b .nil jM (jA (pv 0) (jA (pv 1) jB))) jB))) (jA (jS (jA (kO GT hr6 rfl DT.m DT.F.kp KT jM (kC (pv 0) (kC (pv 1) qK))) (jA (jI GT hr6 rfl DT.m DT.F.kp DT.b .nil jM (jA (pv 0) (jA (pv 1) jB))) jB))) jB)))) (jC (jP (i:=5) scSmR.nd rfl (Or.inl rfl) (jW BE (pv 5) (qC (jA (jS (jA (kO GC hr3 rfl DC.m DC.F.kp KC jM (kC (pv 0) (kC (pv 2) qK))) (jA (jI GC hr3 rfl DC.m DC.F.kp DC.b .nil jM (jA (pv 0) (jA (pv 2) jB))) jB))) (jA (jS (jA (kO GO hr3 rfl DO.m DO.F.kp KO jM (kC (pv 0) (kC jJ qK))) (jA (jI GO hr3 rfl DO.m DO.F.kp DO.b .nil jM (jA (pv 0) (jA jJ jB))) jB))) jB))))) (jC (jP (i:=5) scSmR.nd rfl (Or.inl rfl) (jW BE (pv 5) (qC (jA (jS (jA (kO GU hr rfl DU.m DU.F.kp KU jM (kC (pv 0) (kC (jW LP (qC (jA (pv 1) jB)) (pv 4)) qK))) (jA (jI GU hr rfl DU.m DU.F.kp DU.b .nil jM (jA (pv 0) (jA (jW LP (qC (jA (pv 1) jB)) (pv 4)) jB))) jB))) jB)))) (jC (jP (i:=5) scSmR.nd rfl (Or.inl rfl) (jW BE (pv 5) (qC (jA (jS (jA (kO GW hr3 rfl DW.m DW.F.kp KW jM (kC (pv 0) (kC (pv 3) qK))) (jA (jI GW hr3 rfl DW.m DW.F.kp DW.b .nil jM (jA (pv 0) (jA (pv 3) jB))) jB))) (jA (jS (jA (kO GD hr1 rfl DD.m DD.F.kp KD jM (kC (pv 0) qK)) (jA (jI GD hr1 rfl DD.m DD.F.kp DD.b .nil jM (jA (pv 0) jB)) jB))) jB))))) (jC (xQ (vY PySem.F.plainAttrs_list PySem.F.slot_list_append PySem.F.type_list_append kW (pv 5) (jA (jS (jA (kO GR hr6 rfl DR.m DR.F.kp KR jM (kC (kO GH hr3 rfl DH.m DH.F.kp KH jM (kC (pv 0) qK)) (kC (pv 4) qK))) (jA (pv 0) jB))) jB))) (jE (jO (zB (qV UD (kO GI hr5 rfl DI.m DI.F.kp KI jM (kC (pv 0) qK)) yB (jU _)) (uP (qV (LQ hu) (EK (own:=1) (idx:=[]) (N:=["pair"]) rfl rfl rfl (by decide +kernel) (by decide +kernel) (λ_ _ h=>nomatch h) (qH rfl) rfl (λ_ _ _ h=>nomatch h) (vP (pv 5)) (λC fp s2 H2=>(jF (i:=0) (show List.Nodup (["pair"]:List Str) by decide +kernel) rfl (Or.inl rfl) (Or.inr rfl))) (λC fp s2 H2=>jV (show OpR (jK _ ["pair"] _ _ C fp s2 H2) (compareOp .NotEq) (TC K)from UB hu) (kF (show IxR (jK _ ["pair"] _ _ C fp s2 H2) (yY K)from kH) (pv 0) jJ (λ_ _=>rfl)) (kF (show IxR (jK _ ["pair"] _ _ C fp s2 H2) (yY K)from kH) (pv 0) jJ (λ_ _=>rfl)) (jU _)) (λC fp s2 H2=>pv 0)) (qC jB) (jU _)))))))))), ?_⟩
  try dsimp only[cxK]
  have gd:=h.j1.good h.l1 h.l4;refine SY (XM (DS.one _ _) h.plus rfl rfl) (XM (DS.one _ _) h.times rfl rfl) λl1 H1 n1 s1 p1=>?_;dsimp only[jX];refine NI (i:=5) rfl p1 (by decide) (λQ' go=>SY (XM (DS.one _ _) (h.scaled.up s1) rfl rfl) (rdU2c (DS.one _ _) (h.slope.up s1) rfl) go) λl2 H2 n2 s2 p2=>?_;have s02:=s1.trans s2;have h2:=h.same s02;dsimp only[jX];have put:∀{σ:L2.St},σ[0]? = some (some (.ref pc))->σ[1]? = some (some (.ref pd))->σ[4]? = some (some (.int L))->∀(H':Hp),Same H2 H'->∀(Q':VK),(∀v d H'',Same H' H''->DecK K H'' v d->Lw.DS L (λns=>tv (wG (kB (plJ L J2)) L 0 (plJ L J1)) (pk ns)) d->Q' v H'')->(qJ 0) σ H' λv1 H3=>(tOp rRep (BS (kP (qJ 1) tNil)) (qJ 4)) σ H3 λv2 H4=>AS K [v1,v2] H4 Q' E0:=λe0 e1 e4 H' s' Q' g=>by
   refine⟨_,e0,_,e1,gC,λz0 H3 n3 s3 e3=>⟨_,e4,z0,L,[.ref pd],rfl,rfl,e3,by omega,by have:=h.l4;omega, ?_,λl nl=>?_⟩⟩
   ·show 1*(L:Int).toNat<=sizeLine;exact nL (show 1*(L:Int).toNat<=4 by have:=h.l4;omega) (by decide)
   have hl0:(List.replicate (L:Int).toNat [V.ref pd]).flatten=List.replicate L (.ref pd):=by simp
   rw[hl0];have s4:Same H3 (upd H3 l (.lst (List.replicate L (.ref pd)))):=jN _ nl;have e4':(upd H3 l (.lst (List.replicate L (.ref pd)))) l=some (.lst (List.replicate L (.ref pd))):=jD;generalize upd H3 l (.lst (List.replicate L (.ref pd)))=H4 at s4 e4';exact(h2.same (s'.trans (s3.trans s4))).put e4' H4 (Same.refl _) Q' λv d H5 s5=>g v d H5 (s3.trans (s4.trans s5))
  refine NI (i:=5) rfl p2 (by decide) (λQ' go=>rdL1 (rdU (DS.one _ _) (λH' s' Q1 g1=>put rfl rfl rfl H' s' Q1 g1) (λH' s' Q1 g1=>put rfl rfl rfl H' s' Q1 g1)) go) λl3 H3 n3 s3 p3=>?_;have s03:=s02.trans s3;dsimp only[jX];refine NI (i:=5) rfl p3 (by decide) (λQ' go=>SY (XM (LR (CK _)) (h.worth.up s03) rfl rfl) (rdU1 (LR (VJ _)) (h.degree.up s03) rfl) go) λl4 H4 n4 s4 p4=>?_;have s04:=s03.trans s4;have h4:=h.same s04;dsimp only[jX];obtain⟨xs,e4,lx,hx⟩:=p4.ex;refine⟨_,rfl,.inl ⟨rfl,_,SqL.of e4⟩,rdU (K:=K) (D:=(· = wW L (tmJ L J1))) (LR (NJ _ _)) (λH' s' Q1 g1=>?_) (λH' s' Q1 g1=>?_) H4 (Same.refl _) _ λp H5 s5 q5=>⟨l4,_,_,rfl,rfl,s5 _ _ e4,by rw[lx];decide, ?_⟩⟩
  ·refine⟨_,rfl,pc,L,_,rfl,h4.c.same s',gd,λH6 s6=>⟨_,rfl,L,_,rfl,gd,λp H7 s7 q=>g1 _ _ H7 (s6.trans s7) ?_ rfl⟩⟩;have:=(Poly.sq (K:=K) q).dec;rw[ZV]at this;exact this
  ·refine⟨_,rfl,g1 _ _ H' (Same.refl _) ?_ rfl⟩;have:=(Poly.sq (K:=K) (h4.c.same s')).dec;rw[ZV]at this;exact this
  ·have pl:=PrL.app (s5 _ _ e4) ⟨lx,λv hv=>(hx v hv).same s5⟩ q5;have n4':H l4=none:=s03.free n4;have s6:Same H (upd H5 l4 (.lst (xs++[.ref p]))):=jY (s04.trans s5) n4';generalize upd H5 l4 (.lst (xs++[.ref p]))=H6 at pl s6;refine⟨_,rfl,_,_,rfl,(h.c.same s6).dec,MU gd,λH7 s7=>⟨_,_,rfl,rfl,_,rfl, ?_⟩⟩;rw[MT gd];exact xO rfl (SX rfl (pl.same s7) (by decide) λH8 s8=>go H8 (s6.trans (s7.trans s8)))
theorem TapeN.keeps{H1 H2:Hp}{tp:Addr}(t:TapeN H1 tp)(b:But tp H1 H2):∀a xs,H1 a=some (.tup xs)->H2 a=some (.tup xs):=λa xs h=>b a _ h λz=>by
 obtain⟨n,et,_⟩:=t.ex;rw[z,et]at h;cases h
structure NmT(H:Hp)(v:V)(x:Rat):Prop where
 ex:∃r:Addr,v=.ref r/\At2 H r x.num x.den
theorem NmT.map{H H':Hp}{v:V}{x:Rat}(h:NmT H v x)(k:∀a xs,H a=some (.tup xs)->H' a=some (.tup xs)):NmT H' v x:=let ⟨r,e,a⟩:=h.ex;⟨r,e,k _ _ a⟩
structure HeI(tp l:Addr)(H1:Hp)(i:Nat)(ys:List V)(H2:Hp):Prop where
 b:But tp H1 H2
 t:TapeN H2 tp
 e:H2 l=some (.lst ys)
 p:∃S:List Rat,Paired (NmT H2) ys S/\S.length=i/\∀r∈S,SmF r
inductive LaI(a tp:Addr)(k:Nat):L2.St->Hp->Prop where
 | mk {u2 u3 u4 u5 u6 u7 u8:Option V} {H:Hp} (t:TapeN H tp):LaI a tp k [some (.ref a),some (.ref tp),u2,u3,u4,u5,u6,u7,u8] H
theorem scLaw:FnScope ["script","tape","turn","letters","a","b","c","d","here"] ["script"] (jL LM):=⟨rfl,rfl,rfl,by decide +kernel,rfl,by decide +kernel,by decide +kernel⟩
theorem ok_law{fT fP fF fS fR fM:Addr}{fdT fdP fdF fdS fdR fdM:FuncData}(F:Fun K "law" "law" LM f fd)(T:Txt mg)
  (DT:Df K mg "_law_tape" NC ["script"] fT fdT) (GT:FnOk P w K mg base CX0 1 fT fdT ["script"] (SK K))
  (DP:Df K mg "_law_pick" IP ["tape","share"] fP fdP) (GP:FnOk P w K mg base CX0 1 fP fdP ["tape","share"] spPick)
  (DF:Df K mg "_law_fraction" IR ["tape"] fF fdF) (GF:FnOk P w K mg base CX0 2 fF fdF ["tape"] spFrac)
  (DS:Df K mg "_law_straight" zO ["tape","letters"] fS fdS) (GS:FnOk P w K mg base CX0 3 fS fdS ["tape","letters"] spStr)
  (DR:Df K mg "_law_fractions_right" XI ["a","b"] fR fdR) (GR:FnOk P w K mg base CX0 4 fR fdR ["a","b"] spFrR)
  (DM:Df K mg "_law_sums_right" XH ["c","d","a","here","letters"] fM fdM) (GM:FnOk P w K mg base CX0 12 fM fdM ["c","d","a","here","letters"] (spSmR K)):FnOk P w K mg base CX0 13 f fd ["script"] (MW K):=by
 refine F.ok scLaw (λvs H Q E h=>?_) (λcdv A outer s H vs Q E hr h=>?_)
 ·obtain⟨a,ns,rfl,_⟩:=h
  rfl
 ·obtain⟨a,ns,rfl,ha,l63,go⟩:=h;have hr1:Room 1 _:=hr.mono (by decide);have hr2:Room 2 _:=hr.mono (by decide);have hr3:Room 3 _:=hr.mono (by decide);have hr4:Room 4 _:=hr.mono (by decide);refine⟨_,jC (jP (i:=1) scLaw.nd rfl (Or.inr rfl) (jI GT hr1 rfl DT.m DT.F.kp DT.b .nil jM (jA (pv 0) jB))) (jC (qF PassesOwn.never rfl (vB (by rfl) T.rng (jA jJ jB)) (jF (i:=2) scLaw.nd rfl (Or.inl rfl)) (jC (jP (i:=3) scLaw.nd rfl (Or.inl rfl) (jW vJ jJ (jI GP hr1 rfl DP.m DP.F.kp DP.b .nil jM (jA (pv 1) (jA jJ jB))))) (jC (jP (i:=4) scLaw.nd rfl (Or.inl rfl) (jI GF hr2 rfl DF.m DF.F.kp DF.b .nil jM (jA (pv 1) jB))) (jC (jP (i:=5) scLaw.nd rfl (Or.inl rfl) (jI GF hr2 rfl DF.m DF.F.kp DF.b .nil jM (jA (pv 1) jB))) (jC (jP (i:=6) scLaw.nd rfl (Or.inl rfl) (jI GS hr3 rfl DS.m DS.F.kp DS.b .nil jM (jA (pv 1) (jA (pv 3) jB)))) (jC (jP (i:=7) scLaw.nd rfl (Or.inl rfl) (jI GS hr3 rfl DS.m DS.F.kp DS.b .nil jM (jA (pv 1) (jA (pv 3) jB)))) (jC (jP (i:=8) scLaw.nd rfl (Or.inl rfl) (qA qG (by rfl) T.tup boot_tuple (jA (vE (own:=1) (idx:=[1]) (N:=["k","tape"]) rfl rfl rfl (by decide +kernel) (by decide +kernel) (wD (by intro y hy;simp only[nF,mM,or_false]at hy;rcases hy with rfl;rfl)) (qH rfl) rfl (yN rfl ⟨rfl,rfl,rfl,rfl⟩) (vB (by rfl) T.rng (jA (pv 3) jB)) (λC fp s2 H2=>(jF (i:=0) (show List.Nodup (["k","tape"]:List Str) by decide +kernel) rfl (Or.inl rfl) (Or.inr rfl))) (λC fp s2 H2=>jI GF hr2 rfl DF.m DF.F.kp DF.b .nil jM (jA (pv 1) jB))) jB))) (jE (kR (PW.pt (yZ (vD (qY (jI GR hr4 rfl DR.m DR.F.kp DR.b .nil jM (jA (pv 4) (jA (pv 5) jB))))) (xU (vD (qY (jI GM hr rfl DM.m DM.F.kp DM.b .nil jM (jA (pv 6) (jA (pv 7) (jA (pv 4) (jA (pv 8) (jA (pv 3) jB))))))))))) (jE (jO yB)) kA))))))))) (jE (jO yB))), ?_⟩
  try dsimp only[cxK]
  refine⟨_,rfl,a,ns,rfl,ha,l63,λtp H0 n0 s0 t0=>?_⟩;refine⟨3,rfl,by decide,by decide,yF (n:=3) (LaI a tp) (.mk t0) (λi σ H1 hi h=>?_) (fun σ H1 h=>go H1)⟩;obtain⟨t1⟩:=h;refine⟨_,rfl,tp,4,rfl,t1,by decide,by decide,λm H2 m0 m1 b2 t2=>⟨_,_,rfl,rfl, ?_⟩⟩;obtain⟨n,rfl⟩:=Int.eq_ofNat_of_zero_le m0;have eL:(1:Int)+(n:Int)=((n+1:Nat):Int):=by omega
  have l1:1<=n+1:=by omega
  have l4:n+1<=4:=by omega
  dsimp only[jX];rw[eL];generalize n+1=L at l1 l4;refine⟨_,rfl,tp,rfl,t2,λpa x H3 n3 b3 t3 a3 sx=>?_⟩;dsimp only[jX];refine⟨_,rfl,tp,rfl,t3,λpb y H4 n4 b4 t4 a4 sy=>?_⟩;have k34:=t3.keeps b4;dsimp only[jX];refine⟨_,rfl,_,rfl,tp,L,rfl,t4,l1,l4,λpc J1 H5 n5 b5 t5 c5 j1=>?_⟩;have k45:=t4.keeps b5;dsimp only[jX];refine⟨_,rfl,_,rfl,tp,L,rfl,t5,l1,l4,λpd J2 H6 n6 b6 t6 d6 j2=>?_⟩;have k56:=t5.keeps b6;have a6:At2 H6 pa x.num x.den:=k56 _ _ (k45 _ _ (k34 _ _ a3));have y6:At2 H6 pb y.num y.den:=k56 _ _ (k45 _ _ a4);have c6:Poly H6 pc L (tmJ L J1):=c5.map k56;dsimp only[jX];refine⟨_,rfl,L,rfl,by omega,by omega,λl H7 n7 s7 e7=>?_⟩;have t7:=t6.same s7;have ltp:l≠tp:=λz=>by
   obtain⟨n,et,_⟩:=t6.ex;rw[z,et]at n7;cases n7
  refine zK (n:=L) (HeI tp l H6) (by rw[sizeLine_eq];omega) ⟨λc u h _=>s7 _ _ h,t7,e7,[],.nil,rfl,λ_ h=>nomatch h⟩ (λj ys H8 h=>h.e) ?_ ?_
  ·rintro j mm ys z H8 hz hm hy ⟨b8,t8,e8,S,p8,lS,sS⟩;refine⟨zJ,_,rfl,tp,rfl,t8,λr q H9 n9 b9 t9 a9 sq=>?_⟩;have k89:=t8.keeps b9;have e9:H9 l=some (.lst ys):=b9 _ _ e8 ltp;have nu:∀a zs,H9 a=some (.tup zs)->upd H9 l (.lst (ys++[.ref r])) a=some (.tup zs):=λa zs h=>by
    rw[jH (λz=>by rw[z,e9]at h;cases h)];exact h
   refine kL hz hm hy e9 ⟨λc u h n=>?_, ?_,jD,S++[q], ?_,by rw[gY,lS];rfl,λr' hr'=>?_⟩
   ·rw[jH (λz=>by rw[z,n7]at h;cases h)];exact b9 _ _ (b8 c u h n) n
   ·obtain⟨n,et,h0,h1⟩:=t9.ex;exact⟨n,by rw[jH (Ne.symm ltp)];exact et,h0,h1⟩
   ·exact Paired.snoc (Paired.to (λ_ _ h=>(h.map k89).map nu) p8) ⟨r,rfl,nu _ _ a9⟩
   ·rcases mV.mp hr' with hr' | hr'
    ·exact sS r' hr'
    ·rw[hU.mp hr'];exact sq
  ·rintro ys H8 hl ⟨b8,t8,e8,S,p8,lS,sS⟩;refine⟨l,ys,rfl,.inl ⟨SqL.of e8,λph nph=>?_⟩⟩;have s9:Same H8 (upd H8 ph (.tup ys)):=jN _ nph;have e9:(upd H8 ph (.tup ys)) ph=some (.tup ys):=jD;generalize upd H8 ph (.tup ys)=H9 at s9 e9;have k69:∀a xs,H6 a=some (.tup xs)->H9 a=some (.tup xs):=λa xs h=>s9 _ _ (t6.keeps b8 a xs h);have t9:=t8.same s9;have h9:SmH K H9 pc pd pa ph L J1 J2 x S:=⟨c6.map k69,d6.map k69,k69 _ _ a6,⟨ys,e9,Paired.to (λ_ _ h=>by
    obtain⟨r,rfl,e⟩:=h.ex;exact NumK.of (s9 _ _ e)) p8⟩,j1,j2,sx,lS,sS,l1,l4⟩
   dsimp only[jX];refine⟨_,rfl,_,rfl,pa,pb,x,y,rfl,k69 _ _ a6,k69 _ _ y6,sx,sy,λH10 s10=>⟨_,rfl,vW ?_⟩⟩;refine⟨_,rfl,_,rfl,_,rfl,_,rfl,_,rfl,pc,pd,pa,ph,L,J1,J2,x,S,rfl,h9.same s10,λH11 s11=>⟨_,rfl,vW ?_⟩⟩;exact .mk (t9.same (s10.trans s11))
end Lw
namespace Lw
open PySem PySem.Spec PyProof.Rows L2
theorem len1{us:List Value}(h:us.length=1):∃a,us=[a]:=by cases us with | nil=>cases h | cons a r=>have e:r=[]:=List.length_eq_zero_iff.mp (by simpa using h);subst e;exact⟨a,rfl⟩
theorem len2{us:List Value}(h:us.length=2):∃a b,us=[a,b]:=by cases us with | nil=>cases h | cons a r=>obtain⟨b,rfl⟩:=len1 (us:=r) (by simpa using h);exact⟨a,b,rfl⟩
theorem len3{us:List Value}(h:us.length=3):∃a b c,us=[a,b,c]:=by cases us with | nil=>cases h | cons a r=>obtain⟨b,c,rfl⟩:=len2 (us:=r) (by simpa using h);exact⟨a,b,c,rfl⟩
theorem len4{us:List Value}(h:us.length=4):∃a b c d,us=[a,b,c,d]:=by cases us with | nil=>cases h | cons a r=>obtain⟨b,c,d,rfl⟩:=len3 (us:=r) (by simpa using h);exact⟨a,b,c,d,rfl⟩
theorem len5{us:List Value}(h:us.length=5):∃a b c d e,us=[a,b,c,d,e]:=by cases us with | nil=>cases h | cons a r=>obtain⟨b,c,d,e,rfl⟩:=len4 (us:=r) (by simpa using h);exact⟨a,b,c,d,e,rfl⟩
abbrev fo(x:Str)(st:Stmt)(kV dc pm:Value)(an:Option Addr)(cd ct:Value):FuncData:=PySem.W.fnOf x x (xT st) (xB st) (jL st) .none kV dc pm an cd ct
abbrev BdA(x:Str)(st:Stmt)(ps:List Str)(us:List Value):Prop:=∀(kV dc pm:Value) (an:Option Addr) (cd ct:Value),bindArgs (fo x st kV dc pm an cd ct) ⟨us,[]⟩=pure (ps.zip us)
theorem bd1{x:Str}{st:Stmt}{ps:List Str}(hp:ps.length=1)(h:∀a,BdA x st ps [a]):∀us:List Value,us.length=ps.length->BdA x st ps us:=λus e=>by obtain⟨_,rfl⟩:=len1 (e.trans hp);exact λ_ _ _ _ _ _=>h ..
theorem bd2{x:Str}{st:Stmt}{ps:List Str}(hp:ps.length=2)(h:∀a b,BdA x st ps [a,b]):∀us:List Value,us.length=ps.length->BdA x st ps us:=λus e=>by obtain⟨_,_,rfl⟩:=len2 (e.trans hp);exact λ_ _ _ _ _ _=>h ..
theorem bd3{x:Str}{st:Stmt}{ps:List Str}(hp:ps.length=3)(h:∀a b c,BdA x st ps [a,b,c]):∀us:List Value,us.length=ps.length->BdA x st ps us:=λus e=>by obtain⟨_,_,_,rfl⟩:=len3 (e.trans hp);exact λ_ _ _ _ _ _=>h ..
theorem bd5{x:Str}{st:Stmt}{ps:List Str}(hp:ps.length=5)(h:∀a b c d e,BdA x st ps [a,b,c,d,e]):∀us:List Value,us.length=ps.length->BdA x st ps us:=λus e=>by obtain⟨_,_,_,_,_,rfl⟩:=len5 (e.trans hp);exact λ_ _ _ _ _ _=>h ..
theorem df{K:tF}{h:Heap}{mg:Str->Option Value}{x:Str}{st:Stmt}(X:K.In h)(G:h.Ns mainGlobals mg)(A:FnAt K x st)(ps:List Str)(b:∀us:List Value,us.length=ps.length->BdA x st ps us):∃f fd,Df K mg x st ps f fd:=by
 obtain⟨a,l,c,k⟩:=A;exact⟨_,_,LZ l c k,(LZ l c k).binds λkV dc pm an cd ct us h=>b us h kV dc pm an cd ct,nJ X G a⟩
theorem all_mk{l:PySem.W.OpenLaw}{w:World}{K:tF}{h:Heap}{mg:Str->Option Value}{fa:Addr}(X:K.In h)(G:h.Ns mainGlobals mg)(hfa:mg "law" = some (.ref fa))(A:Facts K) :
  ∃fd:FuncData,(∀(s:Shared) (v:Value),BindsTo s fd ⟨[v],[]⟩ [("script",v)])/\∀base:Heap,K.In base->base.Ns mainGlobals mg->FnOk l.prog w K mg base CX0 13 fa fd ["script"] (MW K):=by
 obtain @⟨f47,oc47,kV47,dc47,pm47,cd47,ct47,od47,an47,sl47,a47,l47,c47,k47⟩:=A.f47;obtain⟨v1⟩:=A.v1;obtain⟨v2⟩:=A.v2;obtain⟨v3⟩:=A.v3;obtain⟨v4⟩:=A.v4;obtain⟨v5⟩:=A.v5;obtain⟨v6⟩:=A.v6;obtain⟨v7⟩:=A.v7;obtain⟨n1a,n1b⟩:=A.n1;have e:=hfa.symm.trans (nJ X G a47);cases e;have T:Txt mg:={ isi:=mB X G A.z1,len:=mB X G A.z2,int:=mB X G A.z3,bool:=mB X G A.z4,tup:=mB X G A.z5,lst:=mB X G A.z6,str:=mB X G A.z17,abs:=mB X G A.z7,rng:=mB X G A.z8,lbits:=⟨_,nJ X G v1⟩,all:=mB X G A.z16,sum:=mB X G A.z9,zip:=mB X G A.z10,sorted:=mB X G A.z11,letters:=⟨_,nJ X G v2⟩,degree:=⟨_,nJ X G v3⟩,terms:=⟨_,nJ X G v4⟩,signs:=⟨_,nJ X G v5⟩,pack:=⟨_,nJ X G v6⟩,short:=⟨_,nJ X G v7⟩,enum:=mB X G A.z13,dct:=mB X G A.z15,max:=mB X G A.z12,rev:=mB X G A.z14 };have N:Ngt K mg:=⟨_,nJ X G n1a,λH=>.inr ⟨_,_,_,n1b,rfl,rfl,by show 2<=sizeLine;decide,.cons ⟨_,rfl⟩ (.cons ⟨_,rfl⟩ .nil)⟩⟩;obtain⟨nL1,nL2⟩:=A.s1;obtain⟨nG1,nG2⟩:=A.s2;have LT:Ltr K mg:=⟨_,nJ X G nL1,λH=>.inr ⟨_,_,_,nL2,rfl,rfl,by show 4<=sizeLine;decide,.cons ⟨_,rfl⟩ (.cons ⟨_,rfl⟩ (.cons ⟨_,rfl⟩ (.cons ⟨_,rfl⟩ (.nil))))⟩,_,nL2,rfl,rfl⟩;have FG:Fig K mg:=⟨_,nJ X G nG1,λH=>.inr ⟨_,_,_,nG2,rfl,rfl,by show 10<=sizeLine;decide,.cons ⟨_,rfl⟩ (.cons ⟨_,rfl⟩ (.cons ⟨_,rfl⟩ (.cons ⟨_,rfl⟩ (.cons ⟨_,rfl⟩ (.cons ⟨_,rfl⟩ (.cons ⟨_,rfl⟩ (.cons ⟨_,rfl⟩ (.cons ⟨_,rfl⟩ (.cons ⟨_,rfl⟩ (.nil))))))))))⟩⟩
 have F47:=LZ (st:=LM) l47 c47 k47;obtain⟨f1,d1,D1⟩:=df X G A.f1 ["thing"] (bd1 rfl λ_ _ _ _ _ _ _=>rfl);obtain⟨f2,d2,D2⟩:=df X G A.f2 ["one","other"] (bd2 rfl λ_ _ _ _ _ _ _ _=>rfl);obtain⟨f3,d3,D3⟩:=df X G A.f3 ["thing"] (bd1 rfl λ_ _ _ _ _ _ _=>rfl);obtain⟨f4,d4,D4⟩:=df X G A.f4 ["one","other"] (bd2 rfl λ_ _ _ _ _ _ _ _=>rfl);obtain⟨f5,d5,D5⟩:=df X G A.f5 ["one","other"] (bd2 rfl λ_ _ _ _ _ _ _ _=>rfl);obtain⟨f6,d6,D6⟩:=df X G A.f6 ["one","other"] (bd2 rfl λ_ _ _ _ _ _ _ _=>rfl);obtain⟨f7,d7,D7⟩:=df X G A.f7 ["one","other"] (bd2 rfl λ_ _ _ _ _ _ _ _=>rfl);obtain⟨f8,d8,D8⟩:=df X G A.f8 ["one","other"] (bd2 rfl λ_ _ _ _ _ _ _ _=>rfl);obtain⟨f9,d9,D9⟩:=df X G A.f9 ["thing","low"] (bd2 rfl λ_ _ _ _ _ _ _ _=>rfl);obtain⟨f10,d10,D10⟩:=df X G A.f10 ["thing","many"] (bd2 rfl λ_ _ _ _ _ _ _ _=>rfl);obtain⟨f11,d11,D11⟩:=df X G A.f11 ["thing","many"] (bd2 rfl λ_ _ _ _ _ _ _ _=>rfl);obtain⟨f12,d12,D12⟩:=df X G A.f12 ["thing"] (bd1 rfl λ_ _ _ _ _ _ _=>rfl);obtain⟨f13,d13,D13⟩:=df X G A.f13 ["one"] (bd1 rfl λ_ _ _ _ _ _ _=>rfl);obtain⟨f14,d14,D14⟩:=df X G A.f14 ["powers"] (bd1 rfl λ_ _ _ _ _ _ _=>rfl);obtain⟨f15,d15,D15⟩:=df X G A.f15 ["key","many"] (bd2 rfl λ_ _ _ _ _ _ _ _=>rfl);obtain⟨f16,d16,D16⟩:=df X G A.f16 ["one"] (bd1 rfl λ_ _ _ _ _ _ _=>rfl);obtain⟨f17,d17,D17⟩:=df X G A.f17 ["many","table"] (bd2 rfl λ_ _ _ _ _ _ _ _=>rfl);obtain⟨f18,d18,D18⟩:=df X G A.f18 ["one","other"] (bd2 rfl λ_ _ _ _ _ _ _ _=>rfl);obtain⟨f19,d19,D19⟩:=df X G A.f19 ["table"] (bd1 rfl λ_ _ _ _ _ _ _=>rfl)
 obtain⟨f20,d20,D20⟩:=df X G A.f20 ["heap"] (bd1 rfl λ_ _ _ _ _ _ _=>rfl);obtain⟨f21,d21,D21⟩:=df X G A.f21 ["one","other"] (bd2 rfl λ_ _ _ _ _ _ _ _=>rfl);obtain⟨f22,d22,D22⟩:=df X G A.f22 ["one","other"] (bd2 rfl λ_ _ _ _ _ _ _ _=>rfl);obtain⟨f23,d23,D23⟩:=df X G A.f23 ["one","other"] (bd2 rfl λ_ _ _ _ _ _ _ _=>rfl);obtain⟨f24,d24,D24⟩:=df X G A.f24 ["one","number"] (bd2 rfl λ_ _ _ _ _ _ _ _=>rfl);obtain⟨f25,d25,D25⟩:=df X G A.f25 ["one","letter"] (bd2 rfl λ_ _ _ _ _ _ _ _=>rfl);obtain⟨f26,d26,D26⟩:=df X G A.f26 ["base","most"] (bd2 rfl λ_ _ _ _ _ _ _ _=>rfl);obtain⟨f27,d27,D27⟩:=df X G A.f27 ["one"] (bd1 rfl λ_ _ _ _ _ _ _=>rfl);obtain⟨f28,d28,D28⟩:=df X G A.f28 ["one","spot"] (bd2 rfl λ_ _ _ _ _ _ _ _=>rfl);obtain⟨f29,d29,D29⟩:=df X G A.f29 ["terms","letter"] (bd2 rfl λ_ _ _ _ _ _ _ _=>rfl);obtain⟨f30,d30,D30⟩:=df X G A.f30 ["terms","tables","letter"] (bd3 rfl λ_ _ _ _ _ _ _ _ _=>rfl);obtain⟨f31,d31,D31⟩:=df X G A.f31 ["one","others"] (bd2 rfl λ_ _ _ _ _ _ _ _=>rfl);obtain⟨f32,d32,D32⟩:=df X G A.f32 ["number"] (bd1 rfl λ_ _ _ _ _ _ _=>rfl);obtain⟨f33,d33,D33⟩:=df X G A.f33 ["powers","number"] (bd2 rfl λ_ _ _ _ _ _ _ _=>rfl);obtain⟨f34,d34,D34⟩:=df X G A.f34 ["one"] (bd1 rfl λ_ _ _ _ _ _ _=>rfl);obtain⟨f35,d35,D35⟩:=df X G A.f35 ["word"] (bd1 rfl λ_ _ _ _ _ _ _=>rfl);obtain⟨f36,d36,D36⟩:=df X G A.f36 ["word"] (bd1 rfl λ_ _ _ _ _ _ _=>rfl);obtain⟨f37,d37,D37⟩:=df X G A.f37 ["words","many"] (bd2 rfl λ_ _ _ _ _ _ _ _=>rfl)
 obtain⟨f38,d38,D38⟩:=df X G A.f38 ["text","many"] (bd2 rfl λ_ _ _ _ _ _ _ _=>rfl);obtain⟨f39,d39,D39⟩:=df X G A.f39 ["text","many"] (bd2 rfl λ_ _ _ _ _ _ _ _=>rfl);obtain⟨f40,d40,D40⟩:=df X G A.f40 ["script"] (bd1 rfl λ_ _ _ _ _ _ _=>rfl);obtain⟨f41,d41,D41⟩:=df X G A.f41 ["tape","share"] (bd2 rfl λ_ _ _ _ _ _ _ _=>rfl);obtain⟨f42,d42,D42⟩:=df X G A.f42 ["x","y"] (bd2 rfl λ_ _ _ _ _ _ _ _=>rfl);obtain⟨f43,d43,D43⟩:=df X G A.f43 ["tape"] (bd1 rfl λ_ _ _ _ _ _ _=>rfl);obtain⟨f44,d44,D44⟩:=df X G A.f44 ["tape","letters"] (bd2 rfl λ_ _ _ _ _ _ _ _=>rfl);obtain⟨f45,d45,D45⟩:=df X G A.f45 ["a","b"] (bd2 rfl λ_ _ _ _ _ _ _ _=>rfl);obtain⟨f46,d46,D46⟩:=df X G A.f46 ["c","d","a","here","letters"] (bd5 rfl λ_ _ _ _ _ _ _ _ _ _ _=>rfl);refine⟨PySem.W.fnOf "law" "law" (xT LM) (xB LM) (jL LM) .none kV47 dc47 pm47 an47 cd47 ct47,λs v=>.of_eq rfl,λbase _ _=>?_⟩;have G_whole:=JG (P:=l.prog) (w:=w) (base:=base) (mg:=mg) D1.F T;have G_gcd:=HI (P:=l.prog) (w:=w) (base:=base) (mg:=mg) D2.F T;have G_isf:=UQ (P:=l.prog) (w:=w) (base:=base) (mg:=mg) D3.F T D1 D2;have G_mul:=UN (P:=l.prog) (w:=w) (base:=base) (mg:=mg) D6.F T D2;have G_divN:=YK (P:=l.prog) (w:=w) (base:=base) (mg:=mg) D7.F T D6 D2;have G_addF:=YM (P:=l.prog) (w:=w) (base:=base) (mg:=mg) D4.F T D2;have G_wf:=UF (P:=l.prog) (w:=w) (base:=base) (mg:=mg) D9.F T;have G_pw:=ok_pw (P:=l.prog) (w:=w) (base:=base) (mg:=mg) D10.F T D9;have G_term:=NQ (P:=l.prog) (w:=w) (base:=base) (mg:=mg) D11.F T N D9 D10 D3 D1 D2
 have G_sum:=ok_sum (P:=l.prog) (w:=w) (base:=base) (mg:=mg) D12.F T N D9 D10 D3 D1 D2 D11;have G_shnum:=JH (P:=l.prog) (w:=w) (base:=base) (mg:=mg) D32.F T;have G_shterm:=EN (P:=l.prog) (w:=w) (base:=base) (mg:=mg) D33.F T LT D32;have G_shown:=UK (P:=l.prog) (w:=w) (base:=base) (mg:=mg) D34.F T LT D32 D33;have G_rdwhole:=wH (P:=l.prog) (w:=w) (base:=base) (mg:=mg) D35.F T FG;have G_rdnum:=JJ (P:=l.prog) (w:=w) (base:=base) (mg:=mg) D36.F T FG D35;have G_rdpw:=NR (P:=l.prog) (w:=w) (base:=base) (mg:=mg) D37.F T LT FG D35;have G_rdterm:=QD (P:=l.prog) (w:=w) (base:=base) (mg:=mg) D38.F T LT FG D35 D36 D37;have G_read:=YG (P:=l.prog) (w:=w) (base:=base) (mg:=mg) D39.F T D38 D12 D34 G_rdterm G_sum G_shown;have G_packed:=QF (P:=l.prog) (w:=w) (base:=base) (mg:=mg) D14.F T;have G_unpk:=YE (P:=l.prog) (w:=w) (base:=base) (mg:=mg) D15.F T;have G_tabOf:=UH (P:=l.prog) (w:=w) (base:=base) (mg:=mg) D16.F D14 G_packed;have G_tabAdd:=QB (P:=l.prog) (w:=w) (base:=base) (mg:=mg) D18.F T N D4 G_addF;have G_degree:=QG (P:=l.prog) (w:=w) (base:=base) (mg:=mg) D13.F T;have G_sumOf:=UI (P:=l.prog) (w:=w) (base:=base) (mg:=mg) D17.F T N D15 G_unpk D13 G_degree;have G_plusS:=UM (P:=l.prog) (w:=w) (base:=base) (mg:=mg) D22.F D16 G_tabOf D18 G_tabAdd D17 G_sumOf;have G_scaled:=QC (P:=l.prog) (w:=w) (base:=base) (mg:=mg) D24.F D16 G_tabOf D6 G_mul D17 G_sumOf;have G_slope:=UJ (P:=l.prog) (w:=w) (base:=base) (mg:=mg) D25.F D14 G_packed D6 G_mul D17 G_sumOf
 have G_lev:=ok_lev (P:=l.prog) (w:=w) (base:=base) (mg:=mg) D19.F T D7 G_divN;have G_heap:=YI (P:=l.prog) (w:=w) (base:=base) (mg:=mg) D20.F N D4 G_addF D7 G_divN;have G_tabMul:=QA (P:=l.prog) (w:=w) (base:=base) (mg:=mg) D21.F D19 G_lev D20 G_heap;have G_times:=UG (P:=l.prog) (w:=w) (base:=base) (mg:=mg) D23.F T D13 G_degree D16 G_tabOf D21 G_tabMul D17 G_sumOf;have G_lessQ:=UO (P:=l.prog) (w:=w) (base:=base) (mg:=mg) D5.F D4 G_addF;have G_besQ:=YL (P:=l.prog) (w:=w) (base:=base) (mg:=mg) D8.F;have G_parted:=QE (P:=l.prog) (w:=w) (base:=base) (mg:=mg) D29.F;have G_tabPut:=EM (P:=l.prog) (w:=w) (base:=base) (mg:=mg) D30 T D29 G_parted D21 G_tabMul D18 G_tabAdd;have G_putIn:=UL (P:=l.prog) (w:=w) (base:=base) (mg:=mg) D31.F T D13 G_degree D16 G_tabOf D30 G_tabPut D17 G_sumOf;have G_chain:=US (P:=l.prog) (w:=w) (base:=base) (mg:=mg) D26.F T;have G_great:=UR (P:=l.prog) (w:=w) (base:=base) (mg:=mg) D27.F T;have G_worthQ:=PZ (P:=l.prog) (w:=w) (base:=base) (mg:=mg) D28.F T N D27 G_great D26 G_chain D4 G_addF D6 G_mul;have G_tape:=YF (P:=l.prog) (w:=w) (base:=base) (mg:=mg) D40.F;have G_pick:=YH (P:=l.prog) (w:=w) (base:=base) (mg:=mg) D41.F;have G_least:=UP (P:=l.prog) (w:=w) (base:=base) (mg:=mg) D42.F T;have G_frac:=YJ (P:=l.prog) (w:=w) (base:=base) (mg:=mg) D43.F D41 G_pick D42 G_least;have G_str:=ok_str (P:=l.prog) (w:=w) (base:=base) (mg:=mg) D44.F T D43 G_frac;have G_frR:=ok_frR (P:=l.prog) (w:=w) (base:=base) (mg:=mg) D45.F T D4 G_addF D5 G_lessQ D6 G_mul D8 G_besQ D7 G_divN D3 G_isf
 have G_smR:=ok_smR (P:=l.prog) (w:=w) (base:=base) (mg:=mg) D46.F T D22 G_plusS D23 G_times D24 G_scaled D25 G_slope D31 G_putIn D28 G_worthQ D13 G_degree D39 G_read D34 G_shown D12 G_sum;exact ok_law F47 T D40 G_tape D41 G_pick D43 G_frac D44 G_str D45 G_frR D46 G_smR
theorem walk{l:PySem.W.OpenLaw}{q:Program}{loose:List Str}{XP:(Str->Option Value)->Heap->Prop}{YP:World->Heap->Prop}{d:DefRec}{K:Params->tF}(hn:l.most=some 63)(hdf:d.params.defaults=[])
  (hY:∀(w:World) (h:Heap),YP w h->(K w.params).In h)
  (F:∀(w:World) (mg:Str->Option Value) (fa:Addr) (h:Heap),(K w.params).In h->h.Ns mainGlobals mg->mg d.name=some (.ref fa)->
   ∃fd:FuncData,(∀(s:Shared) (u:Value),BindsTo s fd ⟨[u],[]⟩ [("script",u)])/\∀base:Heap,(K w.params).In base->base.Ns mainGlobals mg->FnOk l.prog w (K w.params) mg base CX0 13 fa fd ["script"] (MW (K w.params))) :
  PySem.W.WalkO q loose XP YP l.row.toRowW d [] (λf vs=>PySem.call f vs):=
 L2.WU (n:=63) (k:=13) (x:="script") (CX:=λ_=>CX0) (sp:=λw=>MW (K w.params)) hn (by decide) hdf ⟨rfl,by decide,by decide⟩ hY F (λ_ _ a ns hl _ hS=>⟨a,ns,rfl,hS,hl,λ_=>rfl⟩) λ_ _ _ _ _ z=>z
end Lw
open PySem PySem.W PyProof.Rows
set_option maxRecDepth 100000 in
theorem PySem.Challenge.cw_lowwater_k10_handed_by_names_holds : PySem.Challenge.rw_lowwater_k10_handed_by_names.Holds := by
 refine Lw.head λK YP d A hY hd hn=>Lw.walk (l:=PySem.Challenge.rw_lowwater_k10_handed_by_names) rfl hd hY λw mg fa h KX G hmg=>?_;rw[hn]at hmg;exact Lw.all_mk KX G hmg (A w.params)
end
